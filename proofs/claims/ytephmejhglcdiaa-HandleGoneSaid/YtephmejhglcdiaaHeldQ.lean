/- A region walked in whatever order in which what is read may be written over by an operation that waits for all who read it: as the library's law of held regions, but what is held is asked only as long as that operation has not come up. No program is named here. -/
import Derived.Deep.RegionHeld
namespace Go

section
variable {P : Program} {ops : Array Oper} {Q : Exit → Act → World → Prop} {md : Region.Mode} {S : World → Prop}

/-- Whatever order is picked from here on; S holds behind every operation that is carried out, as long as number q has not come up. -/
def wpAnyUntil (P : Program) (md : Region.Mode) (ops : Array Oper) (Q : Exit → Act → World → Prop) (S : World → Prop) (q : Nat) : Nat → Array Bool → Act → World → Prop
  | 0, listed, a, w => Region.ready md ops listed = [] ∧ Q .normal a w
  | fuel + 1, listed, a, w =>
    (Region.ready md ops listed = [] → Q .normal a w) ∧
    ∀ i ∈ Region.ready md ops listed, wpOp P ops Q i (fun a' w' => ((listed.setIfInBounds i true).getD q true = true ∨ S w') ∧ wpAnyUntil P md ops Q S q fuel (listed.setIfInBounds i true) a' w') a w
theorem wpAny_of_until {q : Nat} : ∀ (fuel : Nat) (listed : Array Bool) (a : Act) (w : World), wpAnyUntil P md ops Q S q fuel listed a w → wpAny P md ops Q fuel listed a w
  | 0, _, _, _, h => h
  | fuel + 1, _, _, _, h => ⟨h.1, fun i hi => wpOp_mono (fun a' w' h' => wpAny_of_until fuel _ a' w' h'.2) (h.2 i hi)⟩
/-- An operation taken first: T holds in every state at which it may still come up (G says which those are). -/
theorem wpAnyUntil_first {q i : Nat} {oi : Oper} {v : Value} {T : World → Prop} {G : Array Bool → Prop} (hi : ops[i]? = some oi) (hsel : ∀ (j : Nat) (o : Oper) cs b, ops[j]? = some o → o.op ≠ .select cs b)
    (hQ : ∀ c a w, Q (.panic c) (a.put oi.dst v) w → Q (.panic c) a w)
    (hG : ∀ listed j, G listed → i ∈ Region.ready md ops listed → j ∈ Region.ready md ops listed → j ≠ i → G (listed.setIfInBounds j true))
    (hiq : i ≠ q) (hT : ∀ listed w, G listed → (listed.getD q true = true ∨ S w) → T w) :
    ∀ (fuel : Nat) (listed : Array Bool) (a : Act) (w : World), G listed →
      (∀ j oj, ops[j]? = some oj → j ≠ i → listed.getD j true = false → (∀ e ∈ oj.after, Region.binds md e = true → e.on ≠ i) → oi.apart ops oj = true) →
      i ∈ Region.ready md ops listed → YieldsIf P ops T oi v a → (listed.getD q true = true ∨ S w) →
      wpAnyUntil P md ops Q S q fuel (listed.setIfInBounds i true) (a.put oi.dst v) w → wpAnyUntil P md ops Q S q (fuel + 1) listed a w := by
  intro fuel
  induction fuel with
  | zero =>
    intro listed a w g _ hr hy hS H
    refine ⟨fun h => (by rw [h] at hr; cases hr), fun j hj => ?_⟩
    by_cases hji : j = i
    · subst hji; exact hy.wpOp hi (hT _ _ g hS) ⟨by rw [getD_set_ne true (Ne.symm hiq).symm]; exact hS, H⟩
    · have := ready_mono hj hji
      rw [H.1] at this
      cases this
  | succ fuel ih =>
    intro listed a w g hfree hr hy hS H
    refine ⟨fun h => (by rw [h] at hr; cases hr), fun j hj => ?_⟩
    by_cases hji : j = i
    · subst hji; exact hy.wpOp hi (hT _ _ g hS) ⟨by rw [getD_set_ne true (Ne.symm hiq).symm]; exact hS, H⟩
    · have h1 := H.2 j (ready_mono hj hji)
      obtain ⟨hjun, oj, hoj, hall⟩ := mem_ready.1 hj
      have hnot : ∀ e ∈ oj.after, Region.binds md e = true → e.on ≠ i := fun e he hb heq => by
        have h1 := hall e he hb
        have h0 := (mem_ready.1 hr).1
        rw [heq] at h1
        rcases Nat.lt_or_ge i listed.size with h' | h'
        · simp [h'] at h0 h1; rw [h0] at h1; cases h1
        · simp [Array.getElem?_eq_none h'] at h1
      have g2 := hG listed j g hr hj hji
      have h2 := wpOp_putIf hoj (hfree j oj hoj hji hjun hnot) (fun cs b => hsel i oi cs b hi) (fun cs b => hsel j oj cs b hoj) hQ hy h1
      have hfree' : ∀ k ok, ops[k]? = some ok → k ≠ i → (listed.setIfInBounds j true).getD k true = false →
          (∀ e ∈ ok.after, Region.binds md e = true → e.on ≠ i) → oi.apart ops ok = true := fun k ok hk hki hun hno => by
        refine hfree k ok hk hki ?_ hno
        by_cases hjk : j = k
        · subst hjk; exact hjun
        · rw [getD_set_ne true hjk] at hun; exact hun
      refine wpOp_mono (fun a' w' h3 => ?_) h2
      have h30 : (listed.setIfInBounds j true).getD q true = true ∨ S w' := by
        have := h3.2.1
        rwa [Array.setIfInBounds_comm _ _ (Ne.symm hji), getD_set_ne true hiq] at this
      refine ⟨h30, ih (listed.setIfInBounds j true) a' w' g2 hfree' (ready_mono hr (Ne.symm hji)) h3.1 h30 ?_⟩
      rw [Array.setIfInBounds_comm _ _ hji]
      exact h3.2.2
/-- Does operation q wait for i? -/
def waitsForB (md : Region.Mode) (ops : Array Oper) (q i : Nat) : Bool := match ops[q]? with
  | some oq => oq.after.any fun e => Region.binds md e && (e.on == i)
  | none => false
/-- Take number i first, ahead of q, which waits for it: what is read holds then. -/
theorem wpAnyUntil_take {q i : Nat} {oi : Oper} {v : Value} {fuel : Nat} {listed : Array Bool} {a : Act} {w : World} (hi : ops[i]? = some oi)
    (hs : Region.noSelect ops = true) (hf : Region.free md ops listed i = true) (hr : (Region.ready md ops listed).contains i = true) (hw : waitsForB md ops q i = true) (hq : listed.getD q true = false)
    (hQ : ∀ c a w, Q (.panic c) (a.put oi.dst v) w → Q (.panic c) a w) (hy : YieldsIf P ops S oi v a) (hS : S w)
    (h : wpAnyUntil P md ops Q S q fuel (listed.setIfInBounds i true) (a.put oi.dst v) w) : wpAnyUntil P md ops Q S q (fuel + 1) listed a w := by
  unfold waitsForB at hw
  split at hw
  · rename_i oq hoq
    obtain ⟨e, he, heb⟩ := Array.any_eq_true'.1 hw
    simp only [Bool.and_eq_true, beq_iff_eq] at heb
    have notq : ∀ listed, i ∈ Region.ready md ops listed → ¬ q ∈ Region.ready md ops listed := fun listed h1 h2 => by
      obtain ⟨_, o2, ho2, hall⟩ := mem_ready.1 h2
      rw [hoq] at ho2
      injection ho2 with ho2
      subst ho2
      have h3 := hall e he heb.1
      have h0 := (mem_ready.1 h1).1
      rw [heb.2] at h3
      rcases Nat.lt_or_ge i listed.size with h' | h'
      · simp [h'] at h0 h3; rw [h0] at h3; cases h3
      · simp [Array.getElem?_eq_none h'] at h3
    have hir : i ∈ Region.ready md ops listed := by simpa using hr
    have hiq : i ≠ q := fun e => notq listed hir (e ▸ hir)
    refine wpAnyUntil_first (T := S) (G := fun l => l.getD q true = false) hi (Region.noSelect_spec hs) hQ (fun l j g h1 h2 h3 => ?_) hiq (fun l w g h => ?_) fuel listed a w hq (Region.free_spec hi hf) hir hy (Or.inr hS) h
    · rw [getD_set_ne true (fun e => notq l h1 (by rw [← e]; exact h2))]; exact g
    · rcases h with h | h
      · rw [g] at h; cases h
      · exact h
  · cases hw
/-- Take number i first, which reads nothing. -/
theorem wpAnyUntil_bare {q i : Nat} {oi : Oper} {v : Value} {fuel : Nat} {listed : Array Bool} {a : Act} {w : World} (hi : ops[i]? = some oi)
    (hs : Region.noSelect ops = true) (hf : Region.free md ops listed i = true) (hr : (Region.ready md ops listed).contains i = true) (hiq : i ≠ q)
    (hQ : ∀ c a w, Q (.panic c) (a.put oi.dst v) w → Q (.panic c) a w) (hy : YieldsIf P ops (fun _ => True) oi v a) (hS : listed.getD q true = true ∨ S w)
    (h : wpAnyUntil P md ops Q S q fuel (listed.setIfInBounds i true) (a.put oi.dst v) w) : wpAnyUntil P md ops Q S q (fuel + 1) listed a w :=
  wpAnyUntil_first (T := fun _ => True) (G := fun _ => True) hi (Region.noSelect_spec hs) hQ (fun _ _ _ _ _ _ => trivial) hiq (fun _ _ _ _ => trivial) fuel listed a w trivial (Region.free_spec hi hf) (by simpa using hr) hy hS h
/-- Each of the operations rs comes up next. -/
def AllReadyUntil (P : Program) (md : Region.Mode) (ops : Array Oper) (Q : Exit → Act → World → Prop) (S : World → Prop) (q fuel : Nat) (listed : Array Bool) (a : Act) (w : World) (rs : List Nat) : Prop :=
  ∀ i ∈ rs, wpOp P ops Q i (fun a' w' => ((listed.setIfInBounds i true).getD q true = true ∨ S w') ∧ wpAnyUntil P md ops Q S q fuel (listed.setIfInBounds i true) a' w') a w
theorem AllReadyUntil.nil {q fuel : Nat} {listed : Array Bool} {a : Act} {w : World} : AllReadyUntil P md ops Q S q fuel listed a w [] := fun _ h => by cases h
theorem AllReadyUntil.cons {q fuel : Nat} {listed : Array Bool} {a : Act} {w : World} {i : Nat} {o : Oper} {rs : List Nat} (ho : ops[i]? = some o)
    (h : ∀ K' : Act → World → Prop, Shut (∀ a w, ((listed.setIfInBounds i true).getD q true = true ∨ S w) → wpAnyUntil P md ops Q S q fuel (listed.setIfInBounds i true) a w → K' a w) → if Region.wanted o (yielded ops a.tmps) = true then Oper.wp P o a w K' Q else K' (a.put o.dst undef) w)
    (hs : AllReadyUntil P md ops Q S q fuel listed a w rs) : AllReadyUntil P md ops Q S q fuel listed a w (i :: rs) := fun j hj => by
  rcases List.mem_cons.1 hj with rfl | hj
  · exact wpOp_step ho (fun K' hK => h K' (fun a w hS hW => hK a w ⟨hS, hW⟩))
  · exact hs j hj
theorem wpAnyUntil_ready {q : Nat} {rs : List Nat} {fuel : Nat} {listed : Array Bool} {a : Act} {w : World} (hr : Region.ready md ops listed = rs) (hne : rs ≠ [])
    (h : AllReadyUntil P md ops Q S q fuel listed a w rs) : wpAnyUntil P md ops Q S q (fuel + 1) listed a w := ⟨fun h0 => absurd (hr ▸ h0) hne, hr ▸ h⟩
theorem wpAnyUntil_done {q : Nat} {listed : Array Bool} {a : Act} {w : World} (hr : Region.ready md ops listed = []) (h : Q .normal a w) :
    ∀ fuel, wpAnyUntil P md ops Q S q fuel listed a w
  | 0 => ⟨hr, h⟩
  | _ + 1 => ⟨fun _ => h, by rw [hr]; simp⟩
theorem wp_region_heldUntil {id : Nat} {a : Act} {w : World} (q : Nat) (S : World → Prop) (hm : P.follows .mixedOrders = true) (hS : S w.drew)
    (h : S w.drew → wpAnyUntil P .any ops Q S q ops.size (Array.replicate ops.size false) a w.drew) : (Code.region id ops true).wp P Q a w :=
  wp_region_any hm (wpAny_of_until _ _ _ _ (h hS))
end
end Go
