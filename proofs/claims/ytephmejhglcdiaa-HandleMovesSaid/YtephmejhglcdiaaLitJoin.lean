/- 'append([]T{}, w...)' in any order of a region, wherever the empty literal was made: a row of numbers in a block of its own. No program is named here. -/
import Derived.Test.YtephmejhglcdiaaSteps
namespace Go.Proofs.Ytephmejhglcdiaa
open Go.RowKit
set_option linter.unusedVariables false

theorem run_append_lit {P : Program} (w : World) {T ty E : TypeId} {k : IntKind} {bytes : Nat} (hE : Elem P T E (.int k 0) 1 bytes) (g : Nat) (hlit : w.heap[g]? = some (.cells #[] E (0, 0))) (a : Option Addr) (zs : List Int) (c : Nat) (hl : Lst k w a zs) (hnil : a = none → zs.length = 0 ∧ c = 0) (h63 : zs.length ≤ maxLen) (hby : zs.length * bytes ≤ 140737488355328) :
    ∃ A cap w', (Builtin.append_ #[T, T] ty #[.slice (some ⟨g, 0, none⟩) 0 0, .slice a zs.length c]).run P w = .ok (.slice A zs.length cap) w' ∧ w'.ownsRow g E 1 (.slice A zs.length cap) zs.length (zs.map (Value.int k)) ∧ New k w' w.heap.size A zs ∧ (∀ p, A = some p → (p.block = g ∨ w.heap.size ≤ p.block) ∧ p.block < w'.heap.size) ∧ Below w.heap.size w w' := by
  obtain ⟨i0, hi0, hz0, hz1, hz2⟩ := hE.info
  have hglt : g < w.heap.size := (Array.getElem?_eq_some_iff.1 hlit).1
  have hown : w.ownsRow g E 1 (.slice (some ⟨g, 0, none⟩) 0 0) 0 [] := ⟨by simp, .inr ⟨g, 0, #[], rfl, Nat.le_refl _, hlit, Nat.le_refl _, Nat.zero_le _, rfl, by simp⟩⟩
  cases a with
  | none =>
    obtain ⟨h0, rfl⟩ := hnil rfl
    have hzs : zs = [] := List.eq_nil_of_length_eq_zero h0
    subst hzs
    exact ⟨some ⟨g, 0, none⟩, 0, w, run_append_owned_none (P := P) (w := w) g T ty E i0 1 hE.und hi0 _ 0 [] hown, hown, Or.inl rfl, fun p hp => by cases hp; exact ⟨Or.inl rfl, hglt⟩, Below.refl _ _⟩
  | some ad =>
    by_cases h0 : zs = []
    · subst h0
      have hr := run_append_room (P := P) w T ty E i0 hE.und hi0 g 0 0 #[] hlit ad 0 c [] (by simp) (by simp) (by simp) (Nat.le_refl _) (by simp)
      refine ⟨some ⟨g, 0, none⟩, 0, _, hr, ⟨by simp, .inr ⟨g, 0, _, rfl, Nat.le_refl _, setRow_heap w g #[] _ E _ hlit, Nat.le_refl _, Nat.zero_le _, by simp, by simp⟩⟩, Or.inl rfl, fun p hp => by cases hp; exact ⟨Or.inl rfl, by simpa using hglt⟩, ⟨rfl, rfl, rfl, by simp, fun b hb => ?_⟩⟩
      by_cases e : b = g
      · subst e
        rw [setRow_heap w b #[] _ E _ hlit, hlit]
        simp
      · exact setRow_other w g b _ e
    · have hpos : 0 < zs.length := by cases zs <;> simp_all
      have hcells := Cells.of_lst hl
      have hnews : ∀ j u, (zs.map (Value.int k))[j]? = some u → w.cell? (ad.add j) = some u := by
        intro j u hu
        have hj : j < (zs.map (Value.int k)).length := (List.getElem?_eq_some_iff.1 hu).1
        rcases hcells with h1 | ⟨b, off, e, hb, hc⟩
        · rw [h1] at hj; simp at hj
        · injection e with e
          subst e
          rw [add_at, hc j hj, hu]
      have hlen : (zs.map (Value.int k)).length = zs.length * i0.size := by rw [List.length_map, hz1, Nat.mul_one]
      have hge := grownCap_ge w (0 + zs.length) 0 E
      have hcm : grownCap w (0 + zs.length) 0 E ≤ maxLen := grownCap_le_maxLen w (0 + zs.length) 0 E (by omega)
      have hr := run_append_grow (P := P) w T ty E i0 _ hE.und hi0 hz0 ⟨g, 0, none⟩ 0 0 [] (by simp) (by simp) ad zs.length c (zs.map (Value.int k)) hlen hnews (by omega) (by unfold maxLen at h63; omega) (growslice_fits (by omega) (by rw [hz2, Nat.zero_add]; exact hby))
      have hown' : (w.drew.alloc (.cells (([] : List Value).toArray ++ (zs.map (Value.int k)).toArray ++ Builtin.zeroCells (Value.int k 0).cells (grownCap w (0 + zs.length) 0 E - (0 + zs.length))) E)).ownsRow w.heap.size E 1 (.slice (some ⟨w.heap.size, 0, none⟩) (0 + zs.length) (grownCap w (0 + zs.length) 0 E)) (0 + zs.length) (zs.map (Value.int k)) := by
        refine ⟨by simp, .inr ⟨w.heap.size, _, _, rfl, Nat.le_refl _, heap_alloc_new w.drew _, hge, hcm, ?_, ?_⟩⟩
        · have hz : (Value.int k 0).cells.size = 1 := rfl
          simp only [Array.size_append, List.size_toArray, size_zeroCells, hz, List.length_map, List.length_nil]
          omega
        · simp
      simp only [Nat.zero_add] at hr hown' hge
      refine ⟨_, _, _, hr, own_lower hown' (Nat.le_of_lt hglt), New.of_own hown', fun p hp => by cases hp; exact ⟨Or.inr (Nat.le_refl _), by simp⟩, ⟨rfl, rfl, rfl, by simp, fun b hb => heap_alloc_old w.drew _ hb⟩⟩
/-- The same as one step of a region. -/
theorem step_copy_lit {P : Program} {T E : TypeId} {k : IntKind} {bytes : Nat} (hE : Elem P T E (.int k 0) 1 bytes) {w : World} {ops : Array Oper} {o : Oper} {act : Act} {K : Act → World → Prop} {Q : Exit → Act → World → Prop} {F : Prop} (hgd : o.guard = none) (s x : Operand)
    (ho : o.op = .call { callee := .builtin .append, args := #[s, x], argTypes := #[T, T] })
    (g : Nat) (hlit : w.heap[g]? = some (.cells #[] E (0, 0))) (hs : act.eval s = .slice (some ⟨g, 0, none⟩) 0 0) (a : Option Addr) (zs : List Int) (c : Nat) (hx : act.eval x = .slice a zs.length c) (hl : Lst k w a zs) (hnil : a = none → zs.length = 0 ∧ c = 0) (h63 : zs.length ≤ maxLen) (hby : zs.length * bytes ≤ 140737488355328)
    (h : ∀ A cap w', w'.ownsRow g E 1 (.slice A zs.length cap) zs.length (zs.map (Value.int k)) → New k w' w.heap.size A zs → (∀ p, A = some p → (p.block = g ∨ w.heap.size ≤ p.block) ∧ p.block < w'.heap.size) → Below w.heap.size w w' → K (act.put o.dst (.slice A zs.length cap)) w') : if Region.wanted o (yielded ops act.tmps) = true then Oper.wp P o act w K Q else F := by
  have hw : Region.wanted o (yielded ops act.tmps) = true := by simp [Region.wanted, hgd]
  rw [if_pos hw]
  obtain ⟨A, cap, w', hr, h1, h2, h3, h4⟩ := run_append_lit (P := P) w (ty := o.type) hE g hlit a zs c hl hnil h63 hby
  have hK := h A cap w' h1 h2 h3 h4
  unfold Oper.wp
  simp [execOp, ho, resolve, invoke, builtin, hs, hx, hr, Result.andThen]
  exact hK
/-- 'append(v, x)' of one element of one cell onto a row that is owned: where the row lies then. -/
theorem run_append_where {P : Program} (w : World) {T ty E : TypeId} {z : Value} {bytes : Nat} (hE : Elem P T E z 1 bytes) (base n : Nat) (v : Value) (xs : List Value) (hown : w.ownsRow base E 1 v n xs) (u : Value) (ad : Addr) (c : Nat) (hu : w.cell? ad = some u) (h1 : u.oneCell' = true) (hbase : base ≤ w.heap.size) (h63 : n + 1 ≤ maxLen) (hby : (n + 1) * bytes ≤ 140737488355328) :
    ∃ v' w', (Builtin.append_ #[T, T] ty #[v, .slice (some ad) 1 c]).run P w = .ok v' w' ∧ w'.ownsRow base E 1 v' (n + 1) (xs ++ [u]) ∧ w.grownBy w' v.ownBlock ∧ ∀ k, v'.ownBlock = some k → v.ownBlock = some k ∨ k = w.heap.size := by
  obtain ⟨i0, hi0, hz0, hz1, hz2⟩ := hE.info
  have hnews : ∀ j y, [u][j]? = some y → w.cell? (ad.add j) = some y := by
    intro j y hj
    match j, hj with
    | 0, hj => simp at hj; subst hj; rw [show ad.add 0 = ad from by obtain ⟨b, o, e⟩ := ad; unfold Addr.add; split <;> simp_all]; exact hu
  have hones : ∀ y ∈ [u], y.oneCell' = true := fun y hy => by simp at hy; subst hy; exact h1
  obtain ⟨v', w', hr, h2, h3, _⟩ := run_append_own (P := P) w base T ty E i0 z 1 bytes hE.und hi0 hz0 hz1 hz2 hE.zero hE.pos v n xs hown ad 1 c [u] rfl hnews hones h63 hby hbase
  refine ⟨v', w', hr, h2, h3, fun k hk => ?_⟩
  rcases hown.2 with ⟨rfl, rfl⟩ | ⟨g, cap, cur, rfl, hbg, hg, hnc, hcm, hcs, htake⟩
  · have hr2 := run_append_nil (P := P) w T ty E i0 z hE.und hi0 hz0 ad 1 c [u] (by rw [hz1]; rfl) hnews (by omega) (by omega) (by rw [hz2]; simpa using (by omega : 1 * bytes ≤ 281474976710656))
    rw [hr] at hr2
    injection hr2 with e1 e2
    rw [e1] at hk
    simp [Value.ownBlock] at hk
    exact Or.inr hk.symm
  · by_cases hroom : n + 1 ≤ cap
    · have hfit : n * i0.size + [u].length ≤ cur.size := by rw [hcs, hz1]; simp; omega
      have hr2 := run_append_room (P := P) w T ty E i0 hE.und hi0 g n cap cur hg ad 1 c [u] (by rw [hz1]; rfl) hnews hones hroom hfit
      rw [hr] at hr2
      injection hr2 with e1 e2
      rw [e1] at hk
      exact Or.inl hk
    · have holds : ∀ j u, xs[j]? = some u → w.cell? ((⟨g, 0, none⟩ : Addr).add j) = some u := hown.cells (g := g) rfl
      have hr2 := run_append_grow (P := P) w T ty E i0 z hE.und hi0 hz0 ⟨g, 0, none⟩ n cap xs (by rw [hz1]; exact hown.1) holds ad 1 c [u] (by rw [hz1]; rfl) hnews (by omega) (by unfold maxLen at h63; omega) (growslice_fits (by omega) (by rw [hz2]; exact hby))
      rw [hr] at hr2
      injection hr2 with e1 e2
      rw [e1] at hk
      simp [Value.ownBlock] at hk
      exact Or.inr hk.symm
theorem wpList_more_where {P : Program} {T E : TypeId} {z : Value} {bytes : Nat} (hE : Elem P T E z 1 bytes) {w : World} {ops : Array Oper} {rest : List Oper} {o : Oper} {act : Act} {Q : Exit → Act → World → Prop} (hgd : o.guard = none) (s x : Operand)
    (ho : o.op = .call { callee := .builtin .append, args := #[s, x], argTypes := #[T, T] })
    (base n : Nat) (v : Value) (xs : List Value) (hs : act.eval s = v) (hown : w.ownsRow base E 1 v n xs) (u : Value) (ad : Addr) (c : Nat) (hx : act.eval x = .slice (some ad) 1 c) (hu : w.cell? ad = some u) (h1 : u.oneCell' = true) (hbase : base ≤ w.heap.size) (h63 : n + 1 ≤ maxLen) (hby : (n + 1) * bytes ≤ 140737488355328)
    (h : ∀ v' w', w'.ownsRow base E 1 v' (n + 1) (xs ++ [u]) → w.grownBy w' v.ownBlock → (∀ k, v'.ownBlock = some k → v.ownBlock = some k ∨ k = w.heap.size) → wpList P ops Q rest (act.put o.dst v') w') : wpList P ops Q (o :: rest) act w := by
  refine wpList_plain hgd fun _ hK => ?_
  obtain ⟨v', w', hr, h2, h3, h4⟩ := run_append_where (P := P) w (ty := o.type) hE base n v xs hown u ad c hu h1 hbase h63 hby
  have := h v' w' h2 h3 h4
  unfold Oper.wp execOp
  simp only [ho, resolve, invoke, builtin, Sem.run_bind, Sem.run_pure, Result.andThen_ok, List.map_toArray, List.map_cons, List.map_nil, hs, hx, hr]
  exact hK _ _ this
end Go.Proofs.Ytephmejhglcdiaa
