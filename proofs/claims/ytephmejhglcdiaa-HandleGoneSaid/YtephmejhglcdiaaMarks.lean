/- A function that goes through ranges over functions in a loop of its own: the marks that each leaves among its deferred calls, and how it returns. No program is named here. -/
import Derived.RangeFuncNested
import Derived.RangeFuncBound
import Derived.RangeFuncCalls
import Derived.RangeFuncLeaves
import Derived.RangeFuncBox
import Derived.Shelf.Abstract
import Derived.Shelf.RegionOpen
import Derived.WalkKit
import Derived.WalkMore
import Derived.OwnWalkIn
import Derived.TacticsInMore
import Derived.LoopNIn
import Derived.LoopIn
namespace Go.Proofs.Ytephmejhglcdiaa
open Go.RowKit Go.Shelf

theorem calls_marks {P : Program} {f : FuncId} {fn : Func} {c : Code} {args : Array Value} {w : World} {R : Ending → World → Prop} (hf : P.funcs[f]? = some fn) (hb : fn.body = some c)
    (h : c.wp P (bodyPostM Fence.wide 9 P fn R) { tmps := args ++ Array.replicate (fn.ntmps - args.size) undef, defers := [] } w) : Calls P f args w R :=
  (callsIn_wide (n := 9)).1 (callsIn_of_wp_marks hf hb trivial (wpIn_wide.2 h) rfl)

theorem wp_range {P : Program} {α : Type} {g : Operand} {ps : Array Tmp} {assign body : Code} {Q : Exit → Act → World → Prop} {a : Act} {w : World}
    {gf : Nat} {lb : Array Value} (hg : a.eval g = .func (.func gf) #[] lb) (eg : ∀ args w, (callFunc gf args).run P w = .ok (.enter gf args) w)
    {encs : α → Array Value} {n₀ : Nat} {S Sp : List α → Prop} {N : Nat} (hseq : SeqStopsK Fence.wide 8 P gf lb encs (Below n₀) S Sp N w) (hn₀ : n₀ ≤ w.heap.size) (hps : ∀ x, (encs x).size = ps.size)
    (I : List α → World → Prop) (Ix : Code → List α → World → Prop) (hI : OwnFrom w.heap.size I) (hIx : ∀ c, OwnFrom w.heap.size (Ix c)) (h0 : I [] w) (a₁ : α → Act)
    (hassign : ∀ (l : Nat) (x : α) (W : World) (K : Act → World → Prop), K (a₁ x) W →
      assign.wpIn (Fence.wide.inRound l) 7 P (Exit.then K (fun _ _ _ => False)) { tmps := (ps.zip (encs x)).foldl (fun t (p, v) => t.setIfInBounds p v) a.tmps, defers := [] } W)
    (hbody : ∀ (l : Nat) (pre : List α) (x : α) (W : World), I pre W → pre.length < N → body.wpIn (Fence.wide.inRound l) 7 P (ownPostK (Below n₀) I Ix (pre ++ [x]) W) (a₁ x) W)
    (hdone : ∀ (D : Nat) (xs : List α) (W : World), w.heap.size ≤ D → S xs → I xs W → W.heap[D]? = some (.deferred (some [])) → Q .normal { a with defers := { target := .collected D, args := #[] } :: a.defers } W)
    (hstop : ∀ (D : Nat) (c : Code) (pre : List α) (W : World), w.heap.size ≤ D → Sp pre → Ix c pre W → W.heap[D]? = some (.deferred (some [])) → c.wp P Q { a with defers := { target := .collected D, args := #[] } :: a.defers } W) :
    (Code.rangeFunc g ps assign body).wp P Q a w :=
  wpIn_wide.1 (wpIn_rangeFunc_ownF (F := Fence.wide) (n := 9) rfl (by decide) hg trivial eg hseq belowK_t (belowK_b hn₀) (Below.refl _ _) hps I Ix hI hIx h0 a₁ hassign hbody hdone (fun D c pre W h1 h2 h3 h4 => wpIn_wide.2 (hstop D c pre W h1 h2 h3 h4)))

/-- The marks: blocks from 'lo' on, below 'hi', each its own, ready to be taken. -/
def Marked (lo hi : Nat) (ds : List Deferred) (w : World) : Prop :=
  ∃ Ds : List Nat, ds = Ds.map (fun D => ({ target := .collected D, args := #[] } : Deferred)) ∧ Ds.Nodup ∧ ∀ D ∈ Ds, (lo ≤ D ∧ D < hi) ∧ w.heap[D]? = some (.deferred (some []))
theorem Marked.nil (lo hi : Nat) (w : World) : Marked lo hi [] w := ⟨[], rfl, List.nodup_nil, fun D h => by cases h⟩
theorem Marked.keep {lo hi hi' : Nat} {ds : List Deferred} {w w' : World} (h : Marked lo hi ds w) (hh : hi ≤ hi') (hk : ∀ (D : Nat), D < hi → w.heap[D]? = some (.deferred (some [])) → w'.heap[D]? = some (.deferred (some []))) : Marked lo hi' ds w' := by
  obtain ⟨Ds, h1, h2, h3⟩ := h
  exact ⟨Ds, h1, h2, fun D hD => ⟨⟨(h3 D hD).1.1, Nat.lt_of_lt_of_le (h3 D hD).1.2 hh⟩, hk D (h3 D hD).1.2 (h3 D hD).2⟩⟩
theorem Marked.below {lo hi : Nat} {ds : List Deferred} {w w' : World} (h : Marked lo hi ds w) (hb : Below w.heap.size w w') : Marked lo hi ds w' :=
  h.keep (Nat.le_refl _) fun D _ hD => (hb.block D (Array.getElem?_eq_some_iff.1 hD).1).trans hD
theorem Marked.setCell {lo hi : Nat} {ds : List Deferred} {w : World} (h : Marked lo hi ds w) {b : Nat} {t : TypeId} {u : Value} (hb : Boxed w b t u) (v : Value) : Marked lo hi ds (w.setCell ⟨b, 0, none⟩ v) :=
  h.keep (Nat.le_refl _) fun D _ hD => (Below.heap_setCell _ _ _ D (fun e => by cases e; rw [show w.heap[b]? = _ from hb] at hD; cases hD)).trans hD
theorem Marked.alloc {lo hi : Nat} {ds : List Deferred} {w : World} (h : Marked lo hi ds w) (o : Obj) : Marked lo hi ds (w.alloc o) :=
  h.keep (Nat.le_refl _) fun D _ hD => (Below.heap_alloc w o D (Array.getElem?_eq_some_iff.1 hD).1).trans hD
/-- One more, laid since. -/
theorem Marked.cons {lo hi hi' : Nat} {ds : List Deferred} {W : World} {D : Nat} (h : Marked lo hi ds W) (hD : hi ≤ D) (hhi : D < hi') (hlo : lo ≤ D) (hW : W.heap[D]? = some (.deferred (some []))) : Marked lo hi' ({ target := .collected D, args := #[] } :: ds) W := by
  obtain ⟨Ds, h1, h2, h3⟩ := h
  refine ⟨D :: Ds, by rw [h1]; rfl, List.nodup_cons.2 ⟨fun hm => ?_, h2⟩, fun E hE => ?_⟩
  · have := (h3 D hm).1.2
    omega
  · rcases List.mem_cons.1 hE with rfl | hE
    · exact ⟨⟨hlo, hhi⟩, hW⟩
    · exact ⟨⟨(h3 E hE).1.1, by have := (h3 E hE).1.2; omega⟩, (h3 E hE).2⟩
theorem marked_own {β : Type} {lo hi : Nat} {ds : List Deferred} : OwnFrom hi (fun (_ : β) W => Marked lo hi ds W) := fun s A B row hs hg hr =>
  hs.keep (Nat.le_refl _) fun D hlt hD => (hg.block D (Array.getElem?_eq_some_iff.1 hD).1 (fun e => by have := (hr D e.symm).1; omega)).trans hD

/-- A function returns past its marks: what lay below 'lo' lies as it lay. -/
theorem leaves_marked {F : Fence} {n : Nat} {P : Program} {fn : Func} {tmps : Array Value} {R : Ending → World → Prop} {lo : Nat} :
    ∀ (hi : Nat) (ds : List Deferred) (w : World), Marked lo hi ds w → (∀ w', Below lo w w' → LeavesIn F n P fn tmps R [] .returning w') → LeavesInM F n P fn tmps R ds .returning w := by
  intro hi ds w hM hL
  obtain ⟨Ds, rfl, h2, h3⟩ := hM
  induction Ds generalizing w with
  | nil => exact hL w (Below.refl _ _)
  | cons D Ds ih =>
    obtain ⟨⟨hlo, _⟩, hD⟩ := h3 D (by simp)
    obtain ⟨hn, h2'⟩ := List.nodup_cons.1 h2
    have hlt := (Array.getElem?_eq_some_iff.1 hD).1
    have hbel : Below lo w (w.putObj D (.deferred none)) := (Below.refl lo w).grown (grownBy_putObj' w D _) (by omega) (fun k e => by cases e; omega)
    refine ⟨by simp, .inl ⟨D, _, rfl, run_takeDeferred hD, ih (w.putObj D (.deferred none)) (fun w' hb => hL w' (hbel.trans hb)) h2' ?_⟩⟩
    · intro E hE
      refine ⟨(h3 E (by simp [hE])).1, ?_⟩
      have hne : E ≠ D := fun e => hn (e ▸ hE)
      exact (World.putObj_heap_other hne).trans (h3 E (by simp [hE])).2
end Go.Proofs.Ytephmejhglcdiaa
