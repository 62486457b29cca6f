/- A list of numbers from 0 on, of one kind, that came in, opened: where it begins, how it reads; its length against its capacity. No program is named here. -/
import Derived.Test.YthdondjhiflkaaaMem
import Derived.ProofKit
import Derived.OpenShut
import Derived.ChangeOld
import Derived.Below
namespace Go.Proofs.Ythdondjhiflkaaa
open Go.ChangeShapes Go.WideShapes Go.ChangeAt Go.RowKit

section
variable {H : Type} {enc : TypeId × Value → H} {P : Program} {w : World} {base : Nat} {spare : Nat → Bool} {held : Bool}

theorem open_nats {k : IntKind} {B : Nat} (hB : 0 < B) (hbd : ∀ n, (Lit.int k n).wf = true → 0 ≤ n ∧ n < B) {r : Reach} {b0 : Nat} {t e : TypeId} {v : Value} {d : DataW H} {p : List MemPlace} (ht : P.underlying t = some (.slice e)) (he : P.underlying e = some (.int k)) (hce : P.cellsOf e = 1)
    (hv : Value.okWide P w r b0 t v) (h : DataW.Trod enc P w base spare held t v d p) :
    ∃ (a : Option Addr) (cap : Nat) (ws : List Nat), v = .slice a ws.length cap ∧ Lst k w a (ints ws) ∧ (∀ i, ws.getD i 0 < B) ∧ (a = none → ws = [] ∧ cap = 0) ∧ ws.length ≤ cap ∧ cap ≤ maxLen := by
  obtain ⟨a, len, cap, rfl⟩ := okWide_slice ht hv
  obtain ⟨fuel, hf⟩ := h
  rcases open_ints ht he hce hf with ⟨hcs, _⟩ | ⟨x, l, c, zs, hcs, _, hl, hm, hz, _, hcell, hwz⟩
  · simp [Value.cells] at hcs
    obtain ⟨rfl, rfl, rfl⟩ := hcs
    exact ⟨none, 0, [], rfl, Or.inl rfl, fun i => (by simp; exact hB), fun _ => ⟨rfl, rfl⟩, Nat.le_refl _, Nat.zero_le _⟩
  · simp [Value.cells] at hcs
    obtain ⟨rfl, rfl, rfl⟩ := hcs
    have hzl : len ≤ zs.length := by rw [hz]; split <;> omega
    have hnn : ∀ i, 0 ≤ zs.getD i 0 ∧ zs.getD i 0 < B := by
      intro i
      rcases Nat.lt_or_ge i zs.length with h1 | h1
      · have hmem : zs.getD i 0 ∈ zs := by
          simp only [List.getD, List.getElem?_eq_getElem h1, Option.getD_some]; exact List.getElem_mem h1
        exact hbd _ (hwz _ hmem)
      · simp [List.getD, List.getElem?_eq_none h1]; exact hB
    have hg : ∀ i, i < len → (((zs.take len).map Int.toNat).getD i 0 : Int) = zs.getD i 0 := by
      intro i hi
      have h1 : i < zs.length := by omega
      have := (hnn i).1
      simp only [List.getD, List.getElem?_map, List.getElem?_take, if_pos hi, List.getElem?_eq_getElem h1, Option.map_some, Option.getD_some] at this ⊢
      omega
    refine ⟨some x, cap, (zs.take len).map Int.toNat, by simp; omega, ?_, ?_, by simp, by simp; omega, hm⟩
    · by_cases h0 : len = 0
      · left; subst h0; simp [ints]
      · right
        obtain ⟨b, off, rfl, hc⟩ := ints_at hcell (by omega)
        have hlt : b < w.heap.size := by
          have h1 := hc 0 (by omega)
          rcases Nat.lt_or_ge b w.heap.size with h2 | h2
          · exact h2
          · simp [World.cell?, Array.getElem?_eq_none h2] at h1
        refine ⟨b, off, rfl, hlt, fun i hi => ?_⟩
        have hi' : i < len := by simp [ints] at hi; omega
        rw [ints_getD, hg i hi']
        exact hc i (by omega)
    · intro i
      rcases Nat.lt_or_ge i len with h1 | h1
      · have := hg i h1
        have := (hnn i).2
        omega
      · rw [show ((zs.take len).map Int.toNat).getD i 0 = 0 from by unfold List.getD; rw [List.getElem?_eq_none (by simp; omega)]; rfl]
        omega
end
end Go.Proofs.Ythdondjhiflkaaa
