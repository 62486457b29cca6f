/- Lists in memory: a slice value whose elements are numbers of one kind. No program is named here. -/
import Derived.WalkKit
import Derived.WalkSpells
import Derived.WalkLawsBesides
import Derived.Lib.Hide
namespace Go.Proofs.Ytephmejhglcdiaa
open Go.RowKit

/-- The slice that begins at 'a' reads as the list, element for element (of an empty one nothing is said). -/
def Lst (k : IntKind) (w : World) (a : Option Addr) (zs : List Int) : Prop :=
  zs = [] ∨ ∃ b off, a = some ⟨b, off, none⟩ ∧ b < w.heap.size ∧ ∀ i, i < zs.length → w.cell? ⟨b, off + i, none⟩ = some (.int k (zs.getD i 0))

theorem Lst.cell {k : IntKind} {w : World} {a : Option Addr} {zs : List Int} (h : Lst k w a zs) {i : Nat} (hi : i < zs.length) :
    ∃ b off, a = some ⟨b, off, none⟩ ∧ b < w.heap.size ∧ w.cell? ⟨b, off + i, none⟩ = some (.int k (zs.getD i 0)) := by
  rcases h with rfl | ⟨b, off, h1, h2, h3⟩
  · simp at hi
  · exact ⟨b, off, h1, h2, h3 i hi⟩
theorem Lst.below {k : IntKind} {w w' : World} {a : Option Addr} {zs : List Int} (h : Lst k w a zs) (hb : Below w.heap.size w w') : Lst k w' a zs := by
  rcases h with rfl | ⟨b, off, h1, h2, h3⟩
  · exact Or.inl rfl
  · exact Or.inr ⟨b, off, h1, Nat.lt_of_lt_of_le h2 hb.size, fun i hi => (hb.cell (p := ⟨b, off + i, none⟩) h2).trans (h3 i hi)⟩
theorem Lst.nil {k : IntKind} {w : World} {a : Option Addr} : Lst k w a [] := Or.inl rfl

/-- Words of 64 bits. -/
def ints (ws : List Nat) : List Int := ws.map fun x : Nat => (x : Int)
def Wide (ws : List Nat) : Prop := ∀ i, ws.getD i 0 < 18446744073709551616
theorem ints_length (ws : List Nat) : (ints ws).length = ws.length := by simp [ints]
theorem ints_getD (ws : List Nat) (i : Nat) : (ints ws).getD i 0 = ((ws.getD i 0 : Nat) : Int) := by
  simp only [ints, List.getD, List.getElem?_map]
  cases ws[i]? <;> rfl
theorem Lst.word {w : World} {a : Option Addr} {ws : List Nat} (h : Lst .u64 w a (ints ws)) {i : Nat} (hi : i < ws.length) :
    ∃ b off, a = some ⟨b, off, none⟩ ∧ b < w.heap.size ∧ w.cell? ⟨b, off + i, none⟩ = some (.int .u64 ((ws.getD i 0 : Nat) : Int)) := by
  have := h.cell (i := i) (by rw [ints_length]; exact hi)
  rw [ints_getD] at this
  exact this
theorem Lst.drewN {k : IntKind} {w : World} {a : Option Addr} {zs : List Int} (h : Lst k w a zs) (n : Nat) : Lst k (w.drewN n) a zs := h
end Go.Proofs.Ytephmejhglcdiaa
