/- All of package crc as landed: its contracts, and what an answer of Open reads as. -/
import Derived.Test.YthdondjhiflkaaaCrcA
import Derived.Test.YthdondjhiflkaaaCrcB
import Derived.Test.YthdondjhiflkaaaCrcC
namespace Go.Proofs.Ythdondjhiflkaaa
open Go.RowKit
theorem open_cells {w : World} {base : Nat} {e : TypeId} {size : Nat} {Y : Option Addr} {n c : Nat} {xs : List Value} (h : w.ownsRow base e size (.slice Y n c) n xs) :
    Cells w Y xs ∧ (∀ ad, Y = some ad → base ≤ ad.block ∧ ad.off = 0 ∧ ad.block < w.heap.size) := by
  obtain ⟨A, cap, hv, hC, _, hs, _⟩ := own_cells h
  injection hv with h1 _ _
  subst h1
  exact ⟨hC, hs⟩
end Go.Proofs.Ythdondjhiflkaaa
