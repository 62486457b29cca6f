/- Arrays of two and of three numbers that came in by value: their numbers, by name. No program is named here. -/
import Derived.Test.YtbkbcjdhppnfoaaOpenArr
import Derived.Test.YtbkbcjdhppnfoaaSlv
namespace Go.Proofs.Ytbkbcjdhppnfoaa
open Go.RowKit

theorem arr_two {cs : Array Value} (hs : cs.size = 2) (hz : ∀ i, i < 2 → ∃ z : Int, cs[i]? = some (.int .i64 z) ∧ -9223372036854775808 ≤ z ∧ z ≤ 9223372036854775807) :
    ∃ z0 z1 : Int, cs = #[.int .i64 z0, .int .i64 z1] ∧ In64 z0 ∧ In64 z1 := by
  obtain ⟨z0, e0, b0⟩ := hz 0 (by decide)
  obtain ⟨z1, e1, b1⟩ := hz 1 (by decide)
  refine ⟨z0, z1, ?_, b0, b1⟩
  apply Array.ext
  · rw [hs]; rfl
  · intro i h1 h2
    match i, h1, h2 with
    | 0, h1, _ => rw [Array.getElem?_eq_getElem (by omega)] at e0; injection e0
    | 1, h1, _ => rw [Array.getElem?_eq_getElem (by omega)] at e1; injection e1
    | i + 2, h1, _ => omega
theorem arr_three {cs : Array Value} (hs : cs.size = 3) (hz : ∀ i, i < 3 → ∃ z : Int, cs[i]? = some (.int .i64 z) ∧ -9223372036854775808 ≤ z ∧ z ≤ 9223372036854775807) :
    ∃ z0 z1 z2 : Int, cs = #[.int .i64 z0, .int .i64 z1, .int .i64 z2] ∧ In64 z0 ∧ In64 z1 ∧ In64 z2 := by
  obtain ⟨z0, e0, b0⟩ := hz 0 (by decide)
  obtain ⟨z1, e1, b1⟩ := hz 1 (by decide)
  obtain ⟨z2, e2, b2⟩ := hz 2 (by decide)
  refine ⟨z0, z1, z2, ?_, b0, b1, b2⟩
  apply Array.ext
  · rw [hs]; rfl
  · intro i h1 h2
    match i, h1, h2 with
    | 0, h1, _ => rw [Array.getElem?_eq_getElem (by omega)] at e0; injection e0
    | 1, h1, _ => rw [Array.getElem?_eq_getElem (by omega)] at e1; injection e1
    | 2, h1, _ => rw [Array.getElem?_eq_getElem (by omega)] at e2; injection e2
    | i + 3, h1, _ => omega
end Go.Proofs.Ytbkbcjdhppnfoaa
