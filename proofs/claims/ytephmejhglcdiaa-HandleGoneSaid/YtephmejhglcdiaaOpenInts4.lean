/- A list of ints that came in, opened. -/
import Derived.Test.YtephmejhglcdiaaOpenSl
namespace Go.Proofs.Ytephmejhglcdiaa
open Go.ChangeShapes Go.WideShapes Go.ChangeAt Go.RowKit

section
variable {H : Type} {enc : TypeId × Value → H} {P : Program} {w : World} {base : Nat} {spare : Nat → Bool} {held : Bool}
theorem open_ints_row {r : Reach} {b0 : Nat} {t e : TypeId} {v : Value} {d : DataW H} {p : List MemPlace} (ht : P.underlying t = some (.slice e)) (he : P.underlying e = some (.int .i64)) (hce : P.cellsOf e = 1)
    (hv : Value.okWide P w r b0 t v) (h : DataW.Trod enc P w base spare held t v d p) :
    ∃ (a : Option Addr) (cap : Nat) (zs : List Int), v = .slice a zs.length cap ∧ Lst .i64 w a zs ∧ All64 zs ∧ (a = none → zs.length = 0 ∧ cap = 0) ∧ zs.length ≤ cap ∧ cap ≤ maxLen := by
  obtain ⟨a, len, cap, rfl⟩ := okWide_slice ht hv
  obtain ⟨fuel, hf⟩ := h
  obtain ⟨a1, c1, q1, e1, l1, k1, m1, v1, x1⟩ := open_row ht he hce hf
  refine ⟨a1, c1, q1, e1, l1, fun i => ?_, m1, v1, x1⟩
  rcases Nat.lt_or_ge i q1.length with h1 | h1
  · have hmem : q1.getD i 0 ∈ q1 := by simp only [List.getD, List.getElem?_eq_getElem h1, Option.getD_some]; exact List.getElem_mem h1
    exact bounds_i64 (k1 _ hmem)
  · simp [List.getD, List.getElem?_eq_none h1]; exact ⟨by omega, by omega⟩
end
end Go.Proofs.Ytephmejhglcdiaa
