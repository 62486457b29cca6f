/- An array of int that came in by value, opened: its numbers, each within 64 bits. No program is named here. -/
import Derived.ProofKit
import Derived.OpenShut
import Derived.ChangeOld
import Derived.Below
namespace Go.Proofs.Ytbkbcjdhppnfoaa
open Go.ChangeShapes Go.WideShapes Go.ChangeAt Go.RowKit

section
variable {H : Type} {enc : TypeId × Value → H} {P : Program} {w : World} {base : Nat} {spare : Nat → Bool} {held : Bool}

theorem okWide_arr {r : Reach} {b0 : Nat} {t e : TypeId} {n : Nat} {v : Value} (ht : P.underlying t = some (.array n e)) (h : Value.okWide P w r b0 t v) : ∃ cs, v = .agg cs ∧ cs.size = P.cellsOf t := by
  simp only [Value.okWide, ht] at h
  obtain ⟨cs, h1, h2, _⟩ := h
  exact ⟨cs, h1, h2⟩

theorem open_int_array {r : Reach} {b0 : Nat} {t e : TypeId} {n : Nat} {v : Value} {d : DataW H} {p : List MemPlace} (ht : P.underlying t = some (.array n e)) (he : P.underlying e = some (.int .i64)) (hce : P.cellsOf e = 1) (hct : P.cellsOf t = n)
    (hv : Value.okWide P w r b0 t v) (h : DataW.Trod enc P w base spare held t v d p) :
    ∃ cs : Array Value, v = .agg cs ∧ cs.size = n ∧ ∀ i, i < n → ∃ z : Int, cs[i]? = some (.int .i64 z) ∧ -9223372036854775808 ≤ z ∧ z ≤ 9223372036854775807 := by
  obtain ⟨cs, rfl, hsz⟩ := okWide_arr ht hv
  obtain ⟨fuel, hf⟩ := h
  obtain ⟨xs, m, _, _, _, hlen, hx⟩ := DataW.trod_array ht hf
  refine ⟨cs, rfl, hsz.trans hct, fun i hi => ?_⟩
  have hi2 := hx i hi
  rw [List.getElem?_eq_getElem (by omega)] at hi2
  obtain ⟨z, hz, _, hw⟩ := DataW.trod_int he hi2
  refine ⟨z, ?_, bounds_i64 hw⟩
  rw [hce, Nat.mul_one] at hz
  simp only [Value.cells] at hz
  have : (cs.toList.drop i)[0]? = some (.int .i64 z) := by
    have h2 := congrArg (fun l => l[0]?) hz
    simpa [List.getElem?_take] using h2
  simpa using this
end
end Go.Proofs.Ytbkbcjdhppnfoaa
