/- Arrays that came in by value, opened. -/
import Derived.ProofKit
import Derived.OpenShut
import Derived.ChangeOld
import Derived.Below
import Derived.Test.YtmmkaabefofdeaaDoorM01
namespace Go.Proofs.YtmmkaabefofdeaaDoor
open Go.ChangeShapes Go.WideShapes Go.ChangeAt Go.RowKit

section
variable {H : Type} {enc : TypeId × Value → H} {P : Program} {w : World} {base : Nat} {spare : Nat → Bool} {held : Bool}

theorem okWide_arr {r : Reach} {b0 : Nat} {t e : TypeId} {n : Nat} {v : Value} (ht : P.underlying t = some (.array n e)) (h : Value.okWide P w r b0 t v) : ∃ cs, v = .agg cs ∧ cs.size = P.cellsOf t := by
  simp only [Value.okWide, ht] at h
  obtain ⟨cs, h1, h2, _⟩ := h
  exact ⟨cs, h1, h2⟩

theorem open_int_array {r : Reach} {b0 : Nat} {t e : TypeId} {n : Nat} {v : Value} {d : DataW H} {p : List MemPlace} (ht : P.underlying t = some (.array n e)) (he : P.underlying e = some (.int .i64)) (hce : P.cellsOf e = 1) (hct : P.cellsOf t = n)
    (hv : Value.okWide P w r b0 t v) (h : DataW.Trod enc P w base spare held t v d p) :
    ∃ cs : Array Value, v = .agg cs ∧ cs.size = n ∧ ∀ i, i < n → ∃ z : Int, cs[i]? = some (.int .i64 z) ∧ -9223372036854775808 ≤ z ∧ z ≤ 9223372036854775807 := by
  obtain ⟨cs, rfl, hsz⟩ := okWide_arr ht hv
  obtain ⟨fuel, hf⟩ := h
  obtain ⟨xs, m, _, _, _, hlen, hx⟩ := DataW.trod_array ht hf
  refine ⟨cs, rfl, hsz.trans hct, fun i hi => ?_⟩
  have hi2 := hx i hi
  rw [List.getElem?_eq_getElem (by omega)] at hi2
  obtain ⟨z, hz, _, hw⟩ := DataW.trod_int he hi2
  refine ⟨z, ?_, bounds_i64 hw⟩
  rw [hce, Nat.mul_one] at hz
  simp only [Value.cells] at hz
  have : (cs.toList.drop i)[0]? = some (.int .i64 z) := by
    have h2 := congrArg (fun l => l[0]?) hz
    simpa [List.getElem?_take] using h2
  simpa using this
end
end Go.Proofs.YtmmkaabefofdeaaDoor
namespace Go.Proofs.YtmmkaabefofdeaaDoor
open Go.RowKit

theorem arr_two {cs : Array Value} (hs : cs.size = 2) (hz : ∀ i, i < 2 → ∃ z : Int, cs[i]? = some (.int .i64 z) ∧ -9223372036854775808 ≤ z ∧ z ≤ 9223372036854775807) :
    ∃ z0 z1 : Int, cs = #[.int .i64 z0, .int .i64 z1] ∧ In64 z0 ∧ In64 z1 := by
  obtain ⟨z0, e0, b0⟩ := hz 0 (by decide)
  obtain ⟨z1, e1, b1⟩ := hz 1 (by decide)
  refine ⟨z0, z1, ?_, b0, b1⟩
  apply Array.ext
  · rw [hs]; rfl
  · intro i h1 h2
    match i, h1, h2 with
    | 0, h1, _ => rw [Array.getElem?_eq_getElem (by omega)] at e0; injection e0
    | 1, h1, _ => rw [Array.getElem?_eq_getElem (by omega)] at e1; injection e1
    | i + 2, h1, _ => omega
theorem arr_three {cs : Array Value} (hs : cs.size = 3) (hz : ∀ i, i < 3 → ∃ z : Int, cs[i]? = some (.int .i64 z) ∧ -9223372036854775808 ≤ z ∧ z ≤ 9223372036854775807) :
    ∃ z0 z1 z2 : Int, cs = #[.int .i64 z0, .int .i64 z1, .int .i64 z2] ∧ In64 z0 ∧ In64 z1 ∧ In64 z2 := by
  obtain ⟨z0, e0, b0⟩ := hz 0 (by decide)
  obtain ⟨z1, e1, b1⟩ := hz 1 (by decide)
  obtain ⟨z2, e2, b2⟩ := hz 2 (by decide)
  refine ⟨z0, z1, z2, ?_, b0, b1, b2⟩
  apply Array.ext
  · rw [hs]; rfl
  · intro i h1 h2
    match i, h1, h2 with
    | 0, h1, _ => rw [Array.getElem?_eq_getElem (by omega)] at e0; injection e0
    | 1, h1, _ => rw [Array.getElem?_eq_getElem (by omega)] at e1; injection e1
    | 2, h1, _ => rw [Array.getElem?_eq_getElem (by omega)] at e2; injection e2
    | i + 3, h1, _ => omega
end Go.Proofs.YtmmkaabefofdeaaDoor
