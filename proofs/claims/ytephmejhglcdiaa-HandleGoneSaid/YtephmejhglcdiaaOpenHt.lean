/- A table of handles that came in by value, opened. No program is named here. -/
import Derived.Test.YtephmejhglcdiaaOpenSl
import Derived.Test.YtephmejhglcdiaaFn14
namespace Go.Proofs.Ytephmejhglcdiaa
open Go.ChangeShapes Go.WideShapes Go.ChangeAt Go.RowKit Go.Deep
set_option linter.unusedVariables false

section
variable {H : Type} {enc : TypeId × Value → H} {P : Program} {w : World} {base : Nat} {spare : Nat → Bool} {held : Bool}
theorem open_handles {r : Reach} {b0 : Nat} {t te : TypeId} {f0 f1 : Field} {v : Value} {d : DataW H} {p : List MemPlace} (hs : P.underlying t = some (.struct #[f0, f1])) (hone : oneCellFields P #[f0, f1] = true) (hC : P.cellsOf t = 2)
    (t0 : P.underlying f0.type = some (.slice te)) (t1 : P.underlying f1.type = some (.slice te)) (ee : P.underlying te = some (.int .i64)) (ce : P.cellsOf te = 1)
    (hv' : Value.okWide P w r b0 t v) (h : DataW.Trod enc P w base spare held t v d p) :
    ∃ (x : Ht) (A : HAds), v = hv x A ∧ HHeld w x A ∧ x.Ok := by
  obtain ⟨cs, rfl, hsz, hf⟩ := open_fields hs hone hC hv' h
  obtain ⟨u0, y0, n0, g0, r0⟩ := hf 0 f0 rfl
  obtain ⟨u1, y1, n1, g1, r1⟩ := hf 1 f1 rfl
  have hcs : cs = #[u0, u1] := by
    obtain ⟨l⟩ := cs
    match l, hsz with
    | [c0, c1], _ =>
      simp at g0 g1
      subst g0 g1
      rfl
  subst hcs
  obtain ⟨a0, c0, q0, rfl, l0, k0, m0, v0, x0⟩ := open_row t0 ee ce r0
  obtain ⟨a1, c1, q1, rfl, l1, k1, m1, v1, x1⟩ := open_row t1 ee ce r1
  exact ⟨⟨q0, q1⟩, ⟨a0, a1, c0, c1⟩, rfl, ⟨l0, l1, ⟨m0, m1, v0, v1⟩⟩, ⟨all64_of k0, all64_of k1⟩⟩
end
end Go.Proofs.Ytephmejhglcdiaa
