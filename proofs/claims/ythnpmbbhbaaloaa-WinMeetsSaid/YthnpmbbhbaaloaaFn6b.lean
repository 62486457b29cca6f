/- Layer 6, plain: what WinOnce's loop wants (an item of a row holds a slot just where the quotient says; the row's items end at the size). -/
import Derived.Test.YthnpmbbhbaaloaaFn06
namespace Go.Proofs.Ythnpmbbhbaaloaa
open Go.RowKit
set_option linter.unusedVariables false
namespace Wn
theorem in_iff {w a : Int} (hw : 0 < w) (k : Int) : (k * w ≤ a ∧ a < k * w + w) ↔ a / w = k := by
  constructor
  · rintro ⟨h1, h2⟩
    have h3 : k ≤ a / w := (Int.le_ediv_iff_mul_le hw).2 h1
    have h4 : a / w < k + 1 := (Int.ediv_lt_iff_lt_mul hw).2 (by rw [Int.add_mul, Int.one_mul]; exact h2)
    omega
  · intro e
    have q := lo_le (w := w) (a := a) hw
    rw [e] at q
    exact q
/-- The slots met in the first k items of a row. -/
def metB (q : Int) (k : Nat) : Int := if q < k then 1 else 0
theorem met_zero {q : Int} (h : 0 ≤ q) : metB q 0 = 0 := by unfold metB; rw [if_neg (by omega)]
theorem met_hit {q : Int} {k : Nat} (h : q = k) : metB q k = 0 ∧ metB q (k + 1) = 1 := by
  unfold metB; rw [if_neg (by omega), if_pos (by omega)]; exact ⟨rfl, rfl⟩
theorem met_miss {q : Int} {k : Nat} (h : q ≠ k) : metB q (k + 1) = metB q k := by
  unfold metB
  by_cases c : q < k
  · rw [if_pos c, if_pos (by omega)]
  · rw [if_neg c, if_neg (by omega)]
theorem met_all {q : Int} {n : Nat} (h : q < n) : metB q n = 1 := if_pos h
theorem Fit.row_of {g s : Int} {H : Nat} (f : Fit g s H) {h : Nat} (hh : h ≤ H) (hk : askB g s h 0 = true) :
    ∃ n : Nat, 1 ≤ n ∧ (n : Int) * wd g h = s ∧ row g s h = (List.range n).map fun k : Nat => ((k : Int) * wd g h, (k : Int) * wd g h + wd g h) := by
  obtain ⟨m, hm, hm1⟩ := f.dvd hh
  have hw := wd_pos f.g1 (h : Int)
  refine ⟨m.toNat, by omega, ?_, ?_⟩
  · rw [Int.toNat_of_nonneg (by omega), hm, Int.mul_comm]
  · unfold row
    have e : s / wd g h = m := by rw [hm]; exact Int.mul_ediv_cancel_left _ (by omega)
    rw [hk, if_pos rfl, e]
/-- A slot's quotient is an item of the row. -/
theorem Fit.quot {g s : Int} {H : Nat} (f : Fit g s H) {h n : Nat} (hn : (n : Int) * wd g h = s) {a : Int} (a0 : 0 ≤ a) (a1 : a < s) : 0 ≤ a / wd g h ∧ a / wd g h < n := by
  have hw := wd_pos f.g1 (h : Int)
  exact ⟨Int.ediv_nonneg a0 (by omega), (Int.ediv_lt_iff_lt_mul (by omega)).2 (by rw [hn]; exact a1)⟩
end Wn
end Go.Proofs.Ythnpmbbhbaaloaa
