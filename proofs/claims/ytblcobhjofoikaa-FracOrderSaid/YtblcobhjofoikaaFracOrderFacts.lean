/- Cross products order fractions: the plain facts under the law FracOrder. -/
import Derived.Test.YtblcobhjofoikaaLaw01
namespace Go.Proofs.Ytblcobhjofoikaa.fracOrder

theorem sgn_range (z : Int) : -1 ≤ Fr.sgn z ∧ Fr.sgn z ≤ 1 := by unfold Fr.sgn; split <;> (try split) <;> omega
theorem sgn_neg (z : Int) : Fr.sgn (-z) = -Fr.sgn z := by
  unfold Fr.sgn; split <;> split <;> (try split) <;> (try split) <;> omega
theorem sgn_le (z : Int) : Fr.sgn z ≤ 0 ↔ z ≤ 0 := by unfold Fr.sgn; split <;> (try split) <;> omega
theorem sgn_lt (z : Int) : Fr.sgn z < 0 ↔ z < 0 := by unfold Fr.sgn; split <;> (try split) <;> omega
theorem sgn_zero (z : Int) : Fr.sgn z = 0 ↔ z = 0 := by unfold Fr.sgn; split <;> (try split) <;> omega

theorem key (a b c d x y : Int) : y * (a * d - b * c) + b * (c * y - d * x) = d * (a * y - b * x) := by
  simp only [Int.mul_sub, Int.mul_comm, Int.mul_left_comm]
  omega

theorem trans_le {a b c d x y : Int} (hb : 0 < b) (hd : 0 < d) (hy : 0 < y) (h1 : a * d - b * c ≤ 0) (h2 : c * y - d * x ≤ 0) : a * y - b * x ≤ 0 := by
  have k := key a b c d x y
  generalize a * d - b * c = u at *
  generalize c * y - d * x = v at *
  generalize a * y - b * x = r at *
  have e1 : y * u ≤ 0 := Int.mul_nonpos_of_nonneg_of_nonpos (by omega) h1
  have e2 : b * v ≤ 0 := Int.mul_nonpos_of_nonneg_of_nonpos (by omega) h2
  refine Classical.byContradiction fun hr => ?_
  have : 0 < d * r := Int.mul_pos hd (by omega)
  omega
theorem trans_lt {a b c d x y : Int} (hb : 0 < b) (hd : 0 < d) (hy : 0 < y) (h1 : a * d - b * c ≤ 0) (h2 : c * y - d * x ≤ 0) (h3 : a * d - b * c < 0 ∨ c * y - d * x < 0) : a * y - b * x < 0 := by
  have k := key a b c d x y
  generalize a * d - b * c = u at *
  generalize c * y - d * x = v at *
  generalize a * y - b * x = r at *
  have e1 : y * u ≤ 0 := Int.mul_nonpos_of_nonneg_of_nonpos (by omega) h1
  have e2 : b * v ≤ 0 := Int.mul_nonpos_of_nonneg_of_nonpos (by omega) h2
  have e3 : y * u < 0 ∨ b * v < 0 := by
    rcases h3 with h | h
    · exact Or.inl (Int.mul_neg_of_pos_of_neg hy h)
    · exact Or.inr (Int.mul_neg_of_pos_of_neg hb h)
  refine Classical.byContradiction fun hr => ?_
  have : 0 ≤ d * r := Int.mul_nonneg (by omega) (by omega)
  omega
theorem trans_eq {a b c d x y : Int} (hd : 0 < d) (h1 : a * d - b * c = 0) (h2 : c * y - d * x = 0) : a * y - b * x = 0 := by
  have k := key a b c d x y
  rw [h1, h2] at k
  simp only [Int.mul_zero, Int.add_zero] at k
  rcases Int.mul_eq_zero.1 k.symm with h | h
  · omega
  · exact h

theorem crossE_iff (a b c d : Int) : Fr.crossE a b c d = 0 ↔ Fr.small4 a b c d = true := by
  unfold Fr.crossE; split <;> simp_all
theorem small4_parts {a b c d : Int} (h : Fr.small4 a b c d = true) : Fr.smallB a = true ∧ Fr.smallB b = true ∧ Fr.smallB c = true ∧ Fr.smallB d = true := by
  simp only [Fr.small4, Bool.and_eq_true] at h
  exact ⟨h.1.1.1, h.1.1.2, h.1.2, h.2⟩
theorem small4_mk {a b c d : Int} (ha : Fr.smallB a = true) (hb : Fr.smallB b = true) (hc : Fr.smallB c = true) (hd : Fr.smallB d = true) : Fr.small4 a b c d = true := by
  simp [Fr.small4, ha, hb, hc, hd]
theorem crossIs_mk {a b c d v : Int} (h : Fr.small4 a b c d = true) (hv : Fr.sgn (a * d - b * c) = v) : Fr.crossIs a b c d v = true := by
  unfold Fr.crossIs
  rw [(crossE_yes' h).1, (crossE_yes' h).2, hv]
  simp

theorem back {a b c d : Int} (h : Fr.small4 a b c d = true) : Fr.crossIs c d a b (-Fr.crossV a b c d) = true := by
  obtain ⟨ha, hb, hc, hd⟩ := small4_parts h
  refine crossIs_mk (small4_mk hc hd ha hb) ?_
  rw [(crossE_yes' h).2, ← sgn_neg]
  congr 1
  rw [Int.mul_comm c b, Int.mul_comm d a]
  omega
theorem self {a b : Int} (ha : Fr.smallB a = true) (hb : Fr.smallB b = true) : Fr.crossIs a b a b 0 = true := by
  refine crossIs_mk (small4_mk ha hb ha hb) ?_
  rw [Int.mul_comm b a, Int.sub_self]; rfl
theorem twice {a b : Int} (h1 : -16777216 ≤ a) (h2 : a ≤ 16777216) (h3 : 0 < b) (h4 : b ≤ 16777216) : Fr.crossIs (2 * a) (2 * b) a b 0 = true := by
  refine crossIs_mk (small4_mk (Fr.small_mk (by omega) (by omega)) (Fr.small_mk (by omega) (by omega)) (Fr.small_mk (by omega) (by omega)) (Fr.small_mk (by omega) (by omega))) ?_
  rw [Int.mul_assoc, Int.mul_assoc, Int.mul_comm b a, Int.sub_self]; rfl
theorem crossV_zero {a b c d : Int} (h : ¬ Fr.crossE a b c d = 0) : Fr.crossV a b c d = 0 := by
  unfold Fr.crossE at h
  unfold Fr.crossV
  split <;> simp_all
end Go.Proofs.Ytblcobhjofoikaa.fracOrder
