/- The walk of the law FracOrder, whole: the cases put together. -/
import Derived.Test.YtblcobhjofoikaaFracOrderWalkP
import Derived.Test.YtblcobhjofoikaaFracOrderWalkQ
import Derived.Test.YtblcobhjofoikaaFracOrderWalkR
import Derived.Test.YtblcobhjofoikaaFracOrderWalkS
namespace Go.Proofs.Ytblcobhjofoikaa.fracOrder
open Go.RowKit

def Holds (a b c d x y : Int) (W : World) : Prop :=
  Calls Try.prog 6 #[.agg #[.int .i64 a, .int .i64 b, .int .i64 c, .int .i64 d, .int .i64 x, .int .i64 y]] W fun e w' => e = .returned (.bool true) ∧ Below W.heap.size W w'

theorem late {a b c d x y : Int} {W : World} (p1 : 0 < b) (p2 : 0 < d) (p3 : 0 < y) (s1 : Fr.small4 a b c d = true) (s2 : Fr.small4 c d x y = true) (s3 : Fr.small4 a b x y = true) : Holds a b c d x y W := by
  have e1 : (Fr.crossE a b c d != 0) = false := by rw [(crossE_yes' s1).1]; rfl
  have f1 : (Fr.crossE a b c d == 0) = true := by rw [(crossE_yes' s1).1]; rfl
  have e2 : (Fr.crossE c d x y != 0) = false := by rw [(crossE_yes' s2).1]; rfl
  have e3 : (Fr.crossE a b x y != 0) = false := by rw [(crossE_yes' s3).1]; rfl
  have r := sgn_range (a * d - b * c)
  rw [← (crossE_yes' s1).2] at r
  obtain ⟨r1, r2⟩ := r
  have c1 := back s1
  have c2 := self (small4_parts s1).1 (small4_parts s1).2.1
  have v1 := (crossE_yes' s1).2
  have v2 := (crossE_yes' s2).2
  have v3 := (crossE_yes' s3).2
  have l1 := sgn_le (a * d - b * c); have l2 := sgn_le (c * y - d * x); have l3 := sgn_le (a * y - b * x)
  have m1 := sgn_lt (a * d - b * c); have m2 := sgn_lt (c * y - d * x); have m3 := sgn_lt (a * y - b * x)
  have n3 := sgn_zero (a * y - b * x); have n1 := sgn_zero (a * d - b * c); have n2 := sgn_zero (c * y - d * x)
  rw [← v1] at l1 m1 n1
  rw [← v2] at l2 m2 n2
  rw [← v3] at l3 m3 n3
  have tle := @trans_lt a b c d x y p1 p2 p3
  have teq := @trans_eq a b c d x y p2
  have c3 : -16777216 ≤ a → a ≤ 16777216 → b ≤ 16777216 → Fr.crossIs (2 * a) (2 * b) a b 0 = true := fun g1 g2 g3 => twice g1 g2 p1 g3
  clear s1 s2 s3 v1 v2 v3
  unfold Holds
  by_cases g1 : 16777216 < a
  · by_cases o1 : 0 < Fr.crossV a b c d
    · exact lateA1 a b c d x y W e1 f1 e2 e3 p1 p2 p3 r1 r2 c1 c2 o1 g1
    · by_cases o2 : 0 < Fr.crossV c d x y
      · by_cases o3 : Fr.crossV a b c d < 0
        · exact lateB1 a b c d x y W e1 f1 e2 e3 p1 p2 p3 r1 r2 c1 c2 o3 o2 g1
        · exact lateC1 a b c d x y W e1 f1 e2 e3 p1 p2 p3 r1 r2 c1 c2 (by omega) (by omega) o2 g1
      · by_cases o3 : Fr.crossV a b c d < 0
        · exact lateD1 a b c d x y W e1 f1 e2 e3 p1 p2 p3 r1 r2 c1 c2 o3 (by omega) (m3.2 (tle (l1.1 (by omega)) (l2.1 (by omega)) (Or.inl (m1.1 o3)))) g1
        · by_cases o4 : Fr.crossV c d x y < 0
          · exact lateE1 a b c d x y W e1 f1 e2 e3 p1 p2 p3 r1 r2 c1 c2 (by omega) (by omega) o4 (m3.2 (tle (l1.1 (by omega)) (l2.1 (by omega)) (Or.inr (m2.1 o4)))) g1
          · have z := n3.2 (teq (n1.1 (by omega)) (n2.1 (by omega)))
            exact lateF1 a b c d x y W e1 f1 e2 e3 p1 p2 p3 r1 r2 c1 c2 (by omega) (by omega) (by omega) (by omega) (by omega) (by rw [z]; rfl) g1
  by_cases g2 : a < -16777216
  · by_cases o1 : 0 < Fr.crossV a b c d
    · exact lateA2 a b c d x y W e1 f1 e2 e3 p1 p2 p3 r1 r2 c1 c2 o1 g2
    · by_cases o2 : 0 < Fr.crossV c d x y
      · by_cases o3 : Fr.crossV a b c d < 0
        · exact lateB2 a b c d x y W e1 f1 e2 e3 p1 p2 p3 r1 r2 c1 c2 o3 o2 g2
        · exact lateC2 a b c d x y W e1 f1 e2 e3 p1 p2 p3 r1 r2 c1 c2 (by omega) (by omega) o2 g2
      · by_cases o3 : Fr.crossV a b c d < 0
        · exact lateD2 a b c d x y W e1 f1 e2 e3 p1 p2 p3 r1 r2 c1 c2 o3 (by omega) (m3.2 (tle (l1.1 (by omega)) (l2.1 (by omega)) (Or.inl (m1.1 o3)))) g2
        · by_cases o4 : Fr.crossV c d x y < 0
          · exact lateE2 a b c d x y W e1 f1 e2 e3 p1 p2 p3 r1 r2 c1 c2 (by omega) (by omega) o4 (m3.2 (tle (l1.1 (by omega)) (l2.1 (by omega)) (Or.inr (m2.1 o4)))) g2
          · have z := n3.2 (teq (n1.1 (by omega)) (n2.1 (by omega)))
            exact lateF2 a b c d x y W e1 f1 e2 e3 p1 p2 p3 r1 r2 c1 c2 (by omega) (by omega) (by omega) (by omega) (by omega) (by rw [z]; rfl) g2
  by_cases g3 : 16777216 < b
  · by_cases o1 : 0 < Fr.crossV a b c d
    · exact lateA3 a b c d x y W e1 f1 e2 e3 p1 p2 p3 r1 r2 c1 c2 o1 (by omega) (by omega) g3
    · by_cases o2 : 0 < Fr.crossV c d x y
      · by_cases o3 : Fr.crossV a b c d < 0
        · exact lateB3 a b c d x y W e1 f1 e2 e3 p1 p2 p3 r1 r2 c1 c2 o3 o2 (by omega) (by omega) g3
        · exact lateC3 a b c d x y W e1 f1 e2 e3 p1 p2 p3 r1 r2 c1 c2 (by omega) (by omega) o2 (by omega) (by omega) g3
      · by_cases o3 : Fr.crossV a b c d < 0
        · exact lateD3 a b c d x y W e1 f1 e2 e3 p1 p2 p3 r1 r2 c1 c2 o3 (by omega) (m3.2 (tle (l1.1 (by omega)) (l2.1 (by omega)) (Or.inl (m1.1 o3)))) (by omega) (by omega) g3
        · by_cases o4 : Fr.crossV c d x y < 0
          · exact lateE3 a b c d x y W e1 f1 e2 e3 p1 p2 p3 r1 r2 c1 c2 (by omega) (by omega) o4 (m3.2 (tle (l1.1 (by omega)) (l2.1 (by omega)) (Or.inr (m2.1 o4)))) (by omega) (by omega) g3
          · have z := n3.2 (teq (n1.1 (by omega)) (n2.1 (by omega)))
            exact lateF3 a b c d x y W e1 f1 e2 e3 p1 p2 p3 r1 r2 c1 c2 (by omega) (by omega) (by omega) (by omega) (by omega) (by rw [z]; rfl) (by omega) (by omega) g3
  · have c3 := c3 (by omega) (by omega) (by omega)
    by_cases o1 : 0 < Fr.crossV a b c d
    · exact lateA4 a b c d x y W e1 f1 e2 e3 p1 p2 p3 r1 r2 c1 c2 o1 (by omega) (by omega) (by omega) c3
    · by_cases o2 : 0 < Fr.crossV c d x y
      · by_cases o3 : Fr.crossV a b c d < 0
        · exact lateB4 a b c d x y W e1 f1 e2 e3 p1 p2 p3 r1 r2 c1 c2 o3 o2 (by omega) (by omega) (by omega) c3
        · exact lateC4 a b c d x y W e1 f1 e2 e3 p1 p2 p3 r1 r2 c1 c2 (by omega) (by omega) o2 (by omega) (by omega) (by omega) c3
      · by_cases o3 : Fr.crossV a b c d < 0
        · exact lateD4 a b c d x y W e1 f1 e2 e3 p1 p2 p3 r1 r2 c1 c2 o3 (by omega) (m3.2 (tle (l1.1 (by omega)) (l2.1 (by omega)) (Or.inl (m1.1 o3)))) (by omega) (by omega) (by omega) c3
        · by_cases o4 : Fr.crossV c d x y < 0
          · exact lateE4 a b c d x y W e1 f1 e2 e3 p1 p2 p3 r1 r2 c1 c2 (by omega) (by omega) o4 (m3.2 (tle (l1.1 (by omega)) (l2.1 (by omega)) (Or.inr (m2.1 o4)))) (by omega) (by omega) (by omega) c3
          · have z := n3.2 (teq (n1.1 (by omega)) (n2.1 (by omega)))
            exact lateF4 a b c d x y W e1 f1 e2 e3 p1 p2 p3 r1 r2 c1 c2 (by omega) (by omega) (by omega) (by omega) (by omega) (by rw [z]; rfl) (by omega) (by omega) (by omega) c3

theorem walk (a b c d x y : Int) (W : World) : Holds a b c d x y W := by
  cases s1 : Fr.small4 a b c d
  · have := crossE_no' s1
    unfold Holds
    exact early1 a b c d x y W (by rw [this.1]; rfl) (by rw [this.1]; rfl) (by rw [this.2]; rfl)
  have e1 : (Fr.crossE a b c d != 0) = false := by rw [(crossE_yes' s1).1]; rfl
  have f1 : (Fr.crossE a b c d == 0) = true := by rw [(crossE_yes' s1).1]; rfl
  cases s2 : Fr.small4 c d x y
  · unfold Holds
    exact early2 a b c d x y W e1 f1 (by rw [(crossE_no' s2).1]; rfl)
  have e2 : (Fr.crossE c d x y != 0) = false := by rw [(crossE_yes' s2).1]; rfl
  cases s3 : Fr.small4 a b x y
  · unfold Holds
    exact early3 a b c d x y W e1 f1 e2 (by rw [(crossE_no' s3).1]; rfl)
  have e3 : (Fr.crossE a b x y != 0) = false := by rw [(crossE_yes' s3).1]; rfl
  by_cases p1 : 0 < b
  · by_cases p2 : 0 < d
    · by_cases p3 : 0 < y
      · exact late p1 p2 p3 s1 s2 s3
      · unfold Holds
        exact early6 a b c d x y W e1 f1 e2 e3 p1 p2 (by omega)
    · unfold Holds
      exact early5 a b c d x y W e1 f1 e2 e3 p1 (by omega)
  · unfold Holds
    exact early4 a b c d x y W e1 f1 e2 e3 (by omega)
end Go.Proofs.Ytblcobhjofoikaa.fracOrder
