/- The walk of the law FracSafe: sums and products that are told are undone. -/
import Derived.Test.YtblcobhjofoikaaLaw01
namespace Go.Proofs.Ytblcobhjofoikaa.fracSafe
open Go.RowKit
set_option linter.unusedVariables false

theorem addV_comm (a b : Int) : Fr.addV b a = Fr.addV a b := by unfold Fr.addV; rw [Int.add_comm]
theorem addE_comm (a b : Int) : Fr.addE b a = Fr.addE a b := by unfold Fr.addE; rw [Int.add_comm]
theorem mulV_comm (a b : Int) : Fr.mulV b a = Fr.mulV a b := by unfold Fr.mulV; rw [Int.mul_comm]
theorem mulE_comm (a b : Int) : Fr.mulE b a = Fr.mulE a b := by unfold Fr.mulE; rw [Int.mul_comm]

set_option maxHeartbeats 1000000 in
theorem w_no_no (a b : Int) (W : World) (a1 : -9223372036854775808 ≤ a) (a2 : a ≤ 9223372036854775807) (b1 : -9223372036854775808 ≤ b) (b2 : b ≤ 9223372036854775807) (e1 : Fr.addE a b = 10) (v1 : Fr.addV a b = 0) (e2 : Fr.addE b a = 10) (v2 : Fr.addV b a = 0) (e3 : Fr.mulE a b = 10) (v3 : Fr.mulV a b = 0) (e4 : Fr.mulE b a = 10) (v4 : Fr.mulV b a = 0) :
    Calls Try.prog 8 #[.int .i64 a, .int .i64 b] W fun e w' => e = .returned (.bool true) ∧ Below W.heap.size W w' := by
  go_enter Try.func8, Try.ntmps8
  go_wp2_with (first | (go_at_call 15; refine (lAlive _).mono ?_; rintro e w1 ⟨rfl, hb⟩) | (go_at_call 12; refine (fAdd _ _ _ (by omega) (by omega) (by omega) (by omega)).mono ?_; rintro e w1 ⟨rfl, rfl⟩) | (go_at_call 11; refine (fMul _ _ _ (by omega) (by omega) (by omega) (by omega)).mono ?_; rintro e w1 ⟨rfl, rfl⟩))
  go_ret
  exact ⟨rfl, hb⟩

set_option maxHeartbeats 1000000 in
theorem w_no_yes (a b : Int) (W : World) (a1 : -9223372036854775808 ≤ a) (a2 : a ≤ 9223372036854775807) (b1 : -9223372036854775808 ≤ b) (b2 : b ≤ 9223372036854775807) (e1 : Fr.addE a b = 10) (v1 : Fr.addV a b = 0) (e2 : Fr.addE b a = 10) (v2 : Fr.addV b a = 0) (e3 : Fr.mulE a b = 0) (v3 : Fr.mulV a b = a * b) (e4 : Fr.mulE b a = 0) (v4 : Fr.mulV b a = a * b) (g3 : -9223372036854775808 ≤ a * b) (g4 : a * b ≤ 9223372036854775807) (z1 : (b == 0) = false) (z2 : (b != 0) = true) (z3 : ¬ b = 0) :
    Calls Try.prog 8 #[.int .i64 a, .int .i64 b] W fun e w' => e = .returned (.bool true) ∧ Below W.heap.size W w' := by
  go_enter Try.func8, Try.ntmps8
  go_wp2_with (first | (go_at_call 15; refine (lAlive _).mono ?_; rintro e w1 ⟨rfl, hb⟩) | (go_at_call 12; refine (fAdd _ _ _ (by omega) (by omega) (by omega) (by omega)).mono ?_; rintro e w1 ⟨rfl, rfl⟩) | (go_at_call 11; refine (fMul _ _ _ (by omega) (by omega) (by omega) (by omega)).mono ?_; rintro e w1 ⟨rfl, rfl⟩))
  go_ret
  exact ⟨rfl, hb⟩

set_option maxHeartbeats 1000000 in
theorem w_no_zero (a b : Int) (W : World) (a1 : -9223372036854775808 ≤ a) (a2 : a ≤ 9223372036854775807) (b1 : -9223372036854775808 ≤ b) (b2 : b ≤ 9223372036854775807) (e1 : Fr.addE a b = 10) (v1 : Fr.addV a b = 0) (e2 : Fr.addE b a = 10) (v2 : Fr.addV b a = 0) (e3 : Fr.mulE a b = 0) (v3 : Fr.mulV a b = 0) (e4 : Fr.mulE b a = 0) (v4 : Fr.mulV b a = 0) (z1 : (b == 0) = true) :
    Calls Try.prog 8 #[.int .i64 a, .int .i64 b] W fun e w' => e = .returned (.bool true) ∧ Below W.heap.size W w' := by
  go_enter Try.func8, Try.ntmps8
  go_wp2_with (first | (go_at_call 15; refine (lAlive _).mono ?_; rintro e w1 ⟨rfl, hb⟩) | (go_at_call 12; refine (fAdd _ _ _ (by omega) (by omega) (by omega) (by omega)).mono ?_; rintro e w1 ⟨rfl, rfl⟩) | (go_at_call 11; refine (fMul _ _ _ (by omega) (by omega) (by omega) (by omega)).mono ?_; rintro e w1 ⟨rfl, rfl⟩))
  go_ret
  exact ⟨rfl, hb⟩

set_option maxHeartbeats 1000000 in
theorem w_pos_no (a b : Int) (W : World) (a1 : -9223372036854775808 ≤ a) (a2 : a ≤ 9223372036854775807) (b1 : -9223372036854775808 ≤ b) (b2 : b ≤ 9223372036854775807) (e1 : Fr.addE a b = 0) (v1 : Fr.addV a b = a + b) (e2 : Fr.addE b a = 0) (v2 : Fr.addV b a = a + b) (g1 : -9223372036854775808 ≤ a + b) (g2 : a + b ≤ 9223372036854775807) (k1 : decide (0 ≤ b) = true) (k2 : decide (a ≤ a + b) = true) (e3 : Fr.mulE a b = 10) (v3 : Fr.mulV a b = 0) (e4 : Fr.mulE b a = 10) (v4 : Fr.mulV b a = 0) :
    Calls Try.prog 8 #[.int .i64 a, .int .i64 b] W fun e w' => e = .returned (.bool true) ∧ Below W.heap.size W w' := by
  go_enter Try.func8, Try.ntmps8
  go_wp2_with (first | (go_at_call 15; refine (lAlive _).mono ?_; rintro e w1 ⟨rfl, hb⟩) | (go_at_call 12; refine (fAdd _ _ _ (by omega) (by omega) (by omega) (by omega)).mono ?_; rintro e w1 ⟨rfl, rfl⟩) | (go_at_call 11; refine (fMul _ _ _ (by omega) (by omega) (by omega) (by omega)).mono ?_; rintro e w1 ⟨rfl, rfl⟩))
  go_ret
  exact ⟨rfl, hb⟩

set_option maxHeartbeats 1000000 in
theorem w_pos_yes (a b : Int) (W : World) (a1 : -9223372036854775808 ≤ a) (a2 : a ≤ 9223372036854775807) (b1 : -9223372036854775808 ≤ b) (b2 : b ≤ 9223372036854775807) (e1 : Fr.addE a b = 0) (v1 : Fr.addV a b = a + b) (e2 : Fr.addE b a = 0) (v2 : Fr.addV b a = a + b) (g1 : -9223372036854775808 ≤ a + b) (g2 : a + b ≤ 9223372036854775807) (k1 : decide (0 ≤ b) = true) (k2 : decide (a ≤ a + b) = true) (e3 : Fr.mulE a b = 0) (v3 : Fr.mulV a b = a * b) (e4 : Fr.mulE b a = 0) (v4 : Fr.mulV b a = a * b) (g3 : -9223372036854775808 ≤ a * b) (g4 : a * b ≤ 9223372036854775807) (z1 : (b == 0) = false) (z2 : (b != 0) = true) (z3 : ¬ b = 0) :
    Calls Try.prog 8 #[.int .i64 a, .int .i64 b] W fun e w' => e = .returned (.bool true) ∧ Below W.heap.size W w' := by
  go_enter Try.func8, Try.ntmps8
  go_wp2_with (first | (go_at_call 15; refine (lAlive _).mono ?_; rintro e w1 ⟨rfl, hb⟩) | (go_at_call 12; refine (fAdd _ _ _ (by omega) (by omega) (by omega) (by omega)).mono ?_; rintro e w1 ⟨rfl, rfl⟩) | (go_at_call 11; refine (fMul _ _ _ (by omega) (by omega) (by omega) (by omega)).mono ?_; rintro e w1 ⟨rfl, rfl⟩))
  go_ret
  exact ⟨rfl, hb⟩

set_option maxHeartbeats 1000000 in
theorem w_pos_zero (a b : Int) (W : World) (a1 : -9223372036854775808 ≤ a) (a2 : a ≤ 9223372036854775807) (b1 : -9223372036854775808 ≤ b) (b2 : b ≤ 9223372036854775807) (e1 : Fr.addE a b = 0) (v1 : Fr.addV a b = a + b) (e2 : Fr.addE b a = 0) (v2 : Fr.addV b a = a + b) (g1 : -9223372036854775808 ≤ a + b) (g2 : a + b ≤ 9223372036854775807) (k1 : decide (0 ≤ b) = true) (k2 : decide (a ≤ a + b) = true) (e3 : Fr.mulE a b = 0) (v3 : Fr.mulV a b = 0) (e4 : Fr.mulE b a = 0) (v4 : Fr.mulV b a = 0) (z1 : (b == 0) = true) :
    Calls Try.prog 8 #[.int .i64 a, .int .i64 b] W fun e w' => e = .returned (.bool true) ∧ Below W.heap.size W w' := by
  go_enter Try.func8, Try.ntmps8
  go_wp2_with (first | (go_at_call 15; refine (lAlive _).mono ?_; rintro e w1 ⟨rfl, hb⟩) | (go_at_call 12; refine (fAdd _ _ _ (by omega) (by omega) (by omega) (by omega)).mono ?_; rintro e w1 ⟨rfl, rfl⟩) | (go_at_call 11; refine (fMul _ _ _ (by omega) (by omega) (by omega) (by omega)).mono ?_; rintro e w1 ⟨rfl, rfl⟩))
  go_ret
  exact ⟨rfl, hb⟩

set_option maxHeartbeats 1000000 in
theorem w_neg_no (a b : Int) (W : World) (a1 : -9223372036854775808 ≤ a) (a2 : a ≤ 9223372036854775807) (b1 : -9223372036854775808 ≤ b) (b2 : b ≤ 9223372036854775807) (e1 : Fr.addE a b = 0) (v1 : Fr.addV a b = a + b) (e2 : Fr.addE b a = 0) (v2 : Fr.addV b a = a + b) (g1 : -9223372036854775808 ≤ a + b) (g2 : a + b ≤ 9223372036854775807) (k1 : decide (0 ≤ b) = false) (k2 : decide (a ≤ a + b) = false) (e3 : Fr.mulE a b = 10) (v3 : Fr.mulV a b = 0) (e4 : Fr.mulE b a = 10) (v4 : Fr.mulV b a = 0) :
    Calls Try.prog 8 #[.int .i64 a, .int .i64 b] W fun e w' => e = .returned (.bool true) ∧ Below W.heap.size W w' := by
  go_enter Try.func8, Try.ntmps8
  go_wp2_with (first | (go_at_call 15; refine (lAlive _).mono ?_; rintro e w1 ⟨rfl, hb⟩) | (go_at_call 12; refine (fAdd _ _ _ (by omega) (by omega) (by omega) (by omega)).mono ?_; rintro e w1 ⟨rfl, rfl⟩) | (go_at_call 11; refine (fMul _ _ _ (by omega) (by omega) (by omega) (by omega)).mono ?_; rintro e w1 ⟨rfl, rfl⟩))
  go_ret
  exact ⟨rfl, hb⟩

set_option maxHeartbeats 1000000 in
theorem w_neg_yes (a b : Int) (W : World) (a1 : -9223372036854775808 ≤ a) (a2 : a ≤ 9223372036854775807) (b1 : -9223372036854775808 ≤ b) (b2 : b ≤ 9223372036854775807) (e1 : Fr.addE a b = 0) (v1 : Fr.addV a b = a + b) (e2 : Fr.addE b a = 0) (v2 : Fr.addV b a = a + b) (g1 : -9223372036854775808 ≤ a + b) (g2 : a + b ≤ 9223372036854775807) (k1 : decide (0 ≤ b) = false) (k2 : decide (a ≤ a + b) = false) (e3 : Fr.mulE a b = 0) (v3 : Fr.mulV a b = a * b) (e4 : Fr.mulE b a = 0) (v4 : Fr.mulV b a = a * b) (g3 : -9223372036854775808 ≤ a * b) (g4 : a * b ≤ 9223372036854775807) (z1 : (b == 0) = false) (z2 : (b != 0) = true) (z3 : ¬ b = 0) :
    Calls Try.prog 8 #[.int .i64 a, .int .i64 b] W fun e w' => e = .returned (.bool true) ∧ Below W.heap.size W w' := by
  go_enter Try.func8, Try.ntmps8
  go_wp2_with (first | (go_at_call 15; refine (lAlive _).mono ?_; rintro e w1 ⟨rfl, hb⟩) | (go_at_call 12; refine (fAdd _ _ _ (by omega) (by omega) (by omega) (by omega)).mono ?_; rintro e w1 ⟨rfl, rfl⟩) | (go_at_call 11; refine (fMul _ _ _ (by omega) (by omega) (by omega) (by omega)).mono ?_; rintro e w1 ⟨rfl, rfl⟩))
  go_ret
  exact ⟨rfl, hb⟩

theorem walk (a b : Int) (W : World) (a1 : -9223372036854775808 ≤ a) (a2 : a ≤ 9223372036854775807) (b1 : -9223372036854775808 ≤ b) (b2 : b ≤ 9223372036854775807) :
    Calls Try.prog 8 #[.int .i64 a, .int .i64 b] W fun e w' => e = .returned (.bool true) ∧ Below W.heap.size W w' := by
  have c1 := addE_comm a b
  have c2 := addV_comm a b
  have c3 := mulE_comm a b
  have c4 := mulV_comm a b
  cases ha : Fr.inB (a + b)
  · obtain ⟨e1, v1⟩ := Fr.add_no ha
    by_cases hz : b = 0
    · obtain ⟨e3, v3⟩ := zero_in a b (Or.inr hz)
      exact w_no_zero a b W a1 a2 b1 b2 e1 v1 (c1.trans e1) (c2.trans v1) e3 v3 (c3.trans e3) (c4.trans v3) (by simp [hz])
    · cases hm : Fr.inB (a * b)
      · obtain ⟨e3, v3⟩ := Fr.mul_no hm
        exact w_no_no a b W a1 a2 b1 b2 e1 v1 (c1.trans e1) (c2.trans v1) e3 v3 (c3.trans e3) (c4.trans v3)
      · obtain ⟨e3, v3⟩ := Fr.mul_yes hm
        exact w_no_yes a b W a1 a2 b1 b2 e1 v1 (c1.trans e1) (c2.trans v1) e3 v3 (c3.trans e3) (c4.trans v3) (Fr.inB_true hm).1 (Fr.inB_true hm).2 (by simp [hz]) (by simp [hz]) hz
  · obtain ⟨e1, v1⟩ := Fr.add_yes ha
    have g1 := (Fr.inB_true ha).1
    have g2 := (Fr.inB_true ha).2
    by_cases hp : 0 ≤ b
    · have k1 : decide (0 ≤ b) = true := by simp [hp]
      have k2 : decide (a ≤ a + b) = true := by simp; omega
      by_cases hz : b = 0
      · obtain ⟨e3, v3⟩ := zero_in a b (Or.inr hz)
        exact w_pos_zero a b W a1 a2 b1 b2 e1 v1 (c1.trans e1) (c2.trans v1) g1 g2 k1 k2 e3 v3 (c3.trans e3) (c4.trans v3) (by simp [hz])
      · cases hm : Fr.inB (a * b)
        · obtain ⟨e3, v3⟩ := Fr.mul_no hm
          exact w_pos_no a b W a1 a2 b1 b2 e1 v1 (c1.trans e1) (c2.trans v1) g1 g2 k1 k2 e3 v3 (c3.trans e3) (c4.trans v3)
        · obtain ⟨e3, v3⟩ := Fr.mul_yes hm
          exact w_pos_yes a b W a1 a2 b1 b2 e1 v1 (c1.trans e1) (c2.trans v1) g1 g2 k1 k2 e3 v3 (c3.trans e3) (c4.trans v3) (Fr.inB_true hm).1 (Fr.inB_true hm).2 (by simp [hz]) (by simp [hz]) hz
    · have k1 : decide (0 ≤ b) = false := by simpa using hp
      have k2 : decide (a ≤ a + b) = false := by simp; omega
      have hz : ¬ b = 0 := by omega
      cases hm : Fr.inB (a * b)
      · obtain ⟨e3, v3⟩ := Fr.mul_no hm
        exact w_neg_no a b W a1 a2 b1 b2 e1 v1 (c1.trans e1) (c2.trans v1) g1 g2 k1 k2 e3 v3 (c3.trans e3) (c4.trans v3)
      · obtain ⟨e3, v3⟩ := Fr.mul_yes hm
        exact w_neg_yes a b W a1 a2 b1 b2 e1 v1 (c1.trans e1) (c2.trans v1) g1 g2 k1 k2 e3 v3 (c3.trans e3) (c4.trans v3) (Fr.inB_true hm).1 (Fr.inB_true hm).2 (by simp [hz]) (by simp [hz]) hz
end Go.Proofs.Ytblcobhjofoikaa.fracSafe
