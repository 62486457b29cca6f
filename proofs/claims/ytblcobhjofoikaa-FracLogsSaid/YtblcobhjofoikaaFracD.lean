/- What package frac's Mul, and the document's own, return: the product, if 64 bits hold it. -/
import Derived.Test.YtblcobhjofoikaaFracC
import Derived.Test.YtblcobhjofoikaaRefB01
namespace Go.Proofs.Ytblcobhjofoikaa
open Go.RowKit

def hi64 (x y : Nat) : Int := ((x * y / 18446744073709551616 : Nat) : Int)
def lo64 (x y : Nat) : Int := ((x * y % 18446744073709551616 : Nat) : Int)
theorem fMul64' (x y : Nat) (w : World) (hx : x < 18446744073709551616) (hy : y < 18446744073709551616) : Calls Try.prog 28 #[.int .u64 (x : Int), .int .u64 (y : Int)] w fun e w' => e = .returned (.tuple #[.int .u64 (hi64 x y), .int .u64 (lo64 x y)]) ∧ w = w' := fMul64 x y w hx hy

/-- When 64 bits hold the product: asked of the two halves of the product of the distances. -/
theorem in_halves (a b : Int) : (Fr.inB (a * b) = true ↔ hi64 a.natAbs b.natAbs = 0 ∧ lo64 a.natAbs b.natAbs ≤ (if (decide (a < 0)) != (decide (b < 0)) then 9223372036854775808 else 9223372036854775807)) := by
  have e : ((a * b).natAbs : Int) = hi64 a.natAbs b.natAbs * 18446744073709551616 + lo64 a.natAbs b.natAbs := by
    unfold hi64 lo64; rw [Int.natAbs_mul]; omega
  have h1 : 0 ≤ hi64 a.natAbs b.natAbs := by unfold hi64; omega
  have h2 : 0 ≤ lo64 a.natAbs b.natAbs ∧ lo64 a.natAbs b.natAbs < 18446744073709551616 := by unfold lo64; omega
  have h3 : Fr.inB (a * b) = true ↔ (-9223372036854775808 ≤ a * b ∧ a * b ≤ 9223372036854775807) := ⟨Fr.inB_true, Fr.inB_mk⟩
  rw [h3]
  generalize hi64 a.natAbs b.natAbs = hi at *
  generalize lo64 a.natAbs b.natAbs = lo at *
  by_cases ha : a < 0
  · by_cases hb : b < 0
    · have : 0 < a * b := Int.mul_pos_of_neg_of_neg ha hb
      simp [ha, hb]; omega
    · have : a * b ≤ 0 := Int.mul_nonpos_of_nonpos_of_nonneg (by omega) (by omega)
      simp [ha, hb]; omega
  · by_cases hb : b < 0
    · have : a * b ≤ 0 := Int.mul_nonpos_of_nonneg_of_nonpos (by omega) (by omega)
      simp [ha, hb]; omega
    · have : 0 ≤ a * b := Int.mul_nonneg (by omega) (by omega)
      simp [ha, hb]; omega

set_option maxHeartbeats 400000 in
theorem fMul_core (a b : Int) (w : World) (a1 : -9223372036854775808 ≤ a) (a2 : a ≤ 9223372036854775807) (b1 : -9223372036854775808 ≤ b) (b2 : b ≤ 9223372036854775807) (sa sb : Bool) (ha : decide (a < 0) = sa) (hb : decide (b < 0) = sb) : Calls Try.prog 11 #[.int .i64 a, .int .i64 b] w fun e w' => e = .returned (.tuple #[.int .i64 (Fr.mulV a b), .int .i64 (Fr.mulE a b)]) ∧ w = w' := by
  have hin := in_halves a b
  rw [ha, hb] at hin
  by_cases hh : hi64 a.natAbs b.natAbs = 0
  · by_cases hl : lo64 a.natAbs b.natAbs ≤ (if sa != sb then 9223372036854775808 else 9223372036854775807)
    · obtain ⟨g1, g2⟩ := Fr.inB_true (hin.2 ⟨hh, hl⟩)
      have H := Lib.hid (Fr.mul_yes (hin.2 ⟨hh, hl⟩))
      have k1 : (hi64 a.natAbs b.natAbs != 0) = false := by simp [hh]
      clear hin hh
      cases sa <;> cases sb <;> simp only [bne_self_eq_false, Bool.false_eq_true, if_false, Bool.bne_false, Bool.bne_true, Bool.not_false, if_true] at hl
      all_goals
        go_enter Try.func11, Try.ntmps11
        go_wp2_with (first | (go_at_call 29; refine (fDistance _ _ (by omega) (by omega)).mono ?_; rintro e w' ⟨rfl, rfl⟩) | (go_at_call 28; refine (fMul64' _ _ _ (by omega) (by omega)).mono ?_; rintro e w' ⟨rfl, rfl⟩))
        go_ret2
        rw [H.out.1, H.out.2]
        exact ⟨rfl, rfl⟩
    · have H := Lib.hid (Fr.mul_no (a := a) (b := b) (by rw [Bool.eq_false_iff]; intro e; exact hl (hin.1 e).2))
      have k1 : (hi64 a.natAbs b.natAbs != 0) = false := by simp [hh]
      clear hin hh
      cases sa <;> cases sb <;> simp only [bne_self_eq_false, Bool.false_eq_true, if_false, Bool.bne_false, Bool.bne_true, Bool.not_false, if_true] at hl
      all_goals
        go_enter Try.func11, Try.ntmps11
        go_wp2_with (first | (go_at_call 29; refine (fDistance _ _ (by omega) (by omega)).mono ?_; rintro e w' ⟨rfl, rfl⟩) | (go_at_call 28; refine (fMul64' _ _ _ (by omega) (by omega)).mono ?_; rintro e w' ⟨rfl, rfl⟩))
        go_ret2
        rw [H.out.1, H.out.2]
        exact ⟨rfl, rfl⟩
  · have H := Lib.hid (Fr.mul_no (a := a) (b := b) (by rw [Bool.eq_false_iff]; intro e; exact hh (hin.1 e).1))
    have k1 : (hi64 a.natAbs b.natAbs != 0) = true := by simp [hh]
    clear hin hh
    cases sa <;> cases sb
    all_goals
      go_enter Try.func11, Try.ntmps11
      go_wp2_with (first | (go_at_call 29; refine (fDistance _ _ (by omega) (by omega)).mono ?_; rintro e w' ⟨rfl, rfl⟩) | (go_at_call 28; refine (fMul64' _ _ _ (by omega) (by omega)).mono ?_; rintro e w' ⟨rfl, rfl⟩))
      go_ret2
      rw [H.out.1, H.out.2]
      exact ⟨rfl, rfl⟩

theorem fMul (a b : Int) (w : World) (a1 : -9223372036854775808 ≤ a) (a2 : a ≤ 9223372036854775807) (b1 : -9223372036854775808 ≤ b) (b2 : b ≤ 9223372036854775807) : Calls Try.prog 11 #[.int .i64 a, .int .i64 b] w fun e w' => e = .returned (.tuple #[.int .i64 (Fr.mulV a b), .int .i64 (Fr.mulE a b)]) ∧ w = w' :=
  fMul_core a b w a1 a2 b1 b2 _ _ rfl rfl

theorem zero_in (a b : Int) (h : a = 0 ∨ b = 0) : Fr.mulE a b = 0 ∧ Fr.mulV a b = 0 := by
  have e : a * b = 0 := by rcases h with h | h <;> simp [h]
  unfold Fr.mulE Fr.mulV
  rw [e]
  exact ⟨rfl, rfl⟩
theorem least_out (a b : Int) (h : a = -1 ∧ b = -9223372036854775808 ∨ b = -1 ∧ a = -9223372036854775808) : Fr.mulE a b = 10 ∧ Fr.mulV a b = 0 := by
  have e : a * b = 9223372036854775808 := by rcases h with ⟨h, g⟩ | ⟨h, g⟩ <;> rw [h, g] <;> rfl
  unfold Fr.mulE Fr.mulV
  rw [e]
  exact ⟨rfl, rfl⟩

set_option maxHeartbeats 400000 in
theorem rMul_zero (a b : Int) (w : World) (h : a = 0 ∨ b = 0) : Calls Try.prog 21 #[.int .i64 a, .int .i64 b] w fun e w' => e = .returned (.tuple #[.int .i64 0, .int .i64 0]) ∧ w = w' := by
  cases h1 : (a == 0)
  · have h2 : (b == 0) = true := by
      rcases h with h | h
      · simp [h] at h1
      · simp [h]
    clear h
    go_enter Try.func21, Try.ntmps21
    go_wp2
    go_ret2
    exact ⟨rfl, rfl⟩
  · clear h
    go_enter Try.func21, Try.ntmps21
    go_wp2
    go_ret2
    exact ⟨rfl, rfl⟩

set_option maxHeartbeats 400000 in
theorem rMul_least (a b : Int) (w : World) (h : a = -1 ∧ b = -9223372036854775808 ∨ b = -1 ∧ a = -9223372036854775808) : Calls Try.prog 21 #[.int .i64 a, .int .i64 b] w fun e w' => e = .returned (.tuple #[.int .i64 0, .int .i64 10]) ∧ w = w' := by
  rcases h with ⟨rfl, rfl⟩ | ⟨rfl, rfl⟩
  · go_enter Try.func21, Try.ntmps21
    go_wp2
    go_ret2
    exact ⟨rfl, rfl⟩
  · go_enter Try.func21, Try.ntmps21
    go_wp2
    go_ret2
    exact ⟨rfl, rfl⟩

def rMulOut (a b v e : Int) (w : World) : Prop := Calls Try.prog 21 #[.int .i64 a, .int .i64 b] w fun en w' => en = .returned (.tuple #[.int .i64 v, .int .i64 e]) ∧ w = w'

set_option maxHeartbeats 400000 in
theorem rMul_in (a b : Int) (w : World) (h1 : (a == 0) = false) (h2 : (b == 0) = false) (hb : ¬ b = 0) (a1 : -9223372036854775808 ≤ a) (a2 : a ≤ 9223372036854775807) (g1 : -9223372036854775808 ≤ a * b) (g2 : a * b ≤ 9223372036854775807) (s1 s2 s3 s4 : Bool) (h3 : (a == -1) = s1) (h4 : (b == -9223372036854775808) = s2) (h5 : (b == -1) = s3) (h6 : (a == -9223372036854775808) = s4) (h7 : (s1 && s2) = false) (h8 : (s3 && s4) = false) : rMulOut a b (a * b) 0 w := by
  unfold rMulOut
  cases s1 <;> cases s2 <;> simp only [Bool.and_self, Bool.and_false, Bool.false_and, Bool.true_eq_false] at h7 <;> cases s3 <;> cases s4 <;> simp only [Bool.and_self, Bool.and_false, Bool.false_and, reduceCtorEq] at h8
  all_goals
    go_enter Try.func21, Try.ntmps21
    go_wp2
    go_ret2
    exact ⟨rfl, rfl⟩

set_option maxHeartbeats 400000 in
theorem rMul_over (a b : Int) (w : World) (h1 : (a == 0) = false) (h2 : (b == 0) = false) (hb : ¬ b = 0) (hq : (wrap64 ((wrap64 (a * b)).tdiv b) != a) = true) (s1 s2 s3 s4 : Bool) (h3 : (a == -1) = s1) (h4 : (b == -9223372036854775808) = s2) (h5 : (b == -1) = s3) (h6 : (a == -9223372036854775808) = s4) (h7 : (s1 && s2) = false) (h8 : (s3 && s4) = false) : rMulOut a b 0 10 w := by
  unfold rMulOut
  cases s1 <;> cases s2 <;> simp only [Bool.and_self, Bool.and_false, Bool.false_and, Bool.true_eq_false] at h7 <;> cases s3 <;> cases s4 <;> simp only [Bool.and_self, Bool.and_false, Bool.false_and, reduceCtorEq] at h8
  all_goals
    go_enter Try.func21, Try.ntmps21
    go_wp2
    go_ret2
    exact ⟨rfl, rfl⟩

theorem rMul (a b : Int) (w : World) (a1 : -9223372036854775808 ≤ a) (a2 : a ≤ 9223372036854775807) (b1 : -9223372036854775808 ≤ b) (b2 : b ≤ 9223372036854775807) : Calls Try.prog 21 #[.int .i64 a, .int .i64 b] w fun e w' => e = .returned (.tuple #[.int .i64 (Fr.mulV a b), .int .i64 (Fr.mulE a b)]) ∧ w = w' := by
  by_cases h0 : a = 0 ∨ b = 0
  · rw [(zero_in a b h0).1, (zero_in a b h0).2]
    exact rMul_zero a b w h0
  by_cases hl : a = -1 ∧ b = -9223372036854775808 ∨ b = -1 ∧ a = -9223372036854775808
  · rw [(least_out a b hl).1, (least_out a b hl).2]
    exact rMul_least a b w hl
  have k1 : (a == 0) = false := by simp; omega
  have k2 : (b == 0) = false := by simp; omega
  have k7 : (a == -1 && b == -9223372036854775808) = false := by simp; omega
  have k8 : (b == -1 && a == -9223372036854775808) = false := by simp; omega
  cases hin : Fr.inB (a * b)
  · rw [(Fr.mul_no hin).1, (Fr.mul_no hin).2]
    have hq := Fr.mul_over a b a1 a2 b1 b2 (by omega) hin (by omega)
    exact rMul_over a b w k1 k2 (by omega) (by simpa using hq) _ _ _ _ rfl rfl rfl rfl k7 k8
  · rw [(Fr.mul_yes hin).1, (Fr.mul_yes hin).2]
    exact rMul_in a b w k1 k2 (by omega) a1 a2 (Fr.inB_true hin).1 (Fr.inB_true hin).2 _ _ _ _ rfl rfl rfl rfl k7 k8
end Go.Proofs.Ytblcobhjofoikaa
