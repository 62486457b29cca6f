/- The walk of the law FracLogs: a number lies between the powers of its logarithms. -/
import Derived.Test.YtblcobhjofoikaaLaw01
namespace Go.Proofs.Ytblcobhjofoikaa.fracLogs
open Go.RowKit
set_option linter.unusedVariables false

set_option maxHeartbeats 1000000 in
theorem w_no (n : Int) (W : World) (h1 : n < 1) (d1 : Fr.downE n = 2) (d2 : Fr.downV n = 0) (d3 : Fr.upV n = 0) (d4 : Fr.powB n = false) :
    Calls Try.prog 7 #[.int .i64 n] W fun e w' => e = .returned (.bool true) ∧ Below W.heap.size W w' := by
  go_enter Try.func7, Try.ntmps7
  go_wp2_with (first | (go_at_call 15; refine (lAlive _).mono ?_; rintro e w1 ⟨rfl, hb⟩) | (go_at_call 14; refine (fUp _ _ (by omega)).mono ?_; rintro e w1 ⟨rfl, rfl⟩) | (go_at_call 13; refine (fDown _ _ (by omega)).mono ?_; rintro e w1 ⟨rfl, rfl⟩) | (go_at_call 16; refine (fPower _ _ (by omega)).mono ?_; rintro e w1 ⟨rfl, rfl⟩))
  go_ret
  exact ⟨rfl, hb⟩

set_option maxHeartbeats 1000000 in
theorem w_pow (n L : Int) (W : World) (h1 : 1 ≤ n) (h2 : n ≤ 9223372036854775807) (l1 : 0 ≤ L) (l2 : L ≤ 62) (d1 : Fr.downE n = 0) (d2 : Fr.downV n = L) (d3 : Fr.upV n = L) (d4 : Fr.powB n = true) (p1 : 2 ^ L.toNat ≤ n) (p2 : n < 2 * 2 ^ L.toNat) (p3 : (n == 2 ^ L.toNat) = true) :
    Calls Try.prog 7 #[.int .i64 n] W fun e w' => e = .returned (.bool true) ∧ Below W.heap.size W w' := by
  go_enter Try.func7, Try.ntmps7
  go_wp2_with (first | (go_at_call 15; refine (lAlive _).mono ?_; rintro e w1 ⟨rfl, hb⟩) | (go_at_call 14; refine (fUp _ _ (by omega)).mono ?_; rintro e w1 ⟨rfl, rfl⟩) | (go_at_call 13; refine (fDown _ _ (by omega)).mono ?_; rintro e w1 ⟨rfl, rfl⟩) | (go_at_call 16; refine (fPower _ _ (by omega)).mono ?_; rintro e w1 ⟨rfl, rfl⟩))
  go_ret
  exact ⟨rfl, hb⟩

set_option maxHeartbeats 1000000 in
theorem w_not (n L : Int) (W : World) (h1 : 1 ≤ n) (h2 : n ≤ 9223372036854775807) (l1 : 0 ≤ L) (l2 : L ≤ 62) (d1 : Fr.downE n = 0) (d2 : Fr.downV n = L) (d3 : Fr.upV n = L + 1) (d4 : Fr.powB n = false) (p1 : 2 ^ L.toNat ≤ n) (p2 : n < 2 * 2 ^ L.toNat) (p3 : (n == 2 ^ L.toNat) = false) (p4 : (L + 1 == L) = false) :
    Calls Try.prog 7 #[.int .i64 n] W fun e w' => e = .returned (.bool true) ∧ Below W.heap.size W w' := by
  go_enter Try.func7, Try.ntmps7
  go_wp2_with (first | (go_at_call 15; refine (lAlive _).mono ?_; rintro e w1 ⟨rfl, hb⟩) | (go_at_call 14; refine (fUp _ _ (by omega)).mono ?_; rintro e w1 ⟨rfl, rfl⟩) | (go_at_call 13; refine (fDown _ _ (by omega)).mono ?_; rintro e w1 ⟨rfl, rfl⟩) | (go_at_call 16; refine (fPower _ _ (by omega)).mono ?_; rintro e w1 ⟨rfl, rfl⟩))
  go_ret
  exact ⟨rfl, hb⟩

theorem walk (n : Int) (W : World) (_ : -9223372036854775808 ≤ n) (h2 : n ≤ 9223372036854775807) :
    Calls Try.prog 7 #[.int .i64 n] W fun e w' => e = .returned (.bool true) ∧ Below W.heap.size W w' := by
  by_cases h1 : n < 1
  · obtain ⟨d1, d2⟩ := Fr.down_no h1
    exact w_no n W h1 d1 d2 (Fr.up_no h1) (Fr.powB_not (by omega))
  · obtain ⟨d1, d2⟩ := Fr.down_yes (n := n) (by omega)
    obtain ⟨p1, p2⟩ := Fr.lg_pow n (by omega)
    have pw := Fr.powB_pow n (by omega)
    cases hp : Fr.powB n
    · refine w_not n (Fr.lg n) W (by omega) h2 (Fr.lg_nonneg n) (Fr.lg_le n h2) d1 d2 (by simp [Fr.upV, h1, hp]) hp p1 p2 ?_ (by rw [beq_eq_false_iff_ne]; omega)
      rw [hp] at pw
      rw [Bool.eq_false_iff]
      intro e
      rw [beq_iff_eq] at e
      rw [← e] at pw
      simp at pw
    · refine w_pow n (Fr.lg n) W (by omega) h2 (Fr.lg_nonneg n) (Fr.lg_le n h2) d1 d2 (by simp [Fr.upV, h1, hp]) hp p1 p2 ?_
      rw [hp] at pw
      rw [beq_iff_eq]
      exact (beq_iff_eq.1 pw.symm).symm
end Go.Proofs.Ytblcobhjofoikaa.fracLogs
