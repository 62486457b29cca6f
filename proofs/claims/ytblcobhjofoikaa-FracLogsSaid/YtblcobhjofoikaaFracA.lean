/- What package frac's small functions return: Power, Add, Down, Up: each is its plain function; no memory is touched. -/
import Derived.Test.YtblcobhjofoikaaRows
import Derived.Test.YtblcobhjofoikaaFn01
import Derived.WalkKit
import Derived.WalkSpells
import Derived.WalkLawsBesides
import Derived.Lib.Hide
import Derived.WalkMore
import Derived.ScopeJumps
namespace Go.Proofs.Ytblcobhjofoikaa
open Go.RowKit

set_option maxHeartbeats 400000 in
theorem fPower (n : Int) (w : World) (h2 : n ≤ 9223372036854775807) : Calls Try.prog 16 #[.int .i64 n] w fun e w' => e = .returned (.bool (Fr.powB n)) ∧ w = w' := by
  by_cases hn : n < 1
  · have H := Lib.hid (Fr.powB_not (n := n) (by omega))
    go_enter Try.func16, Try.ntmps16
    go_wp2
    go_ret
    rw [H.out]
    exact ⟨rfl, rfl⟩
  · have H := Lib.hid (Fr.powB_and n (by omega) h2)
    go_enter Try.func16, Try.ntmps16
    go_wp2
    go_ret
    rw [H.out]
    exact ⟨rfl, rfl⟩

def DownJ (w : World) (n : Int) (a' : Act) (w' : World) : Prop :=
  w = w' ∧ ∃ (x : Int) (j : Nat) (u5 u6 u7 u8 u9 u10 u11 u12 u13 : Value), a' = { tmps := #[.int .i64 x, undef, .int .i64 0, .int .i64 0, .int .i64 j, u5, u6, u7, u8, u9, u10, u11, u12, u13], defers := [] } ∧ 1 ≤ x ∧ x ≤ 9223372036854775807 ∧ Fr.lg x + j = Fr.lg n
def DownM (a' : Act) (_ : World) : Nat := (intOf (a'.tmps.getD 0 undef)).toNat

set_option maxHeartbeats 400000 in
theorem fDown (n : Int) (w : World) (h2 : n ≤ 9223372036854775807) : Calls Try.prog 13 #[.int .i64 n] w fun e w' => e = .returned (.tuple #[.int .i64 (Fr.downV n), .int .i64 (Fr.downE n)]) ∧ w = w' := by
  by_cases hn : n < 1
  · have H2 := Lib.hid (Fr.down_no hn)
    go_enter Try.func13, Try.ntmps13
    go_wp2
    go_step3
    go_wp2
    rw [Exit.noGoto_ret]
    go_ret2
    rw [H2.out.1, H2.out.2]
    exact ⟨rfl, rfl⟩
  · have H2 := Lib.hid (Fr.down_yes (n := n) (by omega))
    have hb := Fr.lg_le n h2
    go_enter Try.func13, Try.ntmps13
    go_wp2
    refine wp_scope_jumps 0 (DownJ w n) DownM rfl ?_ ?_
    · go_wp2
      go_step3
      go_wp2
      · go_step3
        refine ⟨rfl, rfl, n / 2, 1, _, _, _, _, _, _, _, _, _, rfl, by omega, by omega, ?_⟩
        rw [Fr.lg_half n (by omega)]; rfl
      · simp only [Exit.jump]
        go_ret2
        have hx0 : n = 1 := by omega
        rw [H2.out.1, H2.out.2, hx0, Fr.lg_one]
        exact ⟨rfl, rfl⟩
    · rintro a' w' ⟨rfl, x, j, u5, u6, u7, u8, u9, u10, u11, u12, u13, rfl, hx1, hx2, hj⟩
      have hx := Fr.lg_nonneg x
      have hj2 : (j : Int) ≤ 62 := by omega
      have HJ := Lib.hid hj
      clear hj
      go_wp2
      · go_step3
        refine ⟨rfl, ⟨rfl, x / 2, j + 1, _, _, _, _, _, _, _, _, _, rfl, by omega, by omega, ?_⟩, ?_⟩
        · have := HJ.out
          have := Fr.lg_half x (by omega)
          omega
        · simp [DownM, intOf]; omega
      · simp only [Exit.jump]
        go_ret2
        have hx0 : x = 1 := by omega
        have := HJ.out
        rw [hx0, Fr.lg_one] at this
        rw [H2.out.1, H2.out.2, ← this]
        simp

set_option maxHeartbeats 400000 in
theorem fUp (n : Int) (w : World) (h2 : n ≤ 9223372036854775807) : Calls Try.prog 14 #[.int .i64 n] w fun e w' => e = .returned (.tuple #[.int .i64 (Fr.upV n), .int .i64 (Fr.downE n)]) ∧ w = w' := by
  by_cases hn : n < 1
  · have H2 := Lib.hid (Fr.down_no hn)
    have H1 := Lib.hid (Fr.up_no hn)
    go_enter Try.func14, Try.ntmps14
    go_wp2_with (go_at_call 13; refine (fDown _ _ (by omega)).mono ?_; rw [H2.out.1, H2.out.2]; rintro e w' ⟨rfl, rfl⟩)
    go_ret2
    rw [H1.out, H2.out.1]
    exact ⟨rfl, rfl⟩
  · have H2 := Lib.hid (Fr.down_yes (n := n) (by omega))
    have hb := Fr.lg_le n h2
    have hc := Fr.lg_nonneg n
    cases hp : Fr.powB n
    · have H1 := Lib.hid (show Fr.upV n = Fr.lg n + 1 by simp [Fr.upV, hp, hn])
      go_enter Try.func14, Try.ntmps14
      go_wp2_with (first | (go_at_call 13; refine (fDown _ _ (by omega)).mono ?_; rw [H2.out.1, H2.out.2]; rintro e w' ⟨rfl, rfl⟩) | (go_at_call 16; refine (fPower _ _ (by omega)).mono ?_; rintro e w' ⟨rfl, rfl⟩))
      go_ret2
      rw [H1.out, H2.out.1]
      exact ⟨rfl, rfl⟩
    · have H1 := Lib.hid (show Fr.upV n = Fr.lg n by simp [Fr.upV, hp, hn])
      go_enter Try.func14, Try.ntmps14
      go_wp2_with (first | (go_at_call 13; refine (fDown _ _ (by omega)).mono ?_; rw [H2.out.1, H2.out.2]; rintro e w' ⟨rfl, rfl⟩) | (go_at_call 16; refine (fPower _ _ (by omega)).mono ?_; rintro e w' ⟨rfl, rfl⟩))
      go_ret2
      rw [H1.out, H2.out.1]
      exact ⟨rfl, rfl⟩

set_option maxHeartbeats 400000 in
theorem fAdd (a b : Int) (w : World) (a1 : -9223372036854775808 ≤ a) (a2 : a ≤ 9223372036854775807) (b1 : -9223372036854775808 ≤ b) (b2 : b ≤ 9223372036854775807) : Calls Try.prog 12 #[.int .i64 a, .int .i64 b] w fun e w' => e = .returned (.tuple #[.int .i64 (Fr.addV a b), .int .i64 (Fr.addE a b)]) ∧ w = w' := by
  cases h : Fr.inB (a + b)
  · rw [(Fr.add_no h).1, (Fr.add_no h).2]
    have hh := Fr.inB_false h
    clear h
    by_cases h1 : a < 0
    · have h2 : b < 0 := by omega
      have h3 : decide (wrap64 (a + b) < 0) = false := by simp only [wrap64, decide_eq_false_iff_not]; omega
      clear hh
      go_enter Try.func12, Try.ntmps12
      go_wp2
      go_ret2
      exact ⟨rfl, rfl⟩
    · have h2 : decide (b < 0) = false := by simp only [decide_eq_false_iff_not]; omega
      have h3 : wrap64 (a + b) < 0 := by simp only [wrap64]; omega
      clear hh
      go_enter Try.func12, Try.ntmps12
      go_wp2
      go_ret2
      exact ⟨rfl, rfl⟩
  · rw [(Fr.add_yes h).1, (Fr.add_yes h).2]
    obtain ⟨g1, g2⟩ := Fr.inB_true h
    clear h
    by_cases h1 : a < 0
    · by_cases h2 : b < 0
      · have h3 : a + b < 0 := by omega
        go_enter Try.func12, Try.ntmps12
        go_wp2
        go_ret2
        exact ⟨rfl, rfl⟩
      · go_enter Try.func12, Try.ntmps12
        go_wp2
        go_ret2
        exact ⟨rfl, rfl⟩
    · by_cases h2 : b < 0
      · go_enter Try.func12, Try.ntmps12
        go_wp2
        go_ret2
        exact ⟨rfl, rfl⟩
      · have h3 : 0 ≤ a + b := by omega
        go_enter Try.func12, Try.ntmps12
        go_wp2
        go_ret2
        exact ⟨rfl, rfl⟩
end Go.Proofs.Ytblcobhjofoikaa
