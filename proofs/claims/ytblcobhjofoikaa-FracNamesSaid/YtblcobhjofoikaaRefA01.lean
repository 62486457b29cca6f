/- What the document's own answers of layer 1 (package shelfmarkref01) return: each is its plain function; no memory is touched. -/
import Derived.Test.YtblcobhjofoikaaRows
import Derived.Test.YtblcobhjofoikaaFn01
import Derived.WalkKit
import Derived.WalkSpells
import Derived.WalkLawsBesides
import Derived.Lib.Hide
namespace Go.Proofs.Ytblcobhjofoikaa
open Go.RowKit

set_option maxHeartbeats 400000 in
theorem rSmall (n : Int) (w : World) : Calls Try.prog 30 #[.int .i64 n] w fun e w' => e = .returned (.bool (Fr.smallB n)) ∧ w = w' := by
  by_cases h1 : -67108864 < n
  · by_cases h2 : n < 67108864
    · have H := Lib.hid (Fr.small_mk h1 h2)
      go_enter Try.func30, Try.ntmps30
      go_wp2
      go_ret
      rw [H.out]
      exact ⟨rfl, rfl⟩
    · have H := Lib.hid (Fr.small_not (n := n) (by omega))
      go_enter Try.func30, Try.ntmps30
      go_wp2
      go_ret
      rw [H.out]
      exact ⟨rfl, rfl⟩
  · have H := Lib.hid (Fr.small_not (n := n) (by omega))
    go_enter Try.func30, Try.ntmps30
    go_wp2
    go_ret
    rw [H.out]
    exact ⟨rfl, rfl⟩

set_option maxHeartbeats 400000 in
theorem rSign (z : Int) (w : World) : Calls Try.prog 31 #[.int .i64 z] w fun e w' => e = .returned (.int .i64 (Fr.sgn z)) ∧ w = w' := by
  by_cases h1 : z < 0
  · have H := Lib.hid (show Fr.sgn z = -1 by simp [Fr.sgn, h1])
    go_enter Try.func31, Try.ntmps31
    go_wp2
    go_ret
    rw [H.out]
    exact ⟨rfl, rfl⟩
  · by_cases h2 : 0 < z
    · have H := Lib.hid (show Fr.sgn z = 1 by simp [Fr.sgn, h1, h2])
      go_enter Try.func31, Try.ntmps31
      go_wp2
      go_ret
      rw [H.out]
      exact ⟨rfl, rfl⟩
    · have H := Lib.hid (show Fr.sgn z = 0 by simp [Fr.sgn, h1, h2])
      go_enter Try.func31, Try.ntmps31
      go_wp2
      go_ret
      rw [H.out]
      exact ⟨rfl, rfl⟩

theorem crossE_no {a b c d : Int} (h : Fr.small4 a b c d = false) : Fr.crossE a b c d = 10 := by simp [Fr.crossE, h]
theorem crossV_no {a b c d : Int} (h : Fr.small4 a b c d = false) : Fr.crossV a b c d = 0 := by simp [Fr.crossV, h]
theorem crossE_yes {a b c d : Int} (h : Fr.small4 a b c d = true) : Fr.crossE a b c d = 0 := by simp [Fr.crossE, h]
theorem crossV_yes {a b c d : Int} (h : Fr.small4 a b c d = true) : Fr.crossV a b c d = Fr.sgn (a * d - b * c) := by simp [Fr.crossV, h]

set_option maxHeartbeats 400000 in
theorem rCross_no (a b c d : Int) (w : World) (h : Fr.small4 a b c d = false) : Calls Try.prog 18 #[.int .i64 a, .int .i64 b, .int .i64 c, .int .i64 d] w fun e w' => e = .returned (.tuple #[.int .i64 0, .int .i64 10]) ∧ w = w' := by
  have H := Lib.hid h
  clear h
  cases ha : Fr.smallB a
  · go_enter Try.func18, Try.ntmps18
    go_wp2_with (go_at_call 30; refine (rSmall _ _).mono ?_; rintro e w' ⟨rfl, rfl⟩)
    go_ret2
    exact ⟨rfl, rfl⟩
  cases hb : Fr.smallB b
  · go_enter Try.func18, Try.ntmps18
    go_wp2_with (go_at_call 30; refine (rSmall _ _).mono ?_; rintro e w' ⟨rfl, rfl⟩)
    go_ret2
    exact ⟨rfl, rfl⟩
  cases hc : Fr.smallB c
  · go_enter Try.func18, Try.ntmps18
    go_wp2_with (go_at_call 30; refine (rSmall _ _).mono ?_; rintro e w' ⟨rfl, rfl⟩)
    go_ret2
    exact ⟨rfl, rfl⟩
  cases hd : Fr.smallB d
  · go_enter Try.func18, Try.ntmps18
    go_wp2_with (go_at_call 30; refine (rSmall _ _).mono ?_; rintro e w' ⟨rfl, rfl⟩)
    go_ret2
    exact ⟨rfl, rfl⟩
  have := H.out
  simp [Fr.small4, ha, hb, hc, hd] at this

set_option maxHeartbeats 400000 in
theorem rCross_yes (a b c d : Int) (w : World) (ha : Fr.smallB a = true) (hb : Fr.smallB b = true) (hc : Fr.smallB c = true) (hd : Fr.smallB d = true) : Calls Try.prog 18 #[.int .i64 a, .int .i64 b, .int .i64 c, .int .i64 d] w fun e w' => e = .returned (.tuple #[.int .i64 (Fr.sgn (a * d - b * c)), .int .i64 0]) ∧ w = w' := by
  have h1 := Fr.mul_small (Fr.small_true ha).1 (Fr.small_true ha).2 (Fr.small_true hd).1 (Fr.small_true hd).2
  have h2 := Fr.mul_small (Fr.small_true hb).1 (Fr.small_true hb).2 (Fr.small_true hc).1 (Fr.small_true hc).2
  go_enter Try.func18, Try.ntmps18
  go_wp2_with (first | (go_at_call 30; refine (rSmall _ _).mono ?_; rintro e w' ⟨rfl, rfl⟩) | (go_at_call 31; refine (rSign _ _).mono ?_; rintro e w' ⟨rfl, rfl⟩))
  go_ret2
  exact ⟨rfl, rfl⟩

theorem rCross (a b c d : Int) (w : World) : Calls Try.prog 18 #[.int .i64 a, .int .i64 b, .int .i64 c, .int .i64 d] w fun e w' => e = .returned (.tuple #[.int .i64 (Fr.crossV a b c d), .int .i64 (Fr.crossE a b c d)]) ∧ w = w' := by
  cases h : Fr.small4 a b c d
  · rw [crossV_no h, crossE_no h]
    exact rCross_no a b c d w h
  · rw [crossV_yes h, crossE_yes h]
    simp [Fr.small4] at h
    exact rCross_yes a b c d w h.1.1.1 h.1.1.2 h.1.2 h.2

set_option maxHeartbeats 400000 in
theorem rLog (n : Int) (w : World) (h1 : 1 ≤ n) (h2 : n ≤ 9223372036854775807) : Calls Try.prog 33 #[.int .i64 n] w fun e w' => e = .returned (.int .i64 (Fr.lg n)) ∧ w = w' := by
  have hb := Fr.lg_le n h2
  go_enter Try.func33, Try.ntmps33
  go_wp2
  go_loop [0, 3] (fun m k => ∃ x : Int, ∃ j : Nat, 1 ≤ x ∧ x ≤ 9223372036854775807 ∧ m = .int .i64 x ∧ k = .int .i64 j ∧ Fr.lg x + j = Fr.lg n) (fun m _ => (intOf m).toNat)
  case atStart => exact ⟨n, 0, h1, h2, rfl, rfl, by simp⟩
  case round =>
    obtain ⟨x, j, hx1, hx2, rfl, rfl, hj⟩ := hrel
    have hx := Fr.lg_nonneg x
    have hj2 : (j : Int) ≤ 62 := by omega
    have HJ := Lib.hid hj
    clear hj
    by_cases hlt : 1 < x
    · go_wp2
      go_round
      case rel => exact ⟨x / 2, j + 1, by omega, by omega, rfl, by go_num, by have := HJ.out; have := Fr.lg_half x (by omega); omega⟩
      case measure => simp [intOf]; omega
    · have hx0 : x = 1 := by omega
      go_wp2
      go_ret
      have := HJ.out
      rw [hx0, Fr.lg_one] at this
      refine ⟨?_, rfl⟩
      rw [← this]; simp

set_option maxHeartbeats 400000 in
theorem rCeil (n : Int) (w : World) (h1 : 1 ≤ n) (h2 : n ≤ 9223372036854775807) : Calls Try.prog 32 #[.int .i64 n] w fun e w' => e = .returned (.int .i64 (Fr.upV n)) ∧ w = w' := by
  by_cases hn : n = 1
  · subst hn
    go_enter Try.func32, Try.ntmps32
    go_wp2
    go_ret
    exact ⟨rfl, rfl⟩
  · have H := Lib.hid (Fr.upV_ceil n (by omega))
    have hb := Fr.lg_le (n - 1) (by omega)
    have hc := Fr.lg_nonneg (n - 1)
    go_enter Try.func32, Try.ntmps32
    go_wp2_with (go_at_call 33; refine (rLog _ _ (by omega) (by omega)).mono ?_; rintro e w' ⟨rfl, rfl⟩)
    go_ret
    rw [H.out]
    exact ⟨rfl, rfl⟩

set_option maxHeartbeats 400000 in
theorem rPow (k : Int) (w : World) (h1 : 0 ≤ k) (h2 : k ≤ 62) : Calls Try.prog 34 #[.int .i64 k] w fun e w' => e = .returned (.int .i64 (2 ^ k.toNat)) ∧ w = w' := by
  go_enter Try.func34, Try.ntmps34
  go_wp2
  go_loop [3, 4] (fun m i => ∃ j : Nat, (j : Int) ≤ k ∧ i = .int .i64 j ∧ m = .int .i64 (2 ^ j)) (fun _ i => (k - intOf i).toNat)
  case atStart => exact ⟨0, by omega, rfl, rfl⟩
  case round =>
    obtain ⟨j, hj, rfl, rfl⟩ := hrel
    by_cases hlt : (j : Int) < k
    · have hb := Fr.pow_le62 (j + 1) (by omega)
      have hc := Fr.pow_pos j
      have HS := Lib.hid (Fr.pow_succ j)
      rw [HS.out] at hb
      go_wp2
      go_round
      case rel => exact ⟨j + 1, by omega, by go_num, by rw [HS.out]⟩
      case measure => simp [intOf]; omega
    · have hx : k.toNat = j := by omega
      have HX := Lib.hid hx
      clear hx
      go_wp2
      go_ret
      rw [HX.out]
      exact ⟨rfl, rfl⟩

set_option maxHeartbeats 400000 in
theorem rUp (n : Int) (w : World) (h2 : n ≤ 9223372036854775807) : Calls Try.prog 22 #[.int .i64 n] w fun e w' => e = .returned (.tuple #[.int .i64 (Fr.upV n), .int .i64 (Fr.downE n)]) ∧ w = w' := by
  by_cases hn : n < 1
  · have H1 := Lib.hid (Fr.up_no hn)
    have H2 := Lib.hid (Fr.down_no hn)
    go_enter Try.func22, Try.ntmps22
    go_wp2
    go_ret2
    rw [H1.out, H2.out.1]
    exact ⟨rfl, rfl⟩
  · have H2 := Lib.hid (Fr.down_yes (n := n) (by omega))
    go_enter Try.func22, Try.ntmps22
    go_wp2_with (go_at_call 32; refine (rCeil _ _ (by omega) (by omega)).mono ?_; rintro e w' ⟨rfl, rfl⟩)
    go_ret2
    rw [H2.out.1]
    exact ⟨rfl, rfl⟩

set_option maxHeartbeats 400000 in
theorem rDown (n : Int) (w : World) (h2 : n ≤ 9223372036854775807) : Calls Try.prog 23 #[.int .i64 n] w fun e w' => e = .returned (.tuple #[.int .i64 (Fr.downV n), .int .i64 (Fr.downE n)]) ∧ w = w' := by
  by_cases hn : n < 1
  · have H2 := Lib.hid (Fr.down_no hn)
    go_enter Try.func23, Try.ntmps23
    go_wp2
    go_ret2
    rw [H2.out.2, H2.out.1]
    exact ⟨rfl, rfl⟩
  · have H2 := Lib.hid (Fr.down_yes (n := n) (by omega))
    go_enter Try.func23, Try.ntmps23
    go_wp2_with (go_at_call 33; refine (rLog _ _ (by omega) (by omega)).mono ?_; rintro e w' ⟨rfl, rfl⟩)
    go_ret2
    rw [H2.out.2, H2.out.1]
    exact ⟨rfl, rfl⟩

set_option maxHeartbeats 400000 in
theorem rPower (n : Int) (w : World) (h2 : n ≤ 9223372036854775807) : Calls Try.prog 24 #[.int .i64 n] w fun e w' => e = .returned (.bool (Fr.powB n)) ∧ w = w' := by
  by_cases hn : n < 1
  · have H := Lib.hid (Fr.powB_not (n := n) (by omega))
    go_enter Try.func24, Try.ntmps24
    go_wp2
    go_ret
    rw [H.out]
    exact ⟨rfl, rfl⟩
  · have H := Lib.hid (Fr.powB_pow n (by omega))
    have hb := Fr.lg_le n h2
    have hc := Fr.lg_nonneg n
    go_enter Try.func24, Try.ntmps24
    go_wp2_with (first | (go_at_call 33; refine (rLog _ _ (by omega) (by omega)).mono ?_; rintro e w' ⟨rfl, rfl⟩) | (go_at_call 34; refine (rPow _ _ (by omega) (by omega)).mono ?_; rintro e w' ⟨rfl, rfl⟩))
    go_ret
    rw [H.out]
    exact ⟨rfl, rfl⟩
end Go.Proofs.Ytblcobhjofoikaa
