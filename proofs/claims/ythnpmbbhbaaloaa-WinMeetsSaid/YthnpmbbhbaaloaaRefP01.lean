/- What the document's own answers of layer 1 (package shelfmarkref01) return: Log, Pow, Power alone. -/
import Derived.Test.YthnpmbbhbaaloaaProg
import Derived.Test.YthnpmbbhbaaloaaFn01
import Derived.WalkKit
import Derived.WalkSpells
import Derived.WalkLawsBesides
import Derived.Lib.Hide
namespace Go.Proofs.Ythnpmbbhbaaloaa
open Go.RowKit

set_option maxHeartbeats 400000 in
theorem rLog (n : Int) (w : World) (h1 : 1 ≤ n) (h2 : n ≤ 9223372036854775807) : Calls Try.prog 36 #[.int .i64 n] w fun e w' => e = .returned (.int .i64 (Fr.lg n)) ∧ w = w' := by
  have hb := Fr.lg_le n h2
  go_enter Try.func36, Try.ntmps36
  go_wp2
  go_loop [0, 3] (fun m k => ∃ x : Int, ∃ j : Nat, 1 ≤ x ∧ x ≤ 9223372036854775807 ∧ m = .int .i64 x ∧ k = .int .i64 j ∧ Fr.lg x + j = Fr.lg n) (fun m _ => (intOf m).toNat)
  case atStart => exact ⟨n, 0, h1, h2, rfl, rfl, by simp⟩
  case round =>
    obtain ⟨x, j, hx1, hx2, rfl, rfl, hj⟩ := hrel
    have hx := Fr.lg_nonneg x
    have hj2 : (j : Int) ≤ 62 := by omega
    have HJ := Lib.hid hj
    clear hj
    by_cases hlt : 1 < x
    · go_wp2
      go_round
      case rel => exact ⟨x / 2, j + 1, by omega, by omega, rfl, by go_num, by have := HJ.out; have := Fr.lg_half x (by omega); omega⟩
      case measure => simp [intOf]; omega
    · have hx0 : x = 1 := by omega
      go_wp2
      go_ret
      have := HJ.out
      rw [hx0, Fr.lg_one] at this
      refine ⟨?_, rfl⟩
      rw [← this]; simp

set_option maxHeartbeats 400000 in
theorem rPow (k : Int) (w : World) (h1 : 0 ≤ k) (h2 : k ≤ 62) : Calls Try.prog 32 #[.int .i64 k] w fun e w' => e = .returned (.int .i64 (2 ^ k.toNat)) ∧ w = w' := by
  go_enter Try.func32, Try.ntmps32
  go_wp2
  go_loop [3, 4] (fun m i => ∃ j : Nat, (j : Int) ≤ k ∧ i = .int .i64 j ∧ m = .int .i64 (2 ^ j)) (fun _ i => (k - intOf i).toNat)
  case atStart => exact ⟨0, by omega, rfl, rfl⟩
  case round =>
    obtain ⟨j, hj, rfl, rfl⟩ := hrel
    by_cases hlt : (j : Int) < k
    · have hb := Fr.pow_le62 (j + 1) (by omega)
      have hc := Fr.pow_pos j
      have HS := Lib.hid (Fr.pow_succ j)
      rw [HS.out] at hb
      go_wp2
      go_round
      case rel => exact ⟨j + 1, by omega, by go_num, by rw [HS.out]⟩
      case measure => simp [intOf]; omega
    · have hx : k.toNat = j := by omega
      have HX := Lib.hid hx
      clear hx
      go_wp2
      go_ret
      rw [HX.out]
      exact ⟨rfl, rfl⟩

set_option maxHeartbeats 400000 in
theorem rPower (n : Int) (w : World) (h2 : n ≤ 9223372036854775807) : Calls Try.prog 35 #[.int .i64 n] w fun e w' => e = .returned (.bool (Fr.powB n)) ∧ w = w' := by
  by_cases hn : n < 1
  · have H := Lib.hid (Fr.powB_not (n := n) (by omega))
    go_enter Try.func35, Try.ntmps35
    go_wp2
    go_ret
    rw [H.out]
    exact ⟨rfl, rfl⟩
  · have H := Lib.hid (Fr.powB_pow n (by omega))
    have hb := Fr.lg_le n h2
    have hc := Fr.lg_nonneg n
    go_enter Try.func35, Try.ntmps35
    go_wp2_with (first | (go_at_call 36; refine (rLog _ _ (by omega) (by omega)).mono ?_; rintro e w' ⟨rfl, rfl⟩) | (go_at_call 32; refine (rPow _ _ (by omega) (by omega)).mono ?_; rintro e w' ⟨rfl, rfl⟩))
    go_ret
    rw [H.out]
    exact ⟨rfl, rfl⟩
end Go.Proofs.Ythnpmbbhbaaloaa
