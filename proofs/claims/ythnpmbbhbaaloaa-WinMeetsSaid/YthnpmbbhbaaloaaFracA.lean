/- What package frac's small functions return: Power, Add, Down, Up: each is its plain function; no memory is touched. -/
import Derived.Test.YthnpmbbhbaaloaaRows
import Derived.Test.YthnpmbbhbaaloaaFn01
import Derived.WalkKit
import Derived.WalkSpells
import Derived.WalkLawsBesides
import Derived.Lib.Hide
import Derived.WalkMore
import Derived.ScopeJumps
namespace Go.Proofs.Ythnpmbbhbaaloaa
open Go.RowKit

set_option maxHeartbeats 400000 in
theorem fPower (n : Int) (w : World) (h2 : n ≤ 9223372036854775807) : Calls Try.prog 33 #[.int .i64 n] w fun e w' => e = .returned (.bool (Fr.powB n)) ∧ w = w' := by
  by_cases hn : n < 1
  · have H := Lib.hid (Fr.powB_not (n := n) (by omega))
    go_enter Try.func33, Try.ntmps33
    go_wp2
    go_ret
    rw [H.out]
    exact ⟨rfl, rfl⟩
  · have H := Lib.hid (Fr.powB_and n (by omega) h2)
    go_enter Try.func33, Try.ntmps33
    go_wp2
    go_ret
    rw [H.out]
    exact ⟨rfl, rfl⟩

def DownJ (w : World) (n : Int) (a' : Act) (w' : World) : Prop :=
  w = w' ∧ ∃ (x : Int) (j : Nat) (u5 u6 u7 u8 u9 u10 u11 u12 u13 : Value), a' = { tmps := #[.int .i64 x, undef, .int .i64 0, .int .i64 0, .int .i64 j, u5, u6, u7, u8, u9, u10, u11, u12, u13], defers := [] } ∧ 1 ≤ x ∧ x ≤ 9223372036854775807 ∧ Fr.lg x + j = Fr.lg n
def DownM (a' : Act) (_ : World) : Nat := (intOf (a'.tmps.getD 0 undef)).toNat

set_option maxHeartbeats 400000 in
theorem fDown (n : Int) (w : World) (h2 : n ≤ 9223372036854775807) : Calls Try.prog 22 #[.int .i64 n] w fun e w' => e = .returned (.tuple #[.int .i64 (Fr.downV n), .int .i64 (Fr.downE n)]) ∧ w = w' := by
  by_cases hn : n < 1
  · have H2 := Lib.hid (Fr.down_no hn)
    go_enter Try.func22, Try.ntmps22
    go_wp2
    go_step3
    go_wp2
    rw [Exit.noGoto_ret]
    go_ret2
    rw [H2.out.1, H2.out.2]
    exact ⟨rfl, rfl⟩
  · have H2 := Lib.hid (Fr.down_yes (n := n) (by omega))
    have hb := Fr.lg_le n h2
    go_enter Try.func22, Try.ntmps22
    go_wp2
    refine wp_scope_jumps 0 (DownJ w n) DownM rfl ?_ ?_
    · go_wp2
      go_step3
      go_wp2
      · go_step3
        refine ⟨rfl, rfl, n / 2, 1, _, _, _, _, _, _, _, _, _, rfl, by omega, by omega, ?_⟩
        rw [Fr.lg_half n (by omega)]; rfl
      · simp only [Exit.jump]
        go_ret2
        have hx0 : n = 1 := by omega
        rw [H2.out.1, H2.out.2, hx0, Fr.lg_one]
        exact ⟨rfl, rfl⟩
    · rintro a' w' ⟨rfl, x, j, u5, u6, u7, u8, u9, u10, u11, u12, u13, rfl, hx1, hx2, hj⟩
      have hx := Fr.lg_nonneg x
      have hj2 : (j : Int) ≤ 62 := by omega
      have HJ := Lib.hid hj
      clear hj
      go_wp2
      · go_step3
        refine ⟨rfl, ⟨rfl, x / 2, j + 1, _, _, _, _, _, _, _, _, _, rfl, by omega, by omega, ?_⟩, ?_⟩
        · have := HJ.out
          have := Fr.lg_half x (by omega)
          omega
        · simp [DownM, intOf]; omega
      · simp only [Exit.jump]
        go_ret2
        have hx0 : x = 1 := by omega
        have := HJ.out
        rw [hx0, Fr.lg_one] at this
        rw [H2.out.1, H2.out.2, ← this]
        simp

end Go.Proofs.Ythnpmbbhbaaloaa
