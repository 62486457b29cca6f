/- What the document's own answers of layer 1 (package shelfmarkref01) return, the rest: Between, Add, Mul. -/
import Derived.Test.YtblcobhjofoikaaRefA01
namespace Go.Proofs.Ytblcobhjofoikaa
open Go.RowKit

set_option maxHeartbeats 400000 in
theorem rBet_bad (a b k n : Int) (w : World) (h : Fr.betBad k n = true) : Calls Try.prog 19 #[.int .i64 a, .int .i64 b, .int .i64 k, .int .i64 n] w fun e w' => e = .returned (.tuple #[.int .i64 0, .int .i64 2]) ∧ w = w' := by
  by_cases h1 : n < 1
  · clear h
    go_enter Try.func19, Try.ntmps19
    go_wp2
    go_ret2
    exact ⟨rfl, rfl⟩
  · by_cases h2 : k < 0
    · clear h
      go_enter Try.func19, Try.ntmps19
      go_wp2
      go_ret2
      exact ⟨rfl, rfl⟩
    · have h3 : n < k := by
        simp only [Fr.betBad, Bool.or_eq_true, decide_eq_true_eq] at h; omega
      clear h
      go_enter Try.func19, Try.ntmps19
      go_wp2
      go_ret2
      exact ⟨rfl, rfl⟩

set_option maxHeartbeats 400000 in
theorem rBet_no (a b k n : Int) (w : World) (h1 : 1 ≤ n) (h2 : 0 ≤ k) (h3 : k ≤ n) (h : Fr.small4 a b k n = false) : Calls Try.prog 19 #[.int .i64 a, .int .i64 b, .int .i64 k, .int .i64 n] w fun e w' => e = .returned (.tuple #[.int .i64 0, .int .i64 10]) ∧ w = w' := by
  have H := Lib.hid h
  clear h
  cases ha : Fr.smallB a
  · go_enter Try.func19, Try.ntmps19
    go_wp2_with (go_at_call 30; refine (rSmall _ _).mono ?_; rintro e w' ⟨rfl, rfl⟩)
    go_ret2
    exact ⟨rfl, rfl⟩
  cases hb : Fr.smallB b
  · go_enter Try.func19, Try.ntmps19
    go_wp2_with (go_at_call 30; refine (rSmall _ _).mono ?_; rintro e w' ⟨rfl, rfl⟩)
    go_ret2
    exact ⟨rfl, rfl⟩
  cases hc : Fr.smallB k
  · go_enter Try.func19, Try.ntmps19
    go_wp2_with (go_at_call 30; refine (rSmall _ _).mono ?_; rintro e w' ⟨rfl, rfl⟩)
    go_ret2
    exact ⟨rfl, rfl⟩
  cases hd : Fr.smallB n
  · go_enter Try.func19, Try.ntmps19
    go_wp2_with (go_at_call 30; refine (rSmall _ _).mono ?_; rintro e w' ⟨rfl, rfl⟩)
    go_ret2
    exact ⟨rfl, rfl⟩
  have := H.out
  simp [Fr.small4, ha, hb, hc, hd] at this

set_option maxHeartbeats 400000 in
theorem rBet_yes (a b k n : Int) (w : World) (h1 : 1 ≤ n) (h2 : 0 ≤ k) (h3 : k ≤ n) (ha : Fr.smallB a = true) (hb : Fr.smallB b = true) (hc : Fr.smallB k = true) (hd : Fr.smallB n = true) : Calls Try.prog 19 #[.int .i64 a, .int .i64 b, .int .i64 k, .int .i64 n] w fun e w' => e = .returned (.tuple #[.int .i64 (a * (n - k) + b * k), .int .i64 0]) ∧ w = w' := by
  have g1 := Fr.small_true hc
  have g2 := Fr.small_true hd
  have g3 := Fr.mul_small (Fr.small_true ha).1 (Fr.small_true ha).2 (b := n - k) (by omega) (by omega)
  have g4 := Fr.mul_small (Fr.small_true hb).1 (Fr.small_true hb).2 g1.1 g1.2
  go_enter Try.func19, Try.ntmps19
  go_wp2_with (go_at_call 30; refine (rSmall _ _).mono ?_; rintro e w' ⟨rfl, rfl⟩)
  go_ret2
  exact ⟨rfl, rfl⟩

theorem rBetween (a b k n : Int) (w : World) : Calls Try.prog 19 #[.int .i64 a, .int .i64 b, .int .i64 k, .int .i64 n] w fun e w' => e = .returned (.tuple #[.int .i64 (Fr.betV a b k n), .int .i64 (Fr.betE a b k n)]) ∧ w = w' := by
  cases h : Fr.betBad k n
  · have hh : 1 ≤ n ∧ 0 ≤ k ∧ k ≤ n := by
      simp only [Fr.betBad, Bool.or_eq_false_iff, decide_eq_false_iff_not] at h; omega
    cases hs : Fr.small4 a b k n
    · rw [(Fr.bet_no h hs).1, (Fr.bet_no h hs).2]
      exact rBet_no a b k n w hh.1 hh.2.1 hh.2.2 hs
    · rw [(Fr.bet_yes h hs).1, (Fr.bet_yes h hs).2]
      simp [Fr.small4] at hs
      exact rBet_yes a b k n w hh.1 hh.2.1 hh.2.2 hs.1.1.1 hs.1.1.2 hs.1.2 hs.2
  · rw [(Fr.bet_bad h).1, (Fr.bet_bad h).2]
    exact rBet_bad a b k n w h

set_option maxHeartbeats 400000 in
theorem rAdd (a b : Int) (w : World) (a1 : -9223372036854775808 ≤ a) (a2 : a ≤ 9223372036854775807) (b1 : -9223372036854775808 ≤ b) (b2 : b ≤ 9223372036854775807) : Calls Try.prog 20 #[.int .i64 a, .int .i64 b] w fun e w' => e = .returned (.tuple #[.int .i64 (Fr.addV a b), .int .i64 (Fr.addE a b)]) ∧ w = w' := by
  cases h : Fr.inB (a + b)
  · rw [(Fr.add_no h).1, (Fr.add_no h).2]
    have hh := Fr.inB_false h
    clear h
    by_cases h1 : 0 < b
    · have h2 : 9223372036854775807 - b < a := by omega
      clear hh
      go_enter Try.func20, Try.ntmps20
      go_wp2
      go_ret2
      exact ⟨rfl, rfl⟩
    · have h2 : a < -9223372036854775808 - b := by omega
      have h3 : b < 0 := by omega
      clear hh
      go_enter Try.func20, Try.ntmps20
      go_wp2
      go_ret2
      exact ⟨rfl, rfl⟩
  · rw [(Fr.add_yes h).1, (Fr.add_yes h).2]
    obtain ⟨g1, g2⟩ := Fr.inB_true h
    clear h
    by_cases h1 : 0 < b
    · go_enter Try.func20, Try.ntmps20
      go_wp2
      go_ret2
      exact ⟨rfl, rfl⟩
    · by_cases h3 : b < 0
      · go_enter Try.func20, Try.ntmps20
        go_wp2
        go_ret2
        exact ⟨rfl, rfl⟩
      · go_enter Try.func20, Try.ntmps20
        go_wp2
        go_ret2
        exact ⟨rfl, rfl⟩
end Go.Proofs.Ytblcobhjofoikaa
