/- What package frac's Between returns, and the small functions under Mul. -/
import Derived.Test.YtemnhpkkmfgnaaaFracB
import Derived.Shelf.Bits.Mul64
namespace Go.Proofs.Ytemnhpkkmfgnaaa
open Go.RowKit

set_option maxHeartbeats 400000 in
theorem fBet_bad (a b k n : Int) (w : World) (h : Fr.betBad k n = true) : Calls Try.prog 30 #[.int .i64 a, .int .i64 b, .int .i64 k, .int .i64 n] w fun e w' => e = .returned (.tuple #[.int .i64 0, .int .i64 2]) ∧ Below w.heap.size w w' := by
  by_cases h1 : n < 1
  · clear h
    go_enter Try.func30, Try.ntmps30
    go_wp2
    go_ret2
    exact ⟨rfl, Below.refl _ _⟩
  · by_cases h2 : k < 0
    · clear h
      go_enter Try.func30, Try.ntmps30
      go_wp2
      go_ret2
      exact ⟨rfl, Below.refl _ _⟩
    · have h3 : n < k := by
        simp only [Fr.betBad, Bool.or_eq_true, decide_eq_true_eq] at h; omega
      clear h
      go_enter Try.func30, Try.ntmps30
      go_wp2
      go_ret2
      exact ⟨rfl, Below.refl _ _⟩

set_option maxHeartbeats 400000 in
theorem fBet_no (a b k n : Int) (w : World) (h1 : 1 ≤ n) (h2 : 0 ≤ k) (h3 : k ≤ n) (h : Fr.small4 a b k n = false) : Calls Try.prog 30 #[.int .i64 a, .int .i64 b, .int .i64 k, .int .i64 n] w fun e w' => e = .returned (.tuple #[.int .i64 0, .int .i64 10]) ∧ Below w.heap.size w w' := by
  go_enter Try.func30, Try.ntmps30
  go_wp2_with (go_at_call 45; refine (fSmall w.heap.size 0 4 4 [a, b, k, n] _ rfl (by omega) (cells4 w a b k n _)).mono ?_; rw [all4, h]; rintro e w' ⟨rfl, rfl⟩)
  go_ret2
  exact ⟨rfl, (Below.refl _ _).alloc (Nat.le_refl _) _⟩

set_option maxHeartbeats 400000 in
theorem fBet_yes (a b k n : Int) (w : World) (h1 : 1 ≤ n) (h2 : 0 ≤ k) (h3 : k ≤ n) (h : Fr.small4 a b k n = true) : Calls Try.prog 30 #[.int .i64 a, .int .i64 b, .int .i64 k, .int .i64 n] w fun e w' => e = .returned (.tuple #[.int .i64 (a * (n - k) + b * k), .int .i64 0]) ∧ Below w.heap.size w w' := by
  have hs : ((-67108864 < a ∧ a < 67108864) ∧ (-67108864 < b ∧ b < 67108864)) ∧ (-67108864 < k ∧ k < 67108864) ∧ (-67108864 < n ∧ n < 67108864) := by
    simp only [Fr.small4, Bool.and_eq_true] at h
    exact ⟨⟨Fr.small_true h.1.1.1, Fr.small_true h.1.1.2⟩, Fr.small_true h.1.2, Fr.small_true h.2⟩
  have g3 := Fr.mul_small hs.1.1.1 hs.1.1.2 (b := n - k) (by omega) (by omega)
  have g4 := Fr.mul_small hs.1.2.1 hs.1.2.2 hs.2.1.1 hs.2.1.2
  go_enter Try.func30, Try.ntmps30
  go_wp2_with (go_at_call 45; refine (fSmall w.heap.size 0 4 4 [a, b, k, n] _ rfl (by omega) (cells4 w a b k n _)).mono ?_; rw [all4, h]; rintro e w' ⟨rfl, rfl⟩)
  go_ret2
  exact ⟨rfl, (Below.refl _ _).alloc (Nat.le_refl _) _⟩

theorem fBetween (a b k n : Int) (w : World) : Calls Try.prog 30 #[.int .i64 a, .int .i64 b, .int .i64 k, .int .i64 n] w fun e w' => e = .returned (.tuple #[.int .i64 (Fr.betV a b k n), .int .i64 (Fr.betE a b k n)]) ∧ Below w.heap.size w w' := by
  cases h : Fr.betBad k n
  · have hh : 1 ≤ n ∧ 0 ≤ k ∧ k ≤ n := by
      simp only [Fr.betBad, Bool.or_eq_false_iff, decide_eq_false_iff_not] at h; omega
    cases hs : Fr.small4 a b k n
    · rw [(Fr.bet_no h hs).1, (Fr.bet_no h hs).2]
      exact fBet_no a b k n w hh.1 hh.2.1 hh.2.2 hs
    · rw [(Fr.bet_yes h hs).1, (Fr.bet_yes h hs).2]
      exact fBet_yes a b k n w hh.1 hh.2.1 hh.2.2 hs
  · rw [(Fr.bet_bad h).1, (Fr.bet_bad h).2]
    exact fBet_bad a b k n w h

theorem dist_neg (n : Int) (h1 : -9223372036854775808 ≤ n) (hn : n < 0) : IntKind.u64.wrap (-IntKind.u64.wrap n) = (n.natAbs : Int) := by
  rw [IntKind.wrap_u64, IntKind.wrap_u64]; omega

/-- The upper half of the product, as the school method on halves comes to it. -/
theorem hi_eq (x y : Nat) (hx : x < 18446744073709551616) (hy : y < 18446744073709551616) :
    IntKind.u64.wrap (IntKind.u64.wrap (IntKind.u64.wrap ((x : Int) / 4294967296 * ((y : Int) / 4294967296)) + IntKind.u64.wrap (IntKind.u64.wrap ((x : Int) / 4294967296 * bits .and .u64 y 4294967295) + IntKind.u64.wrap (bits .and .u64 x 4294967295 * bits .and .u64 y 4294967295) / 4294967296) / 4294967296) +
      IntKind.u64.wrap (bits .and .u64 (IntKind.u64.wrap (IntKind.u64.wrap ((x : Int) / 4294967296 * bits .and .u64 y 4294967295) + IntKind.u64.wrap (bits .and .u64 x 4294967295 * bits .and .u64 y 4294967295) / 4294967296)) 4294967295 + IntKind.u64.wrap (bits .and .u64 x 4294967295 * ((y : Int) / 4294967296))) / 4294967296) = ((x * y / 18446744073709551616 : Nat) : Int) := by
  obtain ⟨k1, k2, k3, k4⟩ := Lib.mul64_hi x y hx hy
  have m1 : x / 4294967296 * (y / 4294967296) < 18446744073709551616 := Nat.lt_of_le_of_lt (Lib.half_mul_le (by omega) (by omega)) (by decide)
  have m2 : x / 4294967296 * (y % 4294967296) < 18446744073709551616 := Nat.lt_of_le_of_lt (Lib.half_mul_le (by omega) (by omega)) (by decide)
  have m3 : x % 4294967296 * (y / 4294967296) < 18446744073709551616 := Nat.lt_of_le_of_lt (Lib.half_mul_le (by omega) (by omega)) (by decide)
  have q : x * y / 18446744073709551616 < 18446744073709551616 := by
    have := Nat.mul_lt_mul_of_lt_of_lt hx hy
    exact Nat.div_lt_of_lt_mul this
  rw [← k4] at q
  have q1 := Nat.lt_of_le_of_lt (Nat.le_add_right _ _) q
  rw [← k4]
  simp only [Mul64.maskN x hx, Mul64.maskN y hy, Mul64.divN, Mul64.mulN, Mul64.addN, Mul64.wrapN _ k1, Mul64.wrapN _ m2, Mul64.wrapN _ k2, Mul64.maskN _ k2, Mul64.wrapN _ m3, Mul64.wrapN _ k3, Mul64.wrapN _ m1, Mul64.wrapN _ q1, Mul64.wrapN _ q]
theorem lo_eq (x y : Nat) : IntKind.u64.wrap ((x : Int) * y) = ((x * y % 18446744073709551616 : Nat) : Int) := by
  rw [Mul64.mulN, Mul64.wrapM]

end Go.Proofs.Ytemnhpkkmfgnaaa
