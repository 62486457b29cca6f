/- What the document's own answers of layer 5 (package shelfmarkref05) return: Takes, Height, power, Wide. They make only the box of the config. -/
import Derived.Test.YtemnhpkkmfgnaaaRefA01
import Derived.Test.YtemnhpkkmfgnaaaPlain05
namespace Go.Proofs.Ytemnhpkkmfgnaaa
open Go.RowKit
set_option linter.unusedVariables false
set_option linter.unusedSimpArgs false

set_option maxRecDepth 100000 in
set_option maxHeartbeats 1000000 in
theorem r5Takes (c : Cf) (n : Int) (w : World) (hs : c.Sizes) (hd : c.Dens) (h0 : 0 ≤ n) (hn : n ≤ 16384) :
    Calls Try.prog 37 #[cfv c, .int .i64 n] w fun e w' => e = .returned (.int .i64 (c.takes n)) ∧ Below w.heap.size w w' := by
  have TL := c.takes_le hs hd h0 hn
  have RS := Lib.hid (Cf.Run.start hs h0 hn)
  have r1 := hd.rh1 hs
  have r2 := hd.rh2 hs
  have l1 : 4 ≤ c.least := by have := hs.seg1; have := hs.least1; omega
  have l2 := hs.least2
  have ND := Cf.nd_le hs h0 hn
  obtain ⟨p0, p1⟩ := ND
  obtain ⟨M, hM⟩ : ∃ M, M = n * c.den := ⟨_, rfl⟩
  have HM := Lib.hid hM
  rw [← hM] at p0 p1
  have y1 := Lib.hid (show wrap64 (n * c.den) = M by rw [← hM]; unfold wrap64; omega)
  clear hM hs hd
  unfold cfv
  go_enter Try.func37, Try.ntmps37
  go_wp2
  go_loop [5] (fun s => ∃ (size : Int) (k : Nat), s = .int .i64 size ∧ Hid (Cf.Run c n size k)) (fun s => (65536 - intOf s).toNat)
  case atStart => exact ⟨c.least, 20, rfl, RS⟩
  case round =>
    obtain ⟨size, k, rfl, RN⟩ := hrel
    have s1 := RN.out.s1
    have s2 : size ≤ 65535 := by have := RN.out.le; omega
    have q := Cf.mul_bd (a := c.rh) (b := size) (A := 63) (B := 65535) (by omega) r2 (by omega) s2
    obtain ⟨q0, q1⟩ := q
    have y2 := Lib.hid (show wrap64 (c.rh * size) = c.rh * size by unfold wrap64; omega)
    have z1 := y1.out
    have z2 := y2.out
    by_cases ht : c.rh * size < M
    · obtain ⟨k', hk'⟩ := RN.out.step r1 (by rw [← HM.out]; exact ht)
      have s3 : size * 2 ≤ 65535 := by have := hk'.le; omega
      have HK := Lib.hid hk'
      clear hk'
      go_wp2
      go_round
      case rel => exact ⟨2 * size, k', rfl, by have := HK.out; rw [Int.mul_comm size 2] at this; exact Lib.hid this⟩
      case measure => simp [intOf]; omega
    · have E := Lib.hid (RN.out.done (by rw [← HM.out]; exact ht))
      go_wp2
      go_ret
      rw [E.out]
      exact ⟨rfl, (Below.refl _ _).alloc (Nat.le_refl _) _⟩

set_option maxHeartbeats 400000 in
theorem r5Height (c : Cf) (size : Int) (w : World) (h1 : 4 ≤ c.seg) (h2 : c.seg ≤ size) (h3 : size ≤ 9223372036854775807) :
    Calls Try.prog 39 #[cfv c, .int .i64 size] w fun e w' => e = .returned (.int .i64 (c.high size)) ∧ Below w.heap.size w w' := by
  have q1 : 1 ≤ size / c.seg := by have := Int.ediv_le_ediv (c := c.seg) (by omega) h2; rw [Int.ediv_self (by omega)] at this; exact this
  have q2 : size / c.seg ≤ size := Int.ediv_le_self (a := size) c.seg (by omega)
  have HH := Lib.hid (show c.high size = Fr.lg (size / c.seg) from rfl)
  unfold cfv
  go_enter Try.func39, Try.ntmps39
  have k0 : ¬ c.seg = 0 := by omega
  go_wp2_with fail
  refine (rLog _ _ (by omega) (by omega)).mono ?_
  rintro e w1 ⟨rfl, rfl⟩
  go_wp2
  go_ret
  rw [HH.out]
  exact ⟨rfl, (Below.refl _ _).alloc (Nat.le_refl _) _⟩

def powerB (n lo hi : Int) : Bool := decide (lo ≤ n) && decide (n ≤ hi) && Fr.powB n
set_option maxHeartbeats 400000 in
theorem r5power (n lo hi : Int) (w : World) (h : n ≤ 9223372036854775807) :
    Calls Try.prog 47 #[.int .i64 n, .int .i64 lo, .int .i64 hi] w fun e w' => e = .returned (.bool (powerB n lo hi)) ∧ w = w' := by
  have H := Lib.hid (show powerB n lo hi = (decide (lo ≤ n) && decide (n ≤ hi) && Fr.powB n) from rfl)
  rw [H.out]
  clear H
  by_cases h1 : lo ≤ n
  · by_cases h2 : n ≤ hi
    · rw [decide_eq_true h1, decide_eq_true h2]
      go_enter Try.func47, Try.ntmps47
      go_wp2_with fail
      refine (rPower _ _ h).mono ?_
      rintro e w1 ⟨rfl, rfl⟩
      go_wp2
      go_ret
      exact ⟨rfl, rfl⟩
    · rw [decide_eq_true h1, decide_eq_false h2]
      go_enter Try.func47, Try.ntmps47
      go_wp2
      go_ret
      exact ⟨rfl, rfl⟩
  · rw [decide_eq_false h1]
    go_enter Try.func47, Try.ntmps47
    go_wp2
    go_ret
    exact ⟨rfl, rfl⟩

set_option maxHeartbeats 400000 in
theorem r5Wide (c : Cf) (h : Int) (w : World) (h1 : 4 ≤ c.seg) (h2 : c.seg ≤ 64) (h3 : 0 ≤ h) (h4 : h ≤ 20) :
    Calls Try.prog 49 #[cfv c, .int .i64 h] w fun e w' => e = .returned (.int .i64 (c.wide h)) ∧ Below w.heap.size w w' := by
  have HW := Lib.hid (show IntKind.i64.wrap (c.seg * 2 ^ h.toNat) = c.wide h from IntWalk.i64_in _ (by have := c.wide_bd h1 h2 h4; unfold Cf.wide at this; omega))
  have CP := Lib.hid (fun W => rPow h W h3 (by omega))
  unfold cfv
  go_enter Try.func49, Try.ntmps49
  go_upto_region 1 with (fail)
  have y := HW.out
  go_quiet ((go_at_call 54; exact Calls.quiet_of_same (still_of (CP.out _))))
  go_wp2
  go_ret
  refine ⟨?_, below_drewN ((Below.refl _ _).alloc (Nat.le_refl _) _) _⟩
  rfl
end Go.Proofs.Ytemnhpkkmfgnaaa
