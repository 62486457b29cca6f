/- What package conf's slotsOf, heightOf and capacityFor return. -/
import Derived.Test.YtemnhpkkmfgnaaaConfA
namespace Go.Proofs.Ytemnhpkkmfgnaaa
open Go.RowKit
set_option linter.unusedVariables false
set_option linter.unusedSimpArgs false

set_option maxHeartbeats 400000 in
theorem kHeightOf (c : Cf) (size : Int) (w : World) (h1 : 4 ≤ c.seg) (h2 : c.seg ≤ size) (h3 : size ≤ 9223372036854775807) :
    Calls Try.prog 27 #[cfv c, .int .i64 size] w fun e w' => e = .returned (.int .i64 (c.high size)) ∧ Below w.heap.size w w' := by
  have BX := Lib.hid (CBox.new w c 23)
  have q1 : 1 ≤ size / c.seg := by have := Int.ediv_le_ediv (c := c.seg) (by omega) h2; rw [Int.ediv_self (by omega)] at this; exact this
  have q2 : size / c.seg ≤ size := Int.ediv_le_self (a := size) c.seg (by omega)
  have HD := Lib.hid (Fr.down_yes (n := size / c.seg) q1)
  have HH := Lib.hid (show c.high size = Fr.lg (size / c.seg) from rfl)
  unfold cfv
  go_enter Try.func27, Try.ntmps27
  have k0 : ¬ c.seg = 0 := by omega
  go_wp2_with fail
  refine (fDown _ _ (by omega)).mono ?_
  rintro e w1 ⟨rfl, rfl⟩
  go_wp2
  go_ret
  rw [HD.out.2, HH.out]
  exact ⟨rfl, (Below.refl _ _).alloc (Nat.le_refl _) _⟩

set_option maxHeartbeats 400000 in
theorem kSlotsOf (c : Cf) (h : Int) (w : World) (h1 : 4 ≤ c.seg) (h2 : c.seg ≤ 64) (h3 : 0 ≤ h) (h4 : h ≤ 20) :
    Calls Try.prog 31 #[cfv c, .int .i64 h] w fun e w' => e = .returned (.int .i64 (c.wide h)) ∧ Below w.heap.size w w' := by
  have HW := Lib.hid (show wrap64 (c.seg * 2 ^ h.toNat) = c.wide h by have := c.wide_bd h1 h2 h4; unfold Cf.wide at this ⊢; unfold wrap64; omega)
  unfold cfv
  go_enter Try.func31, Try.ntmps31
  go_wp2
  go_ret
  rw [← HW.out]
  exact ⟨rfl, (Below.refl _ _).alloc (Nat.le_refl _) _⟩

theorem atMost_small {a b c d : Int} (a1 : -67108864 < a) (a2 : a < 67108864) (b1 : -67108864 < b) (b2 : b < 67108864) (c1 : -67108864 < c) (c2 : c < 67108864) (d1 : -67108864 < d) (d2 : d < 67108864) :
    atMostB a b c d = decide (a * d ≤ b * c) := by
  unfold atMostB Fr.small4
  rw [Fr.small_mk a1 a2, Fr.small_mk b1 b2, Fr.small_mk c1 c2, Fr.small_mk d1 d2]
  rfl

def CapJ (c : Cf) (n : Int) (w : World) (a' : Act) (w' : World) : Prop :=
  Below w.heap.size w w' ∧ CBox w' w.heap.size c ∧ ∃ (size : Int) (k : Nat) (u3 u6 u7 u8 u9 u10 u11 u12 u13 u14 u15 u16 u17 u18 : Value), a' = { tmps := #[cfv c, .int .i64 n, .pointer (some ⟨w.heap.size, 0, none⟩), u3, .int .i64 0, .int .i64 size, u6, u7, u8, u9, u10, u11, u12, u13, u14, u15, u16, u17, u18], defers := [] } ∧ Cf.Run c n size k
def CapM (a' : Act) (_ : World) : Nat := (65536 - intOf (a'.tmps.getD 5 undef)).toNat

set_option maxHeartbeats 1000000 in
theorem kCapacityFor (c : Cf) (n : Int) (w : World) (hs : c.Sizes) (hd : c.Dens) (h0 : 0 ≤ n) (hn : n ≤ 16384) :
    Calls Try.prog 24 #[cfv c, .int .i64 n] w fun e w' => e = .returned (.int .i64 (c.takes n)) ∧ Below w.heap.size w w' := by
  have BX := Lib.hid (CBox.new w c 23)
  have HS := Lib.hid hs
  have HD := Lib.hid hd
  have TL := c.takes_le hs hd h0 hn
  have RS := Lib.hid (Cf.Run.start hs h0 hn)
  have r1 := hd.rh1 hs
  have r2 := hd.rh2 hs
  have d1 := hs.den1
  have d2 := hs.den2
  have l1 : 4 ≤ c.least := by have := hs.seg1; have := hs.least1; omega
  have l2 := hs.least2
  have AT := Lib.hid (fun size (s1 : 1 ≤ size) (s2 : size ≤ 65535) => show atMostB n size c.rh c.den = decide (n * c.den ≤ size * c.rh) from atMost_small (by omega) (by omega) (by omega) (by omega) (by omega) (by omega) (by omega) (by omega))
  clear hs hd
  unfold cfv
  go_enter Try.func24, Try.ntmps24
  go_wp2
  refine wp_scope_jumps 0 (CapJ c n w) CapM rfl ?_ ?_
  · have AT1 := AT.out c.least (by omega) (by omega)
    by_cases ht : n * c.den ≤ c.least * c.rh
    · rw [decide_eq_true ht] at AT1
      have E := Lib.hid (RS.out.done (by rw [Int.mul_comm]; omega))
      have HA := Lib.hid AT1
      clear AT1 ht
      go_wp2_with fail
      go_step3
      go_wp2_with fail
      refine (kAtMost _ _ _ _ _).mono ?_
      rintro e w1 ⟨rfl, hb⟩
      rw [HA.out]
      go_wp2
      simp only [Exit.jump]
      go_ret
      rw [E.out]
      exact ⟨rfl, ((Below.refl _ _).alloc (Nat.le_refl _) _).trans (hb.mono (by simp))⟩
    · rw [decide_eq_false ht] at AT1
      have E := Lib.hid (RS.out.step r1 (by rw [Int.mul_comm]; omega))
      have HA := Lib.hid AT1
      clear AT1 ht
      go_wp2_with fail
      go_step3
      go_wp2_with fail
      refine (kAtMost _ _ _ _ _).mono ?_
      rintro e w1 ⟨rfl, hb⟩
      rw [HA.out]
      go_wp2
      go_step3
      obtain ⟨k', hk'⟩ := E.out
      refine ⟨rfl, ((Below.refl _ _).alloc (Nat.le_refl _) _).trans (hb.mono (by simp)), BX.out.below hb, c.least * 2, k', _, _, _, _, _, _, _, _, _, _, _, _, _, _, rfl, hk'⟩
  · rintro a' w' ⟨hb0, bx, size, k, u3, u6, u7, u8, u9, u10, u11, u12, u13, u14, u15, u16, u17, u18, rfl, run⟩
    have s1 := run.s1
    have s2 : size ≤ 65535 := by have := run.le; omega
    have AT1 := AT.out size (by omega) (by omega)
    have HB0 := Lib.hid hb0
    have RN := Lib.hid run
    have BX1 := Lib.hid bx
    obtain ⟨_, _, _, _, _, c4, _, _, c7, _, _⟩ := bx
    clear hb0 run
    unfold cfv
    by_cases ht : n * c.den ≤ size * c.rh
    · rw [decide_eq_true ht] at AT1
      have E := Lib.hid (RN.out.done (by rw [Int.mul_comm]; omega))
      have HA := Lib.hid AT1
      clear AT1 ht
      go_wp2_with fail
      refine (kAtMost _ _ _ _ _).mono ?_
      rintro e w1 ⟨rfl, hb⟩
      rw [HA.out]
      go_wp2
      simp only [Exit.jump]
      go_ret
      rw [E.out]
      exact ⟨rfl, HB0.out.trans (hb.mono HB0.out.size)⟩
    · rw [decide_eq_false ht] at AT1
      obtain ⟨k', hk'⟩ := RN.out.step r1 (by rw [Int.mul_comm]; omega)
      have s3 : size * 2 ≤ 65535 := by have := hk'.le; omega
      have HA := Lib.hid AT1
      have HK := Lib.hid hk'
      clear AT1 ht hk'
      go_wp2_with fail
      refine (kAtMost _ _ _ _ _).mono ?_
      rintro e w1 ⟨rfl, hb⟩
      rw [HA.out]
      go_wp2
      go_step3
      refine ⟨rfl, ⟨HB0.out.trans (hb.mono HB0.out.size), BX1.out.below hb, size * 2, k', _, _, _, _, _, _, _, _, _, _, _, _, _, _, rfl, HK.out⟩, ?_⟩
      · simp [CapM, intOf]; omega
end Go.Proofs.Ytemnhpkkmfgnaaa
