/- What the document's own answers of layer 2 (package shelfmarkref02) return: bit, Is, May, Check. They only read. -/
import Derived.Test.YtgbgeedcfccclaaDoorProg
import Derived.Test.YtgbgeedcfccclaaDoorFn02
import Derived.Test.YtgbgeedcfccclaaDoorMem
namespace Go.Proofs.YtgbgeedcfccclaaDoor
open Go.RowKit
set_option linter.unusedVariables false

theorem shr_cast (x j : Nat) : (x : Int) / 2 ^ j = ((x / 2 ^ j : Nat) : Int) := by
  rw [Int.natCast_ediv, Int.natCast_pow]; rfl
theorem shr_bit (x j : Nat) : ((((x : Int) / 2 ^ j).tmod 2 == 1)) = x.testBit j := by
  rw [shr_cast, Int.tmod_eq_emod_of_nonneg (Int.natCast_nonneg _), Nat.testBit_eq_decide_div_mod_eq, Bool.eq_iff_iff, beq_iff_eq, decide_eq_true_eq]
  omega

set_option maxHeartbeats 400000 in
theorem r2bit (x : Nat) (j : Int) (w : World) (hx : x < 18446744073709551616) (h0 : 0 ≤ j) (hj : j < 64) : Calls Tryd.prog 46 #[.int .u64 (x : Int), .int .i64 j] w fun e w' => e = .returned (.bool (x.testBit j.toNat)) ∧ w = w' := by
  obtain ⟨j, rfl⟩ := Int.eq_ofNat_of_zero_le h0
  have H := Lib.hid (shr_bit x j)
  rw [Int.toNat_natCast]
  go_enter Tryd.func46, Tryd.ntmps46
  go_wp2
  rw [H.out]
  go_ret
  exact ⟨rfl, rfl⟩

set_option maxHeartbeats 400000 in
theorem r2Is (a : Option Addr) (cap : Nat) (ws : List Nat) (s : Int) (w : World) (hl : Lst .u64 w a (ints ws)) (hw : Wide ws) (hn : ws.length ≤ 65536) (h0 : 0 ≤ s) (h1 : s < 64 * ws.length) :
    Calls Tryd.prog 38 #[.slice a ws.length cap, .int .i64 s] w fun e w' => e = .returned (.bool (Oc.isB ws s.toNat)) ∧ w = w' := by
  obtain ⟨s, rfl⟩ := Int.eq_ofNat_of_zero_le h0
  rw [Int.toNat_natCast]
  obtain ⟨b, off, rfl, _, hc⟩ := hl.word (i := s / 64) (by omega)
  have H := Lib.hid (show Oc.isB ws s = (ws.getD (s / 64) 0).testBit (s % 64) from rfl)
  have hx := hw (s / 64)
  clear hl hw h0
  generalize ws.getD (s / 64) 0 = x at *
  generalize ws.length = n at *
  have hlt : s / 64 < n := by omega
  go_enter Tryd.func38, Tryd.ntmps38
  go_wp2_with (go_at_call 46; refine (r2bit _ _ _ hx (by omega) (by omega)).mono ?_; rintro e w' ⟨rfl, rfl⟩)
  go_ret
  rw [H.out]
  exact ⟨rfl, rfl⟩

/-- May's loop: no slot from n on, ahead of k, is occupied. -/
def MayJ (ws : List Nat) (n : Nat) (i : Value) : Prop := ∃ k : Nat, n ≤ k ∧ i = .int .i64 k ∧ k ≤ 64 * ws.length + n ∧ Oc.places ws n k = []

set_option maxHeartbeats 400000 in
theorem r2May (a : Option Addr) (cap : Nat) (ws : List Nat) (n : Nat) (w : World) (hl : Lst .u64 w a (ints ws)) (hw : Wide ws) (hn : ws.length ≤ 65536) (hb : n ≤ 65536) :
    Calls Tryd.prog 37 #[.slice a ws.length cap, .int .i64 (n : Int)] w fun e w' => e = .returned (.bool (Oc.mayB ws n)) ∧ w = w' := by
  by_cases hne : ws.length = (n + 63) / 64
  · have H := Lib.hid (show Oc.mayB ws n = Oc.clearB ws n by simp [Oc.mayB, hne])
    have k1 : ((ws.length : Int) != ((n : Int) + 63) / 64) = false := by simp; omega
    have HL := Lib.hid hl
    have HW := Lib.hid hw
    have HNE := Lib.hid hne
    clear hl hw hne
    go_enter Tryd.func37, Tryd.ntmps37
    go_wp2
    go_loop [5] (MayJ ws n) (fun i => 64 * ws.length - (intOf i).toNat)
    case atStart => exact ⟨n, Nat.le_refl _, rfl, by omega, Oc.places_self _ _⟩
    case round =>
      obtain ⟨k, hk1, rfl, hk2, hk3⟩ := hrel
      have HK := Lib.hid hk3
      clear hk3
      by_cases hlt : k < 64 * ws.length
      · cases hi : Oc.isB ws k
        · go_wp2_with (go_at_call 38; refine (r2Is a cap ws _ _ HL.out HW.out hn (by omega) (by omega)).mono ?_; rintro e w' ⟨rfl, rfl⟩; rw [Int.toNat_natCast, hi])
          go_round
          case rel => exact ⟨k + 1, by omega, by go_num, by omega, by rw [Oc.places_snoc ws n k hk1, hi, HK.out]; rfl⟩
          case measure => simp [intOf]; omega
        · have H2 := Lib.hid (Oc.clear_not hk1 hlt hi)
          go_wp2_with (go_at_call 38; refine (r2Is a cap ws _ _ HL.out HW.out hn (by omega) (by omega)).mono ?_; rintro e w' ⟨rfl, rfl⟩; rw [Int.toNat_natCast, hi])
          go_ret
          rw [H.out, H2.out]
          exact ⟨rfl, rfl⟩
      · go_wp2
        go_ret
        have hc : Oc.clearB ws n = true := by
          unfold Oc.clearB
          by_cases hle : n ≤ 64 * ws.length
          · have := Oc.places_split ws n (64 * ws.length) k hle (by omega)
            rw [HK.out] at this
            rw [(List.append_eq_nil_iff.1 this.symm).1]; rfl
          · rw [Oc.places_ge _ _ _ (by omega)]; rfl
        rw [H.out, hc]
        exact ⟨rfl, rfl⟩
  · have H := Lib.hid (show Oc.mayB ws n = false by simp [Oc.mayB, hne])
    have k1 : ((ws.length : Int) != ((n : Int) + 63) / 64) = true := by simp; omega
    clear hl hw hne
    go_enter Tryd.func37, Tryd.ntmps37
    go_wp2
    go_ret
    rw [H.out]
    exact ⟨rfl, rfl⟩

set_option maxHeartbeats 400000 in
theorem r2Check (a : Option Addr) (cap : Nat) (ws : List Nat) (n : Int) (w : World) (hl : Lst .u64 w a (ints ws)) (hw : Wide ws) (hn : ws.length ≤ 65536) :
    Calls Tryd.prog 21 #[.slice a ws.length cap, .int .i64 n] w fun e w' => e = .returned (.int .i64 (Oc.chk ws n)) ∧ w = w' := by
  have HL := Lib.hid hl
  have HW := Lib.hid hw
  clear hl hw
  by_cases h1 : n < 0
  · have H := Lib.hid (show Oc.chk ws n = 2 by simp [Oc.chk, Oc.badN, h1])
    go_enter Tryd.func21, Tryd.ntmps21
    go_wp2
    go_ret
    rw [H.out]
    exact ⟨rfl, rfl⟩
  by_cases h2 : 65536 < n
  · have H := Lib.hid (show Oc.chk ws n = 2 by simp [Oc.chk, Oc.badN, h2])
    go_enter Tryd.func21, Tryd.ntmps21
    go_wp2
    go_ret
    rw [H.out]
    exact ⟨rfl, rfl⟩
  obtain ⟨m, rfl⟩ := Int.eq_ofNat_of_zero_le (show 0 ≤ n by omega)
  have h3 : Oc.badN (m : Int) = false := by simp [Oc.badN]; omega
  cases h4 : Oc.mayB ws m
  · have H := Lib.hid (show Oc.chk ws (m : Int) = 8 by simp [Oc.chk, h3, h4])
    clear h3
    go_enter Tryd.func21, Tryd.ntmps21
    go_wp2_with (go_at_call 37; refine (r2May a cap ws m _ HL.out HW.out hn (by omega)).mono ?_; rintro e w' ⟨rfl, rfl⟩)
    go_ret
    rw [H.out]
    exact ⟨rfl, rfl⟩
  · have H := Lib.hid (show Oc.chk ws (m : Int) = 0 by simp [Oc.chk, h3, h4])
    clear h3
    go_enter Tryd.func21, Tryd.ntmps21
    go_wp2_with (go_at_call 37; refine (r2May a cap ws m _ HL.out HW.out hn (by omega)).mono ?_; rintro e w' ⟨rfl, rfl⟩)
    go_ret
    rw [H.out]
    exact ⟨rfl, rfl⟩
end Go.Proofs.YtgbgeedcfccclaaDoor
