/- What Count of package occ returns. -/
import Derived.Test.YtgbgeedcfccclaaDoorOccD
namespace Go.Proofs.YtgbgeedcfccclaaDoor
open Go.RowKit
set_option linter.unusedVariables false

theorem count_step {ws : List Nat} (hw : Wide ws) (i p q : Nat) :
    (Oc.places ws p (min q (64 * i))).length + (Oc.bitsOf (Oc.wordAt ws i (p : Int) (q : Int))).length = (Oc.places ws p (min q (64 * (i + 1)))).length := by
  rw [Oc.up_step i p q (hw i), List.length_append, List.length_map]
  rfl
def CountJ (ws : List Nat) (p q : Nat) (w : World) (c i : Value) (wr : World) : Prop :=
  ∃ k : Nat, k ≤ (q + 63) / 64 ∧ i = .int .i64 k ∧ c = .int .i64 ((Oc.places ws p (min q (64 * k))).length : Int) ∧ Below w.heap.size w wr

theorem wordAt_lt {ws : List Nat} (hw : Wide ws) (i : Nat) (p q : Int) : Oc.wordAt ws i p q < 18446744073709551616 := Oc.cut_lt i p q (hw i)

set_option maxHeartbeats 1000000 in
theorem oCount_ok (a : Option Addr) (cap : Nat) (ws : List Nat) (n p q : Nat) (w : World) (hl : Lst .u64 w a (ints ws)) (hw : Wide ws) (hn : ws.length ≤ 65536) (hc : Oc.chk ws n = 0) (h1 : p ≤ q) (h2 : q ≤ n) :
    Calls Tryd.prog 9 #[.slice a ws.length cap, .int .i64 n, .int .i64 p, .int .i64 q] w fun e w' => e = .returned (.tuple #[.int .i64 ((Oc.places ws p q).length : Int), .int .i64 0]) ∧ Below w.heap.size w w' := by
  have HL := Lib.hid hl
  have HW := Lib.hid hw
  clear hl hw
  obtain ⟨m, e, hm, hlen, _⟩ := Oc.chk_ok hc
  have hnm : n ≤ 65536 := by omega
  have hlen' : (q + 63) / 64 ≤ ws.length := by omega
  have HC := Lib.hid hc
  clear hc e hm hlen
  go_enter Tryd.func9, Tryd.ntmps9
  go_wp2_with fail
  refine (oCheck a cap ws _ _ HL.out HW.out hn).mono ?_
  rintro e w1 ⟨rfl, hb1⟩
  rw [HC.out]
  go_wp2_with fail
  refine (oPart a ws.length cap _ _ _).mono ?_
  rintro e w2 ⟨b1, b2, b3, rfl, hP, hb2⟩
  have HP := Lib.hid hP
  have HL2 := Lib.hid ((HL.out.below hb1).below hb2)
  have hb : Below w.heap.size w w2 := hb1.trans (hb2.mono hb1.size)
  clear hP hb1 hb2 HL
  go_wp2
  go_loopw [12, 13] (CountJ ws p q w2) (fun _ i _ => ws.length - (intOf i).toNat)
  case atStart => exact ⟨p / 64, by omega, by go_num, by rw [Oc.places_ge _ _ _ (by omega)]; rfl, Below.refl _ _⟩
  case round =>
    obtain ⟨k, hk, rfl, rfl, hbr⟩ := hrel
    by_cases hlt : k < (q + 63) / 64
    · have HS := Lib.hid (count_step HW.out k p q)
      have hle := Oc.places_length_le ws p (min q (64 * k))
      have hx := wordAt_lt HW.out k (p : Int) (q : Int)
      have hle2 := (Oc.ones_eq (Oc.wordAt ws k (p : Int) (q : Int))).2.2
      go_wp2_with fail
      refine (oWordsOf _ _ (by omega) (by omega)).mono ?_
      rintro e w' ⟨rfl, rfl⟩
      go_wp2_with fail
      refine (oWord' a cap ws _ _ _ k b1 b2 b3 _ (HP.out.below hbr) (HL2.out.below hbr) HW.out rfl (by omega) hn (by omega) (by omega) (by omega) (by omega)).mono ?_
      rintro e w3 ⟨rfl, hb3⟩
      go_wp2_with fail
      refine (oOnes _ _ hx).mono ?_
      rintro e w' ⟨rfl, rfl⟩
      go_wp2
      go_roundw
      case rel => exact ⟨k + 1, by omega, by go_num, by rw [← HS.out]; go_num, hbr.trans (hb3.mono hbr.size)⟩
      case measure => simp [intOf]; omega
    · have kb : decide ((k : Int) < ((q : Int) + 63) / 64) = false := by simp; omega
      have HM := Lib.hid (show min q (64 * k) = q by omega)
      clear hlt hk
      go_wp2_with fail
      refine (oWordsOf _ _ (by omega) (by omega)).mono ?_
      rintro e w' ⟨rfl, rfl⟩
      go_wp2
      go_ret2
      rw [HM.out]
      exact ⟨rfl, hb.trans (hbr.mono hb.size)⟩

set_option maxHeartbeats 1000000 in
theorem oCount (a : Option Addr) (cap : Nat) (ws : List Nat) (n p q : Int) (w : World) (hl : Lst .u64 w a (ints ws)) (hw : Wide ws) (hn : ws.length ≤ 65536) :
    Calls Tryd.prog 9 #[.slice a ws.length cap, .int .i64 n, .int .i64 p, .int .i64 q] w fun e w' => e = .returned (.tuple #[.int .i64 (Oc.countV ws n p q), .int .i64 (Oc.countE ws n p q)]) ∧ Below w.heap.size w w' := by
  by_cases hc : Oc.chk ws n = 0
  · by_cases h1 : p < 0 ∨ q < p ∨ n < q
    · have H := Lib.hid (show Oc.countE ws n p q = 2 by unfold Oc.countE; rw [if_pos hc, if_pos h1])
      have H0 := Lib.hid (show Oc.countV ws n p q = 0 by unfold Oc.countV; rw [if_neg (by rw [H.out]; decide)])
      have HL := Lib.hid hl
      have HW := Lib.hid hw
      clear hl hw
      rcases (show p < 0 ∨ (0 ≤ p ∧ q < p) ∨ (0 ≤ p ∧ p ≤ q ∧ n < q) by omega) with h | h | h
      all_goals
        clear h1
        go_enter Tryd.func9, Tryd.ntmps9
        go_wp2_with fail
        refine (oCheck a cap ws _ _ HL.out HW.out hn).mono ?_
        rintro e w1 ⟨rfl, hb1⟩
        rw [hc]
        go_wp2
        go_ret2
        rw [H.out, H0.out]
        exact ⟨rfl, hb1⟩
    · obtain ⟨m, rfl, hm, hlen, _⟩ := Oc.chk_ok hc
      obtain ⟨p, rfl⟩ := Int.eq_ofNat_of_zero_le (show 0 ≤ p by omega)
      obtain ⟨q, rfl⟩ := Int.eq_ofNat_of_zero_le (show 0 ≤ q by omega)
      have H : Oc.countE ws m p q = 0 := by unfold Oc.countE; rw [if_pos hc, if_neg h1]
      have H0 : Oc.countV ws m p q = ((Oc.places ws p q).length : Int) := by unfold Oc.countV; rw [if_pos H, Int.toNat_natCast, Int.toNat_natCast]
      rw [H, H0]
      exact oCount_ok a cap ws m p q w hl hw hn hc (by omega) (by omega)
  · have k1 : (Oc.chk ws n != 0) = true := by simp [hc]
    have H := Lib.hid (show Oc.countE ws n p q = Oc.chk ws n by unfold Oc.countE; rw [if_neg hc])
    have H0 := Lib.hid (show Oc.countV ws n p q = 0 by unfold Oc.countV; rw [if_neg (by rw [H.out]; exact hc)])
    have HL := Lib.hid hl
    have HW := Lib.hid hw
    clear hl hw hc
    go_enter Tryd.func9, Tryd.ntmps9
    go_wp2_with fail
    refine (oCheck a cap ws _ _ HL.out HW.out hn).mono ?_
    rintro e w1 ⟨rfl, hb1⟩
    go_wp2
    go_ret2
    rw [H.out, H0.out]
    exact ⟨rfl, hb1⟩
end Go.Proofs.YtgbgeedcfccclaaDoor
