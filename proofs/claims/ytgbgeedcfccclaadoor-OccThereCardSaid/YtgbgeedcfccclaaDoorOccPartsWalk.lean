/- The walk of the law OccParts: counts of two parts add up. -/
import Derived.Test.YtgbgeedcfccclaaDoorLaw02
namespace Go.Proofs.YtgbgeedcfccclaaDoor.occParts
open Go.RowKit
set_option linter.unusedVariables false

set_option maxRecDepth 100000 in
set_option maxHeartbeats 1000000 in
theorem long (a : Option Addr) (cap : Nat) (ws : List Nat) (n p q : Int) (W : World) (hT : Tab W) (hl : Lst .u64 W a (ints ws)) (hw : Wide ws) (h20 : 20 < ws.length) :
    Calls Tryd.prog 6 #[.slice a ws.length cap, .int .i64 n, .int .i64 p, .int .i64 q] W fun e w' => e = .returned (.bool true) ∧ Below W.heap.size W w' := by
  have HT := Lib.hid hT
  have HA := Lib.hid hl
  have HW := Lib.hid hw
  have hb : Below W.heap.size W W := Below.refl _ _
  clear hl hw
  go_enter Tryd.func6, Tryd.ntmps6
  go_wp2_with (first | (go_at_call 17; refine (l2Alive _ (HT.out.below hb)).mono ?_; rintro e w2 ⟨rfl, hb2⟩; replace HA := Lib.hid (HA.out.below hb2); replace hb := hb.trans (hb2.mono hb.size); clear hb2))
  go_ret
  exact ⟨rfl, hb⟩

set_option maxRecDepth 100000 in
set_option maxHeartbeats 1000000 in
theorem bad (a : Option Addr) (cap : Nat) (ws : List Nat) (n p q : Int) (W : World) (hT : Tab W) (hl : Lst .u64 W a (ints ws)) (hw : Wide ws) (h20 : ws.length ≤ 20) (hc : (Oc.chk ws n != 0) = true) :
    Calls Tryd.prog 6 #[.slice a ws.length cap, .int .i64 n, .int .i64 p, .int .i64 q] W fun e w' => e = .returned (.bool true) ∧ Below W.heap.size W w' := by
  have HT := Lib.hid hT
  have HA := Lib.hid hl
  have HW := Lib.hid hw
  have hb : Below W.heap.size W W := Below.refl _ _
  clear hl hw
  have h65 : ws.length ≤ 65536 := by omega
  go_enter Tryd.func6, Tryd.ntmps6
  go_wp2_with (first | (go_at_call 17; refine (l2Alive _ (HT.out.below hb)).mono ?_; rintro e w2 ⟨rfl, hb2⟩; replace HA := Lib.hid (HA.out.below hb2); replace hb := hb.trans (hb2.mono hb.size); clear hb2) | (go_at_call 15; refine (oCheck a cap ws _ _ HA.out HW.out h65).mono ?_; rintro e w2 ⟨rfl, hb2⟩; replace HA := Lib.hid (HA.out.below hb2); replace hb := hb.trans (hb2.mono hb.size); clear hb2) | (go_at_call 9; refine (oCount a cap ws _ _ _ _ HA.out HW.out h65).mono ?_; rintro e w2 ⟨rfl, hb2⟩; replace HA := Lib.hid (HA.out.below hb2); replace hb := hb.trans (hb2.mono hb.size); clear hb2) | (go_at_call 13; refine (oHas a cap ws _ _ _ HA.out HW.out h65).mono ?_; rintro e w2 ⟨rfl, hb2⟩; replace HA := Lib.hid (HA.out.below hb2); replace hb := hb.trans (hb2.mono hb.size); clear hb2))
  go_ret
  exact ⟨rfl, hb⟩

set_option maxRecDepth 100000 in
set_option maxHeartbeats 1000000 in
theorem a1 (a : Option Addr) (cap : Nat) (ws : List Nat) (n p q : Int) (W : World) (hT : Tab W) (hl : Lst .u64 W a (ints ws)) (hw : Wide ws) (h20 : ws.length ≤ 20) (hc : Oc.chk ws n = 0) (h1 : p < 0) :
    Calls Tryd.prog 6 #[.slice a ws.length cap, .int .i64 n, .int .i64 p, .int .i64 q] W fun e w' => e = .returned (.bool true) ∧ Below W.heap.size W w' := by
  have HT := Lib.hid hT
  have HA := Lib.hid hl
  have HW := Lib.hid hw
  have hb : Below W.heap.size W W := Below.refl _ _
  clear hl hw
  have h65 : ws.length ≤ 65536 := by omega
  go_enter Tryd.func6, Tryd.ntmps6
  go_wp2_with (first | (go_at_call 17; refine (l2Alive _ (HT.out.below hb)).mono ?_; rintro e w2 ⟨rfl, hb2⟩; replace HA := Lib.hid (HA.out.below hb2); replace hb := hb.trans (hb2.mono hb.size); clear hb2) | (go_at_call 15; refine (oCheck a cap ws _ _ HA.out HW.out h65).mono ?_; rintro e w2 ⟨rfl, hb2⟩; replace HA := Lib.hid (HA.out.below hb2); replace hb := hb.trans (hb2.mono hb.size); clear hb2) | (go_at_call 9; refine (oCount a cap ws _ _ _ _ HA.out HW.out h65).mono ?_; rintro e w2 ⟨rfl, hb2⟩; replace HA := Lib.hid (HA.out.below hb2); replace hb := hb.trans (hb2.mono hb.size); clear hb2) | (go_at_call 13; refine (oHas a cap ws _ _ _ HA.out HW.out h65).mono ?_; rintro e w2 ⟨rfl, hb2⟩; replace HA := Lib.hid (HA.out.below hb2); replace hb := hb.trans (hb2.mono hb.size); clear hb2))
  go_ret
  exact ⟨rfl, hb⟩

set_option maxRecDepth 100000 in
set_option maxHeartbeats 1000000 in
theorem a2 (a : Option Addr) (cap : Nat) (ws : List Nat) (n p q : Int) (W : World) (hT : Tab W) (hl : Lst .u64 W a (ints ws)) (hw : Wide ws) (h20 : ws.length ≤ 20) (hc : Oc.chk ws n = 0) (h1 : 0 ≤ p) (h2 : q < p) :
    Calls Tryd.prog 6 #[.slice a ws.length cap, .int .i64 n, .int .i64 p, .int .i64 q] W fun e w' => e = .returned (.bool true) ∧ Below W.heap.size W w' := by
  have HT := Lib.hid hT
  have HA := Lib.hid hl
  have HW := Lib.hid hw
  have hb : Below W.heap.size W W := Below.refl _ _
  clear hl hw
  have h65 : ws.length ≤ 65536 := by omega
  go_enter Tryd.func6, Tryd.ntmps6
  go_wp2_with (first | (go_at_call 17; refine (l2Alive _ (HT.out.below hb)).mono ?_; rintro e w2 ⟨rfl, hb2⟩; replace HA := Lib.hid (HA.out.below hb2); replace hb := hb.trans (hb2.mono hb.size); clear hb2) | (go_at_call 15; refine (oCheck a cap ws _ _ HA.out HW.out h65).mono ?_; rintro e w2 ⟨rfl, hb2⟩; replace HA := Lib.hid (HA.out.below hb2); replace hb := hb.trans (hb2.mono hb.size); clear hb2) | (go_at_call 9; refine (oCount a cap ws _ _ _ _ HA.out HW.out h65).mono ?_; rintro e w2 ⟨rfl, hb2⟩; replace HA := Lib.hid (HA.out.below hb2); replace hb := hb.trans (hb2.mono hb.size); clear hb2) | (go_at_call 13; refine (oHas a cap ws _ _ _ HA.out HW.out h65).mono ?_; rintro e w2 ⟨rfl, hb2⟩; replace HA := Lib.hid (HA.out.below hb2); replace hb := hb.trans (hb2.mono hb.size); clear hb2))
  go_ret
  exact ⟨rfl, hb⟩

set_option maxRecDepth 100000 in
set_option maxHeartbeats 1000000 in
theorem a3 (a : Option Addr) (cap : Nat) (ws : List Nat) (n p q : Int) (W : World) (hT : Tab W) (hl : Lst .u64 W a (ints ws)) (hw : Wide ws) (h20 : ws.length ≤ 20) (hc : Oc.chk ws n = 0) (h1 : 0 ≤ p) (h2 : p ≤ q) (h3 : n ≤ q) :
    Calls Tryd.prog 6 #[.slice a ws.length cap, .int .i64 n, .int .i64 p, .int .i64 q] W fun e w' => e = .returned (.bool true) ∧ Below W.heap.size W w' := by
  have HT := Lib.hid hT
  have HA := Lib.hid hl
  have HW := Lib.hid hw
  have hb : Below W.heap.size W W := Below.refl _ _
  clear hl hw
  have h65 : ws.length ≤ 65536 := by omega
  go_enter Tryd.func6, Tryd.ntmps6
  go_wp2_with (first | (go_at_call 17; refine (l2Alive _ (HT.out.below hb)).mono ?_; rintro e w2 ⟨rfl, hb2⟩; replace HA := Lib.hid (HA.out.below hb2); replace hb := hb.trans (hb2.mono hb.size); clear hb2) | (go_at_call 15; refine (oCheck a cap ws _ _ HA.out HW.out h65).mono ?_; rintro e w2 ⟨rfl, hb2⟩; replace HA := Lib.hid (HA.out.below hb2); replace hb := hb.trans (hb2.mono hb.size); clear hb2) | (go_at_call 9; refine (oCount a cap ws _ _ _ _ HA.out HW.out h65).mono ?_; rintro e w2 ⟨rfl, hb2⟩; replace HA := Lib.hid (HA.out.below hb2); replace hb := hb.trans (hb2.mono hb.size); clear hb2) | (go_at_call 13; refine (oHas a cap ws _ _ _ HA.out HW.out h65).mono ?_; rintro e w2 ⟨rfl, hb2⟩; replace HA := Lib.hid (HA.out.below hb2); replace hb := hb.trans (hb2.mono hb.size); clear hb2))
  go_ret
  exact ⟨rfl, hb⟩

set_option maxRecDepth 100000 in
set_option maxHeartbeats 1000000 in
theorem yes (a : Option Addr) (cap : Nat) (ws : List Nat) (n p q : Int) (W : World) (hT : Tab W) (hl : Lst .u64 W a (ints ws)) (hw : Wide ws) (h20 : ws.length ≤ 20) (hc : Oc.chk ws n = 0) (h1 : 0 ≤ p) (h2 : p ≤ q) (h3 : q < n) (h4 : n ≤ 65536) (e1 : Oc.countE ws n 0 p = 0) (e2 : Oc.countE ws n p q = 0) (e3 : Oc.countE ws n 0 q = 0) (e4 : Oc.countE ws n q (q + 1) = 0) (e5 : Oc.hasE ws n q = 0) (b1 : 0 ≤ Oc.countV ws n 0 p) (b2 : Oc.countV ws n 0 p ≤ 65536) (b3 : 0 ≤ Oc.countV ws n p q) (b4 : Oc.countV ws n p q ≤ 65536) (s1 : (Oc.countV ws n 0 p + Oc.countV ws n p q == Oc.countV ws n 0 q) = true) (v1 : Oc.countV ws n q (q + 1) = 1) (v2 : Oc.hasV ws n q = true) :
    Calls Tryd.prog 6 #[.slice a ws.length cap, .int .i64 n, .int .i64 p, .int .i64 q] W fun e w' => e = .returned (.bool true) ∧ Below W.heap.size W w' := by
  have HT := Lib.hid hT
  have HA := Lib.hid hl
  have HW := Lib.hid hw
  have hb : Below W.heap.size W W := Below.refl _ _
  clear hl hw
  have h65 : ws.length ≤ 65536 := by omega
  go_enter Tryd.func6, Tryd.ntmps6
  go_wp2_with (first | (go_at_call 17; refine (l2Alive _ (HT.out.below hb)).mono ?_; rintro e w2 ⟨rfl, hb2⟩; replace HA := Lib.hid (HA.out.below hb2); replace hb := hb.trans (hb2.mono hb.size); clear hb2) | (go_at_call 15; refine (oCheck a cap ws _ _ HA.out HW.out h65).mono ?_; rintro e w2 ⟨rfl, hb2⟩; replace HA := Lib.hid (HA.out.below hb2); replace hb := hb.trans (hb2.mono hb.size); clear hb2) | (go_at_call 9; refine (oCount a cap ws _ _ _ _ HA.out HW.out h65).mono ?_; rintro e w2 ⟨rfl, hb2⟩; replace HA := Lib.hid (HA.out.below hb2); replace hb := hb.trans (hb2.mono hb.size); clear hb2) | (go_at_call 13; refine (oHas a cap ws _ _ _ HA.out HW.out h65).mono ?_; rintro e w2 ⟨rfl, hb2⟩; replace HA := Lib.hid (HA.out.below hb2); replace hb := hb.trans (hb2.mono hb.size); clear hb2))
  go_ret
  exact ⟨rfl, hb⟩

set_option maxRecDepth 100000 in
set_option maxHeartbeats 1000000 in
theorem no (a : Option Addr) (cap : Nat) (ws : List Nat) (n p q : Int) (W : World) (hT : Tab W) (hl : Lst .u64 W a (ints ws)) (hw : Wide ws) (h20 : ws.length ≤ 20) (hc : Oc.chk ws n = 0) (h1 : 0 ≤ p) (h2 : p ≤ q) (h3 : q < n) (h4 : n ≤ 65536) (e1 : Oc.countE ws n 0 p = 0) (e2 : Oc.countE ws n p q = 0) (e3 : Oc.countE ws n 0 q = 0) (e4 : Oc.countE ws n q (q + 1) = 0) (e5 : Oc.hasE ws n q = 0) (b1 : 0 ≤ Oc.countV ws n 0 p) (b2 : Oc.countV ws n 0 p ≤ 65536) (b3 : 0 ≤ Oc.countV ws n p q) (b4 : Oc.countV ws n p q ≤ 65536) (s1 : (Oc.countV ws n 0 p + Oc.countV ws n p q == Oc.countV ws n 0 q) = true) (v1 : Oc.countV ws n q (q + 1) = 0) (v2 : Oc.hasV ws n q = false) :
    Calls Tryd.prog 6 #[.slice a ws.length cap, .int .i64 n, .int .i64 p, .int .i64 q] W fun e w' => e = .returned (.bool true) ∧ Below W.heap.size W w' := by
  have HT := Lib.hid hT
  have HA := Lib.hid hl
  have HW := Lib.hid hw
  have hb : Below W.heap.size W W := Below.refl _ _
  clear hl hw
  have h65 : ws.length ≤ 65536 := by omega
  go_enter Tryd.func6, Tryd.ntmps6
  go_wp2_with (first | (go_at_call 17; refine (l2Alive _ (HT.out.below hb)).mono ?_; rintro e w2 ⟨rfl, hb2⟩; replace HA := Lib.hid (HA.out.below hb2); replace hb := hb.trans (hb2.mono hb.size); clear hb2) | (go_at_call 15; refine (oCheck a cap ws _ _ HA.out HW.out h65).mono ?_; rintro e w2 ⟨rfl, hb2⟩; replace HA := Lib.hid (HA.out.below hb2); replace hb := hb.trans (hb2.mono hb.size); clear hb2) | (go_at_call 9; refine (oCount a cap ws _ _ _ _ HA.out HW.out h65).mono ?_; rintro e w2 ⟨rfl, hb2⟩; replace HA := Lib.hid (HA.out.below hb2); replace hb := hb.trans (hb2.mono hb.size); clear hb2) | (go_at_call 13; refine (oHas a cap ws _ _ _ HA.out HW.out h65).mono ?_; rintro e w2 ⟨rfl, hb2⟩; replace HA := Lib.hid (HA.out.below hb2); replace hb := hb.trans (hb2.mono hb.size); clear hb2))
  go_ret
  exact ⟨rfl, hb⟩

theorem countE_ok {ws : List Nat} {n a b : Int} (hc : Oc.chk ws n = 0) (h1 : 0 ≤ a) (h2 : a ≤ b) (h3 : b ≤ n) : Oc.countE ws n a b = 0 := by
  unfold Oc.countE; rw [if_pos hc, if_neg (by omega)]
theorem countV_ok {ws : List Nat} {n a b : Int} (hc : Oc.chk ws n = 0) (h1 : 0 ≤ a) (h2 : a ≤ b) (h3 : b ≤ n) : Oc.countV ws n a b = ((Oc.places ws a.toNat b.toNat).length : Int) := by
  unfold Oc.countV; rw [if_pos (countE_ok hc h1 h2 h3)]

theorem walk (a : Option Addr) (cap : Nat) (ws : List Nat) (n p q : Int) (W : World) (hT : Tab W) (hl : Lst .u64 W a (ints ws)) (hw : Wide ws) :
    Calls Tryd.prog 6 #[.slice a ws.length cap, .int .i64 n, .int .i64 p, .int .i64 q] W fun e w' => e = .returned (.bool true) ∧ Below W.heap.size W w' := by
  have HT := Lib.hid hT
  by_cases h20 : 20 < ws.length
  · exact long a cap ws n p q W hT hl hw h20
  by_cases hc : Oc.chk ws n = 0
  · by_cases h1 : p < 0
    · exact a1 a cap ws n p q W hT hl hw (by omega) hc h1
    by_cases h2 : q < p
    · exact a2 a cap ws n p q W hT hl hw (by omega) hc (by omega) h2
    by_cases h3 : n ≤ q
    · exact a3 a cap ws n p q W hT hl hw (by omega) hc (by omega) (by omega) h3
    obtain ⟨m, rfl, hm, hlen, _⟩ := Oc.chk_ok hc
    obtain ⟨p, rfl⟩ := Int.eq_ofNat_of_zero_le (show 0 ≤ p by omega)
    obtain ⟨q, rfl⟩ := Int.eq_ofNat_of_zero_le (show 0 ≤ q by omega)
    have e1 := countE_ok hc (a := 0) (b := (p : Int)) (by omega) (by omega) (by omega)
    have e2 := countE_ok hc (a := (p : Int)) (b := (q : Int)) (by omega) (by omega) (by omega)
    have e3 := countE_ok hc (a := 0) (b := (q : Int)) (by omega) (by omega) (by omega)
    have e4 := countE_ok hc (a := (q : Int)) (b := (q : Int) + 1) (by omega) (by omega) (by omega)
    have v1 := countV_ok hc (a := 0) (b := (p : Int)) (by omega) (by omega) (by omega)
    have v2 := countV_ok hc (a := (p : Int)) (b := (q : Int)) (by omega) (by omega) (by omega)
    have v3 := countV_ok hc (a := 0) (b := (q : Int)) (by omega) (by omega) (by omega)
    have v4 := countV_ok hc (a := (q : Int)) (b := (q : Int) + 1) (by omega) (by omega) (by omega)
    rw [show ((q : Int) + 1).toNat = q + 1 from by omega] at v4
    simp only [Int.toNat_natCast, Int.toNat_zero] at v1 v2 v3 v4
    have e5 : Oc.hasE ws (m : Int) (q : Int) = 0 := by unfold Oc.hasE; rw [if_pos hc, if_neg (by omega)]
    have w5 : Oc.hasV ws (m : Int) (q : Int) = Oc.isB ws q := by unfold Oc.hasV; rw [if_pos e5, Int.toNat_natCast]
    have l1 := Oc.places_length_le ws 0 p
    have l2 := Oc.places_length_le ws p q
    have sp := congrArg List.length (Oc.places_split ws 0 p q (by omega) (by omega))
    rw [List.length_append] at sp
    have s1 : (Oc.countV ws (m : Int) 0 (p : Int) + Oc.countV ws (m : Int) (p : Int) (q : Int) == Oc.countV ws (m : Int) 0 (q : Int)) = true := by
      rw [beq_iff_eq, v1, v2, v3]; omega
    have one := Oc.places_snoc ws q q (Nat.le_refl _)
    rw [Oc.places_self, List.nil_append] at one
    cases hi : Oc.isB ws q
    · rw [hi] at one w5
      rw [one] at v4
      exact no a cap ws m p q W hT hl hw (by omega) hc (by omega) (by omega) (by omega) (by omega) e1 e2 e3 e4 e5 (by omega) (by omega) (by omega) (by omega) s1 (by simpa using v4) w5
    · rw [hi] at one w5
      rw [one] at v4
      exact yes a cap ws m p q W hT hl hw (by omega) hc (by omega) (by omega) (by omega) (by omega) e1 e2 e3 e4 e5 (by omega) (by omega) (by omega) (by omega) s1 (by simpa using v4) w5
  · exact bad a cap ws n p q W hT hl hw (by omega) (by simp [hc])
end Go.Proofs.YtgbgeedcfccclaaDoor.occParts
