/- The walk of the law OccTurned: a slot that is turned is as was told, and nothing else is. -/
import Derived.Test.YtgbgeedcfccclaaDoorLaw02
import Derived.Test.YtgbgeedcfccclaaDoorTurned
namespace Go.Proofs.YtgbgeedcfccclaaDoor.occTurned
open Go.RowKit
set_option linter.unusedVariables false

set_option maxRecDepth 100000 in
set_option maxHeartbeats 1000000 in
theorem long (a : Option Addr) (cap : Nat) (ws : List Nat) (n s b : Int) (W : World) (hT : Tab W) (hl : Lst .u64 W a (ints ws)) (hw : Wide ws) (h20 : 20 < ws.length) :
    Calls Tryd.prog 8 #[.slice a ws.length cap, .int .i64 n, .int .i64 s, .int .i64 b] W fun e w' => e = .returned (.bool true) ∧ Below W.heap.size W w' := by
  have HT := Lib.hid hT
  have HA := Lib.hid hl
  have HW := Lib.hid hw
  have hb : Below W.heap.size W W := Below.refl _ _
  clear hl hw
  go_enter Tryd.func8, Tryd.ntmps8
  go_wp2_with fail
  refine (l2Alive _ (HT.out.below hb)).mono ?_
  rintro e w2 ⟨rfl, hb2⟩
  replace HA := Lib.hid (HA.out.below hb2)
  replace hb := hb.trans (hb2.mono hb.size)
  clear hb2
  go_wp2_with fail
  go_ret
  exact ⟨rfl, hb⟩

set_option maxRecDepth 100000 in
set_option maxHeartbeats 1000000 in
theorem err (a : Option Addr) (cap : Nat) (ws : List Nat) (n s b : Int) (W : World) (hT : Tab W) (hl : Lst .u64 W a (ints ws)) (hw : Wide ws) (h20 : ws.length ≤ 20) (e1 : (Oc.hasE ws n s != 0) = true) (q1 : Hid (Oc.withW ws n s true = [])) :
    Calls Tryd.prog 8 #[.slice a ws.length cap, .int .i64 n, .int .i64 s, .int .i64 b] W fun e w' => e = .returned (.bool true) ∧ Below W.heap.size W w' := by
  have HT := Lib.hid hT
  have HA := Lib.hid hl
  have HW := Lib.hid hw
  have hb : Below W.heap.size W W := Below.refl _ _
  clear hl hw
  have h65 : ws.length ≤ 65536 := by omega
  have q2 := Lib.hid (withW_nil n s false)
  go_enter Tryd.func8, Tryd.ntmps8
  go_wp2_with fail
  refine (l2Alive _ (HT.out.below hb)).mono ?_
  rintro e w2 ⟨rfl, hb2⟩
  replace HA := Lib.hid (HA.out.below hb2)
  replace hb := hb.trans (hb2.mono hb.size)
  clear hb2
  go_wp2_with fail
  refine (oWith a cap ws n s true _ HA.out HW.out h65).mono ?_
  rintro e w2 ⟨v, rfl, hown, hb2⟩
  replace HA := Lib.hid (HA.out.below hb2)
  rw [q1.out] at hown
  obtain ⟨A1, c1, hv, hL⟩ := own_words hown
  have HON := Lib.hid hL
  rw [hv]
  clear hv hown hL
  replace hb := hb.trans (hb2.mono hb.size)
  clear hb2
  go_wp2_with fail
  refine (oWith A1 c1 [] n s false _ HON.out wide_nil (by simp)).mono ?_
  rintro e w2 ⟨v, rfl, hown, hb2⟩
  replace HA := Lib.hid (HA.out.below hb2)
  replace HON := Lib.hid (HON.out.below hb2)
  rw [q2.out] at hown
  obtain ⟨A2, c2, hv, hL⟩ := own_words hown
  have HOFF := Lib.hid hL
  rw [hv]
  clear hv hown hL
  replace hb := hb.trans (hb2.mono hb.size)
  clear hb2
  go_wp2_with fail
  go_ret
  exact ⟨rfl, hb⟩

set_option maxRecDepth 100000 in
set_option maxHeartbeats 1000000 in
theorem same (a : Option Addr) (cap : Nat) (ws : List Nat) (n s b : Int) (W : World) (hT : Tab W) (hl : Lst .u64 W a (ints ws)) (hw : Wide ws) (h20 : ws.length ≤ 20) (on off : List Nat) (q1 : Hid (Oc.withW ws n s true = on)) (q2 : Hid (Oc.withW on n s false = off)) (q3 : Hid (Oc.withW on n s true = on)) (l1 : on.length ≤ 65536) (l2 : off.length ≤ 65536) (HWN : Hid (Wide on)) (HWF : Hid (Wide off)) (e1 : Oc.hasE ws n s = 0) (e2 : Oc.hasE on n s = 0) (e3 : Oc.hasE off n s = 0) (v1 : Oc.hasV on n s = true) (v2 : Oc.hasV off n s = false) (f1 : Oc.hasE on n b = Oc.hasE ws n b) (f2 : Oc.hasE off n b = Oc.hasE ws n b) (hab : (s == b) = true) :
    Calls Tryd.prog 8 #[.slice a ws.length cap, .int .i64 n, .int .i64 s, .int .i64 b] W fun e w' => e = .returned (.bool true) ∧ Below W.heap.size W w' := by
  have HT := Lib.hid hT
  have HA := Lib.hid hl
  have HW := Lib.hid hw
  have hb : Below W.heap.size W W := Below.refl _ _
  clear hl hw
  have h65 : ws.length ≤ 65536 := by omega
  go_enter Tryd.func8, Tryd.ntmps8
  go_wp2_with fail
  refine (l2Alive _ (HT.out.below hb)).mono ?_
  rintro e w2 ⟨rfl, hb2⟩
  replace HA := Lib.hid (HA.out.below hb2)
  replace hb := hb.trans (hb2.mono hb.size)
  clear hb2
  go_wp2_with fail
  refine (oWith a cap ws n s true _ HA.out HW.out h65).mono ?_
  rintro e w2 ⟨v, rfl, hown, hb2⟩
  replace HA := Lib.hid (HA.out.below hb2)
  rw [q1.out] at hown
  obtain ⟨A1, c1, hv, hL⟩ := own_words hown
  have HON := Lib.hid hL
  rw [hv]
  clear hv hown hL
  replace hb := hb.trans (hb2.mono hb.size)
  clear hb2
  go_wp2_with fail
  refine (oWith A1 c1 on n s false _ HON.out HWN.out l1).mono ?_
  rintro e w2 ⟨v, rfl, hown, hb2⟩
  replace HA := Lib.hid (HA.out.below hb2)
  replace HON := Lib.hid (HON.out.below hb2)
  rw [q2.out] at hown
  obtain ⟨A2, c2, hv, hL⟩ := own_words hown
  have HOFF := Lib.hid hL
  rw [hv]
  clear hv hown hL
  replace hb := hb.trans (hb2.mono hb.size)
  clear hb2
  go_wp2_with fail
  refine (oHas A1 c1 on n s _ HON.out HWN.out l1).mono ?_
  rintro e w2 ⟨rfl, hb2⟩
  replace HA := Lib.hid (HA.out.below hb2)
  replace HON := Lib.hid (HON.out.below hb2)
  replace HOFF := Lib.hid (HOFF.out.below hb2)
  replace hb := hb.trans (hb2.mono hb.size)
  clear hb2
  go_wp2_with fail
  refine (oHas A2 c2 off n s _ HOFF.out HWF.out l2).mono ?_
  rintro e w2 ⟨rfl, hb2⟩
  replace HA := Lib.hid (HA.out.below hb2)
  replace HON := Lib.hid (HON.out.below hb2)
  replace HOFF := Lib.hid (HOFF.out.below hb2)
  replace hb := hb.trans (hb2.mono hb.size)
  clear hb2
  go_wp2_with fail
  refine (oWith A1 c1 on n s true _ HON.out HWN.out l1).mono ?_
  rintro e w2 ⟨v, rfl, hown, hb2⟩
  replace HA := Lib.hid (HA.out.below hb2)
  replace HON := Lib.hid (HON.out.below hb2)
  replace HOFF := Lib.hid (HOFF.out.below hb2)
  rw [q3.out] at hown
  obtain ⟨A3, c3, hv, hL⟩ := own_words hown
  have HAG := Lib.hid hL
  rw [hv]
  clear hv hown hL
  replace hb := hb.trans (hb2.mono hb.size)
  clear hb2
  go_wp2_with fail
  refine (oSame A3 A1 c3 c1 on on _ HAG.out HON.out l1 l1).mono ?_
  rintro e w2 ⟨rfl, hb2⟩
  replace HA := Lib.hid (HA.out.below hb2)
  replace HON := Lib.hid (HON.out.below hb2)
  replace HOFF := Lib.hid (HOFF.out.below hb2)
  rw [beq_self_eq_true]
  replace hb := hb.trans (hb2.mono hb.size)
  clear hb2
  go_wp2_with fail
  refine (oHas a cap ws n b _ HA.out HW.out h65).mono ?_
  rintro e w2 ⟨rfl, hb2⟩
  replace HA := Lib.hid (HA.out.below hb2)
  replace HON := Lib.hid (HON.out.below hb2)
  replace HOFF := Lib.hid (HOFF.out.below hb2)
  replace hb := hb.trans (hb2.mono hb.size)
  clear hb2
  go_wp2_with fail
  refine (oHas A1 c1 on n b _ HON.out HWN.out l1).mono ?_
  rintro e w2 ⟨rfl, hb2⟩
  replace HA := Lib.hid (HA.out.below hb2)
  replace HON := Lib.hid (HON.out.below hb2)
  replace HOFF := Lib.hid (HOFF.out.below hb2)
  replace hb := hb.trans (hb2.mono hb.size)
  clear hb2
  go_wp2_with fail
  refine (oHas A2 c2 off n b _ HOFF.out HWF.out l2).mono ?_
  rintro e w2 ⟨rfl, hb2⟩
  replace HA := Lib.hid (HA.out.below hb2)
  replace HON := Lib.hid (HON.out.below hb2)
  replace HOFF := Lib.hid (HOFF.out.below hb2)
  replace hb := hb.trans (hb2.mono hb.size)
  clear hb2
  go_wp2_with fail
  go_ret
  exact ⟨rfl, hb⟩

set_option maxRecDepth 100000 in
set_option maxHeartbeats 1000000 in
theorem other (a : Option Addr) (cap : Nat) (ws : List Nat) (n s b : Int) (W : World) (hT : Tab W) (hl : Lst .u64 W a (ints ws)) (hw : Wide ws) (h20 : ws.length ≤ 20) (on off : List Nat) (q1 : Hid (Oc.withW ws n s true = on)) (q2 : Hid (Oc.withW on n s false = off)) (q3 : Hid (Oc.withW on n s true = on)) (l1 : on.length ≤ 65536) (l2 : off.length ≤ 65536) (HWN : Hid (Wide on)) (HWF : Hid (Wide off)) (e1 : Oc.hasE ws n s = 0) (e2 : Oc.hasE on n s = 0) (e3 : Oc.hasE off n s = 0) (v1 : Oc.hasV on n s = true) (v2 : Oc.hasV off n s = false) (f1 : Oc.hasE on n b = Oc.hasE ws n b) (f2 : Oc.hasE off n b = Oc.hasE ws n b) (hab : (s == b) = false) (g1 : Oc.hasV on n b = Oc.hasV ws n b) (g2 : Oc.hasV off n b = Oc.hasV ws n b) :
    Calls Tryd.prog 8 #[.slice a ws.length cap, .int .i64 n, .int .i64 s, .int .i64 b] W fun e w' => e = .returned (.bool true) ∧ Below W.heap.size W w' := by
  have HT := Lib.hid hT
  have HA := Lib.hid hl
  have HW := Lib.hid hw
  have hb : Below W.heap.size W W := Below.refl _ _
  clear hl hw
  have h65 : ws.length ≤ 65536 := by omega
  go_enter Tryd.func8, Tryd.ntmps8
  go_wp2_with fail
  refine (l2Alive _ (HT.out.below hb)).mono ?_
  rintro e w2 ⟨rfl, hb2⟩
  replace HA := Lib.hid (HA.out.below hb2)
  replace hb := hb.trans (hb2.mono hb.size)
  clear hb2
  go_wp2_with fail
  refine (oWith a cap ws n s true _ HA.out HW.out h65).mono ?_
  rintro e w2 ⟨v, rfl, hown, hb2⟩
  replace HA := Lib.hid (HA.out.below hb2)
  rw [q1.out] at hown
  obtain ⟨A1, c1, hv, hL⟩ := own_words hown
  have HON := Lib.hid hL
  rw [hv]
  clear hv hown hL
  replace hb := hb.trans (hb2.mono hb.size)
  clear hb2
  go_wp2_with fail
  refine (oWith A1 c1 on n s false _ HON.out HWN.out l1).mono ?_
  rintro e w2 ⟨v, rfl, hown, hb2⟩
  replace HA := Lib.hid (HA.out.below hb2)
  replace HON := Lib.hid (HON.out.below hb2)
  rw [q2.out] at hown
  obtain ⟨A2, c2, hv, hL⟩ := own_words hown
  have HOFF := Lib.hid hL
  rw [hv]
  clear hv hown hL
  replace hb := hb.trans (hb2.mono hb.size)
  clear hb2
  go_wp2_with fail
  refine (oHas A1 c1 on n s _ HON.out HWN.out l1).mono ?_
  rintro e w2 ⟨rfl, hb2⟩
  replace HA := Lib.hid (HA.out.below hb2)
  replace HON := Lib.hid (HON.out.below hb2)
  replace HOFF := Lib.hid (HOFF.out.below hb2)
  replace hb := hb.trans (hb2.mono hb.size)
  clear hb2
  go_wp2_with fail
  refine (oHas A2 c2 off n s _ HOFF.out HWF.out l2).mono ?_
  rintro e w2 ⟨rfl, hb2⟩
  replace HA := Lib.hid (HA.out.below hb2)
  replace HON := Lib.hid (HON.out.below hb2)
  replace HOFF := Lib.hid (HOFF.out.below hb2)
  replace hb := hb.trans (hb2.mono hb.size)
  clear hb2
  go_wp2_with fail
  refine (oWith A1 c1 on n s true _ HON.out HWN.out l1).mono ?_
  rintro e w2 ⟨v, rfl, hown, hb2⟩
  replace HA := Lib.hid (HA.out.below hb2)
  replace HON := Lib.hid (HON.out.below hb2)
  replace HOFF := Lib.hid (HOFF.out.below hb2)
  rw [q3.out] at hown
  obtain ⟨A3, c3, hv, hL⟩ := own_words hown
  have HAG := Lib.hid hL
  rw [hv]
  clear hv hown hL
  replace hb := hb.trans (hb2.mono hb.size)
  clear hb2
  go_wp2_with fail
  refine (oSame A3 A1 c3 c1 on on _ HAG.out HON.out l1 l1).mono ?_
  rintro e w2 ⟨rfl, hb2⟩
  replace HA := Lib.hid (HA.out.below hb2)
  replace HON := Lib.hid (HON.out.below hb2)
  replace HOFF := Lib.hid (HOFF.out.below hb2)
  rw [beq_self_eq_true]
  replace hb := hb.trans (hb2.mono hb.size)
  clear hb2
  go_wp2_with fail
  refine (oHas a cap ws n b _ HA.out HW.out h65).mono ?_
  rintro e w2 ⟨rfl, hb2⟩
  replace HA := Lib.hid (HA.out.below hb2)
  replace HON := Lib.hid (HON.out.below hb2)
  replace HOFF := Lib.hid (HOFF.out.below hb2)
  replace hb := hb.trans (hb2.mono hb.size)
  clear hb2
  go_wp2_with fail
  refine (oHas A1 c1 on n b _ HON.out HWN.out l1).mono ?_
  rintro e w2 ⟨rfl, hb2⟩
  replace HA := Lib.hid (HA.out.below hb2)
  replace HON := Lib.hid (HON.out.below hb2)
  replace HOFF := Lib.hid (HOFF.out.below hb2)
  replace hb := hb.trans (hb2.mono hb.size)
  clear hb2
  go_wp2_with fail
  refine (oHas A2 c2 off n b _ HOFF.out HWF.out l2).mono ?_
  rintro e w2 ⟨rfl, hb2⟩
  replace HA := Lib.hid (HA.out.below hb2)
  replace HON := Lib.hid (HON.out.below hb2)
  replace HOFF := Lib.hid (HOFF.out.below hb2)
  replace hb := hb.trans (hb2.mono hb.size)
  clear hb2
  go_wp2_with fail
  go_ret
  exact ⟨rfl, hb⟩

theorem walk (a : Option Addr) (cap : Nat) (ws : List Nat) (n s b : Int) (W : World) (hT : Tab W) (hl : Lst .u64 W a (ints ws)) (hw : Wide ws) :
    Calls Tryd.prog 8 #[.slice a ws.length cap, .int .i64 n, .int .i64 s, .int .i64 b] W fun e w' => e = .returned (.bool true) ∧ Below W.heap.size W w' := by
  have HT := Lib.hid hT
  by_cases h20 : 20 < ws.length
  · exact long a cap ws n s b W hT hl hw h20
  by_cases e1 : Oc.hasE ws n s = 0
  · obtain ⟨hc, h1, h2⟩ := hasE_of e1
    obtain ⟨m, rfl, hm, hlen, _⟩ := Oc.chk_ok hc
    obtain ⟨s, rfl⟩ := Int.eq_ofNat_of_zero_le h1
    have c1 := chk_putW hc s true h2
    have c2 := chk_putW c1 s false h2
    have q1 : Oc.withW ws (m : Int) (s : Int) true = Oc.putW ws s true := by unfold Oc.withW; rw [if_pos e1, Int.toNat_natCast]
    have e2 := (hasE_same hc c1 (s : Int)).trans e1
    have e3 := (hasE_same hc c2 (s : Int)).trans e1
    have hs : s / 64 < ws.length := by omega
    have i1 : Oc.isB (Oc.putW ws s true) s = true := by rw [isB_putW _ _ _ _ hs, if_pos rfl]
    have i2 : Oc.isB (Oc.putW (Oc.putW ws s true) s false) s = false := by rw [isB_putW _ _ _ _ (by rw [putW_length]; exact hs), if_pos rfl]
    have q2 : Oc.withW (Oc.putW ws s true) (m : Int) (s : Int) false = Oc.putW (Oc.putW ws s true) s false := by unfold Oc.withW; rw [if_pos e2, Int.toNat_natCast]
    have q3 : Oc.withW (Oc.putW ws s true) (m : Int) (s : Int) true = Oc.putW ws s true := by unfold Oc.withW; rw [if_pos e2, Int.toNat_natCast, putW_same i1]
    have v1 : Oc.hasV (Oc.putW ws s true) (m : Int) (s : Int) = true := by unfold Oc.hasV; rw [if_pos e2, Int.toNat_natCast, i1]
    have v2 : Oc.hasV (Oc.putW (Oc.putW ws s true) s false) (m : Int) (s : Int) = false := by unfold Oc.hasV; rw [if_pos e3, Int.toNat_natCast, i2]
    have f1 := hasE_same hc c1 b
    have f2 := hasE_same hc c2 b
    have l1 : (Oc.putW ws s true).length ≤ 65536 := by rw [putW_length]; omega
    have l2 : (Oc.putW (Oc.putW ws s true) s false).length ≤ 65536 := by rw [putW_length, putW_length]; omega
    by_cases hab : (s : Int) = b
    · exact same a cap ws m s b W hT hl hw (by omega) _ _ (Lib.hid q1) (Lib.hid q2) (Lib.hid q3) l1 l2 (Lib.hid (wide_putW hw s true)) (Lib.hid (wide_putW (wide_putW hw s true) s false)) e1 e2 e3 v1 v2 f1 f2 (by simp [hab])
    · have g1 := hasV_putW hc s true h2 b (fun e => hab e.symm)
      have g2 := (hasV_putW c1 s false h2 b (fun e => hab e.symm)).trans g1
      exact other a cap ws m s b W hT hl hw (by omega) _ _ (Lib.hid q1) (Lib.hid q2) (Lib.hid q3) l1 l2 (Lib.hid (wide_putW hw s true)) (Lib.hid (wide_putW (wide_putW hw s true) s false)) e1 e2 e3 v1 v2 f1 f2 (by simp [hab]) g1 g2
  · exact err a cap ws n s b W hT hl hw (by omega) (by simp [e1]) (Lib.hid (by unfold Oc.withW; rw [if_neg e1]))
end Go.Proofs.YtgbgeedcfccclaaDoor.occTurned
