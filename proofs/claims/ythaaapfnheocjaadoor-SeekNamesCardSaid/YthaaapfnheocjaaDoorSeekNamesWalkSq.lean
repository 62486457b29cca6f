/- The walk of the law SeekNames: the errors' numbers, and more examples. -/
import Derived.Test.YthaaapfnheocjaaDoorLaw10Sq
namespace Go.Proofs.YthaaapfnheocjaaDoor.seekNames
open Go.RowKit
set_option linter.unusedVariables false
set_option linter.unusedSimpArgs false

theorem none_held (V : World) : Held V Sl.none adsNone := ⟨Or.inl rfl, Or.inl rfl, Or.inl rfl, Or.inl rfl, ⟨fun _ => ⟨rfl, rfl⟩, fun _ => ⟨rfl, rfl⟩, fun _ => ⟨rfl, rfl⟩, fun _ => ⟨rfl, rfl⟩, Nat.le_refl _, Nat.le_refl _, Nat.le_refl _, Nat.le_refl _⟩⟩
theorem facts : Sk.nextV Sk.ch 10 = 0 ∧ Sk.nextE Sk.ch 10 = 6 ∧ Sk.lastV Sk.ch 5 = 0 ∧ Sk.lastE Sk.ch 5 = 6 ∧ Sk.findV Sk.ch 6 = 0 ∧ Sk.findE Sk.ch 6 = 6 ∧ Sk.rankV Sk.ch (-9223372036854775808) = 0 ∧ Sk.chkE Sk.ch = 0 ∧ Sk.rankV Sk.ch 9223372036854775807 = 2 ∧ Sk.chkE (Sk.ch.layS 7 (9, 0)) = 130 ∧ Sk.ch.layE 7 = 0 ∧ Sk.ch.layE 0 = 0 ∧ Sk.findV (Sk.ch.layS 0 ((-9223372036854775808), 0)) (-9223372036854775808) = 0 ∧ Sk.findE (Sk.ch.layS 0 ((-9223372036854775808), 0)) (-9223372036854775808) = 0 ∧ Sk.lastV (Sk.ch.layS 0 ((-9223372036854775808), 0)) (-9223372036854775808) = 0 ∧ Sk.lastE (Sk.ch.layS 0 ((-9223372036854775808), 0)) (-9223372036854775808) = 6 ∧ Sk.chkE Sl.none = 8 := by decide +kernel
set_option maxRecDepth 100000 in
set_option maxHeartbeats 4000000 in
theorem walk (W : World) (hT : Tab W) :
    Calls Tryd.prog 3 #[] W fun e w' => e = .returned (.bool true) ∧ Below W.heap.size W w' := by
  obtain ⟨f0, f1, f2, f3, f4, f5, f6, f7, f8, f9, f10, f11, f12, f13, f14, f15, f16⟩ := facts; have CF := Lib.hid skch_fine; have m64 : In64 (-9223372036854775808) := ⟨by omega, by omega⟩; have z0 : In64 0 := ⟨by omega, by omega⟩; have z9 : In64 9 := ⟨by omega, by omega⟩; have XF := Lib.hid (And.intro (ok_lay CF.out.1 CF.out.2 7 (p := (9, 0)) z9 z0) (short_lay CF.out.2 7 (9, 0))); have YF := Lib.hid (And.intro (ok_lay CF.out.1 CF.out.2 0 (p := ((-9223372036854775808), 0)) m64 z0) (short_lay CF.out.2 0 ((-9223372036854775808), 0))); have CC := Lib.hid (fun V tv => l10Chapter V tv); have C1 := Lib.hid (fun A V (hv : Held V Sk.ch A) tv => kNext Sk.ch A 10 V hv CF.out.1 CF.out.2 tv); have C2 := Lib.hid (fun A V (hv : Held V Sk.ch A) tv => kLast Sk.ch A 5 V hv CF.out.1 CF.out.2 tv); have C3 := Lib.hid (fun A V (hv : Held V Sk.ch A) tv => kFind Sk.ch A 6 V hv CF.out.1 CF.out.2 tv); have C4 := Lib.hid (fun A V (hv : Held V Sk.ch A) tv => kRank Sk.ch A (-9223372036854775808) V hv CF.out.1 CF.out.2 tv); have C5 := Lib.hid (fun A V (hv : Held V Sk.ch A) tv => kRank Sk.ch A 9223372036854775807 V hv CF.out.1 CF.out.2 tv); have C6 := Lib.hid (fun A V (hv : Held V Sk.ch A) tv => cLay Sk.ch A 7 (9, 0) V hv CF.out.1 CF.out.2 tv); have C7 := Lib.hid (fun A V (hv : Held V Sk.ch A) tv => cLay Sk.ch A 0 ((-9223372036854775808), 0) V hv CF.out.1 CF.out.2 tv); have C8 := Lib.hid (fun A V (hv : Held V (Sk.ch.layS 0 ((-9223372036854775808), 0)) A) tv => kFind _ A (-9223372036854775808) V hv YF.out.1 YF.out.2 tv)
  have C9 := Lib.hid (fun A V (hv : Held V (Sk.ch.layS 0 ((-9223372036854775808), 0)) A) tv => kLast _ A (-9223372036854775808) V hv YF.out.1 YF.out.2 tv); have CX := Lib.hid (fun A V (hv : Held V (Sk.ch.layS 7 (9, 0)) A) tv => kCheck _ A V hv XF.out.1 XF.out.2 tv); have CZ := Lib.hid (fun V tv => kCheck Sl.none adsNone V (none_held V) ok_none short_none tv); rw [f0, f1] at C1; rw [f2, f3] at C2; rw [f4, f5] at C3; rw [f6, f7] at C4; rw [f8, f7] at C5; rw [f9] at CX; rw [f10] at C6; rw [f11] at C7; rw [f12, f13] at C8; rw [f14, f15] at C9; rw [f16] at CZ; clear f0 f1 f2 f3 f4 f5 f6 f7 f8 f9 f10 f11 f12 f13 f14 f15 f16 XF YF CF m64 z0 z9; obtain ⟨X, hX⟩ : ∃ X, X = Sk.ch.layS 7 (9, 0) := ⟨_, rfl⟩; obtain ⟨Y, hY⟩ : ∃ Y, Y = Sk.ch.layS 0 ((-9223372036854775808), 0) := ⟨_, rfl⟩; rw [← hX] at C6 CX; rw [← hY] at C7 C8 C9; clear hX hY; obtain ⟨S0, hS0⟩ : ∃ S, S = Sk.ch := ⟨_, rfl⟩; rw [← hS0] at CC C1 C2 C3 C4 C5 C6 C7; clear hS0; have TB := Lib.hid hT; have BB := Lib.hid (Below.refl W.heap.size W); clear hT; unfold slv at C1 C2 C3 C4 C5 C8 C9 CX CZ; unfold slv pv at C6 C7
  dsimp only [Sl.none, adsNone, List.length_nil] at CZ
  go_enter Tryd.func3, Tryd.ntmps3
  go_wp2_with fail
  refine (CC.out _ TB.out).mono ?_; rintro e c1 ⟨A1, rfl, own, hb⟩; replace BB := Lib.hid (BB.out.trans (hb.mono BB.out.size)); replace TB := Lib.hid (TB.out.below hb); have O := Lib.hid own.held; clear hb own; unfold slv
  go_wp2_with fail
  refine (C1.out A1 _ O.out TB.out).mono ?_; rintro e d1 ⟨rfl, hb⟩; replace BB := Lib.hid (BB.out.trans (hb.mono BB.out.size)); replace TB := Lib.hid (TB.out.below hb); clear hb; clear O
  go_wp2_with fail
  refine (CC.out _ TB.out).mono ?_; rintro e c2 ⟨A2, rfl, own, hb⟩; replace BB := Lib.hid (BB.out.trans (hb.mono BB.out.size)); replace TB := Lib.hid (TB.out.below hb); have O := Lib.hid own.held; clear hb own; unfold slv
  go_wp2_with fail
  refine (C2.out A2 _ O.out TB.out).mono ?_; rintro e d2 ⟨rfl, hb⟩; replace BB := Lib.hid (BB.out.trans (hb.mono BB.out.size)); replace TB := Lib.hid (TB.out.below hb); clear hb; clear O
  go_wp2_with fail
  refine (CC.out _ TB.out).mono ?_; rintro e c3 ⟨A3, rfl, own, hb⟩; replace BB := Lib.hid (BB.out.trans (hb.mono BB.out.size)); replace TB := Lib.hid (TB.out.below hb); have O := Lib.hid own.held; clear hb own; unfold slv
  go_wp2_with fail
  refine (C3.out A3 _ O.out TB.out).mono ?_; rintro e d3 ⟨rfl, hb⟩; replace BB := Lib.hid (BB.out.trans (hb.mono BB.out.size)); replace TB := Lib.hid (TB.out.below hb); clear hb; clear O
  go_wp2_with fail
  refine (CC.out _ TB.out).mono ?_; rintro e c4 ⟨A4, rfl, own, hb⟩; replace BB := Lib.hid (BB.out.trans (hb.mono BB.out.size)); replace TB := Lib.hid (TB.out.below hb); have O := Lib.hid own.held; clear hb own; unfold slv
  go_wp2_with fail
  refine (C4.out A4 _ O.out TB.out).mono ?_; rintro e d4 ⟨rfl, hb⟩; replace BB := Lib.hid (BB.out.trans (hb.mono BB.out.size)); replace TB := Lib.hid (TB.out.below hb); clear hb; clear O
  go_wp2_with fail
  refine (CC.out _ TB.out).mono ?_; rintro e c5 ⟨A5, rfl, own, hb⟩; replace BB := Lib.hid (BB.out.trans (hb.mono BB.out.size)); replace TB := Lib.hid (TB.out.below hb); have O := Lib.hid own.held; clear hb own; unfold slv
  go_wp2_with fail
  refine (C5.out A5 _ O.out TB.out).mono ?_; rintro e d5 ⟨rfl, hb⟩; replace BB := Lib.hid (BB.out.trans (hb.mono BB.out.size)); replace TB := Lib.hid (TB.out.below hb); clear hb; clear O
  go_wp2_with fail
  refine (CC.out _ TB.out).mono ?_; rintro e c6 ⟨A6, rfl, own, hb⟩; replace BB := Lib.hid (BB.out.trans (hb.mono BB.out.size)); replace TB := Lib.hid (TB.out.below hb); have O := Lib.hid own.held; clear hb own; unfold slv
  go_wp2_with fail
  refine (C6.out A6 _ O.out TB.out).mono ?_; rintro e d6 ⟨B6, rfl, own, hb⟩; replace BB := Lib.hid (BB.out.trans (hb.mono BB.out.size)); replace TB := Lib.hid (TB.out.below hb); have HX := Lib.hid own.held; clear hb own O; unfold slv
  go_upto_region 7 with (fail)
  obtain ⟨V6, hV⟩ : ∃ V, V = d6.alloc (.cells #[.int .i64 X.seg, .slice B6.w X.words.length B6.cw, .slice B6.k X.keys.length B6.ck, .slice B6.v X.vals.length B6.cv, .slice B6.c X.counts.length B6.cc, .int .u64 (X.laid : Int)] 30) := ⟨_, rfl⟩
  have hb : Below d6.heap.size d6 V6 := by rw [hV]; exact (Below.refl _ _).alloc (Nat.le_refl _) _
  have BX := Lib.hid (show Box V6 d6.heap.size X B6 by rw [hV]; exact Box.new d6 X B6 30); rw [← hV]; clear hV; replace BB := Lib.hid (BB.out.trans (hb.mono BB.out.size)); replace TB := Lib.hid (TB.out.below hb); replace HX := Lib.hid (HX.out.below hb); clear hb
  go_wp2_with fail
  refine (CC.out _ TB.out).mono ?_; rintro e c7 ⟨A7, rfl, own, hb⟩; replace BB := Lib.hid (BB.out.trans (hb.mono BB.out.size)); replace TB := Lib.hid (TB.out.below hb); replace BX := Lib.hid (BX.out.below hb); replace HX := Lib.hid (HX.out.below hb); have O := Lib.hid own.held; clear hb own; unfold slv
  go_wp2_with fail
  refine (C7.out A7 _ O.out TB.out).mono ?_; rintro e d7 ⟨B7, rfl, own, hb⟩; replace BB := Lib.hid (BB.out.trans (hb.mono BB.out.size)); replace TB := Lib.hid (TB.out.below hb); replace BX := Lib.hid (BX.out.below hb); replace HX := Lib.hid (HX.out.below hb); have HY := Lib.hid own.held; clear hb own O; unfold slv
  go_upto_region 8 with (fail)
  obtain ⟨V7, hV⟩ : ∃ V, V = d7.alloc (.cells #[.int .i64 Y.seg, .slice B7.w Y.words.length B7.cw, .slice B7.k Y.keys.length B7.ck, .slice B7.v Y.vals.length B7.cv, .slice B7.c Y.counts.length B7.cc, .int .u64 (Y.laid : Int)] 30) := ⟨_, rfl⟩
  have hb : Below d7.heap.size d7 V7 := by rw [hV]; exact (Below.refl _ _).alloc (Nat.le_refl _) _
  have BY := Lib.hid (show Box V7 d7.heap.size Y B7 by rw [hV]; exact Box.new d7 Y B7 30); rw [← hV]; clear hV; replace BB := Lib.hid (BB.out.trans (hb.mono BB.out.size)); replace TB := Lib.hid (TB.out.below hb); replace HY := Lib.hid (HY.out.below hb); replace BX := Lib.hid (BX.out.below hb); replace HX := Lib.hid (HX.out.below hb); clear hb; obtain ⟨_, p0, p1, p2, p3, p4, p5, _⟩ := BY.out
  go_wp2_with fail
  refine (C8.out B7 _ HY.out TB.out).mono ?_; rintro e d8 ⟨rfl, hb⟩; replace BB := Lib.hid (BB.out.trans (hb.mono BB.out.size)); replace TB := Lib.hid (TB.out.below hb); replace BX := Lib.hid (BX.out.below hb); replace HX := Lib.hid (HX.out.below hb); replace BY := Lib.hid (BY.out.below hb); replace HY := Lib.hid (HY.out.below hb); clear hb; clear p0 p1 p2 p3 p4 p5; obtain ⟨_, p0, p1, p2, p3, p4, p5, _⟩ := BY.out
  go_wp2_with fail
  refine (C9.out B7 _ HY.out TB.out).mono ?_; rintro e d9 ⟨rfl, hb⟩; replace BB := Lib.hid (BB.out.trans (hb.mono BB.out.size)); replace TB := Lib.hid (TB.out.below hb); replace BX := Lib.hid (BX.out.below hb); replace HX := Lib.hid (HX.out.below hb); replace BY := Lib.hid (BY.out.below hb); replace HY := Lib.hid (HY.out.below hb); clear hb; clear p0 p1 p2 p3 p4 p5
  go_wp2_with fail
  refine (l10Alive _ TB.out).mono ?_; rintro e d10 ⟨rfl, hb⟩; replace BB := Lib.hid (BB.out.trans (hb.mono BB.out.size)); replace TB := Lib.hid (TB.out.below hb); replace BX := Lib.hid (BX.out.below hb); replace HX := Lib.hid (HX.out.below hb); replace BY := Lib.hid (BY.out.below hb); replace HY := Lib.hid (HY.out.below hb); clear hb
  go_wp2_with fail
  refine (l10At (0) 0 (0) _).mono ?_; rintro e w' ⟨rfl, rfl⟩; rw [show (decide ((0 : Int) = 0) && decide ((0 : Int) = 0)) = true from by simp]
  go_wp2_with fail
  refine (l10At (2) 0 (2) _).mono ?_; rintro e w' ⟨rfl, rfl⟩; rw [show (decide ((0 : Int) = 0) && decide ((2 : Int) = 2)) = true from by simp]; obtain ⟨_, p0, p1, p2, p3, p4, p5, _⟩ := BX.out
  go_wp2_with fail
  refine (CX.out B6 _ HX.out TB.out).mono ?_; rintro e d11 ⟨rfl, hb⟩; replace BB := Lib.hid (BB.out.trans (hb.mono BB.out.size)); replace TB := Lib.hid (TB.out.below hb); replace BX := Lib.hid (BX.out.below hb); replace HX := Lib.hid (HX.out.below hb); replace BY := Lib.hid (BY.out.below hb); replace HY := Lib.hid (HY.out.below hb); clear hb; clear p0 p1 p2 p3 p4 p5
  go_wp2_with fail
  refine (l10At (0) 0 (0) _).mono ?_; rintro e w' ⟨rfl, rfl⟩; rw [show (decide ((0 : Int) = 0) && decide ((0 : Int) = 0)) = true from by simp]
  go_wp2_with fail
  refine (CZ.out _ TB.out).mono ?_; rintro e d12 ⟨rfl, hb⟩; replace BB := Lib.hid (BB.out.trans (hb.mono BB.out.size)); replace TB := Lib.hid (TB.out.below hb); replace BX := Lib.hid (BX.out.below hb); replace HX := Lib.hid (HX.out.below hb); replace BY := Lib.hid (BY.out.below hb); replace HY := Lib.hid (HY.out.below hb); clear hb; go_wp2; go_ret; exact ⟨rfl, BB.out⟩
end Go.Proofs.YthaaapfnheocjaaDoor.seekNames
