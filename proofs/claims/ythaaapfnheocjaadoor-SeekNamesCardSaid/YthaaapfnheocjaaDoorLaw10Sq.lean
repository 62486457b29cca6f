/- What the law package of layer 10's own functions return: chapter, at, alive. -/
import Derived.Test.YthaaapfnheocjaaDoorSeekSq
import Derived.Test.YthaaapfnheocjaaDoorM23Sq
import Derived.Test.YthaaapfnheocjaaDoorM17Sq
import Derived.Test.YthaaapfnheocjaaDoorM15Sq
import Derived.Test.YthaaapfnheocjaaDoorM08Sq
namespace Go.Proofs.YthaaapfnheocjaaDoor
open Go.RowKit
set_option linter.unusedVariables false
set_option linter.unusedSimpArgs false

/-- The chapter's slots. -/
def Sk.ch : Sl := ((Sl.newS 4 8).layS 1 (5, 0)).layS 6 (9, 0)
theorem small10 {z : Int} (h1 : -1000 ≤ z) (h2 : z ≤ 1000) : In64 z := ⟨by omega, by omega⟩
theorem skch_fine : Sk.ch.Ok ∧ Sk.ch.Short :=
  have ok0 := ok_new (seg := 4) (many := 8) (small10 (by omega) (by omega)); have sh0 := short_new (seg := 4) (many := 8); have ok1 := ok_lay ok0 sh0 1 (p := (5, 0)) (small10 (by decide) (by decide)) (small10 (by decide) (by decide))
  ⟨ok_lay ok1 (short_lay sh0 1 (5, 0)) 6 (p := (9, 0)) (small10 (by decide) (by decide)) (small10 (by decide) (by decide)), short_lay (short_lay sh0 1 (5, 0)) 6 (9, 0)⟩
set_option maxRecDepth 100000 in
set_option maxHeartbeats 4000000 in
theorem l10Chapter (w : World) (hT : Tab w) :
    Calls Tryd.prog 8 #[] w fun e w' => ∃ a, e = .returned (slv Sk.ch a) ∧ Own w' w.heap.size Sk.ch a ∧ Below w.heap.size w w' := by
  have ok0 := Lib.hid (ok_new (seg := 4) (many := 8) (small10 (by omega) (by omega))); have sh0 := Lib.hid (short_new (seg := 4) (many := 8)); have ok1 := Lib.hid (ok_lay ok0.out sh0.out 1 (p := (5, 0)) (small10 (by decide) (by decide)) (small10 (by decide) (by decide))); have sh1 := Lib.hid (short_lay sh0.out 1 (5, 0)); have CN := Lib.hid (fun V => sNew 4 8 V (small10 (by omega) (by omega)) (small10 (by omega) (by omega))); have CL1 := Lib.hid (fun A V (hv : Held V (Sl.newS 4 8) A) tv => cLay (Sl.newS 4 8) A 1 (5, 0) V hv ok0.out sh0.out tv); have CL2 := Lib.hid (fun A V (hv : Held V ((Sl.newS 4 8).layS 1 (5, 0)) A) tv => cLay ((Sl.newS 4 8).layS 1 (5, 0)) A 6 (9, 0) V hv ok1.out sh1.out tv); unfold Sk.ch; obtain ⟨S2, hS2⟩ : ∃ S, S = ((Sl.newS 4 8).layS 1 (5, 0)).layS 6 (9, 0) := ⟨_, rfl⟩; obtain ⟨E2, hE2⟩ : ∃ S, S = ((Sl.newS 4 8).layS 1 (5, 0)).layE 6 := ⟨_, rfl⟩; rw [← hS2] at CL2 ⊢; rw [← hE2] at CL2; clear hS2 hE2; obtain ⟨S1, hS1⟩ : ∃ S, S = (Sl.newS 4 8).layS 1 (5, 0) := ⟨_, rfl⟩; obtain ⟨E1, hE1⟩ : ∃ S, S = (Sl.newS 4 8).layE 1 := ⟨_, rfl⟩; rw [← hS1] at CL1 CL2; rw [← hE1] at CL1; clear hE1; obtain ⟨S0, hS0⟩ : ∃ S, S = Sl.newS 4 8 := ⟨_, rfl⟩; obtain ⟨E0, hE0⟩ : ∃ S, S = Sl.newE 4 8 := ⟨_, rfl⟩; rw [← hS0, ← hE0] at CN; rw [← hS0] at CL1; have TB0 := Lib.hid hT; have HR := Lib.hid (Box.new w Sl.none adsNone 30); have HB := Lib.hid (fun o => (Below.refl w.heap.size w).alloc (Nat.le_refl _) o); clear hS0 hE0 hS1 ok0 sh0 ok1 sh1 hT; unfold slv pv at CL1 CL2
  go_enter Tryd.func8, Tryd.ntmps8
  go_wp2_with fail
  refine (CN.out _).mono ?_; rintro e w1 ⟨A0, rfl, own, hb⟩
  have zz : w.heap.size < w1.heap.size := by have := hb.size; simp at this; omega
  have BB := Lib.hid ((HB.out _).trans (hb.mono (by simp))); have BR := Lib.hid (HR.out.below hb); have O0 := Lib.hid own; clear hb own HR HB; unfold slv
  go_upto_region 2 with (fail)
  obtain ⟨V0, hV⟩ : ∃ V, V = w1.alloc (.cells #[.int .i64 S0.seg, .slice A0.w S0.words.length A0.cw, .slice A0.k S0.keys.length A0.ck, .slice A0.v S0.vals.length A0.cv, .slice A0.c S0.counts.length A0.cc, .int .u64 (S0.laid : Int)] 30) := ⟨_, rfl⟩
  have hba : Below w1.heap.size w1 V0 := by rw [hV]; exact (Below.refl _ _).alloc (Nat.le_refl _) _
  have BX := Lib.hid (show Box V0 w1.heap.size S0 A0 by rw [hV]; exact Box.new w1 S0 A0 30)
  first | rw [← hV] | skip
  replace O0 := Lib.hid (O0.out.below hba); replace BR := Lib.hid (BR.out.below hba); replace BB := Lib.hid (BB.out.trans (hba.mono BB.out.size)); have TB := Lib.hid (TB0.out.below BB.out); clear hV hba; obtain ⟨_, p0, p1, p2, p3, p4, p5, _⟩ := BX.out
  go_wp2_with fail
  refine (CL1.out A0 _ O0.out.held TB.out).mono ?_; rintro e w2 ⟨A1, rfl, own, hb⟩; replace BB := Lib.hid (BB.out.trans (hb.mono BB.out.size)); replace BX := Lib.hid (BX.out.below hb); replace BR := Lib.hid (BR.out.below hb); have O1 := Lib.hid own; have z2 := hb.size; have g0 := BX.out.lt; clear hb own p0 p1 p2 p3 p4 p5 O0; unfold slv; obtain ⟨_, p0, p1, p2, p3, p4, p5, pf⟩ := BX.out; have pf0 := pf 0; have pf1 := pf 1; have pf2 := pf 2; have pf3 := pf 3; have pf4 := pf 4; have pf5 := pf 5; clear pf
  go_upto_region 3 with (fail)
  obtain ⟨V1, hV⟩ : ∃ V, V = put6 w2 w1.heap.size (.int .i64 S1.seg) (.slice A1.w S1.words.length A1.cw) (.slice A1.k S1.keys.length A1.ck) (.slice A1.v S1.vals.length A1.cv) (.slice A1.c S1.counts.length A1.cc) (.int .u64 (S1.laid : Int)) := ⟨_, rfl⟩; replace BX := Lib.hid (show Box V1 w1.heap.size S1 A1 by rw [hV]; exact BX.out.put6 S1 A1); replace BR := Lib.hid (show Box V1 w.heap.size Sl.none adsNone by rw [hV]; exact BR.out.put6o (by omega) _ _ _ _ _ _); replace O1 := Lib.hid (show Own V1 w1.heap.size S1 A1 by rw [hV]; exact ⟨(O1.out.words.put6 (by omega) _ _ _ _ _ _).lower (by omega), (O1.out.keys.put6 (by omega) _ _ _ _ _ _).lower (by omega), (O1.out.vals.put6 (by omega) _ _ _ _ _ _).lower (by omega), (O1.out.counts.put6 (by omega) _ _ _ _ _ _).lower (by omega), O1.out.caps⟩); replace BB := Lib.hid (show Below w.heap.size w V1 by rw [hV]; exact below_put6 BB.out (Nat.le_of_lt zz) _ _ _ _ _ _); replace TB := Lib.hid (TB0.out.below BB.out); unfold put6 at hV
  first | rw [← hV] | skip
  have y1 : w1.heap.size < V1.heap.size := BX.out.lt; clear hV p0 p1 p2 p3 p4 p5 pf0 pf1 pf2 pf3 pf4 pf5 z2 g0; obtain ⟨_, p0, p1, p2, p3, p4, p5, _⟩ := BX.out
  go_wp2_with fail
  refine (CL2.out A1 _ O1.out.held TB.out).mono ?_; rintro e w3 ⟨A2, rfl, own, hb⟩; replace BB := Lib.hid (BB.out.trans (hb.mono BB.out.size)); replace BX := Lib.hid (BX.out.below hb); replace BR := Lib.hid (BR.out.below hb); have O2 := Lib.hid own; have z3 := hb.size; have g0 := BX.out.lt; clear hb own p0 p1 p2 p3 p4 p5 O1; unfold slv; obtain ⟨_, p0, p1, p2, p3, p4, p5, pf⟩ := BX.out; have pf0 := pf 0; have pf1 := pf 1; have pf2 := pf 2; have pf3 := pf 3; have pf4 := pf 4; have pf5 := pf 5; clear pf
  go_upto_region 4 with (fail)
  obtain ⟨V2, hV⟩ : ∃ V, V = put6 w3 w1.heap.size (.int .i64 S2.seg) (.slice A2.w S2.words.length A2.cw) (.slice A2.k S2.keys.length A2.ck) (.slice A2.v S2.vals.length A2.cv) (.slice A2.c S2.counts.length A2.cc) (.int .u64 (S2.laid : Int)) := ⟨_, rfl⟩; replace BX := Lib.hid (show Box V2 w1.heap.size S2 A2 by rw [hV]; exact BX.out.put6 S2 A2); replace BR := Lib.hid (show Box V2 w.heap.size Sl.none adsNone by rw [hV]; exact BR.out.put6o (by omega) _ _ _ _ _ _); replace O2 := Lib.hid (show Own V2 w1.heap.size S2 A2 by rw [hV]; exact ⟨(O2.out.words.put6 (by omega) _ _ _ _ _ _).lower (by omega), (O2.out.keys.put6 (by omega) _ _ _ _ _ _).lower (by omega), (O2.out.vals.put6 (by omega) _ _ _ _ _ _).lower (by omega), (O2.out.counts.put6 (by omega) _ _ _ _ _ _).lower (by omega), O2.out.caps⟩); replace BB := Lib.hid (show Below w.heap.size w V2 by rw [hV]; exact below_put6 BB.out (Nat.le_of_lt zz) _ _ _ _ _ _); replace TB := Lib.hid (TB0.out.below BB.out); unfold put6 at hV
  first | rw [← hV] | skip
  have y2 : w1.heap.size < V2.heap.size := BX.out.lt; clear hV p0 p1 p2 p3 p4 p5 pf0 pf1 pf2 pf3 pf4 pf5 z3 g0; obtain ⟨_, p0, p1, p2, p3, p4, p5, _⟩ := BX.out; obtain ⟨_, s0, s1, s2, s3, s4, s5, sf⟩ := BR.out; have pf0 := sf 0; have pf1 := sf 1; have pf2 := sf 2; have pf3 := sf 3; have pf4 := sf 4; have pf5 := sf 5; clear sf; have y0 : w.heap.size < V2.heap.size := BR.out.lt; go_wp2; refine bodyPost_ret (v := slv S2 A2) (by simp [results, Tryd.results8, go_sem, slv, s0, s1, s2, s3, s4, s5, pf0, pf1, pf2, pf3, pf4, pf5]) rfl ⟨_, rfl, ?_, ?_⟩
  · exact ⟨(O2.out.words.put6 (by omega) _ _ _ _ _ _).lower (by omega), (O2.out.keys.put6 (by omega) _ _ _ _ _ _).lower (by omega), (O2.out.vals.put6 (by omega) _ _ _ _ _ _).lower (by omega), (O2.out.counts.put6 (by omega) _ _ _ _ _ _).lower (by omega), O2.out.caps⟩
  · exact below_put6 BB.out (Nat.le_refl _) _ _ _ _ _ _
set_option maxHeartbeats 400000 in
theorem l10At (n e m : Int) (w : World) : Calls Tryd.prog 14 #[.int .i64 n, .int .i64 e, .int .i64 m] w fun x w' => x = .returned (.bool (decide (e = 0) && decide (n = m))) ∧ w = w' := by
  by_cases h : e = 0
  all_goals by_cases h2 : n = m
  all_goals
    go_enter Tryd.func14, Tryd.ntmps14
    go_wp2; go_ret
    simp [h, h2]
theorem alive10_facts : Sk.rankV Sk.ch 9 = 1 ∧ Sk.chkE Sk.ch = 0 ∧ Sk.findV Sk.ch 9 = 6 ∧ Sk.findE Sk.ch 9 = 0 ∧ Sk.nextV Sk.ch 6 = 6 ∧ Sk.nextE Sk.ch 6 = 0 ∧ Sk.lastV Sk.ch 9 = 1 ∧ Sk.lastE Sk.ch 9 = 0 := by decide +kernel
set_option maxRecDepth 100000 in
set_option maxHeartbeats 4000000 in
theorem l10Alive (w : World) (hT : Tab w) :
    Calls Tryd.prog 13 #[] w fun e w' => e = .returned (.bool true) ∧ Below w.heap.size w w' := by
  obtain ⟨f0, f1, f2, f3, f4, f5, f6, f7⟩ := alive10_facts; have CF := Lib.hid skch_fine; have CC := Lib.hid (fun V tv => l10Chapter V tv); have CR := Lib.hid (fun A V (hv : Held V Sk.ch A) tv => kRank Sk.ch A 9 V hv CF.out.1 CF.out.2 tv); have CI := Lib.hid (fun A V (hv : Held V Sk.ch A) tv => kFind Sk.ch A 9 V hv CF.out.1 CF.out.2 tv); have CN := Lib.hid (fun A V (hv : Held V Sk.ch A) tv => kNext Sk.ch A 6 V hv CF.out.1 CF.out.2 tv); have CL := Lib.hid (fun A V (hv : Held V Sk.ch A) tv => kLast Sk.ch A 9 V hv CF.out.1 CF.out.2 tv); rw [f0, f1] at CR; rw [f2, f3] at CI; rw [f4, f5] at CN; rw [f6, f7] at CL; obtain ⟨S0, hS0⟩ : ∃ S, S = Sk.ch := ⟨_, rfl⟩; rw [← hS0] at CC CR CI CN CL; have TB := Lib.hid hT; have BB := Lib.hid (Below.refl w.heap.size w); clear f0 f1 f2 f3 f4 f5 f6 f7 hS0 hT CF; unfold slv at CR CI CN CL
  go_enter Tryd.func13, Tryd.ntmps13
  go_wp2_with fail
  refine (CC.out _ TB.out).mono ?_; rintro e w2 ⟨A1, rfl, own, hb⟩; replace BB := Lib.hid (BB.out.trans (hb.mono BB.out.size)); replace TB := Lib.hid (TB.out.below hb); have O1 := Lib.hid own.held; clear hb own; unfold slv
  go_wp2_with fail
  refine (CR.out A1 _ O1.out TB.out).mono ?_; rintro e w3 ⟨rfl, hb⟩; replace BB := Lib.hid (BB.out.trans (hb.mono BB.out.size)); replace TB := Lib.hid (TB.out.below hb); clear hb O1
  go_wp2_with fail
  refine (CC.out _ TB.out).mono ?_; rintro e w4 ⟨A2, rfl, own, hb⟩; replace BB := Lib.hid (BB.out.trans (hb.mono BB.out.size)); replace TB := Lib.hid (TB.out.below hb); have O2 := Lib.hid own.held; clear hb own; unfold slv
  go_wp2_with fail
  refine (CI.out A2 _ O2.out TB.out).mono ?_; rintro e w5 ⟨rfl, hb⟩; replace BB := Lib.hid (BB.out.trans (hb.mono BB.out.size)); replace TB := Lib.hid (TB.out.below hb); clear hb O2
  go_wp2_with fail
  refine (CC.out _ TB.out).mono ?_; rintro e w6 ⟨A3, rfl, own, hb⟩; replace BB := Lib.hid (BB.out.trans (hb.mono BB.out.size)); replace TB := Lib.hid (TB.out.below hb); have O3 := Lib.hid own.held; clear hb own; unfold slv
  go_wp2_with fail
  refine (CN.out A3 _ O3.out TB.out).mono ?_; rintro e w7 ⟨rfl, hb⟩; replace BB := Lib.hid (BB.out.trans (hb.mono BB.out.size)); replace TB := Lib.hid (TB.out.below hb); clear hb O3
  go_wp2_with fail
  refine (CC.out _ TB.out).mono ?_; rintro e w8 ⟨A4, rfl, own, hb⟩; replace BB := Lib.hid (BB.out.trans (hb.mono BB.out.size)); replace TB := Lib.hid (TB.out.below hb); have O4 := Lib.hid own.held; clear hb own; unfold slv
  go_wp2_with fail
  refine (CL.out A4 _ O4.out TB.out).mono ?_; rintro e w9 ⟨rfl, hb⟩; replace BB := Lib.hid (BB.out.trans (hb.mono BB.out.size)); replace TB := Lib.hid (TB.out.below hb); clear hb O4
  go_wp2_with fail
  refine (l10At _ _ _ _).mono ?_; rintro e w' ⟨rfl, rfl⟩
  go_wp2_with fail
  refine (l10At _ _ _ _).mono ?_; rintro e w' ⟨rfl, rfl⟩
  go_wp2_with fail
  refine (l10At _ _ _ _).mono ?_; rintro e w' ⟨rfl, rfl⟩
  go_wp2_with fail
  refine (l10At _ _ _ _).mono ?_; rintro e w' ⟨rfl, rfl⟩; go_wp2; go_ret; exact ⟨rfl, BB.out⟩
end Go.Proofs.YthaaapfnheocjaaDoor
