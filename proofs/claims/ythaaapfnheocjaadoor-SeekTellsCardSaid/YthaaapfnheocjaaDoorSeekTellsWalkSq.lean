/- The walk of the law SeekTells: which arrays are sorted, ranks, slots of keys and their neighbours are the document's; what came in stays. -/
import Derived.Test.YthaaapfnheocjaaDoorTkSq
import Derived.Test.YthaaapfnheocjaaDoorSeekSq
import Derived.Test.YthaaapfnheocjaaDoorRefC10Sq
import Derived.Test.YthaaapfnheocjaaDoorM04Sq
import Derived.Test.YthaaapfnheocjaaDoorM08Sq
namespace Go.Proofs.YthaaapfnheocjaaDoor.seekTells
open Go.RowKit
set_option linter.unusedVariables false
set_option linter.unusedSimpArgs false

set_option maxRecDepth 100000 in
set_option maxHeartbeats 4000000 in
theorem full (s : Sl) (a : Ads) (k : Int) (W : World) (h : Held W s a) (hok : s.Ok) (hs : s.Short) (hg : s.greatB 600 = false) (hT : Tab W) :
    Calls Tryd.prog 4 #[slv s a, .int .i64 k] W fun e w' => e = .returned (.bool true) ∧ Below W.heap.size W w' := by
  have HSh := Lib.hid hs; have HGr := Lib.hid hg; have c1 := Lib.hid (fun A V (hv : Held V s A) tv => kRank s A k V hv hok hs tv); have r1 := Lib.hid (fun A V (hv : Held V s A) => r10Rank s A k V hv hok hs); obtain ⟨v1, hv1⟩ : ∃ v, v = Sk.rankV s k := ⟨_, rfl⟩; obtain ⟨e1, he1⟩ : ∃ v, v = Sk.chkE s := ⟨_, rfl⟩; rw [← hv1, ← he1] at c1 r1; clear hv1; have c2 := Lib.hid (fun A V (hv : Held V s A) tv => kFind s A k V hv hok hs tv); have r2 := Lib.hid (fun A V (hv : Held V s A) => r10Find s A k V hv hok hs); obtain ⟨v2, hv2⟩ : ∃ v, v = Sk.findV s k := ⟨_, rfl⟩; obtain ⟨e2, he2⟩ : ∃ v, v = Sk.findE s k := ⟨_, rfl⟩; rw [← hv2, ← he2] at c2 r2; clear hv2; have c3 := Lib.hid (fun A V (hv : Held V s A) tv => kNext s A k V hv hok hs tv); have r3 := Lib.hid (fun A V (hv : Held V s A) => r10Next s A k V hv hok hs); obtain ⟨v3, hv3⟩ : ∃ v, v = Sk.nextV s k := ⟨_, rfl⟩; obtain ⟨e3, he3⟩ : ∃ v, v = Sk.nextE s k := ⟨_, rfl⟩; rw [← hv3, ← he3] at c3 r3; clear hv3; have c4 := Lib.hid (fun A V (hv : Held V s A) tv => kLast s A k V hv hok hs tv); have r4 := Lib.hid (fun A V (hv : Held V s A) => r10Last s A k V hv hok hs); obtain ⟨v4, hv4⟩ : ∃ v, v = Sk.lastV s k := ⟨_, rfl⟩; obtain ⟨e4, he4⟩ : ∃ v, v = Sk.lastE s k := ⟨_, rfl⟩; rw [← hv4, ← he4] at c4 r4; clear hv4; have c5 := Lib.hid (fun A V (hv : Held V s A) tv => kCheck s A V hv hok hs tv); have r5 := Lib.hid (fun A V (hv : Held V s A) => r10Check s A V hv hok hs); rw [← he1] at c5 r5; have HA := Lib.hid h; have TB := Lib.hid hT; have BS := Lib.hid (Box.new W s a 30)
  have HB := Lib.hid (fun o => (Below.refl W.heap.size W).alloc (Nat.le_refl _) o); clear he1 he2 he3 he4 h hok hs hg hT; unfold slCells at BS; unfold slv at c1 c2 c3 c4 c5 r1 r2 r3 r4 r5; unfold slv
  go_enter Tryd.func4, Tryd.ntmps4
  go_wp2_with fail
  refine (r4Great s a 600 _).mono ?_; rintro e w0 ⟨rfl, hb⟩; rw [HGr.out]; have BB := Lib.hid ((HB.out _).trans (hb.mono (by simp))); replace BS := Lib.hid (BS.out.below hb); replace HA := Lib.hid (HA.out.below BB.out); replace TB := Lib.hid (TB.out.below BB.out); clear hb HB; obtain ⟨_, p0, p1, p2, p3, p4, p5, _⟩ := BS.out
  go_wp2_with fail
  refine (r4Twin s a _ HA.out HSh.out).mono ?_; rintro e w1 ⟨A1, rfl, own, _, _, hb⟩; have O1 := Lib.hid own.held; clear own; replace BS := Lib.hid (BS.out.below hb); replace HA := Lib.hid (HA.out.below hb); replace TB := Lib.hid (TB.out.below hb); replace BB := Lib.hid (BB.out.trans (hb.mono BB.out.size)); clear hb p0 p1 p2 p3 p4 p5; unfold slv
  go_upto_region 4 with (fail)
  obtain ⟨V1, hV⟩ : ∃ V, V = w1.alloc (.cells #[.int .i64 s.seg, .slice A1.w s.words.length A1.cw, .slice A1.k s.keys.length A1.ck, .slice A1.v s.vals.length A1.cv, .slice A1.c s.counts.length A1.cc, .int .u64 (s.laid : Int)] 30) := ⟨_, rfl⟩
  have hba : Below w1.heap.size w1 V1 := by rw [hV]; exact (Below.refl _ _).alloc (Nat.le_refl _) _
  have B1 := Lib.hid (show Box V1 w1.heap.size s A1 by rw [hV]; exact Box.new w1 s A1 30); rw [← hV]; clear hV; replace BS := Lib.hid (BS.out.below hba); replace HA := Lib.hid (HA.out.below hba); replace TB := Lib.hid (TB.out.below hba); replace O1 := Lib.hid (O1.out.below hba); replace BB := Lib.hid (BB.out.trans (hba.mono BB.out.size)); clear hba; obtain ⟨_, q0, q1, q2, q3, q4, q5, _⟩ := B1.out
  go_wp2_with fail
  refine (c1.out A1 _ O1.out TB.out).mono ?_; rintro e x1 ⟨rfl, hb⟩; replace BS := Lib.hid (BS.out.below hb); replace HA := Lib.hid (HA.out.below hb); replace TB := Lib.hid (TB.out.below hb); replace O1 := Lib.hid (O1.out.below hb); replace B1 := Lib.hid (B1.out.below hb); replace BB := Lib.hid (BB.out.trans (hb.mono BB.out.size)); clear hb q0 q1 q2 q3 q4 q5; obtain ⟨_, p0, p1, p2, p3, p4, p5, _⟩ := BS.out
  go_wp2_with fail
  refine (r1.out a _ HA.out).mono ?_; rintro e y1 ⟨rfl, hb⟩; replace BS := Lib.hid (BS.out.below hb); replace HA := Lib.hid (HA.out.below hb); replace TB := Lib.hid (TB.out.below hb); replace O1 := Lib.hid (O1.out.below hb); replace B1 := Lib.hid (B1.out.below hb); replace BB := Lib.hid (BB.out.trans (hb.mono BB.out.size)); clear hb p0 p1 p2 p3 p4 p5; obtain ⟨_, q0, q1, q2, q3, q4, q5, _⟩ := B1.out
  go_wp2_with fail
  refine (c2.out A1 _ O1.out TB.out).mono ?_; rintro e x2 ⟨rfl, hb⟩; replace BS := Lib.hid (BS.out.below hb); replace HA := Lib.hid (HA.out.below hb); replace TB := Lib.hid (TB.out.below hb); replace O1 := Lib.hid (O1.out.below hb); replace B1 := Lib.hid (B1.out.below hb); replace BB := Lib.hid (BB.out.trans (hb.mono BB.out.size)); clear hb q0 q1 q2 q3 q4 q5; obtain ⟨_, p0, p1, p2, p3, p4, p5, _⟩ := BS.out
  go_wp2_with fail
  refine (r2.out a _ HA.out).mono ?_; rintro e y2 ⟨rfl, hb⟩; replace BS := Lib.hid (BS.out.below hb); replace HA := Lib.hid (HA.out.below hb); replace TB := Lib.hid (TB.out.below hb); replace O1 := Lib.hid (O1.out.below hb); replace B1 := Lib.hid (B1.out.below hb); replace BB := Lib.hid (BB.out.trans (hb.mono BB.out.size)); clear hb p0 p1 p2 p3 p4 p5; obtain ⟨_, q0, q1, q2, q3, q4, q5, _⟩ := B1.out
  go_wp2_with fail
  refine (c3.out A1 _ O1.out TB.out).mono ?_; rintro e x3 ⟨rfl, hb⟩; replace BS := Lib.hid (BS.out.below hb); replace HA := Lib.hid (HA.out.below hb); replace TB := Lib.hid (TB.out.below hb); replace O1 := Lib.hid (O1.out.below hb); replace B1 := Lib.hid (B1.out.below hb); replace BB := Lib.hid (BB.out.trans (hb.mono BB.out.size)); clear hb q0 q1 q2 q3 q4 q5; obtain ⟨_, p0, p1, p2, p3, p4, p5, _⟩ := BS.out
  go_wp2_with fail
  refine (r3.out a _ HA.out).mono ?_; rintro e y3 ⟨rfl, hb⟩; replace BS := Lib.hid (BS.out.below hb); replace HA := Lib.hid (HA.out.below hb); replace TB := Lib.hid (TB.out.below hb); replace O1 := Lib.hid (O1.out.below hb); replace B1 := Lib.hid (B1.out.below hb); replace BB := Lib.hid (BB.out.trans (hb.mono BB.out.size)); clear hb p0 p1 p2 p3 p4 p5; obtain ⟨_, q0, q1, q2, q3, q4, q5, _⟩ := B1.out
  go_wp2_with fail
  refine (c4.out A1 _ O1.out TB.out).mono ?_; rintro e x4 ⟨rfl, hb⟩; replace BS := Lib.hid (BS.out.below hb); replace HA := Lib.hid (HA.out.below hb); replace TB := Lib.hid (TB.out.below hb); replace O1 := Lib.hid (O1.out.below hb); replace B1 := Lib.hid (B1.out.below hb); replace BB := Lib.hid (BB.out.trans (hb.mono BB.out.size)); clear hb q0 q1 q2 q3 q4 q5; obtain ⟨_, p0, p1, p2, p3, p4, p5, _⟩ := BS.out
  go_wp2_with fail
  refine (r4.out a _ HA.out).mono ?_; rintro e y4 ⟨rfl, hb⟩; replace BS := Lib.hid (BS.out.below hb); replace HA := Lib.hid (HA.out.below hb); replace TB := Lib.hid (TB.out.below hb); replace O1 := Lib.hid (O1.out.below hb); replace B1 := Lib.hid (B1.out.below hb); replace BB := Lib.hid (BB.out.trans (hb.mono BB.out.size)); clear hb p0 p1 p2 p3 p4 p5
  go_upto_region 12 with (fail)
  have dr := (Below.refl y4.heap.size y4).drew; refine wp_region_held_drew (S := (fun w' => (w'.cell? ⟨W.heap.size, 0, none⟩ = some (.int .i64 s.seg) ∧ w'.cell? ⟨W.heap.size, 1, none⟩ = some (.slice a.w s.words.length a.cw) ∧ w'.cell? ⟨W.heap.size, 2, none⟩ = some (.slice a.k s.keys.length a.ck) ∧ w'.cell? ⟨W.heap.size, 3, none⟩ = some (.slice a.v s.vals.length a.cv) ∧ w'.cell? ⟨W.heap.size, 4, none⟩ = some (.slice a.c s.counts.length a.cc) ∧ w'.cell? ⟨W.heap.size, 5, none⟩ = some (.int .u64 (s.laid : Int))) ∧ (w'.cell? ⟨w1.heap.size, 0, none⟩ = some (.int .i64 s.seg) ∧ w'.cell? ⟨w1.heap.size, 1, none⟩ = some (.slice A1.w s.words.length A1.cw) ∧ w'.cell? ⟨w1.heap.size, 2, none⟩ = some (.slice A1.k s.keys.length A1.ck) ∧ w'.cell? ⟨w1.heap.size, 3, none⟩ = some (.slice A1.v s.vals.length A1.cv) ∧ w'.cell? ⟨w1.heap.size, 4, none⟩ = some (.slice A1.c s.counts.length A1.cc) ∧ w'.cell? ⟨w1.heap.size, 5, none⟩ = some (.int .u64 (s.laid : Int))) ∧ Hid (Below y4.heap.size y4 w'))) (by kernel_rfl) (⟨(BS.out.below dr).cellAt, (B1.out.below dr).cellAt, Lib.hid dr⟩) (fun hHeld => ?_); refine tk 0 ?_; refine tk 2 ?_; refine rdH 1 fun K hK => ?_; go_simp; refine (c5.out A1 _ (O1.out.below hHeld.2.2.out) (TB.out.below hHeld.2.2.out)).mono ?_; rintro e z1 ⟨rfl, hb1⟩; go_simp; refine hK.out _ _ (by have q := hHeld.2.2.out.trans (hb1.mono hHeld.2.2.out.size); exact ⟨(BS.out.below q).cellAt, (B1.out.below q).cellAt, Lib.hid q⟩) (fun hHelda1 => ?_); clear hK K hHeld
  try simp only [sP, sQ, sA, sB, sC]
  refine rdH 3 fun K hK => ?_; go_simp; refine (r5.out a _ (HA.out.below hHelda1.2.2.out)).mono ?_; rintro e z2 ⟨rfl, hb2⟩; go_simp; refine hK.out _ _ (by have q := hHelda1.2.2.out.trans (hb2.mono hHelda1.2.2.out.size); exact ⟨(BS.out.below q).cellAt, (B1.out.below q).cellAt, Lib.hid q⟩) (fun hHelda2 => ?_); clear hK K hHelda1
  try simp only [sP, sQ, sA, sB, sC]
  refine tk 4 ?_; refine tk 5 ?_; refine tk 6 ?_; refine tk 7 ?_; refine tk 8 ?_; refine tk 9 ?_; refine tk 10 ?_; refine tk 11 ?_; refine tk 12 ?_; refine tk 13 ?_; refine tk 14 ?_; refine tk 15 ?_; refine tk 16 ?_; refine tk 17 ?_; refine tk 18 ?_; refine tk 19 ?_; refine tk 20 ?_; refine tk 21 ?_; refine tk 22 ?_; refine tk 23 ?_; refine tk 24 ?_; refine tk 25 ?_; refine wpAnyH_done (by kernel_rfl) ?_ _; have q := hHelda2.2.2.out; clear hHelda2; replace BS := Lib.hid (BS.out.below q); replace HA := Lib.hid (HA.out.below q); replace TB := Lib.hid (TB.out.below q); replace O1 := Lib.hid (O1.out.below q); replace B1 := Lib.hid (B1.out.below q); replace BB := Lib.hid (BB.out.trans (q.mono BB.out.size)); clear q dr; obtain ⟨_, p0, p1, p2, p3, p4, p5, _⟩ := BS.out; obtain ⟨_, q0, q1, q2, q3, q4, q5, _⟩ := B1.out
  go_wp2_with fail
  refine (r4Same s s A1 a _ O1.out HA.out HSh.out HSh.out).mono ?_; rintro e z ⟨rfl, hb⟩; rw [same_self]; go_wp2; go_ret; exact ⟨rfl, BB.out.trans (hb.mono BB.out.size)⟩
theorem walk (s : Sl) (a : Ads) (k : Int) (W : World) (h : Held W s a) (hok : s.Ok) (hT : Tab W) :
    Calls Tryd.prog 4 #[slv s a, .int .i64 k] W fun e w' => e = .returned (.bool true) ∧ Below W.heap.size W w' := by
  cases hg : s.greatB 600
  · refine full s a k W h hok ?_ hg hT
    unfold Sl.greatB at hg
    simp only [Bool.or_eq_false_iff, decide_eq_false_iff_not] at hg
    exact ⟨by omega, by omega, by omega, by omega⟩
  · have HG := Lib.hid hg
    have HB := Lib.hid (fun o => (Below.refl W.heap.size W).alloc (Nat.le_refl _) o); clear h hok hg hT; unfold slv
    go_enter Tryd.func4, Tryd.ntmps4
    go_wp2_with fail
    refine (r4Great s a 600 _).mono ?_; rintro e w0 ⟨rfl, hb⟩; rw [HG.out]; go_wp2; go_ret; exact ⟨rfl, (HB.out _).trans (hb.mono (by simp))⟩
end Go.Proofs.YthaaapfnheocjaaDoor.seekTells
