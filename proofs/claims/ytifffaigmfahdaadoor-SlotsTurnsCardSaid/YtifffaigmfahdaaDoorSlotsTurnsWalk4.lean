/- The walk of the law SlotsTurns: what is laid, cleared and moved, or the errors, are the document's; the array stays, what is answered is new memory. -/
import Derived.Test.YtifffaigmfahdaaDoorM18
namespace Go.Proofs.YtifffaigmfahdaaDoor.slotsTurns
open Go.RowKit
set_option linter.unusedVariables false
set_option linter.unusedSimpArgs false

set_option maxRecDepth 100000 in
set_option maxHeartbeats 8000000 in
theorem full (s : Sl) (a : Ads) (i j x1 x2 : Int) (W : World) (h : Held W s a) (hok : s.Ok) (hs : s.Short) (hg : s.greatB 300 = false) (hT : Tab W) :
    Calls Tryd.prog 5 #[slv s a, .int .i64 i, .int .i64 j, pv (x1, x2)] W fun e w' => e = .returned (.bool true) ∧ Below W.heap.size W w' := by
  have HOk := Lib.hid hok
  have HSh := Lib.hid hs
  have HGr := Lib.hid hg
  have TB0 := Lib.hid hT
  have sh1 := Lib.hid (short_lay hs i (x1, x2))
  have sh2 := Lib.hid (short_clear hs i)
  have sh3 := Lib.hid (short_move hs i j)
  obtain ⟨S1, hS1⟩ : ∃ S, S = s.layS i (x1, x2) := ⟨_, rfl⟩
  obtain ⟨S2, hS2⟩ : ∃ S, S = s.clearS i := ⟨_, rfl⟩
  obtain ⟨S3, hS3⟩ : ∃ S, S = s.moveS i j := ⟨_, rfl⟩
  obtain ⟨E1, hE1⟩ : ∃ S, S = s.layE i := ⟨_, rfl⟩
  obtain ⟨E2, hE2⟩ : ∃ S, S = s.atE i := ⟨_, rfl⟩
  obtain ⟨E3, hE3⟩ : ∃ S, S = s.moveE i j := ⟨_, rfl⟩
  rw [← hS1] at sh1
  rw [← hS2] at sh2
  rw [← hS3] at sh3
  have cl1 := Lib.hid (show ∀ A V, Held V s A → Tab V → Calls Tryd.prog 11 #[slv s A, .int .i64 i, pv (x1, x2)] V (Ans S1 E1 V) from fun A V hv tv => by rw [hS1, hE1]; exact cLay s A i (x1, x2) V hv hok hs tv)
  have rl1 := Lib.hid (show ∀ A V, Held V s A → Calls Tryd.prog 30 #[slv s A, .int .i64 i, pv (x1, x2)] V (SPost2 S1 E1 V) from fun A V hv => by rw [hS1, hE1]; exact r4Lay s A i (x1, x2) V hv hok hs)
  have cl2 := Lib.hid (show ∀ A V, Held V s A → Tab V → Calls Tryd.prog 13 #[slv s A, .int .i64 i] V (Ans S2 E2 V) from fun A V hv tv => by rw [hS2, hE2]; exact cClear s A i V hv hok hs tv)
  have rl2 := Lib.hid (show ∀ A V, Held V s A → Calls Tryd.prog 31 #[slv s A, .int .i64 i] V (SPost2 S2 E2 V) from fun A V hv => by rw [hS2, hE2]; exact r4Clear s A i V hv hok hs)
  have cl3 := Lib.hid (show ∀ A V, Held V s A → Tab V → Calls Tryd.prog 14 #[slv s A, .int .i64 i, .int .i64 j] V (Ans S3 E3 V) from fun A V hv tv => by rw [hS3, hE3]; exact cMove s A i j V hv hok hs tv)
  have rl3 := Lib.hid (show ∀ A V, Held V s A → Calls Tryd.prog 32 #[slv s A, .int .i64 i, .int .i64 j] V (SPost2 S3 E3 V) from fun A V hv => by rw [hS3, hE3]; exact r4Move s A i j V hv hok hs)
  have HA0 := Lib.hid h
  clear hS1 hS2 hS3 hE1 hE2 hE3 h hok hs hg hT
  have BS0 := Lib.hid (fun o => (Box.new W s a 27).below ((Below.refl _ _).alloc (Nat.le_refl _) o))
  have PS0 := Lib.hid (fun o => PBox.second W o (x1, x2) 33)
  have BB0 := Lib.hid (fun o o' => ((Below.refl W.heap.size W).alloc (Nat.le_refl _) o).alloc (by simp) o')
  unfold slv pv at cl1 rl1
  unfold slv at cl2 rl2 cl3 rl3
  unfold slv pv
  go_enter Tryd.func5, Tryd.ntmps5
  go_wp2_with fail
  refine (r4Great s a 300 _).mono ?_
  rintro e w0 ⟨rfl, hb⟩
  rw [HGr.out]
  have BB := Lib.hid ((BB0.out _ _).trans (hb.mono (by simp; omega)))
  have BS := Lib.hid ((BS0.out _).below hb)
  have PS := Lib.hid ((PS0.out _).below hb)
  have HA := Lib.hid (HA0.out.below BB.out)
  have TB := Lib.hid (TB0.out.below BB.out)
  clear hb BB0 BS0 PS0

  obtain ⟨_, p0, p1, p2, p3, p4, p5, _⟩ := BS.out
  have d0 := PS.out.c0
  have d1 := PS.out.c1
  try dsimp only at d0 d1
  go_wp2_with fail
  refine (r4Twin s a _ HA.out HSh.out).mono ?_
  rintro e w1 ⟨A1, rfl, own, _, _, hb⟩
  have O1 := Lib.hid own.held
  clear own
  replace BS := Lib.hid (BS.out.below hb)
  replace PS := Lib.hid (PS.out.below hb)
  replace HA := Lib.hid (HA.out.below hb)
  replace TB := Lib.hid (TB.out.below hb)
  replace BB := Lib.hid (BB.out.trans (hb.mono BB.out.size))
  clear hb p0 p1 p2 p3 p4 p5 d0 d1
  unfold slv
  go_upto_region 4 with (fail)
  obtain ⟨V1, hV⟩ : ∃ V, V = w1.alloc (.cells #[.int .i64 s.seg, .slice A1.w s.words.length A1.cw, .slice A1.k s.keys.length A1.ck, .slice A1.v s.vals.length A1.cv, .slice A1.c s.counts.length A1.cc, .int .u64 (s.laid : Int)] 27) := ⟨_, rfl⟩
  have hba : Below w1.heap.size w1 V1 := by rw [hV]; exact (Below.refl _ _).alloc (Nat.le_refl _) _
  have B1 := Lib.hid (show Box V1 w1.heap.size s A1 by rw [hV]; exact Box.new w1 s A1 27)
  rw [← hV]
  clear hV
  replace BS := Lib.hid (BS.out.below hba)
  replace PS := Lib.hid (PS.out.below hba)
  replace HA := Lib.hid (HA.out.below hba)
  replace TB := Lib.hid (TB.out.below hba)
  replace O1 := Lib.hid (O1.out.below hba)
  replace BB := Lib.hid (BB.out.trans (hba.mono BB.out.size))
  clear hba
  have HSV := Lib.hid BS.out
  have HBV := Lib.hid B1.out
  have HOV := Lib.hid O1.out
  have BV := Lib.hid (Below.refl V1.heap.size V1)
  have zV : w1.heap.size < V1.heap.size := B1.out.lt
  obtain ⟨_, p0, p1, p2, p3, p4, p5, _⟩ := BS.out
  obtain ⟨_, q0, q1, q2, q3, q4, q5, _⟩ := B1.out
  have d0 := PS.out.c0
  have d1 := PS.out.c1
  try dsimp only at d0 d1
  go_wp2_with fail
  refine (cl1.out A1 _ O1.out TB.out).mono ?_
  rintro e w2 ⟨A2, rfl, own, hb⟩
  have O2 := Lib.hid own
  have m2 := hb.size
  have y2 := BV.out.size
  have F2 := Lib.hid own.soft
  clear own
  replace BS := Lib.hid (BS.out.below hb)
  replace PS := Lib.hid (PS.out.below hb)
  replace HA := Lib.hid (HA.out.below hb)
  replace TB := Lib.hid (TB.out.below hb)
  replace O1 := Lib.hid (O1.out.below hb)
  replace B1 := Lib.hid (B1.out.below hb)
  replace BB := Lib.hid (BB.out.trans (hb.mono BB.out.size))
  replace BV := Lib.hid (BV.out.trans (hb.mono BV.out.size))
  clear hb p0 p1 p2 p3 p4 p5 d0 d1 q0 q1 q2 q3 q4 q5
  unfold slv
  have mm2 := Nat.le_refl w2.heap.size
  go_upto_region 5 with (fail)
  obtain ⟨V2, hV⟩ : ∃ V, V = w2.alloc (.cells #[.int .i64 S1.seg, .slice A2.w S1.words.length A2.cw, .slice A2.k S1.keys.length A2.ck, .slice A2.v S1.vals.length A2.cv, .slice A2.c S1.counts.length A2.cc, .int .u64 (S1.laid : Int)] 27) := ⟨_, rfl⟩
  have hba : Below w2.heap.size w2 V2 := by rw [hV]; exact (Below.refl _ _).alloc (Nat.le_refl _) _
  have B2 := Lib.hid (show Box V2 w2.heap.size S1 A2 by rw [hV]; exact Box.new w2 S1 A2 27)
  rw [← hV]
  clear hV
  replace BS := Lib.hid (BS.out.below hba)
  replace PS := Lib.hid (PS.out.below hba)
  replace HA := Lib.hid (HA.out.below hba)
  replace TB := Lib.hid (TB.out.below hba)
  replace O1 := Lib.hid (O1.out.below hba)
  replace B1 := Lib.hid (B1.out.below hba)
  replace O2 := Lib.hid (O2.out.below hba)
  replace F2 := Lib.hid (F2.out.below hba)
  replace BB := Lib.hid (BB.out.trans (hba.mono BB.out.size))
  replace m2 := Nat.le_trans m2 hba.size
  replace mm2 := Nat.le_trans mm2 hba.size
  replace BV := Lib.hid (BV.out.trans (hba.mono BV.out.size))
  clear hba
  obtain ⟨_, p0, p1, p2, p3, p4, p5, _⟩ := BS.out
  obtain ⟨_, q0, q1, q2, q3, q4, q5, _⟩ := B1.out
  have d0 := PS.out.c0
  have d1 := PS.out.c1
  try dsimp only at d0 d1
  go_wp2_with fail
  refine (rl1.out a _ HA.out).mono ?_
  rintro e w3 ⟨A3, rfl, own, _, _, hb⟩
  have O3 := Lib.hid own
  have m3 := hb.size
  have y3 := BV.out.size
  have F3 := Lib.hid own.soft
  clear own
  replace BS := Lib.hid (BS.out.below hb)
  replace PS := Lib.hid (PS.out.below hb)
  replace HA := Lib.hid (HA.out.below hb)
  replace TB := Lib.hid (TB.out.below hb)
  replace O1 := Lib.hid (O1.out.below hb)
  replace B1 := Lib.hid (B1.out.below hb)
  replace O2 := Lib.hid (O2.out.below hb)
  replace F2 := Lib.hid (F2.out.below hb)
  replace B2 := Lib.hid (B2.out.below hb)
  replace BB := Lib.hid (BB.out.trans (hb.mono BB.out.size))
  replace m2 := Nat.le_trans m2 hb.size
  replace mm2 := Nat.le_trans mm2 hb.size
  replace BV := Lib.hid (BV.out.trans (hb.mono BV.out.size))
  clear hb p0 p1 p2 p3 p4 p5 d0 d1 q0 q1 q2 q3 q4 q5
  unfold slv
  have u23 := mm2
  have mm3 := Nat.le_refl w3.heap.size
  go_upto_region 6 with (fail)
  obtain ⟨V3, hV⟩ : ∃ V, V = w3.alloc (.cells #[.int .i64 S1.seg, .slice A3.w S1.words.length A3.cw, .slice A3.k S1.keys.length A3.ck, .slice A3.v S1.vals.length A3.cv, .slice A3.c S1.counts.length A3.cc, .int .u64 (S1.laid : Int)] 27) := ⟨_, rfl⟩
  have hba : Below w3.heap.size w3 V3 := by rw [hV]; exact (Below.refl _ _).alloc (Nat.le_refl _) _
  have B3 := Lib.hid (show Box V3 w3.heap.size S1 A3 by rw [hV]; exact Box.new w3 S1 A3 27)
  rw [← hV]
  clear hV
  replace BS := Lib.hid (BS.out.below hba)
  replace PS := Lib.hid (PS.out.below hba)
  replace HA := Lib.hid (HA.out.below hba)
  replace TB := Lib.hid (TB.out.below hba)
  replace O1 := Lib.hid (O1.out.below hba)
  replace B1 := Lib.hid (B1.out.below hba)
  replace O2 := Lib.hid (O2.out.below hba)
  replace F2 := Lib.hid (F2.out.below hba)
  replace B2 := Lib.hid (B2.out.below hba)
  replace O3 := Lib.hid (O3.out.below hba)
  replace F3 := Lib.hid (F3.out.below hba)
  replace BB := Lib.hid (BB.out.trans (hba.mono BB.out.size))
  replace m2 := Nat.le_trans m2 hba.size
  replace mm2 := Nat.le_trans mm2 hba.size
  replace m3 := Nat.le_trans m3 hba.size
  replace mm3 := Nat.le_trans mm3 hba.size
  replace BV := Lib.hid (BV.out.trans (hba.mono BV.out.size))
  clear hba
  obtain ⟨_, p0, p1, p2, p3, p4, p5, _⟩ := BS.out
  obtain ⟨_, q0, q1, q2, q3, q4, q5, _⟩ := B1.out
  have d0 := PS.out.c0
  have d1 := PS.out.c1
  try dsimp only at d0 d1
  go_wp2_with fail
  refine (cl2.out A1 _ O1.out TB.out).mono ?_
  rintro e w4 ⟨A4, rfl, own, hb⟩
  have O4 := Lib.hid own
  have m4 := hb.size
  have y4 := BV.out.size
  have F4 := Lib.hid own.soft
  clear own
  replace BS := Lib.hid (BS.out.below hb)
  replace PS := Lib.hid (PS.out.below hb)
  replace HA := Lib.hid (HA.out.below hb)
  replace TB := Lib.hid (TB.out.below hb)
  replace O1 := Lib.hid (O1.out.below hb)
  replace B1 := Lib.hid (B1.out.below hb)
  replace O2 := Lib.hid (O2.out.below hb)
  replace F2 := Lib.hid (F2.out.below hb)
  replace B2 := Lib.hid (B2.out.below hb)
  replace O3 := Lib.hid (O3.out.below hb)
  replace F3 := Lib.hid (F3.out.below hb)
  replace B3 := Lib.hid (B3.out.below hb)
  replace BB := Lib.hid (BB.out.trans (hb.mono BB.out.size))
  replace m2 := Nat.le_trans m2 hb.size
  replace mm2 := Nat.le_trans mm2 hb.size
  replace m3 := Nat.le_trans m3 hb.size
  replace mm3 := Nat.le_trans mm3 hb.size
  replace BV := Lib.hid (BV.out.trans (hb.mono BV.out.size))
  clear hb p0 p1 p2 p3 p4 p5 d0 d1 q0 q1 q2 q3 q4 q5
  unfold slv
  have u24 := mm2
  have u34 := mm3
  have mm4 := Nat.le_refl w4.heap.size
  go_upto_region 7 with (fail)
  obtain ⟨V4, hV⟩ : ∃ V, V = w4.alloc (.cells #[.int .i64 S2.seg, .slice A4.w S2.words.length A4.cw, .slice A4.k S2.keys.length A4.ck, .slice A4.v S2.vals.length A4.cv, .slice A4.c S2.counts.length A4.cc, .int .u64 (S2.laid : Int)] 27) := ⟨_, rfl⟩
  have hba : Below w4.heap.size w4 V4 := by rw [hV]; exact (Below.refl _ _).alloc (Nat.le_refl _) _
  have B4 := Lib.hid (show Box V4 w4.heap.size S2 A4 by rw [hV]; exact Box.new w4 S2 A4 27)
  rw [← hV]
  clear hV
  replace BS := Lib.hid (BS.out.below hba)
  replace PS := Lib.hid (PS.out.below hba)
  replace HA := Lib.hid (HA.out.below hba)
  replace TB := Lib.hid (TB.out.below hba)
  replace O1 := Lib.hid (O1.out.below hba)
  replace B1 := Lib.hid (B1.out.below hba)
  replace O2 := Lib.hid (O2.out.below hba)
  replace F2 := Lib.hid (F2.out.below hba)
  replace B2 := Lib.hid (B2.out.below hba)
  replace O3 := Lib.hid (O3.out.below hba)
  replace F3 := Lib.hid (F3.out.below hba)
  replace B3 := Lib.hid (B3.out.below hba)
  replace O4 := Lib.hid (O4.out.below hba)
  replace F4 := Lib.hid (F4.out.below hba)
  replace BB := Lib.hid (BB.out.trans (hba.mono BB.out.size))
  replace m2 := Nat.le_trans m2 hba.size
  replace mm2 := Nat.le_trans mm2 hba.size
  replace m3 := Nat.le_trans m3 hba.size
  replace mm3 := Nat.le_trans mm3 hba.size
  replace m4 := Nat.le_trans m4 hba.size
  replace mm4 := Nat.le_trans mm4 hba.size
  replace BV := Lib.hid (BV.out.trans (hba.mono BV.out.size))
  clear hba
  obtain ⟨_, p0, p1, p2, p3, p4, p5, _⟩ := BS.out
  obtain ⟨_, q0, q1, q2, q3, q4, q5, _⟩ := B1.out
  have d0 := PS.out.c0
  have d1 := PS.out.c1
  try dsimp only at d0 d1
  go_wp2_with fail
  refine (rl2.out a _ HA.out).mono ?_
  rintro e w5 ⟨A5, rfl, own, _, _, hb⟩
  have O5 := Lib.hid own
  have m5 := hb.size
  have y5 := BV.out.size
  have F5 := Lib.hid own.soft
  clear own
  replace BS := Lib.hid (BS.out.below hb)
  replace PS := Lib.hid (PS.out.below hb)
  replace HA := Lib.hid (HA.out.below hb)
  replace TB := Lib.hid (TB.out.below hb)
  replace O1 := Lib.hid (O1.out.below hb)
  replace B1 := Lib.hid (B1.out.below hb)
  replace O2 := Lib.hid (O2.out.below hb)
  replace F2 := Lib.hid (F2.out.below hb)
  replace B2 := Lib.hid (B2.out.below hb)
  replace O3 := Lib.hid (O3.out.below hb)
  replace F3 := Lib.hid (F3.out.below hb)
  replace B3 := Lib.hid (B3.out.below hb)
  replace O4 := Lib.hid (O4.out.below hb)
  replace F4 := Lib.hid (F4.out.below hb)
  replace B4 := Lib.hid (B4.out.below hb)
  replace BB := Lib.hid (BB.out.trans (hb.mono BB.out.size))
  replace m2 := Nat.le_trans m2 hb.size
  replace mm2 := Nat.le_trans mm2 hb.size
  replace m3 := Nat.le_trans m3 hb.size
  replace mm3 := Nat.le_trans mm3 hb.size
  replace m4 := Nat.le_trans m4 hb.size
  replace mm4 := Nat.le_trans mm4 hb.size
  replace BV := Lib.hid (BV.out.trans (hb.mono BV.out.size))
  clear hb p0 p1 p2 p3 p4 p5 d0 d1 q0 q1 q2 q3 q4 q5
  unfold slv
  have u25 := mm2
  have u35 := mm3
  have u45 := mm4
  have mm5 := Nat.le_refl w5.heap.size
  go_upto_region 8 with (fail)
  obtain ⟨V5, hV⟩ : ∃ V, V = w5.alloc (.cells #[.int .i64 S2.seg, .slice A5.w S2.words.length A5.cw, .slice A5.k S2.keys.length A5.ck, .slice A5.v S2.vals.length A5.cv, .slice A5.c S2.counts.length A5.cc, .int .u64 (S2.laid : Int)] 27) := ⟨_, rfl⟩
  have hba : Below w5.heap.size w5 V5 := by rw [hV]; exact (Below.refl _ _).alloc (Nat.le_refl _) _
  have B5 := Lib.hid (show Box V5 w5.heap.size S2 A5 by rw [hV]; exact Box.new w5 S2 A5 27)
  rw [← hV]
  clear hV
  replace BS := Lib.hid (BS.out.below hba)
  replace PS := Lib.hid (PS.out.below hba)
  replace HA := Lib.hid (HA.out.below hba)
  replace TB := Lib.hid (TB.out.below hba)
  replace O1 := Lib.hid (O1.out.below hba)
  replace B1 := Lib.hid (B1.out.below hba)
  replace O2 := Lib.hid (O2.out.below hba)
  replace F2 := Lib.hid (F2.out.below hba)
  replace B2 := Lib.hid (B2.out.below hba)
  replace O3 := Lib.hid (O3.out.below hba)
  replace F3 := Lib.hid (F3.out.below hba)
  replace B3 := Lib.hid (B3.out.below hba)
  replace O4 := Lib.hid (O4.out.below hba)
  replace F4 := Lib.hid (F4.out.below hba)
  replace B4 := Lib.hid (B4.out.below hba)
  replace O5 := Lib.hid (O5.out.below hba)
  replace F5 := Lib.hid (F5.out.below hba)
  replace BB := Lib.hid (BB.out.trans (hba.mono BB.out.size))
  replace m2 := Nat.le_trans m2 hba.size
  replace mm2 := Nat.le_trans mm2 hba.size
  replace m3 := Nat.le_trans m3 hba.size
  replace mm3 := Nat.le_trans mm3 hba.size
  replace m4 := Nat.le_trans m4 hba.size
  replace mm4 := Nat.le_trans mm4 hba.size
  replace m5 := Nat.le_trans m5 hba.size
  replace mm5 := Nat.le_trans mm5 hba.size
  replace BV := Lib.hid (BV.out.trans (hba.mono BV.out.size))
  clear hba
  obtain ⟨_, p0, p1, p2, p3, p4, p5, _⟩ := BS.out
  obtain ⟨_, q0, q1, q2, q3, q4, q5, _⟩ := B1.out
  have d0 := PS.out.c0
  have d1 := PS.out.c1
  try dsimp only at d0 d1
  go_wp2_with fail
  refine (cl3.out A1 _ O1.out TB.out).mono ?_
  rintro e w6 ⟨A6, rfl, own, hb⟩
  have O6 := Lib.hid own
  have m6 := hb.size
  have y6 := BV.out.size
  have F6 := Lib.hid own.soft
  clear own
  replace BS := Lib.hid (BS.out.below hb)
  replace PS := Lib.hid (PS.out.below hb)
  replace HA := Lib.hid (HA.out.below hb)
  replace TB := Lib.hid (TB.out.below hb)
  replace O1 := Lib.hid (O1.out.below hb)
  replace B1 := Lib.hid (B1.out.below hb)
  replace O2 := Lib.hid (O2.out.below hb)
  replace F2 := Lib.hid (F2.out.below hb)
  replace B2 := Lib.hid (B2.out.below hb)
  replace O3 := Lib.hid (O3.out.below hb)
  replace F3 := Lib.hid (F3.out.below hb)
  replace B3 := Lib.hid (B3.out.below hb)
  replace O4 := Lib.hid (O4.out.below hb)
  replace F4 := Lib.hid (F4.out.below hb)
  replace B4 := Lib.hid (B4.out.below hb)
  replace O5 := Lib.hid (O5.out.below hb)
  replace F5 := Lib.hid (F5.out.below hb)
  replace B5 := Lib.hid (B5.out.below hb)
  replace BB := Lib.hid (BB.out.trans (hb.mono BB.out.size))
  replace m2 := Nat.le_trans m2 hb.size
  replace mm2 := Nat.le_trans mm2 hb.size
  replace m3 := Nat.le_trans m3 hb.size
  replace mm3 := Nat.le_trans mm3 hb.size
  replace m4 := Nat.le_trans m4 hb.size
  replace mm4 := Nat.le_trans mm4 hb.size
  replace m5 := Nat.le_trans m5 hb.size
  replace mm5 := Nat.le_trans mm5 hb.size
  replace BV := Lib.hid (BV.out.trans (hb.mono BV.out.size))
  clear hb p0 p1 p2 p3 p4 p5 d0 d1 q0 q1 q2 q3 q4 q5
  unfold slv
  have u26 := mm2
  have u36 := mm3
  have u46 := mm4
  have u56 := mm5
  have mm6 := Nat.le_refl w6.heap.size
  go_upto_region 9 with (fail)
  obtain ⟨V6, hV⟩ : ∃ V, V = w6.alloc (.cells #[.int .i64 S3.seg, .slice A6.w S3.words.length A6.cw, .slice A6.k S3.keys.length A6.ck, .slice A6.v S3.vals.length A6.cv, .slice A6.c S3.counts.length A6.cc, .int .u64 (S3.laid : Int)] 27) := ⟨_, rfl⟩
  have hba : Below w6.heap.size w6 V6 := by rw [hV]; exact (Below.refl _ _).alloc (Nat.le_refl _) _
  have B6 := Lib.hid (show Box V6 w6.heap.size S3 A6 by rw [hV]; exact Box.new w6 S3 A6 27)
  rw [← hV]
  clear hV
  replace BS := Lib.hid (BS.out.below hba)
  replace PS := Lib.hid (PS.out.below hba)
  replace HA := Lib.hid (HA.out.below hba)
  replace TB := Lib.hid (TB.out.below hba)
  replace O1 := Lib.hid (O1.out.below hba)
  replace B1 := Lib.hid (B1.out.below hba)
  replace O2 := Lib.hid (O2.out.below hba)
  replace F2 := Lib.hid (F2.out.below hba)
  replace B2 := Lib.hid (B2.out.below hba)
  replace O3 := Lib.hid (O3.out.below hba)
  replace F3 := Lib.hid (F3.out.below hba)
  replace B3 := Lib.hid (B3.out.below hba)
  replace O4 := Lib.hid (O4.out.below hba)
  replace F4 := Lib.hid (F4.out.below hba)
  replace B4 := Lib.hid (B4.out.below hba)
  replace O5 := Lib.hid (O5.out.below hba)
  replace F5 := Lib.hid (F5.out.below hba)
  replace B5 := Lib.hid (B5.out.below hba)
  replace O6 := Lib.hid (O6.out.below hba)
  replace F6 := Lib.hid (F6.out.below hba)
  replace BB := Lib.hid (BB.out.trans (hba.mono BB.out.size))
  replace m2 := Nat.le_trans m2 hba.size
  replace mm2 := Nat.le_trans mm2 hba.size
  replace m3 := Nat.le_trans m3 hba.size
  replace mm3 := Nat.le_trans mm3 hba.size
  replace m4 := Nat.le_trans m4 hba.size
  replace mm4 := Nat.le_trans mm4 hba.size
  replace m5 := Nat.le_trans m5 hba.size
  replace mm5 := Nat.le_trans mm5 hba.size
  replace m6 := Nat.le_trans m6 hba.size
  replace mm6 := Nat.le_trans mm6 hba.size
  replace BV := Lib.hid (BV.out.trans (hba.mono BV.out.size))
  clear hba
  obtain ⟨_, p0, p1, p2, p3, p4, p5, _⟩ := BS.out
  obtain ⟨_, q0, q1, q2, q3, q4, q5, _⟩ := B1.out
  have d0 := PS.out.c0
  have d1 := PS.out.c1
  try dsimp only at d0 d1
  go_wp2_with fail
  refine (rl3.out a _ HA.out).mono ?_
  rintro e w7 ⟨A7, rfl, own, _, _, hb⟩
  have O7 := Lib.hid own
  have m7 := hb.size
  have y7 := BV.out.size
  have F7 := Lib.hid own.soft
  clear own
  replace BS := Lib.hid (BS.out.below hb)
  replace PS := Lib.hid (PS.out.below hb)
  replace HA := Lib.hid (HA.out.below hb)
  replace TB := Lib.hid (TB.out.below hb)
  replace O1 := Lib.hid (O1.out.below hb)
  replace B1 := Lib.hid (B1.out.below hb)
  replace O2 := Lib.hid (O2.out.below hb)
  replace F2 := Lib.hid (F2.out.below hb)
  replace B2 := Lib.hid (B2.out.below hb)
  replace O3 := Lib.hid (O3.out.below hb)
  replace F3 := Lib.hid (F3.out.below hb)
  replace B3 := Lib.hid (B3.out.below hb)
  replace O4 := Lib.hid (O4.out.below hb)
  replace F4 := Lib.hid (F4.out.below hb)
  replace B4 := Lib.hid (B4.out.below hb)
  replace O5 := Lib.hid (O5.out.below hb)
  replace F5 := Lib.hid (F5.out.below hb)
  replace B5 := Lib.hid (B5.out.below hb)
  replace O6 := Lib.hid (O6.out.below hb)
  replace F6 := Lib.hid (F6.out.below hb)
  replace B6 := Lib.hid (B6.out.below hb)
  replace BB := Lib.hid (BB.out.trans (hb.mono BB.out.size))
  replace m2 := Nat.le_trans m2 hb.size
  replace mm2 := Nat.le_trans mm2 hb.size
  replace m3 := Nat.le_trans m3 hb.size
  replace mm3 := Nat.le_trans mm3 hb.size
  replace m4 := Nat.le_trans m4 hb.size
  replace mm4 := Nat.le_trans mm4 hb.size
  replace m5 := Nat.le_trans m5 hb.size
  replace mm5 := Nat.le_trans mm5 hb.size
  replace m6 := Nat.le_trans m6 hb.size
  replace mm6 := Nat.le_trans mm6 hb.size
  replace BV := Lib.hid (BV.out.trans (hb.mono BV.out.size))
  clear hb p0 p1 p2 p3 p4 p5 d0 d1 q0 q1 q2 q3 q4 q5
  unfold slv
  have u27 := mm2
  have u37 := mm3
  have u47 := mm4
  have u57 := mm5
  have u67 := mm6
  have mm7 := Nat.le_refl w7.heap.size
  go_upto_region 10 with (fail)
  obtain ⟨V7, hV⟩ : ∃ V, V = w7.alloc (.cells #[.int .i64 S3.seg, .slice A7.w S3.words.length A7.cw, .slice A7.k S3.keys.length A7.ck, .slice A7.v S3.vals.length A7.cv, .slice A7.c S3.counts.length A7.cc, .int .u64 (S3.laid : Int)] 27) := ⟨_, rfl⟩
  have hba : Below w7.heap.size w7 V7 := by rw [hV]; exact (Below.refl _ _).alloc (Nat.le_refl _) _
  have B7 := Lib.hid (show Box V7 w7.heap.size S3 A7 by rw [hV]; exact Box.new w7 S3 A7 27)
  rw [← hV]
  clear hV
  replace BS := Lib.hid (BS.out.below hba)
  replace PS := Lib.hid (PS.out.below hba)
  replace HA := Lib.hid (HA.out.below hba)
  replace TB := Lib.hid (TB.out.below hba)
  replace O1 := Lib.hid (O1.out.below hba)
  replace B1 := Lib.hid (B1.out.below hba)
  replace O2 := Lib.hid (O2.out.below hba)
  replace F2 := Lib.hid (F2.out.below hba)
  replace B2 := Lib.hid (B2.out.below hba)
  replace O3 := Lib.hid (O3.out.below hba)
  replace F3 := Lib.hid (F3.out.below hba)
  replace B3 := Lib.hid (B3.out.below hba)
  replace O4 := Lib.hid (O4.out.below hba)
  replace F4 := Lib.hid (F4.out.below hba)
  replace B4 := Lib.hid (B4.out.below hba)
  replace O5 := Lib.hid (O5.out.below hba)
  replace F5 := Lib.hid (F5.out.below hba)
  replace B5 := Lib.hid (B5.out.below hba)
  replace O6 := Lib.hid (O6.out.below hba)
  replace F6 := Lib.hid (F6.out.below hba)
  replace B6 := Lib.hid (B6.out.below hba)
  replace O7 := Lib.hid (O7.out.below hba)
  replace F7 := Lib.hid (F7.out.below hba)
  replace BB := Lib.hid (BB.out.trans (hba.mono BB.out.size))
  replace m2 := Nat.le_trans m2 hba.size
  replace mm2 := Nat.le_trans mm2 hba.size
  replace m3 := Nat.le_trans m3 hba.size
  replace mm3 := Nat.le_trans mm3 hba.size
  replace m4 := Nat.le_trans m4 hba.size
  replace mm4 := Nat.le_trans mm4 hba.size
  replace m5 := Nat.le_trans m5 hba.size
  replace mm5 := Nat.le_trans mm5 hba.size
  replace m6 := Nat.le_trans m6 hba.size
  replace mm6 := Nat.le_trans mm6 hba.size
  replace m7 := Nat.le_trans m7 hba.size
  replace mm7 := Nat.le_trans mm7 hba.size
  replace BV := Lib.hid (BV.out.trans (hba.mono BV.out.size))
  clear hba
  clear PS HA O1 TB
  have k1 : (E1 == E1) = true := by simp
  have k2 : (E2 == E2) = true := by simp
  have k3 : (E3 == E3) = true := by simp
  obtain ⟨_, p0, p1, p2, p3, p4, p5, _⟩ := B2.out
  obtain ⟨_, q0, q1, q2, q3, q4, q5, _⟩ := B3.out
  go_wp2_with fail
  refine (r4Same S1 S1 A2 A3 _ O2.out.held O3.out.held sh1.out sh1.out).mono ?_
  rintro e U0 ⟨rfl, hb⟩
  rw [same_self]
  replace BS := Lib.hid (BS.out.below hb)
  replace B1 := Lib.hid (B1.out.below hb)
  replace O2 := Lib.hid (O2.out.below hb)
  replace F2 := Lib.hid (F2.out.below hb)
  replace B2 := Lib.hid (B2.out.below hb)
  replace O3 := Lib.hid (O3.out.below hb)
  replace F3 := Lib.hid (F3.out.below hb)
  replace B3 := Lib.hid (B3.out.below hb)
  replace O4 := Lib.hid (O4.out.below hb)
  replace F4 := Lib.hid (F4.out.below hb)
  replace B4 := Lib.hid (B4.out.below hb)
  replace O5 := Lib.hid (O5.out.below hb)
  replace F5 := Lib.hid (F5.out.below hb)
  replace B5 := Lib.hid (B5.out.below hb)
  replace O6 := Lib.hid (O6.out.below hb)
  replace F6 := Lib.hid (F6.out.below hb)
  replace B6 := Lib.hid (B6.out.below hb)
  replace O7 := Lib.hid (O7.out.below hb)
  replace F7 := Lib.hid (F7.out.below hb)
  replace B7 := Lib.hid (B7.out.below hb)
  replace BB := Lib.hid (BB.out.trans (hb.mono BB.out.size))
  replace m2 := Nat.le_trans m2 hb.size
  replace mm2 := Nat.le_trans mm2 hb.size
  replace m3 := Nat.le_trans m3 hb.size
  replace mm3 := Nat.le_trans mm3 hb.size
  replace m4 := Nat.le_trans m4 hb.size
  replace mm4 := Nat.le_trans mm4 hb.size
  replace m5 := Nat.le_trans m5 hb.size
  replace mm5 := Nat.le_trans mm5 hb.size
  replace m6 := Nat.le_trans m6 hb.size
  replace mm6 := Nat.le_trans mm6 hb.size
  replace m7 := Nat.le_trans m7 hb.size
  replace mm7 := Nat.le_trans mm7 hb.size
  replace BV := Lib.hid (BV.out.trans (hb.mono BV.out.size))
  clear hb p0 p1 p2 p3 p4 p5 q0 q1 q2 q3 q4 q5
  obtain ⟨_, p0, p1, p2, p3, p4, p5, _⟩ := B4.out
  obtain ⟨_, q0, q1, q2, q3, q4, q5, _⟩ := B5.out
  go_wp2_with fail
  refine (r4Same S2 S2 A4 A5 _ O4.out.held O5.out.held sh2.out sh2.out).mono ?_
  rintro e U1 ⟨rfl, hb⟩
  rw [same_self]
  replace BS := Lib.hid (BS.out.below hb)
  replace B1 := Lib.hid (B1.out.below hb)
  replace O2 := Lib.hid (O2.out.below hb)
  replace F2 := Lib.hid (F2.out.below hb)
  replace B2 := Lib.hid (B2.out.below hb)
  replace O3 := Lib.hid (O3.out.below hb)
  replace F3 := Lib.hid (F3.out.below hb)
  replace B3 := Lib.hid (B3.out.below hb)
  replace O4 := Lib.hid (O4.out.below hb)
  replace F4 := Lib.hid (F4.out.below hb)
  replace B4 := Lib.hid (B4.out.below hb)
  replace O5 := Lib.hid (O5.out.below hb)
  replace F5 := Lib.hid (F5.out.below hb)
  replace B5 := Lib.hid (B5.out.below hb)
  replace O6 := Lib.hid (O6.out.below hb)
  replace F6 := Lib.hid (F6.out.below hb)
  replace B6 := Lib.hid (B6.out.below hb)
  replace O7 := Lib.hid (O7.out.below hb)
  replace F7 := Lib.hid (F7.out.below hb)
  replace B7 := Lib.hid (B7.out.below hb)
  replace BB := Lib.hid (BB.out.trans (hb.mono BB.out.size))
  replace m2 := Nat.le_trans m2 hb.size
  replace mm2 := Nat.le_trans mm2 hb.size
  replace m3 := Nat.le_trans m3 hb.size
  replace mm3 := Nat.le_trans mm3 hb.size
  replace m4 := Nat.le_trans m4 hb.size
  replace mm4 := Nat.le_trans mm4 hb.size
  replace m5 := Nat.le_trans m5 hb.size
  replace mm5 := Nat.le_trans mm5 hb.size
  replace m6 := Nat.le_trans m6 hb.size
  replace mm6 := Nat.le_trans mm6 hb.size
  replace m7 := Nat.le_trans m7 hb.size
  replace mm7 := Nat.le_trans mm7 hb.size
  replace BV := Lib.hid (BV.out.trans (hb.mono BV.out.size))
  clear hb p0 p1 p2 p3 p4 p5 q0 q1 q2 q3 q4 q5
  obtain ⟨_, p0, p1, p2, p3, p4, p5, _⟩ := B6.out
  obtain ⟨_, q0, q1, q2, q3, q4, q5, _⟩ := B7.out
  go_wp2_with fail
  refine (r4Same S3 S3 A6 A7 _ O6.out.held O7.out.held sh3.out sh3.out).mono ?_
  rintro e U2 ⟨rfl, hb⟩
  rw [same_self]
  replace BS := Lib.hid (BS.out.below hb)
  replace B1 := Lib.hid (B1.out.below hb)
  replace O2 := Lib.hid (O2.out.below hb)
  replace F2 := Lib.hid (F2.out.below hb)
  replace B2 := Lib.hid (B2.out.below hb)
  replace O3 := Lib.hid (O3.out.below hb)
  replace F3 := Lib.hid (F3.out.below hb)
  replace B3 := Lib.hid (B3.out.below hb)
  replace O4 := Lib.hid (O4.out.below hb)
  replace F4 := Lib.hid (F4.out.below hb)
  replace B4 := Lib.hid (B4.out.below hb)
  replace O5 := Lib.hid (O5.out.below hb)
  replace F5 := Lib.hid (F5.out.below hb)
  replace B5 := Lib.hid (B5.out.below hb)
  replace O6 := Lib.hid (O6.out.below hb)
  replace F6 := Lib.hid (F6.out.below hb)
  replace B6 := Lib.hid (B6.out.below hb)
  replace O7 := Lib.hid (O7.out.below hb)
  replace F7 := Lib.hid (F7.out.below hb)
  replace B7 := Lib.hid (B7.out.below hb)
  replace BB := Lib.hid (BB.out.trans (hb.mono BB.out.size))
  replace m2 := Nat.le_trans m2 hb.size
  replace mm2 := Nat.le_trans mm2 hb.size
  replace m3 := Nat.le_trans m3 hb.size
  replace mm3 := Nat.le_trans mm3 hb.size
  replace m4 := Nat.le_trans m4 hb.size
  replace mm4 := Nat.le_trans mm4 hb.size
  replace m5 := Nat.le_trans m5 hb.size
  replace mm5 := Nat.le_trans mm5 hb.size
  replace m6 := Nat.le_trans m6 hb.size
  replace mm6 := Nat.le_trans mm6 hb.size
  replace m7 := Nat.le_trans m7 hb.size
  replace mm7 := Nat.le_trans mm7 hb.size
  replace BV := Lib.hid (BV.out.trans (hb.mono BV.out.size))
  clear hb p0 p1 p2 p3 p4 p5 q0 q1 q2 q3 q4 q5
  go_upto_region 11 with (fail)
  have zW : W.heap.size ≤ V1.heap.size := by have := BV.out.size; have := HSV.out.lt; omega
  clear O2
  clear O3
  clear B3
  clear O4
  clear O5
  clear B5
  clear O6
  clear O7
  clear B7
  clear F3
  clear F5
  clear F7
  clear BS
  clear B1
  obtain ⟨_, p0, p1, p2, p3, p4, p5, _⟩ := B2.out
  go_wp2_with fail
  refine (l4Spoil S1 A2 _ _ _ F2.out m2 sh1.out).mono ?_
  rintro e T0 ⟨rfl, sp⟩
  clear p0 p1 p2 p3 p4 p5
  replace BB := Lib.hid (BB.out.trans (sp.1.mono (by omega)))
  replace BV := Lib.hid (BV.out.trans (sp.1.mono (by omega)))
  replace B4 := Lib.hid (B4.out.of_heap (sp.2.2 _ u24 B4.out.lt) sp.1.size)
  replace F4 := Lib.hid (F4.out.keep sp.2.1)
  replace m4 := Nat.le_trans m4 sp.1.size
  replace B6 := Lib.hid (B6.out.of_heap (sp.2.2 _ u26 B6.out.lt) sp.1.size)
  replace F6 := Lib.hid (F6.out.keep sp.2.1)
  replace m6 := Nat.le_trans m6 sp.1.size
  clear sp
  obtain ⟨_, p0, p1, p2, p3, p4, p5, _⟩ := B4.out
  go_wp2_with fail
  refine (l4Spoil S2 A4 _ _ _ F4.out m4 sh2.out).mono ?_
  rintro e T1 ⟨rfl, sp⟩
  clear p0 p1 p2 p3 p4 p5
  replace BB := Lib.hid (BB.out.trans (sp.1.mono (by omega)))
  replace BV := Lib.hid (BV.out.trans (sp.1.mono (by omega)))
  replace B6 := Lib.hid (B6.out.of_heap (sp.2.2 _ u46 B6.out.lt) sp.1.size)
  replace F6 := Lib.hid (F6.out.keep sp.2.1)
  replace m6 := Nat.le_trans m6 sp.1.size
  clear sp
  obtain ⟨_, p0, p1, p2, p3, p4, p5, _⟩ := B6.out
  go_wp2_with fail
  refine (l4Spoil S3 A6 _ _ _ F6.out m6 sh3.out).mono ?_
  rintro e T2 ⟨rfl, sp⟩
  clear p0 p1 p2 p3 p4 p5
  replace BB := Lib.hid (BB.out.trans (sp.1.mono (by omega)))
  replace BV := Lib.hid (BV.out.trans (sp.1.mono (by omega)))
  clear sp
  have BSx := HSV.out.below BV.out
  have B1x := HBV.out.below BV.out
  have HAx := Lib.hid (HA0.out.below BB.out)
  have HOx := Lib.hid (HOV.out.below BV.out)
  obtain ⟨_, p0, p1, p2, p3, p4, p5, _⟩ := BSx
  obtain ⟨_, q0, q1, q2, q3, q4, q5, _⟩ := B1x
  go_wp2_with fail
  refine (r4Same s s A1 a _ HOx.out HAx.out HSh.out HSh.out).mono ?_
  rintro e Z9 ⟨rfl, hb⟩
  rw [same_self]
  go_wp2
  go_ret
  exact ⟨rfl, BB.out.trans (hb.mono BB.out.size)⟩
theorem walk (s : Sl) (a : Ads) (i j x1 x2 : Int) (W : World) (h : Held W s a) (hok : s.Ok) (hT : Tab W) :
    Calls Tryd.prog 5 #[slv s a, .int .i64 i, .int .i64 j, pv (x1, x2)] W fun e w' => e = .returned (.bool true) ∧ Below W.heap.size W w' := by
  cases hg : s.greatB 300
  · refine full s a i j x1 x2 W h hok ?_ hg hT
    unfold Sl.greatB at hg
    simp only [Bool.or_eq_false_iff, decide_eq_false_iff_not] at hg
    exact ⟨by omega, by omega, by omega, by omega⟩
  · have HG := Lib.hid hg
    have BS := Lib.hid (fun o => (Box.new W s a 27).below ((Below.refl _ _).alloc (Nat.le_refl _) o))
    have BB0 := Lib.hid (fun o o' => ((Below.refl W.heap.size W).alloc (Nat.le_refl _) o).alloc (by simp) o')
    clear h hok hg hT
    unfold slv pv
    go_enter Tryd.func5, Tryd.ntmps5
    go_wp2_with fail
    refine (r4Great s a 300 _).mono ?_
    rintro e w0 ⟨rfl, hb⟩
    rw [HG.out]
    go_wp2
    go_ret
    exact ⟨rfl, (BB0.out _ _).trans (hb.mono (by simp; omega))⟩
end Go.Proofs.YtifffaigmfahdaaDoor.slotsTurns
