/- The walk of the law LayTells: a part that is spread, alone or with one more, is the document's; the array stays, what is answered is new memory. -/
import Derived.Test.YtmmkaabefofdeaaDoorLaw084
namespace Go.Proofs.YtmmkaabefofdeaaDoor.layTells
open Go.RowKit
set_option linter.unusedVariables false
set_option linter.unusedSimpArgs false

set_option maxRecDepth 100000 in
set_option maxHeartbeats 8000000 in
theorem full (s : Sl) (a : Ads) (t0 t1 k x1 x2 : Int) (W : World) (h : Held W s a) (hok : s.Ok) (hs : s.Short) (hg : s.greatB 300 = false) (hT : Tab W) (i0 : In64 t0) (i1 : In64 t1) (ik : In64 k) (ix : In64 x1) (iy : In64 x2) :
    Calls Tryd.prog 4 #[slv s a, .agg #[.int .i64 t0, .int .i64 t1], .int .i64 k, pv (x1, x2)] W fun e w' => e = .returned (.bool true) ∧ Below W.heap.size W w' := by
  have HSh := Lib.hid hs
  have HGr := Lib.hid hg
  have sh1 := Lib.hid (even_fine hok hs t0 t1).short
  have sh2 := Lib.hid (with_fine hok hs t0 t1 k (p := (x1, x2)) ix iy).short
  obtain ⟨S1, hS1⟩ : ∃ S, S = Ly.evenS s t0 t1 := ⟨_, rfl⟩
  obtain ⟨S2, hS2⟩ : ∃ S, S = Ly.withS s t0 t1 k (x1, x2) := ⟨_, rfl⟩
  obtain ⟨E1, hE1⟩ : ∃ S, S = s.pairsE t0 t1 := ⟨_, rfl⟩
  obtain ⟨E2, hE2⟩ : ∃ S, S = Ly.withE s t0 t1 k := ⟨_, rfl⟩
  rw [← hS1] at sh1
  rw [← hS2] at sh2
  have cl1 := Lib.hid (show ∀ A V, Held V s A → Tab V → Calls Tryd.prog 11 #[slv s A, .int .i64 t0, .int .i64 t1] V (Ans S1 E1 V) from fun A V hv tv => by rw [hS1, hE1]; exact yEven s A t0 t1 V hv hok hs tv i0 i1)
  have rl1 := Lib.hid (show ∀ A V, Held V s A → Calls Tryd.prog 17 #[slv s A, .int .i64 t0, .int .i64 t1] V (SPost2 S1 E1 V) from fun A V hv => by rw [hS1, hE1]; exact r8Even s A t0 t1 V hv hok hs)
  have cl2 := Lib.hid (show ∀ A V, Held V s A → Tab V → Calls Tryd.prog 9 #[slv s A, .int .i64 t0, .int .i64 t1, .int .i64 k, .agg #[.int .i64 x1, .int .i64 x2]] V (Ans S2 E2 V) from fun A V hv tv => by rw [hS2, hE2]; exact yWith s A t0 t1 k x1 x2 V hv hok hs tv i0 i1 ik ix iy)
  have rl2 := Lib.hid (show ∀ A V, Held V s A → Calls Tryd.prog 18 #[slv s A, .int .i64 t0, .int .i64 t1, .int .i64 k, .agg #[.int .i64 x1, .int .i64 x2]] V (SPost2 S2 E2 V) from fun A V hv => by rw [hS2, hE2]; exact r8With s A t0 t1 k x1 x2 V hv hok hs ix iy)
  have HA0 := Lib.hid h
  have TB0 := Lib.hid hT
  clear hS1 hS2 hE1 hE2 h hok hs hg hT
  obtain ⟨W0, hW0⟩ : ∃ W0, W0 = ((W.alloc (.cells #[.int .i64 s.seg, .slice a.w s.words.length a.cw, .slice a.k s.keys.length a.ck, .slice a.v s.vals.length a.cv, .slice a.c s.counts.length a.cc, .int .u64 (s.laid : Int)] 27)).alloc (.cells #[.int .i64 t0, .int .i64 t1] 39)).alloc (.cells #[.int .i64 x1, .int .i64 x2] 33) := ⟨_, rfl⟩
  have BS := Lib.hid (show Box W0 W.heap.size s a by rw [hW0]; exact ((Box.new W s a 27).below ((Below.refl _ _).alloc (Nat.le_refl _) _)).below ((Below.refl _ _).alloc (Nat.le_refl _) _))
  have PS := Lib.hid (show PBox W0 (W.heap.size + 1) (t0, t1) by rw [hW0]; exact (PBox.second W _ (t0, t1) 39).below ((Below.refl _ _).alloc (Nat.le_refl _) _))
  have PQ := Lib.hid (show PBox W0 (W.heap.size + 1 + 1) (x1, x2) by rw [hW0]; have q := PBox.second (W.alloc (.cells #[.int .i64 s.seg, .slice a.w s.words.length a.cw, .slice a.k s.keys.length a.ck, .slice a.v s.vals.length a.cv, .slice a.c s.counts.length a.cc, .int .u64 (s.laid : Int)] 27)) (.cells #[.int .i64 t0, .int .i64 t1] 39) (x1, x2) 33; rwa [World.size_alloc] at q)
  have BB := Lib.hid (show Below W.heap.size W W0 by rw [hW0]; exact (((Below.refl W.heap.size W).alloc (Nat.le_refl _) _).alloc (by simp) _).alloc (by simp; omega) _)
  have HA := Lib.hid (HA0.out.below BB.out)
  have TB := Lib.hid (TB0.out.below BB.out)
  unfold slv at cl1 rl1 cl2 rl2
  unfold slv pv
  go_enter Tryd.func4, Tryd.ntmps4
  go_upto_region 1 with (fail)
  rw [← hW0]
  clear hW0
  obtain ⟨_, p0, p1, p2, p3, p4, p5, _⟩ := BS.out
  go_wp2_with fail
  refine (r4Great s a 300 _).mono ?_
  rintro e w0 ⟨rfl, hb⟩
  rw [HGr.out]
  replace BS := Lib.hid (BS.out.below hb)
  replace PS := Lib.hid (PS.out.below hb)
  replace PQ := Lib.hid (PQ.out.below hb)
  replace HA := Lib.hid (HA.out.below hb)
  replace TB := Lib.hid (TB.out.below hb)
  replace BB := Lib.hid (BB.out.trans (hb.mono BB.out.size))
  clear hb p0 p1 p2 p3 p4 p5
  obtain ⟨_, p0, p1, p2, p3, p4, p5, _⟩ := BS.out
  have d0 := PS.out.c0
  have d1 := PS.out.c1
  have e0 := PQ.out.c0
  have e1 := PQ.out.c1
  try dsimp only at d0 d1 e0 e1
  go_wp2_with fail
  refine (r4Twin s a _ HA.out HSh.out).mono ?_
  rintro e w1 ⟨A1, rfl, own, _, _, hb⟩
  have O1 := Lib.hid own.held
  clear own
  replace BS := Lib.hid (BS.out.below hb)
  replace PS := Lib.hid (PS.out.below hb)
  replace PQ := Lib.hid (PQ.out.below hb)
  replace HA := Lib.hid (HA.out.below hb)
  replace TB := Lib.hid (TB.out.below hb)
  replace BB := Lib.hid (BB.out.trans (hb.mono BB.out.size))
  clear hb p0 p1 p2 p3 p4 p5 d0 d1 e0 e1
  unfold slv
  go_upto_region 4 with (fail)
  obtain ⟨V1, hV⟩ : ∃ V, V = w1.alloc (.cells #[.int .i64 s.seg, .slice A1.w s.words.length A1.cw, .slice A1.k s.keys.length A1.ck, .slice A1.v s.vals.length A1.cv, .slice A1.c s.counts.length A1.cc, .int .u64 (s.laid : Int)] 27) := ⟨_, rfl⟩
  have hba : Below w1.heap.size w1 V1 := by rw [hV]; exact (Below.refl _ _).alloc (Nat.le_refl _) _
  have B1 := Lib.hid (show Box V1 w1.heap.size s A1 by rw [hV]; exact Box.new w1 s A1 27)
  rw [← hV]
  clear hV
  replace BS := Lib.hid (BS.out.below hba)
  replace PS := Lib.hid (PS.out.below hba)
  replace PQ := Lib.hid (PQ.out.below hba)
  replace HA := Lib.hid (HA.out.below hba)
  replace TB := Lib.hid (TB.out.below hba)
  replace O1 := Lib.hid (O1.out.below hba)
  replace BB := Lib.hid (BB.out.trans (hba.mono BB.out.size))
  clear hba
  have HSV := Lib.hid BS.out
  have HBV := Lib.hid B1.out
  have HOV := Lib.hid O1.out
  have BV := Lib.hid (Below.refl V1.heap.size V1)
  have zV : w1.heap.size < V1.heap.size := B1.out.lt
  obtain ⟨_, p0, p1, p2, p3, p4, p5, _⟩ := BS.out
  obtain ⟨_, q0, q1, q2, q3, q4, q5, _⟩ := B1.out
  have d0 := PS.out.c0
  have d1 := PS.out.c1
  have e0 := PQ.out.c0
  have e1 := PQ.out.c1
  try dsimp only at d0 d1 e0 e1
  go_wp2_with fail
  refine (cl1.out A1 _ O1.out TB.out).mono ?_
  rintro e w2 ⟨A2, rfl, own, hb⟩
  have O2 := Lib.hid own
  have m2 := hb.size
  have y2 := BV.out.size
  have F2 := Lib.hid own.soft
  clear own
  replace BS := Lib.hid (BS.out.below hb)
  replace PS := Lib.hid (PS.out.below hb)
  replace PQ := Lib.hid (PQ.out.below hb)
  replace HA := Lib.hid (HA.out.below hb)
  replace TB := Lib.hid (TB.out.below hb)
  replace O1 := Lib.hid (O1.out.below hb)
  replace B1 := Lib.hid (B1.out.below hb)
  replace BB := Lib.hid (BB.out.trans (hb.mono BB.out.size))
  replace BV := Lib.hid (BV.out.trans (hb.mono BV.out.size))
  clear hb p0 p1 p2 p3 p4 p5 d0 d1 e0 e1 q0 q1 q2 q3 q4 q5
  unfold slv
  have mm2 := Nat.le_refl w2.heap.size
  go_upto_region 5 with (fail)
  obtain ⟨V2, hV⟩ : ∃ V, V = w2.alloc (.cells #[.int .i64 S1.seg, .slice A2.w S1.words.length A2.cw, .slice A2.k S1.keys.length A2.ck, .slice A2.v S1.vals.length A2.cv, .slice A2.c S1.counts.length A2.cc, .int .u64 (S1.laid : Int)] 27) := ⟨_, rfl⟩
  have hba : Below w2.heap.size w2 V2 := by rw [hV]; exact (Below.refl _ _).alloc (Nat.le_refl _) _
  have B2 := Lib.hid (show Box V2 w2.heap.size S1 A2 by rw [hV]; exact Box.new w2 S1 A2 27)
  rw [← hV]
  clear hV
  replace BS := Lib.hid (BS.out.below hba)
  replace PS := Lib.hid (PS.out.below hba)
  replace PQ := Lib.hid (PQ.out.below hba)
  replace HA := Lib.hid (HA.out.below hba)
  replace TB := Lib.hid (TB.out.below hba)
  replace O1 := Lib.hid (O1.out.below hba)
  replace B1 := Lib.hid (B1.out.below hba)
  replace O2 := Lib.hid (O2.out.below hba)
  replace F2 := Lib.hid (F2.out.below hba)
  replace BB := Lib.hid (BB.out.trans (hba.mono BB.out.size))
  replace m2 := Nat.le_trans m2 hba.size
  replace mm2 := Nat.le_trans mm2 hba.size
  replace BV := Lib.hid (BV.out.trans (hba.mono BV.out.size))
  clear hba
  obtain ⟨_, p0, p1, p2, p3, p4, p5, _⟩ := BS.out
  obtain ⟨_, q0, q1, q2, q3, q4, q5, _⟩ := B1.out
  have d0 := PS.out.c0
  have d1 := PS.out.c1
  have e0 := PQ.out.c0
  have e1 := PQ.out.c1
  try dsimp only at d0 d1 e0 e1
  go_wp2_with fail
  refine (rl1.out a _ HA.out).mono ?_
  rintro e w3 ⟨A3, rfl, own, _, _, hb⟩
  have O3 := Lib.hid own
  have m3 := hb.size
  have y3 := BV.out.size
  have F3 := Lib.hid own.soft
  clear own
  replace BS := Lib.hid (BS.out.below hb)
  replace PS := Lib.hid (PS.out.below hb)
  replace PQ := Lib.hid (PQ.out.below hb)
  replace HA := Lib.hid (HA.out.below hb)
  replace TB := Lib.hid (TB.out.below hb)
  replace O1 := Lib.hid (O1.out.below hb)
  replace B1 := Lib.hid (B1.out.below hb)
  replace O2 := Lib.hid (O2.out.below hb)
  replace F2 := Lib.hid (F2.out.below hb)
  replace B2 := Lib.hid (B2.out.below hb)
  replace BB := Lib.hid (BB.out.trans (hb.mono BB.out.size))
  replace m2 := Nat.le_trans m2 hb.size
  replace mm2 := Nat.le_trans mm2 hb.size
  replace BV := Lib.hid (BV.out.trans (hb.mono BV.out.size))
  clear hb p0 p1 p2 p3 p4 p5 d0 d1 e0 e1 q0 q1 q2 q3 q4 q5
  unfold slv
  have u23 := mm2
  have mm3 := Nat.le_refl w3.heap.size
  go_upto_region 6 with (fail)
  obtain ⟨V3, hV⟩ : ∃ V, V = w3.alloc (.cells #[.int .i64 S1.seg, .slice A3.w S1.words.length A3.cw, .slice A3.k S1.keys.length A3.ck, .slice A3.v S1.vals.length A3.cv, .slice A3.c S1.counts.length A3.cc, .int .u64 (S1.laid : Int)] 27) := ⟨_, rfl⟩
  have hba : Below w3.heap.size w3 V3 := by rw [hV]; exact (Below.refl _ _).alloc (Nat.le_refl _) _
  have B3 := Lib.hid (show Box V3 w3.heap.size S1 A3 by rw [hV]; exact Box.new w3 S1 A3 27)
  rw [← hV]
  clear hV
  replace BS := Lib.hid (BS.out.below hba)
  replace PS := Lib.hid (PS.out.below hba)
  replace PQ := Lib.hid (PQ.out.below hba)
  replace HA := Lib.hid (HA.out.below hba)
  replace TB := Lib.hid (TB.out.below hba)
  replace O1 := Lib.hid (O1.out.below hba)
  replace B1 := Lib.hid (B1.out.below hba)
  replace O2 := Lib.hid (O2.out.below hba)
  replace F2 := Lib.hid (F2.out.below hba)
  replace B2 := Lib.hid (B2.out.below hba)
  replace O3 := Lib.hid (O3.out.below hba)
  replace F3 := Lib.hid (F3.out.below hba)
  replace BB := Lib.hid (BB.out.trans (hba.mono BB.out.size))
  replace m2 := Nat.le_trans m2 hba.size
  replace mm2 := Nat.le_trans mm2 hba.size
  replace m3 := Nat.le_trans m3 hba.size
  replace mm3 := Nat.le_trans mm3 hba.size
  replace BV := Lib.hid (BV.out.trans (hba.mono BV.out.size))
  clear hba
  obtain ⟨_, p0, p1, p2, p3, p4, p5, _⟩ := BS.out
  obtain ⟨_, q0, q1, q2, q3, q4, q5, _⟩ := B1.out
  have d0 := PS.out.c0
  have d1 := PS.out.c1
  have e0 := PQ.out.c0
  have e1 := PQ.out.c1
  try dsimp only at d0 d1 e0 e1
  go_wp2_with fail
  refine (cl2.out A1 _ O1.out TB.out).mono ?_
  rintro e w4 ⟨A4, rfl, own, hb⟩
  have O4 := Lib.hid own
  have m4 := hb.size
  have y4 := BV.out.size
  have F4 := Lib.hid own.soft
  clear own
  replace BS := Lib.hid (BS.out.below hb)
  replace PS := Lib.hid (PS.out.below hb)
  replace PQ := Lib.hid (PQ.out.below hb)
  replace HA := Lib.hid (HA.out.below hb)
  replace TB := Lib.hid (TB.out.below hb)
  replace O1 := Lib.hid (O1.out.below hb)
  replace B1 := Lib.hid (B1.out.below hb)
  replace O2 := Lib.hid (O2.out.below hb)
  replace F2 := Lib.hid (F2.out.below hb)
  replace B2 := Lib.hid (B2.out.below hb)
  replace O3 := Lib.hid (O3.out.below hb)
  replace F3 := Lib.hid (F3.out.below hb)
  replace B3 := Lib.hid (B3.out.below hb)
  replace BB := Lib.hid (BB.out.trans (hb.mono BB.out.size))
  replace m2 := Nat.le_trans m2 hb.size
  replace mm2 := Nat.le_trans mm2 hb.size
  replace m3 := Nat.le_trans m3 hb.size
  replace mm3 := Nat.le_trans mm3 hb.size
  replace BV := Lib.hid (BV.out.trans (hb.mono BV.out.size))
  clear hb p0 p1 p2 p3 p4 p5 d0 d1 e0 e1 q0 q1 q2 q3 q4 q5
  unfold slv
  have u24 := mm2
  have u34 := mm3
  have mm4 := Nat.le_refl w4.heap.size
  go_upto_region 7 with (fail)
  obtain ⟨V4, hV⟩ : ∃ V, V = w4.alloc (.cells #[.int .i64 S2.seg, .slice A4.w S2.words.length A4.cw, .slice A4.k S2.keys.length A4.ck, .slice A4.v S2.vals.length A4.cv, .slice A4.c S2.counts.length A4.cc, .int .u64 (S2.laid : Int)] 27) := ⟨_, rfl⟩
  have hba : Below w4.heap.size w4 V4 := by rw [hV]; exact (Below.refl _ _).alloc (Nat.le_refl _) _
  have B4 := Lib.hid (show Box V4 w4.heap.size S2 A4 by rw [hV]; exact Box.new w4 S2 A4 27)
  rw [← hV]
  clear hV
  replace BS := Lib.hid (BS.out.below hba)
  replace PS := Lib.hid (PS.out.below hba)
  replace PQ := Lib.hid (PQ.out.below hba)
  replace HA := Lib.hid (HA.out.below hba)
  replace TB := Lib.hid (TB.out.below hba)
  replace O1 := Lib.hid (O1.out.below hba)
  replace B1 := Lib.hid (B1.out.below hba)
  replace O2 := Lib.hid (O2.out.below hba)
  replace F2 := Lib.hid (F2.out.below hba)
  replace B2 := Lib.hid (B2.out.below hba)
  replace O3 := Lib.hid (O3.out.below hba)
  replace F3 := Lib.hid (F3.out.below hba)
  replace B3 := Lib.hid (B3.out.below hba)
  replace O4 := Lib.hid (O4.out.below hba)
  replace F4 := Lib.hid (F4.out.below hba)
  replace BB := Lib.hid (BB.out.trans (hba.mono BB.out.size))
  replace m2 := Nat.le_trans m2 hba.size
  replace mm2 := Nat.le_trans mm2 hba.size
  replace m3 := Nat.le_trans m3 hba.size
  replace mm3 := Nat.le_trans mm3 hba.size
  replace m4 := Nat.le_trans m4 hba.size
  replace mm4 := Nat.le_trans mm4 hba.size
  replace BV := Lib.hid (BV.out.trans (hba.mono BV.out.size))
  clear hba
  obtain ⟨_, p0, p1, p2, p3, p4, p5, _⟩ := BS.out
  obtain ⟨_, q0, q1, q2, q3, q4, q5, _⟩ := B1.out
  have d0 := PS.out.c0
  have d1 := PS.out.c1
  have e0 := PQ.out.c0
  have e1 := PQ.out.c1
  try dsimp only at d0 d1 e0 e1
  go_wp2_with fail
  refine (rl2.out a _ HA.out).mono ?_
  rintro e w5 ⟨A5, rfl, own, _, _, hb⟩
  have O5 := Lib.hid own
  have m5 := hb.size
  have y5 := BV.out.size
  have F5 := Lib.hid own.soft
  clear own
  replace BS := Lib.hid (BS.out.below hb)
  replace PS := Lib.hid (PS.out.below hb)
  replace PQ := Lib.hid (PQ.out.below hb)
  replace HA := Lib.hid (HA.out.below hb)
  replace TB := Lib.hid (TB.out.below hb)
  replace O1 := Lib.hid (O1.out.below hb)
  replace B1 := Lib.hid (B1.out.below hb)
  replace O2 := Lib.hid (O2.out.below hb)
  replace F2 := Lib.hid (F2.out.below hb)
  replace B2 := Lib.hid (B2.out.below hb)
  replace O3 := Lib.hid (O3.out.below hb)
  replace F3 := Lib.hid (F3.out.below hb)
  replace B3 := Lib.hid (B3.out.below hb)
  replace O4 := Lib.hid (O4.out.below hb)
  replace F4 := Lib.hid (F4.out.below hb)
  replace B4 := Lib.hid (B4.out.below hb)
  replace BB := Lib.hid (BB.out.trans (hb.mono BB.out.size))
  replace m2 := Nat.le_trans m2 hb.size
  replace mm2 := Nat.le_trans mm2 hb.size
  replace m3 := Nat.le_trans m3 hb.size
  replace mm3 := Nat.le_trans mm3 hb.size
  replace m4 := Nat.le_trans m4 hb.size
  replace mm4 := Nat.le_trans mm4 hb.size
  replace BV := Lib.hid (BV.out.trans (hb.mono BV.out.size))
  clear hb p0 p1 p2 p3 p4 p5 d0 d1 e0 e1 q0 q1 q2 q3 q4 q5
  unfold slv
  have u25 := mm2
  have u35 := mm3
  have u45 := mm4
  have mm5 := Nat.le_refl w5.heap.size
  go_upto_region 8 with (fail)
  obtain ⟨V5, hV⟩ : ∃ V, V = w5.alloc (.cells #[.int .i64 S2.seg, .slice A5.w S2.words.length A5.cw, .slice A5.k S2.keys.length A5.ck, .slice A5.v S2.vals.length A5.cv, .slice A5.c S2.counts.length A5.cc, .int .u64 (S2.laid : Int)] 27) := ⟨_, rfl⟩
  have hba : Below w5.heap.size w5 V5 := by rw [hV]; exact (Below.refl _ _).alloc (Nat.le_refl _) _
  have B5 := Lib.hid (show Box V5 w5.heap.size S2 A5 by rw [hV]; exact Box.new w5 S2 A5 27)
  rw [← hV]
  clear hV
  replace BS := Lib.hid (BS.out.below hba)
  replace PS := Lib.hid (PS.out.below hba)
  replace PQ := Lib.hid (PQ.out.below hba)
  replace HA := Lib.hid (HA.out.below hba)
  replace TB := Lib.hid (TB.out.below hba)
  replace O1 := Lib.hid (O1.out.below hba)
  replace B1 := Lib.hid (B1.out.below hba)
  replace O2 := Lib.hid (O2.out.below hba)
  replace F2 := Lib.hid (F2.out.below hba)
  replace B2 := Lib.hid (B2.out.below hba)
  replace O3 := Lib.hid (O3.out.below hba)
  replace F3 := Lib.hid (F3.out.below hba)
  replace B3 := Lib.hid (B3.out.below hba)
  replace O4 := Lib.hid (O4.out.below hba)
  replace F4 := Lib.hid (F4.out.below hba)
  replace B4 := Lib.hid (B4.out.below hba)
  replace O5 := Lib.hid (O5.out.below hba)
  replace F5 := Lib.hid (F5.out.below hba)
  replace BB := Lib.hid (BB.out.trans (hba.mono BB.out.size))
  replace m2 := Nat.le_trans m2 hba.size
  replace mm2 := Nat.le_trans mm2 hba.size
  replace m3 := Nat.le_trans m3 hba.size
  replace mm3 := Nat.le_trans mm3 hba.size
  replace m4 := Nat.le_trans m4 hba.size
  replace mm4 := Nat.le_trans mm4 hba.size
  replace m5 := Nat.le_trans m5 hba.size
  replace mm5 := Nat.le_trans mm5 hba.size
  replace BV := Lib.hid (BV.out.trans (hba.mono BV.out.size))
  clear hba
  clear PS PQ HA O1 TB
  have k1 : (E1 == E1) = true := by simp
  have k2 : (E2 == E2) = true := by simp
  obtain ⟨_, p0, p1, p2, p3, p4, p5, _⟩ := B2.out
  obtain ⟨_, q0, q1, q2, q3, q4, q5, _⟩ := B3.out
  go_wp2_with fail
  refine (r4Same S1 S1 A2 A3 _ O2.out.held O3.out.held sh1.out sh1.out).mono ?_
  rintro e U0 ⟨rfl, hb⟩
  rw [same_self]
  replace BS := Lib.hid (BS.out.below hb)
  replace B1 := Lib.hid (B1.out.below hb)
  replace O2 := Lib.hid (O2.out.below hb)
  replace F2 := Lib.hid (F2.out.below hb)
  replace B2 := Lib.hid (B2.out.below hb)
  replace O3 := Lib.hid (O3.out.below hb)
  replace F3 := Lib.hid (F3.out.below hb)
  replace B3 := Lib.hid (B3.out.below hb)
  replace O4 := Lib.hid (O4.out.below hb)
  replace F4 := Lib.hid (F4.out.below hb)
  replace B4 := Lib.hid (B4.out.below hb)
  replace O5 := Lib.hid (O5.out.below hb)
  replace F5 := Lib.hid (F5.out.below hb)
  replace B5 := Lib.hid (B5.out.below hb)
  replace BB := Lib.hid (BB.out.trans (hb.mono BB.out.size))
  replace m2 := Nat.le_trans m2 hb.size
  replace mm2 := Nat.le_trans mm2 hb.size
  replace m3 := Nat.le_trans m3 hb.size
  replace mm3 := Nat.le_trans mm3 hb.size
  replace m4 := Nat.le_trans m4 hb.size
  replace mm4 := Nat.le_trans mm4 hb.size
  replace m5 := Nat.le_trans m5 hb.size
  replace mm5 := Nat.le_trans mm5 hb.size
  replace BV := Lib.hid (BV.out.trans (hb.mono BV.out.size))
  clear hb p0 p1 p2 p3 p4 p5 q0 q1 q2 q3 q4 q5
  obtain ⟨_, p0, p1, p2, p3, p4, p5, _⟩ := B4.out
  obtain ⟨_, q0, q1, q2, q3, q4, q5, _⟩ := B5.out
  go_wp2_with fail
  refine (r4Same S2 S2 A4 A5 _ O4.out.held O5.out.held sh2.out sh2.out).mono ?_
  rintro e U1 ⟨rfl, hb⟩
  rw [same_self]
  replace BS := Lib.hid (BS.out.below hb)
  replace B1 := Lib.hid (B1.out.below hb)
  replace O2 := Lib.hid (O2.out.below hb)
  replace F2 := Lib.hid (F2.out.below hb)
  replace B2 := Lib.hid (B2.out.below hb)
  replace O3 := Lib.hid (O3.out.below hb)
  replace F3 := Lib.hid (F3.out.below hb)
  replace B3 := Lib.hid (B3.out.below hb)
  replace O4 := Lib.hid (O4.out.below hb)
  replace F4 := Lib.hid (F4.out.below hb)
  replace B4 := Lib.hid (B4.out.below hb)
  replace O5 := Lib.hid (O5.out.below hb)
  replace F5 := Lib.hid (F5.out.below hb)
  replace B5 := Lib.hid (B5.out.below hb)
  replace BB := Lib.hid (BB.out.trans (hb.mono BB.out.size))
  replace m2 := Nat.le_trans m2 hb.size
  replace mm2 := Nat.le_trans mm2 hb.size
  replace m3 := Nat.le_trans m3 hb.size
  replace mm3 := Nat.le_trans mm3 hb.size
  replace m4 := Nat.le_trans m4 hb.size
  replace mm4 := Nat.le_trans mm4 hb.size
  replace m5 := Nat.le_trans m5 hb.size
  replace mm5 := Nat.le_trans mm5 hb.size
  replace BV := Lib.hid (BV.out.trans (hb.mono BV.out.size))
  clear hb p0 p1 p2 p3 p4 p5 q0 q1 q2 q3 q4 q5
  go_upto_region 9 with (fail)
  have zW : W.heap.size ≤ V1.heap.size := by have := BV.out.size; have := HSV.out.lt; omega
  clear O2
  clear O3
  clear B3
  clear O4
  clear O5
  clear B5
  clear F3
  clear F5
  clear BS
  clear B1
  obtain ⟨_, p0, p1, p2, p3, p4, p5, _⟩ := B2.out
  go_wp2_with fail
  refine (l8Spoil S1 A2 _ _ _ F2.out m2 sh1.out).mono ?_
  rintro e T0 ⟨rfl, sp⟩
  clear p0 p1 p2 p3 p4 p5
  replace BB := Lib.hid (BB.out.trans (sp.1.mono (by omega)))
  replace BV := Lib.hid (BV.out.trans (sp.1.mono (by omega)))
  replace B4 := Lib.hid (B4.out.of_heap (sp.2.2 _ u24 B4.out.lt) sp.1.size)
  replace F4 := Lib.hid (F4.out.keep sp.2.1)
  replace m4 := Nat.le_trans m4 sp.1.size
  clear sp
  obtain ⟨_, p0, p1, p2, p3, p4, p5, _⟩ := B4.out
  go_wp2_with fail
  refine (l8Spoil S2 A4 _ _ _ F4.out m4 sh2.out).mono ?_
  rintro e T1 ⟨rfl, sp⟩
  clear p0 p1 p2 p3 p4 p5
  replace BB := Lib.hid (BB.out.trans (sp.1.mono (by omega)))
  replace BV := Lib.hid (BV.out.trans (sp.1.mono (by omega)))
  clear sp
  have BSx := HSV.out.below BV.out
  have B1x := HBV.out.below BV.out
  have HAx := Lib.hid (HA0.out.below BB.out)
  have HOx := Lib.hid (HOV.out.below BV.out)
  obtain ⟨_, p0, p1, p2, p3, p4, p5, _⟩ := BSx
  obtain ⟨_, q0, q1, q2, q3, q4, q5, _⟩ := B1x
  go_wp2_with fail
  refine (r4Same s s A1 a _ HOx.out HAx.out HSh.out HSh.out).mono ?_
  rintro e Z9 ⟨rfl, hb⟩
  rw [same_self]
  go_wp2
  go_ret
  exact ⟨rfl, BB.out.trans (hb.mono BB.out.size)⟩
theorem walk (s : Sl) (a : Ads) (t0 t1 k x1 x2 : Int) (W : World) (h : Held W s a) (hok : s.Ok) (hT : Tab W) (i0 : In64 t0) (i1 : In64 t1) (ik : In64 k) (ix : In64 x1) (iy : In64 x2) :
    Calls Tryd.prog 4 #[slv s a, .agg #[.int .i64 t0, .int .i64 t1], .int .i64 k, pv (x1, x2)] W fun e w' => e = .returned (.bool true) ∧ Below W.heap.size W w' := by
  cases hg : s.greatB 300
  · refine full s a t0 t1 k x1 x2 W h hok ?_ hg hT i0 i1 ik ix iy
    unfold Sl.greatB at hg
    simp only [Bool.or_eq_false_iff, decide_eq_false_iff_not] at hg
    exact ⟨by omega, by omega, by omega, by omega⟩
  · have HG := Lib.hid hg
    have BB0 := Lib.hid (fun o o' o'' => (((Below.refl W.heap.size W).alloc (Nat.le_refl _) o).alloc (by simp) o').alloc (by simp; omega) o'')
    clear h hok hg hT
    unfold slv pv
    go_enter Tryd.func4, Tryd.ntmps4
    go_wp2_with fail
    refine (r4Great s a 300 _).mono ?_
    rintro e w0 ⟨rfl, hb⟩
    rw [HG.out]
    go_wp2
    go_ret
    exact ⟨rfl, (BB0.out _ _ _).trans (hb.mono (by simp; omega))⟩
end Go.Proofs.YtmmkaabefofdeaaDoor.layTells
