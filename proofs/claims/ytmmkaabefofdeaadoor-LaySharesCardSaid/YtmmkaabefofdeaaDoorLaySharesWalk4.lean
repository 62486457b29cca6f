/- The walk of the law LayShares: each of equal parts of a part that is spread has its share of the pairs. -/
import Derived.Test.YtmmkaabefofdeaaDoorLaw084
import Derived.Test.YtmmkaabefofdeaaDoorPlain8c4
import Derived.Test.YtmmkaabefofdeaaDoorM10
import Derived.Test.YtmmkaabefofdeaaDoorM19
import Derived.Test.YtmmkaabefofdeaaDoorSpread4
namespace Go.Proofs.YtmmkaabefofdeaaDoor.layShares
open Go.RowKit
set_option linter.unusedVariables false
set_option linter.unusedSimpArgs false
set_option maxRecDepth 100000 in
set_option maxHeartbeats 2000000 in
theorem great (s : Sl) (a : Ads) (t0 t1 p k : Int) (W : World) (h : Held W s a) (hok : s.Ok) (hT : Tab W) (i0 : In64 t0) (i1 : In64 t1) (ip : In64 p) (ik : In64 k) (hg : s.greatB 300 = true) :
    Calls Tryd.prog 7 #[slv s a, .agg #[.int .i64 t0, .int .i64 t1], .int .i64 p, .int .i64 k] W fun e w' => e = .returned (.bool true) ∧ Below W.heap.size W w' := by
  have HG := Lib.hid hg
  have HA0 := Lib.hid h
  have TB0 := Lib.hid hT
  have BS0 := Lib.hid (fun o => (Box.new W s a 27).below ((Below.refl _ _).alloc (Nat.le_refl _) o))
  have PS0 := Lib.hid (fun o => PBox.second W o (t0, t1) 39)
  have BB0 := Lib.hid (fun o o' => ((Below.refl W.heap.size W).alloc (Nat.le_refl _) o).alloc (by simp) o')
  have CA := Lib.hid (fun o o' => lAlive ((W.alloc o).alloc o') (hT.below (BB0.out o o')))
  clear h hok hT hg
  unfold slv
  go_enter Tryd.func7, Tryd.ntmps7
  go_wp2_with fail
  refine (CA.out _ _).mono ?_
  rintro e w0 ⟨rfl, hb⟩
  have BB := Lib.hid ((BB0.out _ _).trans (hb.mono (by simp; omega)))
  have BS := Lib.hid ((BS0.out _).below hb)
  have PS := Lib.hid ((PS0.out _).below hb)
  clear hb BB0 BS0 PS0 CA
  obtain ⟨_, p0, p1, p2, p3, p4, p5, _⟩ := BS.out
  go_wp2_with fail
  refine (r4Great s a 300 _).mono ?_
  rintro e w1 ⟨rfl, hb⟩
  rw [HG.out]
  replace BB := Lib.hid (BB.out.trans (hb.mono BB.out.size))
  replace BS := Lib.hid (BS.out.below hb)
  replace PS := Lib.hid (PS.out.below hb)
  clear hb p0 p1 p2 p3 p4 p5
  go_wp2
  go_ret
  exact ⟨rfl, BB.out⟩
set_option maxRecDepth 100000 in
set_option maxHeartbeats 4000000 in
theorem no (s : Sl) (a : Ads) (t0 t1 p k : Int) (W : World) (h : Held W s a) (hok : s.Ok) (hs : s.Short) (hT : Tab W) (i0 : In64 t0) (i1 : In64 t1) (ip : In64 p) (ik : In64 k) (hg : s.greatB 300 = false) (hE : s.pairsE t0 t1 ≠ 0) :
    Calls Tryd.prog 7 #[slv s a, .agg #[.int .i64 t0, .int .i64 t1], .int .i64 p, .int .i64 k] W fun e w' => e = .returned (.bool true) ∧ Below W.heap.size W w' := by
  have HG := Lib.hid hg
  have HA0 := Lib.hid h
  have TB0 := Lib.hid hT
  have BS0 := Lib.hid (fun o => (Box.new W s a 27).below ((Below.refl _ _).alloc (Nat.le_refl _) o))
  have PS0 := Lib.hid (fun o => PBox.second W o (t0, t1) 39)
  have BB0 := Lib.hid (fun o o' => ((Below.refl W.heap.size W).alloc (Nat.le_refl _) o).alloc (by simp) o')
  have CA := Lib.hid (fun o o' => lAlive ((W.alloc o).alloc o') (hT.below (BB0.out o o')))
  have CE := Lib.hid (show ∀ A V, Held V s A → Tab V → Calls Tryd.prog 11 #[slv s A, .int .i64 t0, .int .i64 t1] V (Ans (Ly.evenS s t0 t1) (s.pairsE t0 t1) V) from fun A V hv tv => yEven s A t0 t1 V hv hok hs tv i0 i1)
  have CP := Lib.hid (show ∀ A V, Held V s A → Tab V → Calls Tryd.prog 23 #[slv s A, .int .i64 t0, .int .i64 t1] V (POwn2 (s.pairsV t0 t1) (s.pairsE t0 t1) V) from fun A V hv tv => cPairs s A t0 t1 V hv hok hs tv)
  obtain ⟨E1, hE1⟩ : ∃ E, E = s.pairsE t0 t1 := ⟨_, rfl⟩
  obtain ⟨S1, hS1⟩ : ∃ S, S = Ly.evenS s t0 t1 := ⟨_, rfl⟩
  obtain ⟨L1, hL1⟩ : ∃ S, S = s.pairsV t0 t1 := ⟨_, rfl⟩
  have l1 : (S1.keys.length : Int) = 0 := by rw [hS1, Ly.even_no hE]; rfl
  have KL := Lib.hid l1
  rw [← hE1] at hE CE CP
  rw [← hS1] at CE
  rw [← hL1] at CP
  have k1 : (E1 != 0) = true := by simp [hE]
  clear h hok hs hT hg hE hE1 hS1 hL1 l1
  unfold slv at CE CP
  unfold slv
  go_enter Tryd.func7, Tryd.ntmps7
  go_wp2_with fail
  refine (CA.out _ _).mono ?_
  rintro e w0 ⟨rfl, hb⟩
  have BB := Lib.hid ((BB0.out _ _).trans (hb.mono (by simp; omega)))
  have BS := Lib.hid ((BS0.out _).below hb)
  have PS := Lib.hid ((PS0.out _).below hb)
  clear hb BB0 BS0 PS0 CA
  obtain ⟨_, p0, p1, p2, p3, p4, p5, _⟩ := BS.out
  go_wp2_with fail
  refine (r4Great s a 300 _).mono ?_
  rintro e w1 ⟨rfl, hb⟩
  rw [HG.out]
  replace BB := Lib.hid (BB.out.trans (hb.mono BB.out.size))
  replace BS := Lib.hid (BS.out.below hb)
  replace PS := Lib.hid (PS.out.below hb)
  clear hb p0 p1 p2 p3 p4 p5
  obtain ⟨_, p0, p1, p2, p3, p4, p5, _⟩ := BS.out
  have d0 := PS.out.c0
  have d1 := PS.out.c1
  try dsimp only at d0 d1
  go_wp2_with fail
  refine (CE.out a _ (HA0.out.below BB.out) (TB0.out.below BB.out)).mono ?_
  rintro e w2 ⟨A1, rfl, own, hb⟩
  have O1 := Lib.hid own.held
  replace BB := Lib.hid (BB.out.trans (hb.mono BB.out.size))
  replace BS := Lib.hid (BS.out.below hb)
  replace PS := Lib.hid (PS.out.below hb)
  clear hb own p0 p1 p2 p3 p4 p5 d0 d1
  unfold slv
  go_upto_region 5 with (fail)
  obtain ⟨V1, hV⟩ : ∃ V, V = w2.alloc (.cells #[.int .i64 S1.seg, .slice A1.w S1.words.length A1.cw, .slice A1.k S1.keys.length A1.ck, .slice A1.v S1.vals.length A1.cv, .slice A1.c S1.counts.length A1.cc, .int .u64 (S1.laid : Int)] 27) := ⟨_, rfl⟩
  have hba : Below w2.heap.size w2 V1 := by rw [hV]; exact (Below.refl _ _).alloc (Nat.le_refl _) _
  have B1 := Lib.hid (show Box V1 w2.heap.size S1 A1 by rw [hV]; exact Box.new w2 S1 A1 27)
  first | rw [← hV] | skip
  replace BB := Lib.hid (BB.out.trans (hba.mono BB.out.size))
  replace BS := Lib.hid (BS.out.below hba)
  replace PS := Lib.hid (PS.out.below hba)
  replace O1 := Lib.hid (O1.out.below hba)
  clear hV hba
  obtain ⟨_, p0, p1, p2, p3, p4, p5, _⟩ := BS.out
  have d0 := PS.out.c0
  have d1 := PS.out.c1
  try dsimp only at d0 d1
  go_wp2_with fail
  refine (CP.out a _ (HA0.out.below BB.out) (TB0.out.below BB.out)).mono ?_
  rintro e w3 ⟨v, rfl, hrow, hb⟩
  replace BB := Lib.hid (BB.out.trans (hb.mono BB.out.size))
  replace BS := Lib.hid (BS.out.below hb)
  replace PS := Lib.hid (PS.out.below hb)
  replace O1 := Lib.hid (O1.out.below hb)
  replace B1 := Lib.hid (B1.out.below hb)
  clear p0 p1 p2 p3 p4 p5 d0 d1
  clear hrow hb
  obtain ⟨_, p0, p1, p2, p3, p4, p5, _⟩ := B1.out
  rw [show S1.keys.length = 0 from by have := KL.out; omega] at p2
  go_wp2
  go_ret
  exact ⟨rfl, BB.out⟩
theorem pairs_short {s : Sl} (hs : s.Short) (a b : Int) : (s.pairsV a b).length ≤ 65536 := by
  by_cases h : s.pairsE a b = 0
  · obtain ⟨_, x, y, rfl, rfl, h1, h2⟩ := Ly.pairs_parts h
    rw [Ly.pairsV_ok h]
    have := Ly.of_len s x y
    have := hs.keys
    omega
  · rw [Ly.pairsV_no h]; exact Nat.zero_le _
set_option maxRecDepth 100000 in
set_option maxHeartbeats 4000000 in
theorem bad (s : Sl) (a : Ads) (t0 t1 p k : Int) (W : World) (h : Held W s a) (hok : s.Ok) (hs : s.Short) (hT : Tab W) (i0 : In64 t0) (i1 : In64 t1) (ip : In64 p) (ik : In64 k) (hg : s.greatB 300 = false) (hE : s.pairsE t0 t1 = 0) (hq : Sp.partB (s.pairsV t0 t1).length t0 t1 p k = false) :
    Calls Tryd.prog 7 #[slv s a, .agg #[.int .i64 t0, .int .i64 t1], .int .i64 p, .int .i64 k] W fun e w' => e = .returned (.bool true) ∧ Below W.heap.size W w' := by
  have HG := Lib.hid hg
  have HA0 := Lib.hid h
  have TB0 := Lib.hid hT
  have BS0 := Lib.hid (fun o => (Box.new W s a 27).below ((Below.refl _ _).alloc (Nat.le_refl _) o))
  have PS0 := Lib.hid (fun o => PBox.second W o (t0, t1) 39)
  have BB0 := Lib.hid (fun o o' => ((Below.refl W.heap.size W).alloc (Nat.le_refl _) o).alloc (by simp) o')
  have CA := Lib.hid (fun o o' => lAlive ((W.alloc o).alloc o') (hT.below (BB0.out o o')))
  have CE := Lib.hid (show ∀ A V, Held V s A → Tab V → Calls Tryd.prog 11 #[slv s A, .int .i64 t0, .int .i64 t1] V (Ans (Ly.evenS s t0 t1) (s.pairsE t0 t1) V) from fun A V hv tv => yEven s A t0 t1 V hv hok hs tv i0 i1)
  have CP := Lib.hid (show ∀ A V, Held V s A → Tab V → Calls Tryd.prog 23 #[slv s A, .int .i64 t0, .int .i64 t1] V (POwn2 (s.pairsV t0 t1) (s.pairsE t0 t1) V) from fun A V hv tv => cPairs s A t0 t1 V hv hok hs tv)
  obtain ⟨S1, hS1⟩ : ∃ S, S = Ly.evenS s t0 t1 := ⟨_, rfl⟩
  obtain ⟨L1, hL1⟩ : ∃ S, S = s.pairsV t0 t1 := ⟨_, rfl⟩
  have hln : L1.length ≤ 65536 := by rw [hL1]; exact pairs_short hs t0 t1
  have CS := Lib.hid (fun V => sShare (L1.length : Int) t0 t1 p k V ⟨by omega, by omega⟩ i0 i1 ip ik)
  rw [← hL1] at hq
  obtain ⟨sv, se⟩ := Sp.part_no hq
  rw [sv, se] at CS
  rw [hE] at CE CP
  rw [← hS1] at CE
  rw [← hL1] at CP
  clear h hok hs hT hg hE hS1 hL1 hq sv se hln
  unfold slv at CE CP
  unfold slv
  go_enter Tryd.func7, Tryd.ntmps7
  go_wp2_with fail
  refine (CA.out _ _).mono ?_
  rintro e w0 ⟨rfl, hb⟩
  have BB := Lib.hid ((BB0.out _ _).trans (hb.mono (by simp; omega)))
  have BS := Lib.hid ((BS0.out _).below hb)
  have PS := Lib.hid ((PS0.out _).below hb)
  clear hb BB0 BS0 PS0 CA
  obtain ⟨_, p0, p1, p2, p3, p4, p5, _⟩ := BS.out
  go_wp2_with fail
  refine (r4Great s a 300 _).mono ?_
  rintro e w1 ⟨rfl, hb⟩
  rw [HG.out]
  replace BB := Lib.hid (BB.out.trans (hb.mono BB.out.size))
  replace BS := Lib.hid (BS.out.below hb)
  replace PS := Lib.hid (PS.out.below hb)
  clear hb p0 p1 p2 p3 p4 p5
  obtain ⟨_, p0, p1, p2, p3, p4, p5, _⟩ := BS.out
  have d0 := PS.out.c0
  have d1 := PS.out.c1
  try dsimp only at d0 d1
  go_wp2_with fail
  refine (CE.out a _ (HA0.out.below BB.out) (TB0.out.below BB.out)).mono ?_
  rintro e w2 ⟨A1, rfl, own, hb⟩
  have O1 := Lib.hid own.held
  replace BB := Lib.hid (BB.out.trans (hb.mono BB.out.size))
  replace BS := Lib.hid (BS.out.below hb)
  replace PS := Lib.hid (PS.out.below hb)
  clear hb own p0 p1 p2 p3 p4 p5 d0 d1
  unfold slv
  go_upto_region 5 with (fail)
  obtain ⟨V1, hV⟩ : ∃ V, V = w2.alloc (.cells #[.int .i64 S1.seg, .slice A1.w S1.words.length A1.cw, .slice A1.k S1.keys.length A1.ck, .slice A1.v S1.vals.length A1.cv, .slice A1.c S1.counts.length A1.cc, .int .u64 (S1.laid : Int)] 27) := ⟨_, rfl⟩
  have hba : Below w2.heap.size w2 V1 := by rw [hV]; exact (Below.refl _ _).alloc (Nat.le_refl _) _
  have B1 := Lib.hid (show Box V1 w2.heap.size S1 A1 by rw [hV]; exact Box.new w2 S1 A1 27)
  first | rw [← hV] | skip
  replace BB := Lib.hid (BB.out.trans (hba.mono BB.out.size))
  replace BS := Lib.hid (BS.out.below hba)
  replace PS := Lib.hid (PS.out.below hba)
  replace O1 := Lib.hid (O1.out.below hba)
  clear hV hba
  obtain ⟨_, p0, p1, p2, p3, p4, p5, _⟩ := BS.out
  have d0 := PS.out.c0
  have d1 := PS.out.c1
  try dsimp only at d0 d1
  go_wp2_with fail
  refine (CP.out a _ (HA0.out.below BB.out) (TB0.out.below BB.out)).mono ?_
  rintro e w3 ⟨v, rfl, hrow, hb⟩
  replace BB := Lib.hid (BB.out.trans (hb.mono BB.out.size))
  replace BS := Lib.hid (BS.out.below hb)
  replace PS := Lib.hid (PS.out.below hb)
  replace O1 := Lib.hid (O1.out.below hb)
  replace B1 := Lib.hid (B1.out.below hb)
  clear p0 p1 p2 p3 p4 p5 d0 d1
  obtain ⟨AL, cL, rfl, _⟩ := prow_list hrow
  clear hrow hb
  have d0 := PS.out.c0
  have d1 := PS.out.c1
  try dsimp only at d0 d1
  go_wp2_with fail
  refine (CS.out _).mono ?_
  rintro e w4 ⟨rfl, hb⟩
  replace BB := Lib.hid (BB.out.trans (hb.mono BB.out.size))
  replace BS := Lib.hid (BS.out.below hb)
  replace PS := Lib.hid (PS.out.below hb)
  replace O1 := Lib.hid (O1.out.below hb)
  replace B1 := Lib.hid (B1.out.below hb)
  clear hb d0 d1
  go_wp2
  go_ret
  exact ⟨rfl, BB.out⟩
set_option maxRecDepth 100000 in
set_option maxHeartbeats 4000000 in
theorem good (s : Sl) (a : Ads) (t0 t1 p k : Int) (W : World) (h : Held W s a) (hok : s.Ok) (hs : s.Short) (hT : Tab W) (i0 : In64 t0) (i1 : In64 t1) (ip : In64 p) (ik : In64 k) (hg : s.greatB 300 = false) (hE : s.pairsE t0 t1 = 0) (hq : Sp.partB (s.pairsV t0 t1).length t0 t1 p k = true) :
    Calls Tryd.prog 7 #[slv s a, .agg #[.int .i64 t0, .int .i64 t1], .int .i64 p, .int .i64 k] W fun e w' => e = .returned (.bool true) ∧ Below W.heap.size W w' := by
  have HG := Lib.hid hg
  obtain ⟨cE, cV⟩ := Ly.shares hok hs hE hq
  have FN := Lib.hid (even_fine hok hs t0 t1)
  have HA0 := Lib.hid h
  have TB0 := Lib.hid hT
  have BS0 := Lib.hid (fun o => (Box.new W s a 27).below ((Below.refl _ _).alloc (Nat.le_refl _) o))
  have PS0 := Lib.hid (fun o => PBox.second W o (t0, t1) 39)
  have BB0 := Lib.hid (fun o o' => ((Below.refl W.heap.size W).alloc (Nat.le_refl _) o).alloc (by simp) o')
  have CA := Lib.hid (fun o o' => lAlive ((W.alloc o).alloc o') (hT.below (BB0.out o o')))
  have CE := Lib.hid (show ∀ A V, Held V s A → Tab V → Calls Tryd.prog 11 #[slv s A, .int .i64 t0, .int .i64 t1] V (Ans (Ly.evenS s t0 t1) (s.pairsE t0 t1) V) from fun A V hv tv => yEven s A t0 t1 V hv hok hs tv i0 i1)
  have CP := Lib.hid (show ∀ A V, Held V s A → Tab V → Calls Tryd.prog 23 #[slv s A, .int .i64 t0, .int .i64 t1] V (POwn2 (s.pairsV t0 t1) (s.pairsE t0 t1) V) from fun A V hv tv => cPairs s A t0 t1 V hv hok hs tv)
  obtain ⟨S1, hS1⟩ : ∃ S, S = Ly.evenS s t0 t1 := ⟨_, rfl⟩
  obtain ⟨L1, hL1⟩ : ∃ S, S = s.pairsV t0 t1 := ⟨_, rfl⟩
  have hln : L1.length ≤ 65536 := by rw [hL1]; exact pairs_short hs t0 t1
  have CS := Lib.hid (fun V => sShare (L1.length : Int) t0 t1 p k V ⟨by omega, by omega⟩ i0 i1 ip ik)
  rw [← hL1] at hq cV
  rw [← hS1] at cE cV FN
  obtain ⟨sv, se⟩ := Sp.part_yes hq
  rw [se] at CS
  obtain ⟨hm, q1, q2, q3, q4⟩ := Sp.part_in hq
  obtain ⟨m1, m2, m3, m4, m5⟩ := Sp.may_in hm
  obtain ⟨w1, w2⟩ := Sp.part_w hq
  obtain ⟨V, hVV⟩ : ∃ V, V = Sp.shareV (L1.length : Int) t0 t1 p k := ⟨_, rfl⟩
  rw [← hVV] at CS cV
  have hdv : (t1 - t0).tdiv p = (t1 - t0) / p := Int.tdiv_eq_ediv_of_nonneg (by omega)
  obtain ⟨D, hD⟩ : ∃ D, D = (t1 - t0) / p := ⟨_, rfl⟩
  rw [← hD] at w1 w2 cE cV hdv
  have b1 : 0 ≤ k * D := Int.mul_nonneg q3 w2
  have b2 : (k + 1) * D = k * D + D := by rw [Int.add_mul, Int.one_mul]
  have b3 : (k + 1) * D ≤ p * D := Int.mul_le_mul_of_nonneg_right (show k + 1 ≤ p by omega) w2
  rw [w1] at b3
  have k5 : IntKind.i64.wrap (t1 - t0) = t1 - t0 := IntWalk.i64_in _ (by omega)
  have k6 : IntKind.i64.wrap ((t1 - t0).tdiv p) = D := by rw [hdv]; exact IntWalk.i64_in _ (by omega)
  have j1 : decide (p < 1) = false := by simp; omega
  have j2 : decide (k < 0) = false := by simp; omega
  have j3 : decide (k ≥ p) = false := by simp; omega
  have j4 : ¬ p = 0 := by omega
  obtain ⟨K1, hK1⟩ : ∃ M, M = k + 1 := ⟨_, rfl⟩
  have k9 : IntKind.i64.wrap (k + 1) = K1 := by rw [hK1]; exact IntWalk.i64_in _ (by unfold In64 at ip; omega)
  rw [← hK1] at cE cV b2 b3
  obtain ⟨M1, hM1⟩ : ∃ M, M = k * D := ⟨_, rfl⟩
  have k7 : IntKind.i64.wrap (k * D) = M1 := by rw [hM1]; exact IntWalk.i64_in _ (by omega)
  rw [← hM1] at cE cV b1 b2
  obtain ⟨M2, hM2⟩ : ∃ M, M = K1 * D := ⟨_, rfl⟩
  have k10 : IntKind.i64.wrap (K1 * D) = M2 := by rw [hM2]; exact IntWalk.i64_in _ (by omega)
  rw [← hM2] at cE cV b2 b3
  obtain ⟨P, hP⟩ : ∃ P, P = t0 + M1 := ⟨_, rfl⟩
  have k8 : IntKind.i64.wrap (t0 + M1) = P := by rw [hP]; exact IntWalk.i64_in _ (by omega)
  obtain ⟨Q, hQ⟩ : ∃ P, P = t0 + M2 := ⟨_, rfl⟩
  have k11 : IntKind.i64.wrap (t0 + M2) = Q := by rw [hQ]; exact IntWalk.i64_in _ (by omega)
  rw [← hP, ← hQ] at cE cV
  rw [hE] at CE CP
  rw [← hS1] at CE
  rw [← hL1] at CP
  have CC := Lib.hid (show ∀ A V', Held V' S1 A → Calls Tryd.prog 25 #[.slice A.w S1.words.length A.cw, .int .i64 (S1.keys.length : Int), .int .i64 P, .int .i64 Q] V' (fun e w' => e = .returned (.tuple #[.int .i64 V, .int .i64 0]) ∧ Below V'.heap.size V' w') from fun A V' hv => by
    have := oCount A.w A.cw S1.words (S1.keys.length : Int) P Q V' hv.words FN.out.ok.words FN.out.short.words
    rwa [cE, cV] at this)
  have j5 : (V == V) = true := by simp
  clear h hok hs hT hg hE hS1 hL1 hq sv se hln hm q1 q2 q3 q4 m1 m2 m3 m4 m5 w1 w2 hVV hdv hD b1 b2 b3 hK1 hM1 hM2 hP hQ cE cV FN
  unfold slv at CE CP
  unfold slv
  go_enter Tryd.func7, Tryd.ntmps7
  go_wp2_with fail
  refine (CA.out _ _).mono ?_
  rintro e w0 ⟨rfl, hb⟩
  have BB := Lib.hid ((BB0.out _ _).trans (hb.mono (by simp; omega)))
  have BS := Lib.hid ((BS0.out _).below hb)
  have PS := Lib.hid ((PS0.out _).below hb)
  clear hb BB0 BS0 PS0 CA
  obtain ⟨_, p0, p1, p2, p3, p4, p5, _⟩ := BS.out
  go_wp2_with fail
  refine (r4Great s a 300 _).mono ?_
  rintro e w1 ⟨rfl, hb⟩
  rw [HG.out]
  replace BB := Lib.hid (BB.out.trans (hb.mono BB.out.size))
  replace BS := Lib.hid (BS.out.below hb)
  replace PS := Lib.hid (PS.out.below hb)
  clear hb p0 p1 p2 p3 p4 p5
  obtain ⟨_, p0, p1, p2, p3, p4, p5, _⟩ := BS.out
  have d0 := PS.out.c0
  have d1 := PS.out.c1
  try dsimp only at d0 d1
  go_wp2_with fail
  refine (CE.out a _ (HA0.out.below BB.out) (TB0.out.below BB.out)).mono ?_
  rintro e w2 ⟨A1, rfl, own, hb⟩
  have O1 := Lib.hid own.held
  replace BB := Lib.hid (BB.out.trans (hb.mono BB.out.size))
  replace BS := Lib.hid (BS.out.below hb)
  replace PS := Lib.hid (PS.out.below hb)
  clear hb own p0 p1 p2 p3 p4 p5 d0 d1
  unfold slv
  go_upto_region 5 with (fail)
  obtain ⟨V1, hV⟩ : ∃ V, V = w2.alloc (.cells #[.int .i64 S1.seg, .slice A1.w S1.words.length A1.cw, .slice A1.k S1.keys.length A1.ck, .slice A1.v S1.vals.length A1.cv, .slice A1.c S1.counts.length A1.cc, .int .u64 (S1.laid : Int)] 27) := ⟨_, rfl⟩
  have hba : Below w2.heap.size w2 V1 := by rw [hV]; exact (Below.refl _ _).alloc (Nat.le_refl _) _
  have B1 := Lib.hid (show Box V1 w2.heap.size S1 A1 by rw [hV]; exact Box.new w2 S1 A1 27)
  first | rw [← hV] | skip
  replace BB := Lib.hid (BB.out.trans (hba.mono BB.out.size))
  replace BS := Lib.hid (BS.out.below hba)
  replace PS := Lib.hid (PS.out.below hba)
  replace O1 := Lib.hid (O1.out.below hba)
  clear hV hba
  obtain ⟨_, p0, p1, p2, p3, p4, p5, _⟩ := BS.out
  have d0 := PS.out.c0
  have d1 := PS.out.c1
  try dsimp only at d0 d1
  go_wp2_with fail
  refine (CP.out a _ (HA0.out.below BB.out) (TB0.out.below BB.out)).mono ?_
  rintro e w3 ⟨v, rfl, hrow, hb⟩
  replace BB := Lib.hid (BB.out.trans (hb.mono BB.out.size))
  replace BS := Lib.hid (BS.out.below hb)
  replace PS := Lib.hid (PS.out.below hb)
  replace O1 := Lib.hid (O1.out.below hb)
  replace B1 := Lib.hid (B1.out.below hb)
  clear p0 p1 p2 p3 p4 p5 d0 d1
  obtain ⟨AL, cL, rfl, _⟩ := prow_list hrow
  clear hrow hb
  have d0 := PS.out.c0
  have d1 := PS.out.c1
  try dsimp only at d0 d1
  go_wp2_with fail
  refine (CS.out _).mono ?_
  rintro e w4 ⟨rfl, hb⟩
  replace BB := Lib.hid (BB.out.trans (hb.mono BB.out.size))
  replace BS := Lib.hid (BS.out.below hb)
  replace PS := Lib.hid (PS.out.below hb)
  replace O1 := Lib.hid (O1.out.below hb)
  replace B1 := Lib.hid (B1.out.below hb)
  clear hb d0 d1
  obtain ⟨_, p0, p1, p2, p3, p4, p5, _⟩ := B1.out
  have d0 := PS.out.c0
  have d1 := PS.out.c1
  try dsimp only at d0 d1
  go_wp2_with fail
  refine (CC.out A1 _ O1.out).mono ?_
  rintro e w5 ⟨rfl, hb⟩
  replace BB := Lib.hid (BB.out.trans (hb.mono BB.out.size))
  clear hb p0 p1 p2 p3 p4 p5 d0 d1
  go_wp2
  go_ret
  exact ⟨rfl, BB.out⟩
theorem walk (s : Sl) (a : Ads) (t0 t1 p k : Int) (W : World) (h : Held W s a) (hok : s.Ok) (hT : Tab W) (i0 : In64 t0) (i1 : In64 t1) (ip : In64 p) (ik : In64 k) :
    Calls Tryd.prog 7 #[slv s a, .agg #[.int .i64 t0, .int .i64 t1], .int .i64 p, .int .i64 k] W fun e w' => e = .returned (.bool true) ∧ Below W.heap.size W w' := by
  cases hg : s.greatB 300
  · have hs : s.Short := by
      unfold Sl.greatB at hg
      simp only [Bool.or_eq_false_iff, decide_eq_false_iff_not] at hg
      exact ⟨by omega, by omega, by omega, by omega⟩
    by_cases hE : s.pairsE t0 t1 = 0
    · cases hq : Sp.partB (s.pairsV t0 t1).length t0 t1 p k
      · exact bad s a t0 t1 p k W h hok hs hT i0 i1 ip ik hg hE hq
      · exact good s a t0 t1 p k W h hok hs hT i0 i1 ip ik hg hE hq
    · exact no s a t0 t1 p k W h hok hs hT i0 i1 ip ik hg hE
  · exact great s a t0 t1 p k W h hok hT i0 i1 ip ik hg
end Go.Proofs.YtmmkaabefofdeaaDoor.layShares
