/- The walk of the law LaySame: a part that is spread is so again, but for the ledger; pairs spread over another size are just these. -/
import Derived.Test.YtmmkaabefofdeaaDoorLaw084
import Derived.Test.YtmmkaabefofdeaaDoorPlain8c4
import Derived.Test.YtmmkaabefofdeaaDoorM19
import Derived.Test.YtmmkaabefofdeaaDoorM14
import Derived.Test.YtmmkaabefofdeaaDoorM03
namespace Go.Proofs.YtmmkaabefofdeaaDoor.laySame
open Go.RowKit
set_option linter.unusedVariables false
set_option linter.unusedSimpArgs false

theorem wrap_add (m n : Nat) : (((m + n) % 18446744073709551616 : Nat) : Int) = IntKind.u64.wrap ((m : Int) + (n : Int)) := by
  rw [IntKind.wrap_u64]; omega
set_option maxRecDepth 100000 in
set_option maxHeartbeats 6000000 in
theorem nearNN (s : Sl) (a : Ads) (t0 t1 size : Int) (pa : Option Addr) (pc : Nat) (ps : List (Int × Int)) (W : World) (h : Held W s a) (hok : s.Ok) (hs : s.Short) (hT : Tab W) (hp : PLst W pa ps) (i0 : In64 t0) (i1 : In64 t1) (iz : In64 size) (h64 : In64P ps) (hg : s.greatB 300 = false) (hn : ps.length ≤ 300) (hk : decide (size > 300) = false) (hE : s.pairsE t0 t1 ≠ 0) (hI : Ly.intoE s size ps.length ≠ 0) :
    Calls Tryd.prog 8 #[slv s a, .agg #[.int .i64 t0, .int .i64 t1], .int .i64 size, .slice pa ps.length pc] W fun e w' => e = .returned (.bool true) ∧ Below W.heap.size W w' := by
  have HG := Lib.hid hg
  have k2 := hk
  have k1 : decide ((ps.length : Int) > 300) = false := by simp; omega
  have HA0 := Lib.hid h
  have HP0 := Lib.hid hp
  have TB0 := Lib.hid hT
  have BS0 := Lib.hid (fun o => (Box.new W s a 27).below ((Below.refl _ _).alloc (Nat.le_refl _) o))
  have PS0 := Lib.hid (fun o => PBox.second W o (t0, t1) 39)
  have BB0 := Lib.hid (fun o o' => ((Below.refl W.heap.size W).alloc (Nat.le_refl _) o).alloc (by simp) o')
  have CA := Lib.hid (fun o o' => lAlive ((W.alloc o).alloc o') (hT.below (BB0.out o o')))
  have F1 := even_fine hok hs t0 t1
  have CE := Lib.hid (show ∀ A V, Held V s A → Tab V → Calls Tryd.prog 11 #[slv s A, .int .i64 t0, .int .i64 t1] V (Ans (Ly.evenS s t0 t1) (s.pairsE t0 t1) V) from fun A V hv tv => yEven s A t0 t1 V hv hok hs tv i0 i1)
  have CI := Lib.hid (show ∀ A PA PC V, Held V s A → Tab V → PLst V PA ps → Calls Tryd.prog 12 #[slv s A, .int .i64 size, .slice PA ps.length PC] V (Ans (Ly.intoS s size ps) (Ly.intoE s size ps.length) V) from fun A PA PC V hv tv h2 => yInto s A size PA PC ps V hv hok hs tv iz (by omega) h2 h64)
  obtain ⟨E1, hE1⟩ : ∃ E, E = s.pairsE t0 t1 := ⟨_, rfl⟩
  rw [← hE1] at hE CE
  have k5 : (E1 == 0) = false := by simp [hE]
  obtain ⟨S1, hS1⟩ : ∃ S, S = Ly.evenS s t0 t1 := ⟨_, rfl⟩
  rw [← hS1] at CE F1
  obtain ⟨E3, hE3⟩ : ∃ E, E = Ly.intoE s size ps.length := ⟨_, rfl⟩
  obtain ⟨S3, hS3⟩ : ∃ S, S = Ly.intoS s size ps := ⟨_, rfl⟩
  have l3 : (S3.keys.length : Int) = 0 := by rw [hS3, Ly.into_no hI]; rfl
  have KL := Lib.hid l3
  rw [← hE3] at hI CI
  rw [← hS3] at CI
  have k6 : (E3 != 0) = true := by simp [hI]
  clear h hok hs hT hp hg hk hE hI h64 hS1 F1 hE1 l3 hE3 hS3
  unfold slv at CE CI  
  unfold slv
  go_enter Tryd.func8, Tryd.ntmps8
  go_wp2_with fail
  refine (CA.out _ _).mono ?_
  rintro e w0 ⟨rfl, hb⟩
  have BB := Lib.hid ((BB0.out _ _).trans (hb.mono (by simp; omega)))
  have BS := Lib.hid ((BS0.out _).below hb)
  have PS := Lib.hid ((PS0.out _).below hb)
  clear hb BB0 BS0 PS0 CA
  obtain ⟨_, p0, p1, p2, p3, p4, p5, _⟩ := BS.out
  go_wp2_with fail
  refine (r4Great s a 300 _).mono ?_
  rintro e w1 ⟨rfl, hb⟩
  rw [HG.out]
  replace BB := Lib.hid (BB.out.trans (hb.mono BB.out.size))
  replace BS := Lib.hid (BS.out.below hb)
  replace PS := Lib.hid (PS.out.below hb)
  clear hb p0 p1 p2 p3 p4 p5
  obtain ⟨_, p0, p1, p2, p3, p4, p5, _⟩ := BS.out
  have d0 := PS.out.c0
  have d1 := PS.out.c1
  try dsimp only at d0 d1
  go_wp2_with fail
  refine (CE.out a _ (HA0.out.below BB.out) (TB0.out.below BB.out)).mono ?_
  rintro e w2 ⟨A1, rfl, own, hb⟩
  have O1 := Lib.hid own.held
  replace BB := Lib.hid (BB.out.trans (hb.mono BB.out.size))
  replace BS := Lib.hid (BS.out.below hb)
  replace PS := Lib.hid (PS.out.below hb)
  clear hb own p0 p1 p2 p3 p4 p5 d0 d1
  unfold slv
  go_upto_region 5 with (fail)
  obtain ⟨V1, hV⟩ : ∃ V, V = w2.alloc (.cells #[.int .i64 S1.seg, .slice A1.w S1.words.length A1.cw, .slice A1.k S1.keys.length A1.ck, .slice A1.v S1.vals.length A1.cv, .slice A1.c S1.counts.length A1.cc, .int .u64 (S1.laid : Int)] 27) := ⟨_, rfl⟩
  have hba : Below w2.heap.size w2 V1 := by rw [hV]; exact (Below.refl _ _).alloc (Nat.le_refl _) _
  have B1 := Lib.hid (show Box V1 w2.heap.size S1 A1 by rw [hV]; exact Box.new w2 S1 A1 27)
  first | rw [← hV] | skip
  replace BB := Lib.hid (BB.out.trans (hba.mono BB.out.size))
  replace BS := Lib.hid (BS.out.below hba)
  replace PS := Lib.hid (PS.out.below hba)
  replace O1 := Lib.hid (O1.out.below hba)
  clear hV hba
  clear O1 B1 PS
  obtain ⟨_, p0, p1, p2, p3, p4, p5, _⟩ := BS.out
  go_wp2_with fail
  refine (CI.out a pa pc _ (HA0.out.below BB.out) (TB0.out.below BB.out) (HP0.out.below BB.out)).mono ?_
  rintro e w5 ⟨A4, rfl, own, hb⟩
  have O4 := Lib.hid own.held
  replace BB := Lib.hid (BB.out.trans (hb.mono BB.out.size))
  replace BS := Lib.hid (BS.out.below hb)
  clear hb own p0 p1 p2 p3 p4 p5
  unfold slv
  go_upto_region 11 with (fail)
  obtain ⟨V4, hV⟩ : ∃ V, V = w5.alloc (.cells #[.int .i64 S3.seg, .slice A4.w S3.words.length A4.cw, .slice A4.k S3.keys.length A4.ck, .slice A4.v S3.vals.length A4.cv, .slice A4.c S3.counts.length A4.cc, .int .u64 (S3.laid : Int)] 27) := ⟨_, rfl⟩
  have hba : Below w5.heap.size w5 V4 := by rw [hV]; exact (Below.refl _ _).alloc (Nat.le_refl _) _
  have B4 := Lib.hid (show Box V4 w5.heap.size S3 A4 by rw [hV]; exact Box.new w5 S3 A4 27)
  first | rw [← hV] | skip
  replace BB := Lib.hid (BB.out.trans (hba.mono BB.out.size))
  replace BS := Lib.hid (BS.out.below hba)
  replace O4 := Lib.hid (O4.out.below hba)
  clear hV hba
  obtain ⟨_, p0, p1, p2, p3, p4, p5, _⟩ := B4.out
  rw [show S3.keys.length = 0 from by have := KL.out; omega] at p2
  go_wp2
  go_ret
  exact ⟨rfl, BB.out⟩
set_option maxRecDepth 100000 in
set_option maxHeartbeats 6000000 in
theorem nearNI (s : Sl) (a : Ads) (t0 t1 size : Int) (pa : Option Addr) (pc : Nat) (ps : List (Int × Int)) (W : World) (h : Held W s a) (hok : s.Ok) (hs : s.Short) (hT : Tab W) (hp : PLst W pa ps) (i0 : In64 t0) (i1 : In64 t1) (iz : In64 size) (h64 : In64P ps) (hg : s.greatB 300 = false) (hn : ps.length ≤ 300) (hk : decide (size > 300) = false) (hE : s.pairsE t0 t1 ≠ 0) (hI : Ly.intoE s size ps.length = 0) :
    Calls Tryd.prog 8 #[slv s a, .agg #[.int .i64 t0, .int .i64 t1], .int .i64 size, .slice pa ps.length pc] W fun e w' => e = .returned (.bool true) ∧ Below W.heap.size W w' := by
  have HG := Lib.hid hg
  have k2 := hk
  have k1 : decide ((ps.length : Int) > 300) = false := by simp; omega
  have HA0 := Lib.hid h
  have HP0 := Lib.hid hp
  have TB0 := Lib.hid hT
  have BS0 := Lib.hid (fun o => (Box.new W s a 27).below ((Below.refl _ _).alloc (Nat.le_refl _) o))
  have PS0 := Lib.hid (fun o => PBox.second W o (t0, t1) 39)
  have BB0 := Lib.hid (fun o o' => ((Below.refl W.heap.size W).alloc (Nat.le_refl _) o).alloc (by simp) o')
  have CA := Lib.hid (fun o o' => lAlive ((W.alloc o).alloc o') (hT.below (BB0.out o o')))
  have F1 := even_fine hok hs t0 t1
  have CE := Lib.hid (show ∀ A V, Held V s A → Tab V → Calls Tryd.prog 11 #[slv s A, .int .i64 t0, .int .i64 t1] V (Ans (Ly.evenS s t0 t1) (s.pairsE t0 t1) V) from fun A V hv tv => yEven s A t0 t1 V hv hok hs tv i0 i1)
  have CI := Lib.hid (show ∀ A PA PC V, Held V s A → Tab V → PLst V PA ps → Calls Tryd.prog 12 #[slv s A, .int .i64 size, .slice PA ps.length PC] V (Ans (Ly.intoS s size ps) (Ly.intoE s size ps.length) V) from fun A PA PC V hv tv h2 => yInto s A size PA PC ps V hv hok hs tv iz (by omega) h2 h64)
  obtain ⟨E1, hE1⟩ : ∃ E, E = s.pairsE t0 t1 := ⟨_, rfl⟩
  rw [← hE1] at hE CE
  have k5 : (E1 == 0) = false := by simp [hE]
  obtain ⟨S1, hS1⟩ : ∃ S, S = Ly.evenS s t0 t1 := ⟨_, rfl⟩
  rw [← hS1] at CE F1
  obtain ⟨z0, z1, z2, z3, z4⟩ := Ly.into_laid hok hI
  have F3 := into_fine hok hs size ps (by omega) h64
  have CP := Lib.hid (show ∀ A V, Held V (Ly.intoS s size ps) A → Tab V → Calls Tryd.prog 23 #[slv (Ly.intoS s size ps) A, .int .i64 0, .int .i64 size] V (POwn2 ((Ly.intoS s size ps).pairsV 0 size) ((Ly.intoS s size ps).pairsE 0 size) V) from fun A V hv tv => cPairs (Ly.intoS s size ps) A 0 size V hv F3.ok F3.short tv)
  rw [hI] at CI
  rw [z0, z1] at CP
  obtain ⟨S3, hS3⟩ : ∃ S, S = Ly.intoS s size ps := ⟨_, rfl⟩
  rw [← hS3] at CI CP z2 z3 z4
  have k6 : IntKind.u64.wrap (ps.length : Int) = (ps.length : Int) := IntWalk.u64_in _ (by omega)
  have k7 : ((S3.laid : Int) == IntKind.u64.wrap ((s.laid : Int) + (ps.length : Int))) = true := by rw [z2, wrap_add]; simp
  have k8 : (S3.seg == s.seg) = true := by rw [z3]; simp
  have k9 : ((S3.keys.length : Int) == size) = true := by rw [z4]; simp
  clear h hok hs hT hp hg hk hE hI h64 hS1 F1 hE1 z0 z1 z2 z3 z4 F3 hS3
  unfold slv at CE CI  CP
  unfold slv
  go_enter Tryd.func8, Tryd.ntmps8
  go_wp2_with fail
  refine (CA.out _ _).mono ?_
  rintro e w0 ⟨rfl, hb⟩
  have BB := Lib.hid ((BB0.out _ _).trans (hb.mono (by simp; omega)))
  have BS := Lib.hid ((BS0.out _).below hb)
  have PS := Lib.hid ((PS0.out _).below hb)
  clear hb BB0 BS0 PS0 CA
  obtain ⟨_, p0, p1, p2, p3, p4, p5, _⟩ := BS.out
  go_wp2_with fail
  refine (r4Great s a 300 _).mono ?_
  rintro e w1 ⟨rfl, hb⟩
  rw [HG.out]
  replace BB := Lib.hid (BB.out.trans (hb.mono BB.out.size))
  replace BS := Lib.hid (BS.out.below hb)
  replace PS := Lib.hid (PS.out.below hb)
  clear hb p0 p1 p2 p3 p4 p5
  obtain ⟨_, p0, p1, p2, p3, p4, p5, _⟩ := BS.out
  have d0 := PS.out.c0
  have d1 := PS.out.c1
  try dsimp only at d0 d1
  go_wp2_with fail
  refine (CE.out a _ (HA0.out.below BB.out) (TB0.out.below BB.out)).mono ?_
  rintro e w2 ⟨A1, rfl, own, hb⟩
  have O1 := Lib.hid own.held
  replace BB := Lib.hid (BB.out.trans (hb.mono BB.out.size))
  replace BS := Lib.hid (BS.out.below hb)
  replace PS := Lib.hid (PS.out.below hb)
  clear hb own p0 p1 p2 p3 p4 p5 d0 d1
  unfold slv
  go_upto_region 5 with (fail)
  obtain ⟨V1, hV⟩ : ∃ V, V = w2.alloc (.cells #[.int .i64 S1.seg, .slice A1.w S1.words.length A1.cw, .slice A1.k S1.keys.length A1.ck, .slice A1.v S1.vals.length A1.cv, .slice A1.c S1.counts.length A1.cc, .int .u64 (S1.laid : Int)] 27) := ⟨_, rfl⟩
  have hba : Below w2.heap.size w2 V1 := by rw [hV]; exact (Below.refl _ _).alloc (Nat.le_refl _) _
  have B1 := Lib.hid (show Box V1 w2.heap.size S1 A1 by rw [hV]; exact Box.new w2 S1 A1 27)
  first | rw [← hV] | skip
  replace BB := Lib.hid (BB.out.trans (hba.mono BB.out.size))
  replace BS := Lib.hid (BS.out.below hba)
  replace PS := Lib.hid (PS.out.below hba)
  replace O1 := Lib.hid (O1.out.below hba)
  clear hV hba
  clear O1 B1 PS
  obtain ⟨_, p0, p1, p2, p3, p4, p5, _⟩ := BS.out
  go_wp2_with fail
  refine (CI.out a pa pc _ (HA0.out.below BB.out) (TB0.out.below BB.out) (HP0.out.below BB.out)).mono ?_
  rintro e w5 ⟨A4, rfl, own, hb⟩
  have O4 := Lib.hid own.held
  replace BB := Lib.hid (BB.out.trans (hb.mono BB.out.size))
  replace BS := Lib.hid (BS.out.below hb)
  clear hb own p0 p1 p2 p3 p4 p5
  unfold slv
  go_upto_region 11 with (fail)
  obtain ⟨V4, hV⟩ : ∃ V, V = w5.alloc (.cells #[.int .i64 S3.seg, .slice A4.w S3.words.length A4.cw, .slice A4.k S3.keys.length A4.ck, .slice A4.v S3.vals.length A4.cv, .slice A4.c S3.counts.length A4.cc, .int .u64 (S3.laid : Int)] 27) := ⟨_, rfl⟩
  have hba : Below w5.heap.size w5 V4 := by rw [hV]; exact (Below.refl _ _).alloc (Nat.le_refl _) _
  have B4 := Lib.hid (show Box V4 w5.heap.size S3 A4 by rw [hV]; exact Box.new w5 S3 A4 27)
  first | rw [← hV] | skip
  replace BB := Lib.hid (BB.out.trans (hba.mono BB.out.size))
  replace BS := Lib.hid (BS.out.below hba)
  replace O4 := Lib.hid (O4.out.below hba)
  clear hV hba
  obtain ⟨_, p0, p1, p2, p3, p4, p5, _⟩ := B4.out
  go_wp2_with fail
  refine (CP.out A4 _ O4.out (TB0.out.below BB.out)).mono ?_
  rintro e w6 ⟨v, rfl, hrow, hb⟩
  obtain ⟨AL, cL, rfl, hL⟩ := prow_list hrow
  have RL := Lib.hid hL
  replace BB := Lib.hid (BB.out.trans (hb.mono BB.out.size))
  replace BS := Lib.hid (BS.out.below hb)
  replace B4 := Lib.hid (B4.out.below hb)
  clear hb hL hrow p0 p1 p2 p3 p4 p5
  go_wp2_with fail
  refine (r4SamePairs AL pa cL pc ps ps _ RL.out (HP0.out.below BB.out) (by omega) (by omega)).mono ?_
  rintro e w7 ⟨rfl, hb⟩
  rw [show (ps == ps) = true from beq_self_eq_true ps]
  replace BB := Lib.hid (BB.out.trans (hb.mono BB.out.size))
  replace BS := Lib.hid (BS.out.below hb)
  replace B4 := Lib.hid (B4.out.below hb)
  clear hb RL
  obtain ⟨_, p0, p1, p2, p3, p4, p5, _⟩ := BS.out
  obtain ⟨_, q0, q1, q2, q3, q4, q5, _⟩ := B4.out
  go_wp2
  go_ret
  exact ⟨rfl, BB.out⟩
set_option maxRecDepth 100000 in
set_option maxHeartbeats 6000000 in
theorem nearEN (s : Sl) (a : Ads) (t0 t1 size : Int) (pa : Option Addr) (pc : Nat) (ps : List (Int × Int)) (W : World) (h : Held W s a) (hok : s.Ok) (hs : s.Short) (hT : Tab W) (hp : PLst W pa ps) (i0 : In64 t0) (i1 : In64 t1) (iz : In64 size) (h64 : In64P ps) (hg : s.greatB 300 = false) (hn : ps.length ≤ 300) (hk : decide (size > 300) = false) (hE : s.pairsE t0 t1 = 0) (hI : Ly.intoE s size ps.length ≠ 0) :
    Calls Tryd.prog 8 #[slv s a, .agg #[.int .i64 t0, .int .i64 t1], .int .i64 size, .slice pa ps.length pc] W fun e w' => e = .returned (.bool true) ∧ Below W.heap.size W w' := by
  have HG := Lib.hid hg
  have k2 := hk
  have k1 : decide ((ps.length : Int) > 300) = false := by simp; omega
  have HA0 := Lib.hid h
  have HP0 := Lib.hid hp
  have TB0 := Lib.hid hT
  have BS0 := Lib.hid (fun o => (Box.new W s a 27).below ((Below.refl _ _).alloc (Nat.le_refl _) o))
  have PS0 := Lib.hid (fun o => PBox.second W o (t0, t1) 39)
  have BB0 := Lib.hid (fun o o' => ((Below.refl W.heap.size W).alloc (Nat.le_refl _) o).alloc (by simp) o')
  have CA := Lib.hid (fun o o' => lAlive ((W.alloc o).alloc o') (hT.below (BB0.out o o')))
  have F1 := even_fine hok hs t0 t1
  have CE := Lib.hid (show ∀ A V, Held V s A → Tab V → Calls Tryd.prog 11 #[slv s A, .int .i64 t0, .int .i64 t1] V (Ans (Ly.evenS s t0 t1) (s.pairsE t0 t1) V) from fun A V hv tv => yEven s A t0 t1 V hv hok hs tv i0 i1)
  have CI := Lib.hid (show ∀ A PA PC V, Held V s A → Tab V → PLst V PA ps → Calls Tryd.prog 12 #[slv s A, .int .i64 size, .slice PA ps.length PC] V (Ans (Ly.intoS s size ps) (Ly.intoE s size ps.length) V) from fun A PA PC V hv tv h2 => yInto s A size PA PC ps V hv hok hs tv iz (by omega) h2 h64)
  obtain ⟨y0, y1⟩ := Ly.again hok hs hE
  have F2 := even_fine F1.ok F1.short t0 t1
  have CY := Lib.hid (show ∀ A V, Held V (Ly.evenS s t0 t1) A → Tab V → Calls Tryd.prog 11 #[slv (Ly.evenS s t0 t1) A, .int .i64 t0, .int .i64 t1] V (Ans (Ly.evenS (Ly.evenS s t0 t1) t0 t1) ((Ly.evenS s t0 t1).pairsE t0 t1) V) from fun A V hv tv => yEven (Ly.evenS s t0 t1) A t0 t1 V hv F1.ok F1.short tv i0 i1)
  rw [hE] at CE
  rw [y0] at CY
  obtain ⟨S2, hS2⟩ : ∃ S, S = Ly.evenS (Ly.evenS s t0 t1) t0 t1 := ⟨_, rfl⟩
  rw [← hS2] at CY y1 F2
  obtain ⟨S1, hS1⟩ : ∃ S, S = Ly.evenS s t0 t1 := ⟨_, rfl⟩
  rw [← hS1] at CE F1
  rw [← hS1] at CY y1
  have SAME := Lib.hid y1
  have SH1 := Lib.hid F1.short
  have SH2 := Lib.hid F2.short
  obtain ⟨E3, hE3⟩ : ∃ E, E = Ly.intoE s size ps.length := ⟨_, rfl⟩
  obtain ⟨S3, hS3⟩ : ∃ S, S = Ly.intoS s size ps := ⟨_, rfl⟩
  have l3 : (S3.keys.length : Int) = 0 := by rw [hS3, Ly.into_no hI]; rfl
  have KL := Lib.hid l3
  rw [← hE3] at hI CI
  rw [← hS3] at CI
  have k6 : (E3 != 0) = true := by simp [hI]
  clear h hok hs hT hp hg hk hE hI h64 hS1 F1 y0 y1 F2 hS2 l3 hE3 hS3
  unfold slv at CE CI CY 
  unfold slv
  go_enter Tryd.func8, Tryd.ntmps8
  go_wp2_with fail
  refine (CA.out _ _).mono ?_
  rintro e w0 ⟨rfl, hb⟩
  have BB := Lib.hid ((BB0.out _ _).trans (hb.mono (by simp; omega)))
  have BS := Lib.hid ((BS0.out _).below hb)
  have PS := Lib.hid ((PS0.out _).below hb)
  clear hb BB0 BS0 PS0 CA
  obtain ⟨_, p0, p1, p2, p3, p4, p5, _⟩ := BS.out
  go_wp2_with fail
  refine (r4Great s a 300 _).mono ?_
  rintro e w1 ⟨rfl, hb⟩
  rw [HG.out]
  replace BB := Lib.hid (BB.out.trans (hb.mono BB.out.size))
  replace BS := Lib.hid (BS.out.below hb)
  replace PS := Lib.hid (PS.out.below hb)
  clear hb p0 p1 p2 p3 p4 p5
  obtain ⟨_, p0, p1, p2, p3, p4, p5, _⟩ := BS.out
  have d0 := PS.out.c0
  have d1 := PS.out.c1
  try dsimp only at d0 d1
  go_wp2_with fail
  refine (CE.out a _ (HA0.out.below BB.out) (TB0.out.below BB.out)).mono ?_
  rintro e w2 ⟨A1, rfl, own, hb⟩
  have O1 := Lib.hid own.held
  replace BB := Lib.hid (BB.out.trans (hb.mono BB.out.size))
  replace BS := Lib.hid (BS.out.below hb)
  replace PS := Lib.hid (PS.out.below hb)
  clear hb own p0 p1 p2 p3 p4 p5 d0 d1
  unfold slv
  go_upto_region 5 with (fail)
  obtain ⟨V1, hV⟩ : ∃ V, V = w2.alloc (.cells #[.int .i64 S1.seg, .slice A1.w S1.words.length A1.cw, .slice A1.k S1.keys.length A1.ck, .slice A1.v S1.vals.length A1.cv, .slice A1.c S1.counts.length A1.cc, .int .u64 (S1.laid : Int)] 27) := ⟨_, rfl⟩
  have hba : Below w2.heap.size w2 V1 := by rw [hV]; exact (Below.refl _ _).alloc (Nat.le_refl _) _
  have B1 := Lib.hid (show Box V1 w2.heap.size S1 A1 by rw [hV]; exact Box.new w2 S1 A1 27)
  first | rw [← hV] | skip
  replace BB := Lib.hid (BB.out.trans (hba.mono BB.out.size))
  replace BS := Lib.hid (BS.out.below hba)
  replace PS := Lib.hid (PS.out.below hba)
  replace O1 := Lib.hid (O1.out.below hba)
  clear hV hba
  obtain ⟨_, p0, p1, p2, p3, p4, p5, _⟩ := B1.out
  have d0 := PS.out.c0
  have d1 := PS.out.c1
  try dsimp only at d0 d1
  go_wp2_with fail
  refine (CY.out A1 _ O1.out (TB0.out.below BB.out)).mono ?_
  rintro e w3 ⟨A2, rfl, own, hb⟩
  have O2 := Lib.hid own.held
  replace BB := Lib.hid (BB.out.trans (hb.mono BB.out.size))
  replace BS := Lib.hid (BS.out.below hb)
  replace PS := Lib.hid (PS.out.below hb)
  replace O1 := Lib.hid (O1.out.below hb)
  replace B1 := Lib.hid (B1.out.below hb)
  clear hb own p0 p1 p2 p3 p4 p5 d0 d1
  obtain ⟨_, p0, p1, p2, p3, p4, p5, _⟩ := B1.out
  unfold slv
  go_upto_region 8 with (fail)
  obtain ⟨V2, hV⟩ : ∃ V, V = w3.alloc (.cells #[.int .i64 S2.seg, .slice A2.w S2.words.length A2.cw, .slice A2.k S2.keys.length A2.ck, .slice A2.v S2.vals.length A2.cv, .slice A2.c S2.counts.length A2.cc, .int .u64 (S1.laid : Int)] 27) := ⟨_, rfl⟩
  have hba : Below w3.heap.size w3 V2 := by rw [hV]; exact (Below.refl _ _).alloc (Nat.le_refl _) _
  have B2 := Lib.hid (show Box V2 w3.heap.size { S2 with laid := S1.laid } A2 by rw [hV]; exact Box.new w3 { S2 with laid := S1.laid } A2 27)
  first | rw [← hV] | skip
  replace BB := Lib.hid (BB.out.trans (hba.mono BB.out.size))
  replace BS := Lib.hid (BS.out.below hba)
  replace PS := Lib.hid (PS.out.below hba)
  replace O1 := Lib.hid (O1.out.below hba)
  replace O2 := Lib.hid (O2.out.below hba)
  replace B1 := Lib.hid (B1.out.below hba)
  clear hV hba
  have SH3 := Lib.hid (show Sl.Short { S2 with laid := S1.laid } from ⟨SH2.out.words, SH2.out.keys, SH2.out.vals, SH2.out.counts⟩)
  have O3 := Lib.hid (show Held V2 { S2 with laid := S1.laid } A2 from ⟨O2.out.words, O2.out.keys, O2.out.vals, O2.out.counts, ⟨O2.out.caps.w0, O2.out.caps.k0, O2.out.caps.v0, O2.out.caps.c0, O2.out.caps.w1, O2.out.caps.k1, O2.out.caps.v1, O2.out.caps.c1⟩⟩)
  clear p0 p1 p2 p3 p4 p5
  obtain ⟨_, p0, p1, p2, p3, p4, p5, _⟩ := B1.out
  obtain ⟨_, q0, q1, q2, q3, q4, q5, _⟩ := B2.out
  go_wp2_with fail
  refine (sSame S1 { S2 with laid := S1.laid } A1 A2 _ O1.out O3.out SH1.out SH3.out).mono ?_
  rintro e w4 ⟨rfl, hb⟩
  rw [SAME.out]
  replace BB := Lib.hid (BB.out.trans (hb.mono BB.out.size))
  replace BS := Lib.hid (BS.out.below hb)
  clear hb p0 p1 p2 p3 p4 p5 q0 q1 q2 q3 q4 q5 O1 O2 O3 B1 B2 PS
  obtain ⟨_, p0, p1, p2, p3, p4, p5, _⟩ := BS.out
  go_wp2_with fail
  refine (CI.out a pa pc _ (HA0.out.below BB.out) (TB0.out.below BB.out) (HP0.out.below BB.out)).mono ?_
  rintro e w5 ⟨A4, rfl, own, hb⟩
  have O4 := Lib.hid own.held
  replace BB := Lib.hid (BB.out.trans (hb.mono BB.out.size))
  replace BS := Lib.hid (BS.out.below hb)
  clear hb own p0 p1 p2 p3 p4 p5
  unfold slv
  go_upto_region 11 with (fail)
  obtain ⟨V4, hV⟩ : ∃ V, V = w5.alloc (.cells #[.int .i64 S3.seg, .slice A4.w S3.words.length A4.cw, .slice A4.k S3.keys.length A4.ck, .slice A4.v S3.vals.length A4.cv, .slice A4.c S3.counts.length A4.cc, .int .u64 (S3.laid : Int)] 27) := ⟨_, rfl⟩
  have hba : Below w5.heap.size w5 V4 := by rw [hV]; exact (Below.refl _ _).alloc (Nat.le_refl _) _
  have B4 := Lib.hid (show Box V4 w5.heap.size S3 A4 by rw [hV]; exact Box.new w5 S3 A4 27)
  first | rw [← hV] | skip
  replace BB := Lib.hid (BB.out.trans (hba.mono BB.out.size))
  replace BS := Lib.hid (BS.out.below hba)
  replace O4 := Lib.hid (O4.out.below hba)
  clear hV hba
  obtain ⟨_, p0, p1, p2, p3, p4, p5, _⟩ := B4.out
  rw [show S3.keys.length = 0 from by have := KL.out; omega] at p2
  go_wp2
  go_ret
  exact ⟨rfl, BB.out⟩
set_option maxRecDepth 100000 in
set_option maxHeartbeats 6000000 in
theorem nearEI (s : Sl) (a : Ads) (t0 t1 size : Int) (pa : Option Addr) (pc : Nat) (ps : List (Int × Int)) (W : World) (h : Held W s a) (hok : s.Ok) (hs : s.Short) (hT : Tab W) (hp : PLst W pa ps) (i0 : In64 t0) (i1 : In64 t1) (iz : In64 size) (h64 : In64P ps) (hg : s.greatB 300 = false) (hn : ps.length ≤ 300) (hk : decide (size > 300) = false) (hE : s.pairsE t0 t1 = 0) (hI : Ly.intoE s size ps.length = 0) :
    Calls Tryd.prog 8 #[slv s a, .agg #[.int .i64 t0, .int .i64 t1], .int .i64 size, .slice pa ps.length pc] W fun e w' => e = .returned (.bool true) ∧ Below W.heap.size W w' := by
  have HG := Lib.hid hg
  have k2 := hk
  have k1 : decide ((ps.length : Int) > 300) = false := by simp; omega
  have HA0 := Lib.hid h
  have HP0 := Lib.hid hp
  have TB0 := Lib.hid hT
  have BS0 := Lib.hid (fun o => (Box.new W s a 27).below ((Below.refl _ _).alloc (Nat.le_refl _) o))
  have PS0 := Lib.hid (fun o => PBox.second W o (t0, t1) 39)
  have BB0 := Lib.hid (fun o o' => ((Below.refl W.heap.size W).alloc (Nat.le_refl _) o).alloc (by simp) o')
  have CA := Lib.hid (fun o o' => lAlive ((W.alloc o).alloc o') (hT.below (BB0.out o o')))
  have F1 := even_fine hok hs t0 t1
  have CE := Lib.hid (show ∀ A V, Held V s A → Tab V → Calls Tryd.prog 11 #[slv s A, .int .i64 t0, .int .i64 t1] V (Ans (Ly.evenS s t0 t1) (s.pairsE t0 t1) V) from fun A V hv tv => yEven s A t0 t1 V hv hok hs tv i0 i1)
  have CI := Lib.hid (show ∀ A PA PC V, Held V s A → Tab V → PLst V PA ps → Calls Tryd.prog 12 #[slv s A, .int .i64 size, .slice PA ps.length PC] V (Ans (Ly.intoS s size ps) (Ly.intoE s size ps.length) V) from fun A PA PC V hv tv h2 => yInto s A size PA PC ps V hv hok hs tv iz (by omega) h2 h64)
  obtain ⟨y0, y1⟩ := Ly.again hok hs hE
  have F2 := even_fine F1.ok F1.short t0 t1
  have CY := Lib.hid (show ∀ A V, Held V (Ly.evenS s t0 t1) A → Tab V → Calls Tryd.prog 11 #[slv (Ly.evenS s t0 t1) A, .int .i64 t0, .int .i64 t1] V (Ans (Ly.evenS (Ly.evenS s t0 t1) t0 t1) ((Ly.evenS s t0 t1).pairsE t0 t1) V) from fun A V hv tv => yEven (Ly.evenS s t0 t1) A t0 t1 V hv F1.ok F1.short tv i0 i1)
  rw [hE] at CE
  rw [y0] at CY
  obtain ⟨S2, hS2⟩ : ∃ S, S = Ly.evenS (Ly.evenS s t0 t1) t0 t1 := ⟨_, rfl⟩
  rw [← hS2] at CY y1 F2
  obtain ⟨S1, hS1⟩ : ∃ S, S = Ly.evenS s t0 t1 := ⟨_, rfl⟩
  rw [← hS1] at CE F1
  rw [← hS1] at CY y1
  have SAME := Lib.hid y1
  have SH1 := Lib.hid F1.short
  have SH2 := Lib.hid F2.short
  obtain ⟨z0, z1, z2, z3, z4⟩ := Ly.into_laid hok hI
  have F3 := into_fine hok hs size ps (by omega) h64
  have CP := Lib.hid (show ∀ A V, Held V (Ly.intoS s size ps) A → Tab V → Calls Tryd.prog 23 #[slv (Ly.intoS s size ps) A, .int .i64 0, .int .i64 size] V (POwn2 ((Ly.intoS s size ps).pairsV 0 size) ((Ly.intoS s size ps).pairsE 0 size) V) from fun A V hv tv => cPairs (Ly.intoS s size ps) A 0 size V hv F3.ok F3.short tv)
  rw [hI] at CI
  rw [z0, z1] at CP
  obtain ⟨S3, hS3⟩ : ∃ S, S = Ly.intoS s size ps := ⟨_, rfl⟩
  rw [← hS3] at CI CP z2 z3 z4
  have k6 : IntKind.u64.wrap (ps.length : Int) = (ps.length : Int) := IntWalk.u64_in _ (by omega)
  have k7 : ((S3.laid : Int) == IntKind.u64.wrap ((s.laid : Int) + (ps.length : Int))) = true := by rw [z2, wrap_add]; simp
  have k8 : (S3.seg == s.seg) = true := by rw [z3]; simp
  have k9 : ((S3.keys.length : Int) == size) = true := by rw [z4]; simp
  clear h hok hs hT hp hg hk hE hI h64 hS1 F1 y0 y1 F2 hS2 z0 z1 z2 z3 z4 F3 hS3
  unfold slv at CE CI CY CP
  unfold slv
  go_enter Tryd.func8, Tryd.ntmps8
  go_wp2_with fail
  refine (CA.out _ _).mono ?_
  rintro e w0 ⟨rfl, hb⟩
  have BB := Lib.hid ((BB0.out _ _).trans (hb.mono (by simp; omega)))
  have BS := Lib.hid ((BS0.out _).below hb)
  have PS := Lib.hid ((PS0.out _).below hb)
  clear hb BB0 BS0 PS0 CA
  obtain ⟨_, p0, p1, p2, p3, p4, p5, _⟩ := BS.out
  go_wp2_with fail
  refine (r4Great s a 300 _).mono ?_
  rintro e w1 ⟨rfl, hb⟩
  rw [HG.out]
  replace BB := Lib.hid (BB.out.trans (hb.mono BB.out.size))
  replace BS := Lib.hid (BS.out.below hb)
  replace PS := Lib.hid (PS.out.below hb)
  clear hb p0 p1 p2 p3 p4 p5
  obtain ⟨_, p0, p1, p2, p3, p4, p5, _⟩ := BS.out
  have d0 := PS.out.c0
  have d1 := PS.out.c1
  try dsimp only at d0 d1
  go_wp2_with fail
  refine (CE.out a _ (HA0.out.below BB.out) (TB0.out.below BB.out)).mono ?_
  rintro e w2 ⟨A1, rfl, own, hb⟩
  have O1 := Lib.hid own.held
  replace BB := Lib.hid (BB.out.trans (hb.mono BB.out.size))
  replace BS := Lib.hid (BS.out.below hb)
  replace PS := Lib.hid (PS.out.below hb)
  clear hb own p0 p1 p2 p3 p4 p5 d0 d1
  unfold slv
  go_upto_region 5 with (fail)
  obtain ⟨V1, hV⟩ : ∃ V, V = w2.alloc (.cells #[.int .i64 S1.seg, .slice A1.w S1.words.length A1.cw, .slice A1.k S1.keys.length A1.ck, .slice A1.v S1.vals.length A1.cv, .slice A1.c S1.counts.length A1.cc, .int .u64 (S1.laid : Int)] 27) := ⟨_, rfl⟩
  have hba : Below w2.heap.size w2 V1 := by rw [hV]; exact (Below.refl _ _).alloc (Nat.le_refl _) _
  have B1 := Lib.hid (show Box V1 w2.heap.size S1 A1 by rw [hV]; exact Box.new w2 S1 A1 27)
  first | rw [← hV] | skip
  replace BB := Lib.hid (BB.out.trans (hba.mono BB.out.size))
  replace BS := Lib.hid (BS.out.below hba)
  replace PS := Lib.hid (PS.out.below hba)
  replace O1 := Lib.hid (O1.out.below hba)
  clear hV hba
  obtain ⟨_, p0, p1, p2, p3, p4, p5, _⟩ := B1.out
  have d0 := PS.out.c0
  have d1 := PS.out.c1
  try dsimp only at d0 d1
  go_wp2_with fail
  refine (CY.out A1 _ O1.out (TB0.out.below BB.out)).mono ?_
  rintro e w3 ⟨A2, rfl, own, hb⟩
  have O2 := Lib.hid own.held
  replace BB := Lib.hid (BB.out.trans (hb.mono BB.out.size))
  replace BS := Lib.hid (BS.out.below hb)
  replace PS := Lib.hid (PS.out.below hb)
  replace O1 := Lib.hid (O1.out.below hb)
  replace B1 := Lib.hid (B1.out.below hb)
  clear hb own p0 p1 p2 p3 p4 p5 d0 d1
  obtain ⟨_, p0, p1, p2, p3, p4, p5, _⟩ := B1.out
  unfold slv
  go_upto_region 8 with (fail)
  obtain ⟨V2, hV⟩ : ∃ V, V = w3.alloc (.cells #[.int .i64 S2.seg, .slice A2.w S2.words.length A2.cw, .slice A2.k S2.keys.length A2.ck, .slice A2.v S2.vals.length A2.cv, .slice A2.c S2.counts.length A2.cc, .int .u64 (S1.laid : Int)] 27) := ⟨_, rfl⟩
  have hba : Below w3.heap.size w3 V2 := by rw [hV]; exact (Below.refl _ _).alloc (Nat.le_refl _) _
  have B2 := Lib.hid (show Box V2 w3.heap.size { S2 with laid := S1.laid } A2 by rw [hV]; exact Box.new w3 { S2 with laid := S1.laid } A2 27)
  first | rw [← hV] | skip
  replace BB := Lib.hid (BB.out.trans (hba.mono BB.out.size))
  replace BS := Lib.hid (BS.out.below hba)
  replace PS := Lib.hid (PS.out.below hba)
  replace O1 := Lib.hid (O1.out.below hba)
  replace O2 := Lib.hid (O2.out.below hba)
  replace B1 := Lib.hid (B1.out.below hba)
  clear hV hba
  have SH3 := Lib.hid (show Sl.Short { S2 with laid := S1.laid } from ⟨SH2.out.words, SH2.out.keys, SH2.out.vals, SH2.out.counts⟩)
  have O3 := Lib.hid (show Held V2 { S2 with laid := S1.laid } A2 from ⟨O2.out.words, O2.out.keys, O2.out.vals, O2.out.counts, ⟨O2.out.caps.w0, O2.out.caps.k0, O2.out.caps.v0, O2.out.caps.c0, O2.out.caps.w1, O2.out.caps.k1, O2.out.caps.v1, O2.out.caps.c1⟩⟩)
  clear p0 p1 p2 p3 p4 p5
  obtain ⟨_, p0, p1, p2, p3, p4, p5, _⟩ := B1.out
  obtain ⟨_, q0, q1, q2, q3, q4, q5, _⟩ := B2.out
  go_wp2_with fail
  refine (sSame S1 { S2 with laid := S1.laid } A1 A2 _ O1.out O3.out SH1.out SH3.out).mono ?_
  rintro e w4 ⟨rfl, hb⟩
  rw [SAME.out]
  replace BB := Lib.hid (BB.out.trans (hb.mono BB.out.size))
  replace BS := Lib.hid (BS.out.below hb)
  clear hb p0 p1 p2 p3 p4 p5 q0 q1 q2 q3 q4 q5 O1 O2 O3 B1 B2 PS
  obtain ⟨_, p0, p1, p2, p3, p4, p5, _⟩ := BS.out
  go_wp2_with fail
  refine (CI.out a pa pc _ (HA0.out.below BB.out) (TB0.out.below BB.out) (HP0.out.below BB.out)).mono ?_
  rintro e w5 ⟨A4, rfl, own, hb⟩
  have O4 := Lib.hid own.held
  replace BB := Lib.hid (BB.out.trans (hb.mono BB.out.size))
  replace BS := Lib.hid (BS.out.below hb)
  clear hb own p0 p1 p2 p3 p4 p5
  unfold slv
  go_upto_region 11 with (fail)
  obtain ⟨V4, hV⟩ : ∃ V, V = w5.alloc (.cells #[.int .i64 S3.seg, .slice A4.w S3.words.length A4.cw, .slice A4.k S3.keys.length A4.ck, .slice A4.v S3.vals.length A4.cv, .slice A4.c S3.counts.length A4.cc, .int .u64 (S3.laid : Int)] 27) := ⟨_, rfl⟩
  have hba : Below w5.heap.size w5 V4 := by rw [hV]; exact (Below.refl _ _).alloc (Nat.le_refl _) _
  have B4 := Lib.hid (show Box V4 w5.heap.size S3 A4 by rw [hV]; exact Box.new w5 S3 A4 27)
  first | rw [← hV] | skip
  replace BB := Lib.hid (BB.out.trans (hba.mono BB.out.size))
  replace BS := Lib.hid (BS.out.below hba)
  replace O4 := Lib.hid (O4.out.below hba)
  clear hV hba
  obtain ⟨_, p0, p1, p2, p3, p4, p5, _⟩ := B4.out
  go_wp2_with fail
  refine (CP.out A4 _ O4.out (TB0.out.below BB.out)).mono ?_
  rintro e w6 ⟨v, rfl, hrow, hb⟩
  obtain ⟨AL, cL, rfl, hL⟩ := prow_list hrow
  have RL := Lib.hid hL
  replace BB := Lib.hid (BB.out.trans (hb.mono BB.out.size))
  replace BS := Lib.hid (BS.out.below hb)
  replace B4 := Lib.hid (B4.out.below hb)
  clear hb hL hrow p0 p1 p2 p3 p4 p5
  go_wp2_with fail
  refine (r4SamePairs AL pa cL pc ps ps _ RL.out (HP0.out.below BB.out) (by omega) (by omega)).mono ?_
  rintro e w7 ⟨rfl, hb⟩
  rw [show (ps == ps) = true from beq_self_eq_true ps]
  replace BB := Lib.hid (BB.out.trans (hb.mono BB.out.size))
  replace BS := Lib.hid (BS.out.below hb)
  replace B4 := Lib.hid (B4.out.below hb)
  clear hb RL
  obtain ⟨_, p0, p1, p2, p3, p4, p5, _⟩ := BS.out
  obtain ⟨_, q0, q1, q2, q3, q4, q5, _⟩ := B4.out
  go_wp2
  go_ret
  exact ⟨rfl, BB.out⟩
set_option maxRecDepth 100000 in
set_option maxHeartbeats 6000000 in
theorem farNN (s : Sl) (a : Ads) (t0 t1 size : Int) (pa : Option Addr) (pc : Nat) (ps : List (Int × Int)) (W : World) (h : Held W s a) (hok : s.Ok) (hs : s.Short) (hT : Tab W) (hp : PLst W pa ps) (i0 : In64 t0) (i1 : In64 t1) (iz : In64 size) (h64 : In64P ps) (hg : s.greatB 300 = false) (hn : ps.length ≤ 300) (hk : decide (size > 300) = true ∧ decide (size ≤ 65536) = false) (hE : s.pairsE t0 t1 ≠ 0) (hI : Ly.intoE s size ps.length ≠ 0) :
    Calls Tryd.prog 8 #[slv s a, .agg #[.int .i64 t0, .int .i64 t1], .int .i64 size, .slice pa ps.length pc] W fun e w' => e = .returned (.bool true) ∧ Below W.heap.size W w' := by
  have HG := Lib.hid hg
  obtain ⟨k2, k4⟩ := hk
  have k1 : decide ((ps.length : Int) > 300) = false := by simp; omega
  have HA0 := Lib.hid h
  have HP0 := Lib.hid hp
  have TB0 := Lib.hid hT
  have BS0 := Lib.hid (fun o => (Box.new W s a 27).below ((Below.refl _ _).alloc (Nat.le_refl _) o))
  have PS0 := Lib.hid (fun o => PBox.second W o (t0, t1) 39)
  have BB0 := Lib.hid (fun o o' => ((Below.refl W.heap.size W).alloc (Nat.le_refl _) o).alloc (by simp) o')
  have CA := Lib.hid (fun o o' => lAlive ((W.alloc o).alloc o') (hT.below (BB0.out o o')))
  have F1 := even_fine hok hs t0 t1
  have CE := Lib.hid (show ∀ A V, Held V s A → Tab V → Calls Tryd.prog 11 #[slv s A, .int .i64 t0, .int .i64 t1] V (Ans (Ly.evenS s t0 t1) (s.pairsE t0 t1) V) from fun A V hv tv => yEven s A t0 t1 V hv hok hs tv i0 i1)
  have CI := Lib.hid (show ∀ A PA PC V, Held V s A → Tab V → PLst V PA ps → Calls Tryd.prog 12 #[slv s A, .int .i64 size, .slice PA ps.length PC] V (Ans (Ly.intoS s size ps) (Ly.intoE s size ps.length) V) from fun A PA PC V hv tv h2 => yInto s A size PA PC ps V hv hok hs tv iz (by omega) h2 h64)
  obtain ⟨E1, hE1⟩ : ∃ E, E = s.pairsE t0 t1 := ⟨_, rfl⟩
  rw [← hE1] at hE CE
  have k5 : (E1 == 0) = false := by simp [hE]
  obtain ⟨S1, hS1⟩ : ∃ S, S = Ly.evenS s t0 t1 := ⟨_, rfl⟩
  rw [← hS1] at CE F1
  obtain ⟨E3, hE3⟩ : ∃ E, E = Ly.intoE s size ps.length := ⟨_, rfl⟩
  obtain ⟨S3, hS3⟩ : ∃ S, S = Ly.intoS s size ps := ⟨_, rfl⟩
  have l3 : (S3.keys.length : Int) = 0 := by rw [hS3, Ly.into_no hI]; rfl
  have KL := Lib.hid l3
  rw [← hE3] at hI CI
  rw [← hS3] at CI
  have k6 : (E3 != 0) = true := by simp [hI]
  clear h hok hs hT hp hg  hE hI h64 hS1 F1 hE1 l3 hE3 hS3
  unfold slv at CE CI  
  unfold slv
  go_enter Tryd.func8, Tryd.ntmps8
  go_wp2_with fail
  refine (CA.out _ _).mono ?_
  rintro e w0 ⟨rfl, hb⟩
  have BB := Lib.hid ((BB0.out _ _).trans (hb.mono (by simp; omega)))
  have BS := Lib.hid ((BS0.out _).below hb)
  have PS := Lib.hid ((PS0.out _).below hb)
  clear hb BB0 BS0 PS0 CA
  obtain ⟨_, p0, p1, p2, p3, p4, p5, _⟩ := BS.out
  go_wp2_with fail
  refine (r4Great s a 300 _).mono ?_
  rintro e w1 ⟨rfl, hb⟩
  rw [HG.out]
  replace BB := Lib.hid (BB.out.trans (hb.mono BB.out.size))
  replace BS := Lib.hid (BS.out.below hb)
  replace PS := Lib.hid (PS.out.below hb)
  clear hb p0 p1 p2 p3 p4 p5
  obtain ⟨_, p0, p1, p2, p3, p4, p5, _⟩ := BS.out
  have d0 := PS.out.c0
  have d1 := PS.out.c1
  try dsimp only at d0 d1
  go_wp2_with fail
  refine (CE.out a _ (HA0.out.below BB.out) (TB0.out.below BB.out)).mono ?_
  rintro e w2 ⟨A1, rfl, own, hb⟩
  have O1 := Lib.hid own.held
  replace BB := Lib.hid (BB.out.trans (hb.mono BB.out.size))
  replace BS := Lib.hid (BS.out.below hb)
  replace PS := Lib.hid (PS.out.below hb)
  clear hb own p0 p1 p2 p3 p4 p5 d0 d1
  unfold slv
  go_upto_region 5 with (fail)
  obtain ⟨V1, hV⟩ : ∃ V, V = w2.alloc (.cells #[.int .i64 S1.seg, .slice A1.w S1.words.length A1.cw, .slice A1.k S1.keys.length A1.ck, .slice A1.v S1.vals.length A1.cv, .slice A1.c S1.counts.length A1.cc, .int .u64 (S1.laid : Int)] 27) := ⟨_, rfl⟩
  have hba : Below w2.heap.size w2 V1 := by rw [hV]; exact (Below.refl _ _).alloc (Nat.le_refl _) _
  have B1 := Lib.hid (show Box V1 w2.heap.size S1 A1 by rw [hV]; exact Box.new w2 S1 A1 27)
  first | rw [← hV] | skip
  replace BB := Lib.hid (BB.out.trans (hba.mono BB.out.size))
  replace BS := Lib.hid (BS.out.below hba)
  replace PS := Lib.hid (PS.out.below hba)
  replace O1 := Lib.hid (O1.out.below hba)
  clear hV hba
  clear O1 B1 PS
  obtain ⟨_, p0, p1, p2, p3, p4, p5, _⟩ := BS.out
  go_wp2_with fail
  refine (CI.out a pa pc _ (HA0.out.below BB.out) (TB0.out.below BB.out) (HP0.out.below BB.out)).mono ?_
  rintro e w5 ⟨A4, rfl, own, hb⟩
  have O4 := Lib.hid own.held
  replace BB := Lib.hid (BB.out.trans (hb.mono BB.out.size))
  replace BS := Lib.hid (BS.out.below hb)
  clear hb own p0 p1 p2 p3 p4 p5
  unfold slv
  go_upto_region 11 with (fail)
  obtain ⟨V4, hV⟩ : ∃ V, V = w5.alloc (.cells #[.int .i64 S3.seg, .slice A4.w S3.words.length A4.cw, .slice A4.k S3.keys.length A4.ck, .slice A4.v S3.vals.length A4.cv, .slice A4.c S3.counts.length A4.cc, .int .u64 (S3.laid : Int)] 27) := ⟨_, rfl⟩
  have hba : Below w5.heap.size w5 V4 := by rw [hV]; exact (Below.refl _ _).alloc (Nat.le_refl _) _
  have B4 := Lib.hid (show Box V4 w5.heap.size S3 A4 by rw [hV]; exact Box.new w5 S3 A4 27)
  first | rw [← hV] | skip
  replace BB := Lib.hid (BB.out.trans (hba.mono BB.out.size))
  replace BS := Lib.hid (BS.out.below hba)
  replace O4 := Lib.hid (O4.out.below hba)
  clear hV hba
  obtain ⟨_, p0, p1, p2, p3, p4, p5, _⟩ := B4.out
  rw [show S3.keys.length = 0 from by have := KL.out; omega] at p2
  go_wp2
  go_ret
  exact ⟨rfl, BB.out⟩
set_option maxRecDepth 100000 in
set_option maxHeartbeats 6000000 in
theorem farEN (s : Sl) (a : Ads) (t0 t1 size : Int) (pa : Option Addr) (pc : Nat) (ps : List (Int × Int)) (W : World) (h : Held W s a) (hok : s.Ok) (hs : s.Short) (hT : Tab W) (hp : PLst W pa ps) (i0 : In64 t0) (i1 : In64 t1) (iz : In64 size) (h64 : In64P ps) (hg : s.greatB 300 = false) (hn : ps.length ≤ 300) (hk : decide (size > 300) = true ∧ decide (size ≤ 65536) = false) (hE : s.pairsE t0 t1 = 0) (hI : Ly.intoE s size ps.length ≠ 0) :
    Calls Tryd.prog 8 #[slv s a, .agg #[.int .i64 t0, .int .i64 t1], .int .i64 size, .slice pa ps.length pc] W fun e w' => e = .returned (.bool true) ∧ Below W.heap.size W w' := by
  have HG := Lib.hid hg
  obtain ⟨k2, k4⟩ := hk
  have k1 : decide ((ps.length : Int) > 300) = false := by simp; omega
  have HA0 := Lib.hid h
  have HP0 := Lib.hid hp
  have TB0 := Lib.hid hT
  have BS0 := Lib.hid (fun o => (Box.new W s a 27).below ((Below.refl _ _).alloc (Nat.le_refl _) o))
  have PS0 := Lib.hid (fun o => PBox.second W o (t0, t1) 39)
  have BB0 := Lib.hid (fun o o' => ((Below.refl W.heap.size W).alloc (Nat.le_refl _) o).alloc (by simp) o')
  have CA := Lib.hid (fun o o' => lAlive ((W.alloc o).alloc o') (hT.below (BB0.out o o')))
  have F1 := even_fine hok hs t0 t1
  have CE := Lib.hid (show ∀ A V, Held V s A → Tab V → Calls Tryd.prog 11 #[slv s A, .int .i64 t0, .int .i64 t1] V (Ans (Ly.evenS s t0 t1) (s.pairsE t0 t1) V) from fun A V hv tv => yEven s A t0 t1 V hv hok hs tv i0 i1)
  have CI := Lib.hid (show ∀ A PA PC V, Held V s A → Tab V → PLst V PA ps → Calls Tryd.prog 12 #[slv s A, .int .i64 size, .slice PA ps.length PC] V (Ans (Ly.intoS s size ps) (Ly.intoE s size ps.length) V) from fun A PA PC V hv tv h2 => yInto s A size PA PC ps V hv hok hs tv iz (by omega) h2 h64)
  obtain ⟨y0, y1⟩ := Ly.again hok hs hE
  have F2 := even_fine F1.ok F1.short t0 t1
  have CY := Lib.hid (show ∀ A V, Held V (Ly.evenS s t0 t1) A → Tab V → Calls Tryd.prog 11 #[slv (Ly.evenS s t0 t1) A, .int .i64 t0, .int .i64 t1] V (Ans (Ly.evenS (Ly.evenS s t0 t1) t0 t1) ((Ly.evenS s t0 t1).pairsE t0 t1) V) from fun A V hv tv => yEven (Ly.evenS s t0 t1) A t0 t1 V hv F1.ok F1.short tv i0 i1)
  rw [hE] at CE
  rw [y0] at CY
  obtain ⟨S2, hS2⟩ : ∃ S, S = Ly.evenS (Ly.evenS s t0 t1) t0 t1 := ⟨_, rfl⟩
  rw [← hS2] at CY y1 F2
  obtain ⟨S1, hS1⟩ : ∃ S, S = Ly.evenS s t0 t1 := ⟨_, rfl⟩
  rw [← hS1] at CE F1
  rw [← hS1] at CY y1
  have SAME := Lib.hid y1
  have SH1 := Lib.hid F1.short
  have SH2 := Lib.hid F2.short
  obtain ⟨E3, hE3⟩ : ∃ E, E = Ly.intoE s size ps.length := ⟨_, rfl⟩
  obtain ⟨S3, hS3⟩ : ∃ S, S = Ly.intoS s size ps := ⟨_, rfl⟩
  have l3 : (S3.keys.length : Int) = 0 := by rw [hS3, Ly.into_no hI]; rfl
  have KL := Lib.hid l3
  rw [← hE3] at hI CI
  rw [← hS3] at CI
  have k6 : (E3 != 0) = true := by simp [hI]
  clear h hok hs hT hp hg  hE hI h64 hS1 F1 y0 y1 F2 hS2 l3 hE3 hS3
  unfold slv at CE CI CY 
  unfold slv
  go_enter Tryd.func8, Tryd.ntmps8
  go_wp2_with fail
  refine (CA.out _ _).mono ?_
  rintro e w0 ⟨rfl, hb⟩
  have BB := Lib.hid ((BB0.out _ _).trans (hb.mono (by simp; omega)))
  have BS := Lib.hid ((BS0.out _).below hb)
  have PS := Lib.hid ((PS0.out _).below hb)
  clear hb BB0 BS0 PS0 CA
  obtain ⟨_, p0, p1, p2, p3, p4, p5, _⟩ := BS.out
  go_wp2_with fail
  refine (r4Great s a 300 _).mono ?_
  rintro e w1 ⟨rfl, hb⟩
  rw [HG.out]
  replace BB := Lib.hid (BB.out.trans (hb.mono BB.out.size))
  replace BS := Lib.hid (BS.out.below hb)
  replace PS := Lib.hid (PS.out.below hb)
  clear hb p0 p1 p2 p3 p4 p5
  obtain ⟨_, p0, p1, p2, p3, p4, p5, _⟩ := BS.out
  have d0 := PS.out.c0
  have d1 := PS.out.c1
  try dsimp only at d0 d1
  go_wp2_with fail
  refine (CE.out a _ (HA0.out.below BB.out) (TB0.out.below BB.out)).mono ?_
  rintro e w2 ⟨A1, rfl, own, hb⟩
  have O1 := Lib.hid own.held
  replace BB := Lib.hid (BB.out.trans (hb.mono BB.out.size))
  replace BS := Lib.hid (BS.out.below hb)
  replace PS := Lib.hid (PS.out.below hb)
  clear hb own p0 p1 p2 p3 p4 p5 d0 d1
  unfold slv
  go_upto_region 5 with (fail)
  obtain ⟨V1, hV⟩ : ∃ V, V = w2.alloc (.cells #[.int .i64 S1.seg, .slice A1.w S1.words.length A1.cw, .slice A1.k S1.keys.length A1.ck, .slice A1.v S1.vals.length A1.cv, .slice A1.c S1.counts.length A1.cc, .int .u64 (S1.laid : Int)] 27) := ⟨_, rfl⟩
  have hba : Below w2.heap.size w2 V1 := by rw [hV]; exact (Below.refl _ _).alloc (Nat.le_refl _) _
  have B1 := Lib.hid (show Box V1 w2.heap.size S1 A1 by rw [hV]; exact Box.new w2 S1 A1 27)
  first | rw [← hV] | skip
  replace BB := Lib.hid (BB.out.trans (hba.mono BB.out.size))
  replace BS := Lib.hid (BS.out.below hba)
  replace PS := Lib.hid (PS.out.below hba)
  replace O1 := Lib.hid (O1.out.below hba)
  clear hV hba
  obtain ⟨_, p0, p1, p2, p3, p4, p5, _⟩ := B1.out
  have d0 := PS.out.c0
  have d1 := PS.out.c1
  try dsimp only at d0 d1
  go_wp2_with fail
  refine (CY.out A1 _ O1.out (TB0.out.below BB.out)).mono ?_
  rintro e w3 ⟨A2, rfl, own, hb⟩
  have O2 := Lib.hid own.held
  replace BB := Lib.hid (BB.out.trans (hb.mono BB.out.size))
  replace BS := Lib.hid (BS.out.below hb)
  replace PS := Lib.hid (PS.out.below hb)
  replace O1 := Lib.hid (O1.out.below hb)
  replace B1 := Lib.hid (B1.out.below hb)
  clear hb own p0 p1 p2 p3 p4 p5 d0 d1
  obtain ⟨_, p0, p1, p2, p3, p4, p5, _⟩ := B1.out
  unfold slv
  go_upto_region 8 with (fail)
  obtain ⟨V2, hV⟩ : ∃ V, V = w3.alloc (.cells #[.int .i64 S2.seg, .slice A2.w S2.words.length A2.cw, .slice A2.k S2.keys.length A2.ck, .slice A2.v S2.vals.length A2.cv, .slice A2.c S2.counts.length A2.cc, .int .u64 (S1.laid : Int)] 27) := ⟨_, rfl⟩
  have hba : Below w3.heap.size w3 V2 := by rw [hV]; exact (Below.refl _ _).alloc (Nat.le_refl _) _
  have B2 := Lib.hid (show Box V2 w3.heap.size { S2 with laid := S1.laid } A2 by rw [hV]; exact Box.new w3 { S2 with laid := S1.laid } A2 27)
  first | rw [← hV] | skip
  replace BB := Lib.hid (BB.out.trans (hba.mono BB.out.size))
  replace BS := Lib.hid (BS.out.below hba)
  replace PS := Lib.hid (PS.out.below hba)
  replace O1 := Lib.hid (O1.out.below hba)
  replace O2 := Lib.hid (O2.out.below hba)
  replace B1 := Lib.hid (B1.out.below hba)
  clear hV hba
  have SH3 := Lib.hid (show Sl.Short { S2 with laid := S1.laid } from ⟨SH2.out.words, SH2.out.keys, SH2.out.vals, SH2.out.counts⟩)
  have O3 := Lib.hid (show Held V2 { S2 with laid := S1.laid } A2 from ⟨O2.out.words, O2.out.keys, O2.out.vals, O2.out.counts, ⟨O2.out.caps.w0, O2.out.caps.k0, O2.out.caps.v0, O2.out.caps.c0, O2.out.caps.w1, O2.out.caps.k1, O2.out.caps.v1, O2.out.caps.c1⟩⟩)
  clear p0 p1 p2 p3 p4 p5
  obtain ⟨_, p0, p1, p2, p3, p4, p5, _⟩ := B1.out
  obtain ⟨_, q0, q1, q2, q3, q4, q5, _⟩ := B2.out
  go_wp2_with fail
  refine (sSame S1 { S2 with laid := S1.laid } A1 A2 _ O1.out O3.out SH1.out SH3.out).mono ?_
  rintro e w4 ⟨rfl, hb⟩
  rw [SAME.out]
  replace BB := Lib.hid (BB.out.trans (hb.mono BB.out.size))
  replace BS := Lib.hid (BS.out.below hb)
  clear hb p0 p1 p2 p3 p4 p5 q0 q1 q2 q3 q4 q5 O1 O2 O3 B1 B2 PS
  obtain ⟨_, p0, p1, p2, p3, p4, p5, _⟩ := BS.out
  go_wp2_with fail
  refine (CI.out a pa pc _ (HA0.out.below BB.out) (TB0.out.below BB.out) (HP0.out.below BB.out)).mono ?_
  rintro e w5 ⟨A4, rfl, own, hb⟩
  have O4 := Lib.hid own.held
  replace BB := Lib.hid (BB.out.trans (hb.mono BB.out.size))
  replace BS := Lib.hid (BS.out.below hb)
  clear hb own p0 p1 p2 p3 p4 p5
  unfold slv
  go_upto_region 11 with (fail)
  obtain ⟨V4, hV⟩ : ∃ V, V = w5.alloc (.cells #[.int .i64 S3.seg, .slice A4.w S3.words.length A4.cw, .slice A4.k S3.keys.length A4.ck, .slice A4.v S3.vals.length A4.cv, .slice A4.c S3.counts.length A4.cc, .int .u64 (S3.laid : Int)] 27) := ⟨_, rfl⟩
  have hba : Below w5.heap.size w5 V4 := by rw [hV]; exact (Below.refl _ _).alloc (Nat.le_refl _) _
  have B4 := Lib.hid (show Box V4 w5.heap.size S3 A4 by rw [hV]; exact Box.new w5 S3 A4 27)
  first | rw [← hV] | skip
  replace BB := Lib.hid (BB.out.trans (hba.mono BB.out.size))
  replace BS := Lib.hid (BS.out.below hba)
  replace O4 := Lib.hid (O4.out.below hba)
  clear hV hba
  obtain ⟨_, p0, p1, p2, p3, p4, p5, _⟩ := B4.out
  rw [show S3.keys.length = 0 from by have := KL.out; omega] at p2
  go_wp2
  go_ret
  exact ⟨rfl, BB.out⟩
set_option maxRecDepth 100000 in
set_option maxHeartbeats 2000000 in
theorem great (s : Sl) (a : Ads) (t0 t1 size : Int) (pa : Option Addr) (pc : Nat) (ps : List (Int × Int)) (W : World) (h : Held W s a) (hok : s.Ok) (hT : Tab W) (hp : PLst W pa ps) (i0 : In64 t0) (i1 : In64 t1) (iz : In64 size) (h64 : In64P ps) (hg : s.greatB 300 = true) :
    Calls Tryd.prog 8 #[slv s a, .agg #[.int .i64 t0, .int .i64 t1], .int .i64 size, .slice pa ps.length pc] W fun e w' => e = .returned (.bool true) ∧ Below W.heap.size W w' := by
  have HG := Lib.hid hg
  have HA0 := Lib.hid h
  have HP0 := Lib.hid hp
  have TB0 := Lib.hid hT
  have BS0 := Lib.hid (fun o => (Box.new W s a 27).below ((Below.refl _ _).alloc (Nat.le_refl _) o))
  have PS0 := Lib.hid (fun o => PBox.second W o (t0, t1) 39)
  have BB0 := Lib.hid (fun o o' => ((Below.refl W.heap.size W).alloc (Nat.le_refl _) o).alloc (by simp) o')
  have CA := Lib.hid (fun o o' => lAlive ((W.alloc o).alloc o') (hT.below (BB0.out o o')))
  clear h hok hT hg hp h64 
  unfold slv
  go_enter Tryd.func8, Tryd.ntmps8
  go_wp2_with fail
  refine (CA.out _ _).mono ?_
  rintro e w0 ⟨rfl, hb⟩
  have BB := Lib.hid ((BB0.out _ _).trans (hb.mono (by simp; omega)))
  have BS := Lib.hid ((BS0.out _).below hb)
  have PS := Lib.hid ((PS0.out _).below hb)
  clear hb BB0 BS0 PS0 CA
  obtain ⟨_, p0, p1, p2, p3, p4, p5, _⟩ := BS.out
  go_wp2_with fail
  refine (r4Great s a 300 _).mono ?_
  rintro e w1 ⟨rfl, hb⟩
  rw [HG.out]
  replace BB := Lib.hid (BB.out.trans (hb.mono BB.out.size))
  replace BS := Lib.hid (BS.out.below hb)
  replace PS := Lib.hid (PS.out.below hb)
  clear hb p0 p1 p2 p3 p4 p5
  go_wp2
  go_ret
  exact ⟨rfl, BB.out⟩
set_option maxRecDepth 100000 in
set_option maxHeartbeats 2000000 in
theorem long (s : Sl) (a : Ads) (t0 t1 size : Int) (pa : Option Addr) (pc : Nat) (ps : List (Int × Int)) (W : World) (h : Held W s a) (hok : s.Ok) (hT : Tab W) (hp : PLst W pa ps) (i0 : In64 t0) (i1 : In64 t1) (iz : In64 size) (h64 : In64P ps) (hg : s.greatB 300 = false) (hn : ¬ ps.length ≤ 300) :
    Calls Tryd.prog 8 #[slv s a, .agg #[.int .i64 t0, .int .i64 t1], .int .i64 size, .slice pa ps.length pc] W fun e w' => e = .returned (.bool true) ∧ Below W.heap.size W w' := by
  have HG := Lib.hid hg
  have k1 : decide ((ps.length : Int) > 300) = true := by simp; omega
  have HA0 := Lib.hid h
  have HP0 := Lib.hid hp
  have TB0 := Lib.hid hT
  have BS0 := Lib.hid (fun o => (Box.new W s a 27).below ((Below.refl _ _).alloc (Nat.le_refl _) o))
  have PS0 := Lib.hid (fun o => PBox.second W o (t0, t1) 39)
  have BB0 := Lib.hid (fun o o' => ((Below.refl W.heap.size W).alloc (Nat.le_refl _) o).alloc (by simp) o')
  have CA := Lib.hid (fun o o' => lAlive ((W.alloc o).alloc o') (hT.below (BB0.out o o')))
  clear h hok hT hg hp h64 hn
  unfold slv
  go_enter Tryd.func8, Tryd.ntmps8
  go_wp2_with fail
  refine (CA.out _ _).mono ?_
  rintro e w0 ⟨rfl, hb⟩
  have BB := Lib.hid ((BB0.out _ _).trans (hb.mono (by simp; omega)))
  have BS := Lib.hid ((BS0.out _).below hb)
  have PS := Lib.hid ((PS0.out _).below hb)
  clear hb BB0 BS0 PS0 CA
  obtain ⟨_, p0, p1, p2, p3, p4, p5, _⟩ := BS.out
  go_wp2_with fail
  refine (r4Great s a 300 _).mono ?_
  rintro e w1 ⟨rfl, hb⟩
  rw [HG.out]
  replace BB := Lib.hid (BB.out.trans (hb.mono BB.out.size))
  replace BS := Lib.hid (BS.out.below hb)
  replace PS := Lib.hid (PS.out.below hb)
  clear hb p0 p1 p2 p3 p4 p5
  go_wp2
  go_ret
  exact ⟨rfl, BB.out⟩
set_option maxRecDepth 100000 in
set_option maxHeartbeats 2000000 in
theorem mid (s : Sl) (a : Ads) (t0 t1 size : Int) (pa : Option Addr) (pc : Nat) (ps : List (Int × Int)) (W : World) (h : Held W s a) (hok : s.Ok) (hT : Tab W) (hp : PLst W pa ps) (i0 : In64 t0) (i1 : In64 t1) (iz : In64 size) (h64 : In64P ps) (hg : s.greatB 300 = false) (hn : ps.length ≤ 300) (k2 : decide (size > 300) = true) (k4 : decide (size ≤ 65536) = true) :
    Calls Tryd.prog 8 #[slv s a, .agg #[.int .i64 t0, .int .i64 t1], .int .i64 size, .slice pa ps.length pc] W fun e w' => e = .returned (.bool true) ∧ Below W.heap.size W w' := by
  have HG := Lib.hid hg
  have k1 : decide ((ps.length : Int) > 300) = false := by simp; omega
  have HA0 := Lib.hid h
  have HP0 := Lib.hid hp
  have TB0 := Lib.hid hT
  have BS0 := Lib.hid (fun o => (Box.new W s a 27).below ((Below.refl _ _).alloc (Nat.le_refl _) o))
  have PS0 := Lib.hid (fun o => PBox.second W o (t0, t1) 39)
  have BB0 := Lib.hid (fun o o' => ((Below.refl W.heap.size W).alloc (Nat.le_refl _) o).alloc (by simp) o')
  have CA := Lib.hid (fun o o' => lAlive ((W.alloc o).alloc o') (hT.below (BB0.out o o')))
  clear h hok hT hg hp h64 hn
  unfold slv
  go_enter Tryd.func8, Tryd.ntmps8
  go_wp2_with fail
  refine (CA.out _ _).mono ?_
  rintro e w0 ⟨rfl, hb⟩
  have BB := Lib.hid ((BB0.out _ _).trans (hb.mono (by simp; omega)))
  have BS := Lib.hid ((BS0.out _).below hb)
  have PS := Lib.hid ((PS0.out _).below hb)
  clear hb BB0 BS0 PS0 CA
  obtain ⟨_, p0, p1, p2, p3, p4, p5, _⟩ := BS.out
  go_wp2_with fail
  refine (r4Great s a 300 _).mono ?_
  rintro e w1 ⟨rfl, hb⟩
  rw [HG.out]
  replace BB := Lib.hid (BB.out.trans (hb.mono BB.out.size))
  replace BS := Lib.hid (BS.out.below hb)
  replace PS := Lib.hid (PS.out.below hb)
  clear hb p0 p1 p2 p3 p4 p5
  go_wp2
  go_ret
  exact ⟨rfl, BB.out⟩
theorem far_no {s : Sl} {size : Int} (n : Nat) (h : 65536 < size) : Ly.intoE s size n ≠ 0 := by
  unfold Ly.intoE Ly.intoB
  have hf : Sl.fitsB s.seg size = false := by
    cases hf : Sl.fitsB s.seg size
    · rfl
    · obtain ⟨f1, f2, f3, f4, f5, f6, f7⟩ := fits_yes hf; omega
  rw [hf]
  cases s.mayB <;> simp
theorem walk (s : Sl) (a : Ads) (t0 t1 size : Int) (pa : Option Addr) (pc : Nat) (ps : List (Int × Int)) (W : World) (h : Held W s a) (hok : s.Ok) (hT : Tab W) (hp : PLst W pa ps) (i0 : In64 t0) (i1 : In64 t1) (iz : In64 size) (h64 : In64P ps) :
    Calls Tryd.prog 8 #[slv s a, .agg #[.int .i64 t0, .int .i64 t1], .int .i64 size, .slice pa ps.length pc] W fun e w' => e = .returned (.bool true) ∧ Below W.heap.size W w' := by
  cases hg : s.greatB 300
  · have hs : s.Short := by
      unfold Sl.greatB at hg
      simp only [Bool.or_eq_false_iff, decide_eq_false_iff_not] at hg
      exact ⟨by omega, by omega, by omega, by omega⟩
    by_cases hn : ps.length ≤ 300
    · by_cases h3 : size > 300
      · by_cases h4 : size ≤ 65536
        · exact mid s a t0 t1 size pa pc ps W h hok hT hp i0 i1 iz h64 hg hn (by simp; omega) (by simp; omega)
        · by_cases hE : s.pairsE t0 t1 = 0
          · exact farEN s a t0 t1 size pa pc ps W h hok hs hT hp i0 i1 iz h64 hg hn ⟨by simp; omega, by simp; omega⟩ hE (far_no _ (by omega))
          · exact farNN s a t0 t1 size pa pc ps W h hok hs hT hp i0 i1 iz h64 hg hn ⟨by simp; omega, by simp; omega⟩ hE (far_no _ (by omega))
      · have hk : decide (size > 300) = false := by simp; omega
        by_cases hE : s.pairsE t0 t1 = 0
        · by_cases hI : Ly.intoE s size ps.length = 0
          · exact nearEI s a t0 t1 size pa pc ps W h hok hs hT hp i0 i1 iz h64 hg hn hk hE hI
          · exact nearEN s a t0 t1 size pa pc ps W h hok hs hT hp i0 i1 iz h64 hg hn hk hE hI
        · by_cases hI : Ly.intoE s size ps.length = 0
          · exact nearNI s a t0 t1 size pa pc ps W h hok hs hT hp i0 i1 iz h64 hg hn hk hE hI
          · exact nearNN s a t0 t1 size pa pc ps W h hok hs hT hp i0 i1 iz h64 hg hn hk hE hI
    · exact long s a t0 t1 size pa pc ps W h hok hT hp i0 i1 iz h64 hg hn
  · exact great s a t0 t1 size pa pc ps W h hok hT hp i0 i1 iz h64 hg
end Go.Proofs.YtmmkaabefofdeaaDoor.laySame
