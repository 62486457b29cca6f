/- The walk of the law GapDense: what is answered is the config's. -/
import Derived.Test.YtgcdidklaiaohaaGreatDoorLaw09Ka
import Derived.Test.YtgcdidklaiaohaaGreatDoorM03Ka
import Derived.Test.YtgcdidklaiaohaaGreatDoorM07Ka
namespace Go.Proofs.YtgcdidklaiaohaaGreatDoor.gapDense
open Go.RowKit
set_option linter.unusedVariables false
set_option linter.unusedSimpArgs false
set_option maxRecDepth 100000 in
set_option maxHeartbeats 6000000 in
theorem w000 (c : Cf) (s : Sl) (a : Ads) (k : Int) (pa : Option Addr) (pc : Nat) (ps : List (Int × Int)) (W : World) (hc : c.In) (h : Held W s a) (hok : s.Ok) (hs : s.Short) (hT : Tab W) (hk : In64 k) (hp : PLst W pa ps) (h64 : In64P ps) (hg : s.greatB 600 = false) (hn : ps.length ≤ 300) (e1 : Gp.putE c s k ≠ 0) (e2 : Gp.takeE c s k ≠ 0) (e3 : Gp.loadE c s ps.length ≠ 0) :
    Calls Tryz.prog 6 #[cfv c, slv s a, .int .i64 k, .slice pa ps.length pc] W fun e w' => e = .returned (.bool true) ∧ Below W.heap.size W w' := by
  have HG := Lib.hid hg
  have k1 : decide ((ps.length : Int) > 300) = false := by simp; omega
  have i3 : In64 3 := i64s (by omega) (by omega); have i4 : In64 4 := i64s (by omega) (by omega); have HA := Lib.hid h; have HP := Lib.hid hp; have TB := Lib.hid hT; have BC0 := Lib.hid (fun o => (CBox.new W c 32).below ((Below.refl _ _).alloc (Nat.le_refl _) o)); have BS0 := Lib.hid (fun o => box_second W o s a 27); have BB0 := Lib.hid (fun o o' => ((Below.refl W.heap.size W).alloc (Nat.le_refl _) o).alloc (by simp) o'); have CA := Lib.hid (fun o o' => l9Alive ((W.alloc o).alloc o') (hT.below (BB0.out o o'))); have C1 := Lib.hid (show ∀ A V, Held V s A → Tab V → Calls Tryz.prog 12 #[cfv c, slv s A, .int .i64 k, .agg #[.int .i64 3, .int .i64 4]] V (Ans (Gp.putS c s k (3, 4)) (Gp.putE c s k) V) from fun A V hv tv => gPut c s A k 3 4 V hc hv hok hs tv hk i3 i4)
  have l1 : (((Gp.putS c s k (3, 4)).keys.length : Nat) : Int) = 0 := by rw [Gp.put_none e1]; rfl
  obtain ⟨E1, hE1⟩ : ∃ E, E = Gp.putE c s k := ⟨_, rfl⟩; obtain ⟨S1, hS1⟩ : ∃ S, S = Gp.putS c s k (3, 4) := ⟨_, rfl⟩; rw [← hE1] at C1 e1; rw [← hS1] at C1 l1; have L1 := Lib.hid l1
  have m1 : (E1 != 0) = true := by simp [e1]
  have n1 : (E1 == 0) = false := by simp [e1]
  clear hS1 hE1 l1; have C2 := Lib.hid (show ∀ A V, Held V s A → Tab V → Calls Tryz.prog 13 #[cfv c, slv s A, .int .i64 k] V (Ans (Gp.takeS c s k) (Gp.takeE c s k) V) from fun A V hv tv => gTake c s A k V hc hv hok hs tv hk)
  have l2 : (((Gp.takeS c s k).keys.length : Nat) : Int) = 0 := by rw [Gp.take_none e2]; rfl
  obtain ⟨E2, hE2⟩ : ∃ E, E = Gp.takeE c s k := ⟨_, rfl⟩; obtain ⟨S2, hS2⟩ : ∃ S, S = Gp.takeS c s k := ⟨_, rfl⟩; rw [← hE2] at C2 e2; rw [← hS2] at C2 l2; have L2 := Lib.hid l2
  have m2 : (E2 != 0) = true := by simp [e2]
  have n2 : (E2 == 0) = false := by simp [e2]
  clear hS2 hE2 l2; have C3 := Lib.hid (show ∀ A PA PC V, Held V s A → Tab V → PLst V PA ps → Calls Tryz.prog 11 #[cfv c, slv s A, .slice PA ps.length PC] V (Ans (Gp.loadS c s ps) (Gp.loadE c s ps.length) V) from fun A PA PC V hv tv hl => gLoad c s A PA PC ps V hc hv hok hs tv (by omega) hl h64)
  have l3 : (((Gp.loadS c s ps).keys.length : Nat) : Int) = 0 := by rw [Gp.load_none e3]; rfl
  obtain ⟨E3, hE3⟩ : ∃ E, E = Gp.loadE c s ps.length := ⟨_, rfl⟩; obtain ⟨S3, hS3⟩ : ∃ S, S = Gp.loadS c s ps := ⟨_, rfl⟩; rw [← hE3] at C3 e3; rw [← hS3] at C3 l3; have L3 := Lib.hid l3
  have m3 : (E3 != 0) = true := by simp [e3]
  have n3 : (E3 == 0) = false := by simp [e3]
  clear hS3 hE3 l3; clear h hok hs hT hp hg h64 hk hc i3 i4 e1 e2 e3; unfold slv cfv at C1 C2 C3 ; unfold slv cfv
  go_enter Tryz.func6, Tryz.ntmps6
  go_wp2_with fail
  refine (CA.out _ _).mono ?_; rintro e w0 ⟨rfl, hb⟩; have BB := Lib.hid ((BB0.out _ _).trans (hb.mono (by simp; omega))); have BC := Lib.hid ((BC0.out _).below hb); have BS := Lib.hid ((BS0.out _).below hb); replace HA := Lib.hid (HA.out.below BB.out); replace HP := Lib.hid (HP.out.below BB.out); replace TB := Lib.hid (TB.out.below BB.out); clear hb BB0 BS0 BC0 CA; obtain ⟨_, p0, p1, p2, p3, p4, p5, _⟩ := BS.out
  go_wp2_with fail
  refine (r4Great s a 600 _).mono ?_; rintro e w1 ⟨rfl, hb⟩; rw [HG.out]; replace BB := Lib.hid (BB.out.trans (hb.mono BB.out.size)); replace BC := Lib.hid (BC.out.below hb); replace BS := Lib.hid (BS.out.below hb); replace HA := Lib.hid (HA.out.below hb); replace HP := Lib.hid (HP.out.below hb); replace TB := Lib.hid (TB.out.below hb); clear hb p0 p1 p2 p3 p4 p5; obtain ⟨_, c0, c1, c2, c3, c4, c5, c6, c7, c8, _⟩ := BC.out; obtain ⟨_, p0, p1, p2, p3, p4, p5, _⟩ := BS.out
  go_wp2_with fail
  refine (C1.out a _ HA.out TB.out).mono ?_; rintro e x1 ⟨A1, rfl, own, hb⟩; have O1 := Lib.hid own.held; replace BB := Lib.hid (BB.out.trans (hb.mono BB.out.size)); replace BC := Lib.hid (BC.out.below hb); replace BS := Lib.hid (BS.out.below hb); replace HA := Lib.hid (HA.out.below hb); replace HP := Lib.hid (HP.out.below hb); replace TB := Lib.hid (TB.out.below hb); clear hb own; clear c0 c1 c2 c3 c4 c5 c6 c7 c8 p0 p1 p2 p3 p4 p5; unfold slv
  go_upto_region 5 with (fail)
  obtain ⟨V1, hV⟩ : ∃ V, V = x1.alloc (.cells #[.int .i64 S1.seg, .slice A1.w S1.words.length A1.cw, .slice A1.k S1.keys.length A1.ck, .slice A1.v S1.vals.length A1.cv, .slice A1.c S1.counts.length A1.cc, .int .u64 (S1.laid : Int)] 27) := ⟨_, rfl⟩
  have hba : Below x1.heap.size x1 V1 := by rw [hV]; exact (Below.refl _ _).alloc (Nat.le_refl _) _
  have B1 := Lib.hid (show Box V1 x1.heap.size S1 A1 by rw [hV]; exact Box.new x1 S1 A1 27)
  first | rw [← hV] | skip
  replace BB := Lib.hid (BB.out.trans (hba.mono BB.out.size)); replace BC := Lib.hid (BC.out.below hba); replace BS := Lib.hid (BS.out.below hba); replace HA := Lib.hid (HA.out.below hba); replace HP := Lib.hid (HP.out.below hba); replace TB := Lib.hid (TB.out.below hba); replace O1 := Lib.hid (O1.out.below hba); clear hV hba; obtain ⟨_, c0, c1, c2, c3, c4, c5, c6, c7, c8, _⟩ := BC.out; obtain ⟨_, p0, p1, p2, p3, p4, p5, _⟩ := BS.out
  go_wp2_with fail
  refine (C2.out a _ HA.out TB.out).mono ?_; rintro e x2 ⟨A2, rfl, own, hb⟩; have O2 := Lib.hid own.held; replace BB := Lib.hid (BB.out.trans (hb.mono BB.out.size)); replace BC := Lib.hid (BC.out.below hb); replace BS := Lib.hid (BS.out.below hb); replace HA := Lib.hid (HA.out.below hb); replace HP := Lib.hid (HP.out.below hb); replace TB := Lib.hid (TB.out.below hb); replace O1 := Lib.hid (O1.out.below hb); replace B1 := Lib.hid (B1.out.below hb); clear hb own; clear c0 c1 c2 c3 c4 c5 c6 c7 c8 p0 p1 p2 p3 p4 p5; unfold slv
  go_upto_region 6 with (fail)
  obtain ⟨V2, hV⟩ : ∃ V, V = x2.alloc (.cells #[.int .i64 S2.seg, .slice A2.w S2.words.length A2.cw, .slice A2.k S2.keys.length A2.ck, .slice A2.v S2.vals.length A2.cv, .slice A2.c S2.counts.length A2.cc, .int .u64 (S2.laid : Int)] 27) := ⟨_, rfl⟩
  have hba : Below x2.heap.size x2 V2 := by rw [hV]; exact (Below.refl _ _).alloc (Nat.le_refl _) _
  have B2 := Lib.hid (show Box V2 x2.heap.size S2 A2 by rw [hV]; exact Box.new x2 S2 A2 27)
  first | rw [← hV] | skip
  replace BB := Lib.hid (BB.out.trans (hba.mono BB.out.size)); replace BC := Lib.hid (BC.out.below hba); replace BS := Lib.hid (BS.out.below hba); replace HA := Lib.hid (HA.out.below hba); replace HP := Lib.hid (HP.out.below hba); replace TB := Lib.hid (TB.out.below hba); replace O1 := Lib.hid (O1.out.below hba); replace B1 := Lib.hid (B1.out.below hba); replace O2 := Lib.hid (O2.out.below hba); clear hV hba; obtain ⟨_, c0, c1, c2, c3, c4, c5, c6, c7, c8, _⟩ := BC.out; obtain ⟨_, p0, p1, p2, p3, p4, p5, _⟩ := BS.out
  go_wp2_with fail
  refine (C3.out a pa pc _ HA.out TB.out HP.out).mono ?_; rintro e x3 ⟨A3, rfl, own, hb⟩; have O3 := Lib.hid own.held; replace BB := Lib.hid (BB.out.trans (hb.mono BB.out.size)); replace BC := Lib.hid (BC.out.below hb); replace BS := Lib.hid (BS.out.below hb); replace HA := Lib.hid (HA.out.below hb); replace HP := Lib.hid (HP.out.below hb); replace TB := Lib.hid (TB.out.below hb); replace O1 := Lib.hid (O1.out.below hb); replace B1 := Lib.hid (B1.out.below hb); replace O2 := Lib.hid (O2.out.below hb); replace B2 := Lib.hid (B2.out.below hb); clear hb own; clear c0 c1 c2 c3 c4 c5 c6 c7 c8 p0 p1 p2 p3 p4 p5; unfold slv
  go_upto_region 7 with (fail)
  obtain ⟨V3, hV⟩ : ∃ V, V = x3.alloc (.cells #[.int .i64 S3.seg, .slice A3.w S3.words.length A3.cw, .slice A3.k S3.keys.length A3.ck, .slice A3.v S3.vals.length A3.cv, .slice A3.c S3.counts.length A3.cc, .int .u64 (S3.laid : Int)] 27) := ⟨_, rfl⟩
  have hba : Below x3.heap.size x3 V3 := by rw [hV]; exact (Below.refl _ _).alloc (Nat.le_refl _) _
  have B3 := Lib.hid (show Box V3 x3.heap.size S3 A3 by rw [hV]; exact Box.new x3 S3 A3 27)
  first | rw [← hV] | skip
  replace BB := Lib.hid (BB.out.trans (hba.mono BB.out.size)); replace BC := Lib.hid (BC.out.below hba); replace BS := Lib.hid (BS.out.below hba); replace HA := Lib.hid (HA.out.below hba); replace HP := Lib.hid (HP.out.below hba); replace TB := Lib.hid (TB.out.below hba); replace O1 := Lib.hid (O1.out.below hba); replace B1 := Lib.hid (B1.out.below hba); replace O2 := Lib.hid (O2.out.below hba); replace B2 := Lib.hid (B2.out.below hba); replace O3 := Lib.hid (O3.out.below hba); clear hV hba; clear HA HP BS; obtain ⟨_, c0, c1, c2, c3, c4, c5, c6, c7, c8, _⟩ := BC.out; obtain ⟨_, p0, p1, p2, p3, p4, p5, _⟩ := B1.out; rw [show S1.keys.length = 0 from by have := L1.out; omega] at p2
  go_upto_region 8 with (fail)
  clear c0 c1 c2 c3 c4 c5 c6 c7 c8 p0 p1 p2 p3 p4 p5; clear B1 O1; obtain ⟨_, c0, c1, c2, c3, c4, c5, c6, c7, c8, _⟩ := BC.out; obtain ⟨_, p0, p1, p2, p3, p4, p5, _⟩ := B2.out; rw [show S2.keys.length = 0 from by have := L2.out; omega] at p2
  go_upto_region 9 with (fail)
  clear c0 c1 c2 c3 c4 c5 c6 c7 c8 p0 p1 p2 p3 p4 p5; clear B2 O2; obtain ⟨_, c0, c1, c2, c3, c4, c5, c6, c7, c8, _⟩ := BC.out; obtain ⟨_, p0, p1, p2, p3, p4, p5, _⟩ := B3.out; rw [show S3.keys.length = 0 from by have := L3.out; omega] at p2
  go_upto_region 10 with (fail)
  clear c0 c1 c2 c3 c4 c5 c6 c7 c8 p0 p1 p2 p3 p4 p5; clear B3 O3; go_wp2; go_ret; exact ⟨rfl, BB.out⟩
set_option maxRecDepth 100000 in
set_option maxHeartbeats 6000000 in
theorem w001 (c : Cf) (s : Sl) (a : Ads) (k : Int) (pa : Option Addr) (pc : Nat) (ps : List (Int × Int)) (W : World) (hc : c.In) (h : Held W s a) (hok : s.Ok) (hs : s.Short) (hT : Tab W) (hk : In64 k) (hp : PLst W pa ps) (h64 : In64P ps) (hg : s.greatB 600 = false) (hn : ps.length ≤ 300) (e1 : Gp.putE c s k ≠ 0) (e2 : Gp.takeE c s k ≠ 0) (e3 : Gp.loadE c s ps.length = 0) :
    Calls Tryz.prog 6 #[cfv c, slv s a, .int .i64 k, .slice pa ps.length pc] W fun e w' => e = .returned (.bool true) ∧ Below W.heap.size W w' := by
  have HG := Lib.hid hg
  have k1 : decide ((ps.length : Int) > 300) = false := by simp; omega
  have i3 : In64 3 := i64s (by omega) (by omega); have i4 : In64 4 := i64s (by omega) (by omega); have HA := Lib.hid h; have HP := Lib.hid hp; have TB := Lib.hid hT; have BC0 := Lib.hid (fun o => (CBox.new W c 32).below ((Below.refl _ _).alloc (Nat.le_refl _) o)); have BS0 := Lib.hid (fun o => box_second W o s a 27); have BB0 := Lib.hid (fun o o' => ((Below.refl W.heap.size W).alloc (Nat.le_refl _) o).alloc (by simp) o'); have CA := Lib.hid (fun o o' => l9Alive ((W.alloc o).alloc o') (hT.below (BB0.out o o'))); have C1 := Lib.hid (show ∀ A V, Held V s A → Tab V → Calls Tryz.prog 12 #[cfv c, slv s A, .int .i64 k, .agg #[.int .i64 3, .int .i64 4]] V (Ans (Gp.putS c s k (3, 4)) (Gp.putE c s k) V) from fun A V hv tv => gPut c s A k 3 4 V hc hv hok hs tv hk i3 i4)
  have l1 : (((Gp.putS c s k (3, 4)).keys.length : Nat) : Int) = 0 := by rw [Gp.put_none e1]; rfl
  obtain ⟨E1, hE1⟩ : ∃ E, E = Gp.putE c s k := ⟨_, rfl⟩; obtain ⟨S1, hS1⟩ : ∃ S, S = Gp.putS c s k (3, 4) := ⟨_, rfl⟩; rw [← hE1] at C1 e1; rw [← hS1] at C1 l1; have L1 := Lib.hid l1
  have m1 : (E1 != 0) = true := by simp [e1]
  have n1 : (E1 == 0) = false := by simp [e1]
  clear hS1 hE1 l1; have C2 := Lib.hid (show ∀ A V, Held V s A → Tab V → Calls Tryz.prog 13 #[cfv c, slv s A, .int .i64 k] V (Ans (Gp.takeS c s k) (Gp.takeE c s k) V) from fun A V hv tv => gTake c s A k V hc hv hok hs tv hk)
  have l2 : (((Gp.takeS c s k).keys.length : Nat) : Int) = 0 := by rw [Gp.take_none e2]; rfl
  obtain ⟨E2, hE2⟩ : ∃ E, E = Gp.takeE c s k := ⟨_, rfl⟩; obtain ⟨S2, hS2⟩ : ∃ S, S = Gp.takeS c s k := ⟨_, rfl⟩; rw [← hE2] at C2 e2; rw [← hS2] at C2 l2; have L2 := Lib.hid l2
  have m2 : (E2 != 0) = true := by simp [e2]
  have n2 : (E2 == 0) = false := by simp [e2]
  clear hS2 hE2 l2; have C3 := Lib.hid (show ∀ A PA PC V, Held V s A → Tab V → PLst V PA ps → Calls Tryz.prog 11 #[cfv c, slv s A, .slice PA ps.length PC] V (Ans (Gp.loadS c s ps) (Gp.loadE c s ps.length) V) from fun A PA PC V hv tv hl => gLoad c s A PA PC ps V hc hv hok hs tv (by omega) hl h64); have F3 := Gp.load_fine (c := c) hok hs ps h64 ; have K3 := Lib.hid (show ∀ A V, Held V (Gp.loadS c s ps) A → Tab V → Calls Tryz.prog 15 #[cfv c, slv (Gp.loadS c s ps) A] V (fun e w' => e = .returned (.int .i64 0) ∧ Below V.heap.size V w') from fun A V hv tv => by have := gCheck c (Gp.loadS c s ps) A V hc hv F3.ok F3.short tv; rwa [Gp.load_chk hok e3] at this); rw [e3] at C3; obtain ⟨S3, hS3⟩ : ∃ S, S = Gp.loadS c s ps := ⟨_, rfl⟩; rw [← hS3] at C3 K3; clear hS3 F3; clear h hok hs hT hp hg h64 hk hc i3 i4 e1 e2 e3; unfold slv cfv at C1 C2 C3 K3; unfold slv cfv
  go_enter Tryz.func6, Tryz.ntmps6
  go_wp2_with fail
  refine (CA.out _ _).mono ?_; rintro e w0 ⟨rfl, hb⟩; have BB := Lib.hid ((BB0.out _ _).trans (hb.mono (by simp; omega))); have BC := Lib.hid ((BC0.out _).below hb); have BS := Lib.hid ((BS0.out _).below hb); replace HA := Lib.hid (HA.out.below BB.out); replace HP := Lib.hid (HP.out.below BB.out); replace TB := Lib.hid (TB.out.below BB.out); clear hb BB0 BS0 BC0 CA; obtain ⟨_, p0, p1, p2, p3, p4, p5, _⟩ := BS.out
  go_wp2_with fail
  refine (r4Great s a 600 _).mono ?_; rintro e w1 ⟨rfl, hb⟩; rw [HG.out]; replace BB := Lib.hid (BB.out.trans (hb.mono BB.out.size)); replace BC := Lib.hid (BC.out.below hb); replace BS := Lib.hid (BS.out.below hb); replace HA := Lib.hid (HA.out.below hb); replace HP := Lib.hid (HP.out.below hb); replace TB := Lib.hid (TB.out.below hb); clear hb p0 p1 p2 p3 p4 p5; obtain ⟨_, c0, c1, c2, c3, c4, c5, c6, c7, c8, _⟩ := BC.out; obtain ⟨_, p0, p1, p2, p3, p4, p5, _⟩ := BS.out
  go_wp2_with fail
  refine (C1.out a _ HA.out TB.out).mono ?_; rintro e x1 ⟨A1, rfl, own, hb⟩; have O1 := Lib.hid own.held; replace BB := Lib.hid (BB.out.trans (hb.mono BB.out.size)); replace BC := Lib.hid (BC.out.below hb); replace BS := Lib.hid (BS.out.below hb); replace HA := Lib.hid (HA.out.below hb); replace HP := Lib.hid (HP.out.below hb); replace TB := Lib.hid (TB.out.below hb); clear hb own; clear c0 c1 c2 c3 c4 c5 c6 c7 c8 p0 p1 p2 p3 p4 p5; unfold slv
  go_upto_region 5 with (fail)
  obtain ⟨V1, hV⟩ : ∃ V, V = x1.alloc (.cells #[.int .i64 S1.seg, .slice A1.w S1.words.length A1.cw, .slice A1.k S1.keys.length A1.ck, .slice A1.v S1.vals.length A1.cv, .slice A1.c S1.counts.length A1.cc, .int .u64 (S1.laid : Int)] 27) := ⟨_, rfl⟩
  have hba : Below x1.heap.size x1 V1 := by rw [hV]; exact (Below.refl _ _).alloc (Nat.le_refl _) _
  have B1 := Lib.hid (show Box V1 x1.heap.size S1 A1 by rw [hV]; exact Box.new x1 S1 A1 27)
  first | rw [← hV] | skip
  replace BB := Lib.hid (BB.out.trans (hba.mono BB.out.size)); replace BC := Lib.hid (BC.out.below hba); replace BS := Lib.hid (BS.out.below hba); replace HA := Lib.hid (HA.out.below hba); replace HP := Lib.hid (HP.out.below hba); replace TB := Lib.hid (TB.out.below hba); replace O1 := Lib.hid (O1.out.below hba); clear hV hba; obtain ⟨_, c0, c1, c2, c3, c4, c5, c6, c7, c8, _⟩ := BC.out; obtain ⟨_, p0, p1, p2, p3, p4, p5, _⟩ := BS.out
  go_wp2_with fail
  refine (C2.out a _ HA.out TB.out).mono ?_; rintro e x2 ⟨A2, rfl, own, hb⟩; have O2 := Lib.hid own.held; replace BB := Lib.hid (BB.out.trans (hb.mono BB.out.size)); replace BC := Lib.hid (BC.out.below hb); replace BS := Lib.hid (BS.out.below hb); replace HA := Lib.hid (HA.out.below hb); replace HP := Lib.hid (HP.out.below hb); replace TB := Lib.hid (TB.out.below hb); replace O1 := Lib.hid (O1.out.below hb); replace B1 := Lib.hid (B1.out.below hb); clear hb own; clear c0 c1 c2 c3 c4 c5 c6 c7 c8 p0 p1 p2 p3 p4 p5; unfold slv
  go_upto_region 6 with (fail)
  obtain ⟨V2, hV⟩ : ∃ V, V = x2.alloc (.cells #[.int .i64 S2.seg, .slice A2.w S2.words.length A2.cw, .slice A2.k S2.keys.length A2.ck, .slice A2.v S2.vals.length A2.cv, .slice A2.c S2.counts.length A2.cc, .int .u64 (S2.laid : Int)] 27) := ⟨_, rfl⟩
  have hba : Below x2.heap.size x2 V2 := by rw [hV]; exact (Below.refl _ _).alloc (Nat.le_refl _) _
  have B2 := Lib.hid (show Box V2 x2.heap.size S2 A2 by rw [hV]; exact Box.new x2 S2 A2 27)
  first | rw [← hV] | skip
  replace BB := Lib.hid (BB.out.trans (hba.mono BB.out.size)); replace BC := Lib.hid (BC.out.below hba); replace BS := Lib.hid (BS.out.below hba); replace HA := Lib.hid (HA.out.below hba); replace HP := Lib.hid (HP.out.below hba); replace TB := Lib.hid (TB.out.below hba); replace O1 := Lib.hid (O1.out.below hba); replace B1 := Lib.hid (B1.out.below hba); replace O2 := Lib.hid (O2.out.below hba); clear hV hba; obtain ⟨_, c0, c1, c2, c3, c4, c5, c6, c7, c8, _⟩ := BC.out; obtain ⟨_, p0, p1, p2, p3, p4, p5, _⟩ := BS.out
  go_wp2_with fail
  refine (C3.out a pa pc _ HA.out TB.out HP.out).mono ?_; rintro e x3 ⟨A3, rfl, own, hb⟩; have O3 := Lib.hid own.held; replace BB := Lib.hid (BB.out.trans (hb.mono BB.out.size)); replace BC := Lib.hid (BC.out.below hb); replace BS := Lib.hid (BS.out.below hb); replace HA := Lib.hid (HA.out.below hb); replace HP := Lib.hid (HP.out.below hb); replace TB := Lib.hid (TB.out.below hb); replace O1 := Lib.hid (O1.out.below hb); replace B1 := Lib.hid (B1.out.below hb); replace O2 := Lib.hid (O2.out.below hb); replace B2 := Lib.hid (B2.out.below hb); clear hb own; clear c0 c1 c2 c3 c4 c5 c6 c7 c8 p0 p1 p2 p3 p4 p5; unfold slv
  go_upto_region 7 with (fail)
  obtain ⟨V3, hV⟩ : ∃ V, V = x3.alloc (.cells #[.int .i64 S3.seg, .slice A3.w S3.words.length A3.cw, .slice A3.k S3.keys.length A3.ck, .slice A3.v S3.vals.length A3.cv, .slice A3.c S3.counts.length A3.cc, .int .u64 (S3.laid : Int)] 27) := ⟨_, rfl⟩
  have hba : Below x3.heap.size x3 V3 := by rw [hV]; exact (Below.refl _ _).alloc (Nat.le_refl _) _
  have B3 := Lib.hid (show Box V3 x3.heap.size S3 A3 by rw [hV]; exact Box.new x3 S3 A3 27)
  first | rw [← hV] | skip
  replace BB := Lib.hid (BB.out.trans (hba.mono BB.out.size)); replace BC := Lib.hid (BC.out.below hba); replace BS := Lib.hid (BS.out.below hba); replace HA := Lib.hid (HA.out.below hba); replace HP := Lib.hid (HP.out.below hba); replace TB := Lib.hid (TB.out.below hba); replace O1 := Lib.hid (O1.out.below hba); replace B1 := Lib.hid (B1.out.below hba); replace O2 := Lib.hid (O2.out.below hba); replace B2 := Lib.hid (B2.out.below hba); replace O3 := Lib.hid (O3.out.below hba); clear hV hba; clear HA HP BS; obtain ⟨_, c0, c1, c2, c3, c4, c5, c6, c7, c8, _⟩ := BC.out; obtain ⟨_, p0, p1, p2, p3, p4, p5, _⟩ := B1.out; rw [show S1.keys.length = 0 from by have := L1.out; omega] at p2
  go_upto_region 8 with (fail)
  clear c0 c1 c2 c3 c4 c5 c6 c7 c8 p0 p1 p2 p3 p4 p5; clear B1 O1; obtain ⟨_, c0, c1, c2, c3, c4, c5, c6, c7, c8, _⟩ := BC.out; obtain ⟨_, p0, p1, p2, p3, p4, p5, _⟩ := B2.out; rw [show S2.keys.length = 0 from by have := L2.out; omega] at p2
  go_upto_region 9 with (fail)
  clear c0 c1 c2 c3 c4 c5 c6 c7 c8 p0 p1 p2 p3 p4 p5; clear B2 O2; obtain ⟨_, c0, c1, c2, c3, c4, c5, c6, c7, c8, _⟩ := BC.out; obtain ⟨_, p0, p1, p2, p3, p4, p5, _⟩ := B3.out
  go_wp2_with fail
  refine (K3.out A3 _ O3.out TB.out).mono ?_; rintro e y3 ⟨rfl, hb⟩; replace BB := Lib.hid (BB.out.trans (hb.mono BB.out.size)); replace BC := Lib.hid (BC.out.below hb); replace TB := Lib.hid (TB.out.below hb); replace O3 := Lib.hid (O3.out.below hb); replace B3 := Lib.hid (B3.out.below hb); clear hb; clear c0 c1 c2 c3 c4 c5 c6 c7 c8 p0 p1 p2 p3 p4 p5; clear B3 O3; go_wp2; go_ret; exact ⟨rfl, BB.out⟩
set_option maxRecDepth 100000 in
set_option maxHeartbeats 6000000 in
theorem w010 (c : Cf) (s : Sl) (a : Ads) (k : Int) (pa : Option Addr) (pc : Nat) (ps : List (Int × Int)) (W : World) (hc : c.In) (h : Held W s a) (hok : s.Ok) (hs : s.Short) (hT : Tab W) (hk : In64 k) (hp : PLst W pa ps) (h64 : In64P ps) (hg : s.greatB 600 = false) (hn : ps.length ≤ 300) (e1 : Gp.putE c s k ≠ 0) (e2 : Gp.takeE c s k = 0) (e3 : Gp.loadE c s ps.length ≠ 0) :
    Calls Tryz.prog 6 #[cfv c, slv s a, .int .i64 k, .slice pa ps.length pc] W fun e w' => e = .returned (.bool true) ∧ Below W.heap.size W w' := by
  have HG := Lib.hid hg
  have k1 : decide ((ps.length : Int) > 300) = false := by simp; omega
  have i3 : In64 3 := i64s (by omega) (by omega); have i4 : In64 4 := i64s (by omega) (by omega); have HA := Lib.hid h; have HP := Lib.hid hp; have TB := Lib.hid hT; have BC0 := Lib.hid (fun o => (CBox.new W c 32).below ((Below.refl _ _).alloc (Nat.le_refl _) o)); have BS0 := Lib.hid (fun o => box_second W o s a 27); have BB0 := Lib.hid (fun o o' => ((Below.refl W.heap.size W).alloc (Nat.le_refl _) o).alloc (by simp) o'); have CA := Lib.hid (fun o o' => l9Alive ((W.alloc o).alloc o') (hT.below (BB0.out o o'))); have C1 := Lib.hid (show ∀ A V, Held V s A → Tab V → Calls Tryz.prog 12 #[cfv c, slv s A, .int .i64 k, .agg #[.int .i64 3, .int .i64 4]] V (Ans (Gp.putS c s k (3, 4)) (Gp.putE c s k) V) from fun A V hv tv => gPut c s A k 3 4 V hc hv hok hs tv hk i3 i4)
  have l1 : (((Gp.putS c s k (3, 4)).keys.length : Nat) : Int) = 0 := by rw [Gp.put_none e1]; rfl
  obtain ⟨E1, hE1⟩ : ∃ E, E = Gp.putE c s k := ⟨_, rfl⟩; obtain ⟨S1, hS1⟩ : ∃ S, S = Gp.putS c s k (3, 4) := ⟨_, rfl⟩; rw [← hE1] at C1 e1; rw [← hS1] at C1 l1; have L1 := Lib.hid l1
  have m1 : (E1 != 0) = true := by simp [e1]
  have n1 : (E1 == 0) = false := by simp [e1]
  clear hS1 hE1 l1; have C2 := Lib.hid (show ∀ A V, Held V s A → Tab V → Calls Tryz.prog 13 #[cfv c, slv s A, .int .i64 k] V (Ans (Gp.takeS c s k) (Gp.takeE c s k) V) from fun A V hv tv => gTake c s A k V hc hv hok hs tv hk); have F2 := Gp.take_fine (c := c) hok hs k ; have K2 := Lib.hid (show ∀ A V, Held V (Gp.takeS c s k) A → Tab V → Calls Tryz.prog 15 #[cfv c, slv (Gp.takeS c s k) A] V (fun e w' => e = .returned (.int .i64 0) ∧ Below V.heap.size V w') from fun A V hv tv => by have := gCheck c (Gp.takeS c s k) A V hc hv F2.ok F2.short tv; rwa [Gp.take_chk hok e2] at this); rw [e2] at C2; obtain ⟨S2, hS2⟩ : ∃ S, S = Gp.takeS c s k := ⟨_, rfl⟩; rw [← hS2] at C2 K2; clear hS2 F2; have C3 := Lib.hid (show ∀ A PA PC V, Held V s A → Tab V → PLst V PA ps → Calls Tryz.prog 11 #[cfv c, slv s A, .slice PA ps.length PC] V (Ans (Gp.loadS c s ps) (Gp.loadE c s ps.length) V) from fun A PA PC V hv tv hl => gLoad c s A PA PC ps V hc hv hok hs tv (by omega) hl h64)
  have l3 : (((Gp.loadS c s ps).keys.length : Nat) : Int) = 0 := by rw [Gp.load_none e3]; rfl
  obtain ⟨E3, hE3⟩ : ∃ E, E = Gp.loadE c s ps.length := ⟨_, rfl⟩; obtain ⟨S3, hS3⟩ : ∃ S, S = Gp.loadS c s ps := ⟨_, rfl⟩; rw [← hE3] at C3 e3; rw [← hS3] at C3 l3; have L3 := Lib.hid l3
  have m3 : (E3 != 0) = true := by simp [e3]
  have n3 : (E3 == 0) = false := by simp [e3]
  clear hS3 hE3 l3; clear h hok hs hT hp hg h64 hk hc i3 i4 e1 e2 e3; unfold slv cfv at C1 C2 C3 K2; unfold slv cfv
  go_enter Tryz.func6, Tryz.ntmps6
  go_wp2_with fail
  refine (CA.out _ _).mono ?_; rintro e w0 ⟨rfl, hb⟩; have BB := Lib.hid ((BB0.out _ _).trans (hb.mono (by simp; omega))); have BC := Lib.hid ((BC0.out _).below hb); have BS := Lib.hid ((BS0.out _).below hb); replace HA := Lib.hid (HA.out.below BB.out); replace HP := Lib.hid (HP.out.below BB.out); replace TB := Lib.hid (TB.out.below BB.out); clear hb BB0 BS0 BC0 CA; obtain ⟨_, p0, p1, p2, p3, p4, p5, _⟩ := BS.out
  go_wp2_with fail
  refine (r4Great s a 600 _).mono ?_; rintro e w1 ⟨rfl, hb⟩; rw [HG.out]; replace BB := Lib.hid (BB.out.trans (hb.mono BB.out.size)); replace BC := Lib.hid (BC.out.below hb); replace BS := Lib.hid (BS.out.below hb); replace HA := Lib.hid (HA.out.below hb); replace HP := Lib.hid (HP.out.below hb); replace TB := Lib.hid (TB.out.below hb); clear hb p0 p1 p2 p3 p4 p5; obtain ⟨_, c0, c1, c2, c3, c4, c5, c6, c7, c8, _⟩ := BC.out; obtain ⟨_, p0, p1, p2, p3, p4, p5, _⟩ := BS.out
  go_wp2_with fail
  refine (C1.out a _ HA.out TB.out).mono ?_; rintro e x1 ⟨A1, rfl, own, hb⟩; have O1 := Lib.hid own.held; replace BB := Lib.hid (BB.out.trans (hb.mono BB.out.size)); replace BC := Lib.hid (BC.out.below hb); replace BS := Lib.hid (BS.out.below hb); replace HA := Lib.hid (HA.out.below hb); replace HP := Lib.hid (HP.out.below hb); replace TB := Lib.hid (TB.out.below hb); clear hb own; clear c0 c1 c2 c3 c4 c5 c6 c7 c8 p0 p1 p2 p3 p4 p5; unfold slv
  go_upto_region 5 with (fail)
  obtain ⟨V1, hV⟩ : ∃ V, V = x1.alloc (.cells #[.int .i64 S1.seg, .slice A1.w S1.words.length A1.cw, .slice A1.k S1.keys.length A1.ck, .slice A1.v S1.vals.length A1.cv, .slice A1.c S1.counts.length A1.cc, .int .u64 (S1.laid : Int)] 27) := ⟨_, rfl⟩
  have hba : Below x1.heap.size x1 V1 := by rw [hV]; exact (Below.refl _ _).alloc (Nat.le_refl _) _
  have B1 := Lib.hid (show Box V1 x1.heap.size S1 A1 by rw [hV]; exact Box.new x1 S1 A1 27)
  first | rw [← hV] | skip
  replace BB := Lib.hid (BB.out.trans (hba.mono BB.out.size)); replace BC := Lib.hid (BC.out.below hba); replace BS := Lib.hid (BS.out.below hba); replace HA := Lib.hid (HA.out.below hba); replace HP := Lib.hid (HP.out.below hba); replace TB := Lib.hid (TB.out.below hba); replace O1 := Lib.hid (O1.out.below hba); clear hV hba; obtain ⟨_, c0, c1, c2, c3, c4, c5, c6, c7, c8, _⟩ := BC.out; obtain ⟨_, p0, p1, p2, p3, p4, p5, _⟩ := BS.out
  go_wp2_with fail
  refine (C2.out a _ HA.out TB.out).mono ?_; rintro e x2 ⟨A2, rfl, own, hb⟩; have O2 := Lib.hid own.held; replace BB := Lib.hid (BB.out.trans (hb.mono BB.out.size)); replace BC := Lib.hid (BC.out.below hb); replace BS := Lib.hid (BS.out.below hb); replace HA := Lib.hid (HA.out.below hb); replace HP := Lib.hid (HP.out.below hb); replace TB := Lib.hid (TB.out.below hb); replace O1 := Lib.hid (O1.out.below hb); replace B1 := Lib.hid (B1.out.below hb); clear hb own; clear c0 c1 c2 c3 c4 c5 c6 c7 c8 p0 p1 p2 p3 p4 p5; unfold slv
  go_upto_region 6 with (fail)
  obtain ⟨V2, hV⟩ : ∃ V, V = x2.alloc (.cells #[.int .i64 S2.seg, .slice A2.w S2.words.length A2.cw, .slice A2.k S2.keys.length A2.ck, .slice A2.v S2.vals.length A2.cv, .slice A2.c S2.counts.length A2.cc, .int .u64 (S2.laid : Int)] 27) := ⟨_, rfl⟩
  have hba : Below x2.heap.size x2 V2 := by rw [hV]; exact (Below.refl _ _).alloc (Nat.le_refl _) _
  have B2 := Lib.hid (show Box V2 x2.heap.size S2 A2 by rw [hV]; exact Box.new x2 S2 A2 27)
  first | rw [← hV] | skip
  replace BB := Lib.hid (BB.out.trans (hba.mono BB.out.size)); replace BC := Lib.hid (BC.out.below hba); replace BS := Lib.hid (BS.out.below hba); replace HA := Lib.hid (HA.out.below hba); replace HP := Lib.hid (HP.out.below hba); replace TB := Lib.hid (TB.out.below hba); replace O1 := Lib.hid (O1.out.below hba); replace B1 := Lib.hid (B1.out.below hba); replace O2 := Lib.hid (O2.out.below hba); clear hV hba; obtain ⟨_, c0, c1, c2, c3, c4, c5, c6, c7, c8, _⟩ := BC.out; obtain ⟨_, p0, p1, p2, p3, p4, p5, _⟩ := BS.out
  go_wp2_with fail
  refine (C3.out a pa pc _ HA.out TB.out HP.out).mono ?_; rintro e x3 ⟨A3, rfl, own, hb⟩; have O3 := Lib.hid own.held; replace BB := Lib.hid (BB.out.trans (hb.mono BB.out.size)); replace BC := Lib.hid (BC.out.below hb); replace BS := Lib.hid (BS.out.below hb); replace HA := Lib.hid (HA.out.below hb); replace HP := Lib.hid (HP.out.below hb); replace TB := Lib.hid (TB.out.below hb); replace O1 := Lib.hid (O1.out.below hb); replace B1 := Lib.hid (B1.out.below hb); replace O2 := Lib.hid (O2.out.below hb); replace B2 := Lib.hid (B2.out.below hb); clear hb own; clear c0 c1 c2 c3 c4 c5 c6 c7 c8 p0 p1 p2 p3 p4 p5; unfold slv
  go_upto_region 7 with (fail)
  obtain ⟨V3, hV⟩ : ∃ V, V = x3.alloc (.cells #[.int .i64 S3.seg, .slice A3.w S3.words.length A3.cw, .slice A3.k S3.keys.length A3.ck, .slice A3.v S3.vals.length A3.cv, .slice A3.c S3.counts.length A3.cc, .int .u64 (S3.laid : Int)] 27) := ⟨_, rfl⟩
  have hba : Below x3.heap.size x3 V3 := by rw [hV]; exact (Below.refl _ _).alloc (Nat.le_refl _) _
  have B3 := Lib.hid (show Box V3 x3.heap.size S3 A3 by rw [hV]; exact Box.new x3 S3 A3 27)
  first | rw [← hV] | skip
  replace BB := Lib.hid (BB.out.trans (hba.mono BB.out.size)); replace BC := Lib.hid (BC.out.below hba); replace BS := Lib.hid (BS.out.below hba); replace HA := Lib.hid (HA.out.below hba); replace HP := Lib.hid (HP.out.below hba); replace TB := Lib.hid (TB.out.below hba); replace O1 := Lib.hid (O1.out.below hba); replace B1 := Lib.hid (B1.out.below hba); replace O2 := Lib.hid (O2.out.below hba); replace B2 := Lib.hid (B2.out.below hba); replace O3 := Lib.hid (O3.out.below hba); clear hV hba; clear HA HP BS; obtain ⟨_, c0, c1, c2, c3, c4, c5, c6, c7, c8, _⟩ := BC.out; obtain ⟨_, p0, p1, p2, p3, p4, p5, _⟩ := B1.out; rw [show S1.keys.length = 0 from by have := L1.out; omega] at p2
  go_upto_region 8 with (fail)
  clear c0 c1 c2 c3 c4 c5 c6 c7 c8 p0 p1 p2 p3 p4 p5; clear B1 O1; obtain ⟨_, c0, c1, c2, c3, c4, c5, c6, c7, c8, _⟩ := BC.out; obtain ⟨_, p0, p1, p2, p3, p4, p5, _⟩ := B2.out
  go_wp2_with fail
  refine (K2.out A2 _ O2.out TB.out).mono ?_; rintro e y2 ⟨rfl, hb⟩; replace BB := Lib.hid (BB.out.trans (hb.mono BB.out.size)); replace BC := Lib.hid (BC.out.below hb); replace TB := Lib.hid (TB.out.below hb); replace O2 := Lib.hid (O2.out.below hb); replace B2 := Lib.hid (B2.out.below hb); replace O3 := Lib.hid (O3.out.below hb); replace B3 := Lib.hid (B3.out.below hb); clear hb; clear c0 c1 c2 c3 c4 c5 c6 c7 c8 p0 p1 p2 p3 p4 p5; clear B2 O2; obtain ⟨_, c0, c1, c2, c3, c4, c5, c6, c7, c8, _⟩ := BC.out; obtain ⟨_, p0, p1, p2, p3, p4, p5, _⟩ := B3.out; rw [show S3.keys.length = 0 from by have := L3.out; omega] at p2
  go_upto_region 10 with (fail)
  clear c0 c1 c2 c3 c4 c5 c6 c7 c8 p0 p1 p2 p3 p4 p5; clear B3 O3; go_wp2; go_ret; exact ⟨rfl, BB.out⟩
set_option maxRecDepth 100000 in
set_option maxHeartbeats 6000000 in
theorem w011 (c : Cf) (s : Sl) (a : Ads) (k : Int) (pa : Option Addr) (pc : Nat) (ps : List (Int × Int)) (W : World) (hc : c.In) (h : Held W s a) (hok : s.Ok) (hs : s.Short) (hT : Tab W) (hk : In64 k) (hp : PLst W pa ps) (h64 : In64P ps) (hg : s.greatB 600 = false) (hn : ps.length ≤ 300) (e1 : Gp.putE c s k ≠ 0) (e2 : Gp.takeE c s k = 0) (e3 : Gp.loadE c s ps.length = 0) :
    Calls Tryz.prog 6 #[cfv c, slv s a, .int .i64 k, .slice pa ps.length pc] W fun e w' => e = .returned (.bool true) ∧ Below W.heap.size W w' := by
  have HG := Lib.hid hg
  have k1 : decide ((ps.length : Int) > 300) = false := by simp; omega
  have i3 : In64 3 := i64s (by omega) (by omega); have i4 : In64 4 := i64s (by omega) (by omega); have HA := Lib.hid h; have HP := Lib.hid hp; have TB := Lib.hid hT; have BC0 := Lib.hid (fun o => (CBox.new W c 32).below ((Below.refl _ _).alloc (Nat.le_refl _) o)); have BS0 := Lib.hid (fun o => box_second W o s a 27); have BB0 := Lib.hid (fun o o' => ((Below.refl W.heap.size W).alloc (Nat.le_refl _) o).alloc (by simp) o'); have CA := Lib.hid (fun o o' => l9Alive ((W.alloc o).alloc o') (hT.below (BB0.out o o'))); have C1 := Lib.hid (show ∀ A V, Held V s A → Tab V → Calls Tryz.prog 12 #[cfv c, slv s A, .int .i64 k, .agg #[.int .i64 3, .int .i64 4]] V (Ans (Gp.putS c s k (3, 4)) (Gp.putE c s k) V) from fun A V hv tv => gPut c s A k 3 4 V hc hv hok hs tv hk i3 i4)
  have l1 : (((Gp.putS c s k (3, 4)).keys.length : Nat) : Int) = 0 := by rw [Gp.put_none e1]; rfl
  obtain ⟨E1, hE1⟩ : ∃ E, E = Gp.putE c s k := ⟨_, rfl⟩; obtain ⟨S1, hS1⟩ : ∃ S, S = Gp.putS c s k (3, 4) := ⟨_, rfl⟩; rw [← hE1] at C1 e1; rw [← hS1] at C1 l1; have L1 := Lib.hid l1
  have m1 : (E1 != 0) = true := by simp [e1]
  have n1 : (E1 == 0) = false := by simp [e1]
  clear hS1 hE1 l1; have C2 := Lib.hid (show ∀ A V, Held V s A → Tab V → Calls Tryz.prog 13 #[cfv c, slv s A, .int .i64 k] V (Ans (Gp.takeS c s k) (Gp.takeE c s k) V) from fun A V hv tv => gTake c s A k V hc hv hok hs tv hk); have F2 := Gp.take_fine (c := c) hok hs k ; have K2 := Lib.hid (show ∀ A V, Held V (Gp.takeS c s k) A → Tab V → Calls Tryz.prog 15 #[cfv c, slv (Gp.takeS c s k) A] V (fun e w' => e = .returned (.int .i64 0) ∧ Below V.heap.size V w') from fun A V hv tv => by have := gCheck c (Gp.takeS c s k) A V hc hv F2.ok F2.short tv; rwa [Gp.take_chk hok e2] at this); rw [e2] at C2; obtain ⟨S2, hS2⟩ : ∃ S, S = Gp.takeS c s k := ⟨_, rfl⟩; rw [← hS2] at C2 K2; clear hS2 F2; have C3 := Lib.hid (show ∀ A PA PC V, Held V s A → Tab V → PLst V PA ps → Calls Tryz.prog 11 #[cfv c, slv s A, .slice PA ps.length PC] V (Ans (Gp.loadS c s ps) (Gp.loadE c s ps.length) V) from fun A PA PC V hv tv hl => gLoad c s A PA PC ps V hc hv hok hs tv (by omega) hl h64); have F3 := Gp.load_fine (c := c) hok hs ps h64 ; have K3 := Lib.hid (show ∀ A V, Held V (Gp.loadS c s ps) A → Tab V → Calls Tryz.prog 15 #[cfv c, slv (Gp.loadS c s ps) A] V (fun e w' => e = .returned (.int .i64 0) ∧ Below V.heap.size V w') from fun A V hv tv => by have := gCheck c (Gp.loadS c s ps) A V hc hv F3.ok F3.short tv; rwa [Gp.load_chk hok e3] at this); rw [e3] at C3; obtain ⟨S3, hS3⟩ : ∃ S, S = Gp.loadS c s ps := ⟨_, rfl⟩; rw [← hS3] at C3 K3; clear hS3 F3; clear h hok hs hT hp hg h64 hk hc i3 i4 e1 e2 e3; unfold slv cfv at C1 C2 C3 K2 K3
  unfold slv cfv
  go_enter Tryz.func6, Tryz.ntmps6
  go_wp2_with fail
  refine (CA.out _ _).mono ?_; rintro e w0 ⟨rfl, hb⟩; have BB := Lib.hid ((BB0.out _ _).trans (hb.mono (by simp; omega))); have BC := Lib.hid ((BC0.out _).below hb); have BS := Lib.hid ((BS0.out _).below hb); replace HA := Lib.hid (HA.out.below BB.out); replace HP := Lib.hid (HP.out.below BB.out); replace TB := Lib.hid (TB.out.below BB.out); clear hb BB0 BS0 BC0 CA; obtain ⟨_, p0, p1, p2, p3, p4, p5, _⟩ := BS.out
  go_wp2_with fail
  refine (r4Great s a 600 _).mono ?_; rintro e w1 ⟨rfl, hb⟩; rw [HG.out]; replace BB := Lib.hid (BB.out.trans (hb.mono BB.out.size)); replace BC := Lib.hid (BC.out.below hb); replace BS := Lib.hid (BS.out.below hb); replace HA := Lib.hid (HA.out.below hb); replace HP := Lib.hid (HP.out.below hb); replace TB := Lib.hid (TB.out.below hb); clear hb p0 p1 p2 p3 p4 p5; obtain ⟨_, c0, c1, c2, c3, c4, c5, c6, c7, c8, _⟩ := BC.out; obtain ⟨_, p0, p1, p2, p3, p4, p5, _⟩ := BS.out
  go_wp2_with fail
  refine (C1.out a _ HA.out TB.out).mono ?_; rintro e x1 ⟨A1, rfl, own, hb⟩; have O1 := Lib.hid own.held; replace BB := Lib.hid (BB.out.trans (hb.mono BB.out.size)); replace BC := Lib.hid (BC.out.below hb); replace BS := Lib.hid (BS.out.below hb); replace HA := Lib.hid (HA.out.below hb); replace HP := Lib.hid (HP.out.below hb); replace TB := Lib.hid (TB.out.below hb); clear hb own; clear c0 c1 c2 c3 c4 c5 c6 c7 c8 p0 p1 p2 p3 p4 p5; unfold slv
  go_upto_region 5 with (fail)
  obtain ⟨V1, hV⟩ : ∃ V, V = x1.alloc (.cells #[.int .i64 S1.seg, .slice A1.w S1.words.length A1.cw, .slice A1.k S1.keys.length A1.ck, .slice A1.v S1.vals.length A1.cv, .slice A1.c S1.counts.length A1.cc, .int .u64 (S1.laid : Int)] 27) := ⟨_, rfl⟩
  have hba : Below x1.heap.size x1 V1 := by rw [hV]; exact (Below.refl _ _).alloc (Nat.le_refl _) _
  have B1 := Lib.hid (show Box V1 x1.heap.size S1 A1 by rw [hV]; exact Box.new x1 S1 A1 27)
  first | rw [← hV] | skip
  replace BB := Lib.hid (BB.out.trans (hba.mono BB.out.size)); replace BC := Lib.hid (BC.out.below hba); replace BS := Lib.hid (BS.out.below hba); replace HA := Lib.hid (HA.out.below hba); replace HP := Lib.hid (HP.out.below hba); replace TB := Lib.hid (TB.out.below hba); replace O1 := Lib.hid (O1.out.below hba); clear hV hba; obtain ⟨_, c0, c1, c2, c3, c4, c5, c6, c7, c8, _⟩ := BC.out; obtain ⟨_, p0, p1, p2, p3, p4, p5, _⟩ := BS.out
  go_wp2_with fail
  refine (C2.out a _ HA.out TB.out).mono ?_; rintro e x2 ⟨A2, rfl, own, hb⟩; have O2 := Lib.hid own.held; replace BB := Lib.hid (BB.out.trans (hb.mono BB.out.size)); replace BC := Lib.hid (BC.out.below hb); replace BS := Lib.hid (BS.out.below hb); replace HA := Lib.hid (HA.out.below hb); replace HP := Lib.hid (HP.out.below hb); replace TB := Lib.hid (TB.out.below hb); replace O1 := Lib.hid (O1.out.below hb); replace B1 := Lib.hid (B1.out.below hb); clear hb own; clear c0 c1 c2 c3 c4 c5 c6 c7 c8 p0 p1 p2 p3 p4 p5; unfold slv
  go_upto_region 6 with (fail)
  obtain ⟨V2, hV⟩ : ∃ V, V = x2.alloc (.cells #[.int .i64 S2.seg, .slice A2.w S2.words.length A2.cw, .slice A2.k S2.keys.length A2.ck, .slice A2.v S2.vals.length A2.cv, .slice A2.c S2.counts.length A2.cc, .int .u64 (S2.laid : Int)] 27) := ⟨_, rfl⟩
  have hba : Below x2.heap.size x2 V2 := by rw [hV]; exact (Below.refl _ _).alloc (Nat.le_refl _) _
  have B2 := Lib.hid (show Box V2 x2.heap.size S2 A2 by rw [hV]; exact Box.new x2 S2 A2 27)
  first | rw [← hV] | skip
  replace BB := Lib.hid (BB.out.trans (hba.mono BB.out.size)); replace BC := Lib.hid (BC.out.below hba); replace BS := Lib.hid (BS.out.below hba); replace HA := Lib.hid (HA.out.below hba); replace HP := Lib.hid (HP.out.below hba); replace TB := Lib.hid (TB.out.below hba); replace O1 := Lib.hid (O1.out.below hba); replace B1 := Lib.hid (B1.out.below hba); replace O2 := Lib.hid (O2.out.below hba); clear hV hba; obtain ⟨_, c0, c1, c2, c3, c4, c5, c6, c7, c8, _⟩ := BC.out; obtain ⟨_, p0, p1, p2, p3, p4, p5, _⟩ := BS.out
  go_wp2_with fail
  refine (C3.out a pa pc _ HA.out TB.out HP.out).mono ?_; rintro e x3 ⟨A3, rfl, own, hb⟩; have O3 := Lib.hid own.held; replace BB := Lib.hid (BB.out.trans (hb.mono BB.out.size)); replace BC := Lib.hid (BC.out.below hb); replace BS := Lib.hid (BS.out.below hb); replace HA := Lib.hid (HA.out.below hb); replace HP := Lib.hid (HP.out.below hb); replace TB := Lib.hid (TB.out.below hb); replace O1 := Lib.hid (O1.out.below hb); replace B1 := Lib.hid (B1.out.below hb); replace O2 := Lib.hid (O2.out.below hb); replace B2 := Lib.hid (B2.out.below hb); clear hb own; clear c0 c1 c2 c3 c4 c5 c6 c7 c8 p0 p1 p2 p3 p4 p5; unfold slv
  go_upto_region 7 with (fail)
  obtain ⟨V3, hV⟩ : ∃ V, V = x3.alloc (.cells #[.int .i64 S3.seg, .slice A3.w S3.words.length A3.cw, .slice A3.k S3.keys.length A3.ck, .slice A3.v S3.vals.length A3.cv, .slice A3.c S3.counts.length A3.cc, .int .u64 (S3.laid : Int)] 27) := ⟨_, rfl⟩
  have hba : Below x3.heap.size x3 V3 := by rw [hV]; exact (Below.refl _ _).alloc (Nat.le_refl _) _
  have B3 := Lib.hid (show Box V3 x3.heap.size S3 A3 by rw [hV]; exact Box.new x3 S3 A3 27)
  first | rw [← hV] | skip
  replace BB := Lib.hid (BB.out.trans (hba.mono BB.out.size)); replace BC := Lib.hid (BC.out.below hba); replace BS := Lib.hid (BS.out.below hba); replace HA := Lib.hid (HA.out.below hba); replace HP := Lib.hid (HP.out.below hba); replace TB := Lib.hid (TB.out.below hba); replace O1 := Lib.hid (O1.out.below hba); replace B1 := Lib.hid (B1.out.below hba); replace O2 := Lib.hid (O2.out.below hba); replace B2 := Lib.hid (B2.out.below hba); replace O3 := Lib.hid (O3.out.below hba); clear hV hba; clear HA HP BS; obtain ⟨_, c0, c1, c2, c3, c4, c5, c6, c7, c8, _⟩ := BC.out; obtain ⟨_, p0, p1, p2, p3, p4, p5, _⟩ := B1.out; rw [show S1.keys.length = 0 from by have := L1.out; omega] at p2
  go_upto_region 8 with (fail)
  clear c0 c1 c2 c3 c4 c5 c6 c7 c8 p0 p1 p2 p3 p4 p5; clear B1 O1; obtain ⟨_, c0, c1, c2, c3, c4, c5, c6, c7, c8, _⟩ := BC.out; obtain ⟨_, p0, p1, p2, p3, p4, p5, _⟩ := B2.out
  go_wp2_with fail
  refine (K2.out A2 _ O2.out TB.out).mono ?_; rintro e y2 ⟨rfl, hb⟩; replace BB := Lib.hid (BB.out.trans (hb.mono BB.out.size)); replace BC := Lib.hid (BC.out.below hb); replace TB := Lib.hid (TB.out.below hb); replace O2 := Lib.hid (O2.out.below hb); replace B2 := Lib.hid (B2.out.below hb); replace O3 := Lib.hid (O3.out.below hb); replace B3 := Lib.hid (B3.out.below hb); clear hb; clear c0 c1 c2 c3 c4 c5 c6 c7 c8 p0 p1 p2 p3 p4 p5; clear B2 O2; obtain ⟨_, c0, c1, c2, c3, c4, c5, c6, c7, c8, _⟩ := BC.out; obtain ⟨_, p0, p1, p2, p3, p4, p5, _⟩ := B3.out
  go_wp2_with fail
  refine (K3.out A3 _ O3.out TB.out).mono ?_; rintro e y3 ⟨rfl, hb⟩; replace BB := Lib.hid (BB.out.trans (hb.mono BB.out.size)); replace BC := Lib.hid (BC.out.below hb); replace TB := Lib.hid (TB.out.below hb); replace O3 := Lib.hid (O3.out.below hb); replace B3 := Lib.hid (B3.out.below hb); clear hb; clear c0 c1 c2 c3 c4 c5 c6 c7 c8 p0 p1 p2 p3 p4 p5; clear B3 O3; go_wp2; go_ret; exact ⟨rfl, BB.out⟩
set_option maxRecDepth 100000 in
set_option maxHeartbeats 6000000 in
theorem w100 (c : Cf) (s : Sl) (a : Ads) (k : Int) (pa : Option Addr) (pc : Nat) (ps : List (Int × Int)) (W : World) (hc : c.In) (h : Held W s a) (hok : s.Ok) (hs : s.Short) (hT : Tab W) (hk : In64 k) (hp : PLst W pa ps) (h64 : In64P ps) (hg : s.greatB 600 = false) (hn : ps.length ≤ 300) (e1 : Gp.putE c s k = 0) (e2 : Gp.takeE c s k ≠ 0) (e3 : Gp.loadE c s ps.length ≠ 0) :
    Calls Tryz.prog 6 #[cfv c, slv s a, .int .i64 k, .slice pa ps.length pc] W fun e w' => e = .returned (.bool true) ∧ Below W.heap.size W w' := by
  have HG := Lib.hid hg
  have k1 : decide ((ps.length : Int) > 300) = false := by simp; omega
  have i3 : In64 3 := i64s (by omega) (by omega); have i4 : In64 4 := i64s (by omega) (by omega); have HA := Lib.hid h; have HP := Lib.hid hp; have TB := Lib.hid hT; have BC0 := Lib.hid (fun o => (CBox.new W c 32).below ((Below.refl _ _).alloc (Nat.le_refl _) o)); have BS0 := Lib.hid (fun o => box_second W o s a 27); have BB0 := Lib.hid (fun o o' => ((Below.refl W.heap.size W).alloc (Nat.le_refl _) o).alloc (by simp) o'); have CA := Lib.hid (fun o o' => l9Alive ((W.alloc o).alloc o') (hT.below (BB0.out o o'))); have C1 := Lib.hid (show ∀ A V, Held V s A → Tab V → Calls Tryz.prog 12 #[cfv c, slv s A, .int .i64 k, .agg #[.int .i64 3, .int .i64 4]] V (Ans (Gp.putS c s k (3, 4)) (Gp.putE c s k) V) from fun A V hv tv => gPut c s A k 3 4 V hc hv hok hs tv hk i3 i4); have F1 := Gp.put_fine (c := c) hok hs k (p := (3, 4)) i3 i4 ; have K1 := Lib.hid (show ∀ A V, Held V (Gp.putS c s k (3, 4)) A → Tab V → Calls Tryz.prog 15 #[cfv c, slv (Gp.putS c s k (3, 4)) A] V (fun e w' => e = .returned (.int .i64 0) ∧ Below V.heap.size V w') from fun A V hv tv => by have := gCheck c (Gp.putS c s k (3, 4)) A V hc hv F1.ok F1.short tv; rwa [Gp.put_chk hok (p := (3, 4)) e1] at this); rw [e1] at C1; obtain ⟨S1, hS1⟩ : ∃ S, S = Gp.putS c s k (3, 4) := ⟨_, rfl⟩; rw [← hS1] at C1 K1; clear hS1 F1; have C2 := Lib.hid (show ∀ A V, Held V s A → Tab V → Calls Tryz.prog 13 #[cfv c, slv s A, .int .i64 k] V (Ans (Gp.takeS c s k) (Gp.takeE c s k) V) from fun A V hv tv => gTake c s A k V hc hv hok hs tv hk)
  have l2 : (((Gp.takeS c s k).keys.length : Nat) : Int) = 0 := by rw [Gp.take_none e2]; rfl
  obtain ⟨E2, hE2⟩ : ∃ E, E = Gp.takeE c s k := ⟨_, rfl⟩; obtain ⟨S2, hS2⟩ : ∃ S, S = Gp.takeS c s k := ⟨_, rfl⟩; rw [← hE2] at C2 e2; rw [← hS2] at C2 l2; have L2 := Lib.hid l2
  have m2 : (E2 != 0) = true := by simp [e2]
  have n2 : (E2 == 0) = false := by simp [e2]
  clear hS2 hE2 l2; have C3 := Lib.hid (show ∀ A PA PC V, Held V s A → Tab V → PLst V PA ps → Calls Tryz.prog 11 #[cfv c, slv s A, .slice PA ps.length PC] V (Ans (Gp.loadS c s ps) (Gp.loadE c s ps.length) V) from fun A PA PC V hv tv hl => gLoad c s A PA PC ps V hc hv hok hs tv (by omega) hl h64)
  have l3 : (((Gp.loadS c s ps).keys.length : Nat) : Int) = 0 := by rw [Gp.load_none e3]; rfl
  obtain ⟨E3, hE3⟩ : ∃ E, E = Gp.loadE c s ps.length := ⟨_, rfl⟩; obtain ⟨S3, hS3⟩ : ∃ S, S = Gp.loadS c s ps := ⟨_, rfl⟩; rw [← hE3] at C3 e3; rw [← hS3] at C3 l3; have L3 := Lib.hid l3
  have m3 : (E3 != 0) = true := by simp [e3]
  have n3 : (E3 == 0) = false := by simp [e3]
  clear hS3 hE3 l3; clear h hok hs hT hp hg h64 hk hc i3 i4 e1 e2 e3; unfold slv cfv at C1 C2 C3 K1; unfold slv cfv
  go_enter Tryz.func6, Tryz.ntmps6
  go_wp2_with fail
  refine (CA.out _ _).mono ?_; rintro e w0 ⟨rfl, hb⟩; have BB := Lib.hid ((BB0.out _ _).trans (hb.mono (by simp; omega))); have BC := Lib.hid ((BC0.out _).below hb); have BS := Lib.hid ((BS0.out _).below hb); replace HA := Lib.hid (HA.out.below BB.out); replace HP := Lib.hid (HP.out.below BB.out); replace TB := Lib.hid (TB.out.below BB.out); clear hb BB0 BS0 BC0 CA; obtain ⟨_, p0, p1, p2, p3, p4, p5, _⟩ := BS.out
  go_wp2_with fail
  refine (r4Great s a 600 _).mono ?_; rintro e w1 ⟨rfl, hb⟩; rw [HG.out]; replace BB := Lib.hid (BB.out.trans (hb.mono BB.out.size)); replace BC := Lib.hid (BC.out.below hb); replace BS := Lib.hid (BS.out.below hb); replace HA := Lib.hid (HA.out.below hb); replace HP := Lib.hid (HP.out.below hb); replace TB := Lib.hid (TB.out.below hb); clear hb p0 p1 p2 p3 p4 p5; obtain ⟨_, c0, c1, c2, c3, c4, c5, c6, c7, c8, _⟩ := BC.out; obtain ⟨_, p0, p1, p2, p3, p4, p5, _⟩ := BS.out
  go_wp2_with fail
  refine (C1.out a _ HA.out TB.out).mono ?_; rintro e x1 ⟨A1, rfl, own, hb⟩; have O1 := Lib.hid own.held; replace BB := Lib.hid (BB.out.trans (hb.mono BB.out.size)); replace BC := Lib.hid (BC.out.below hb); replace BS := Lib.hid (BS.out.below hb); replace HA := Lib.hid (HA.out.below hb); replace HP := Lib.hid (HP.out.below hb); replace TB := Lib.hid (TB.out.below hb); clear hb own; clear c0 c1 c2 c3 c4 c5 c6 c7 c8 p0 p1 p2 p3 p4 p5; unfold slv
  go_upto_region 5 with (fail)
  obtain ⟨V1, hV⟩ : ∃ V, V = x1.alloc (.cells #[.int .i64 S1.seg, .slice A1.w S1.words.length A1.cw, .slice A1.k S1.keys.length A1.ck, .slice A1.v S1.vals.length A1.cv, .slice A1.c S1.counts.length A1.cc, .int .u64 (S1.laid : Int)] 27) := ⟨_, rfl⟩
  have hba : Below x1.heap.size x1 V1 := by rw [hV]; exact (Below.refl _ _).alloc (Nat.le_refl _) _
  have B1 := Lib.hid (show Box V1 x1.heap.size S1 A1 by rw [hV]; exact Box.new x1 S1 A1 27)
  first | rw [← hV] | skip
  replace BB := Lib.hid (BB.out.trans (hba.mono BB.out.size)); replace BC := Lib.hid (BC.out.below hba); replace BS := Lib.hid (BS.out.below hba); replace HA := Lib.hid (HA.out.below hba); replace HP := Lib.hid (HP.out.below hba); replace TB := Lib.hid (TB.out.below hba); replace O1 := Lib.hid (O1.out.below hba); clear hV hba; obtain ⟨_, c0, c1, c2, c3, c4, c5, c6, c7, c8, _⟩ := BC.out; obtain ⟨_, p0, p1, p2, p3, p4, p5, _⟩ := BS.out
  go_wp2_with fail
  refine (C2.out a _ HA.out TB.out).mono ?_; rintro e x2 ⟨A2, rfl, own, hb⟩; have O2 := Lib.hid own.held; replace BB := Lib.hid (BB.out.trans (hb.mono BB.out.size)); replace BC := Lib.hid (BC.out.below hb); replace BS := Lib.hid (BS.out.below hb); replace HA := Lib.hid (HA.out.below hb); replace HP := Lib.hid (HP.out.below hb); replace TB := Lib.hid (TB.out.below hb); replace O1 := Lib.hid (O1.out.below hb); replace B1 := Lib.hid (B1.out.below hb); clear hb own; clear c0 c1 c2 c3 c4 c5 c6 c7 c8 p0 p1 p2 p3 p4 p5; unfold slv
  go_upto_region 6 with (fail)
  obtain ⟨V2, hV⟩ : ∃ V, V = x2.alloc (.cells #[.int .i64 S2.seg, .slice A2.w S2.words.length A2.cw, .slice A2.k S2.keys.length A2.ck, .slice A2.v S2.vals.length A2.cv, .slice A2.c S2.counts.length A2.cc, .int .u64 (S2.laid : Int)] 27) := ⟨_, rfl⟩
  have hba : Below x2.heap.size x2 V2 := by rw [hV]; exact (Below.refl _ _).alloc (Nat.le_refl _) _
  have B2 := Lib.hid (show Box V2 x2.heap.size S2 A2 by rw [hV]; exact Box.new x2 S2 A2 27)
  first | rw [← hV] | skip
  replace BB := Lib.hid (BB.out.trans (hba.mono BB.out.size)); replace BC := Lib.hid (BC.out.below hba); replace BS := Lib.hid (BS.out.below hba); replace HA := Lib.hid (HA.out.below hba); replace HP := Lib.hid (HP.out.below hba); replace TB := Lib.hid (TB.out.below hba); replace O1 := Lib.hid (O1.out.below hba); replace B1 := Lib.hid (B1.out.below hba); replace O2 := Lib.hid (O2.out.below hba); clear hV hba; obtain ⟨_, c0, c1, c2, c3, c4, c5, c6, c7, c8, _⟩ := BC.out; obtain ⟨_, p0, p1, p2, p3, p4, p5, _⟩ := BS.out
  go_wp2_with fail
  refine (C3.out a pa pc _ HA.out TB.out HP.out).mono ?_; rintro e x3 ⟨A3, rfl, own, hb⟩; have O3 := Lib.hid own.held; replace BB := Lib.hid (BB.out.trans (hb.mono BB.out.size)); replace BC := Lib.hid (BC.out.below hb); replace BS := Lib.hid (BS.out.below hb); replace HA := Lib.hid (HA.out.below hb); replace HP := Lib.hid (HP.out.below hb); replace TB := Lib.hid (TB.out.below hb); replace O1 := Lib.hid (O1.out.below hb); replace B1 := Lib.hid (B1.out.below hb); replace O2 := Lib.hid (O2.out.below hb); replace B2 := Lib.hid (B2.out.below hb); clear hb own; clear c0 c1 c2 c3 c4 c5 c6 c7 c8 p0 p1 p2 p3 p4 p5; unfold slv
  go_upto_region 7 with (fail)
  obtain ⟨V3, hV⟩ : ∃ V, V = x3.alloc (.cells #[.int .i64 S3.seg, .slice A3.w S3.words.length A3.cw, .slice A3.k S3.keys.length A3.ck, .slice A3.v S3.vals.length A3.cv, .slice A3.c S3.counts.length A3.cc, .int .u64 (S3.laid : Int)] 27) := ⟨_, rfl⟩
  have hba : Below x3.heap.size x3 V3 := by rw [hV]; exact (Below.refl _ _).alloc (Nat.le_refl _) _
  have B3 := Lib.hid (show Box V3 x3.heap.size S3 A3 by rw [hV]; exact Box.new x3 S3 A3 27)
  first | rw [← hV] | skip
  replace BB := Lib.hid (BB.out.trans (hba.mono BB.out.size)); replace BC := Lib.hid (BC.out.below hba); replace BS := Lib.hid (BS.out.below hba); replace HA := Lib.hid (HA.out.below hba); replace HP := Lib.hid (HP.out.below hba); replace TB := Lib.hid (TB.out.below hba); replace O1 := Lib.hid (O1.out.below hba); replace B1 := Lib.hid (B1.out.below hba); replace O2 := Lib.hid (O2.out.below hba); replace B2 := Lib.hid (B2.out.below hba); replace O3 := Lib.hid (O3.out.below hba); clear hV hba; clear HA HP BS; obtain ⟨_, c0, c1, c2, c3, c4, c5, c6, c7, c8, _⟩ := BC.out; obtain ⟨_, p0, p1, p2, p3, p4, p5, _⟩ := B1.out
  go_wp2_with fail
  refine (K1.out A1 _ O1.out TB.out).mono ?_; rintro e y1 ⟨rfl, hb⟩; replace BB := Lib.hid (BB.out.trans (hb.mono BB.out.size)); replace BC := Lib.hid (BC.out.below hb); replace TB := Lib.hid (TB.out.below hb); replace O1 := Lib.hid (O1.out.below hb); replace B1 := Lib.hid (B1.out.below hb); replace O2 := Lib.hid (O2.out.below hb); replace B2 := Lib.hid (B2.out.below hb); replace O3 := Lib.hid (O3.out.below hb); replace B3 := Lib.hid (B3.out.below hb); clear hb; clear c0 c1 c2 c3 c4 c5 c6 c7 c8 p0 p1 p2 p3 p4 p5; clear B1 O1; obtain ⟨_, c0, c1, c2, c3, c4, c5, c6, c7, c8, _⟩ := BC.out; obtain ⟨_, p0, p1, p2, p3, p4, p5, _⟩ := B2.out; rw [show S2.keys.length = 0 from by have := L2.out; omega] at p2
  go_upto_region 9 with (fail)
  clear c0 c1 c2 c3 c4 c5 c6 c7 c8 p0 p1 p2 p3 p4 p5; clear B2 O2; obtain ⟨_, c0, c1, c2, c3, c4, c5, c6, c7, c8, _⟩ := BC.out; obtain ⟨_, p0, p1, p2, p3, p4, p5, _⟩ := B3.out; rw [show S3.keys.length = 0 from by have := L3.out; omega] at p2
  go_upto_region 10 with (fail)
  clear c0 c1 c2 c3 c4 c5 c6 c7 c8 p0 p1 p2 p3 p4 p5; clear B3 O3; go_wp2; go_ret; exact ⟨rfl, BB.out⟩
set_option maxRecDepth 100000 in
set_option maxHeartbeats 6000000 in
theorem w101 (c : Cf) (s : Sl) (a : Ads) (k : Int) (pa : Option Addr) (pc : Nat) (ps : List (Int × Int)) (W : World) (hc : c.In) (h : Held W s a) (hok : s.Ok) (hs : s.Short) (hT : Tab W) (hk : In64 k) (hp : PLst W pa ps) (h64 : In64P ps) (hg : s.greatB 600 = false) (hn : ps.length ≤ 300) (e1 : Gp.putE c s k = 0) (e2 : Gp.takeE c s k ≠ 0) (e3 : Gp.loadE c s ps.length = 0) :
    Calls Tryz.prog 6 #[cfv c, slv s a, .int .i64 k, .slice pa ps.length pc] W fun e w' => e = .returned (.bool true) ∧ Below W.heap.size W w' := by
  have HG := Lib.hid hg
  have k1 : decide ((ps.length : Int) > 300) = false := by simp; omega
  have i3 : In64 3 := i64s (by omega) (by omega); have i4 : In64 4 := i64s (by omega) (by omega); have HA := Lib.hid h; have HP := Lib.hid hp; have TB := Lib.hid hT; have BC0 := Lib.hid (fun o => (CBox.new W c 32).below ((Below.refl _ _).alloc (Nat.le_refl _) o)); have BS0 := Lib.hid (fun o => box_second W o s a 27); have BB0 := Lib.hid (fun o o' => ((Below.refl W.heap.size W).alloc (Nat.le_refl _) o).alloc (by simp) o'); have CA := Lib.hid (fun o o' => l9Alive ((W.alloc o).alloc o') (hT.below (BB0.out o o'))); have C1 := Lib.hid (show ∀ A V, Held V s A → Tab V → Calls Tryz.prog 12 #[cfv c, slv s A, .int .i64 k, .agg #[.int .i64 3, .int .i64 4]] V (Ans (Gp.putS c s k (3, 4)) (Gp.putE c s k) V) from fun A V hv tv => gPut c s A k 3 4 V hc hv hok hs tv hk i3 i4); have F1 := Gp.put_fine (c := c) hok hs k (p := (3, 4)) i3 i4 ; have K1 := Lib.hid (show ∀ A V, Held V (Gp.putS c s k (3, 4)) A → Tab V → Calls Tryz.prog 15 #[cfv c, slv (Gp.putS c s k (3, 4)) A] V (fun e w' => e = .returned (.int .i64 0) ∧ Below V.heap.size V w') from fun A V hv tv => by have := gCheck c (Gp.putS c s k (3, 4)) A V hc hv F1.ok F1.short tv; rwa [Gp.put_chk hok (p := (3, 4)) e1] at this); rw [e1] at C1; obtain ⟨S1, hS1⟩ : ∃ S, S = Gp.putS c s k (3, 4) := ⟨_, rfl⟩; rw [← hS1] at C1 K1; clear hS1 F1; have C2 := Lib.hid (show ∀ A V, Held V s A → Tab V → Calls Tryz.prog 13 #[cfv c, slv s A, .int .i64 k] V (Ans (Gp.takeS c s k) (Gp.takeE c s k) V) from fun A V hv tv => gTake c s A k V hc hv hok hs tv hk)
  have l2 : (((Gp.takeS c s k).keys.length : Nat) : Int) = 0 := by rw [Gp.take_none e2]; rfl
  obtain ⟨E2, hE2⟩ : ∃ E, E = Gp.takeE c s k := ⟨_, rfl⟩; obtain ⟨S2, hS2⟩ : ∃ S, S = Gp.takeS c s k := ⟨_, rfl⟩; rw [← hE2] at C2 e2; rw [← hS2] at C2 l2; have L2 := Lib.hid l2
  have m2 : (E2 != 0) = true := by simp [e2]
  have n2 : (E2 == 0) = false := by simp [e2]
  clear hS2 hE2 l2; have C3 := Lib.hid (show ∀ A PA PC V, Held V s A → Tab V → PLst V PA ps → Calls Tryz.prog 11 #[cfv c, slv s A, .slice PA ps.length PC] V (Ans (Gp.loadS c s ps) (Gp.loadE c s ps.length) V) from fun A PA PC V hv tv hl => gLoad c s A PA PC ps V hc hv hok hs tv (by omega) hl h64); have F3 := Gp.load_fine (c := c) hok hs ps h64 ; have K3 := Lib.hid (show ∀ A V, Held V (Gp.loadS c s ps) A → Tab V → Calls Tryz.prog 15 #[cfv c, slv (Gp.loadS c s ps) A] V (fun e w' => e = .returned (.int .i64 0) ∧ Below V.heap.size V w') from fun A V hv tv => by have := gCheck c (Gp.loadS c s ps) A V hc hv F3.ok F3.short tv; rwa [Gp.load_chk hok e3] at this); rw [e3] at C3; obtain ⟨S3, hS3⟩ : ∃ S, S = Gp.loadS c s ps := ⟨_, rfl⟩; rw [← hS3] at C3 K3; clear hS3 F3; clear h hok hs hT hp hg h64 hk hc i3 i4 e1 e2 e3; unfold slv cfv at C1 C2 C3 K1 K3; unfold slv cfv
  go_enter Tryz.func6, Tryz.ntmps6
  go_wp2_with fail
  refine (CA.out _ _).mono ?_; rintro e w0 ⟨rfl, hb⟩; have BB := Lib.hid ((BB0.out _ _).trans (hb.mono (by simp; omega))); have BC := Lib.hid ((BC0.out _).below hb); have BS := Lib.hid ((BS0.out _).below hb); replace HA := Lib.hid (HA.out.below BB.out); replace HP := Lib.hid (HP.out.below BB.out); replace TB := Lib.hid (TB.out.below BB.out); clear hb BB0 BS0 BC0 CA; obtain ⟨_, p0, p1, p2, p3, p4, p5, _⟩ := BS.out
  go_wp2_with fail
  refine (r4Great s a 600 _).mono ?_; rintro e w1 ⟨rfl, hb⟩; rw [HG.out]; replace BB := Lib.hid (BB.out.trans (hb.mono BB.out.size)); replace BC := Lib.hid (BC.out.below hb); replace BS := Lib.hid (BS.out.below hb); replace HA := Lib.hid (HA.out.below hb); replace HP := Lib.hid (HP.out.below hb); replace TB := Lib.hid (TB.out.below hb); clear hb p0 p1 p2 p3 p4 p5; obtain ⟨_, c0, c1, c2, c3, c4, c5, c6, c7, c8, _⟩ := BC.out; obtain ⟨_, p0, p1, p2, p3, p4, p5, _⟩ := BS.out
  go_wp2_with fail
  refine (C1.out a _ HA.out TB.out).mono ?_; rintro e x1 ⟨A1, rfl, own, hb⟩; have O1 := Lib.hid own.held; replace BB := Lib.hid (BB.out.trans (hb.mono BB.out.size)); replace BC := Lib.hid (BC.out.below hb); replace BS := Lib.hid (BS.out.below hb); replace HA := Lib.hid (HA.out.below hb); replace HP := Lib.hid (HP.out.below hb); replace TB := Lib.hid (TB.out.below hb); clear hb own; clear c0 c1 c2 c3 c4 c5 c6 c7 c8 p0 p1 p2 p3 p4 p5; unfold slv
  go_upto_region 5 with (fail)
  obtain ⟨V1, hV⟩ : ∃ V, V = x1.alloc (.cells #[.int .i64 S1.seg, .slice A1.w S1.words.length A1.cw, .slice A1.k S1.keys.length A1.ck, .slice A1.v S1.vals.length A1.cv, .slice A1.c S1.counts.length A1.cc, .int .u64 (S1.laid : Int)] 27) := ⟨_, rfl⟩
  have hba : Below x1.heap.size x1 V1 := by rw [hV]; exact (Below.refl _ _).alloc (Nat.le_refl _) _
  have B1 := Lib.hid (show Box V1 x1.heap.size S1 A1 by rw [hV]; exact Box.new x1 S1 A1 27)
  first | rw [← hV] | skip
  replace BB := Lib.hid (BB.out.trans (hba.mono BB.out.size)); replace BC := Lib.hid (BC.out.below hba); replace BS := Lib.hid (BS.out.below hba); replace HA := Lib.hid (HA.out.below hba); replace HP := Lib.hid (HP.out.below hba); replace TB := Lib.hid (TB.out.below hba); replace O1 := Lib.hid (O1.out.below hba); clear hV hba; obtain ⟨_, c0, c1, c2, c3, c4, c5, c6, c7, c8, _⟩ := BC.out; obtain ⟨_, p0, p1, p2, p3, p4, p5, _⟩ := BS.out
  go_wp2_with fail
  refine (C2.out a _ HA.out TB.out).mono ?_; rintro e x2 ⟨A2, rfl, own, hb⟩; have O2 := Lib.hid own.held; replace BB := Lib.hid (BB.out.trans (hb.mono BB.out.size)); replace BC := Lib.hid (BC.out.below hb); replace BS := Lib.hid (BS.out.below hb); replace HA := Lib.hid (HA.out.below hb); replace HP := Lib.hid (HP.out.below hb); replace TB := Lib.hid (TB.out.below hb); replace O1 := Lib.hid (O1.out.below hb); replace B1 := Lib.hid (B1.out.below hb); clear hb own; clear c0 c1 c2 c3 c4 c5 c6 c7 c8 p0 p1 p2 p3 p4 p5; unfold slv
  go_upto_region 6 with (fail)
  obtain ⟨V2, hV⟩ : ∃ V, V = x2.alloc (.cells #[.int .i64 S2.seg, .slice A2.w S2.words.length A2.cw, .slice A2.k S2.keys.length A2.ck, .slice A2.v S2.vals.length A2.cv, .slice A2.c S2.counts.length A2.cc, .int .u64 (S2.laid : Int)] 27) := ⟨_, rfl⟩
  have hba : Below x2.heap.size x2 V2 := by rw [hV]; exact (Below.refl _ _).alloc (Nat.le_refl _) _
  have B2 := Lib.hid (show Box V2 x2.heap.size S2 A2 by rw [hV]; exact Box.new x2 S2 A2 27)
  first | rw [← hV] | skip
  replace BB := Lib.hid (BB.out.trans (hba.mono BB.out.size)); replace BC := Lib.hid (BC.out.below hba); replace BS := Lib.hid (BS.out.below hba); replace HA := Lib.hid (HA.out.below hba); replace HP := Lib.hid (HP.out.below hba); replace TB := Lib.hid (TB.out.below hba); replace O1 := Lib.hid (O1.out.below hba); replace B1 := Lib.hid (B1.out.below hba); replace O2 := Lib.hid (O2.out.below hba); clear hV hba; obtain ⟨_, c0, c1, c2, c3, c4, c5, c6, c7, c8, _⟩ := BC.out; obtain ⟨_, p0, p1, p2, p3, p4, p5, _⟩ := BS.out
  go_wp2_with fail
  refine (C3.out a pa pc _ HA.out TB.out HP.out).mono ?_; rintro e x3 ⟨A3, rfl, own, hb⟩; have O3 := Lib.hid own.held; replace BB := Lib.hid (BB.out.trans (hb.mono BB.out.size)); replace BC := Lib.hid (BC.out.below hb); replace BS := Lib.hid (BS.out.below hb); replace HA := Lib.hid (HA.out.below hb); replace HP := Lib.hid (HP.out.below hb); replace TB := Lib.hid (TB.out.below hb); replace O1 := Lib.hid (O1.out.below hb); replace B1 := Lib.hid (B1.out.below hb); replace O2 := Lib.hid (O2.out.below hb); replace B2 := Lib.hid (B2.out.below hb); clear hb own; clear c0 c1 c2 c3 c4 c5 c6 c7 c8 p0 p1 p2 p3 p4 p5; unfold slv
  go_upto_region 7 with (fail)
  obtain ⟨V3, hV⟩ : ∃ V, V = x3.alloc (.cells #[.int .i64 S3.seg, .slice A3.w S3.words.length A3.cw, .slice A3.k S3.keys.length A3.ck, .slice A3.v S3.vals.length A3.cv, .slice A3.c S3.counts.length A3.cc, .int .u64 (S3.laid : Int)] 27) := ⟨_, rfl⟩
  have hba : Below x3.heap.size x3 V3 := by rw [hV]; exact (Below.refl _ _).alloc (Nat.le_refl _) _
  have B3 := Lib.hid (show Box V3 x3.heap.size S3 A3 by rw [hV]; exact Box.new x3 S3 A3 27)
  first | rw [← hV] | skip
  replace BB := Lib.hid (BB.out.trans (hba.mono BB.out.size)); replace BC := Lib.hid (BC.out.below hba); replace BS := Lib.hid (BS.out.below hba); replace HA := Lib.hid (HA.out.below hba); replace HP := Lib.hid (HP.out.below hba); replace TB := Lib.hid (TB.out.below hba); replace O1 := Lib.hid (O1.out.below hba); replace B1 := Lib.hid (B1.out.below hba); replace O2 := Lib.hid (O2.out.below hba); replace B2 := Lib.hid (B2.out.below hba); replace O3 := Lib.hid (O3.out.below hba); clear hV hba; clear HA HP BS; obtain ⟨_, c0, c1, c2, c3, c4, c5, c6, c7, c8, _⟩ := BC.out; obtain ⟨_, p0, p1, p2, p3, p4, p5, _⟩ := B1.out
  go_wp2_with fail
  refine (K1.out A1 _ O1.out TB.out).mono ?_; rintro e y1 ⟨rfl, hb⟩; replace BB := Lib.hid (BB.out.trans (hb.mono BB.out.size)); replace BC := Lib.hid (BC.out.below hb); replace TB := Lib.hid (TB.out.below hb); replace O1 := Lib.hid (O1.out.below hb); replace B1 := Lib.hid (B1.out.below hb); replace O2 := Lib.hid (O2.out.below hb); replace B2 := Lib.hid (B2.out.below hb); replace O3 := Lib.hid (O3.out.below hb); replace B3 := Lib.hid (B3.out.below hb); clear hb; clear c0 c1 c2 c3 c4 c5 c6 c7 c8 p0 p1 p2 p3 p4 p5; clear B1 O1; obtain ⟨_, c0, c1, c2, c3, c4, c5, c6, c7, c8, _⟩ := BC.out; obtain ⟨_, p0, p1, p2, p3, p4, p5, _⟩ := B2.out; rw [show S2.keys.length = 0 from by have := L2.out; omega] at p2
  go_upto_region 9 with (fail)
  clear c0 c1 c2 c3 c4 c5 c6 c7 c8 p0 p1 p2 p3 p4 p5; clear B2 O2; obtain ⟨_, c0, c1, c2, c3, c4, c5, c6, c7, c8, _⟩ := BC.out; obtain ⟨_, p0, p1, p2, p3, p4, p5, _⟩ := B3.out
  go_wp2_with fail
  refine (K3.out A3 _ O3.out TB.out).mono ?_; rintro e y3 ⟨rfl, hb⟩; replace BB := Lib.hid (BB.out.trans (hb.mono BB.out.size)); replace BC := Lib.hid (BC.out.below hb); replace TB := Lib.hid (TB.out.below hb); replace O3 := Lib.hid (O3.out.below hb); replace B3 := Lib.hid (B3.out.below hb); clear hb; clear c0 c1 c2 c3 c4 c5 c6 c7 c8 p0 p1 p2 p3 p4 p5; clear B3 O3; go_wp2; go_ret; exact ⟨rfl, BB.out⟩
set_option maxRecDepth 100000 in
set_option maxHeartbeats 6000000 in
theorem w110 (c : Cf) (s : Sl) (a : Ads) (k : Int) (pa : Option Addr) (pc : Nat) (ps : List (Int × Int)) (W : World) (hc : c.In) (h : Held W s a) (hok : s.Ok) (hs : s.Short) (hT : Tab W) (hk : In64 k) (hp : PLst W pa ps) (h64 : In64P ps) (hg : s.greatB 600 = false) (hn : ps.length ≤ 300) (e1 : Gp.putE c s k = 0) (e2 : Gp.takeE c s k = 0) (e3 : Gp.loadE c s ps.length ≠ 0) :
    Calls Tryz.prog 6 #[cfv c, slv s a, .int .i64 k, .slice pa ps.length pc] W fun e w' => e = .returned (.bool true) ∧ Below W.heap.size W w' := by
  have HG := Lib.hid hg
  have k1 : decide ((ps.length : Int) > 300) = false := by simp; omega
  have i3 : In64 3 := i64s (by omega) (by omega); have i4 : In64 4 := i64s (by omega) (by omega); have HA := Lib.hid h; have HP := Lib.hid hp; have TB := Lib.hid hT; have BC0 := Lib.hid (fun o => (CBox.new W c 32).below ((Below.refl _ _).alloc (Nat.le_refl _) o)); have BS0 := Lib.hid (fun o => box_second W o s a 27); have BB0 := Lib.hid (fun o o' => ((Below.refl W.heap.size W).alloc (Nat.le_refl _) o).alloc (by simp) o'); have CA := Lib.hid (fun o o' => l9Alive ((W.alloc o).alloc o') (hT.below (BB0.out o o'))); have C1 := Lib.hid (show ∀ A V, Held V s A → Tab V → Calls Tryz.prog 12 #[cfv c, slv s A, .int .i64 k, .agg #[.int .i64 3, .int .i64 4]] V (Ans (Gp.putS c s k (3, 4)) (Gp.putE c s k) V) from fun A V hv tv => gPut c s A k 3 4 V hc hv hok hs tv hk i3 i4); have F1 := Gp.put_fine (c := c) hok hs k (p := (3, 4)) i3 i4 ; have K1 := Lib.hid (show ∀ A V, Held V (Gp.putS c s k (3, 4)) A → Tab V → Calls Tryz.prog 15 #[cfv c, slv (Gp.putS c s k (3, 4)) A] V (fun e w' => e = .returned (.int .i64 0) ∧ Below V.heap.size V w') from fun A V hv tv => by have := gCheck c (Gp.putS c s k (3, 4)) A V hc hv F1.ok F1.short tv; rwa [Gp.put_chk hok (p := (3, 4)) e1] at this); rw [e1] at C1; obtain ⟨S1, hS1⟩ : ∃ S, S = Gp.putS c s k (3, 4) := ⟨_, rfl⟩; rw [← hS1] at C1 K1; clear hS1 F1; have C2 := Lib.hid (show ∀ A V, Held V s A → Tab V → Calls Tryz.prog 13 #[cfv c, slv s A, .int .i64 k] V (Ans (Gp.takeS c s k) (Gp.takeE c s k) V) from fun A V hv tv => gTake c s A k V hc hv hok hs tv hk); have F2 := Gp.take_fine (c := c) hok hs k 
  have K2 := Lib.hid (show ∀ A V, Held V (Gp.takeS c s k) A → Tab V → Calls Tryz.prog 15 #[cfv c, slv (Gp.takeS c s k) A] V (fun e w' => e = .returned (.int .i64 0) ∧ Below V.heap.size V w') from fun A V hv tv => by have := gCheck c (Gp.takeS c s k) A V hc hv F2.ok F2.short tv; rwa [Gp.take_chk hok e2] at this); rw [e2] at C2; obtain ⟨S2, hS2⟩ : ∃ S, S = Gp.takeS c s k := ⟨_, rfl⟩; rw [← hS2] at C2 K2; clear hS2 F2; have C3 := Lib.hid (show ∀ A PA PC V, Held V s A → Tab V → PLst V PA ps → Calls Tryz.prog 11 #[cfv c, slv s A, .slice PA ps.length PC] V (Ans (Gp.loadS c s ps) (Gp.loadE c s ps.length) V) from fun A PA PC V hv tv hl => gLoad c s A PA PC ps V hc hv hok hs tv (by omega) hl h64)
  have l3 : (((Gp.loadS c s ps).keys.length : Nat) : Int) = 0 := by rw [Gp.load_none e3]; rfl
  obtain ⟨E3, hE3⟩ : ∃ E, E = Gp.loadE c s ps.length := ⟨_, rfl⟩; obtain ⟨S3, hS3⟩ : ∃ S, S = Gp.loadS c s ps := ⟨_, rfl⟩; rw [← hE3] at C3 e3; rw [← hS3] at C3 l3; have L3 := Lib.hid l3
  have m3 : (E3 != 0) = true := by simp [e3]
  have n3 : (E3 == 0) = false := by simp [e3]
  clear hS3 hE3 l3; clear h hok hs hT hp hg h64 hk hc i3 i4 e1 e2 e3; unfold slv cfv at C1 C2 C3 K1 K2; unfold slv cfv
  go_enter Tryz.func6, Tryz.ntmps6
  go_wp2_with fail
  refine (CA.out _ _).mono ?_; rintro e w0 ⟨rfl, hb⟩; have BB := Lib.hid ((BB0.out _ _).trans (hb.mono (by simp; omega))); have BC := Lib.hid ((BC0.out _).below hb); have BS := Lib.hid ((BS0.out _).below hb); replace HA := Lib.hid (HA.out.below BB.out); replace HP := Lib.hid (HP.out.below BB.out); replace TB := Lib.hid (TB.out.below BB.out); clear hb BB0 BS0 BC0 CA; obtain ⟨_, p0, p1, p2, p3, p4, p5, _⟩ := BS.out
  go_wp2_with fail
  refine (r4Great s a 600 _).mono ?_; rintro e w1 ⟨rfl, hb⟩; rw [HG.out]; replace BB := Lib.hid (BB.out.trans (hb.mono BB.out.size)); replace BC := Lib.hid (BC.out.below hb); replace BS := Lib.hid (BS.out.below hb); replace HA := Lib.hid (HA.out.below hb); replace HP := Lib.hid (HP.out.below hb); replace TB := Lib.hid (TB.out.below hb); clear hb p0 p1 p2 p3 p4 p5; obtain ⟨_, c0, c1, c2, c3, c4, c5, c6, c7, c8, _⟩ := BC.out; obtain ⟨_, p0, p1, p2, p3, p4, p5, _⟩ := BS.out
  go_wp2_with fail
  refine (C1.out a _ HA.out TB.out).mono ?_; rintro e x1 ⟨A1, rfl, own, hb⟩; have O1 := Lib.hid own.held; replace BB := Lib.hid (BB.out.trans (hb.mono BB.out.size)); replace BC := Lib.hid (BC.out.below hb); replace BS := Lib.hid (BS.out.below hb); replace HA := Lib.hid (HA.out.below hb); replace HP := Lib.hid (HP.out.below hb); replace TB := Lib.hid (TB.out.below hb); clear hb own; clear c0 c1 c2 c3 c4 c5 c6 c7 c8 p0 p1 p2 p3 p4 p5; unfold slv
  go_upto_region 5 with (fail)
  obtain ⟨V1, hV⟩ : ∃ V, V = x1.alloc (.cells #[.int .i64 S1.seg, .slice A1.w S1.words.length A1.cw, .slice A1.k S1.keys.length A1.ck, .slice A1.v S1.vals.length A1.cv, .slice A1.c S1.counts.length A1.cc, .int .u64 (S1.laid : Int)] 27) := ⟨_, rfl⟩
  have hba : Below x1.heap.size x1 V1 := by rw [hV]; exact (Below.refl _ _).alloc (Nat.le_refl _) _
  have B1 := Lib.hid (show Box V1 x1.heap.size S1 A1 by rw [hV]; exact Box.new x1 S1 A1 27)
  first | rw [← hV] | skip
  replace BB := Lib.hid (BB.out.trans (hba.mono BB.out.size)); replace BC := Lib.hid (BC.out.below hba); replace BS := Lib.hid (BS.out.below hba); replace HA := Lib.hid (HA.out.below hba); replace HP := Lib.hid (HP.out.below hba); replace TB := Lib.hid (TB.out.below hba); replace O1 := Lib.hid (O1.out.below hba); clear hV hba; obtain ⟨_, c0, c1, c2, c3, c4, c5, c6, c7, c8, _⟩ := BC.out; obtain ⟨_, p0, p1, p2, p3, p4, p5, _⟩ := BS.out
  go_wp2_with fail
  refine (C2.out a _ HA.out TB.out).mono ?_; rintro e x2 ⟨A2, rfl, own, hb⟩; have O2 := Lib.hid own.held; replace BB := Lib.hid (BB.out.trans (hb.mono BB.out.size)); replace BC := Lib.hid (BC.out.below hb); replace BS := Lib.hid (BS.out.below hb); replace HA := Lib.hid (HA.out.below hb); replace HP := Lib.hid (HP.out.below hb); replace TB := Lib.hid (TB.out.below hb); replace O1 := Lib.hid (O1.out.below hb); replace B1 := Lib.hid (B1.out.below hb); clear hb own; clear c0 c1 c2 c3 c4 c5 c6 c7 c8 p0 p1 p2 p3 p4 p5; unfold slv
  go_upto_region 6 with (fail)
  obtain ⟨V2, hV⟩ : ∃ V, V = x2.alloc (.cells #[.int .i64 S2.seg, .slice A2.w S2.words.length A2.cw, .slice A2.k S2.keys.length A2.ck, .slice A2.v S2.vals.length A2.cv, .slice A2.c S2.counts.length A2.cc, .int .u64 (S2.laid : Int)] 27) := ⟨_, rfl⟩
  have hba : Below x2.heap.size x2 V2 := by rw [hV]; exact (Below.refl _ _).alloc (Nat.le_refl _) _
  have B2 := Lib.hid (show Box V2 x2.heap.size S2 A2 by rw [hV]; exact Box.new x2 S2 A2 27)
  first | rw [← hV] | skip
  replace BB := Lib.hid (BB.out.trans (hba.mono BB.out.size)); replace BC := Lib.hid (BC.out.below hba); replace BS := Lib.hid (BS.out.below hba); replace HA := Lib.hid (HA.out.below hba); replace HP := Lib.hid (HP.out.below hba); replace TB := Lib.hid (TB.out.below hba); replace O1 := Lib.hid (O1.out.below hba); replace B1 := Lib.hid (B1.out.below hba); replace O2 := Lib.hid (O2.out.below hba); clear hV hba; obtain ⟨_, c0, c1, c2, c3, c4, c5, c6, c7, c8, _⟩ := BC.out; obtain ⟨_, p0, p1, p2, p3, p4, p5, _⟩ := BS.out
  go_wp2_with fail
  refine (C3.out a pa pc _ HA.out TB.out HP.out).mono ?_; rintro e x3 ⟨A3, rfl, own, hb⟩; have O3 := Lib.hid own.held; replace BB := Lib.hid (BB.out.trans (hb.mono BB.out.size)); replace BC := Lib.hid (BC.out.below hb); replace BS := Lib.hid (BS.out.below hb); replace HA := Lib.hid (HA.out.below hb); replace HP := Lib.hid (HP.out.below hb); replace TB := Lib.hid (TB.out.below hb); replace O1 := Lib.hid (O1.out.below hb); replace B1 := Lib.hid (B1.out.below hb); replace O2 := Lib.hid (O2.out.below hb); replace B2 := Lib.hid (B2.out.below hb); clear hb own; clear c0 c1 c2 c3 c4 c5 c6 c7 c8 p0 p1 p2 p3 p4 p5; unfold slv
  go_upto_region 7 with (fail)
  obtain ⟨V3, hV⟩ : ∃ V, V = x3.alloc (.cells #[.int .i64 S3.seg, .slice A3.w S3.words.length A3.cw, .slice A3.k S3.keys.length A3.ck, .slice A3.v S3.vals.length A3.cv, .slice A3.c S3.counts.length A3.cc, .int .u64 (S3.laid : Int)] 27) := ⟨_, rfl⟩
  have hba : Below x3.heap.size x3 V3 := by rw [hV]; exact (Below.refl _ _).alloc (Nat.le_refl _) _
  have B3 := Lib.hid (show Box V3 x3.heap.size S3 A3 by rw [hV]; exact Box.new x3 S3 A3 27)
  first | rw [← hV] | skip
  replace BB := Lib.hid (BB.out.trans (hba.mono BB.out.size)); replace BC := Lib.hid (BC.out.below hba); replace BS := Lib.hid (BS.out.below hba); replace HA := Lib.hid (HA.out.below hba); replace HP := Lib.hid (HP.out.below hba); replace TB := Lib.hid (TB.out.below hba); replace O1 := Lib.hid (O1.out.below hba); replace B1 := Lib.hid (B1.out.below hba); replace O2 := Lib.hid (O2.out.below hba); replace B2 := Lib.hid (B2.out.below hba); replace O3 := Lib.hid (O3.out.below hba); clear hV hba; clear HA HP BS; obtain ⟨_, c0, c1, c2, c3, c4, c5, c6, c7, c8, _⟩ := BC.out; obtain ⟨_, p0, p1, p2, p3, p4, p5, _⟩ := B1.out
  go_wp2_with fail
  refine (K1.out A1 _ O1.out TB.out).mono ?_; rintro e y1 ⟨rfl, hb⟩; replace BB := Lib.hid (BB.out.trans (hb.mono BB.out.size)); replace BC := Lib.hid (BC.out.below hb); replace TB := Lib.hid (TB.out.below hb); replace O1 := Lib.hid (O1.out.below hb); replace B1 := Lib.hid (B1.out.below hb); replace O2 := Lib.hid (O2.out.below hb); replace B2 := Lib.hid (B2.out.below hb); replace O3 := Lib.hid (O3.out.below hb); replace B3 := Lib.hid (B3.out.below hb); clear hb; clear c0 c1 c2 c3 c4 c5 c6 c7 c8 p0 p1 p2 p3 p4 p5; clear B1 O1; obtain ⟨_, c0, c1, c2, c3, c4, c5, c6, c7, c8, _⟩ := BC.out; obtain ⟨_, p0, p1, p2, p3, p4, p5, _⟩ := B2.out
  go_wp2_with fail
  refine (K2.out A2 _ O2.out TB.out).mono ?_; rintro e y2 ⟨rfl, hb⟩; replace BB := Lib.hid (BB.out.trans (hb.mono BB.out.size)); replace BC := Lib.hid (BC.out.below hb); replace TB := Lib.hid (TB.out.below hb); replace O2 := Lib.hid (O2.out.below hb); replace B2 := Lib.hid (B2.out.below hb); replace O3 := Lib.hid (O3.out.below hb); replace B3 := Lib.hid (B3.out.below hb); clear hb; clear c0 c1 c2 c3 c4 c5 c6 c7 c8 p0 p1 p2 p3 p4 p5; clear B2 O2; obtain ⟨_, c0, c1, c2, c3, c4, c5, c6, c7, c8, _⟩ := BC.out; obtain ⟨_, p0, p1, p2, p3, p4, p5, _⟩ := B3.out; rw [show S3.keys.length = 0 from by have := L3.out; omega] at p2
  go_upto_region 10 with (fail)
  clear c0 c1 c2 c3 c4 c5 c6 c7 c8 p0 p1 p2 p3 p4 p5; clear B3 O3; go_wp2; go_ret; exact ⟨rfl, BB.out⟩
set_option maxRecDepth 100000 in
set_option maxHeartbeats 6000000 in
theorem w111 (c : Cf) (s : Sl) (a : Ads) (k : Int) (pa : Option Addr) (pc : Nat) (ps : List (Int × Int)) (W : World) (hc : c.In) (h : Held W s a) (hok : s.Ok) (hs : s.Short) (hT : Tab W) (hk : In64 k) (hp : PLst W pa ps) (h64 : In64P ps) (hg : s.greatB 600 = false) (hn : ps.length ≤ 300) (e1 : Gp.putE c s k = 0) (e2 : Gp.takeE c s k = 0) (e3 : Gp.loadE c s ps.length = 0) :
    Calls Tryz.prog 6 #[cfv c, slv s a, .int .i64 k, .slice pa ps.length pc] W fun e w' => e = .returned (.bool true) ∧ Below W.heap.size W w' := by
  have HG := Lib.hid hg
  have k1 : decide ((ps.length : Int) > 300) = false := by simp; omega
  have i3 : In64 3 := i64s (by omega) (by omega); have i4 : In64 4 := i64s (by omega) (by omega); have HA := Lib.hid h; have HP := Lib.hid hp; have TB := Lib.hid hT; have BC0 := Lib.hid (fun o => (CBox.new W c 32).below ((Below.refl _ _).alloc (Nat.le_refl _) o)); have BS0 := Lib.hid (fun o => box_second W o s a 27); have BB0 := Lib.hid (fun o o' => ((Below.refl W.heap.size W).alloc (Nat.le_refl _) o).alloc (by simp) o'); have CA := Lib.hid (fun o o' => l9Alive ((W.alloc o).alloc o') (hT.below (BB0.out o o'))); have C1 := Lib.hid (show ∀ A V, Held V s A → Tab V → Calls Tryz.prog 12 #[cfv c, slv s A, .int .i64 k, .agg #[.int .i64 3, .int .i64 4]] V (Ans (Gp.putS c s k (3, 4)) (Gp.putE c s k) V) from fun A V hv tv => gPut c s A k 3 4 V hc hv hok hs tv hk i3 i4); have F1 := Gp.put_fine (c := c) hok hs k (p := (3, 4)) i3 i4 ; have K1 := Lib.hid (show ∀ A V, Held V (Gp.putS c s k (3, 4)) A → Tab V → Calls Tryz.prog 15 #[cfv c, slv (Gp.putS c s k (3, 4)) A] V (fun e w' => e = .returned (.int .i64 0) ∧ Below V.heap.size V w') from fun A V hv tv => by have := gCheck c (Gp.putS c s k (3, 4)) A V hc hv F1.ok F1.short tv; rwa [Gp.put_chk hok (p := (3, 4)) e1] at this); rw [e1] at C1; obtain ⟨S1, hS1⟩ : ∃ S, S = Gp.putS c s k (3, 4) := ⟨_, rfl⟩; rw [← hS1] at C1 K1; clear hS1 F1; have C2 := Lib.hid (show ∀ A V, Held V s A → Tab V → Calls Tryz.prog 13 #[cfv c, slv s A, .int .i64 k] V (Ans (Gp.takeS c s k) (Gp.takeE c s k) V) from fun A V hv tv => gTake c s A k V hc hv hok hs tv hk); have F2 := Gp.take_fine (c := c) hok hs k 
  have K2 := Lib.hid (show ∀ A V, Held V (Gp.takeS c s k) A → Tab V → Calls Tryz.prog 15 #[cfv c, slv (Gp.takeS c s k) A] V (fun e w' => e = .returned (.int .i64 0) ∧ Below V.heap.size V w') from fun A V hv tv => by have := gCheck c (Gp.takeS c s k) A V hc hv F2.ok F2.short tv; rwa [Gp.take_chk hok e2] at this); rw [e2] at C2; obtain ⟨S2, hS2⟩ : ∃ S, S = Gp.takeS c s k := ⟨_, rfl⟩; rw [← hS2] at C2 K2; clear hS2 F2; have C3 := Lib.hid (show ∀ A PA PC V, Held V s A → Tab V → PLst V PA ps → Calls Tryz.prog 11 #[cfv c, slv s A, .slice PA ps.length PC] V (Ans (Gp.loadS c s ps) (Gp.loadE c s ps.length) V) from fun A PA PC V hv tv hl => gLoad c s A PA PC ps V hc hv hok hs tv (by omega) hl h64); have F3 := Gp.load_fine (c := c) hok hs ps h64 ; have K3 := Lib.hid (show ∀ A V, Held V (Gp.loadS c s ps) A → Tab V → Calls Tryz.prog 15 #[cfv c, slv (Gp.loadS c s ps) A] V (fun e w' => e = .returned (.int .i64 0) ∧ Below V.heap.size V w') from fun A V hv tv => by have := gCheck c (Gp.loadS c s ps) A V hc hv F3.ok F3.short tv; rwa [Gp.load_chk hok e3] at this); rw [e3] at C3; obtain ⟨S3, hS3⟩ : ∃ S, S = Gp.loadS c s ps := ⟨_, rfl⟩; rw [← hS3] at C3 K3; clear hS3 F3; clear h hok hs hT hp hg h64 hk hc i3 i4 e1 e2 e3; unfold slv cfv at C1 C2 C3 K1 K2 K3; unfold slv cfv
  go_enter Tryz.func6, Tryz.ntmps6
  go_wp2_with fail
  refine (CA.out _ _).mono ?_; rintro e w0 ⟨rfl, hb⟩; have BB := Lib.hid ((BB0.out _ _).trans (hb.mono (by simp; omega))); have BC := Lib.hid ((BC0.out _).below hb); have BS := Lib.hid ((BS0.out _).below hb); replace HA := Lib.hid (HA.out.below BB.out); replace HP := Lib.hid (HP.out.below BB.out); replace TB := Lib.hid (TB.out.below BB.out); clear hb BB0 BS0 BC0 CA; obtain ⟨_, p0, p1, p2, p3, p4, p5, _⟩ := BS.out
  go_wp2_with fail
  refine (r4Great s a 600 _).mono ?_; rintro e w1 ⟨rfl, hb⟩; rw [HG.out]; replace BB := Lib.hid (BB.out.trans (hb.mono BB.out.size)); replace BC := Lib.hid (BC.out.below hb); replace BS := Lib.hid (BS.out.below hb); replace HA := Lib.hid (HA.out.below hb); replace HP := Lib.hid (HP.out.below hb); replace TB := Lib.hid (TB.out.below hb); clear hb p0 p1 p2 p3 p4 p5; obtain ⟨_, c0, c1, c2, c3, c4, c5, c6, c7, c8, _⟩ := BC.out; obtain ⟨_, p0, p1, p2, p3, p4, p5, _⟩ := BS.out
  go_wp2_with fail
  refine (C1.out a _ HA.out TB.out).mono ?_; rintro e x1 ⟨A1, rfl, own, hb⟩; have O1 := Lib.hid own.held; replace BB := Lib.hid (BB.out.trans (hb.mono BB.out.size)); replace BC := Lib.hid (BC.out.below hb); replace BS := Lib.hid (BS.out.below hb); replace HA := Lib.hid (HA.out.below hb); replace HP := Lib.hid (HP.out.below hb); replace TB := Lib.hid (TB.out.below hb); clear hb own; clear c0 c1 c2 c3 c4 c5 c6 c7 c8 p0 p1 p2 p3 p4 p5; unfold slv
  go_upto_region 5 with (fail)
  obtain ⟨V1, hV⟩ : ∃ V, V = x1.alloc (.cells #[.int .i64 S1.seg, .slice A1.w S1.words.length A1.cw, .slice A1.k S1.keys.length A1.ck, .slice A1.v S1.vals.length A1.cv, .slice A1.c S1.counts.length A1.cc, .int .u64 (S1.laid : Int)] 27) := ⟨_, rfl⟩
  have hba : Below x1.heap.size x1 V1 := by rw [hV]; exact (Below.refl _ _).alloc (Nat.le_refl _) _
  have B1 := Lib.hid (show Box V1 x1.heap.size S1 A1 by rw [hV]; exact Box.new x1 S1 A1 27)
  first | rw [← hV] | skip
  replace BB := Lib.hid (BB.out.trans (hba.mono BB.out.size)); replace BC := Lib.hid (BC.out.below hba); replace BS := Lib.hid (BS.out.below hba); replace HA := Lib.hid (HA.out.below hba); replace HP := Lib.hid (HP.out.below hba); replace TB := Lib.hid (TB.out.below hba); replace O1 := Lib.hid (O1.out.below hba); clear hV hba; obtain ⟨_, c0, c1, c2, c3, c4, c5, c6, c7, c8, _⟩ := BC.out; obtain ⟨_, p0, p1, p2, p3, p4, p5, _⟩ := BS.out
  go_wp2_with fail
  refine (C2.out a _ HA.out TB.out).mono ?_; rintro e x2 ⟨A2, rfl, own, hb⟩; have O2 := Lib.hid own.held; replace BB := Lib.hid (BB.out.trans (hb.mono BB.out.size)); replace BC := Lib.hid (BC.out.below hb); replace BS := Lib.hid (BS.out.below hb); replace HA := Lib.hid (HA.out.below hb); replace HP := Lib.hid (HP.out.below hb); replace TB := Lib.hid (TB.out.below hb); replace O1 := Lib.hid (O1.out.below hb); replace B1 := Lib.hid (B1.out.below hb); clear hb own; clear c0 c1 c2 c3 c4 c5 c6 c7 c8 p0 p1 p2 p3 p4 p5; unfold slv
  go_upto_region 6 with (fail)
  obtain ⟨V2, hV⟩ : ∃ V, V = x2.alloc (.cells #[.int .i64 S2.seg, .slice A2.w S2.words.length A2.cw, .slice A2.k S2.keys.length A2.ck, .slice A2.v S2.vals.length A2.cv, .slice A2.c S2.counts.length A2.cc, .int .u64 (S2.laid : Int)] 27) := ⟨_, rfl⟩
  have hba : Below x2.heap.size x2 V2 := by rw [hV]; exact (Below.refl _ _).alloc (Nat.le_refl _) _
  have B2 := Lib.hid (show Box V2 x2.heap.size S2 A2 by rw [hV]; exact Box.new x2 S2 A2 27)
  first | rw [← hV] | skip
  replace BB := Lib.hid (BB.out.trans (hba.mono BB.out.size)); replace BC := Lib.hid (BC.out.below hba); replace BS := Lib.hid (BS.out.below hba); replace HA := Lib.hid (HA.out.below hba); replace HP := Lib.hid (HP.out.below hba); replace TB := Lib.hid (TB.out.below hba); replace O1 := Lib.hid (O1.out.below hba); replace B1 := Lib.hid (B1.out.below hba); replace O2 := Lib.hid (O2.out.below hba); clear hV hba; obtain ⟨_, c0, c1, c2, c3, c4, c5, c6, c7, c8, _⟩ := BC.out; obtain ⟨_, p0, p1, p2, p3, p4, p5, _⟩ := BS.out
  go_wp2_with fail
  refine (C3.out a pa pc _ HA.out TB.out HP.out).mono ?_; rintro e x3 ⟨A3, rfl, own, hb⟩; have O3 := Lib.hid own.held; replace BB := Lib.hid (BB.out.trans (hb.mono BB.out.size)); replace BC := Lib.hid (BC.out.below hb); replace BS := Lib.hid (BS.out.below hb); replace HA := Lib.hid (HA.out.below hb); replace HP := Lib.hid (HP.out.below hb); replace TB := Lib.hid (TB.out.below hb); replace O1 := Lib.hid (O1.out.below hb); replace B1 := Lib.hid (B1.out.below hb); replace O2 := Lib.hid (O2.out.below hb); replace B2 := Lib.hid (B2.out.below hb); clear hb own; clear c0 c1 c2 c3 c4 c5 c6 c7 c8 p0 p1 p2 p3 p4 p5; unfold slv
  go_upto_region 7 with (fail)
  obtain ⟨V3, hV⟩ : ∃ V, V = x3.alloc (.cells #[.int .i64 S3.seg, .slice A3.w S3.words.length A3.cw, .slice A3.k S3.keys.length A3.ck, .slice A3.v S3.vals.length A3.cv, .slice A3.c S3.counts.length A3.cc, .int .u64 (S3.laid : Int)] 27) := ⟨_, rfl⟩
  have hba : Below x3.heap.size x3 V3 := by rw [hV]; exact (Below.refl _ _).alloc (Nat.le_refl _) _
  have B3 := Lib.hid (show Box V3 x3.heap.size S3 A3 by rw [hV]; exact Box.new x3 S3 A3 27)
  first | rw [← hV] | skip
  replace BB := Lib.hid (BB.out.trans (hba.mono BB.out.size)); replace BC := Lib.hid (BC.out.below hba); replace BS := Lib.hid (BS.out.below hba); replace HA := Lib.hid (HA.out.below hba); replace HP := Lib.hid (HP.out.below hba); replace TB := Lib.hid (TB.out.below hba); replace O1 := Lib.hid (O1.out.below hba); replace B1 := Lib.hid (B1.out.below hba); replace O2 := Lib.hid (O2.out.below hba); replace B2 := Lib.hid (B2.out.below hba); replace O3 := Lib.hid (O3.out.below hba); clear hV hba; clear HA HP BS; obtain ⟨_, c0, c1, c2, c3, c4, c5, c6, c7, c8, _⟩ := BC.out; obtain ⟨_, p0, p1, p2, p3, p4, p5, _⟩ := B1.out
  go_wp2_with fail
  refine (K1.out A1 _ O1.out TB.out).mono ?_; rintro e y1 ⟨rfl, hb⟩; replace BB := Lib.hid (BB.out.trans (hb.mono BB.out.size)); replace BC := Lib.hid (BC.out.below hb); replace TB := Lib.hid (TB.out.below hb); replace O1 := Lib.hid (O1.out.below hb); replace B1 := Lib.hid (B1.out.below hb); replace O2 := Lib.hid (O2.out.below hb); replace B2 := Lib.hid (B2.out.below hb); replace O3 := Lib.hid (O3.out.below hb); replace B3 := Lib.hid (B3.out.below hb); clear hb; clear c0 c1 c2 c3 c4 c5 c6 c7 c8 p0 p1 p2 p3 p4 p5; clear B1 O1; obtain ⟨_, c0, c1, c2, c3, c4, c5, c6, c7, c8, _⟩ := BC.out; obtain ⟨_, p0, p1, p2, p3, p4, p5, _⟩ := B2.out
  go_wp2_with fail
  refine (K2.out A2 _ O2.out TB.out).mono ?_; rintro e y2 ⟨rfl, hb⟩; replace BB := Lib.hid (BB.out.trans (hb.mono BB.out.size)); replace BC := Lib.hid (BC.out.below hb); replace TB := Lib.hid (TB.out.below hb); replace O2 := Lib.hid (O2.out.below hb); replace B2 := Lib.hid (B2.out.below hb); replace O3 := Lib.hid (O3.out.below hb); replace B3 := Lib.hid (B3.out.below hb); clear hb; clear c0 c1 c2 c3 c4 c5 c6 c7 c8 p0 p1 p2 p3 p4 p5; clear B2 O2; obtain ⟨_, c0, c1, c2, c3, c4, c5, c6, c7, c8, _⟩ := BC.out; obtain ⟨_, p0, p1, p2, p3, p4, p5, _⟩ := B3.out
  go_wp2_with fail
  refine (K3.out A3 _ O3.out TB.out).mono ?_; rintro e y3 ⟨rfl, hb⟩; replace BB := Lib.hid (BB.out.trans (hb.mono BB.out.size)); replace BC := Lib.hid (BC.out.below hb); replace TB := Lib.hid (TB.out.below hb); replace O3 := Lib.hid (O3.out.below hb); replace B3 := Lib.hid (B3.out.below hb); clear hb; clear c0 c1 c2 c3 c4 c5 c6 c7 c8 p0 p1 p2 p3 p4 p5; clear B3 O3; go_wp2; go_ret; exact ⟨rfl, BB.out⟩
set_option maxRecDepth 100000 in
set_option maxHeartbeats 2000000 in
theorem great (c : Cf) (s : Sl) (a : Ads) (k : Int) (pa : Option Addr) (pc : Nat) (ps : List (Int × Int)) (W : World) (hc : c.In) (h : Held W s a) (hok : s.Ok) (hT : Tab W) (hk : In64 k) (hp : PLst W pa ps) (h64 : In64P ps) (hg : s.greatB 600 = true) :
    Calls Tryz.prog 6 #[cfv c, slv s a, .int .i64 k, .slice pa ps.length pc] W fun e w' => e = .returned (.bool true) ∧ Below W.heap.size W w' := by
  have HG := Lib.hid hg; have HA := Lib.hid h; have HP := Lib.hid hp; have TB := Lib.hid hT; have BC0 := Lib.hid (fun o => (CBox.new W c 32).below ((Below.refl _ _).alloc (Nat.le_refl _) o)); have BS0 := Lib.hid (fun o => box_second W o s a 27); have BB0 := Lib.hid (fun o o' => ((Below.refl W.heap.size W).alloc (Nat.le_refl _) o).alloc (by simp) o'); have CA := Lib.hid (fun o o' => l9Alive ((W.alloc o).alloc o') (hT.below (BB0.out o o'))); clear h hok hT hg hp h64 hk hc ; unfold slv cfv
  go_enter Tryz.func6, Tryz.ntmps6
  go_wp2_with fail
  refine (CA.out _ _).mono ?_; rintro e w0 ⟨rfl, hb⟩; have BB := Lib.hid ((BB0.out _ _).trans (hb.mono (by simp; omega))); have BC := Lib.hid ((BC0.out _).below hb); have BS := Lib.hid ((BS0.out _).below hb); replace HA := Lib.hid (HA.out.below BB.out); replace HP := Lib.hid (HP.out.below BB.out); replace TB := Lib.hid (TB.out.below BB.out); clear hb BB0 BS0 BC0 CA; obtain ⟨_, p0, p1, p2, p3, p4, p5, _⟩ := BS.out
  go_wp2_with fail
  refine (r4Great s a 600 _).mono ?_; rintro e w1 ⟨rfl, hb⟩; rw [HG.out]; replace BB := Lib.hid (BB.out.trans (hb.mono BB.out.size)); replace BC := Lib.hid (BC.out.below hb); replace BS := Lib.hid (BS.out.below hb); replace HA := Lib.hid (HA.out.below hb); replace HP := Lib.hid (HP.out.below hb); replace TB := Lib.hid (TB.out.below hb); clear hb p0 p1 p2 p3 p4 p5; go_wp2; go_ret; exact ⟨rfl, BB.out⟩
set_option maxRecDepth 100000 in
set_option maxHeartbeats 2000000 in
theorem long (c : Cf) (s : Sl) (a : Ads) (k : Int) (pa : Option Addr) (pc : Nat) (ps : List (Int × Int)) (W : World) (hc : c.In) (h : Held W s a) (hok : s.Ok) (hT : Tab W) (hk : In64 k) (hp : PLst W pa ps) (h64 : In64P ps) (hg : s.greatB 600 = false) (hn : ¬ ps.length ≤ 300) :
    Calls Tryz.prog 6 #[cfv c, slv s a, .int .i64 k, .slice pa ps.length pc] W fun e w' => e = .returned (.bool true) ∧ Below W.heap.size W w' := by
  have HG := Lib.hid hg
  have k1 : decide ((ps.length : Int) > 300) = true := by simp; omega
  have HA := Lib.hid h; have HP := Lib.hid hp; have TB := Lib.hid hT; have BC0 := Lib.hid (fun o => (CBox.new W c 32).below ((Below.refl _ _).alloc (Nat.le_refl _) o)); have BS0 := Lib.hid (fun o => box_second W o s a 27); have BB0 := Lib.hid (fun o o' => ((Below.refl W.heap.size W).alloc (Nat.le_refl _) o).alloc (by simp) o'); have CA := Lib.hid (fun o o' => l9Alive ((W.alloc o).alloc o') (hT.below (BB0.out o o'))); clear h hok hT hg hp h64 hk hc hn; unfold slv cfv
  go_enter Tryz.func6, Tryz.ntmps6
  go_wp2_with fail
  refine (CA.out _ _).mono ?_; rintro e w0 ⟨rfl, hb⟩; have BB := Lib.hid ((BB0.out _ _).trans (hb.mono (by simp; omega))); have BC := Lib.hid ((BC0.out _).below hb); have BS := Lib.hid ((BS0.out _).below hb); replace HA := Lib.hid (HA.out.below BB.out); replace HP := Lib.hid (HP.out.below BB.out); replace TB := Lib.hid (TB.out.below BB.out); clear hb BB0 BS0 BC0 CA; obtain ⟨_, p0, p1, p2, p3, p4, p5, _⟩ := BS.out
  go_wp2_with fail
  refine (r4Great s a 600 _).mono ?_; rintro e w1 ⟨rfl, hb⟩; rw [HG.out]; replace BB := Lib.hid (BB.out.trans (hb.mono BB.out.size)); replace BC := Lib.hid (BC.out.below hb); replace BS := Lib.hid (BS.out.below hb); replace HA := Lib.hid (HA.out.below hb); replace HP := Lib.hid (HP.out.below hb); replace TB := Lib.hid (TB.out.below hb); clear hb p0 p1 p2 p3 p4 p5; go_wp2; go_ret; exact ⟨rfl, BB.out⟩
theorem walk (c : Cf) (s : Sl) (a : Ads) (k : Int) (pa : Option Addr) (pc : Nat) (ps : List (Int × Int)) (W : World) (hc : c.In) (h : Held W s a) (hok : s.Ok) (hT : Tab W) (hk : In64 k) (hp : PLst W pa ps) (h64 : In64P ps) :
    Calls Tryz.prog 6 #[cfv c, slv s a, .int .i64 k, .slice pa ps.length pc] W fun e w' => e = .returned (.bool true) ∧ Below W.heap.size W w' := by
  cases hg : s.greatB 600
  · have hs : s.Short := by
      unfold Sl.greatB at hg
      simp only [Bool.or_eq_false_iff, decide_eq_false_iff_not] at hg
      exact ⟨by omega, by omega, by omega, by omega⟩
    by_cases hn : ps.length ≤ 300
    · skip
      by_cases e1 : Gp.putE c s k = 0
      · skip
        by_cases e2 : Gp.takeE c s k = 0
        · skip
          by_cases e3 : Gp.loadE c s ps.length = 0
          · skip
            exact w111 c s a k pa pc ps W hc h hok hs hT hk hp h64 hg hn e1 e2 e3
          · skip
            exact w110 c s a k pa pc ps W hc h hok hs hT hk hp h64 hg hn e1 e2 e3
        · skip
          by_cases e3 : Gp.loadE c s ps.length = 0
          · skip
            exact w101 c s a k pa pc ps W hc h hok hs hT hk hp h64 hg hn e1 e2 e3
          · skip
            exact w100 c s a k pa pc ps W hc h hok hs hT hk hp h64 hg hn e1 e2 e3
      · skip
        by_cases e2 : Gp.takeE c s k = 0
        · skip
          by_cases e3 : Gp.loadE c s ps.length = 0
          · skip
            exact w011 c s a k pa pc ps W hc h hok hs hT hk hp h64 hg hn e1 e2 e3
          · skip
            exact w010 c s a k pa pc ps W hc h hok hs hT hk hp h64 hg hn e1 e2 e3
        · skip
          by_cases e3 : Gp.loadE c s ps.length = 0
          · skip
            exact w001 c s a k pa pc ps W hc h hok hs hT hk hp h64 hg hn e1 e2 e3
          · skip
            exact w000 c s a k pa pc ps W hc h hok hs hT hk hp h64 hg hn e1 e2 e3
    · exact long c s a k pa pc ps W hc h hok hT hk hp h64 hg hn
  · exact great c s a k pa pc ps W hc h hok hT hk hp h64 hg
end Go.Proofs.YtgcdidklaiaohaaGreatDoor.gapDense
