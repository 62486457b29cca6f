/- The walk of the law GapLoads: what is loaded is the document's; what came in stays, what is answered is new memory. -/
import Derived.Test.YtgcdidklaiaohaaGreatDoorGapLo
import Derived.Test.YtgcdidklaiaohaaGreatDoorM03Lo
import Derived.Test.YtgcdidklaiaohaaGreatDoorP9rLo
import Derived.Test.YtgcdidklaiaohaaGreatDoorSpoil09Lo
namespace Go.Proofs.YtgcdidklaiaohaaGreatDoor.gapLoads
open Go.RowKit
set_option linter.unusedVariables false
set_option linter.unusedSimpArgs false
set_option maxRecDepth 100000 in
set_option maxHeartbeats 8000000 in
theorem full (s : Sl) (a : Ads) (c : Cf) (pa : Option Addr) (pc : Nat) (ps : List (Int × Int)) (W : World) (hc : c.In) (h : Held W s a) (hok : s.Ok) (hs : s.Short) (hg : s.greatB 600 = false) (hT : Tab W)
    (hp : PLst W pa ps) (hpn : pa = none → ps.length = 0 ∧ pc = 0) (hpl : ps.length ≤ 300) (h64 : In64P ps) :
    Calls Tryz.prog 5 #[cfv c, slv s a, .slice pa ps.length pc] W fun e w' => e = .returned (.bool true) ∧ Below W.heap.size W w' := by
  have HSh := Lib.hid hs; have HGr := Lib.hid hg; have TB0 := Lib.hid hT; have sh1 := Lib.hid (Gp.load_fine (c := c) hok hs ps h64).short; obtain ⟨S1, hS1⟩ : ∃ S, S = Gp.loadS c s ps := ⟨_, rfl⟩; obtain ⟨E1, hE1⟩ : ∃ S, S = Gp.loadE c s ps.length := ⟨_, rfl⟩; rw [← hS1] at sh1; have cl1 := Lib.hid (show ∀ A PA PC V, Held V s A → Tab V → PLst V PA ps → Calls Tryz.prog 11 #[cfv c, slv s A, .slice PA ps.length PC] V (Ans S1 E1 V) from fun A PA PC V hv tv h2 => by rw [hS1, hE1]; exact gLoad c s A PA PC ps V hc hv hok hs tv (by omega) h2 h64); have rl1 := Lib.hid (show ∀ A PA PC V, Held V s A → PLst V PA ps → Calls Tryz.prog 24 #[cfv c, slv s A, .slice PA ps.length PC] V (SPost2 S1 E1 V) from fun A PA PC V hv h2 => by rw [hS1, hE1]; exact r9Load c s A PA PC ps V hc hv hok hs (by omega) h2 h64); have HA0 := Lib.hid h; have HP0 := Lib.hid hp; have HPN := Lib.hid hpn
  have k1 : decide ((ps.length : Int) > 300) = false := by simp; omega
  clear hS1 hE1 hc h hok hs hg hT hp hpn h64; have BC0 := Lib.hid (CBox.new W c 32); have BS0 := Lib.hid (Box.second W (.cells (cfCells c) 32) s a 27); have BB0 := Lib.hid (fun o o' => ((Below.refl W.heap.size W).alloc (Nat.le_refl _) o).alloc (by simp) o'); unfold slv cfv at cl1 rl1; unfold slv cfv; unfold cfCells at BC0 BS0; unfold slCells at BS0
  go_enter Tryz.func5, Tryz.ntmps5
  go_wp2_with fail
  refine (r4Great s a 600 _).mono ?_; rintro e w0 ⟨rfl, hb⟩; rw [HGr.out]; have BB := Lib.hid ((BB0.out _ _).trans (hb.mono (by simp; omega))); have BS := Lib.hid (BS0.out.below hb); have BC := Lib.hid ((BC0.out.below ((Below.refl _ _).alloc (Nat.le_refl _) _)).below hb); have HA := Lib.hid (HA0.out.below BB.out); have TB := Lib.hid (TB0.out.below BB.out); clear hb BB0 BS0 BC0; obtain ⟨_, p0, p1, p2, p3, p4, p5, _⟩ := BS.out
  go_wp2_with fail
  refine (r4Twin s a _ HA.out HSh.out).mono ?_; rintro e w1 ⟨A1, rfl, own, _, _, hb⟩; have O1 := Lib.hid own.held; clear own; replace BS := Lib.hid (BS.out.below hb); replace BC := Lib.hid (BC.out.below hb); replace HA := Lib.hid (HA.out.below hb); replace TB := Lib.hid (TB.out.below hb); replace BB := Lib.hid (BB.out.trans (hb.mono BB.out.size)); clear hb p0 p1 p2 p3 p4 p5; unfold slv
  go_upto_region 4 with (first | (at_builtin; refine wpList_copy elemP rfl (.tmp 23) (.tmp 24) rfl w1 rfl pa ps.length pc (pcells ps) rfl rfl (HP0.out.below BB.out) (pcells_length ps) (pcells_one ps) HPN.out (by unfold maxLen; omega) (by omega) ?_; intro AP cP w3 hown3 hC3 hb3; have RP := Lib.hid (show PLst w3 AP ps from hC3); have BX3 := Lib.hid hb3; clear hown3 hC3 hb3))
  replace BS := Lib.hid (BS.out.below BX3.out); replace BC := Lib.hid (BC.out.below BX3.out); replace HA := Lib.hid (HA.out.below BX3.out); replace TB := Lib.hid (TB.out.below BX3.out); replace O1 := Lib.hid (O1.out.below BX3.out); replace BB := Lib.hid (BB.out.trans (BX3.out.mono BB.out.size)); clear BX3; obtain ⟨V1, hV⟩ : ∃ V, V = w3.alloc (.cells #[.int .i64 s.seg, .slice A1.w s.words.length A1.cw, .slice A1.k s.keys.length A1.ck, .slice A1.v s.vals.length A1.cv, .slice A1.c s.counts.length A1.cc, .int .u64 (s.laid : Int)] 27) := ⟨_, rfl⟩
  have hba : Below w3.heap.size w3 V1 := by rw [hV]; exact (Below.refl _ _).alloc (Nat.le_refl _) _
  have B1 := Lib.hid (show Box V1 w3.heap.size s A1 by rw [hV]; exact Box.new w3 s A1 27); rw [← hV]; clear hV; replace BS := Lib.hid (BS.out.below hba); replace BC := Lib.hid (BC.out.below hba); replace HA := Lib.hid (HA.out.below hba); replace TB := Lib.hid (TB.out.below hba); replace O1 := Lib.hid (O1.out.below hba); replace RP := Lib.hid (RP.out.below hba); replace BB := Lib.hid (BB.out.trans (hba.mono BB.out.size)); clear hba; have HSV := Lib.hid BS.out; have HBV := Lib.hid B1.out; have HOV := Lib.hid O1.out; have HRP := Lib.hid RP.out; have BV := Lib.hid (Below.refl V1.heap.size V1); have zV : w3.heap.size < V1.heap.size := B1.out.lt; obtain ⟨_, p0, p1, p2, p3, p4, p5, _⟩ := BS.out; obtain ⟨_, q0, q1, q2, q3, q4, q5, _⟩ := B1.out; obtain ⟨_, c0, c1, c2, c3, c4, c5, c6, c7, c8, _⟩ := BC.out
  go_wp2_with fail
  refine (cl1.out A1 AP cP _ O1.out TB.out RP.out).mono ?_; rintro e w4 ⟨A2, rfl, own, hb⟩; have O2 := Lib.hid own; have m2 := hb.size; have F2 := Lib.hid own.soft; clear own; replace BS := Lib.hid (BS.out.below hb); replace BC := Lib.hid (BC.out.below hb); replace HA := Lib.hid (HA.out.below hb); replace TB := Lib.hid (TB.out.below hb); replace O1 := Lib.hid (O1.out.below hb); replace RP := Lib.hid (RP.out.below hb); replace B1 := Lib.hid (B1.out.below hb); replace BB := Lib.hid (BB.out.trans (hb.mono BB.out.size)); replace BV := Lib.hid (BV.out.trans (hb.mono BV.out.size)); clear hb p0 p1 p2 p3 p4 p5 q0 q1 q2 q3 q4 q5 c0 c1 c2 c3 c4 c5 c6 c7 c8 O1 TB RP; unfold slv
  go_upto_region 5 with (fail)
  obtain ⟨V2, hV⟩ : ∃ V, V = w4.alloc (.cells #[.int .i64 S1.seg, .slice A2.w S1.words.length A2.cw, .slice A2.k S1.keys.length A2.ck, .slice A2.v S1.vals.length A2.cv, .slice A2.c S1.counts.length A2.cc, .int .u64 (S1.laid : Int)] 27) := ⟨_, rfl⟩
  have hba : Below w4.heap.size w4 V2 := by rw [hV]; exact (Below.refl _ _).alloc (Nat.le_refl _) _
  have B2 := Lib.hid (show Box V2 w4.heap.size S1 A2 by rw [hV]; exact Box.new w4 S1 A2 27); rw [← hV]; clear hV; replace BS := Lib.hid (BS.out.below hba); replace BC := Lib.hid (BC.out.below hba); replace HA := Lib.hid (HA.out.below hba); replace B1 := Lib.hid (B1.out.below hba); replace O2 := Lib.hid (O2.out.below hba); replace F2 := Lib.hid (F2.out.below hba); replace BB := Lib.hid (BB.out.trans (hba.mono BB.out.size)); replace m2 := Nat.le_trans m2 hba.size; replace BV := Lib.hid (BV.out.trans (hba.mono BV.out.size)); clear hba; obtain ⟨_, p0, p1, p2, p3, p4, p5, _⟩ := BS.out; obtain ⟨_, c0, c1, c2, c3, c4, c5, c6, c7, c8, _⟩ := BC.out
  go_wp2_with fail
  refine (rl1.out a pa pc _ HA.out (HP0.out.below BB.out)).mono ?_; rintro e w5 ⟨A3, rfl, own, _, _, hb⟩; have O3 := Lib.hid own; clear own; replace BS := Lib.hid (BS.out.below hb); replace BC := Lib.hid (BC.out.below hb); replace HA := Lib.hid (HA.out.below hb); replace B1 := Lib.hid (B1.out.below hb); replace O2 := Lib.hid (O2.out.below hb); replace F2 := Lib.hid (F2.out.below hb); replace B2 := Lib.hid (B2.out.below hb); replace BB := Lib.hid (BB.out.trans (hb.mono BB.out.size)); replace m2 := Nat.le_trans m2 hb.size; replace BV := Lib.hid (BV.out.trans (hb.mono BV.out.size)); clear hb p0 p1 p2 p3 p4 p5 c0 c1 c2 c3 c4 c5 c6 c7 c8; unfold slv
  go_upto_region 6 with (fail)
  obtain ⟨V3, hV⟩ : ∃ V, V = w5.alloc (.cells #[.int .i64 S1.seg, .slice A3.w S1.words.length A3.cw, .slice A3.k S1.keys.length A3.ck, .slice A3.v S1.vals.length A3.cv, .slice A3.c S1.counts.length A3.cc, .int .u64 (S1.laid : Int)] 27) := ⟨_, rfl⟩
  have hba : Below w5.heap.size w5 V3 := by rw [hV]; exact (Below.refl _ _).alloc (Nat.le_refl _) _
  have B3 := Lib.hid (show Box V3 w5.heap.size S1 A3 by rw [hV]; exact Box.new w5 S1 A3 27); rw [← hV]; clear hV; replace BS := Lib.hid (BS.out.below hba); replace BC := Lib.hid (BC.out.below hba); replace HA := Lib.hid (HA.out.below hba); replace B1 := Lib.hid (B1.out.below hba); replace O2 := Lib.hid (O2.out.below hba); replace F2 := Lib.hid (F2.out.below hba); replace B2 := Lib.hid (B2.out.below hba); replace O3 := Lib.hid (O3.out.below hba); replace BB := Lib.hid (BB.out.trans (hba.mono BB.out.size)); replace m2 := Nat.le_trans m2 hba.size; replace BV := Lib.hid (BV.out.trans (hba.mono BV.out.size)); clear hba
  have k3 : (E1 == E1) = true := by simp
  obtain ⟨_, p0, p1, p2, p3, p4, p5, _⟩ := B2.out; obtain ⟨_, q0, q1, q2, q3, q4, q5, _⟩ := B3.out
  go_wp2_with fail
  refine (r4Same S1 S1 A2 A3 _ O2.out.held O3.out.held sh1.out sh1.out).mono ?_; rintro e w6 ⟨rfl, hb⟩; rw [same_self]; replace BS := Lib.hid (BS.out.below hb); replace BC := Lib.hid (BC.out.below hb); replace HA := Lib.hid (HA.out.below hb); replace B1 := Lib.hid (B1.out.below hb); replace O2 := Lib.hid (O2.out.below hb); replace F2 := Lib.hid (F2.out.below hb); replace B2 := Lib.hid (B2.out.below hb); replace O3 := Lib.hid (O3.out.below hb); replace B3 := Lib.hid (B3.out.below hb); replace BB := Lib.hid (BB.out.trans (hb.mono BB.out.size)); replace m2 := Nat.le_trans m2 hb.size; replace BV := Lib.hid (BV.out.trans (hb.mono BV.out.size)); clear hb p0 p1 p2 p3 p4 p5 q0 q1 q2 q3 q4 q5 O2 O3 B3 HA
  go_upto_region 7 with (fail)
  obtain ⟨_, p0, p1, p2, p3, p4, p5, _⟩ := B2.out
  go_wp2_with fail
  refine (l9Spoil S1 A2 _ _ _ F2.out m2 sh1.out).mono ?_; rintro e w7 ⟨rfl, sp⟩; clear p0 p1 p2 p3 p4 p5
  have zW : W.heap.size ≤ V1.heap.size := by have := HSV.out.lt; omega
  replace BB := Lib.hid (BB.out.trans (sp.1.mono zW)); replace BV := Lib.hid (BV.out.trans (sp.1.mono (Nat.le_refl _))); clear sp; have BSx := HSV.out.below BV.out; have B1x := HBV.out.below BV.out; have HAx := Lib.hid (HA0.out.below BB.out); have HOx := Lib.hid (HOV.out.below BV.out); obtain ⟨_, p0, p1, p2, p3, p4, p5, _⟩ := BSx; obtain ⟨_, q0, q1, q2, q3, q4, q5, _⟩ := B1x
  go_wp2_with fail
  refine (r4Same s s A1 a _ HOx.out HAx.out HSh.out HSh.out).mono ?_; rintro e w8 ⟨rfl, hb⟩; rw [same_self]; replace BB := Lib.hid (BB.out.trans (hb.mono BB.out.size)); replace BV := Lib.hid (BV.out.trans (hb.mono BV.out.size)); clear hb p0 p1 p2 p3 p4 p5 q0 q1 q2 q3 q4 q5
  go_wp2_with fail
  refine (r4SamePairs AP pa cP pc ps ps _ (HRP.out.below BV.out) (HP0.out.below BB.out) (by omega) (by omega)).mono ?_; rintro e w10 ⟨rfl, hb⟩; rw [show (ps == ps) = true from beq_self_eq_true ps]; replace BB := Lib.hid (BB.out.trans (hb.mono BB.out.size)); replace BV := Lib.hid (BV.out.trans (hb.mono BV.out.size)); clear hb; go_wp2; go_ret; exact ⟨rfl, BB.out⟩
set_option maxRecDepth 100000 in
set_option maxHeartbeats 8000000 in
theorem walk (s : Sl) (a : Ads) (c : Cf) (pa : Option Addr) (pc : Nat) (ps : List (Int × Int)) (W : World) (hc : c.In) (h : Held W s a) (hok : s.Ok) (hT : Tab W)
    (hp : PLst W pa ps) (hpn : pa = none → ps.length = 0 ∧ pc = 0) (h64 : In64P ps) :
    Calls Tryz.prog 5 #[cfv c, slv s a, .slice pa ps.length pc] W fun e w' => e = .returned (.bool true) ∧ Below W.heap.size W w' := by
  cases hg : s.greatB 600
  · have hs : s.Short := by
      unfold Sl.greatB at hg
      simp only [Bool.or_eq_false_iff, decide_eq_false_iff_not] at hg
      exact ⟨by omega, by omega, by omega, by omega⟩
    by_cases h2 : ps.length ≤ 300
    · exact full s a c pa pc ps W hc h hok hs hg hT hp hpn h2 h64
    · have k1 : decide ((ps.length : Int) > 300) = true := by simp; omega
      have HG := Lib.hid hg; have BS0 := Lib.hid (Box.second W (.cells (cfCells c) 32) s a 27); have BB0 := Lib.hid (fun o o' => ((Below.refl W.heap.size W).alloc (Nat.le_refl _) o).alloc (by simp) o'); clear hc h hok hg hT hp hpn h64; unfold slv cfv; unfold cfCells at BS0
      go_enter Tryz.func5, Tryz.ntmps5
      obtain ⟨_, p0, p1, p2, p3, p4, p5, _⟩ := BS0.out
      go_wp2_with fail
      refine (r4Great s a 600 _).mono ?_; rintro e w0 ⟨rfl, hb⟩; rw [HG.out]; go_wp2; go_ret; exact ⟨rfl, (BB0.out _ _).trans (hb.mono (by simp; omega))⟩
  · skip
    have HG := Lib.hid hg; have BS0 := Lib.hid (Box.second W (.cells (cfCells c) 32) s a 27); have BB0 := Lib.hid (fun o o' => ((Below.refl W.heap.size W).alloc (Nat.le_refl _) o).alloc (by simp) o'); clear hc h hok hg hT hp hpn h64; unfold slv cfv; unfold cfCells at BS0
    go_enter Tryz.func5, Tryz.ntmps5
    obtain ⟨_, p0, p1, p2, p3, p4, p5, _⟩ := BS0.out
    go_wp2_with fail
    refine (r4Great s a 600 _).mono ?_; rintro e w0 ⟨rfl, hb⟩; rw [HG.out]; go_wp2; go_ret; exact ⟨rfl, (BB0.out _ _).trans (hb.mono (by simp; omega))⟩
end Go.Proofs.YtgcdidklaiaohaaGreatDoor.gapLoads
