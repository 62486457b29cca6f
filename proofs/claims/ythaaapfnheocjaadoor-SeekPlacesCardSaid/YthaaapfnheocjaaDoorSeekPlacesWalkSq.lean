/- The walk of the law SeekPlaces, the stage's theorem: ranks and slots of keys agree. -/
import Derived.Test.YthaaapfnheocjaaDoorLaw10Sq
import Derived.Test.YthaaapfnheocjaaDoorM14Sq
namespace Go.Proofs.YthaaapfnheocjaaDoor.seekPlaces
open Go.RowKit
set_option linter.unusedVariables false
set_option linter.unusedSimpArgs false

theorem at_yes (r : Int) : (decide ((0 : Int) = 0) && decide (r = r)) = true := by simp
set_option maxRecDepth 100000 in
set_option maxHeartbeats 4000000 in
theorem full00 (s : Sl) (a : Ads) (k : Int) (W : World) (h : Held W s a) (hok : s.Ok) (hs : s.Short) (hg : s.greatB 600 = false) (hT : Tab W) (hc : Sk.chkE s = 0) (r m : Int) (hr : Sk.rankV s k = r) (hm : Oc.countV s.words s.keys.length 0 s.keys.length = m) (he : Oc.countE s.words s.keys.length 0 s.keys.length = 0) (r0 : 0 ≤ r) (r1 : r ≤ 65536) (e1 : Sk.nextE s k = 6) (v1 : Sk.nextV s k = 0) (e2 : Sk.findE s k = 6) (v2 : Sk.findV s k = 0) (rm : ¬ r < m) (e3 : Sk.lastE s k = 6) (v3 : Sk.lastV s k = 0) (rz : ¬ 0 < r) :
    Calls Tryd.prog 5 #[slv s a, .int .i64 k] W fun e w' => e = .returned (.bool true) ∧ Below W.heap.size W w' := by
  have HGr := Lib.hid hg; have hM := (Sk.chk_zero.1 hc).1; have l2 := hs.keys; have CC := Lib.hid (fun V (hv : Held V s a) tv => kCheck s a V hv hok hs tv); have CR := Lib.hid (fun V (hv : Held V s a) tv => kRank s a k V hv hok hs tv); have CN := Lib.hid (fun V (hv : Held V s a) tv => kNext s a k V hv hok hs tv); have CL := Lib.hid (fun V (hv : Held V s a) tv => kLast s a k V hv hok hs tv); have CI := Lib.hid (fun V (hv : Held V s a) tv => kFind s a k V hv hok hs tv); have CO := Lib.hid (fun V (hv : Held V s a) => oCount a.w a.cw s.words s.keys.length 0 s.keys.length V hv.words hok.words hs.words); rw [hc] at CC CR; rw [hr] at CR; rw [hm, he] at CO; rw [e1, v1] at CN; rw [e2, v2] at CI
  have k1 : decide (r < m) = false := by simp; omega
  clear e1 e2 v1 v2 rm; rw [e3, v3] at CL
  have k4 : decide (0 < r) = false := by simp; omega
  have k5 : decide (r > 0) = false := by simp; omega
  clear e3 v3 rz; have HA := Lib.hid h; have TB := Lib.hid hT; have BX := Lib.hid (Box.new W s a 30); have HB := Lib.hid (fun o => (Below.refl W.heap.size W).alloc (Nat.le_refl _) o); clear h hok hs hg hT hc hM hr hm he; unfold slCells at BX; unfold slv at CC CR CN CL CI; unfold slv
  go_enter Tryd.func5, Tryd.ntmps5
  go_wp2_with fail
  refine (l10Alive _ (TB.out.below (HB.out _))).mono ?_; rintro e w0 ⟨rfl, hb⟩; have BB := Lib.hid ((HB.out _).trans (hb.mono (by simp))); replace BX := Lib.hid (BX.out.below hb); replace HA := Lib.hid (HA.out.below BB.out); replace TB := Lib.hid (TB.out.below BB.out); clear hb HB; obtain ⟨_, p0, p1, p2, p3, p4, p5, _⟩ := BX.out
  go_wp2_with fail
  refine (r4Great s a 600 _).mono ?_; rintro e w1 ⟨rfl, hb⟩; rw [HGr.out]; replace BX := Lib.hid (BX.out.below hb); replace TB := Lib.hid (TB.out.below hb); replace HA := Lib.hid (HA.out.below hb); replace BB := Lib.hid (BB.out.trans (hb.mono BB.out.size)); clear hb p0 p1 p2 p3 p4 p5; obtain ⟨_, p0, p1, p2, p3, p4, p5, _⟩ := BX.out
  go_wp2_with fail
  refine (CC.out _ HA.out TB.out).mono ?_; rintro e w2 ⟨rfl, hb⟩; replace BX := Lib.hid (BX.out.below hb); replace TB := Lib.hid (TB.out.below hb); replace HA := Lib.hid (HA.out.below hb); replace BB := Lib.hid (BB.out.trans (hb.mono BB.out.size)); clear hb p0 p1 p2 p3 p4 p5; obtain ⟨_, p0, p1, p2, p3, p4, p5, _⟩ := BX.out
  go_wp2_with fail
  refine (CR.out _ HA.out TB.out).mono ?_; rintro e w3 ⟨rfl, hb⟩; replace BX := Lib.hid (BX.out.below hb); replace TB := Lib.hid (TB.out.below hb); replace HA := Lib.hid (HA.out.below hb); replace BB := Lib.hid (BB.out.trans (hb.mono BB.out.size)); clear hb p0 p1 p2 p3 p4 p5; obtain ⟨_, p0, p1, p2, p3, p4, p5, _⟩ := BX.out
  go_wp2_with fail
  refine (CN.out _ HA.out TB.out).mono ?_; rintro e w4 ⟨rfl, hb⟩; replace BX := Lib.hid (BX.out.below hb); replace TB := Lib.hid (TB.out.below hb); replace HA := Lib.hid (HA.out.below hb); replace BB := Lib.hid (BB.out.trans (hb.mono BB.out.size)); clear hb p0 p1 p2 p3 p4 p5; obtain ⟨_, p0, p1, p2, p3, p4, p5, _⟩ := BX.out
  go_wp2_with fail
  refine (CL.out _ HA.out TB.out).mono ?_; rintro e w5 ⟨rfl, hb⟩; replace BX := Lib.hid (BX.out.below hb); replace TB := Lib.hid (TB.out.below hb); replace HA := Lib.hid (HA.out.below hb); replace BB := Lib.hid (BB.out.trans (hb.mono BB.out.size)); clear hb p0 p1 p2 p3 p4 p5; obtain ⟨_, p0, p1, p2, p3, p4, p5, _⟩ := BX.out
  go_wp2_with fail
  refine (CI.out _ HA.out TB.out).mono ?_; rintro e w6 ⟨rfl, hb⟩; replace BX := Lib.hid (BX.out.below hb); replace TB := Lib.hid (TB.out.below hb); replace HA := Lib.hid (HA.out.below hb); replace BB := Lib.hid (BB.out.trans (hb.mono BB.out.size)); clear hb p0 p1 p2 p3 p4 p5; obtain ⟨_, p0, p1, p2, p3, p4, p5, _⟩ := BX.out
  go_wp2_with fail
  refine (CO.out _ HA.out).mono ?_; rintro e w7 ⟨rfl, hb⟩; replace BX := Lib.hid (BX.out.below hb); replace TB := Lib.hid (TB.out.below hb); replace HA := Lib.hid (HA.out.below hb); replace BB := Lib.hid (BB.out.trans (hb.mono BB.out.size)); clear hb p0 p1 p2 p3 p4 p5; go_wp2; go_ret; exact ⟨rfl, BB.out⟩
set_option maxRecDepth 100000 in
set_option maxHeartbeats 4000000 in
theorem full01 (s : Sl) (a : Ads) (k : Int) (W : World) (h : Held W s a) (hok : s.Ok) (hs : s.Short) (hg : s.greatB 600 = false) (hT : Tab W) (hc : Sk.chkE s = 0) (r m : Int) (hr : Sk.rankV s k = r) (hm : Oc.countV s.words s.keys.length 0 s.keys.length = m) (he : Oc.countE s.words s.keys.length 0 s.keys.length = 0) (r0 : 0 ≤ r) (r1 : r ≤ 65536) (e1 : Sk.nextE s k = 6) (v1 : Sk.nextV s k = 0) (e2 : Sk.findE s k = 6) (v2 : Sk.findV s k = 0) (rm : ¬ r < m) (y : Nat) (L : Sk.LastAt s k y) (rz : 0 < r) (cy : Oc.countE s.words s.keys.length 0 y = 0 ∧ Oc.countV s.words s.keys.length 0 y = r - 1) :
    Calls Tryd.prog 5 #[slv s a, .int .i64 k] W fun e w' => e = .returned (.bool true) ∧ Below W.heap.size W w' := by
  have HGr := Lib.hid hg; have hM := (Sk.chk_zero.1 hc).1; have l2 := hs.keys; have CC := Lib.hid (fun V (hv : Held V s a) tv => kCheck s a V hv hok hs tv); have CR := Lib.hid (fun V (hv : Held V s a) tv => kRank s a k V hv hok hs tv); have CN := Lib.hid (fun V (hv : Held V s a) tv => kNext s a k V hv hok hs tv); have CL := Lib.hid (fun V (hv : Held V s a) tv => kLast s a k V hv hok hs tv); have CI := Lib.hid (fun V (hv : Held V s a) tv => kFind s a k V hv hok hs tv); have CO := Lib.hid (fun V (hv : Held V s a) => oCount a.w a.cw s.words s.keys.length 0 s.keys.length V hv.words hok.words hs.words); rw [hc] at CC CR; rw [hr] at CR; rw [hm, he] at CO; rw [e1, v1] at CN; rw [e2, v2] at CI
  have k1 : decide (r < m) = false := by simp; omega
  clear e1 e2 v1 v2 rm; rw [L.e, L.v] at CL; have DX := Lib.hid (fun V (hv : Held V s a) tv => sAt s a y V hv hok hs tv); have DY := Lib.hid (fun V (hv : Held V s a) => oCount a.w a.cw s.words s.keys.length 0 y V hv.words hok.words hs.words); rw [cy.1, cy.2] at DY; obtain ⟨q1, q2⟩ := Sk.at_is hM L.lt L.is
  replace DX := Lib.hid (show ∀ V, Held V s a → Tab V → Calls Tryd.prog 25 #[slv s a, .int .i64 (y : Int)] V fun e w' => e = .returned (.tuple #[.agg #[.int .i64 (Sk.key s y), .int .i64 (s.vals.getD y 0)], .int .i64 0]) ∧ Below V.heap.size V w' from fun V hv tv => by
    have := DX.out V hv tv; unfold AtPost at this; rw [q1, q2] at this
    exact this)
  have k4 : decide (0 < r) = true := by simp; omega
  have k5 : decide (r > 0) = true := by simp; omega
  have k6 : decide (Sk.key s y ≥ k) = false := by simp; have := L.key; omega
  have k7 : decide (k ≤ Sk.key s y) = false := by simp; have := L.key; omega
  have hyn : (y : Int) ≤ 65536 := by have := L.lt; omega
  obtain ⟨z2, hz2⟩ : ∃ z, Sk.key s y = z := ⟨_, rfl⟩; obtain ⟨u2, hu2⟩ : ∃ u, s.vals.getD y 0 = u := ⟨_, rfl⟩; rw [hz2] at k6 k7 DX; rw [hu2] at DX; clear L cy q1 q2 hz2 hu2 rz; have HA := Lib.hid h; have TB := Lib.hid hT; have BX := Lib.hid (Box.new W s a 30); have HB := Lib.hid (fun o => (Below.refl W.heap.size W).alloc (Nat.le_refl _) o); clear h hok hs hg hT hc hM hr hm he; unfold slCells at BX; unfold slv at CC CR CN CL CI DX; unfold slv
  go_enter Tryd.func5, Tryd.ntmps5
  go_wp2_with fail
  refine (l10Alive _ (TB.out.below (HB.out _))).mono ?_; rintro e w0 ⟨rfl, hb⟩; have BB := Lib.hid ((HB.out _).trans (hb.mono (by simp))); replace BX := Lib.hid (BX.out.below hb); replace HA := Lib.hid (HA.out.below BB.out); replace TB := Lib.hid (TB.out.below BB.out); clear hb HB; obtain ⟨_, p0, p1, p2, p3, p4, p5, _⟩ := BX.out
  go_wp2_with fail
  refine (r4Great s a 600 _).mono ?_; rintro e w1 ⟨rfl, hb⟩; rw [HGr.out]; replace BX := Lib.hid (BX.out.below hb); replace TB := Lib.hid (TB.out.below hb); replace HA := Lib.hid (HA.out.below hb); replace BB := Lib.hid (BB.out.trans (hb.mono BB.out.size)); clear hb p0 p1 p2 p3 p4 p5; obtain ⟨_, p0, p1, p2, p3, p4, p5, _⟩ := BX.out
  go_wp2_with fail
  refine (CC.out _ HA.out TB.out).mono ?_; rintro e w2 ⟨rfl, hb⟩; replace BX := Lib.hid (BX.out.below hb); replace TB := Lib.hid (TB.out.below hb); replace HA := Lib.hid (HA.out.below hb); replace BB := Lib.hid (BB.out.trans (hb.mono BB.out.size)); clear hb p0 p1 p2 p3 p4 p5; obtain ⟨_, p0, p1, p2, p3, p4, p5, _⟩ := BX.out
  go_wp2_with fail
  refine (CR.out _ HA.out TB.out).mono ?_; rintro e w3 ⟨rfl, hb⟩; replace BX := Lib.hid (BX.out.below hb); replace TB := Lib.hid (TB.out.below hb); replace HA := Lib.hid (HA.out.below hb); replace BB := Lib.hid (BB.out.trans (hb.mono BB.out.size)); clear hb p0 p1 p2 p3 p4 p5; obtain ⟨_, p0, p1, p2, p3, p4, p5, _⟩ := BX.out
  go_wp2_with fail
  refine (CN.out _ HA.out TB.out).mono ?_; rintro e w4 ⟨rfl, hb⟩; replace BX := Lib.hid (BX.out.below hb); replace TB := Lib.hid (TB.out.below hb); replace HA := Lib.hid (HA.out.below hb); replace BB := Lib.hid (BB.out.trans (hb.mono BB.out.size)); clear hb p0 p1 p2 p3 p4 p5; obtain ⟨_, p0, p1, p2, p3, p4, p5, _⟩ := BX.out
  go_wp2_with fail
  refine (CL.out _ HA.out TB.out).mono ?_; rintro e w5 ⟨rfl, hb⟩; replace BX := Lib.hid (BX.out.below hb); replace TB := Lib.hid (TB.out.below hb); replace HA := Lib.hid (HA.out.below hb); replace BB := Lib.hid (BB.out.trans (hb.mono BB.out.size)); clear hb p0 p1 p2 p3 p4 p5; obtain ⟨_, p0, p1, p2, p3, p4, p5, _⟩ := BX.out
  go_wp2_with fail
  refine (CI.out _ HA.out TB.out).mono ?_; rintro e w6 ⟨rfl, hb⟩; replace BX := Lib.hid (BX.out.below hb); replace TB := Lib.hid (TB.out.below hb); replace HA := Lib.hid (HA.out.below hb); replace BB := Lib.hid (BB.out.trans (hb.mono BB.out.size)); clear hb p0 p1 p2 p3 p4 p5; obtain ⟨_, p0, p1, p2, p3, p4, p5, _⟩ := BX.out
  go_wp2_with fail
  refine (CO.out _ HA.out).mono ?_; rintro e w7 ⟨rfl, hb⟩; replace BX := Lib.hid (BX.out.below hb); replace TB := Lib.hid (TB.out.below hb); replace HA := Lib.hid (HA.out.below hb); replace BB := Lib.hid (BB.out.trans (hb.mono BB.out.size)); clear hb p0 p1 p2 p3 p4 p5; obtain ⟨_, p0, p1, p2, p3, p4, p5, _⟩ := BX.out
  go_wp2_with fail
  refine (DX.out _ HA.out TB.out).mono ?_; rintro e w9 ⟨rfl, hb⟩; replace BX := Lib.hid (BX.out.below hb); replace TB := Lib.hid (TB.out.below hb); replace HA := Lib.hid (HA.out.below hb); replace BB := Lib.hid (BB.out.trans (hb.mono BB.out.size)); clear hb p0 p1 p2 p3 p4 p5
  go_upto_region 19 with (fail)
  obtain ⟨V19, hV⟩ : ∃ V, V = w9.alloc (.cells #[.int .i64 z2, .int .i64 u2] 35) := ⟨_, rfl⟩
  have hba : Below w9.heap.size w9 V19 := by rw [hV]; exact (Below.refl _ _).alloc (Nat.le_refl _) _
  have PB := Lib.hid (show PBox V19 w9.heap.size (z2, u2) by rw [hV]; exact PBox.new w9 (z2, u2) 35); rw [← hV]; clear hV; replace BX := Lib.hid (BX.out.below hba); replace TB := Lib.hid (TB.out.below hba); replace HA := Lib.hid (HA.out.below hba); replace BB := Lib.hid (BB.out.trans (hba.mono BB.out.size)); clear hba; obtain ⟨_, p0, p1, p2, p3, p4, p5, _⟩ := BX.out
  go_wp2_with fail
  refine (DY.out _ HA.out).mono ?_; rintro e w9c ⟨rfl, hb⟩; replace BX := Lib.hid (BX.out.below hb); replace TB := Lib.hid (TB.out.below hb); replace HA := Lib.hid (HA.out.below hb); replace BB := Lib.hid (BB.out.trans (hb.mono BB.out.size)); replace PB := Lib.hid (PB.out.below hb); clear hb p0 p1 p2 p3 p4 p5; obtain ⟨_, g0, g1, _, _⟩ := PB.out
  go_wp2_with fail
  refine (l10At (r - 1) 0 (r - 1) _).mono ?_; rintro e w' ⟨rfl, rfl⟩; rw [at_yes]; clear PB; go_wp2; go_ret; exact ⟨rfl, BB.out⟩
set_option maxRecDepth 100000 in
set_option maxHeartbeats 4000000 in
theorem full10 (s : Sl) (a : Ads) (k : Int) (W : World) (h : Held W s a) (hok : s.Ok) (hs : s.Short) (hg : s.greatB 600 = false) (hT : Tab W) (hc : Sk.chkE s = 0) (r m : Int) (hr : Sk.rankV s k = r) (hm : Oc.countV s.words s.keys.length 0 s.keys.length = m) (he : Oc.countE s.words s.keys.length 0 s.keys.length = 0) (r0 : 0 ≤ r) (r1 : r ≤ 65536) (x : Nat) (N : Sk.NextAt s k x) (rm : r < m) (cx : Oc.countE s.words s.keys.length 0 x = 0 ∧ Oc.countV s.words s.keys.length 0 x = r) (hk : Sk.key s x = k) (e3 : Sk.lastE s k = 6) (v3 : Sk.lastV s k = 0) (rz : ¬ 0 < r) :
    Calls Tryd.prog 5 #[slv s a, .int .i64 k] W fun e w' => e = .returned (.bool true) ∧ Below W.heap.size W w' := by
  have HGr := Lib.hid hg; have hM := (Sk.chk_zero.1 hc).1; have l2 := hs.keys; have CC := Lib.hid (fun V (hv : Held V s a) tv => kCheck s a V hv hok hs tv); have CR := Lib.hid (fun V (hv : Held V s a) tv => kRank s a k V hv hok hs tv); have CN := Lib.hid (fun V (hv : Held V s a) tv => kNext s a k V hv hok hs tv); have CL := Lib.hid (fun V (hv : Held V s a) tv => kLast s a k V hv hok hs tv); have CI := Lib.hid (fun V (hv : Held V s a) tv => kFind s a k V hv hok hs tv); have CO := Lib.hid (fun V (hv : Held V s a) => oCount a.w a.cw s.words s.keys.length 0 s.keys.length V hv.words hok.words hs.words); rw [hc] at CC CR; rw [hr] at CR; rw [hm, he] at CO; rw [N.e, N.v] at CN
  have FE : Sk.findE s k = 0 := by unfold Sk.findE; rw [if_pos N.e, N.v, Int.toNat_natCast, if_pos hk]
  have FV : Sk.findV s k = (x : Int) := by unfold Sk.findV; rw [FE, if_pos rfl, N.v]
  rw [FE, FV] at CI; have CX := Lib.hid (fun V (hv : Held V s a) tv => sAt s a x V hv hok hs tv); have CY := Lib.hid (fun V (hv : Held V s a) => oCount a.w a.cw s.words s.keys.length 0 x V hv.words hok.words hs.words); rw [cx.1, cx.2] at CY; obtain ⟨q1, q2⟩ := Sk.at_is hM N.lt N.is
  replace CX := Lib.hid (show ∀ V, Held V s a → Tab V → Calls Tryd.prog 25 #[slv s a, .int .i64 (x : Int)] V fun e w' => e = .returned (.tuple #[.agg #[.int .i64 (Sk.key s x), .int .i64 (s.vals.getD x 0)], .int .i64 0]) ∧ Below V.heap.size V w' from fun V hv tv => by
    have := CX.out V hv tv; unfold AtPost at this; rw [q1, q2] at this
    exact this)
  have k1 : decide (r < m) = true := by simp; omega
  have k2 : decide (Sk.key s x < k) = false := by simp; have := N.key; omega
  have k3 : (Sk.key s x == k) = true := by simp [hk]
  have hxn : (x : Int) ≤ 65536 := by have := N.lt; omega
  obtain ⟨z, hz⟩ : ∃ z, Sk.key s x = z := ⟨_, rfl⟩; obtain ⟨u, hu⟩ : ∃ u, s.vals.getD x 0 = u := ⟨_, rfl⟩; rw [hz] at k2 k3 CX; rw [hu] at CX; clear N FE FV cx hk q1 q2 hz hu rm; rw [e3, v3] at CL
  have k4 : decide (0 < r) = false := by simp; omega
  have k5 : decide (r > 0) = false := by simp; omega
  clear e3 v3 rz; have HA := Lib.hid h; have TB := Lib.hid hT; have BX := Lib.hid (Box.new W s a 30); have HB := Lib.hid (fun o => (Below.refl W.heap.size W).alloc (Nat.le_refl _) o); clear h hok hs hg hT hc hM hr hm he; unfold slCells at BX; unfold slv at CC CR CN CL CI CX; unfold slv
  go_enter Tryd.func5, Tryd.ntmps5
  go_wp2_with fail
  refine (l10Alive _ (TB.out.below (HB.out _))).mono ?_; rintro e w0 ⟨rfl, hb⟩; have BB := Lib.hid ((HB.out _).trans (hb.mono (by simp))); replace BX := Lib.hid (BX.out.below hb); replace HA := Lib.hid (HA.out.below BB.out); replace TB := Lib.hid (TB.out.below BB.out); clear hb HB; obtain ⟨_, p0, p1, p2, p3, p4, p5, _⟩ := BX.out
  go_wp2_with fail
  refine (r4Great s a 600 _).mono ?_; rintro e w1 ⟨rfl, hb⟩; rw [HGr.out]; replace BX := Lib.hid (BX.out.below hb); replace TB := Lib.hid (TB.out.below hb); replace HA := Lib.hid (HA.out.below hb); replace BB := Lib.hid (BB.out.trans (hb.mono BB.out.size)); clear hb p0 p1 p2 p3 p4 p5; obtain ⟨_, p0, p1, p2, p3, p4, p5, _⟩ := BX.out
  go_wp2_with fail
  refine (CC.out _ HA.out TB.out).mono ?_; rintro e w2 ⟨rfl, hb⟩; replace BX := Lib.hid (BX.out.below hb); replace TB := Lib.hid (TB.out.below hb); replace HA := Lib.hid (HA.out.below hb); replace BB := Lib.hid (BB.out.trans (hb.mono BB.out.size)); clear hb p0 p1 p2 p3 p4 p5; obtain ⟨_, p0, p1, p2, p3, p4, p5, _⟩ := BX.out
  go_wp2_with fail
  refine (CR.out _ HA.out TB.out).mono ?_; rintro e w3 ⟨rfl, hb⟩; replace BX := Lib.hid (BX.out.below hb); replace TB := Lib.hid (TB.out.below hb); replace HA := Lib.hid (HA.out.below hb); replace BB := Lib.hid (BB.out.trans (hb.mono BB.out.size)); clear hb p0 p1 p2 p3 p4 p5; obtain ⟨_, p0, p1, p2, p3, p4, p5, _⟩ := BX.out
  go_wp2_with fail
  refine (CN.out _ HA.out TB.out).mono ?_; rintro e w4 ⟨rfl, hb⟩; replace BX := Lib.hid (BX.out.below hb); replace TB := Lib.hid (TB.out.below hb); replace HA := Lib.hid (HA.out.below hb); replace BB := Lib.hid (BB.out.trans (hb.mono BB.out.size)); clear hb p0 p1 p2 p3 p4 p5; obtain ⟨_, p0, p1, p2, p3, p4, p5, _⟩ := BX.out
  go_wp2_with fail
  refine (CL.out _ HA.out TB.out).mono ?_; rintro e w5 ⟨rfl, hb⟩; replace BX := Lib.hid (BX.out.below hb); replace TB := Lib.hid (TB.out.below hb); replace HA := Lib.hid (HA.out.below hb); replace BB := Lib.hid (BB.out.trans (hb.mono BB.out.size)); clear hb p0 p1 p2 p3 p4 p5; obtain ⟨_, p0, p1, p2, p3, p4, p5, _⟩ := BX.out
  go_wp2_with fail
  refine (CI.out _ HA.out TB.out).mono ?_; rintro e w6 ⟨rfl, hb⟩; replace BX := Lib.hid (BX.out.below hb); replace TB := Lib.hid (TB.out.below hb); replace HA := Lib.hid (HA.out.below hb); replace BB := Lib.hid (BB.out.trans (hb.mono BB.out.size)); clear hb p0 p1 p2 p3 p4 p5; obtain ⟨_, p0, p1, p2, p3, p4, p5, _⟩ := BX.out
  go_wp2_with fail
  refine (CO.out _ HA.out).mono ?_; rintro e w7 ⟨rfl, hb⟩; replace BX := Lib.hid (BX.out.below hb); replace TB := Lib.hid (TB.out.below hb); replace HA := Lib.hid (HA.out.below hb); replace BB := Lib.hid (BB.out.trans (hb.mono BB.out.size)); clear hb p0 p1 p2 p3 p4 p5; obtain ⟨_, p0, p1, p2, p3, p4, p5, _⟩ := BX.out
  go_wp2_with fail
  refine (CX.out _ HA.out TB.out).mono ?_; rintro e w8 ⟨rfl, hb⟩; replace BX := Lib.hid (BX.out.below hb); replace TB := Lib.hid (TB.out.below hb); replace HA := Lib.hid (HA.out.below hb); replace BB := Lib.hid (BB.out.trans (hb.mono BB.out.size)); clear hb p0 p1 p2 p3 p4 p5
  go_upto_region 14 with (fail)
  obtain ⟨V14, hV⟩ : ∃ V, V = w8.alloc (.cells #[.int .i64 z, .int .i64 u] 35) := ⟨_, rfl⟩
  have hba : Below w8.heap.size w8 V14 := by rw [hV]; exact (Below.refl _ _).alloc (Nat.le_refl _) _
  have PB := Lib.hid (show PBox V14 w8.heap.size (z, u) by rw [hV]; exact PBox.new w8 (z, u) 35); rw [← hV]; clear hV; replace BX := Lib.hid (BX.out.below hba); replace TB := Lib.hid (TB.out.below hba); replace HA := Lib.hid (HA.out.below hba); replace BB := Lib.hid (BB.out.trans (hba.mono BB.out.size)); clear hba; obtain ⟨_, p0, p1, p2, p3, p4, p5, _⟩ := BX.out
  go_wp2_with fail
  refine (CY.out _ HA.out).mono ?_; rintro e w8c ⟨rfl, hb⟩; replace BX := Lib.hid (BX.out.below hb); replace TB := Lib.hid (TB.out.below hb); replace HA := Lib.hid (HA.out.below hb); replace BB := Lib.hid (BB.out.trans (hb.mono BB.out.size)); replace PB := Lib.hid (PB.out.below hb); clear hb p0 p1 p2 p3 p4 p5; obtain ⟨_, g0, g1, _, _⟩ := PB.out
  go_wp2_with fail
  refine (l10At (r) 0 (r) _).mono ?_; rintro e w' ⟨rfl, rfl⟩; rw [at_yes]; clear PB; go_wp2; go_ret; exact ⟨rfl, BB.out⟩
set_option maxRecDepth 100000 in
set_option maxHeartbeats 4000000 in
theorem full11 (s : Sl) (a : Ads) (k : Int) (W : World) (h : Held W s a) (hok : s.Ok) (hs : s.Short) (hg : s.greatB 600 = false) (hT : Tab W) (hc : Sk.chkE s = 0) (r m : Int) (hr : Sk.rankV s k = r) (hm : Oc.countV s.words s.keys.length 0 s.keys.length = m) (he : Oc.countE s.words s.keys.length 0 s.keys.length = 0) (r0 : 0 ≤ r) (r1 : r ≤ 65536) (x : Nat) (N : Sk.NextAt s k x) (rm : r < m) (cx : Oc.countE s.words s.keys.length 0 x = 0 ∧ Oc.countV s.words s.keys.length 0 x = r) (hk : Sk.key s x = k) (y : Nat) (L : Sk.LastAt s k y) (rz : 0 < r) (cy : Oc.countE s.words s.keys.length 0 y = 0 ∧ Oc.countV s.words s.keys.length 0 y = r - 1) :
    Calls Tryd.prog 5 #[slv s a, .int .i64 k] W fun e w' => e = .returned (.bool true) ∧ Below W.heap.size W w' := by
  have HGr := Lib.hid hg; have hM := (Sk.chk_zero.1 hc).1; have l2 := hs.keys; have CC := Lib.hid (fun V (hv : Held V s a) tv => kCheck s a V hv hok hs tv); have CR := Lib.hid (fun V (hv : Held V s a) tv => kRank s a k V hv hok hs tv); have CN := Lib.hid (fun V (hv : Held V s a) tv => kNext s a k V hv hok hs tv); have CL := Lib.hid (fun V (hv : Held V s a) tv => kLast s a k V hv hok hs tv); have CI := Lib.hid (fun V (hv : Held V s a) tv => kFind s a k V hv hok hs tv); have CO := Lib.hid (fun V (hv : Held V s a) => oCount a.w a.cw s.words s.keys.length 0 s.keys.length V hv.words hok.words hs.words); rw [hc] at CC CR; rw [hr] at CR; rw [hm, he] at CO; rw [N.e, N.v] at CN
  have FE : Sk.findE s k = 0 := by unfold Sk.findE; rw [if_pos N.e, N.v, Int.toNat_natCast, if_pos hk]
  have FV : Sk.findV s k = (x : Int) := by unfold Sk.findV; rw [FE, if_pos rfl, N.v]
  rw [FE, FV] at CI; have CX := Lib.hid (fun V (hv : Held V s a) tv => sAt s a x V hv hok hs tv); have CY := Lib.hid (fun V (hv : Held V s a) => oCount a.w a.cw s.words s.keys.length 0 x V hv.words hok.words hs.words); rw [cx.1, cx.2] at CY; obtain ⟨q1, q2⟩ := Sk.at_is hM N.lt N.is
  replace CX := Lib.hid (show ∀ V, Held V s a → Tab V → Calls Tryd.prog 25 #[slv s a, .int .i64 (x : Int)] V fun e w' => e = .returned (.tuple #[.agg #[.int .i64 (Sk.key s x), .int .i64 (s.vals.getD x 0)], .int .i64 0]) ∧ Below V.heap.size V w' from fun V hv tv => by
    have := CX.out V hv tv; unfold AtPost at this; rw [q1, q2] at this
    exact this)
  have k1 : decide (r < m) = true := by simp; omega
  have k2 : decide (Sk.key s x < k) = false := by simp; have := N.key; omega
  have k3 : (Sk.key s x == k) = true := by simp [hk]
  have hxn : (x : Int) ≤ 65536 := by have := N.lt; omega
  obtain ⟨z, hz⟩ : ∃ z, Sk.key s x = z := ⟨_, rfl⟩; obtain ⟨u, hu⟩ : ∃ u, s.vals.getD x 0 = u := ⟨_, rfl⟩; rw [hz] at k2 k3 CX; rw [hu] at CX; clear N FE FV cx hk q1 q2 hz hu rm; rw [L.e, L.v] at CL; have DX := Lib.hid (fun V (hv : Held V s a) tv => sAt s a y V hv hok hs tv); have DY := Lib.hid (fun V (hv : Held V s a) => oCount a.w a.cw s.words s.keys.length 0 y V hv.words hok.words hs.words); rw [cy.1, cy.2] at DY; obtain ⟨q1, q2⟩ := Sk.at_is hM L.lt L.is
  replace DX := Lib.hid (show ∀ V, Held V s a → Tab V → Calls Tryd.prog 25 #[slv s a, .int .i64 (y : Int)] V fun e w' => e = .returned (.tuple #[.agg #[.int .i64 (Sk.key s y), .int .i64 (s.vals.getD y 0)], .int .i64 0]) ∧ Below V.heap.size V w' from fun V hv tv => by
    have := DX.out V hv tv; unfold AtPost at this; rw [q1, q2] at this
    exact this)
  have k4 : decide (0 < r) = true := by simp; omega
  have k5 : decide (r > 0) = true := by simp; omega
  have k6 : decide (Sk.key s y ≥ k) = false := by simp; have := L.key; omega
  have k7 : decide (k ≤ Sk.key s y) = false := by simp; have := L.key; omega
  have hyn : (y : Int) ≤ 65536 := by have := L.lt; omega
  obtain ⟨z2, hz2⟩ : ∃ z, Sk.key s y = z := ⟨_, rfl⟩; obtain ⟨u2, hu2⟩ : ∃ u, s.vals.getD y 0 = u := ⟨_, rfl⟩; rw [hz2] at k6 k7 DX; rw [hu2] at DX; clear L cy q1 q2 hz2 hu2 rz; have HA := Lib.hid h; have TB := Lib.hid hT; have BX := Lib.hid (Box.new W s a 30); have HB := Lib.hid (fun o => (Below.refl W.heap.size W).alloc (Nat.le_refl _) o); clear h hok hs hg hT hc hM hr hm he; unfold slCells at BX; unfold slv at CC CR CN CL CI CX DX; unfold slv
  go_enter Tryd.func5, Tryd.ntmps5
  go_wp2_with fail
  refine (l10Alive _ (TB.out.below (HB.out _))).mono ?_; rintro e w0 ⟨rfl, hb⟩; have BB := Lib.hid ((HB.out _).trans (hb.mono (by simp))); replace BX := Lib.hid (BX.out.below hb); replace HA := Lib.hid (HA.out.below BB.out); replace TB := Lib.hid (TB.out.below BB.out); clear hb HB; obtain ⟨_, p0, p1, p2, p3, p4, p5, _⟩ := BX.out
  go_wp2_with fail
  refine (r4Great s a 600 _).mono ?_; rintro e w1 ⟨rfl, hb⟩; rw [HGr.out]; replace BX := Lib.hid (BX.out.below hb); replace TB := Lib.hid (TB.out.below hb); replace HA := Lib.hid (HA.out.below hb); replace BB := Lib.hid (BB.out.trans (hb.mono BB.out.size)); clear hb p0 p1 p2 p3 p4 p5; obtain ⟨_, p0, p1, p2, p3, p4, p5, _⟩ := BX.out
  go_wp2_with fail
  refine (CC.out _ HA.out TB.out).mono ?_; rintro e w2 ⟨rfl, hb⟩; replace BX := Lib.hid (BX.out.below hb); replace TB := Lib.hid (TB.out.below hb); replace HA := Lib.hid (HA.out.below hb); replace BB := Lib.hid (BB.out.trans (hb.mono BB.out.size)); clear hb p0 p1 p2 p3 p4 p5; obtain ⟨_, p0, p1, p2, p3, p4, p5, _⟩ := BX.out
  go_wp2_with fail
  refine (CR.out _ HA.out TB.out).mono ?_; rintro e w3 ⟨rfl, hb⟩; replace BX := Lib.hid (BX.out.below hb); replace TB := Lib.hid (TB.out.below hb); replace HA := Lib.hid (HA.out.below hb); replace BB := Lib.hid (BB.out.trans (hb.mono BB.out.size)); clear hb p0 p1 p2 p3 p4 p5; obtain ⟨_, p0, p1, p2, p3, p4, p5, _⟩ := BX.out
  go_wp2_with fail
  refine (CN.out _ HA.out TB.out).mono ?_; rintro e w4 ⟨rfl, hb⟩; replace BX := Lib.hid (BX.out.below hb); replace TB := Lib.hid (TB.out.below hb); replace HA := Lib.hid (HA.out.below hb); replace BB := Lib.hid (BB.out.trans (hb.mono BB.out.size)); clear hb p0 p1 p2 p3 p4 p5; obtain ⟨_, p0, p1, p2, p3, p4, p5, _⟩ := BX.out
  go_wp2_with fail
  refine (CL.out _ HA.out TB.out).mono ?_; rintro e w5 ⟨rfl, hb⟩; replace BX := Lib.hid (BX.out.below hb); replace TB := Lib.hid (TB.out.below hb); replace HA := Lib.hid (HA.out.below hb); replace BB := Lib.hid (BB.out.trans (hb.mono BB.out.size)); clear hb p0 p1 p2 p3 p4 p5; obtain ⟨_, p0, p1, p2, p3, p4, p5, _⟩ := BX.out
  go_wp2_with fail
  refine (CI.out _ HA.out TB.out).mono ?_; rintro e w6 ⟨rfl, hb⟩; replace BX := Lib.hid (BX.out.below hb); replace TB := Lib.hid (TB.out.below hb); replace HA := Lib.hid (HA.out.below hb); replace BB := Lib.hid (BB.out.trans (hb.mono BB.out.size)); clear hb p0 p1 p2 p3 p4 p5; obtain ⟨_, p0, p1, p2, p3, p4, p5, _⟩ := BX.out
  go_wp2_with fail
  refine (CO.out _ HA.out).mono ?_; rintro e w7 ⟨rfl, hb⟩; replace BX := Lib.hid (BX.out.below hb); replace TB := Lib.hid (TB.out.below hb); replace HA := Lib.hid (HA.out.below hb); replace BB := Lib.hid (BB.out.trans (hb.mono BB.out.size)); clear hb p0 p1 p2 p3 p4 p5; obtain ⟨_, p0, p1, p2, p3, p4, p5, _⟩ := BX.out
  go_wp2_with fail
  refine (CX.out _ HA.out TB.out).mono ?_; rintro e w8 ⟨rfl, hb⟩; replace BX := Lib.hid (BX.out.below hb); replace TB := Lib.hid (TB.out.below hb); replace HA := Lib.hid (HA.out.below hb); replace BB := Lib.hid (BB.out.trans (hb.mono BB.out.size)); clear hb p0 p1 p2 p3 p4 p5
  go_upto_region 14 with (fail)
  obtain ⟨V14, hV⟩ : ∃ V, V = w8.alloc (.cells #[.int .i64 z, .int .i64 u] 35) := ⟨_, rfl⟩
  have hba : Below w8.heap.size w8 V14 := by rw [hV]; exact (Below.refl _ _).alloc (Nat.le_refl _) _
  have PB := Lib.hid (show PBox V14 w8.heap.size (z, u) by rw [hV]; exact PBox.new w8 (z, u) 35); rw [← hV]; clear hV; replace BX := Lib.hid (BX.out.below hba); replace TB := Lib.hid (TB.out.below hba); replace HA := Lib.hid (HA.out.below hba); replace BB := Lib.hid (BB.out.trans (hba.mono BB.out.size)); clear hba; obtain ⟨_, p0, p1, p2, p3, p4, p5, _⟩ := BX.out
  go_wp2_with fail
  refine (CY.out _ HA.out).mono ?_; rintro e w8c ⟨rfl, hb⟩; replace BX := Lib.hid (BX.out.below hb); replace TB := Lib.hid (TB.out.below hb); replace HA := Lib.hid (HA.out.below hb); replace BB := Lib.hid (BB.out.trans (hb.mono BB.out.size)); replace PB := Lib.hid (PB.out.below hb); clear hb p0 p1 p2 p3 p4 p5; obtain ⟨_, g0, g1, _, _⟩ := PB.out
  go_wp2_with fail
  refine (l10At (r) 0 (r) _).mono ?_; rintro e w' ⟨rfl, rfl⟩; rw [at_yes]; clear PB; obtain ⟨_, p0, p1, p2, p3, p4, p5, _⟩ := BX.out
  go_wp2_with fail
  refine (DX.out _ HA.out TB.out).mono ?_; rintro e w9 ⟨rfl, hb⟩; replace BX := Lib.hid (BX.out.below hb); replace TB := Lib.hid (TB.out.below hb); replace HA := Lib.hid (HA.out.below hb); replace BB := Lib.hid (BB.out.trans (hb.mono BB.out.size)); clear hb p0 p1 p2 p3 p4 p5
  go_upto_region 19 with (fail)
  obtain ⟨V19, hV⟩ : ∃ V, V = w9.alloc (.cells #[.int .i64 z2, .int .i64 u2] 35) := ⟨_, rfl⟩
  have hba : Below w9.heap.size w9 V19 := by rw [hV]; exact (Below.refl _ _).alloc (Nat.le_refl _) _
  have PB := Lib.hid (show PBox V19 w9.heap.size (z2, u2) by rw [hV]; exact PBox.new w9 (z2, u2) 35); rw [← hV]; clear hV; replace BX := Lib.hid (BX.out.below hba); replace TB := Lib.hid (TB.out.below hba); replace HA := Lib.hid (HA.out.below hba); replace BB := Lib.hid (BB.out.trans (hba.mono BB.out.size)); clear hba; obtain ⟨_, p0, p1, p2, p3, p4, p5, _⟩ := BX.out
  go_wp2_with fail
  refine (DY.out _ HA.out).mono ?_; rintro e w9c ⟨rfl, hb⟩; replace BX := Lib.hid (BX.out.below hb); replace TB := Lib.hid (TB.out.below hb); replace HA := Lib.hid (HA.out.below hb); replace BB := Lib.hid (BB.out.trans (hb.mono BB.out.size)); replace PB := Lib.hid (PB.out.below hb); clear hb p0 p1 p2 p3 p4 p5; obtain ⟨_, g0, g1, _, _⟩ := PB.out
  go_wp2_with fail
  refine (l10At (r - 1) 0 (r - 1) _).mono ?_; rintro e w' ⟨rfl, rfl⟩; rw [at_yes]; clear PB; go_wp2; go_ret; exact ⟨rfl, BB.out⟩
set_option maxRecDepth 100000 in
set_option maxHeartbeats 4000000 in
theorem full20 (s : Sl) (a : Ads) (k : Int) (W : World) (h : Held W s a) (hok : s.Ok) (hs : s.Short) (hg : s.greatB 600 = false) (hT : Tab W) (hc : Sk.chkE s = 0) (r m : Int) (hr : Sk.rankV s k = r) (hm : Oc.countV s.words s.keys.length 0 s.keys.length = m) (he : Oc.countE s.words s.keys.length 0 s.keys.length = 0) (r0 : 0 ≤ r) (r1 : r ≤ 65536) (x : Nat) (N : Sk.NextAt s k x) (rm : r < m) (cx : Oc.countE s.words s.keys.length 0 x = 0 ∧ Oc.countV s.words s.keys.length 0 x = r) (hk : ¬ Sk.key s x = k) (e3 : Sk.lastE s k = 6) (v3 : Sk.lastV s k = 0) (rz : ¬ 0 < r) :
    Calls Tryd.prog 5 #[slv s a, .int .i64 k] W fun e w' => e = .returned (.bool true) ∧ Below W.heap.size W w' := by
  have HGr := Lib.hid hg; have hM := (Sk.chk_zero.1 hc).1; have l2 := hs.keys; have CC := Lib.hid (fun V (hv : Held V s a) tv => kCheck s a V hv hok hs tv); have CR := Lib.hid (fun V (hv : Held V s a) tv => kRank s a k V hv hok hs tv); have CN := Lib.hid (fun V (hv : Held V s a) tv => kNext s a k V hv hok hs tv); have CL := Lib.hid (fun V (hv : Held V s a) tv => kLast s a k V hv hok hs tv); have CI := Lib.hid (fun V (hv : Held V s a) tv => kFind s a k V hv hok hs tv); have CO := Lib.hid (fun V (hv : Held V s a) => oCount a.w a.cw s.words s.keys.length 0 s.keys.length V hv.words hok.words hs.words); rw [hc] at CC CR; rw [hr] at CR; rw [hm, he] at CO; rw [N.e, N.v] at CN
  have FE : Sk.findE s k = 6 := by unfold Sk.findE; rw [if_pos N.e, N.v, Int.toNat_natCast, if_neg hk]
  have FV : Sk.findV s k = 0 := by unfold Sk.findV; rw [FE]; rfl
  rw [FE, FV] at CI; have CX := Lib.hid (fun V (hv : Held V s a) tv => sAt s a x V hv hok hs tv); have CY := Lib.hid (fun V (hv : Held V s a) => oCount a.w a.cw s.words s.keys.length 0 x V hv.words hok.words hs.words); rw [cx.1, cx.2] at CY; obtain ⟨q1, q2⟩ := Sk.at_is hM N.lt N.is
  replace CX := Lib.hid (show ∀ V, Held V s a → Tab V → Calls Tryd.prog 25 #[slv s a, .int .i64 (x : Int)] V fun e w' => e = .returned (.tuple #[.agg #[.int .i64 (Sk.key s x), .int .i64 (s.vals.getD x 0)], .int .i64 0]) ∧ Below V.heap.size V w' from fun V hv tv => by
    have := CX.out V hv tv; unfold AtPost at this; rw [q1, q2] at this
    exact this)
  have k1 : decide (r < m) = true := by simp; omega
  have k2 : decide (Sk.key s x < k) = false := by simp; have := N.key; omega
  have k3 : (Sk.key s x == k) = false := by simp [hk]
  have hxn : (x : Int) ≤ 65536 := by have := N.lt; omega
  obtain ⟨z, hz⟩ : ∃ z, Sk.key s x = z := ⟨_, rfl⟩; obtain ⟨u, hu⟩ : ∃ u, s.vals.getD x 0 = u := ⟨_, rfl⟩; rw [hz] at k2 k3 CX; rw [hu] at CX; clear N FE FV cx hk q1 q2 hz hu rm; rw [e3, v3] at CL
  have k4 : decide (0 < r) = false := by simp; omega
  have k5 : decide (r > 0) = false := by simp; omega
  clear e3 v3 rz; have HA := Lib.hid h; have TB := Lib.hid hT; have BX := Lib.hid (Box.new W s a 30); have HB := Lib.hid (fun o => (Below.refl W.heap.size W).alloc (Nat.le_refl _) o); clear h hok hs hg hT hc hM hr hm he; unfold slCells at BX; unfold slv at CC CR CN CL CI CX; unfold slv
  go_enter Tryd.func5, Tryd.ntmps5
  go_wp2_with fail
  refine (l10Alive _ (TB.out.below (HB.out _))).mono ?_; rintro e w0 ⟨rfl, hb⟩; have BB := Lib.hid ((HB.out _).trans (hb.mono (by simp))); replace BX := Lib.hid (BX.out.below hb); replace HA := Lib.hid (HA.out.below BB.out); replace TB := Lib.hid (TB.out.below BB.out); clear hb HB; obtain ⟨_, p0, p1, p2, p3, p4, p5, _⟩ := BX.out
  go_wp2_with fail
  refine (r4Great s a 600 _).mono ?_; rintro e w1 ⟨rfl, hb⟩; rw [HGr.out]; replace BX := Lib.hid (BX.out.below hb); replace TB := Lib.hid (TB.out.below hb); replace HA := Lib.hid (HA.out.below hb); replace BB := Lib.hid (BB.out.trans (hb.mono BB.out.size)); clear hb p0 p1 p2 p3 p4 p5; obtain ⟨_, p0, p1, p2, p3, p4, p5, _⟩ := BX.out
  go_wp2_with fail
  refine (CC.out _ HA.out TB.out).mono ?_; rintro e w2 ⟨rfl, hb⟩; replace BX := Lib.hid (BX.out.below hb); replace TB := Lib.hid (TB.out.below hb); replace HA := Lib.hid (HA.out.below hb); replace BB := Lib.hid (BB.out.trans (hb.mono BB.out.size)); clear hb p0 p1 p2 p3 p4 p5; obtain ⟨_, p0, p1, p2, p3, p4, p5, _⟩ := BX.out
  go_wp2_with fail
  refine (CR.out _ HA.out TB.out).mono ?_; rintro e w3 ⟨rfl, hb⟩; replace BX := Lib.hid (BX.out.below hb); replace TB := Lib.hid (TB.out.below hb); replace HA := Lib.hid (HA.out.below hb); replace BB := Lib.hid (BB.out.trans (hb.mono BB.out.size)); clear hb p0 p1 p2 p3 p4 p5; obtain ⟨_, p0, p1, p2, p3, p4, p5, _⟩ := BX.out
  go_wp2_with fail
  refine (CN.out _ HA.out TB.out).mono ?_; rintro e w4 ⟨rfl, hb⟩; replace BX := Lib.hid (BX.out.below hb); replace TB := Lib.hid (TB.out.below hb); replace HA := Lib.hid (HA.out.below hb); replace BB := Lib.hid (BB.out.trans (hb.mono BB.out.size)); clear hb p0 p1 p2 p3 p4 p5; obtain ⟨_, p0, p1, p2, p3, p4, p5, _⟩ := BX.out
  go_wp2_with fail
  refine (CL.out _ HA.out TB.out).mono ?_; rintro e w5 ⟨rfl, hb⟩; replace BX := Lib.hid (BX.out.below hb); replace TB := Lib.hid (TB.out.below hb); replace HA := Lib.hid (HA.out.below hb); replace BB := Lib.hid (BB.out.trans (hb.mono BB.out.size)); clear hb p0 p1 p2 p3 p4 p5; obtain ⟨_, p0, p1, p2, p3, p4, p5, _⟩ := BX.out
  go_wp2_with fail
  refine (CI.out _ HA.out TB.out).mono ?_; rintro e w6 ⟨rfl, hb⟩; replace BX := Lib.hid (BX.out.below hb); replace TB := Lib.hid (TB.out.below hb); replace HA := Lib.hid (HA.out.below hb); replace BB := Lib.hid (BB.out.trans (hb.mono BB.out.size)); clear hb p0 p1 p2 p3 p4 p5; obtain ⟨_, p0, p1, p2, p3, p4, p5, _⟩ := BX.out
  go_wp2_with fail
  refine (CO.out _ HA.out).mono ?_; rintro e w7 ⟨rfl, hb⟩; replace BX := Lib.hid (BX.out.below hb); replace TB := Lib.hid (TB.out.below hb); replace HA := Lib.hid (HA.out.below hb); replace BB := Lib.hid (BB.out.trans (hb.mono BB.out.size)); clear hb p0 p1 p2 p3 p4 p5; obtain ⟨_, p0, p1, p2, p3, p4, p5, _⟩ := BX.out
  go_wp2_with fail
  refine (CX.out _ HA.out TB.out).mono ?_; rintro e w8 ⟨rfl, hb⟩; replace BX := Lib.hid (BX.out.below hb); replace TB := Lib.hid (TB.out.below hb); replace HA := Lib.hid (HA.out.below hb); replace BB := Lib.hid (BB.out.trans (hb.mono BB.out.size)); clear hb p0 p1 p2 p3 p4 p5
  go_upto_region 14 with (fail)
  obtain ⟨V14, hV⟩ : ∃ V, V = w8.alloc (.cells #[.int .i64 z, .int .i64 u] 35) := ⟨_, rfl⟩
  have hba : Below w8.heap.size w8 V14 := by rw [hV]; exact (Below.refl _ _).alloc (Nat.le_refl _) _
  have PB := Lib.hid (show PBox V14 w8.heap.size (z, u) by rw [hV]; exact PBox.new w8 (z, u) 35); rw [← hV]; clear hV; replace BX := Lib.hid (BX.out.below hba); replace TB := Lib.hid (TB.out.below hba); replace HA := Lib.hid (HA.out.below hba); replace BB := Lib.hid (BB.out.trans (hba.mono BB.out.size)); clear hba; obtain ⟨_, p0, p1, p2, p3, p4, p5, _⟩ := BX.out
  go_wp2_with fail
  refine (CY.out _ HA.out).mono ?_; rintro e w8c ⟨rfl, hb⟩; replace BX := Lib.hid (BX.out.below hb); replace TB := Lib.hid (TB.out.below hb); replace HA := Lib.hid (HA.out.below hb); replace BB := Lib.hid (BB.out.trans (hb.mono BB.out.size)); replace PB := Lib.hid (PB.out.below hb); clear hb p0 p1 p2 p3 p4 p5; obtain ⟨_, g0, g1, _, _⟩ := PB.out
  go_wp2_with fail
  refine (l10At (r) 0 (r) _).mono ?_; rintro e w' ⟨rfl, rfl⟩; rw [at_yes]; clear PB; go_wp2; go_ret; exact ⟨rfl, BB.out⟩
set_option maxRecDepth 100000 in
set_option maxHeartbeats 4000000 in
theorem full21 (s : Sl) (a : Ads) (k : Int) (W : World) (h : Held W s a) (hok : s.Ok) (hs : s.Short) (hg : s.greatB 600 = false) (hT : Tab W) (hc : Sk.chkE s = 0) (r m : Int) (hr : Sk.rankV s k = r) (hm : Oc.countV s.words s.keys.length 0 s.keys.length = m) (he : Oc.countE s.words s.keys.length 0 s.keys.length = 0) (r0 : 0 ≤ r) (r1 : r ≤ 65536) (x : Nat) (N : Sk.NextAt s k x) (rm : r < m) (cx : Oc.countE s.words s.keys.length 0 x = 0 ∧ Oc.countV s.words s.keys.length 0 x = r) (hk : ¬ Sk.key s x = k) (y : Nat) (L : Sk.LastAt s k y) (rz : 0 < r) (cy : Oc.countE s.words s.keys.length 0 y = 0 ∧ Oc.countV s.words s.keys.length 0 y = r - 1) :
    Calls Tryd.prog 5 #[slv s a, .int .i64 k] W fun e w' => e = .returned (.bool true) ∧ Below W.heap.size W w' := by
  have HGr := Lib.hid hg; have hM := (Sk.chk_zero.1 hc).1; have l2 := hs.keys; have CC := Lib.hid (fun V (hv : Held V s a) tv => kCheck s a V hv hok hs tv); have CR := Lib.hid (fun V (hv : Held V s a) tv => kRank s a k V hv hok hs tv); have CN := Lib.hid (fun V (hv : Held V s a) tv => kNext s a k V hv hok hs tv); have CL := Lib.hid (fun V (hv : Held V s a) tv => kLast s a k V hv hok hs tv); have CI := Lib.hid (fun V (hv : Held V s a) tv => kFind s a k V hv hok hs tv); have CO := Lib.hid (fun V (hv : Held V s a) => oCount a.w a.cw s.words s.keys.length 0 s.keys.length V hv.words hok.words hs.words); rw [hc] at CC CR; rw [hr] at CR; rw [hm, he] at CO; rw [N.e, N.v] at CN
  have FE : Sk.findE s k = 6 := by unfold Sk.findE; rw [if_pos N.e, N.v, Int.toNat_natCast, if_neg hk]
  have FV : Sk.findV s k = 0 := by unfold Sk.findV; rw [FE]; rfl
  rw [FE, FV] at CI; have CX := Lib.hid (fun V (hv : Held V s a) tv => sAt s a x V hv hok hs tv); have CY := Lib.hid (fun V (hv : Held V s a) => oCount a.w a.cw s.words s.keys.length 0 x V hv.words hok.words hs.words); rw [cx.1, cx.2] at CY; obtain ⟨q1, q2⟩ := Sk.at_is hM N.lt N.is
  replace CX := Lib.hid (show ∀ V, Held V s a → Tab V → Calls Tryd.prog 25 #[slv s a, .int .i64 (x : Int)] V fun e w' => e = .returned (.tuple #[.agg #[.int .i64 (Sk.key s x), .int .i64 (s.vals.getD x 0)], .int .i64 0]) ∧ Below V.heap.size V w' from fun V hv tv => by
    have := CX.out V hv tv; unfold AtPost at this; rw [q1, q2] at this
    exact this)
  have k1 : decide (r < m) = true := by simp; omega
  have k2 : decide (Sk.key s x < k) = false := by simp; have := N.key; omega
  have k3 : (Sk.key s x == k) = false := by simp [hk]
  have hxn : (x : Int) ≤ 65536 := by have := N.lt; omega
  obtain ⟨z, hz⟩ : ∃ z, Sk.key s x = z := ⟨_, rfl⟩; obtain ⟨u, hu⟩ : ∃ u, s.vals.getD x 0 = u := ⟨_, rfl⟩; rw [hz] at k2 k3 CX; rw [hu] at CX; clear N FE FV cx hk q1 q2 hz hu rm; rw [L.e, L.v] at CL; have DX := Lib.hid (fun V (hv : Held V s a) tv => sAt s a y V hv hok hs tv); have DY := Lib.hid (fun V (hv : Held V s a) => oCount a.w a.cw s.words s.keys.length 0 y V hv.words hok.words hs.words); rw [cy.1, cy.2] at DY; obtain ⟨q1, q2⟩ := Sk.at_is hM L.lt L.is
  replace DX := Lib.hid (show ∀ V, Held V s a → Tab V → Calls Tryd.prog 25 #[slv s a, .int .i64 (y : Int)] V fun e w' => e = .returned (.tuple #[.agg #[.int .i64 (Sk.key s y), .int .i64 (s.vals.getD y 0)], .int .i64 0]) ∧ Below V.heap.size V w' from fun V hv tv => by
    have := DX.out V hv tv; unfold AtPost at this; rw [q1, q2] at this
    exact this)
  have k4 : decide (0 < r) = true := by simp; omega
  have k5 : decide (r > 0) = true := by simp; omega
  have k6 : decide (Sk.key s y ≥ k) = false := by simp; have := L.key; omega
  have k7 : decide (k ≤ Sk.key s y) = false := by simp; have := L.key; omega
  have hyn : (y : Int) ≤ 65536 := by have := L.lt; omega
  obtain ⟨z2, hz2⟩ : ∃ z, Sk.key s y = z := ⟨_, rfl⟩; obtain ⟨u2, hu2⟩ : ∃ u, s.vals.getD y 0 = u := ⟨_, rfl⟩; rw [hz2] at k6 k7 DX; rw [hu2] at DX; clear L cy q1 q2 hz2 hu2 rz; have HA := Lib.hid h; have TB := Lib.hid hT; have BX := Lib.hid (Box.new W s a 30); have HB := Lib.hid (fun o => (Below.refl W.heap.size W).alloc (Nat.le_refl _) o); clear h hok hs hg hT hc hM hr hm he; unfold slCells at BX; unfold slv at CC CR CN CL CI CX DX; unfold slv
  go_enter Tryd.func5, Tryd.ntmps5
  go_wp2_with fail
  refine (l10Alive _ (TB.out.below (HB.out _))).mono ?_; rintro e w0 ⟨rfl, hb⟩; have BB := Lib.hid ((HB.out _).trans (hb.mono (by simp))); replace BX := Lib.hid (BX.out.below hb); replace HA := Lib.hid (HA.out.below BB.out); replace TB := Lib.hid (TB.out.below BB.out); clear hb HB; obtain ⟨_, p0, p1, p2, p3, p4, p5, _⟩ := BX.out
  go_wp2_with fail
  refine (r4Great s a 600 _).mono ?_; rintro e w1 ⟨rfl, hb⟩; rw [HGr.out]; replace BX := Lib.hid (BX.out.below hb); replace TB := Lib.hid (TB.out.below hb); replace HA := Lib.hid (HA.out.below hb); replace BB := Lib.hid (BB.out.trans (hb.mono BB.out.size)); clear hb p0 p1 p2 p3 p4 p5; obtain ⟨_, p0, p1, p2, p3, p4, p5, _⟩ := BX.out
  go_wp2_with fail
  refine (CC.out _ HA.out TB.out).mono ?_; rintro e w2 ⟨rfl, hb⟩; replace BX := Lib.hid (BX.out.below hb); replace TB := Lib.hid (TB.out.below hb); replace HA := Lib.hid (HA.out.below hb); replace BB := Lib.hid (BB.out.trans (hb.mono BB.out.size)); clear hb p0 p1 p2 p3 p4 p5; obtain ⟨_, p0, p1, p2, p3, p4, p5, _⟩ := BX.out
  go_wp2_with fail
  refine (CR.out _ HA.out TB.out).mono ?_; rintro e w3 ⟨rfl, hb⟩; replace BX := Lib.hid (BX.out.below hb); replace TB := Lib.hid (TB.out.below hb); replace HA := Lib.hid (HA.out.below hb); replace BB := Lib.hid (BB.out.trans (hb.mono BB.out.size)); clear hb p0 p1 p2 p3 p4 p5; obtain ⟨_, p0, p1, p2, p3, p4, p5, _⟩ := BX.out
  go_wp2_with fail
  refine (CN.out _ HA.out TB.out).mono ?_; rintro e w4 ⟨rfl, hb⟩; replace BX := Lib.hid (BX.out.below hb); replace TB := Lib.hid (TB.out.below hb); replace HA := Lib.hid (HA.out.below hb); replace BB := Lib.hid (BB.out.trans (hb.mono BB.out.size)); clear hb p0 p1 p2 p3 p4 p5; obtain ⟨_, p0, p1, p2, p3, p4, p5, _⟩ := BX.out
  go_wp2_with fail
  refine (CL.out _ HA.out TB.out).mono ?_; rintro e w5 ⟨rfl, hb⟩; replace BX := Lib.hid (BX.out.below hb); replace TB := Lib.hid (TB.out.below hb); replace HA := Lib.hid (HA.out.below hb); replace BB := Lib.hid (BB.out.trans (hb.mono BB.out.size)); clear hb p0 p1 p2 p3 p4 p5; obtain ⟨_, p0, p1, p2, p3, p4, p5, _⟩ := BX.out
  go_wp2_with fail
  refine (CI.out _ HA.out TB.out).mono ?_; rintro e w6 ⟨rfl, hb⟩; replace BX := Lib.hid (BX.out.below hb); replace TB := Lib.hid (TB.out.below hb); replace HA := Lib.hid (HA.out.below hb); replace BB := Lib.hid (BB.out.trans (hb.mono BB.out.size)); clear hb p0 p1 p2 p3 p4 p5; obtain ⟨_, p0, p1, p2, p3, p4, p5, _⟩ := BX.out
  go_wp2_with fail
  refine (CO.out _ HA.out).mono ?_; rintro e w7 ⟨rfl, hb⟩; replace BX := Lib.hid (BX.out.below hb); replace TB := Lib.hid (TB.out.below hb); replace HA := Lib.hid (HA.out.below hb); replace BB := Lib.hid (BB.out.trans (hb.mono BB.out.size)); clear hb p0 p1 p2 p3 p4 p5; obtain ⟨_, p0, p1, p2, p3, p4, p5, _⟩ := BX.out
  go_wp2_with fail
  refine (CX.out _ HA.out TB.out).mono ?_; rintro e w8 ⟨rfl, hb⟩; replace BX := Lib.hid (BX.out.below hb); replace TB := Lib.hid (TB.out.below hb); replace HA := Lib.hid (HA.out.below hb); replace BB := Lib.hid (BB.out.trans (hb.mono BB.out.size)); clear hb p0 p1 p2 p3 p4 p5
  go_upto_region 14 with (fail)
  obtain ⟨V14, hV⟩ : ∃ V, V = w8.alloc (.cells #[.int .i64 z, .int .i64 u] 35) := ⟨_, rfl⟩
  have hba : Below w8.heap.size w8 V14 := by rw [hV]; exact (Below.refl _ _).alloc (Nat.le_refl _) _
  have PB := Lib.hid (show PBox V14 w8.heap.size (z, u) by rw [hV]; exact PBox.new w8 (z, u) 35); rw [← hV]; clear hV; replace BX := Lib.hid (BX.out.below hba); replace TB := Lib.hid (TB.out.below hba); replace HA := Lib.hid (HA.out.below hba); replace BB := Lib.hid (BB.out.trans (hba.mono BB.out.size)); clear hba; obtain ⟨_, p0, p1, p2, p3, p4, p5, _⟩ := BX.out
  go_wp2_with fail
  refine (CY.out _ HA.out).mono ?_; rintro e w8c ⟨rfl, hb⟩; replace BX := Lib.hid (BX.out.below hb); replace TB := Lib.hid (TB.out.below hb); replace HA := Lib.hid (HA.out.below hb); replace BB := Lib.hid (BB.out.trans (hb.mono BB.out.size)); replace PB := Lib.hid (PB.out.below hb); clear hb p0 p1 p2 p3 p4 p5; obtain ⟨_, g0, g1, _, _⟩ := PB.out
  go_wp2_with fail
  refine (l10At (r) 0 (r) _).mono ?_; rintro e w' ⟨rfl, rfl⟩; rw [at_yes]; clear PB; obtain ⟨_, p0, p1, p2, p3, p4, p5, _⟩ := BX.out
  go_wp2_with fail
  refine (DX.out _ HA.out TB.out).mono ?_; rintro e w9 ⟨rfl, hb⟩; replace BX := Lib.hid (BX.out.below hb); replace TB := Lib.hid (TB.out.below hb); replace HA := Lib.hid (HA.out.below hb); replace BB := Lib.hid (BB.out.trans (hb.mono BB.out.size)); clear hb p0 p1 p2 p3 p4 p5
  go_upto_region 19 with (fail)
  obtain ⟨V19, hV⟩ : ∃ V, V = w9.alloc (.cells #[.int .i64 z2, .int .i64 u2] 35) := ⟨_, rfl⟩
  have hba : Below w9.heap.size w9 V19 := by rw [hV]; exact (Below.refl _ _).alloc (Nat.le_refl _) _
  have PB := Lib.hid (show PBox V19 w9.heap.size (z2, u2) by rw [hV]; exact PBox.new w9 (z2, u2) 35); rw [← hV]; clear hV; replace BX := Lib.hid (BX.out.below hba); replace TB := Lib.hid (TB.out.below hba); replace HA := Lib.hid (HA.out.below hba); replace BB := Lib.hid (BB.out.trans (hba.mono BB.out.size)); clear hba; obtain ⟨_, p0, p1, p2, p3, p4, p5, _⟩ := BX.out
  go_wp2_with fail
  refine (DY.out _ HA.out).mono ?_; rintro e w9c ⟨rfl, hb⟩; replace BX := Lib.hid (BX.out.below hb); replace TB := Lib.hid (TB.out.below hb); replace HA := Lib.hid (HA.out.below hb); replace BB := Lib.hid (BB.out.trans (hb.mono BB.out.size)); replace PB := Lib.hid (PB.out.below hb); clear hb p0 p1 p2 p3 p4 p5; obtain ⟨_, g0, g1, _, _⟩ := PB.out
  go_wp2_with fail
  refine (l10At (r - 1) 0 (r - 1) _).mono ?_; rintro e w' ⟨rfl, rfl⟩; rw [at_yes]; clear PB; go_wp2; go_ret; exact ⟨rfl, BB.out⟩
set_option maxRecDepth 100000 in
set_option maxHeartbeats 2000000 in
theorem walk (s : Sl) (a : Ads) (k : Int) (W : World) (h : Held W s a) (hok : s.Ok) (hT : Tab W) :
    Calls Tryd.prog 5 #[slv s a, .int .i64 k] W fun e w' => e = .returned (.bool true) ∧ Below W.heap.size W w' := by
  have HA := Lib.hid h; have TB := Lib.hid hT; have BX := Lib.hid (Box.new W s a 30); have HB := Lib.hid (fun o => (Below.refl W.heap.size W).alloc (Nat.le_refl _) o)
  cases hg : s.greatB 600
  · have hs : s.Short := by
      unfold Sl.greatB at hg
      simp only [Bool.or_eq_false_iff, decide_eq_false_iff_not] at hg
      exact ⟨by omega, by omega, by omega, by omega⟩
    by_cases hc : Sk.chkE s = 0
    · obtain ⟨hM, hr⟩ := Sk.chk_zero.1 hc
      have l2 := hs.keys; have al := Sk.all_len k hr; obtain ⟨ce, cv⟩ := Sk.count_at hM (Nat.le_refl s.keys.length); have ha : ((Oc.places s.words 0 s.keys.length).length : Int) = ((Sk.all s).length : Int) := rfl; rw [ha] at cv
      have hR : Sk.rankV s k = ((Sk.low s k).length : Int) := by unfold Sk.rankV; rw [if_pos hc]
      have hle := Sk.low_le s k
      by_cases h1 : (Sk.high s k).length = 0
      · have e1 : Sk.nextE s k = 6 := by unfold Sk.nextE; rw [if_pos hc, if_pos h1]
        have v1 : Sk.nextV s k = 0 := by unfold Sk.nextV; rw [e1]; rfl
        have e2 : Sk.findE s k = 6 := by unfold Sk.findE; rw [e1]; rfl
        have v2 : Sk.findV s k = 0 := by unfold Sk.findV; rw [e2]; rfl
        by_cases h2 : (Sk.low s k).length = 0
        · exact full00 s a k W h hok hs hg hT hc _ _ hR cv ce (by omega) (by omega) e1 v1 e2 v2 (by omega) (by unfold Sk.lastE; rw [if_pos hc, if_pos h2]) (by unfold Sk.lastV Sk.lastE; rw [if_pos hc, if_pos h2]; rfl) (by omega)
        · obtain ⟨y, L⟩ := Sk.last_at hc h2
          obtain ⟨ye, yv⟩ := Sk.count_at hM (Nat.le_of_lt L.lt); have := L.ahead; exact full01 s a k W h hok hs hg hT hc _ _ hR cv ce (by omega) (by omega) e1 v1 e2 v2 (by omega) y L (by omega) ⟨ye, by rw [yv]; omega⟩
      · obtain ⟨x, N⟩ := Sk.next_at hc h1
        obtain ⟨xe, xv⟩ := Sk.count_at hM (Nat.le_of_lt N.lt); rw [N.ahead] at xv
        by_cases h2 : (Sk.low s k).length = 0
        · by_cases hk : Sk.key s x = k
          · exact full10 s a k W h hok hs hg hT hc _ _ hR cv ce (by omega) (by omega) x N (by omega) ⟨xe, xv⟩ hk (by unfold Sk.lastE; rw [if_pos hc, if_pos h2]) (by unfold Sk.lastV Sk.lastE; rw [if_pos hc, if_pos h2]; rfl) (by omega)
          · exact full20 s a k W h hok hs hg hT hc _ _ hR cv ce (by omega) (by omega) x N (by omega) ⟨xe, xv⟩ hk (by unfold Sk.lastE; rw [if_pos hc, if_pos h2]) (by unfold Sk.lastV Sk.lastE; rw [if_pos hc, if_pos h2]; rfl) (by omega)
        · obtain ⟨y, L⟩ := Sk.last_at hc h2
          obtain ⟨ye, yv⟩ := Sk.count_at hM (Nat.le_of_lt L.lt); have := L.ahead
          by_cases hk : Sk.key s x = k
          · exact full11 s a k W h hok hs hg hT hc _ _ hR cv ce (by omega) (by omega) x N (by omega) ⟨xe, xv⟩ hk y L (by omega) ⟨ye, by rw [yv]; omega⟩
          · exact full21 s a k W h hok hs hg hT hc _ _ hR cv ce (by omega) (by omega) x N (by omega) ⟨xe, xv⟩ hk y L (by omega) ⟨ye, by rw [yv]; omega⟩
    · have HG := Lib.hid hg
      have CC := Lib.hid (fun V (hv : Held V s a) tv => kCheck s a V hv hok hs tv)
      have k1 : (Sk.chkE s != 0) = true := by simp [hc]
      clear h hok hs hg hT hc; unfold slCells at BX; unfold slv at CC ⊢
      go_enter Tryd.func5, Tryd.ntmps5
      go_wp2_with fail
      refine (l10Alive _ (TB.out.below (HB.out _))).mono ?_; rintro e w0 ⟨rfl, hb⟩; have BB := Lib.hid ((HB.out _).trans (hb.mono (by simp))); replace BX := Lib.hid (BX.out.below hb); replace HA := Lib.hid (HA.out.below BB.out); replace TB := Lib.hid (TB.out.below BB.out); clear hb HB; obtain ⟨_, p0, p1, p2, p3, p4, p5, _⟩ := BX.out
      go_wp2_with fail
      refine (r4Great s a 600 _).mono ?_; rintro e w1 ⟨rfl, hb⟩; rw [HG.out]; replace BX := Lib.hid (BX.out.below hb); replace HA := Lib.hid (HA.out.below hb); replace TB := Lib.hid (TB.out.below hb); replace BB := Lib.hid (BB.out.trans (hb.mono BB.out.size)); clear hb p0 p1 p2 p3 p4 p5; obtain ⟨_, p0, p1, p2, p3, p4, p5, _⟩ := BX.out
      go_wp2_with fail
      refine (CC.out _ HA.out TB.out).mono ?_; rintro e w2 ⟨rfl, hb⟩; go_wp2; go_ret; exact ⟨rfl, BB.out.trans (hb.mono BB.out.size)⟩
  · have HG := Lib.hid hg
    clear h hok hg hT HA; unfold slCells at BX; unfold slv
    go_enter Tryd.func5, Tryd.ntmps5
    go_wp2_with fail
    refine (l10Alive _ (TB.out.below (HB.out _))).mono ?_; rintro e w0 ⟨rfl, hb⟩; have BB := Lib.hid ((HB.out _).trans (hb.mono (by simp))); obtain ⟨_, p0, p1, p2, p3, p4, p5, _⟩ := BX.out.below hb
    go_wp2_with fail
    refine (r4Great s a 600 _).mono ?_; rintro e w1 ⟨rfl, hb2⟩; rw [HG.out]; go_wp2; go_ret; exact ⟨rfl, BB.out.trans (hb2.mono BB.out.size)⟩
end Go.Proofs.YthaaapfnheocjaaDoor.seekPlaces
