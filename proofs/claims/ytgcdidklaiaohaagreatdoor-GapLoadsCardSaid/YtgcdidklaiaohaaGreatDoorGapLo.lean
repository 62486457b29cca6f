/- What package gap's Put, Take and Load return: new memory. -/
import Derived.Test.YtgcdidklaiaohaaGreatDoorP9fLo
import Derived.Test.YtgcdidklaiaohaaGreatDoorM17Lo
import Derived.Test.YtgcdidklaiaohaaGreatDoorM10Lo
import Derived.Test.YtgcdidklaiaohaaGreatDoorP09Lo
namespace Go.Proofs.YtgcdidklaiaohaaGreatDoor
open Go.RowKit Go.Shelf
set_option linter.unusedVariables false
set_option linter.unusedSimpArgs false

set_option maxRecDepth 100000 in
set_option maxHeartbeats 4000000 in
theorem gLoad (c : Cf) (s : Sl) (a : Ads) (al : Option Addr) (cal : Nat) (ps : List (Int × Int)) (w : World) (hc : c.In) (h : Held w s a) (hok : s.Ok) (hs : s.Short) (hT : Tab w) (hn : ps.length ≤ 65536) (hp : PLst w al ps) (h64 : In64P ps) :
    Calls Tryz.prog 11 #[cfv c, slv s a, .slice al ps.length cal] w (Ans (Gp.loadS c s ps) (Gp.loadE c s ps.length) w) := by
  obtain ⟨W0, hW0, BC, BX, BR, BB, zz⟩ := boxes_csr w c s a; have CC := Lib.hid (fun W (hb : Below w.heap.size w W) => gCheck c s a W hc (h.below hb) hok hs (hT.below hb))
  by_cases h0 : Gp.chkE c s = 0
  · obtain ⟨H, O⟩ := Gp.own_of h0
    rw [h0] at CC
    by_cases h1 : c.most < (ps.length : Int)
    · have e : Gp.loadE c s ps.length = 9 := by unfold Gp.loadE; rw [if_pos h0, if_pos h1]
      have V := Lib.hid (And.intro (Gp.load_none (c := c) (s := s) (l := ps) (by rw [e]; decide)) e)
      have k1 : decide ((ps.length : Int) > c.most) = true := by simpa using h1
      clear hc h hok hs hT hp h64 h0 O h1 e; unfold slv cfv at CC; unfold slv cfv
      go_enter Tryz.func11, Tryz.ntmps11
      go_upto_region 1 with (fail)
      rw [← hW0]; clear hW0; obtain ⟨_, c0, c1, c2, c3, c4, c5, c6, c7, c8, _⟩ := BC.out; obtain ⟨_, q0, q1, q2, q3, q4, q5, _⟩ := BX.out
      go_wp2_with fail
      refine (CC.out _ BB.out).mono ?_; rintro e w1 ⟨rfl, hb⟩; replace BC := Lib.hid (BC.out.below hb); replace BR := Lib.hid (BR.out.below hb); replace BB := Lib.hid (BB.out.trans (hb.mono BB.out.size)); have z1 := hb.size; clear hb; clear c0 c1 c2 c3 c4 c5 c6 c7 c8 q0 q1 q2 q3 q4 q5; obtain ⟨_, c0, c1, c2, c3, c4, c5, c6, c7, c8, _⟩ := BC.out; obtain ⟨_, s0, s1, s2, s3, s4, s5, sf⟩ := BR.out; have sf0 := sf 0; have sf1 := sf 1; have sf2 := sf 2; have sf3 := sf 3; have sf4 := sf 4; have sf5 := sf 5; clear sf; go_wp2; refine bodyPost_ret (v := .tuple #[slv Sl.none adsNone, .int .i64 9]) (by simp [results, Tryz.results11, go_sem, slv, Sl.none, adsNone, s0, s1, s2, s3, s4, s5, sf0, sf1, sf2, sf3, sf4, sf5]) rfl ?_; rw [V.out.1, V.out.2]; exact ⟨_, rfl, (none_own _ _).1, below_put6 BB.out (by omega) _ _ _ _ _ _⟩
    · have e : Gp.loadE c s ps.length = 0 := by unfold Gp.loadE; rw [if_pos h0, if_neg h1]
      have V := Lib.hid (And.intro (Gp.load_s (c := c) (s := s) (l := ps) e) e)
      have CL := Lib.hid (show ∀ W, Below w.heap.size w W → Calls Tryz.prog 33 #[cfv c, slv s a, .slice al ps.length cal] W (Ans (Ly.wide s (c.takes ps.length) ps) 0 W) from fun W hb => by
        have q := gLoaded c s a al cal ps W hc (h.below hb) hok hs (hT.below hb) ((Cf.may_iff c).2 O.cap.may) (by omega) (hp.below hb) h64; obtain ⟨t1, t2, t3, t4⟩ := Gp.takes_right O.cap.may (m := (ps.length : Int)) (by omega) (by omega); have IK := Gp.into_ok O.cap.may O.may O.seg t1 ps t2; rw [IK.1, IK.2] at q
        exact q)
      have k1 : decide ((ps.length : Int) > c.most) = false := by simpa using h1
      clear hc h hok hs hT hp h64 h0 O h1 e; generalize Ly.wide s (c.takes ps.length) ps = t at *; unfold slv cfv at CC CL; unfold slv cfv
      go_enter Tryz.func11, Tryz.ntmps11
      go_upto_region 1 with (fail)
      rw [← hW0]; clear hW0; obtain ⟨_, c0, c1, c2, c3, c4, c5, c6, c7, c8, _⟩ := BC.out; obtain ⟨_, q0, q1, q2, q3, q4, q5, _⟩ := BX.out
      go_wp2_with fail
      refine (CC.out _ BB.out).mono ?_; rintro e w1 ⟨rfl, hb⟩; replace BC := Lib.hid (BC.out.below hb); replace BX := Lib.hid (BX.out.below hb); replace BR := Lib.hid (BR.out.below hb); replace BB := Lib.hid (BB.out.trans (hb.mono BB.out.size)); have z1 := hb.size; clear hb; clear c0 c1 c2 c3 c4 c5 c6 c7 c8 q0 q1 q2 q3 q4 q5; obtain ⟨_, c0, c1, c2, c3, c4, c5, c6, c7, c8, _⟩ := BC.out; obtain ⟨_, q0, q1, q2, q3, q4, q5, _⟩ := BX.out
      go_wp2_with fail
      refine (CL.out _ BB.out).mono ?_; rintro e w3 ⟨a3, rfl, own, hb⟩; clear c0 c1 c2 c3 c4 c5 c6 c7 c8 q0 q1 q2 q3 q4 q5; replace BR := Lib.hid (BR.out.below hb); replace BB := Lib.hid (BB.out.trans (hb.mono BB.out.size)); have FIN := Lib.hid (ans_put6 (r := w.heap.size + 2) own BB.out (by omega) (by omega)); clear own hb; obtain ⟨_, s0, s1, s2, s3, s4, s5, sf⟩ := BR.out; have sf0 := sf 0; have sf1 := sf 1; have sf2 := sf 2; have sf3 := sf 3; have sf4 := sf 4; have sf5 := sf 5; clear sf; unfold slv; go_wp2; refine bodyPost_ret (v := .tuple #[slv t a3, .int .i64 0]) (by simp [results, Tryz.results11, go_sem, slv, s0, s1, s2, s3, s4, s5, sf0, sf1, sf2, sf3, sf4, sf5]) rfl ?_; rw [V.out.1, V.out.2]; exact ⟨_, rfl, FIN.out _ _ _ _ _ _⟩
  · have e : Gp.loadE c s ps.length = Gp.chkE c s := by unfold Gp.loadE; rw [if_neg h0]
    have V := Lib.hid (And.intro (Gp.load_none (c := c) (s := s) (l := ps) (by rw [e]; exact h0)) e); obtain ⟨er, her⟩ : ∃ er, er = Gp.chkE c s := ⟨_, rfl⟩; rw [← her] at CC V h0
    have k1 : (er != 0) = true := by simp [h0]
    clear hc h hok hs hT hp h64 h0 e her; unfold slv cfv at CC; unfold slv cfv
    go_enter Tryz.func11, Tryz.ntmps11
    go_upto_region 1 with (fail)
    rw [← hW0]; clear hW0; obtain ⟨_, c0, c1, c2, c3, c4, c5, c6, c7, c8, _⟩ := BC.out; obtain ⟨_, q0, q1, q2, q3, q4, q5, _⟩ := BX.out
    go_wp2_with fail
    refine (CC.out _ BB.out).mono ?_; rintro e w1 ⟨rfl, hb⟩; replace BR := Lib.hid (BR.out.below hb); replace BB := Lib.hid (BB.out.trans (hb.mono BB.out.size)); have z1 := hb.size; clear hb; clear c0 c1 c2 c3 c4 c5 c6 c7 c8 q0 q1 q2 q3 q4 q5; obtain ⟨_, s0, s1, s2, s3, s4, s5, sf⟩ := BR.out; have sf0 := sf 0; have sf1 := sf 1; have sf2 := sf 2; have sf3 := sf 3; have sf4 := sf 4; have sf5 := sf 5; clear sf; go_wp2; refine bodyPost_ret (v := .tuple #[slv Sl.none adsNone, .int .i64 er]) (by simp [results, Tryz.results11, go_sem, slv, Sl.none, adsNone, s0, s1, s2, s3, s4, s5, sf0, sf1, sf2, sf3, sf4, sf5]) rfl ?_; rw [V.out.1, V.out.2]; exact ⟨_, rfl, (none_own _ _).1, below_put6 BB.out (by omega) _ _ _ _ _ _⟩

end Go.Proofs.YtgcdidklaiaohaaGreatDoor
