/- What package lay returns. -/
import Derived.Test.YtgcdidklaiaohaaGreatDoorP08Lo
import Derived.Test.YtgcdidklaiaohaaGreatDoorM04Lo
import Derived.ArgAppend
import Derived.ScopeJumps
import Derived.Test.YtgcdidklaiaohaaGreatDoorM20Lo
import Derived.Test.YtgcdidklaiaohaaGreatDoorP07Lo
import Derived.Test.YtgcdidklaiaohaaGreatDoorM15Lo
namespace Go.Proofs.YtgcdidklaiaohaaGreatDoor
open Go.RowKit
set_option linter.unusedVariables false
set_option linter.unusedSimpArgs false

/-- A scope out of which a run jumps forward to one label, once at most: what is behind the label is walked where the jump is. -/
theorem wp_scope_on {P : Program} {a : Act} {w : World} {Q : Exit → Act → World → Prop} {c rest : Code} (l : Nat) (hf : findLabel c l = some rest)
    (first : c.wp P (Exit.jump l (fun a w => rest.wp P (Exit.jump l (fun _ _ => False) Q) a w) Q) a w) : (Code.scope c).wp P Q a w :=
  wp_scope_jumps l (fun a w => rest.wp P (Exit.jump l (fun _ _ => False) Q) a w) (fun _ _ => 0) hf first (fun a w h => Go.wp_mono h (fun e a w hq => by
    cases e <;> first | exact hq | exact hq.2.elim))

/-- An array that a callee answered, copied into the box of what is answered. -/
theorem ans_put6 {w W : World} {B r : Nat} {s : Sl} {a : Ads} (own : Own W B s a) (below : Below w.heap.size w W) (hr : r < B) (hw : w.heap.size ≤ r) (u0 u1 u2 u3 u4 u5 : Value) :
    Own (put6 W r u0 u1 u2 u3 u4 u5) w.heap.size s a ∧ Below w.heap.size w (put6 W r u0 u1 u2 u3 u4 u5) := by
  have hb : w.heap.size ≤ B := by omega
  exact ⟨⟨(own.words.put6 hr _ _ _ _ _ _).lower hb, (own.keys.put6 hr _ _ _ _ _ _).lower hb, (own.vals.put6 hr _ _ _ _ _ _).lower hb, (own.counts.put6 hr _ _ _ _ _ _).lower hb, own.caps⟩, below_put6 below hw _ _ _ _ _ _⟩

end Go.Proofs.YtgcdidklaiaohaaGreatDoor
namespace Go.Proofs.YtgcdidklaiaohaaGreatDoor
open Go.RowKit
set_option linter.unusedVariables false
set_option linter.unusedSimpArgs false

set_option maxRecDepth 100000 in
set_option maxHeartbeats 4000000 in
theorem yOver_ok (s : Sl) (a : Ads) (x y : Nat) (al : Option Addr) (cal : Nat) (ps : List (Int × Int)) (w : World) (h : Held w s a) (hok : s.Ok) (hs : s.Short) (hT : Tab w) (hM : s.May) (hxy : x + ps.length ≤ y) (hy : y ≤ s.keys.length) (hp : PLst w al ps) (h64 : In64P ps) :
    Calls Tryz.prog 127 #[slv s a, .int .i64 (x : Int), .int .i64 (y : Int), .slice al ps.length cal] w (Ans (Ly.spreadS s x y ps) 0 w) := by
  have l2 := hs.keys; have hm := spread_may (n := ps.length) hxy (by omega); have RI := ofs_rising (n := ps.length) hxy (by omega); have hu : upB (Sp.ofs ps.length x y) x y = true := (up_iff _ _ _).2 ⟨RI.1.inn, RI.1.up⟩; have LN := Lib.hid RI.2; have CP := Lib.hid (fun W => sPlaces_ok ps.length x y W hm)
  have CS := Lib.hid (show ∀ W A c, Held W s a → Tab W → Lst .i64 W A (Sp.ofs ps.length x y) → PLst W al ps → Calls Tryz.prog 161 #[.agg #[.int .i64 s.seg, .slice a.w s.words.length a.cw, .slice a.k s.keys.length a.ck, .slice a.v s.vals.length a.cv, .slice a.c s.counts.length a.cc, .int .u64 (s.laid : Int)], .int .i64 (x : Int), .int .i64 (y : Int), .slice A ps.length c, .slice al ps.length cal] W (Ans (Ly.spreadS s x y ps) 0 W) from fun W A c h1 h2 h3 h4 => by
    have q := cFill_ok s a x y A al c cal (Sp.ofs ps.length x y) ps W h1 hok hs h2 hM (by omega) hy h3 h4 (by rw [LN.out]; omega) LN.out hu h64; rw [LN.out] at q
    exact q)
  have HH := Lib.hid h; have HT := Lib.hid hT; obtain ⟨t, ht⟩ : ∃ t, t = Ly.spreadS s x y ps := ⟨_, rfl⟩; rw [← ht] at CS ⊢; obtain ⟨W0, hW0⟩ : ∃ W0, W0 = (w.alloc (.cells #[.int .i64 s.seg, .slice a.w s.words.length a.cw, .slice a.k s.keys.length a.ck, .slice a.v s.vals.length a.cv, .slice a.c s.counts.length a.cc, .int .u64 (s.laid : Int)] 27)).alloc (.cells #[.int .i64 0, .slice none 0 0, .slice none 0 0, .slice none 0 0, .slice none 0 0, .int .u64 0] 27) := ⟨_, rfl⟩; have HP := Lib.hid (show PLst W0 al ps by rw [hW0]; exact hp.below (((Below.refl w.heap.size w).alloc (Nat.le_refl _) _).alloc (by simp) _)); have BX := Lib.hid (show Box W0 w.heap.size s a by rw [hW0]; exact (Box.new w s a 27).below ((Below.refl _ _).alloc (Nat.le_refl _) _)); have BR := Lib.hid (show Box W0 (w.heap.size + 1) Sl.none adsNone by rw [hW0]; exact Box.second w _ Sl.none adsNone 27); have BB := Lib.hid (show Below w.heap.size w W0 by rw [hW0]; exact ((Below.refl w.heap.size w).alloc (Nat.le_refl _) _).alloc (by simp) _)
  have zz : w.heap.size + 2 ≤ W0.heap.size := by rw [hW0]; simp
  clear h hp hok hs hT hM h64 hu RI ht hm; generalize hzs : Sp.ofs ps.length x y = zs at *; clear hzs; unfold slv
  go_enter Tryz.func127, Tryz.ntmps127
  go_upto_region 1 with (fail)
  rw [← hW0]; clear hW0
  go_wp2_with fail
  refine (CP.out _).mono ?_; rintro e w1 ⟨v, rfl, hr, hb⟩; obtain ⟨A1, d1, rfl, hL⟩ := irow_list hr; rw [LN.out]; have L1 := Lib.hid hL; replace BX := Lib.hid (BX.out.below hb); replace BR := Lib.hid (BR.out.below hb); replace BB := Lib.hid (BB.out.trans (hb.mono BB.out.size)); replace HP := Lib.hid (HP.out.below hb); replace zz := Nat.le_trans zz hb.size; clear hr hb hL; obtain ⟨_, q0, q1, q2, q3, q4, q5, _⟩ := BX.out
  go_wp2_with fail
  refine (CS.out w1 A1 d1 (HH.out.below BB.out) (HT.out.below BB.out) L1.out HP.out).mono ?_; rintro e w2 ⟨a2, rfl, own, hb⟩; replace BR := Lib.hid (BR.out.below hb); replace BB := Lib.hid (BB.out.trans (hb.mono BB.out.size)); have FIN := Lib.hid (ans_put6 (r := w.heap.size + 1) own BB.out (by omega) (by omega)); clear own hb q0 q1 q2 q3 q4 q5; obtain ⟨_, s0, s1, s2, s3, s4, s5, sf⟩ := BR.out; have sf0 := sf 0; have sf1 := sf 1; have sf2 := sf 2; have sf3 := sf 3; have sf4 := sf 4; have sf5 := sf 5; clear sf; unfold slv; go_wp2; refine bodyPost_ret (v := .tuple #[slv t a2, .int .i64 0]) (by simp [results, Tryz.results127, go_sem, slv, s0, s1, s2, s3, s4, s5, sf0, sf1, sf2, sf3, sf4, sf5]) rfl ?_; exact ⟨_, rfl, FIN.out _ _ _ _ _ _⟩

set_option maxRecDepth 100000 in
set_option maxHeartbeats 2000000 in
theorem yOver_no (s : Sl) (a : Ads) (lo hi : Int) (al : Option Addr) (cal n : Nat) (w : World) (h1 : In64 lo) (h2 : In64 hi) (hn : n ≤ 65536) (hm : Sp.mayB n lo hi = false) :
    Calls Tryz.prog 127 #[slv s a, .int .i64 lo, .int .i64 hi, .slice al n cal] w (Ans Sl.none 2 w) := by
  have CP := Lib.hid (fun W => sPlaces n lo hi W ⟨by omega, by omega⟩ h1 h2); rw [(Sp.may_no hm).1, (Sp.may_no hm).2] at CP; obtain ⟨W0, hW0⟩ : ∃ W0, W0 = (w.alloc (.cells #[.int .i64 s.seg, .slice a.w s.words.length a.cw, .slice a.k s.keys.length a.ck, .slice a.v s.vals.length a.cv, .slice a.c s.counts.length a.cc, .int .u64 (s.laid : Int)] 27)).alloc (.cells #[.int .i64 0, .slice none 0 0, .slice none 0 0, .slice none 0 0, .slice none 0 0, .int .u64 0] 27) := ⟨_, rfl⟩; have BR := Lib.hid (show Box W0 (w.heap.size + 1) Sl.none adsNone by rw [hW0]; exact Box.second w _ Sl.none adsNone 27); have BB := Lib.hid (show Below w.heap.size w W0 by rw [hW0]; exact ((Below.refl w.heap.size w).alloc (Nat.le_refl _) _).alloc (by simp) _); clear hm h1 h2; unfold slv
  go_enter Tryz.func127, Tryz.ntmps127
  go_upto_region 1 with (fail)
  rw [← hW0]; clear hW0
  go_wp2_with fail
  refine (CP.out _).mono ?_; rintro e w1 ⟨v, rfl, hr, hb⟩; obtain ⟨A1, d1, rfl, _⟩ := irow_list hr; replace BR := Lib.hid (BR.out.below hb); replace BB := Lib.hid (BB.out.trans (hb.mono BB.out.size)); clear hr hb; obtain ⟨_, s0, s1, s2, s3, s4, s5, sf⟩ := BR.out; have sf0 := sf 0; have sf1 := sf 1; have sf2 := sf 2; have sf3 := sf 3; have sf4 := sf 4; have sf5 := sf 5; clear sf; go_wp2; refine bodyPost_ret (v := .tuple #[slv Sl.none adsNone, .int .i64 2]) (by simp [results, Tryz.results127, go_sem, slv, Sl.none, adsNone, s0, s1, s2, s3, s4, s5, sf0, sf1, sf2, sf3, sf4, sf5]) rfl ?_; exact ⟨_, rfl, (none_own _ _).1, below_put6 BB.out (by omega) _ _ _ _ _ _⟩

end Go.Proofs.YtgcdidklaiaohaaGreatDoor
namespace Go.Proofs.YtgcdidklaiaohaaGreatDoor
open Go.RowKit
set_option linter.unusedVariables false
set_option linter.unusedSimpArgs false

set_option maxRecDepth 100000 in
set_option maxHeartbeats 8000000 in
theorem yInto (s : Sl) (a : Ads) (size : Int) (al : Option Addr) (cal : Nat) (ps : List (Int × Int)) (w : World) (h : Held w s a) (hok : s.Ok) (hs : s.Short) (hT : Tab w) (hz : In64 size) (hn : ps.length ≤ 65536) (hp : PLst w al ps) (h64 : In64P ps) :
    Calls Tryz.prog 67 #[slv s a, .int .i64 size, .slice al ps.length cal] w (Ans (Ly.intoS s size ps) (Ly.intoE s size ps.length) w) := by
  have HH := Lib.hid h; have HT := Lib.hid hT; have HPP := Lib.hid hp; have CM := Lib.hid (fun W (hb : Below w.heap.size w W) => sCheck s a W (HH.out.below hb) hok hs (HT.out.below hb)); obtain ⟨W0, hW0⟩ : ∃ W0, W0 = ((w.alloc (.cells #[.int .i64 s.seg, .slice a.w s.words.length a.cw, .slice a.k s.keys.length a.ck, .slice a.v s.vals.length a.cv, .slice a.c s.counts.length a.cc, .int .u64 (s.laid : Int)] 27)).alloc (.cells #[.int .i64 0, .slice none 0 0, .slice none 0 0, .slice none 0 0, .slice none 0 0, .int .u64 0] 27)).alloc (.cells #[.int .i64 0, .slice none 0 0, .slice none 0 0, .slice none 0 0, .slice none 0 0, .int .u64 0] 27) := ⟨_, rfl⟩; have BX := Lib.hid (show Box W0 w.heap.size s a by rw [hW0]; exact ((Box.new w s a 27).below ((Below.refl _ _).alloc (Nat.le_refl _) _)).below ((Below.refl _ _).alloc (Nat.le_refl _) _)); have BR := Lib.hid (show Box W0 (w.heap.size + 1) Sl.none adsNone by rw [hW0]; exact (Box.second w _ Sl.none adsNone 27).below ((Below.refl _ _).alloc (Nat.le_refl _) _)); have BZ := Lib.hid (show Box W0 (w.heap.size + 2) Sl.none adsNone by rw [hW0]; exact Box.third w _ _ Sl.none adsNone 27); have BB := Lib.hid (show Below w.heap.size w W0 by rw [hW0]; exact (((Below.refl w.heap.size w).alloc (Nat.le_refl _) _).alloc (by simp) _).alloc (by simp; omega) _)
  have zz : w.heap.size + 3 ≤ W0.heap.size := by rw [hW0]; simp
  cases hm : s.mayB
  · have E := Ly.into_bad hm size ps.length
    have V := Ly.into_no (s := s) (size := size) (l := ps) (by rw [E]; decide); rw [E, V]; rw [show s.chk = 8 by unfold Sl.chk; rw [hm]; rfl] at CM; clear h hok hs hT hp h64 hm E V hz; unfold slv at CM ⊢
    go_enter Tryz.func67, Tryz.ntmps67
    go_wp2_with fail
    refine wp_scope_on 0 rfl ?_
    go_upto_region 2 with (fail)
    rw [← hW0]; clear hW0; obtain ⟨_, q0, q1, q2, q3, q4, q5, _⟩ := BX.out
    go_wp2_with fail
    refine (CM.out W0 BB.out).mono ?_; rintro e w1 ⟨rfl, hb⟩; clear q0 q1 q2 q3 q4 q5; replace BX := Lib.hid (BX.out.below hb); replace BR := Lib.hid (BR.out.below hb); replace BZ := Lib.hid (BZ.out.below hb); replace BB := Lib.hid (BB.out.trans (hb.mono BB.out.size)); replace zz := Nat.le_trans zz hb.size; clear hb; obtain ⟨_, s0, s1, s2, s3, s4, s5, sf⟩ := BR.out; have sf0 := sf 0; have sf1 := sf 1; have sf2 := sf 2; have sf3 := sf 3; have sf4 := sf 4; have sf5 := sf 5; clear sf; go_wp2
    go_step3
    refine ⟨rfl, ?_⟩; go_wp2
    simp only [Exit.jump]
    refine bodyPost_ret (v := .tuple #[slv Sl.none adsNone, .int .i64 8]) (by simp [results, Tryz.results67, go_sem, slv, Sl.none, adsNone, s0, s1, s2, s3, s4, s5, sf0, sf1, sf2, sf3, sf4, sf5]) rfl ?_; exact ⟨_, rfl, (none_own _ _).1, below_put6 BB.out (by omega) _ _ _ _ _ _⟩
  · have E := Ly.into_may hm size ps.length
    rw [show s.chk = 0 by unfold Sl.chk; rw [hm]; rfl] at CM; have CN := Lib.hid (fun W => sNew s.seg size W hok.seg hz)
    cases hf : Sl.fitsB s.seg size
    · rw [hf, Bool.false_and] at E
      have V := Ly.into_no (s := s) (size := size) (l := ps) (by rw [E]; decide); rw [E, V, if_neg (by decide)]; rw [show Sl.newS s.seg size = Sl.none by unfold Sl.newS; rw [hf]; rfl, show Sl.newE s.seg size = 2 by unfold Sl.newE; rw [hf]; rfl] at CN; clear h hok hs hT hp h64 hm hf E V hz; unfold slv at CM ⊢
      go_enter Tryz.func67, Tryz.ntmps67
      go_wp2_with fail
      refine wp_scope_on 0 rfl ?_
      go_upto_region 2 with (fail)
      rw [← hW0]; clear hW0; obtain ⟨_, q0, q1, q2, q3, q4, q5, _⟩ := BX.out
      go_wp2_with fail
      refine (CM.out W0 BB.out).mono ?_; rintro e w1 ⟨rfl, hb⟩; clear q0 q1 q2 q3 q4 q5; replace BX := Lib.hid (BX.out.below hb); replace BR := Lib.hid (BR.out.below hb); replace BZ := Lib.hid (BZ.out.below hb); replace BB := Lib.hid (BB.out.trans (hb.mono BB.out.size)); replace zz := Nat.le_trans zz hb.size; clear hb; obtain ⟨_, q0, q1, q2, q3, q4, q5, _⟩ := BX.out
      go_wp2_with fail
      refine (CN.out w1).mono ?_; rintro e w2 ⟨a1, rfl, own, hb⟩; clear q0 q1 q2 q3 q4 q5; have zw := zz; replace BX := Lib.hid (BX.out.below hb); replace BR := Lib.hid (BR.out.below hb); replace BZ := Lib.hid (BZ.out.below hb); replace BB := Lib.hid (BB.out.trans (hb.mono BB.out.size)); replace zz := Nat.le_trans zz hb.size; have OW := Lib.hid own; clear own hb; obtain ⟨_, t0, t1, t2, t3, t4, t5, tf⟩ := BZ.out; have tf0 := tf 0; have tf1 := tf 1; have tf2 := tf 2; have tf3 := tf 3; have tf4 := tf 4; have tf5 := tf 5; clear tf; unfold slv
      go_upto_region 5 with (fail)
      obtain ⟨V1, hV⟩ : ∃ V, V = put6 w2 (w.heap.size + 2) (.int .i64 Sl.none.seg) (.slice a1.w Sl.none.words.length a1.cw) (.slice a1.k Sl.none.keys.length a1.ck) (.slice a1.v Sl.none.vals.length a1.cv) (.slice a1.c Sl.none.counts.length a1.cc) (.int .u64 (Sl.none.laid : Int)) := ⟨_, rfl⟩; replace BX := Lib.hid (show Box V1 w.heap.size s a by rw [hV]; exact BX.out.put6o (by omega) _ _ _ _ _ _); replace BR := Lib.hid (show Box V1 (w.heap.size + 1) Sl.none adsNone by rw [hV]; exact BR.out.put6o (by omega) _ _ _ _ _ _); replace BZ := Lib.hid (show Box V1 (w.heap.size + 2) Sl.none a1 by rw [hV]; exact BZ.out.put6 Sl.none a1); replace OW := Lib.hid (show Own V1 w1.heap.size Sl.none a1 by rw [hV]; exact ⟨OW.out.words.put6 (by omega) _ _ _ _ _ _, OW.out.keys.put6 (by omega) _ _ _ _ _ _, OW.out.vals.put6 (by omega) _ _ _ _ _ _, OW.out.counts.put6 (by omega) _ _ _ _ _ _, OW.out.caps⟩); replace BB := Lib.hid (show Below w.heap.size w V1 by rw [hV]; exact below_put6 BB.out (by omega) _ _ _ _ _ _)
      have zv : w.heap.size + 3 ≤ V1.heap.size := by rw [hV, size_put6]; exact zz
      unfold put6 at hV; rw [← hV]; clear hV t0 t1 t2 t3 t4 t5 tf0 tf1 tf2 tf3 tf4 tf5; obtain ⟨_, s0, s1, s2, s3, s4, s5, sf⟩ := BR.out; have sf0 := sf 0; have sf1 := sf 1; have sf2 := sf 2; have sf3 := sf 3; have sf4 := sf 4; have sf5 := sf 5; clear sf; go_wp2
      go_step3
      refine ⟨rfl, ?_⟩; go_wp2
      simp only [Exit.jump]
      refine bodyPost_ret (v := .tuple #[slv Sl.none adsNone, .int .i64 2]) (by simp [results, Tryz.results67, go_sem, slv, Sl.none, adsNone, s0, s1, s2, s3, s4, s5, sf0, sf1, sf2, sf3, sf4, sf5]) rfl ?_; exact ⟨_, rfl, (none_own _ _).1, below_put6 BB.out (by omega) _ _ _ _ _ _⟩
    · rw [hf, Bool.true_and] at E
      rw [show Sl.newS s.seg size = Sl.empty s.seg size by unfold Sl.newS; rw [hf]; rfl, show Sl.newE s.seg size = 0 by unfold Sl.newE; rw [hf]; rfl] at CN; obtain ⟨f1, f2, f3, f4, f5, f6, f7⟩ := fits_yes hf; obtain ⟨m, rfl⟩ : ∃ m : Nat, size = m := ⟨size.toNat, by omega⟩; have BA := base_bare hf hok.seg hok.laid
      have CS := Lib.hid (show ∀ W a1, Below w.heap.size w W → Held W (Ly.base s m) a1 → Calls Tryz.prog 127 #[slv (Ly.base s m) a1, .int .i64 0, .int .i64 (m : Int), .slice al ps.length cal] W (Ans (Ly.intoS s m ps) (Ly.intoE s m ps.length) W) from fun W a1 hb hh => by
        by_cases hl : (ps.length : Int) ≤ m
        · rw [decide_eq_true hl, if_pos rfl] at E
          have V : Ly.intoS s m ps = Ly.spreadS (Ly.base s m) (0 : Nat) m ps := by unfold Ly.intoS; rw [if_pos E]; rfl
          rw [E, V]; exact yOver_ok (Ly.base s m) a1 0 m al cal ps W hh BA.ok BA.short (HT.out.below hb) BA.may (by omega) (by rw [BA.keys]; exact Nat.le_refl _) (HPP.out.below hb) h64
        · rw [decide_eq_false hl, if_neg (by decide)] at E
          have V := Ly.into_no (s := s) (size := m) (l := ps) (by rw [E]; decide); rw [E, V]
          exact yOver_no (Ly.base s m) a1 0 m al cal ps.length W (by constructor <;> omega) hz hn (by unfold Sp.mayB; rw [decide_eq_false (show ¬ (ps.length : Int) ≤ (m : Int) - 0 by omega)]; simp))
      obtain ⟨u, hu⟩ : ∃ u, u = Sl.empty s.seg m := ⟨_, rfl⟩; have HB := Lib.hid (show Ly.base s m = { u with laid := s.laid } by rw [hu]; rfl); rw [HB.out] at CS; rw [← hu] at CN; obtain ⟨er, her⟩ : ∃ er, er = Ly.intoE s m ps.length := ⟨_, rfl⟩; obtain ⟨t, ht⟩ : ∃ t, t = Ly.intoS s m ps := ⟨_, rfl⟩; rw [← her, ← ht] at CS ⊢; clear h hok hs hT hp h64 hm hf E hz BA f1 f2 f3 f4 f5 f6 f7 hu her ht; unfold slv at CM ⊢
      go_enter Tryz.func67, Tryz.ntmps67
      go_wp2_with fail
      refine wp_scope_on 0 rfl ?_
      go_upto_region 2 with (fail)
      rw [← hW0]; clear hW0; obtain ⟨_, q0, q1, q2, q3, q4, q5, _⟩ := BX.out
      go_wp2_with fail
      refine (CM.out W0 BB.out).mono ?_; rintro e w1 ⟨rfl, hb⟩; clear q0 q1 q2 q3 q4 q5; replace BX := Lib.hid (BX.out.below hb); replace BR := Lib.hid (BR.out.below hb); replace BZ := Lib.hid (BZ.out.below hb); replace BB := Lib.hid (BB.out.trans (hb.mono BB.out.size)); replace zz := Nat.le_trans zz hb.size; clear hb; obtain ⟨_, q0, q1, q2, q3, q4, q5, _⟩ := BX.out
      go_wp2_with fail
      refine (CN.out w1).mono ?_; rintro e w2 ⟨a1, rfl, own, hb⟩; clear q0 q1 q2 q3 q4 q5; have zw := zz; replace BX := Lib.hid (BX.out.below hb); replace BR := Lib.hid (BR.out.below hb); replace BZ := Lib.hid (BZ.out.below hb); replace BB := Lib.hid (BB.out.trans (hb.mono BB.out.size)); replace zz := Nat.le_trans zz hb.size; have OW := Lib.hid own; clear own hb; obtain ⟨_, t0, t1, t2, t3, t4, t5, tf⟩ := BZ.out; have tf0 := tf 0; have tf1 := tf 1; have tf2 := tf 2; have tf3 := tf 3; have tf4 := tf 4; have tf5 := tf 5; clear tf; unfold slv
      go_upto_region 5 with (fail)
      obtain ⟨V1, hV⟩ : ∃ V, V = put6 w2 (w.heap.size + 2) (.int .i64 u.seg) (.slice a1.w u.words.length a1.cw) (.slice a1.k u.keys.length a1.ck) (.slice a1.v u.vals.length a1.cv) (.slice a1.c u.counts.length a1.cc) (.int .u64 (u.laid : Int)) := ⟨_, rfl⟩; replace BX := Lib.hid (show Box V1 w.heap.size s a by rw [hV]; exact BX.out.put6o (by omega) _ _ _ _ _ _); replace BR := Lib.hid (show Box V1 (w.heap.size + 1) Sl.none adsNone by rw [hV]; exact BR.out.put6o (by omega) _ _ _ _ _ _); replace BZ := Lib.hid (show Box V1 (w.heap.size + 2) u a1 by rw [hV]; exact BZ.out.put6 u a1); replace OW := Lib.hid (show Own V1 w1.heap.size u a1 by rw [hV]; exact ⟨OW.out.words.put6 (by omega) _ _ _ _ _ _, OW.out.keys.put6 (by omega) _ _ _ _ _ _, OW.out.vals.put6 (by omega) _ _ _ _ _ _, OW.out.counts.put6 (by omega) _ _ _ _ _ _, OW.out.caps⟩); replace BB := Lib.hid (show Below w.heap.size w V1 by rw [hV]; exact below_put6 BB.out (by omega) _ _ _ _ _ _)
      have zv : w.heap.size + 3 ≤ V1.heap.size := by rw [hV, size_put6]; exact zz
      unfold put6 at hV; rw [← hV]; clear hV t0 t1 t2 t3 t4 t5 tf0 tf1 tf2 tf3 tf4 tf5; obtain ⟨_, q0, q1, q2, q3, q4, q5, _⟩ := BX.out; obtain ⟨_, t0, t1, t2, t3, t4, t5, tf⟩ := BZ.out; have tf5 := tf 5; clear tf
      go_upto_region 7 with (fail)
      obtain ⟨V2, hV⟩ : ∃ V, V = V1.setCell ⟨w.heap.size + 2, 5, none⟩ (.int .u64 (s.laid : Int)) := ⟨_, rfl⟩; have BZ2 := Lib.hid (show Box V2 (w.heap.size + 2) { u with laid := s.laid } a1 by rw [hV]; exact BZ.out.set (s' := { u with laid := s.laid }) (a' := a1) 5 (.int .u64 (s.laid : Int)) (by decide) rfl ⟨rfl, rfl, rfl⟩ ⟨rfl, rfl, rfl⟩ ⟨rfl, rfl, rfl⟩ ⟨rfl, rfl, rfl⟩ rfl); replace BR := Lib.hid (show Box V2 (w.heap.size + 1) Sl.none adsNone by rw [hV]; exact BR.out.setOther (by omega) _ _)
      replace OW := Lib.hid (show Held V2 { u with laid := s.laid } a1 by
        rw [hV]; have o := OW.out
        exact ⟨(o.words.setBox (by omega) _ _).lst, (o.keys.setBox (by omega) _ _).lst, (o.vals.setBox (by omega) _ _).lst, (o.counts.setBox (by omega) _ _).lst, ⟨o.caps.w0, o.caps.k0, o.caps.v0, o.caps.c0, o.caps.w1, o.caps.k1, o.caps.v1, o.caps.c1⟩⟩)
      replace BB := Lib.hid (show Below w.heap.size w V2 by rw [hV]; exact BB.out.setCell (p := ⟨w.heap.size + 2, 5, none⟩) (by show w.heap.size ≤ w.heap.size + 2; omega) _); rw [← hV]
      have zv2 : w.heap.size + 3 ≤ V2.heap.size := by rw [hV]; simpa using zv
      clear hV q0 q1 q2 q3 q4 q5 t0 t1 t2 t3 t4 t5 tf5 BX BZ; have CS1 := Lib.hid (CS.out V2 a1 BB.out OW.out); unfold slv at CS1
      dsimp only at CS1
      obtain ⟨_, q0, q1, q2, q3, q4, q5, _⟩ := BZ2.out
      dsimp only at q0 q1 q2 q3 q4 q5
      go_wp2_with fail
      refine CS1.out.mono ?_; rintro e w3 ⟨a3, rfl, own, hb⟩; replace BR := Lib.hid (BR.out.below hb); replace BB := Lib.hid (BB.out.trans (hb.mono BB.out.size)); have FIN := Lib.hid (ans_put6 (r := w.heap.size + 1) own BB.out (by omega) (by omega)); clear own hb q0 q1 q2 q3 q4 q5 BZ2; obtain ⟨_, s0, s1, s2, s3, s4, s5, sf⟩ := BR.out; have sf0 := sf 0; have sf1 := sf 1; have sf2 := sf 2; have sf3 := sf 3; have sf4 := sf 4; have sf5 := sf 5; clear sf; unfold slv; go_wp2
      simp only [Exit.jump]
      refine bodyPost_ret (v := .tuple #[slv t a3, .int .i64 er]) (by simp [results, Tryz.results67, go_sem, slv, s0, s1, s2, s3, s4, s5, sf0, sf1, sf2, sf3, sf4, sf5]) rfl ?_; exact ⟨_, rfl, FIN.out _ _ _ _ _ _⟩
end Go.Proofs.YtgcdidklaiaohaaGreatDoor
