/- What package lay's over and Even return: an array over a part of which pairs are spread; new memory. -/
import Derived.Test.YtmmkaabefofdeaaDoorLayA4
import Derived.Test.YtmmkaabefofdeaaDoorM20
import Derived.Test.YtmmkaabefofdeaaDoorSpread4
namespace Go.Proofs.YtmmkaabefofdeaaDoor
open Go.RowKit
set_option linter.unusedVariables false
set_option linter.unusedSimpArgs false

set_option maxRecDepth 100000 in
set_option maxHeartbeats 4000000 in
theorem yOver_ok (s : Sl) (a : Ads) (x y : Nat) (al : Option Addr) (cal : Nat) (ps : List (Int × Int)) (w : World) (h : Held w s a) (hok : s.Ok) (hs : s.Short) (hT : Tab w) (hM : s.May) (hxy : x + ps.length ≤ y) (hy : y ≤ s.keys.length) (hp : PLst w al ps) (h64 : In64P ps) :
    Calls Tryd.prog 27 #[slv s a, .int .i64 (x : Int), .int .i64 (y : Int), .slice al ps.length cal] w (Ans (Ly.spreadS s x y ps) 0 w) := by
  have l2 := hs.keys
  have hm := spread_may (n := ps.length) hxy (by omega)
  have RI := ofs_rising (n := ps.length) hxy (by omega)
  have hu : upB (Sp.ofs ps.length x y) x y = true := (up_iff _ _ _).2 ⟨RI.1.inn, RI.1.up⟩
  have LN := Lib.hid RI.2
  have CP := Lib.hid (fun W => sPlaces_ok ps.length x y W hm)
  have CS := Lib.hid (show ∀ W A c, Held W s a → Tab W → Lst .i64 W A (Sp.ofs ps.length x y) → PLst W al ps → Calls Tryd.prog 56 #[.agg #[.int .i64 s.seg, .slice a.w s.words.length a.cw, .slice a.k s.keys.length a.ck, .slice a.v s.vals.length a.cv, .slice a.c s.counts.length a.cc, .int .u64 (s.laid : Int)], .int .i64 (x : Int), .int .i64 (y : Int), .slice A ps.length c, .slice al ps.length cal] W (Ans (Ly.spreadS s x y ps) 0 W) from fun W A c h1 h2 h3 h4 => by
    have q := cFill_ok s a x y A al c cal (Sp.ofs ps.length x y) ps W h1 hok hs h2 hM (by omega) hy h3 h4 (by rw [LN.out]; omega) LN.out hu h64
    rw [LN.out] at q
    exact q)
  have HH := Lib.hid h
  have HT := Lib.hid hT
  obtain ⟨t, ht⟩ : ∃ t, t = Ly.spreadS s x y ps := ⟨_, rfl⟩
  rw [← ht] at CS ⊢
  obtain ⟨W0, hW0⟩ : ∃ W0, W0 = (w.alloc (.cells #[.int .i64 s.seg, .slice a.w s.words.length a.cw, .slice a.k s.keys.length a.ck, .slice a.v s.vals.length a.cv, .slice a.c s.counts.length a.cc, .int .u64 (s.laid : Int)] 27)).alloc (.cells #[.int .i64 0, .slice none 0 0, .slice none 0 0, .slice none 0 0, .slice none 0 0, .int .u64 0] 27) := ⟨_, rfl⟩
  have HP := Lib.hid (show PLst W0 al ps by rw [hW0]; exact hp.below (((Below.refl w.heap.size w).alloc (Nat.le_refl _) _).alloc (by simp) _))
  have BX := Lib.hid (show Box W0 w.heap.size s a by rw [hW0]; exact (Box.new w s a 27).below ((Below.refl _ _).alloc (Nat.le_refl _) _))
  have BR := Lib.hid (show Box W0 (w.heap.size + 1) Sl.none adsNone by rw [hW0]; exact Box.second w _ Sl.none adsNone 27)
  have BB := Lib.hid (show Below w.heap.size w W0 by rw [hW0]; exact ((Below.refl w.heap.size w).alloc (Nat.le_refl _) _).alloc (by simp) _)
  have zz : w.heap.size + 2 ≤ W0.heap.size := by rw [hW0]; simp
  clear h hp hok hs hT hM h64 hu RI ht hm
  generalize hzs : Sp.ofs ps.length x y = zs at *
  clear hzs
  unfold slv
  go_enter Tryd.func27, Tryd.ntmps27
  go_upto_region 1 with (fail)
  rw [← hW0]
  clear hW0
  go_wp2_with fail
  refine (CP.out _).mono ?_
  rintro e w1 ⟨v, rfl, hr, hb⟩
  obtain ⟨A1, d1, rfl, hL⟩ := irow_list hr
  rw [LN.out]
  have L1 := Lib.hid hL
  replace BX := Lib.hid (BX.out.below hb)
  replace BR := Lib.hid (BR.out.below hb)
  replace BB := Lib.hid (BB.out.trans (hb.mono BB.out.size))
  replace HP := Lib.hid (HP.out.below hb)
  replace zz := Nat.le_trans zz hb.size
  clear hr hb hL
  obtain ⟨_, q0, q1, q2, q3, q4, q5, _⟩ := BX.out
  go_wp2_with fail
  refine (CS.out w1 A1 d1 (HH.out.below BB.out) (HT.out.below BB.out) L1.out HP.out).mono ?_
  rintro e w2 ⟨a2, rfl, own, hb⟩
  replace BR := Lib.hid (BR.out.below hb)
  replace BB := Lib.hid (BB.out.trans (hb.mono BB.out.size))
  have FIN := Lib.hid (ans_put6 (r := w.heap.size + 1) own BB.out (by omega) (by omega))
  clear own hb q0 q1 q2 q3 q4 q5
  obtain ⟨_, s0, s1, s2, s3, s4, s5, sf⟩ := BR.out
  have sf0 := sf 0
  have sf1 := sf 1
  have sf2 := sf 2
  have sf3 := sf 3
  have sf4 := sf 4
  have sf5 := sf 5
  clear sf
  unfold slv
  go_wp2
  refine bodyPost_ret (v := .tuple #[slv t a2, .int .i64 0]) (by simp [results, Tryd.results27, go_sem, slv, s0, s1, s2, s3, s4, s5, sf0, sf1, sf2, sf3, sf4, sf5]) rfl ?_
  exact ⟨_, rfl, FIN.out _ _ _ _ _ _⟩

set_option maxRecDepth 100000 in
set_option maxHeartbeats 2000000 in
theorem yOver_no (s : Sl) (a : Ads) (lo hi : Int) (al : Option Addr) (cal n : Nat) (w : World) (h1 : In64 lo) (h2 : In64 hi) (hn : n ≤ 65536) (hm : Sp.mayB n lo hi = false) :
    Calls Tryd.prog 27 #[slv s a, .int .i64 lo, .int .i64 hi, .slice al n cal] w (Ans Sl.none 2 w) := by
  have CP := Lib.hid (fun W => sPlaces n lo hi W ⟨by omega, by omega⟩ h1 h2)
  rw [(Sp.may_no hm).1, (Sp.may_no hm).2] at CP
  obtain ⟨W0, hW0⟩ : ∃ W0, W0 = (w.alloc (.cells #[.int .i64 s.seg, .slice a.w s.words.length a.cw, .slice a.k s.keys.length a.ck, .slice a.v s.vals.length a.cv, .slice a.c s.counts.length a.cc, .int .u64 (s.laid : Int)] 27)).alloc (.cells #[.int .i64 0, .slice none 0 0, .slice none 0 0, .slice none 0 0, .slice none 0 0, .int .u64 0] 27) := ⟨_, rfl⟩
  have BR := Lib.hid (show Box W0 (w.heap.size + 1) Sl.none adsNone by rw [hW0]; exact Box.second w _ Sl.none adsNone 27)
  have BB := Lib.hid (show Below w.heap.size w W0 by rw [hW0]; exact ((Below.refl w.heap.size w).alloc (Nat.le_refl _) _).alloc (by simp) _)
  clear hm h1 h2
  unfold slv
  go_enter Tryd.func27, Tryd.ntmps27
  go_upto_region 1 with (fail)
  rw [← hW0]
  clear hW0
  go_wp2_with fail
  refine (CP.out _).mono ?_
  rintro e w1 ⟨v, rfl, hr, hb⟩
  obtain ⟨A1, d1, rfl, _⟩ := irow_list hr
  replace BR := Lib.hid (BR.out.below hb)
  replace BB := Lib.hid (BB.out.trans (hb.mono BB.out.size))
  clear hr hb
  obtain ⟨_, s0, s1, s2, s3, s4, s5, sf⟩ := BR.out
  have sf0 := sf 0
  have sf1 := sf 1
  have sf2 := sf 2
  have sf3 := sf 3
  have sf4 := sf 4
  have sf5 := sf 5
  clear sf
  go_wp2
  refine bodyPost_ret (v := .tuple #[slv Sl.none adsNone, .int .i64 2]) (by simp [results, Tryd.results27, go_sem, slv, Sl.none, adsNone, s0, s1, s2, s3, s4, s5, sf0, sf1, sf2, sf3, sf4, sf5]) rfl ?_
  exact ⟨_, rfl, (none_own _ _).1, below_put6 BB.out (by omega) _ _ _ _ _ _⟩

set_option maxRecDepth 100000 in
set_option maxHeartbeats 4000000 in
theorem yEven (s : Sl) (a : Ads) (lo hi : Int) (w : World) (h : Held w s a) (hok : s.Ok) (hs : s.Short) (hT : Tab w) (h1 : In64 lo) (h2 : In64 hi) :
    Calls Tryd.prog 11 #[slv s a, .int .i64 lo, .int .i64 hi] w (Ans (Ly.evenS s lo hi) (s.pairsE lo hi) w) := by
  have HH := Lib.hid h
  have HT := Lib.hid hT
  obtain ⟨W0, hW0⟩ : ∃ W0, W0 = (w.alloc (.cells #[.int .i64 s.seg, .slice a.w s.words.length a.cw, .slice a.k s.keys.length a.ck, .slice a.v s.vals.length a.cv, .slice a.c s.counts.length a.cc, .int .u64 (s.laid : Int)] 27)).alloc (.cells #[.int .i64 0, .slice none 0 0, .slice none 0 0, .slice none 0 0, .slice none 0 0, .int .u64 0] 27) := ⟨_, rfl⟩
  have BX := Lib.hid (show Box W0 w.heap.size s a by rw [hW0]; exact (Box.new w s a 27).below ((Below.refl _ _).alloc (Nat.le_refl _) _))
  have BR := Lib.hid (show Box W0 (w.heap.size + 1) Sl.none adsNone by rw [hW0]; exact Box.second w _ Sl.none adsNone 27)
  have BB := Lib.hid (show Below w.heap.size w W0 by rw [hW0]; exact ((Below.refl w.heap.size w).alloc (Nat.le_refl _) _).alloc (by simp) _)
  have zz : w.heap.size + 2 ≤ W0.heap.size := by rw [hW0]; simp
  have CP := Lib.hid (fun W (hb : Below w.heap.size w W) => cPairs s a lo hi W (HH.out.below hb) hok hs (HT.out.below hb))
  obtain ⟨er, her⟩ : ∃ er, er = s.pairsE lo hi := ⟨_, rfl⟩
  have HE := Lib.hid her
  by_cases h0 : er = 0
  case neg =>
    have V := Lib.hid (Ly.even_no (s := s) (a := lo) (b := hi) (by rw [← her]; exact h0))
    have V2 := Lib.hid (Ly.pairsV_no (s := s) (a := lo) (b := hi) (by rw [← her]; exact h0))
    rw [V2.out, ← her] at CP
    have k1 : (er != 0) = true := by simp [h0]
    clear h hok hs hT her h0 h1 h2
    unfold slv at CP ⊢
    go_enter Tryd.func11, Tryd.ntmps11
    go_upto_region 1 with (fail)
    rw [← hW0]
    clear hW0
    obtain ⟨_, q0, q1, q2, q3, q4, q5, _⟩ := BX.out
    go_wp2_with fail
    refine (CP.out _ BB.out).mono ?_
    rintro e w1 ⟨v, rfl, hr, hb⟩
    obtain ⟨A1, d1, rfl, _⟩ := prow_list hr
    replace BR := Lib.hid (BR.out.below hb)
    replace BB := Lib.hid (BB.out.trans (hb.mono BB.out.size))
    clear hr hb q0 q1 q2 q3 q4 q5
    obtain ⟨_, s0, s1, s2, s3, s4, s5, sf⟩ := BR.out
    have sf0 := sf 0
    have sf1 := sf 1
    have sf2 := sf 2
    have sf3 := sf 3
    have sf4 := sf 4
    have sf5 := sf 5
    clear sf
    go_wp2
    refine bodyPost_ret (v := .tuple #[slv Sl.none adsNone, .int .i64 er]) (by simp [results, Tryd.results11, go_sem, slv, Sl.none, adsNone, s0, s1, s2, s3, s4, s5, sf0, sf1, sf2, sf3, sf4, sf5]) rfl ?_
    rw [V.out, HE.out]
    exact ⟨_, rfl, (none_own _ _).1, below_put6 BB.out (by omega) _ _ _ _ _ _⟩
  case pos =>
    obtain ⟨hm, x, y, rfl, rfl, hxy, hy⟩ := Ly.pairs_parts (s := s) (by rw [← her]; exact h0)
    have V := Lib.hid (Ly.even_ok (s := s) (x := x) (y := y) (by rw [← her]; exact h0))
    have V2 := Lib.hid (Ly.pairsV_ok (s := s) (x := x) (y := y) (by rw [← her]; exact h0))
    have LN := Ly.of_len s x y
    have H64 := of_in64 hok x y
    rw [V2.out, ← her] at CP
    have CS := Lib.hid (show ∀ W A c, Below w.heap.size w W → PLst W A (s.of x y) → Calls Tryd.prog 27 #[.agg #[.int .i64 s.seg, .slice a.w s.words.length a.cw, .slice a.k s.keys.length a.ck, .slice a.v s.vals.length a.cv, .slice a.c s.counts.length a.cc, .int .u64 (s.laid : Int)], .int .i64 (x : Int), .int .i64 (y : Int), .slice A (s.of x y).length c] W (Ans (Ly.evenS s x y) 0 W) from fun W A c hb h3 => by
      rw [V.out]
      exact yOver_ok s a x y A c (s.of x y) W (HH.out.below hb) hok hs (HT.out.below hb) (may_iff.1 hm) (by omega) hy h3 H64)
    have H0 := Lib.hid h0
    have k1 : (er != 0) = false := by simp [h0]
    clear h hok hs hT her h0 hm LN H64 V V2 h1 h2
    generalize Ly.evenS s x y = t at *
    generalize s.of x y = ps at *
    unfold slv at CP ⊢
    go_enter Tryd.func11, Tryd.ntmps11
    go_upto_region 1 with (fail)
    rw [← hW0]
    clear hW0
    obtain ⟨_, q0, q1, q2, q3, q4, q5, _⟩ := BX.out
    go_wp2_with fail
    refine (CP.out _ BB.out).mono ?_
    rintro e w1 ⟨v, rfl, hr, hb⟩
    obtain ⟨A1, d1, rfl, hP⟩ := prow_list hr
    have P1 := Lib.hid hP
    replace BX := Lib.hid (BX.out.below hb)
    replace BR := Lib.hid (BR.out.below hb)
    replace BB := Lib.hid (BB.out.trans (hb.mono BB.out.size))
    replace zz := Nat.le_trans zz hb.size
    clear hr hb hP q0 q1 q2 q3 q4 q5
    obtain ⟨_, q0, q1, q2, q3, q4, q5, _⟩ := BX.out
    go_wp2_with fail
    refine (CS.out w1 A1 d1 BB.out P1.out).mono ?_
    rintro e w2 ⟨a2, rfl, own, hb⟩
    replace BR := Lib.hid (BR.out.below hb)
    replace BB := Lib.hid (BB.out.trans (hb.mono BB.out.size))
    have FIN := Lib.hid (ans_put6 (r := w.heap.size + 1) own BB.out (by omega) (by omega))
    clear own hb q0 q1 q2 q3 q4 q5
    obtain ⟨_, s0, s1, s2, s3, s4, s5, sf⟩ := BR.out
    have sf0 := sf 0
    have sf1 := sf 1
    have sf2 := sf 2
    have sf3 := sf 3
    have sf4 := sf 4
    have sf5 := sf 5
    clear sf
    unfold slv
    go_wp2
    refine bodyPost_ret (v := .tuple #[slv t a2, .int .i64 0]) (by simp [results, Tryd.results11, go_sem, slv, s0, s1, s2, s3, s4, s5, sf0, sf1, sf2, sf3, sf4, sf5]) rfl ?_
    rw [← HE.out, H0.out]
    exact ⟨_, rfl, FIN.out _ _ _ _ _ _⟩
end Go.Proofs.YtmmkaabefofdeaaDoor
