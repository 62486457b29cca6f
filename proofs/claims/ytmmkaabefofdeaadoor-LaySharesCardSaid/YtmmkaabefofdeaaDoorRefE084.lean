/- What the document's own answers Wide and Into of layer 8 (package shelfmarkref08) return: new memory. -/
import Derived.Test.YtmmkaabefofdeaaDoorRefD084
import Derived.Test.YtmmkaabefofdeaaDoorPlain8b4
namespace Go.Proofs.YtmmkaabefofdeaaDoor
open Go.RowKit
set_option linter.unusedVariables false
set_option linter.unusedSimpArgs false

set_option maxRecDepth 100000 in
set_option maxHeartbeats 4000000 in
theorem r8Wide (s : Sl) (a : Ads) (m : Nat) (al : Option Addr) (cal : Nat) (ps : List (Int × Int)) (w : World) (hok : s.Ok) (hf : Sl.fitsB s.seg m = true) (hn : ps.length ≤ m) (hp : PLst w al ps) (h64 : In64P ps) :
    Calls Tryd.prog 40 #[slv s a, .int .i64 (m : Int), .slice al ps.length cal] w (SPost (Ly.wide s m ps) w) := by
  obtain ⟨f1, f2, f3, f4, f5, f6, f7⟩ := fits_yes hf
  have BA := base_bare hf hok.seg hok.laid
  have FT := may_fit (may_iff.2 BA.may) BA.ok BA.short
  obtain ⟨sg, hsg⟩ : ∃ sg : Nat, s.seg = sg := ⟨s.seg.toNat, by omega⟩
  have EM := Lib.hid (show Ly.base s m = { slMade sg ((m + 63) / 64) m (m / sg) with laid := s.laid } by unfold Ly.base; rw [hsg, empty_made])
  have CE := Lib.hid (fun W => r4Empty sg m _ _ W (by omega) (by omega) (by omega) (by omega) rfl rfl)
  have CS := Lib.hid (show ∀ W (a1 : Ads), Held W (Ly.base s m) a1 → PLst W al ps → Calls Tryd.prog 34 #[slv (Ly.base s m) a1, .int .i64 0, .int .i64 (m : Int), .slice al ps.length cal] W (SPost (Ly.wide s m ps) W) from fun W a1 h1 h2 => by
    have q := r8Spread (Ly.base s m) a1 0 m al cal ps W h1 FT (by rw [BA.keys]; exact Nat.le_refl _) (by omega) h2 h64
    exact q)
  have HP := Lib.hid hp
  obtain ⟨t, ht⟩ : ∃ t, t = Ly.wide s m ps := ⟨_, rfl⟩
  rw [← ht] at CS ⊢
  rw [EM.out] at CS
  obtain ⟨u, hu⟩ : ∃ u, u = slMade sg ((m + 63) / 64) m (m / sg) := ⟨_, rfl⟩
  rw [← hu] at CS CE
  have hu1 : u.seg = (sg : Int) := by rw [hu]; rfl
  obtain ⟨W0, hW0⟩ : ∃ W0, W0 = (w.alloc (.cells #[.int .i64 s.seg, .slice a.w s.words.length a.cw, .slice a.k s.keys.length a.ck, .slice a.v s.vals.length a.cv, .slice a.c s.counts.length a.cc, .int .u64 (s.laid : Int)] 27)).alloc (.cells #[.int .i64 0, .slice none 0 0, .slice none 0 0, .slice none 0 0, .slice none 0 0, .int .u64 0] 27) := ⟨_, rfl⟩
  have BX := Lib.hid (show Box W0 w.heap.size s a by rw [hW0]; exact (Box.new w s a 27).below ((Below.refl _ _).alloc (Nat.le_refl _) _))
  have BR := Lib.hid (show Box W0 (w.heap.size + 1) Sl.none adsNone by rw [hW0]; exact Box.second w _ Sl.none adsNone 27)
  have BB := Lib.hid (show Below w.heap.size w W0 by rw [hW0]; exact ((Below.refl w.heap.size w).alloc (Nat.le_refl _) _).alloc (by simp) _)
  have zz : w.heap.size + 2 ≤ W0.heap.size := by rw [hW0]; simp
  have SG := Lib.hid hsg
  clear hok hf hp h64 BA FT f1 f2 f3 f4 f5 f6 f7 ht hu hsg
  unfold slv
  go_enter Tryd.func40, Tryd.ntmps40
  go_upto_region 1 with (fail)
  rw [← hW0]
  clear hW0
  obtain ⟨_, q0, q1, q2, q3, q4, q5, _⟩ := BX.out
  rw [SG.out] at q0
  go_wp2_with fail
  refine (CE.out _).mono ?_
  rintro e w1 ⟨a1, rfl, own, sep, lies, hb⟩
  clear q0 q1 q2 q3 q4 q5
  replace BX := Lib.hid (BX.out.below hb)
  replace BR := Lib.hid (BR.out.below hb)
  replace BB := Lib.hid (BB.out.trans (hb.mono BB.out.size))
  have OW := Lib.hid own
  replace zz := Nat.le_trans zz hb.size
  clear own sep lies hb
  obtain ⟨_, q0, q1, q2, q3, q4, q5, _⟩ := BX.out
  have q5a := fun o => ((BX.out.below ((Below.refl _ _).alloc (Nat.le_refl _) o))).c5
  unfold slv
  go_upto_region 3 with (fail)
  obtain ⟨W2, hW2⟩ : ∃ W2, W2 = w1.alloc (.cells #[.int .i64 (sg : Int), .slice a1.w u.words.length a1.cw, .slice a1.k u.keys.length a1.ck, .slice a1.v u.vals.length a1.cv, .slice a1.c u.counts.length a1.cc, .int .u64 (s.laid : Int)] 27) := ⟨_, rfl⟩
  have B12 : Below w1.heap.size w1 W2 := by rw [hW2]; exact (Below.refl _ _).alloc (Nat.le_refl _) _
  have X2 := Lib.hid (show Box W2 w1.heap.size { u with laid := s.laid } a1 by rw [hW2, ← hu1]; exact Box.new w1 { u with laid := s.laid } a1 27)
  have z2 : W2.heap.size = w1.heap.size + 1 := by rw [hW2]; simp
  rw [← hW2]
  clear hW2 q0 q1 q2 q3 q4 q5 q5a
  replace BR := Lib.hid (BR.out.below B12)
  replace BB := Lib.hid (BB.out.trans (B12.mono BB.out.size))
  have HT := Lib.hid (show Held W2 { u with laid := s.laid } a1 from by
    have h := OW.out.held.below B12
    exact ⟨h.words, h.keys, h.vals, h.counts, ⟨h.caps.w0, h.caps.k0, h.caps.v0, h.caps.c0, h.caps.w1, h.caps.k1, h.caps.v1, h.caps.c1⟩⟩)
  have CS1 := Lib.hid (CS.out W2 a1 HT.out (HP.out.below BB.out))
  unfold slv at CS1
  dsimp only at CS1
  rw [hu1] at CS1
  have X2o := X2.out
  obtain ⟨_, q0, q1, q2, q3, q4, q5, _⟩ := X2o
  dsimp only at q0 q1 q2 q3 q4 q5
  rw [hu1] at q0
  have Z2 := Lib.hid z2
  clear B12 z2 OW CS BX X2 HT hu1
  go_wp2_with fail
  refine CS1.out.mono ?_
  rintro e w3 ⟨a3, rfl, own, sep, lies, hb⟩
  replace BR := Lib.hid (BR.out.below hb)
  obtain ⟨_, s0, s1, s2, s3, s4, s5, sf⟩ := BR.out
  have sf0 := sf 0
  have sf1 := sf 1
  have sf2 := sf 2
  have sf3 := sf 3
  have sf4 := sf 4
  have sf5 := sf 5
  have FIN := Lib.hid (put6_fin (r := w.heap.size + 1) own sep lies (BB.out.trans (hb.mono BB.out.size)) (by have := Z2.out; omega) (by omega))
  clear own sep lies hb sf q0 q1 q2 q3 q4 q5
  unfold slv
  go_wp2
  refine bodyPost_ret (v := slv t a3) (by simp [results, Tryd.results40, go_sem, slv, s0, s1, s2, s3, s4, s5, sf0, sf1, sf2, sf3, sf4, sf5]) rfl ?_
  exact ⟨_, rfl, FIN.out _ _ _ _ _ _⟩

namespace Ly
theorem into_no {s : Sl} {size : Int} {l : List (Int × Int)} (h : intoE s size l.length ≠ 0) : intoS s size l = Sl.none := by unfold intoS; rw [if_neg h]
theorem into_may {s : Sl} (h : s.mayB = true) (size : Int) (n : Nat) : intoE s size n = if Sl.fitsB s.seg size && decide ((n : Int) ≤ size) then 0 else 2 := by unfold intoE intoB; rw [if_pos h]
theorem into_bad {s : Sl} (h : s.mayB = false) (size : Int) (n : Nat) : intoE s size n = 8 := by unfold intoE; rw [h]; rfl
end Ly

set_option maxRecDepth 100000 in
set_option maxHeartbeats 4000000 in
theorem r8Into (s : Sl) (a : Ads) (size : Int) (al : Option Addr) (cal : Nat) (ps : List (Int × Int)) (w : World) (h : Held w s a) (hok : s.Ok) (hs : s.Short) (hz : In64 size) (hn : ps.length ≤ 65536) (hp : PLst w al ps) (h64 : In64P ps) :
    Calls Tryd.prog 21 #[slv s a, .int .i64 size, .slice al ps.length cal] w (SPost2 (Ly.intoS s size ps) (Ly.intoE s size ps.length) w) := by
  have HH := Lib.hid h
  have CM := Lib.hid (fun W (hW : Held W s a) => r4May s a W hW hok hs)
  have CF := Lib.hid (fun W => r4Fits s.seg size W hz.2 hok.seg.2)
  have HPP := Lib.hid hp
  obtain ⟨W0, hW0⟩ : ∃ W0, W0 = (w.alloc (.cells #[.int .i64 s.seg, .slice a.w s.words.length a.cw, .slice a.k s.keys.length a.ck, .slice a.v s.vals.length a.cv, .slice a.c s.counts.length a.cc, .int .u64 (s.laid : Int)] 27)).alloc (.cells #[.int .i64 0, .slice none 0 0, .slice none 0 0, .slice none 0 0, .slice none 0 0, .int .u64 0] 27) := ⟨_, rfl⟩
  have BX := Lib.hid (show Box W0 w.heap.size s a by rw [hW0]; exact (Box.new w s a 27).below ((Below.refl _ _).alloc (Nat.le_refl _) _))
  have BR := Lib.hid (show Box W0 (w.heap.size + 1) Sl.none adsNone by rw [hW0]; exact Box.second w _ Sl.none adsNone 27)
  have BB := Lib.hid (show Below w.heap.size w W0 by rw [hW0]; exact ((Below.refl w.heap.size w).alloc (Nat.le_refl _) _).alloc (by simp) _)
  have HP := Lib.hid (HPP.out.below BB.out)
  have zz : w.heap.size + 2 ≤ W0.heap.size := by rw [hW0]; simp
  cases hm : s.mayB
  · have E := Ly.into_bad hm size ps.length
    have V := Ly.into_no (s := s) (size := size) (l := ps) (by rw [E]; decide)
    rw [E, V]
    rw [hm] at CM
    clear h hok hs hp h64 hm E V
    unfold slv at CM ⊢
    go_enter Tryd.func21, Tryd.ntmps21
    go_upto_region 1 with (fail)
    rw [← hW0]
    clear hW0
    obtain ⟨_, q0, q1, q2, q3, q4, q5, _⟩ := BX.out
    go_wp2_with fail
    refine (CM.out W0 (HH.out.below BB.out)).mono ?_
    rintro e w1 ⟨rfl, hb⟩
    clear q0 q1 q2 q3 q4 q5
    replace BX := Lib.hid (BX.out.below hb)
    replace BR := Lib.hid (BR.out.below hb)
    replace BB := Lib.hid (BB.out.trans (hb.mono BB.out.size))
    replace HP := Lib.hid (HP.out.below hb)
    replace zz := Nat.le_trans zz hb.size
    clear hb
    obtain ⟨_, s0, s1, s2, s3, s4, s5, sf⟩ := BR.out
    have sf0 := sf 0
    have sf1 := sf 1
    have sf2 := sf 2
    have sf3 := sf 3
    have sf4 := sf 4
    have sf5 := sf 5
    clear sf
    go_wp2
    refine bodyPost_ret (v := .tuple #[slv Sl.none adsNone, .int .i64 8]) (by simp [results, Tryd.results21, go_sem, slv, Sl.none, adsNone, s0, s1, s2, s3, s4, s5, sf0, sf1, sf2, sf3, sf4, sf5]) rfl ?_
    exact ⟨_, rfl, (none_own _ _).1, (none_own w 0).2.1, (none_own _ _).2.2, below_put6 BB.out (by omega) _ _ _ _ _ _⟩
  · have E := Ly.into_may hm size ps.length
    rw [hm] at CM
    cases hf : Sl.fitsB s.seg size
    · rw [hf, Bool.false_and] at E
      have V := Ly.into_no (s := s) (size := size) (l := ps) (by rw [E]; decide)
      rw [E, V, if_neg (by decide)]
      rw [hf] at CF
      clear h hok hs hp h64 hm hf E V
      unfold slv at CM ⊢
      go_enter Tryd.func21, Tryd.ntmps21
      go_upto_region 1 with (fail)
      rw [← hW0]
      clear hW0
      obtain ⟨_, q0, q1, q2, q3, q4, q5, _⟩ := BX.out
      go_wp2_with fail
      refine (CM.out W0 (HH.out.below BB.out)).mono ?_
      rintro e w1 ⟨rfl, hb⟩
      clear q0 q1 q2 q3 q4 q5
      replace BX := Lib.hid (BX.out.below hb)
      replace BR := Lib.hid (BR.out.below hb)
      replace BB := Lib.hid (BB.out.trans (hb.mono BB.out.size))
      replace HP := Lib.hid (HP.out.below hb)
      replace zz := Nat.le_trans zz hb.size
      clear hb
      obtain ⟨_, q0, q1, q2, q3, q4, q5, _⟩ := BX.out
      go_wp2_with fail
      refine (CF.out _).mono ?_
      rintro e w2 ⟨rfl, rfl⟩
      obtain ⟨_, s0, s1, s2, s3, s4, s5, sf⟩ := BR.out
      have sf0 := sf 0
      have sf1 := sf 1
      have sf2 := sf 2
      have sf3 := sf 3
      have sf4 := sf 4
      have sf5 := sf 5
      clear sf
      go_wp2
      refine bodyPost_ret (v := .tuple #[slv Sl.none adsNone, .int .i64 2]) (by simp [results, Tryd.results21, go_sem, slv, Sl.none, adsNone, s0, s1, s2, s3, s4, s5, sf0, sf1, sf2, sf3, sf4, sf5]) rfl ?_
      exact ⟨_, rfl, (none_own _ _).1, (none_own w 0).2.1, (none_own _ _).2.2, below_put6 BB.out (by omega) _ _ _ _ _ _⟩
    · rw [hf] at CF
      rw [hf, Bool.true_and] at E
      by_cases hl : size < (ps.length : Int)
      · rw [decide_eq_false (by omega)] at E
        have V := Ly.into_no (s := s) (size := size) (l := ps) (by rw [E]; decide)
        rw [E, V, if_neg (by decide)]
        clear h hok hs hp h64 hm hf E V
        unfold slv at CM ⊢
        go_enter Tryd.func21, Tryd.ntmps21
        go_upto_region 1 with (fail)
        rw [← hW0]
        clear hW0
        obtain ⟨_, q0, q1, q2, q3, q4, q5, _⟩ := BX.out
        go_wp2_with fail
        refine (CM.out W0 (HH.out.below BB.out)).mono ?_
        rintro e w1 ⟨rfl, hb⟩
        clear q0 q1 q2 q3 q4 q5
        replace BX := Lib.hid (BX.out.below hb)
        replace BR := Lib.hid (BR.out.below hb)
        replace BB := Lib.hid (BB.out.trans (hb.mono BB.out.size))
        replace HP := Lib.hid (HP.out.below hb)
        replace zz := Nat.le_trans zz hb.size
        clear hb
        obtain ⟨_, q0, q1, q2, q3, q4, q5, _⟩ := BX.out
        go_wp2_with fail
        refine (CF.out _).mono ?_
        rintro e w2 ⟨rfl, rfl⟩
        obtain ⟨_, s0, s1, s2, s3, s4, s5, sf⟩ := BR.out
        have sf0 := sf 0
        have sf1 := sf 1
        have sf2 := sf 2
        have sf3 := sf 3
        have sf4 := sf 4
        have sf5 := sf 5
        clear sf
        go_wp2
        refine bodyPost_ret (v := .tuple #[slv Sl.none adsNone, .int .i64 2]) (by simp [results, Tryd.results21, go_sem, slv, Sl.none, adsNone, s0, s1, s2, s3, s4, s5, sf0, sf1, sf2, sf3, sf4, sf5]) rfl ?_
        exact ⟨_, rfl, (none_own _ _).1, (none_own w 0).2.1, (none_own _ _).2.2, below_put6 BB.out (by omega) _ _ _ _ _ _⟩
      · rw [decide_eq_true (by omega), if_pos rfl] at E
        obtain ⟨m, rfl⟩ : ∃ m : Nat, size = m := ⟨size.toNat, by omega⟩
        have V : Ly.intoS s m ps = Ly.wide s m ps := by unfold Ly.intoS; rw [if_pos E]
        have CW := Lib.hid (show ∀ W, PLst W al ps → Calls Tryd.prog 40 #[slv s a, .int .i64 (m : Int), .slice al ps.length cal] W (SPost (Ly.wide s m ps) W) from fun W h1 => r8Wide s a m al cal ps W hok hf (by omega) h1 h64)
        rw [E, V]
        clear h hok hs hp h64 hm hf E V
        generalize Ly.wide s m ps = t at *
        unfold slv at CM CW ⊢
        go_enter Tryd.func21, Tryd.ntmps21
        go_upto_region 1 with (fail)
        rw [← hW0]
        clear hW0
        obtain ⟨_, q0, q1, q2, q3, q4, q5, _⟩ := BX.out
        go_wp2_with fail
        refine (CM.out W0 (HH.out.below BB.out)).mono ?_
        rintro e w1 ⟨rfl, hb⟩
        clear q0 q1 q2 q3 q4 q5
        replace BX := Lib.hid (BX.out.below hb)
        replace BR := Lib.hid (BR.out.below hb)
        replace BB := Lib.hid (BB.out.trans (hb.mono BB.out.size))
        replace HP := Lib.hid (HP.out.below hb)
        replace zz := Nat.le_trans zz hb.size
        clear hb
        obtain ⟨_, q0, q1, q2, q3, q4, q5, _⟩ := BX.out
        go_wp2_with fail
        refine (CF.out _).mono ?_
        rintro e w2 ⟨rfl, rfl⟩
        go_wp2_with fail
        refine (CW.out _ HP.out).mono ?_
        rintro e w3 ⟨a3, rfl, own, sep, lies, hb⟩
        clear q0 q1 q2 q3 q4 q5
        replace BR := Lib.hid (BR.out.below hb)
        obtain ⟨_, s0, s1, s2, s3, s4, s5, sf⟩ := BR.out
        have sf0 := sf 0
        have sf1 := sf 1
        have sf2 := sf 2
        have sf3 := sf 3
        have sf4 := sf 4
        have sf5 := sf 5
        clear sf
        have FIN := Lib.hid (put6_fin (r := w.heap.size + 1) own sep lies (BB.out.trans (hb.mono BB.out.size)) (by omega) (by omega))
        clear own sep lies hb
        unfold slv
        go_wp2
        refine bodyPost_ret (v := .tuple #[slv t a3, .int .i64 0]) (by simp [results, Tryd.results21, go_sem, slv, s0, s1, s2, s3, s4, s5, sf0, sf1, sf2, sf3, sf4, sf5]) rfl ?_
        exact ⟨_, rfl, FIN.out _ _ _ _ _ _⟩
end Go.Proofs.YtmmkaabefofdeaaDoor
