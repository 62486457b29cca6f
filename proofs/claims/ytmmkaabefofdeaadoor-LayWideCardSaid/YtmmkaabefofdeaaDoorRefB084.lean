/- What the document's own answer Even of layer 8 (package shelfmarkref08) returns: new memory. -/
import Derived.Test.YtmmkaabefofdeaaDoorRefA084
namespace Go.Proofs.YtmmkaabefofdeaaDoor
open Go.RowKit
set_option linter.unusedVariables false
set_option linter.unusedSimpArgs false

namespace Ly
theorem even_no {s : Sl} {a b : Int} (h : s.pairsE a b ≠ 0) : evenS s a b = Sl.none := by unfold evenS; rw [if_neg h]
theorem pairs_parts {s : Sl} {a b : Int} (h : s.pairsE a b = 0) : s.mayB = true ∧ ∃ x y : Nat, a = x ∧ b = y ∧ x ≤ y ∧ y ≤ s.keys.length := by
  unfold Sl.pairsE at h
  cases hm : s.mayB
  · rw [hm] at h; simp at h
  · cases hp : Sl.partB s.keys.length a b
    · rw [hm, hp] at h; simp at h
    · obtain ⟨p1, p2, p3⟩ := part_iff.1 hp
      exact ⟨rfl, a.toNat, b.toNat, by omega, by omega, by omega, by omega⟩
theorem of_len (s : Sl) (x y : Nat) : (s.of x y).length ≤ y - x := by
  unfold Sl.of
  rw [List.length_map]
  exact Oc.places_length_le s.words x y
theorem pairsV_ok {s : Sl} {x y : Nat} (h : s.pairsE x y = 0) : s.pairsV x y = s.of x y := by unfold Sl.pairsV; rw [if_pos h, Int.toNat_natCast, Int.toNat_natCast]
theorem even_ok {s : Sl} {x y : Nat} (h : s.pairsE x y = 0) : evenS s x y = spreadS s x y (s.of x y) := by unfold evenS; rw [if_pos h, Int.toNat_natCast, Int.toNat_natCast]
theorem pairsV_no {s : Sl} {a b : Int} (h : s.pairsE a b ≠ 0) : s.pairsV a b = [] := by unfold Sl.pairsV; rw [if_neg h]
end Ly

set_option maxRecDepth 100000 in
set_option maxHeartbeats 2000000 in
theorem r8Even (s : Sl) (a : Ads) (lo hi : Int) (w : World) (h : Held w s a) (hok : s.Ok) (hs : s.Short) :
    Calls Tryd.prog 17 #[slv s a, .int .i64 lo, .int .i64 hi] w (SPost2 (Ly.evenS s lo hi) (s.pairsE lo hi) w) := by
  have HH := Lib.hid h
  have HB := Lib.hid (fun o => (Box.new w s a 27).below ((Below.refl _ _).alloc (Nat.le_refl _) o))
  have HR := Lib.hid (fun o => Box.second w o Sl.none adsNone 27)
  have B0 := Lib.hid (fun o o' => ((Below.refl w.heap.size w).alloc (Nat.le_refl _) o).alloc (by simp) o')
  have CP := Lib.hid (fun o o' => r4Pairs s a lo hi ((w.alloc o).alloc o') (h.below (((Below.refl w.heap.size w).alloc (Nat.le_refl _) o).alloc (by simp) o')) hok hs)
  obtain ⟨er, her⟩ : ∃ er, er = s.pairsE lo hi := ⟨_, rfl⟩
  have HE := Lib.hid her
  by_cases h0 : er = 0
  case neg =>
    have V := Lib.hid (Ly.even_no (s := s) (a := lo) (b := hi) (by rw [← her]; exact h0))
    have V2 := Lib.hid (Ly.pairsV_no (s := s) (a := lo) (b := hi) (by rw [← her]; exact h0))
    rw [V2.out, ← her] at CP
    have k1 : (er != 0) = true := by simp [h0]
    clear h hok hs her h0
    unfold slv at CP ⊢
    go_enter Tryd.func17, Tryd.ntmps17
    go_wp2_with fail
    refine (CP.out _ _).mono ?_
    rintro e w1 ⟨v, rfl, hr, hb⟩
    obtain ⟨A1, d1, rfl, _⟩ := prow_list hr
    obtain ⟨_, s0, s1, s2, s3, s4, s5, sf⟩ := (HR.out _).below hb
    have sf0 := sf 0
    have sf1 := sf 1
    have sf2 := sf 2
    have sf3 := sf 3
    have sf4 := sf 4
    have sf5 := sf 5
    have B1 := Lib.hid ((B0.out _ _).trans (hb.mono (by simp; omega)))
    have z1 : w.heap.size + 1 < w1.heap.size := by have := hb.size; simp at this; omega
    have z2 : ¬ w.heap.size + 1 = w1.heap.size := by omega
    clear sf hb hr
    go_wp2
    refine bodyPost_ret (v := .tuple #[slv Sl.none adsNone, .int .i64 er]) (by simp [results, Tryd.results17, go_sem, slv, Sl.none, adsNone, s0, s1, s2, s3, s4, s5, sf0, sf1, sf2, sf3, sf4, sf5, z1]) rfl ?_
    rw [V.out, HE.out]
    exact ⟨_, rfl, (none_own _ _).1, (none_own w 0).2.1, (none_own _ _).2.2, below_put6 B1.out (by omega) _ _ _ _ _ _⟩
  case pos =>
    obtain ⟨hm, x, y, rfl, rfl, hxy, hy⟩ := Ly.pairs_parts (s := s) (by rw [← her]; exact h0)
    have V := Lib.hid (Ly.even_ok (s := s) (x := x) (y := y) (by rw [← her]; exact h0))
    have V2 := Lib.hid (Ly.pairsV_ok (s := s) (x := x) (y := y) (by rw [← her]; exact h0))
    have FT := may_fit hm hok hs
    have LN := Ly.of_len s x y
    have H64 := of_in64 hok x y
    rw [V2.out, ← her] at CP
    have CS := Lib.hid (show ∀ W A c, Held W s a → PLst W A (s.of x y) → Calls Tryd.prog 34 #[.agg #[.int .i64 s.seg, .slice a.w s.words.length a.cw, .slice a.k s.keys.length a.ck, .slice a.v s.vals.length a.cv, .slice a.c s.counts.length a.cc, .int .u64 (s.laid : Int)], .int .i64 (x : Int), .int .i64 (y : Int), .slice A (s.of x y).length c] W (SPost (Ly.evenS s x y) W) from fun W A c h1 h2 => by
      rw [V.out]
      exact r8Spread s a x y A c (s.of x y) W h1 FT hy (by omega) h2 H64)
    have H0 := Lib.hid h0
    have k1 : (er != 0) = false := by simp [h0]
    clear h hok hs her h0 hm FT LN H64 V V2
    generalize Ly.evenS s x y = t at *
    generalize s.of x y = ps at *
    unfold slv at CP ⊢
    go_enter Tryd.func17, Tryd.ntmps17
    go_wp2_with fail
    refine (CP.out _ _).mono ?_
    rintro e w1 ⟨v, rfl, hr, hb⟩
    obtain ⟨A1, d1, rfl, hP⟩ := prow_list hr
    have BX1 := Lib.hid ((HB.out _).below hb)
    have BR1 := Lib.hid ((HR.out _).below hb)
    obtain ⟨_, p0, p1, p2, p3, p4, p5, pf⟩ := BX1.out
    have B1 := Lib.hid ((B0.out _ _).trans (hb.mono (by simp; omega)))
    have z1 : w.heap.size + 1 < w1.heap.size := by have := hb.size; simp at this; omega
    have P1 := Lib.hid hP
    clear pf hb hr hP
    go_wp2_with fail
    refine (CS.out _ _ _ (HH.out.below B1.out) P1.out).mono ?_
    rintro e w2 ⟨a2, rfl, own, sep, lies, hb⟩
    obtain ⟨_, s0, s1, s2, s3, s4, s5, sf⟩ := BR1.out.below hb
    have sf0 := sf 0
    have sf1 := sf 1
    have sf2 := sf 2
    have sf3 := sf 3
    have sf4 := sf 4
    have sf5 := sf 5
    have FIN := Lib.hid (put6_fin (r := w.heap.size + 1) own sep lies (B1.out.trans (hb.mono B1.out.size)) (by omega) (by omega))
    clear own sep lies hb sf p0 p1 p2 p3 p4 p5
    unfold slv
    go_wp2
    refine bodyPost_ret (v := .tuple #[slv t a2, .int .i64 0]) (by simp [results, Tryd.results17, go_sem, slv, s0, s1, s2, s3, s4, s5, sf0, sf1, sf2, sf3, sf4, sf5]) rfl ?_
    rw [← HE.out, H0.out]
    exact ⟨_, rfl, FIN.out _ _ _ _ _ _⟩
end Go.Proofs.YtmmkaabefofdeaaDoor
