/- What the document's own answer With of layer 8 (package shelfmarkref08) returns: new memory. -/
import Derived.Test.YtmmkaabefofdeaaDoorRefC084
namespace Go.Proofs.YtmmkaabefofdeaaDoor
open Go.RowKit
set_option linter.unusedVariables false
set_option linter.unusedSimpArgs false

namespace Ly
theorem with_no {s : Sl} {a b k : Int} {p : Int × Int} (h : withE s a b k ≠ 0) : withS s a b k p = Sl.none := by unfold withS; rw [if_neg h]
theorem with_e {s : Sl} {x y : Nat} (h : s.pairsE x y = 0) (k : Int) : withE s x y k = if ((s.of x y).length : Int) = (y : Int) - (x : Int) then 9 else if 0 ≤ k ∧ k ≤ ((s.of x y).length : Int) then 0 else 2 := by
  unfold withE
  rw [if_pos h, Int.toNat_natCast, Int.toNat_natCast]
theorem with_s {s : Sl} {x y k : Nat} {p : Int × Int} (h : withE s x y k = 0) : withS s x y k p = spreadS s x y (among (s.of x y) k p) := by
  unfold withS
  rw [if_pos h, Int.toNat_natCast, Int.toNat_natCast, Int.toNat_natCast]
theorem with_bad {s : Sl} {a b : Int} (h : s.pairsE a b ≠ 0) (k : Int) : withE s a b k = s.pairsE a b := by unfold withE; rw [if_neg h]
theorem among_in64 {l : List (Int × Int)} (h : In64P l) (k : Nat) {p : Int × Int} (h1 : In64 p.1) (h2 : In64 p.2) : In64P (among l k p) := by
  have hm : ∀ q ∈ l, In64 q.1 ∧ In64 q.2 := by
    intro q hq
    obtain ⟨i, hi, rfl⟩ := List.getElem_of_mem hq
    have := h i
    simpa [List.getD, hi] using this
  intro j
  rw [List.getD_eq_getElem?_getD]
  cases hj : (among l k p)[j]? with
  | none => exact ⟨⟨by show (-9223372036854775808 : Int) ≤ 0; omega, by show (0 : Int) ≤ 9223372036854775807; omega⟩, ⟨by show (-9223372036854775808 : Int) ≤ 0; omega, by show (0 : Int) ≤ 9223372036854775807; omega⟩⟩
  | some q =>
    have hq : q ∈ among l k p := List.mem_of_getElem? hj
    unfold among at hq
    rcases List.mem_append.1 hq with h3 | h3
    · exact hm q (List.mem_of_mem_take h3)
    · rcases List.mem_cons.1 h3 with h4 | h4
      · subst h4; exact ⟨h1, h2⟩
      · exact hm q (List.mem_of_mem_drop h4)
end Ly
/-- A row of one's own is nil, or begins a block. -/
theorem prow_cases {ps : List (Int × Int)} {base : Nat} {w : World} {v : Value} (h : w.ownsRow base 33 2 v ps.length (pcells ps)) : (v = .slice none 0 0 ∧ ps = []) ∨ ∃ g c, v = .slice (some ⟨g, 0, none⟩) ps.length c ∧ PLst w (some ⟨g, 0, none⟩) ps ∧ ps.length ≤ c := by
  obtain ⟨A, c, h1, h2, _⟩ := own_cells h
  rcases h.2 with ⟨hv, h0⟩ | ⟨g, c', cur, hv, hg, hh, hn, _⟩
  · exact Or.inl ⟨hv, List.eq_nil_of_length_eq_zero h0⟩
  · rw [hv] at h1
    injection h1 with e1 e2 e3
    subst e1
    exact Or.inr ⟨g, c', hv, h2, hn⟩

set_option maxRecDepth 100000 in
set_option maxHeartbeats 8000000 in
theorem r8With (s : Sl) (a : Ads) (lo hi k p1 p2 : Int) (w : World) (h : Held w s a) (hok : s.Ok) (hs : s.Short) (h1 : In64 p1) (h2 : In64 p2) :
    Calls Tryd.prog 18 #[slv s a, .int .i64 lo, .int .i64 hi, .int .i64 k, .agg #[.int .i64 p1, .int .i64 p2]] w (SPost2 (Ly.withS s lo hi k (p1, p2)) (Ly.withE s lo hi k) w) := by
  have HH := Lib.hid h
  have CP := Lib.hid (fun W (hW : Held W s a) => r4Pairs s a lo hi W hW hok hs)
  obtain ⟨W0, hW0⟩ : ∃ W0, W0 = ((w.alloc (.cells #[.int .i64 s.seg, .slice a.w s.words.length a.cw, .slice a.k s.keys.length a.ck, .slice a.v s.vals.length a.cv, .slice a.c s.counts.length a.cc, .int .u64 (s.laid : Int)] 27)).alloc (.cells #[.int .i64 p1, .int .i64 p2] 33)).alloc (.cells #[.int .i64 0, .slice none 0 0, .slice none 0 0, .slice none 0 0, .slice none 0 0, .int .u64 0] 27) := ⟨_, rfl⟩
  have BX := Lib.hid (show Box W0 w.heap.size s a by rw [hW0]; exact ((Box.new w s a 27).below ((Below.refl _ _).alloc (Nat.le_refl _) _)).below ((Below.refl _ _).alloc (Nat.le_refl _) _))
  have BP := Lib.hid (show PBox W0 (w.heap.size + 1) (p1, p2) by rw [hW0]; exact (PBox.second w _ (p1, p2) 33).below ((Below.refl _ _).alloc (Nat.le_refl _) _))
  have BR := Lib.hid (show Box W0 (w.heap.size + 2) Sl.none adsNone by rw [hW0]; exact Box.third w _ _ Sl.none adsNone 27)
  have BB := Lib.hid (show Below w.heap.size w W0 by rw [hW0]; exact (((Below.refl w.heap.size w).alloc (Nat.le_refl _) _).alloc (by simp) _).alloc (by simp; omega) _)
  have zz : w.heap.size + 3 ≤ W0.heap.size := by rw [hW0]; simp
  by_cases h0 : s.pairsE lo hi = 0
  case neg =>
    have E := Lib.hid (Ly.with_bad h0 k)
    have V := Lib.hid (Ly.with_no (s := s) (a := lo) (b := hi) (k := k) (p := (p1, p2)) (by rw [E.out]; exact h0))
    rw [E.out]
    rw [Ly.pairsV_no h0] at CP
    obtain ⟨er, her⟩ : ∃ er, er = s.pairsE lo hi := ⟨_, rfl⟩
    rw [← her] at CP h0 ⊢
    have k1 : (er != 0) = true := by simp [h0]
    clear h hok hs her h0 E
    unfold slv at CP ⊢
    go_enter Tryd.func18, Tryd.ntmps18
    go_wp2_with fail
    rw [← hW0]
    clear hW0
    obtain ⟨_, q0, q1, q2, q3, q4, q5, _⟩ := BX.out
    first | done | skip
    go_wp2_with fail
    refine (CP.out W0 (HH.out.below BB.out)).mono ?_
    rintro e w1 ⟨v, rfl, hr, hb⟩
    clear q0 q1 q2 q3 q4 q5
    replace BX := Lib.hid (BX.out.below hb)
    replace BP := Lib.hid (BP.out.below hb)
    replace BR := Lib.hid (BR.out.below hb)
    replace BB := Lib.hid (BB.out.trans (hb.mono BB.out.size))
    replace zz := Nat.le_trans zz hb.size
    obtain ⟨A1, d1, rfl, _⟩ := prow_list hr
    clear hr hb
    obtain ⟨_, s0, s1, s2, s3, s4, s5, sf⟩ := BR.out
    have sf0 := sf 0
    have sf1 := sf 1
    have sf2 := sf 2
    have sf3 := sf 3
    have sf4 := sf 4
    have sf5 := sf 5
    clear sf
    go_wp2
    refine bodyPost_ret (v := .tuple #[slv Sl.none adsNone, .int .i64 er]) (by simp [results, Tryd.results18, go_sem, slv, Sl.none, adsNone, s0, s1, s2, s3, s4, s5, sf0, sf1, sf2, sf3, sf4, sf5]) rfl ?_
    rw [V.out]
    exact ⟨_, rfl, (none_own _ _).1, (none_own w 0).2.1, (none_own _ _).2.2, below_put6 BB.out (by omega) _ _ _ _ _ _⟩
  case pos =>
    obtain ⟨hm, x, y, rfl, rfl, hxy, hy⟩ := Ly.pairs_parts h0
    have E := Ly.with_e h0 k
    have FT := may_fit hm hok hs
    have LN := Ly.of_len s x y
    have l2 := hs.keys
    rw [Ly.pairsV_ok h0, h0] at CP
    by_cases hfull : ((s.of x y).length : Int) = (y : Int) - (x : Int)
    · rw [if_pos hfull] at E
      have V := Lib.hid (Ly.with_no (s := s) (a := x) (b := y) (k := k) (p := (p1, p2)) (by rw [E]; decide))
      rw [E]
      have k1 : (((s.of x y).length : Int) == (y : Int) - (x : Int)) = true := by simp [hfull]
      clear h hok hs h0 hm E FT hfull
      generalize s.of x y = ps at *
      unfold slv at CP ⊢
      go_enter Tryd.func18, Tryd.ntmps18
      go_wp2_with fail
      rw [← hW0]
      clear hW0
      obtain ⟨_, q0, q1, q2, q3, q4, q5, _⟩ := BX.out
      first | done | skip
      go_wp2_with fail
      refine (CP.out W0 (HH.out.below BB.out)).mono ?_
      rintro e w1 ⟨v, rfl, hr, hb⟩
      clear q0 q1 q2 q3 q4 q5
      replace BX := Lib.hid (BX.out.below hb)
      replace BP := Lib.hid (BP.out.below hb)
      replace BR := Lib.hid (BR.out.below hb)
      replace BB := Lib.hid (BB.out.trans (hb.mono BB.out.size))
      replace zz := Nat.le_trans zz hb.size
      obtain ⟨A1, d1, rfl, _⟩ := prow_list hr
      clear hr hb
      obtain ⟨_, s0, s1, s2, s3, s4, s5, sf⟩ := BR.out
      have sf0 := sf 0
      have sf1 := sf 1
      have sf2 := sf 2
      have sf3 := sf 3
      have sf4 := sf 4
      have sf5 := sf 5
      clear sf
      go_wp2
      refine bodyPost_ret (v := .tuple #[slv Sl.none adsNone, .int .i64 9]) (by simp [results, Tryd.results18, go_sem, slv, Sl.none, adsNone, s0, s1, s2, s3, s4, s5, sf0, sf1, sf2, sf3, sf4, sf5]) rfl ?_
      rw [V.out]
      exact ⟨_, rfl, (none_own _ _).1, (none_own w 0).2.1, (none_own _ _).2.2, below_put6 BB.out (by omega) _ _ _ _ _ _⟩
    · rw [if_neg hfull] at E
      have k1 : (((s.of x y).length : Int) == (y : Int) - (x : Int)) = false := by simpa using hfull
      by_cases hk0 : k < 0
      · rw [if_neg (by omega)] at E
        have V := Lib.hid (Ly.with_no (s := s) (a := x) (b := y) (k := k) (p := (p1, p2)) (by rw [E]; decide))
        rw [E]
        clear h hok hs h0 hm E FT hfull
        generalize s.of x y = ps at *
        unfold slv at CP ⊢
        go_enter Tryd.func18, Tryd.ntmps18
        go_wp2_with fail
        rw [← hW0]
        clear hW0
        obtain ⟨_, q0, q1, q2, q3, q4, q5, _⟩ := BX.out
        first | done | skip
        go_wp2_with fail
        refine (CP.out W0 (HH.out.below BB.out)).mono ?_
        rintro e w1 ⟨v, rfl, hr, hb⟩
        clear q0 q1 q2 q3 q4 q5
        replace BX := Lib.hid (BX.out.below hb)
        replace BP := Lib.hid (BP.out.below hb)
        replace BR := Lib.hid (BR.out.below hb)
        replace BB := Lib.hid (BB.out.trans (hb.mono BB.out.size))
        replace zz := Nat.le_trans zz hb.size
        obtain ⟨A1, d1, rfl, _⟩ := prow_list hr
        clear hr hb
        obtain ⟨_, s0, s1, s2, s3, s4, s5, sf⟩ := BR.out
        have sf0 := sf 0
        have sf1 := sf 1
        have sf2 := sf 2
        have sf3 := sf 3
        have sf4 := sf 4
        have sf5 := sf 5
        clear sf
        go_wp2
        refine bodyPost_ret (v := .tuple #[slv Sl.none adsNone, .int .i64 2]) (by simp [results, Tryd.results18, go_sem, slv, Sl.none, adsNone, s0, s1, s2, s3, s4, s5, sf0, sf1, sf2, sf3, sf4, sf5]) rfl ?_
        rw [V.out]
        exact ⟨_, rfl, (none_own _ _).1, (none_own w 0).2.1, (none_own _ _).2.2, below_put6 BB.out (by omega) _ _ _ _ _ _⟩
      · by_cases hk1 : ((s.of x y).length : Int) < k
        · rw [if_neg (by omega)] at E
          have V := Lib.hid (Ly.with_no (s := s) (a := x) (b := y) (k := k) (p := (p1, p2)) (by rw [E]; decide))
          rw [E]
          clear h hok hs h0 hm E FT hfull
          generalize s.of x y = ps at *
          unfold slv at CP ⊢
          go_enter Tryd.func18, Tryd.ntmps18
          go_wp2_with fail
          rw [← hW0]
          clear hW0
          obtain ⟨_, q0, q1, q2, q3, q4, q5, _⟩ := BX.out
          first | done | skip
          go_wp2_with fail
          refine (CP.out W0 (HH.out.below BB.out)).mono ?_
          rintro e w1 ⟨v, rfl, hr, hb⟩
          clear q0 q1 q2 q3 q4 q5
          replace BX := Lib.hid (BX.out.below hb)
          replace BP := Lib.hid (BP.out.below hb)
          replace BR := Lib.hid (BR.out.below hb)
          replace BB := Lib.hid (BB.out.trans (hb.mono BB.out.size))
          replace zz := Nat.le_trans zz hb.size
          obtain ⟨A1, d1, rfl, _⟩ := prow_list hr
          clear hr hb
          obtain ⟨_, s0, s1, s2, s3, s4, s5, sf⟩ := BR.out
          have sf0 := sf 0
          have sf1 := sf 1
          have sf2 := sf 2
          have sf3 := sf 3
          have sf4 := sf 4
          have sf5 := sf 5
          clear sf
          go_wp2
          refine bodyPost_ret (v := .tuple #[slv Sl.none adsNone, .int .i64 2]) (by simp [results, Tryd.results18, go_sem, slv, Sl.none, adsNone, s0, s1, s2, s3, s4, s5, sf0, sf1, sf2, sf3, sf4, sf5]) rfl ?_
          rw [V.out]
          exact ⟨_, rfl, (none_own _ _).1, (none_own w 0).2.1, (none_own _ _).2.2, below_put6 BB.out (by omega) _ _ _ _ _ _⟩
        · rw [if_pos (by omega)] at E
          obtain ⟨m, rfl⟩ : ∃ m : Nat, k = m := ⟨k.toNat, by omega⟩
          have V := Lib.hid (Ly.with_s (p := (p1, p2)) E)
          rw [E]
          have LA := Ly.among_length (s.of x y) m (p1, p2)
          have CS := Lib.hid (show ∀ W A c, Held W s a → PLst W A (Ly.among (s.of x y) m (p1, p2)) → Calls Tryd.prog 34 #[.agg #[.int .i64 s.seg, .slice a.w s.words.length a.cw, .slice a.k s.keys.length a.ck, .slice a.v s.vals.length a.cv, .slice a.c s.counts.length a.cc, .int .u64 (s.laid : Int)], .int .i64 (x : Int), .int .i64 (y : Int), .slice A (Ly.among (s.of x y) m (p1, p2)).length c] W (SPost (Ly.withS s x y m (p1, p2)) W) from fun W A c g1 g2 => by
            rw [V.out]
            exact r8Spread s a x y A c (Ly.among (s.of x y) m (p1, p2)) W g1 FT hy (by omega) g2 (Ly.among_in64 (of_in64 hok x y) m h1 h2))
          have hKn : m ≤ (s.of x y).length := by omega
          clear h hok hs h0 hm E FT hfull V LA
          generalize Ly.withS s x y m (p1, p2) = t at *
          generalize s.of x y = ps at *
          unfold slv at CP ⊢
          go_enter Tryd.func18, Tryd.ntmps18
          go_wp2_with fail
          rw [← hW0]
          clear hW0
          obtain ⟨_, q0, q1, q2, q3, q4, q5, _⟩ := BX.out
          first | done | skip
          go_wp2_with fail
          refine (CP.out W0 (HH.out.below BB.out)).mono ?_
          rintro e w1 ⟨v, rfl, hr, hb⟩
          clear q0 q1 q2 q3 q4 q5
          replace BX := Lib.hid (BX.out.below hb)
          replace BP := Lib.hid (BP.out.below hb)
          replace BR := Lib.hid (BR.out.below hb)
          replace BB := Lib.hid (BB.out.trans (hb.mono BB.out.size))
          replace zz := Nat.le_trans zz hb.size
          rcases prow_cases hr with ⟨rfl, rfl⟩ | ⟨g, c1, rfl, hP, hc1⟩
          · obtain rfl : m = 0 := by simp at hKn; exact hKn
            have hP : PLst w1 none [] := Or.inl rfl
            dsimp only [List.length_nil] at *
            have P1 := Lib.hid hP
            clear hr hb hP
            go_upto_region 8 with (fail)
            refine wp_region_held_drew (S := (fun w' => (w'.cell? ⟨w.heap.size, 0, none⟩ = some (.int .i64 s.seg) ∧ w'.cell? ⟨w.heap.size, 1, none⟩ = some (.slice a.w s.words.length a.cw) ∧ w'.cell? ⟨w.heap.size, 2, none⟩ = some (.slice a.k s.keys.length a.ck) ∧ w'.cell? ⟨w.heap.size, 3, none⟩ = some (.slice a.v s.vals.length a.cv) ∧ w'.cell? ⟨w.heap.size, 4, none⟩ = some (.slice a.c s.counts.length a.cc) ∧ w'.cell? ⟨w.heap.size, 5, none⟩ = some (.int .u64 (s.laid : Int))) ∧ w'.cell? ⟨w.heap.size + 1, 0, none⟩ = some (.int .i64 p1) ∧ w'.cell? ⟨w.heap.size + 1, 1, none⟩ = some (.int .i64 p2))) (by kernel_rfl) (⟨(BX.out.below ((Below.refl _ _).drew)).cellAt, (BP.out.below ((Below.refl _ _).drew)).c0, (BP.out.below ((Below.refl _ _).drew)).c1⟩) (fun hHeld => ?_)
            refine wpAnyH_take (i := 0) (oi := Oper.mk _ _ _ _ _ _) (v := ?va0) rfl (by kernel_rfl) (by kernel_rfl) (by kernel_rfl) (fun _ _ _ h => h) (Or.inl ⟨by rfl, ?hya0⟩) (by assumption) ?resta0
            case hya0 =>
              intro w0 hSw
              try dsimp only at hSw
              go_simp
              all_goals with_reducible rfl
            try simp only [Act.put, List.setIfInBounds_toArray, List.set_cons_zero, List.set_cons_succ]
            refine wpAnyH_take (i := 1) (oi := Oper.mk _ _ _ _ _ _) (v := ?va1) rfl (by kernel_rfl) (by kernel_rfl) (by kernel_rfl) (fun _ _ _ h => h) (Or.inl ⟨by rfl, ?hya1⟩) (by assumption) ?resta1
            case hya1 =>
              intro w0 hSw
              try dsimp only at hSw
              go_simp
              all_goals with_reducible rfl
            try simp only [Act.put, List.setIfInBounds_toArray, List.set_cons_zero, List.set_cons_succ]
            refine wpAnyH_take (i := 2) (oi := Oper.mk _ _ _ _ _ _) (v := ?va2) rfl (by kernel_rfl) (by kernel_rfl) (by kernel_rfl) (fun _ _ _ h => h) (Or.inl ⟨by rfl, ?hya2⟩) (by assumption) ?resta2
            case hya2 =>
              intro w0 hSw
              try dsimp only at hSw
              go_simp
              all_goals with_reducible rfl
            try simp only [Act.put, List.setIfInBounds_toArray, List.set_cons_zero, List.set_cons_succ]
            refine wpAnyH_take (i := 3) (oi := Oper.mk _ _ _ _ _ _) (v := ?va3) rfl (by kernel_rfl) (by kernel_rfl) (by kernel_rfl) (fun _ _ _ h => h) (Or.inl ⟨by rfl, ?hya3⟩) (by assumption) ?resta3
            case hya3 =>
              intro w0 hSw
              try dsimp only at hSw
              go_simp
              all_goals with_reducible rfl
            try simp only [Act.put, List.setIfInBounds_toArray, List.set_cons_zero, List.set_cons_succ]
            refine wpAnyH_take (i := 4) (oi := Oper.mk _ _ _ _ _ _) (v := ?va4) rfl (by kernel_rfl) (by kernel_rfl) (by kernel_rfl) (fun _ _ _ h => h) (Or.inl ⟨by rfl, ?hya4⟩) (by assumption) ?resta4
            case hya4 =>
              intro w0 hSw
              try dsimp only at hSw
              go_simp
              all_goals with_reducible rfl
            try simp only [Act.put, List.setIfInBounds_toArray, List.set_cons_zero, List.set_cons_succ]
            refine wpAnyH_take (i := 5) (oi := Oper.mk _ _ _ _ _ _) (v := ?va5) rfl (by kernel_rfl) (by kernel_rfl) (by kernel_rfl) (fun _ _ _ h => h) (Or.inl ⟨by rfl, ?hya5⟩) (by assumption) ?resta5
            case hya5 =>
              intro w0 hSw
              try dsimp only at hSw
              go_simp
              all_goals with_reducible rfl
            try simp only [Act.put, List.setIfInBounds_toArray, List.set_cons_zero, List.set_cons_succ]
            refine wpAnyH_ready (rs := [6]) (by kernel_rfl) (by simp) ?_
            refine AllReadyH.cons (o := Oper.mk _ _ _ _ _ _) rfl (fun K hK => ?_) AllReadyH.nil
            go_simp
            have dr := (Below.refl w1.heap.size w1).drew
            replace BX := Lib.hid (BX.out.below dr)
            replace BP := Lib.hid (BP.out.below dr)
            replace BR := Lib.hid (BR.out.below dr)
            replace BB := Lib.hid (BB.out.trans (dr.mono BB.out.size))
            replace P1 := Lib.hid (P1.out.below dr)
            replace zz := Nat.le_trans zz dr.size
            clear dr
            refine (r8AmongNil (p1, p2) _).mono ?_
            rintro e W5 ⟨v, rfl, hr, hb⟩
            obtain ⟨A5, d5, rfl, hP5⟩ := prow_list hr
            have P5 := Lib.hid hP5
            replace BX := Lib.hid (BX.out.below hb)
            replace BP := Lib.hid (BP.out.below hb)
            replace BR := Lib.hid (BR.out.below hb)
            replace BB := Lib.hid (BB.out.trans (hb.mono BB.out.size))
            replace zz := Nat.le_trans zz hb.size
            clear hr hb hP5
            try (go_simp)
            refine hK.out _ _ (⟨BX.out.cellAt, BP.out.c0, BP.out.c1⟩) (fun hHelda1 => ?_)
            clear hK K hHeld
            try simp only [Act.put, List.setIfInBounds_toArray, List.set_cons_zero, List.set_cons_succ]
            refine wpAnyH_ready (rs := [7]) (by kernel_rfl) (by simp) ?_
            refine AllReadyH.cons (o := Oper.mk _ _ _ _ _ _) rfl (fun K hK => ?_) AllReadyH.nil
            go_simp
            refine (CS.out W5 A5 d5 (HH.out.below BB.out) P5.out).mono ?_
            rintro e W6 ⟨a3, rfl, own, sep, lies, hb⟩
            replace BX := Lib.hid (BX.out.below hb)
            replace BP := Lib.hid (BP.out.below hb)
            replace BR := Lib.hid (BR.out.below hb)
            replace BB := Lib.hid (BB.out.trans (hb.mono BB.out.size))
            have FIN := Lib.hid (put6_fin (r := w.heap.size + 2) own sep lies BB.out (by omega) (by omega))
            replace zz := Nat.le_trans zz hb.size
            clear own sep lies hb
            obtain ⟨_, s0, s1, s2, s3, s4, s5, sf⟩ := BR.out
            have sf0 := sf 0
            have sf1 := sf 1
            have sf2 := sf 2
            have sf3 := sf 3
            have sf4 := sf 4
            have sf5 := sf 5
            clear sf
            unfold slv
            try (go_simp)
            refine hK.out _ _ (⟨BX.out.cellAt, BP.out.c0, BP.out.c1⟩) (fun hHelda2 => ?_)
            clear hK K hHelda1
            try simp only [Act.put, List.setIfInBounds_toArray, List.set_cons_zero, List.set_cons_succ]
            refine wpAnyH_ready (rs := [8]) (by kernel_rfl) (by simp) ?_
            refine AllReadyH.cons (o := Oper.mk _ _ _ _ _ _) rfl (fun K hK => ?_) AllReadyH.nil
            go_simp
            skip
            refine hK.out _ _ (⟨(BX.out.put6o (g' := w.heap.size + 2) (by omega) _ _ _ _ _ _).cellAt, (BP.out.put6 (g' := w.heap.size + 2) (by omega) _ _ _ _ _ _).c0, (BP.out.put6 (g' := w.heap.size + 2) (by omega) _ _ _ _ _ _).c1⟩) (fun hHelda3 => ?_)
            clear hK K hHelda2
            try simp only [Act.put, List.setIfInBounds_toArray, List.set_cons_zero, List.set_cons_succ]
            refine wpAnyH_take (i := 9) (oi := Oper.mk _ _ _ _ _ _) (v := ?va9) rfl (by kernel_rfl) (by kernel_rfl) (by kernel_rfl) (fun _ _ _ h => h) (Or.inl ⟨by rfl, ?hya9⟩) (by assumption) ?resta9
            case hya9 =>
              intro w0 hSw
              try dsimp only at hSw
              go_simp
              all_goals with_reducible rfl
            try simp only [Act.put, List.setIfInBounds_toArray, List.set_cons_zero, List.set_cons_succ]
            refine wpAnyH_done (by kernel_rfl) ?_ _
            go_wp2
            refine bodyPost_ret (v := .tuple #[slv t a3, .int .i64 0]) (by simp [results, Tryd.results18, go_sem, slv, s0, s1, s2, s3, s4, s5, sf0, sf1, sf2, sf3, sf4, sf5]) rfl ?_
            exact ⟨_, rfl, FIN.out _ _ _ _ _ _⟩
          ·
            have P1 := Lib.hid hP
            clear hr hb hP
            go_upto_region 8 with (fail)
            refine wp_region_held_drew (S := (fun w' => (w'.cell? ⟨w.heap.size, 0, none⟩ = some (.int .i64 s.seg) ∧ w'.cell? ⟨w.heap.size, 1, none⟩ = some (.slice a.w s.words.length a.cw) ∧ w'.cell? ⟨w.heap.size, 2, none⟩ = some (.slice a.k s.keys.length a.ck) ∧ w'.cell? ⟨w.heap.size, 3, none⟩ = some (.slice a.v s.vals.length a.cv) ∧ w'.cell? ⟨w.heap.size, 4, none⟩ = some (.slice a.c s.counts.length a.cc) ∧ w'.cell? ⟨w.heap.size, 5, none⟩ = some (.int .u64 (s.laid : Int))) ∧ w'.cell? ⟨w.heap.size + 1, 0, none⟩ = some (.int .i64 p1) ∧ w'.cell? ⟨w.heap.size + 1, 1, none⟩ = some (.int .i64 p2))) (by kernel_rfl) (⟨(BX.out.below ((Below.refl _ _).drew)).cellAt, (BP.out.below ((Below.refl _ _).drew)).c0, (BP.out.below ((Below.refl _ _).drew)).c1⟩) (fun hHeld => ?_)
            refine wpAnyH_take (i := 0) (oi := Oper.mk _ _ _ _ _ _) (v := ?vb0) rfl (by kernel_rfl) (by kernel_rfl) (by kernel_rfl) (fun _ _ _ h => h) (Or.inl ⟨by rfl, ?hyb0⟩) (by assumption) ?restb0
            case hyb0 =>
              intro w0 hSw
              try dsimp only at hSw
              go_simp
              all_goals with_reducible rfl
            try simp only [Act.put, List.setIfInBounds_toArray, List.set_cons_zero, List.set_cons_succ]
            refine wpAnyH_take (i := 1) (oi := Oper.mk _ _ _ _ _ _) (v := ?vb1) rfl (by kernel_rfl) (by kernel_rfl) (by kernel_rfl) (fun _ _ _ h => h) (Or.inl ⟨by rfl, ?hyb1⟩) (by assumption) ?restb1
            case hyb1 =>
              intro w0 hSw
              try dsimp only at hSw
              go_simp
              all_goals with_reducible rfl
            try simp only [Act.put, List.setIfInBounds_toArray, List.set_cons_zero, List.set_cons_succ]
            refine wpAnyH_take (i := 2) (oi := Oper.mk _ _ _ _ _ _) (v := ?vb2) rfl (by kernel_rfl) (by kernel_rfl) (by kernel_rfl) (fun _ _ _ h => h) (Or.inl ⟨by rfl, ?hyb2⟩) (by assumption) ?restb2
            case hyb2 =>
              intro w0 hSw
              try dsimp only at hSw
              go_simp
              all_goals with_reducible rfl
            try simp only [Act.put, List.setIfInBounds_toArray, List.set_cons_zero, List.set_cons_succ]
            refine wpAnyH_take (i := 3) (oi := Oper.mk _ _ _ _ _ _) (v := ?vb3) rfl (by kernel_rfl) (by kernel_rfl) (by kernel_rfl) (fun _ _ _ h => h) (Or.inl ⟨by rfl, ?hyb3⟩) (by assumption) ?restb3
            case hyb3 =>
              intro w0 hSw
              try dsimp only at hSw
              go_simp
              all_goals with_reducible rfl
            try simp only [Act.put, List.setIfInBounds_toArray, List.set_cons_zero, List.set_cons_succ]
            refine wpAnyH_take (i := 4) (oi := Oper.mk _ _ _ _ _ _) (v := ?vb4) rfl (by kernel_rfl) (by kernel_rfl) (by kernel_rfl) (fun _ _ _ h => h) (Or.inl ⟨by rfl, ?hyb4⟩) (by assumption) ?restb4
            case hyb4 =>
              intro w0 hSw
              try dsimp only at hSw
              go_simp
              all_goals with_reducible rfl
            try simp only [Act.put, List.setIfInBounds_toArray, List.set_cons_zero, List.set_cons_succ]
            refine wpAnyH_take (i := 5) (oi := Oper.mk _ _ _ _ _ _) (v := ?vb5) rfl (by kernel_rfl) (by kernel_rfl) (by kernel_rfl) (fun _ _ _ h => h) (Or.inl ⟨by rfl, ?hyb5⟩) (by assumption) ?restb5
            case hyb5 =>
              intro w0 hSw
              try dsimp only at hSw
              go_simp
              all_goals with_reducible rfl
            try simp only [Act.put, List.setIfInBounds_toArray, List.set_cons_zero, List.set_cons_succ]
            refine wpAnyH_ready (rs := [6]) (by kernel_rfl) (by simp) ?_
            refine AllReadyH.cons (o := Oper.mk _ _ _ _ _ _) rfl (fun K hK => ?_) AllReadyH.nil
            go_simp
            have dr := (Below.refl w1.heap.size w1).drew
            replace BX := Lib.hid (BX.out.below dr)
            replace BP := Lib.hid (BP.out.below dr)
            replace BR := Lib.hid (BR.out.below dr)
            replace BB := Lib.hid (BB.out.trans (dr.mono BB.out.size))
            replace P1 := Lib.hid (P1.out.below dr)
            replace zz := Nat.le_trans zz dr.size
            clear dr
            refine (r8Among g 0 c1 ps m (p1, p2) _ P1.out hKn (by omega) hc1).mono ?_
            rintro e W5 ⟨v, rfl, hr, hb⟩
            obtain ⟨A5, d5, rfl, hP5⟩ := prow_list hr
            have P5 := Lib.hid hP5
            replace BX := Lib.hid (BX.out.below hb)
            replace BP := Lib.hid (BP.out.below hb)
            replace BR := Lib.hid (BR.out.below hb)
            replace BB := Lib.hid (BB.out.trans (hb.mono BB.out.size))
            replace zz := Nat.le_trans zz hb.size
            clear hr hb hP5
            try (go_simp)
            refine hK.out _ _ (⟨BX.out.cellAt, BP.out.c0, BP.out.c1⟩) (fun hHeldb1 => ?_)
            clear hK K hHeld
            try simp only [Act.put, List.setIfInBounds_toArray, List.set_cons_zero, List.set_cons_succ]
            refine wpAnyH_ready (rs := [7]) (by kernel_rfl) (by simp) ?_
            refine AllReadyH.cons (o := Oper.mk _ _ _ _ _ _) rfl (fun K hK => ?_) AllReadyH.nil
            go_simp
            refine (CS.out W5 A5 d5 (HH.out.below BB.out) P5.out).mono ?_
            rintro e W6 ⟨a3, rfl, own, sep, lies, hb⟩
            replace BX := Lib.hid (BX.out.below hb)
            replace BP := Lib.hid (BP.out.below hb)
            replace BR := Lib.hid (BR.out.below hb)
            replace BB := Lib.hid (BB.out.trans (hb.mono BB.out.size))
            have FIN := Lib.hid (put6_fin (r := w.heap.size + 2) own sep lies BB.out (by omega) (by omega))
            replace zz := Nat.le_trans zz hb.size
            clear own sep lies hb
            obtain ⟨_, s0, s1, s2, s3, s4, s5, sf⟩ := BR.out
            have sf0 := sf 0
            have sf1 := sf 1
            have sf2 := sf 2
            have sf3 := sf 3
            have sf4 := sf 4
            have sf5 := sf 5
            clear sf
            unfold slv
            try (go_simp)
            refine hK.out _ _ (⟨BX.out.cellAt, BP.out.c0, BP.out.c1⟩) (fun hHeldb2 => ?_)
            clear hK K hHeldb1
            try simp only [Act.put, List.setIfInBounds_toArray, List.set_cons_zero, List.set_cons_succ]
            refine wpAnyH_ready (rs := [8]) (by kernel_rfl) (by simp) ?_
            refine AllReadyH.cons (o := Oper.mk _ _ _ _ _ _) rfl (fun K hK => ?_) AllReadyH.nil
            go_simp
            skip
            refine hK.out _ _ (⟨(BX.out.put6o (g' := w.heap.size + 2) (by omega) _ _ _ _ _ _).cellAt, (BP.out.put6 (g' := w.heap.size + 2) (by omega) _ _ _ _ _ _).c0, (BP.out.put6 (g' := w.heap.size + 2) (by omega) _ _ _ _ _ _).c1⟩) (fun hHeldb3 => ?_)
            clear hK K hHeldb2
            try simp only [Act.put, List.setIfInBounds_toArray, List.set_cons_zero, List.set_cons_succ]
            refine wpAnyH_take (i := 9) (oi := Oper.mk _ _ _ _ _ _) (v := ?vb9) rfl (by kernel_rfl) (by kernel_rfl) (by kernel_rfl) (fun _ _ _ h => h) (Or.inl ⟨by rfl, ?hyb9⟩) (by assumption) ?restb9
            case hyb9 =>
              intro w0 hSw
              try dsimp only at hSw
              go_simp
              all_goals with_reducible rfl
            try simp only [Act.put, List.setIfInBounds_toArray, List.set_cons_zero, List.set_cons_succ]
            refine wpAnyH_done (by kernel_rfl) ?_ _
            go_wp2
            refine bodyPost_ret (v := .tuple #[slv t a3, .int .i64 0]) (by simp [results, Tryd.results18, go_sem, slv, s0, s1, s2, s3, s4, s5, sf0, sf1, sf2, sf3, sf4, sf5]) rfl ?_
            exact ⟨_, rfl, FIN.out _ _ _ _ _ _⟩
end Go.Proofs.YtmmkaabefofdeaaDoor
