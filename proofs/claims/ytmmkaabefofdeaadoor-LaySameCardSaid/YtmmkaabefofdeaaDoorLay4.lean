/- What package lay's With and Into return: new memory. -/
import Derived.Test.YtmmkaabefofdeaaDoorLayB4
import Derived.Test.YtmmkaabefofdeaaDoorM15
namespace Go.Proofs.YtmmkaabefofdeaaDoor
open Go.RowKit
set_option linter.unusedVariables false
set_option linter.unusedSimpArgs false

set_option maxRecDepth 100000 in
set_option maxHeartbeats 8000000 in
theorem yWith (s : Sl) (a : Ads) (lo hi k p1 p2 : Int) (w : World) (h : Held w s a) (hok : s.Ok) (hs : s.Short) (hT : Tab w) (i1 : In64 lo) (i2 : In64 hi) (i3 : In64 k) (h1 : In64 p1) (h2 : In64 p2) :
    Calls Tryd.prog 9 #[slv s a, .int .i64 lo, .int .i64 hi, .int .i64 k, .agg #[.int .i64 p1, .int .i64 p2]] w (Ans (Ly.withS s lo hi k (p1, p2)) (Ly.withE s lo hi k) w) := by
  have HH := Lib.hid h
  have HT := Lib.hid hT
  have CP := Lib.hid (fun W (hb : Below w.heap.size w W) => cPairs s a lo hi W (HH.out.below hb) hok hs (HT.out.below hb))
  obtain ⟨W0, hW0⟩ : ∃ W0, W0 = ((w.alloc (.cells #[.int .i64 s.seg, .slice a.w s.words.length a.cw, .slice a.k s.keys.length a.ck, .slice a.v s.vals.length a.cv, .slice a.c s.counts.length a.cc, .int .u64 (s.laid : Int)] 27)).alloc (.cells #[.int .i64 p1, .int .i64 p2] 33)).alloc (.cells #[.int .i64 0, .slice none 0 0, .slice none 0 0, .slice none 0 0, .slice none 0 0, .int .u64 0] 27) := ⟨_, rfl⟩
  have BX := Lib.hid (show Box W0 w.heap.size s a by rw [hW0]; exact ((Box.new w s a 27).below ((Below.refl _ _).alloc (Nat.le_refl _) _)).below ((Below.refl _ _).alloc (Nat.le_refl _) _))
  have BP := Lib.hid (show PBox W0 (w.heap.size + 1) (p1, p2) by rw [hW0]; exact (PBox.second w _ (p1, p2) 33).below ((Below.refl _ _).alloc (Nat.le_refl _) _))
  have BR := Lib.hid (show Box W0 (w.heap.size + 2) Sl.none adsNone by rw [hW0]; exact Box.third w _ _ Sl.none adsNone 27)
  have BB := Lib.hid (show Below w.heap.size w W0 by rw [hW0]; exact (((Below.refl w.heap.size w).alloc (Nat.le_refl _) _).alloc (by simp) _).alloc (by simp; omega) _)
  have zz : w.heap.size + 3 ≤ W0.heap.size := by rw [hW0]; simp
  by_cases h0 : s.pairsE lo hi = 0
  case neg =>
    have E := Lib.hid (Ly.with_bad h0 k)
    have V := Lib.hid (Ly.with_no (s := s) (a := lo) (b := hi) (k := k) (p := (p1, p2)) (by rw [E.out]; exact h0))
    rw [E.out]
    rw [Ly.pairsV_no h0] at CP
    obtain ⟨er, her⟩ : ∃ er, er = s.pairsE lo hi := ⟨_, rfl⟩
    rw [← her] at CP h0 ⊢
    have k1 : (er != 0) = true := by simp [h0]
    clear h hok hs hT her h0 E i1 i2 i3
    unfold slv at CP ⊢
    go_enter Tryd.func9, Tryd.ntmps9
    go_wp2_with fail
    rw [← hW0]
    clear hW0
    refine wp_scope_on 0 rfl ?_
    obtain ⟨_, q0, q1, q2, q3, q4, q5, _⟩ := BX.out
    go_wp2_with fail
    refine (CP.out W0 BB.out).mono ?_
    rintro e w1 ⟨v, rfl, hr, hb⟩
    clear q0 q1 q2 q3 q4 q5
    replace BX := Lib.hid (BX.out.below hb)
    replace BP := Lib.hid (BP.out.below hb)
    replace BR := Lib.hid (BR.out.below hb)
    replace BB := Lib.hid (BB.out.trans (hb.mono BB.out.size))
    replace zz := Nat.le_trans zz hb.size
    obtain ⟨A1, d1, rfl, _⟩ := prow_list hr
    clear hr hb
    obtain ⟨_, s0, s1, s2, s3, s4, s5, sf⟩ := BR.out
    have sf0 := sf 0
    have sf1 := sf 1
    have sf2 := sf 2
    have sf3 := sf 3
    have sf4 := sf 4
    have sf5 := sf 5
    clear sf
    go_wp2
    go_step3
    refine ⟨rfl, ?_⟩
    go_wp2
    simp only [Exit.jump]
    refine bodyPost_ret (v := .tuple #[slv Sl.none adsNone, .int .i64 er]) (by simp [results, Tryd.results9, go_sem, slv, Sl.none, adsNone, s0, s1, s2, s3, s4, s5, sf0, sf1, sf2, sf3, sf4, sf5]) rfl ?_
    rw [V.out]
    exact ⟨_, rfl, (none_own _ _).1, below_put6 BB.out (by omega) _ _ _ _ _ _⟩
  case pos =>
    obtain ⟨hm, x, y, rfl, rfl, hxy, hy⟩ := Ly.pairs_parts h0
    have E := Ly.with_e h0 k
    have LN := Ly.of_len s x y
    have l2 := hs.keys
    rw [Ly.pairsV_ok h0, h0] at CP
    by_cases hfull : ((s.of x y).length : Int) = (y : Int) - (x : Int)
    · rw [if_pos hfull] at E
      have V := Lib.hid (Ly.with_no (s := s) (a := x) (b := y) (k := k) (p := (p1, p2)) (by rw [E]; decide))
      rw [E]
      have k1 : (((s.of x y).length : Int) == (y : Int) - (x : Int)) = true := by simp [hfull]
      clear h hok hs hT h0 hm E hfull i1 i2 i3
      generalize s.of x y = ps at *
      unfold slv at CP ⊢
      go_enter Tryd.func9, Tryd.ntmps9
      go_wp2_with fail
      rw [← hW0]
      clear hW0
      refine wp_scope_on 0 rfl ?_
      obtain ⟨_, q0, q1, q2, q3, q4, q5, _⟩ := BX.out
      go_wp2_with fail
      refine (CP.out W0 BB.out).mono ?_
      rintro e w1 ⟨v, rfl, hr, hb⟩
      clear q0 q1 q2 q3 q4 q5
      replace BX := Lib.hid (BX.out.below hb)
      replace BP := Lib.hid (BP.out.below hb)
      replace BR := Lib.hid (BR.out.below hb)
      replace BB := Lib.hid (BB.out.trans (hb.mono BB.out.size))
      replace zz := Nat.le_trans zz hb.size
      obtain ⟨A1, d1, rfl, _⟩ := prow_list hr
      clear hr hb
      obtain ⟨_, s0, s1, s2, s3, s4, s5, sf⟩ := BR.out
      have sf0 := sf 0
      have sf1 := sf 1
      have sf2 := sf 2
      have sf3 := sf 3
      have sf4 := sf 4
      have sf5 := sf 5
      clear sf
      go_wp2
      go_step3
      refine ⟨rfl, ?_⟩
      go_wp2
      simp only [Exit.jump]
      refine bodyPost_ret (v := .tuple #[slv Sl.none adsNone, .int .i64 9]) (by simp [results, Tryd.results9, go_sem, slv, Sl.none, adsNone, s0, s1, s2, s3, s4, s5, sf0, sf1, sf2, sf3, sf4, sf5]) rfl ?_
      rw [V.out]
      exact ⟨_, rfl, (none_own _ _).1, below_put6 BB.out (by omega) _ _ _ _ _ _⟩
    · rw [if_neg hfull] at E
      have k1 : (((s.of x y).length : Int) == (y : Int) - (x : Int)) = false := by simpa using hfull
      by_cases hk0 : k < 0
      · rw [if_neg (by omega)] at E
        have V := Lib.hid (Ly.with_no (s := s) (a := x) (b := y) (k := k) (p := (p1, p2)) (by rw [E]; decide))
        rw [E]
        clear h hok hs hT h0 hm E hfull i1 i2 i3
        generalize s.of x y = ps at *
        unfold slv at CP ⊢
        go_enter Tryd.func9, Tryd.ntmps9
        go_wp2_with fail
        rw [← hW0]
        clear hW0
        refine wp_scope_on 0 rfl ?_
        obtain ⟨_, q0, q1, q2, q3, q4, q5, _⟩ := BX.out
        go_wp2_with fail
        refine (CP.out W0 BB.out).mono ?_
        rintro e w1 ⟨v, rfl, hr, hb⟩
        clear q0 q1 q2 q3 q4 q5
        replace BX := Lib.hid (BX.out.below hb)
        replace BP := Lib.hid (BP.out.below hb)
        replace BR := Lib.hid (BR.out.below hb)
        replace BB := Lib.hid (BB.out.trans (hb.mono BB.out.size))
        replace zz := Nat.le_trans zz hb.size
        obtain ⟨A1, d1, rfl, _⟩ := prow_list hr
        clear hr hb
        obtain ⟨_, s0, s1, s2, s3, s4, s5, sf⟩ := BR.out
        have sf0 := sf 0
        have sf1 := sf 1
        have sf2 := sf 2
        have sf3 := sf 3
        have sf4 := sf 4
        have sf5 := sf 5
        clear sf
        go_wp2
        go_step3
        refine ⟨rfl, ?_⟩
        go_wp2
        simp only [Exit.jump]
        refine bodyPost_ret (v := .tuple #[slv Sl.none adsNone, .int .i64 2]) (by simp [results, Tryd.results9, go_sem, slv, Sl.none, adsNone, s0, s1, s2, s3, s4, s5, sf0, sf1, sf2, sf3, sf4, sf5]) rfl ?_
        rw [V.out]
        exact ⟨_, rfl, (none_own _ _).1, below_put6 BB.out (by omega) _ _ _ _ _ _⟩
      · by_cases hk1 : ((s.of x y).length : Int) < k
        · rw [if_neg (by omega)] at E
          have V := Lib.hid (Ly.with_no (s := s) (a := x) (b := y) (k := k) (p := (p1, p2)) (by rw [E]; decide))
          rw [E]
          clear h hok hs hT h0 hm E hfull i1 i2 i3
          generalize s.of x y = ps at *
          unfold slv at CP ⊢
          go_enter Tryd.func9, Tryd.ntmps9
          go_wp2_with fail
          rw [← hW0]
          clear hW0
          refine wp_scope_on 0 rfl ?_
          obtain ⟨_, q0, q1, q2, q3, q4, q5, _⟩ := BX.out
          go_wp2_with fail
          refine (CP.out W0 BB.out).mono ?_
          rintro e w1 ⟨v, rfl, hr, hb⟩
          clear q0 q1 q2 q3 q4 q5
          replace BX := Lib.hid (BX.out.below hb)
          replace BP := Lib.hid (BP.out.below hb)
          replace BR := Lib.hid (BR.out.below hb)
          replace BB := Lib.hid (BB.out.trans (hb.mono BB.out.size))
          replace zz := Nat.le_trans zz hb.size
          obtain ⟨A1, d1, rfl, _⟩ := prow_list hr
          clear hr hb
          obtain ⟨_, s0, s1, s2, s3, s4, s5, sf⟩ := BR.out
          have sf0 := sf 0
          have sf1 := sf 1
          have sf2 := sf 2
          have sf3 := sf 3
          have sf4 := sf 4
          have sf5 := sf 5
          clear sf
          go_wp2
          go_step3
          refine ⟨rfl, ?_⟩
          go_wp2
          simp only [Exit.jump]
          refine bodyPost_ret (v := .tuple #[slv Sl.none adsNone, .int .i64 2]) (by simp [results, Tryd.results9, go_sem, slv, Sl.none, adsNone, s0, s1, s2, s3, s4, s5, sf0, sf1, sf2, sf3, sf4, sf5]) rfl ?_
          rw [V.out]
          exact ⟨_, rfl, (none_own _ _).1, below_put6 BB.out (by omega) _ _ _ _ _ _⟩
        · rw [if_pos (by omega)] at E
          obtain ⟨m, rfl⟩ : ∃ m : Nat, k = m := ⟨k.toNat, by omega⟩
          have hkm : m ≤ (s.of x y).length := by omega
          have hnn : (s.of x y).length ≤ 65536 := by omega
          have V := Ly.with_s (p := (p1, p2)) E
          have H64 := Ly.among_in64 (p := (p1, p2)) (of_in64 hok x y) m h1 h2
          have LA := Ly.among_length (s.of x y) m (p1, p2)
          have CS := Lib.hid (show ∀ W A c, Below w.heap.size w W → PLst W A (Ly.among (s.of x y) m (p1, p2)) → Calls Tryd.prog 27 #[.agg #[.int .i64 s.seg, .slice a.w s.words.length a.cw, .slice a.k s.keys.length a.ck, .slice a.v s.vals.length a.cv, .slice a.c s.counts.length a.cc, .int .u64 (s.laid : Int)], .int .i64 (x : Int), .int .i64 (y : Int), .slice A (Ly.among (s.of x y) m (p1, p2)).length c] W (Ans (Ly.withS s x y m (p1, p2)) 0 W) from fun W A c hb h6 => by
            rw [V]
            exact yOver_ok s a x y A c _ W (HH.out.below hb) hok hs (HT.out.below hb) (may_iff.1 hm) (by omega) hy h6 H64)
          rw [E]
          clear h hok hs hT h0 hm E V H64 LA hfull i1 i2 i3
          generalize Ly.withS s x y m (p1, p2) = t at *
          generalize s.of x y = ps at *
          unfold slv at CP ⊢
          go_enter Tryd.func9, Tryd.ntmps9
          go_wp2_with fail
          rw [← hW0]
          clear hW0
          refine wp_scope_on 0 rfl ?_
          obtain ⟨_, q0, q1, q2, q3, q4, q5, _⟩ := BX.out
          go_wp2_with fail
          refine (CP.out W0 BB.out).mono ?_
          rintro e w1 ⟨v, rfl, hr, hb⟩
          clear q0 q1 q2 q3 q4 q5
          replace BX := Lib.hid (BX.out.below hb)
          replace BP := Lib.hid (BP.out.below hb)
          replace BR := Lib.hid (BR.out.below hb)
          replace BB := Lib.hid (BB.out.trans (hb.mono BB.out.size))
          replace zz := Nat.le_trans zz hb.size
          rcases prow_cases hr with ⟨rfl, rfl⟩ | ⟨g, d, rfl, hP, hd⟩
          · obtain rfl : m = 0 := by simpa using hkm
            have hP : PLst w1 none [] := Or.inl rfl
            have CA := Lib.hid (fun W => yAmongNil (p1, p2) W)
            unfold pv at CA
            have P1 := Lib.hid hP
            clear hr hb hP
            go_upto_region 7 with (fail)
            refine wp_region_held_drew (S := (fun w' => (w'.cell? ⟨w.heap.size, 0, none⟩ = some (.int .i64 s.seg) ∧ w'.cell? ⟨w.heap.size, 1, none⟩ = some (.slice a.w s.words.length a.cw) ∧ w'.cell? ⟨w.heap.size, 2, none⟩ = some (.slice a.k s.keys.length a.ck) ∧ w'.cell? ⟨w.heap.size, 3, none⟩ = some (.slice a.v s.vals.length a.cv) ∧ w'.cell? ⟨w.heap.size, 4, none⟩ = some (.slice a.c s.counts.length a.cc) ∧ w'.cell? ⟨w.heap.size, 5, none⟩ = some (.int .u64 (s.laid : Int))) ∧ w'.cell? ⟨w.heap.size + 1, 0, none⟩ = some (.int .i64 p1) ∧ w'.cell? ⟨w.heap.size + 1, 1, none⟩ = some (.int .i64 p2))) (by kernel_rfl) (⟨(BX.out.below ((Below.refl _ _).drew)).cellAt, (BP.out.below ((Below.refl _ _).drew)).c0, (BP.out.below ((Below.refl _ _).drew)).c1⟩) (fun hHeld => ?_)
            refine wpAnyH_take (i := 0) (oi := Oper.mk _ _ _ _ _ _) (v := ?vc0) rfl (by kernel_rfl) (by kernel_rfl) (by kernel_rfl) (fun _ _ _ h => h) (Or.inl ⟨by rfl, ?hyc0⟩) (by assumption) ?restc0
            case hyc0 =>
              intro w0 hSw
              try dsimp only at hSw
              go_simp
              all_goals with_reducible rfl
            try simp only [Act.put, List.setIfInBounds_toArray, List.set_cons_zero, List.set_cons_succ]
            refine wpAnyH_take (i := 1) (oi := Oper.mk _ _ _ _ _ _) (v := ?vc1) rfl (by kernel_rfl) (by kernel_rfl) (by kernel_rfl) (fun _ _ _ h => h) (Or.inl ⟨by rfl, ?hyc1⟩) (by assumption) ?restc1
            case hyc1 =>
              intro w0 hSw
              try dsimp only at hSw
              go_simp
              all_goals with_reducible rfl
            try simp only [Act.put, List.setIfInBounds_toArray, List.set_cons_zero, List.set_cons_succ]
            refine wpAnyH_take (i := 2) (oi := Oper.mk _ _ _ _ _ _) (v := ?vc2) rfl (by kernel_rfl) (by kernel_rfl) (by kernel_rfl) (fun _ _ _ h => h) (Or.inl ⟨by rfl, ?hyc2⟩) (by assumption) ?restc2
            case hyc2 =>
              intro w0 hSw
              try dsimp only at hSw
              go_simp
              all_goals with_reducible rfl
            try simp only [Act.put, List.setIfInBounds_toArray, List.set_cons_zero, List.set_cons_succ]
            refine wpAnyH_take (i := 3) (oi := Oper.mk _ _ _ _ _ _) (v := ?vc3) rfl (by kernel_rfl) (by kernel_rfl) (by kernel_rfl) (fun _ _ _ h => h) (Or.inl ⟨by rfl, ?hyc3⟩) (by assumption) ?restc3
            case hyc3 =>
              intro w0 hSw
              try dsimp only at hSw
              go_simp
              all_goals with_reducible rfl
            try simp only [Act.put, List.setIfInBounds_toArray, List.set_cons_zero, List.set_cons_succ]
            refine wpAnyH_take (i := 4) (oi := Oper.mk _ _ _ _ _ _) (v := ?vc4) rfl (by kernel_rfl) (by kernel_rfl) (by kernel_rfl) (fun _ _ _ h => h) (Or.inl ⟨by rfl, ?hyc4⟩) (by assumption) ?restc4
            case hyc4 =>
              intro w0 hSw
              try dsimp only at hSw
              go_simp
              all_goals with_reducible rfl
            try simp only [Act.put, List.setIfInBounds_toArray, List.set_cons_zero, List.set_cons_succ]
            refine wpAnyH_take (i := 5) (oi := Oper.mk _ _ _ _ _ _) (v := ?vc5) rfl (by kernel_rfl) (by kernel_rfl) (by kernel_rfl) (fun _ _ _ h => h) (Or.inl ⟨by rfl, ?hyc5⟩) (by assumption) ?restc5
            case hyc5 =>
              intro w0 hSw
              try dsimp only at hSw
              go_simp
              all_goals with_reducible rfl
            try simp only [Act.put, List.setIfInBounds_toArray, List.set_cons_zero, List.set_cons_succ]
            refine wpAnyH_ready (rs := [6]) (by kernel_rfl) (by simp) ?_
            refine AllReadyH.cons (o := Oper.mk _ _ _ _ _ _) rfl (fun K hK => ?_) AllReadyH.nil
            go_simp
            have dr := (Below.refl w1.heap.size w1).drew
            replace BX := Lib.hid (BX.out.below dr)
            replace BP := Lib.hid (BP.out.below dr)
            replace BR := Lib.hid (BR.out.below dr)
            replace BB := Lib.hid (BB.out.trans (dr.mono BB.out.size))
            replace P1 := Lib.hid (P1.out.below dr)
            replace zz := Nat.le_trans zz dr.size
            clear dr
            refine (CA.out _).mono ?_
            rintro e W5 ⟨v, rfl, hr, hb⟩
            obtain ⟨A5, d5, rfl, hP5⟩ := prow_list hr
            have P5 := Lib.hid hP5
            replace BX := Lib.hid (BX.out.below hb)
            replace BP := Lib.hid (BP.out.below hb)
            replace BR := Lib.hid (BR.out.below hb)
            replace BB := Lib.hid (BB.out.trans (hb.mono BB.out.size))
            replace zz := Nat.le_trans zz hb.size
            clear hr hb hP5
            try (go_simp)
            refine hK.out _ _ (⟨BX.out.cellAt, BP.out.c0, BP.out.c1⟩) (fun hHeldc1 => ?_)
            clear hK K hHeld
            try simp only [Act.put, List.setIfInBounds_toArray, List.set_cons_zero, List.set_cons_succ]
            refine wpAnyH_ready (rs := [7]) (by kernel_rfl) (by simp) ?_
            refine AllReadyH.cons (o := Oper.mk _ _ _ _ _ _) rfl (fun K hK => ?_) AllReadyH.nil
            go_simp
            refine (CS.out W5 A5 d5 BB.out P5.out).mono ?_
            rintro e W6 ⟨a3, rfl, own, hb⟩
            replace BX := Lib.hid (BX.out.below hb)
            replace BP := Lib.hid (BP.out.below hb)
            replace BR := Lib.hid (BR.out.below hb)
            replace BB := Lib.hid (BB.out.trans (hb.mono BB.out.size))
            have FIN := Lib.hid (ans_put6 (r := w.heap.size + 2) own BB.out (by omega) (by omega))
            replace zz := Nat.le_trans zz hb.size
            clear own hb
            obtain ⟨_, s0, s1, s2, s3, s4, s5, sf⟩ := BR.out
            have sf0 := sf 0
            have sf1 := sf 1
            have sf2 := sf 2
            have sf3 := sf 3
            have sf4 := sf 4
            have sf5 := sf 5
            clear sf
            unfold slv
            try (go_simp)
            refine hK.out _ _ (⟨BX.out.cellAt, BP.out.c0, BP.out.c1⟩) (fun hHeldc2 => ?_)
            clear hK K hHeldc1
            try simp only [Act.put, List.setIfInBounds_toArray, List.set_cons_zero, List.set_cons_succ]
            refine wpAnyH_take (i := 8) (oi := Oper.mk _ _ _ _ _ _) (v := ?vc8) rfl (by kernel_rfl) (by kernel_rfl) (by kernel_rfl) (fun _ _ _ h => h) (Or.inl ⟨by rfl, ?hyc8⟩) (by assumption) ?restc8
            case hyc8 =>
              intro w0 hSw
              try dsimp only at hSw
              go_simp
              all_goals with_reducible rfl
            try simp only [Act.put, List.setIfInBounds_toArray, List.set_cons_zero, List.set_cons_succ]
            refine wpAnyH_take (i := 9) (oi := Oper.mk _ _ _ _ _ _) (v := ?vc9) rfl (by kernel_rfl) (by kernel_rfl) (by kernel_rfl) (fun _ _ _ h => h) (Or.inl ⟨by rfl, ?hyc9⟩) (by assumption) ?restc9
            case hyc9 =>
              intro w0 hSw
              try dsimp only at hSw
              go_simp
              all_goals with_reducible rfl
            try simp only [Act.put, List.setIfInBounds_toArray, List.set_cons_zero, List.set_cons_succ]
            refine wpAnyH_ready (rs := [10]) (by kernel_rfl) (by simp) ?_
            refine AllReadyH.cons (o := Oper.mk _ _ _ _ _ _) rfl (fun K hK => ?_) AllReadyH.nil
            go_simp
            skip
            refine hK.out _ _ (⟨(BX.out.put6o (g' := w.heap.size + 2) (by omega) _ _ _ _ _ _).cellAt, (BP.out.put6 (g' := w.heap.size + 2) (by omega) _ _ _ _ _ _).c0, (BP.out.put6 (g' := w.heap.size + 2) (by omega) _ _ _ _ _ _).c1⟩) (fun hHeldc3 => ?_)
            clear hK K hHeldc2
            try simp only [Act.put, List.setIfInBounds_toArray, List.set_cons_zero, List.set_cons_succ]
            refine wpAnyH_take (i := 11) (oi := Oper.mk _ _ _ _ _ _) (v := ?vc11) rfl (by kernel_rfl) (by kernel_rfl) (by kernel_rfl) (fun _ _ _ h => h) (Or.inl ⟨by rfl, ?hyc11⟩) (by assumption) ?restc11
            case hyc11 =>
              intro w0 hSw
              try dsimp only at hSw
              go_simp
              all_goals with_reducible rfl
            try simp only [Act.put, List.setIfInBounds_toArray, List.set_cons_zero, List.set_cons_succ]
            refine wpAnyH_done (by kernel_rfl) ?_ _
            go_wp2
            simp only [Exit.jump]
            refine bodyPost_ret (v := .tuple #[slv t a3, .int .i64 0]) (by simp [results, Tryd.results9, go_sem, slv, s0, s1, s2, s3, s4, s5, sf0, sf1, sf2, sf3, sf4, sf5]) rfl ?_
            exact ⟨_, rfl, FIN.out _ _ _ _ _ _⟩
          · have CA := Lib.hid (fun W (hW : PLst W (some ⟨g, 0, none⟩) ps) => yAmong g 0 d ps m (p1, p2) W hW hkm hnn hd)
            unfold pv at CA
            have P1 := Lib.hid hP
            clear hr hb hP
            go_upto_region 7 with (fail)
            refine wp_region_held_drew (S := (fun w' => (w'.cell? ⟨w.heap.size, 0, none⟩ = some (.int .i64 s.seg) ∧ w'.cell? ⟨w.heap.size, 1, none⟩ = some (.slice a.w s.words.length a.cw) ∧ w'.cell? ⟨w.heap.size, 2, none⟩ = some (.slice a.k s.keys.length a.ck) ∧ w'.cell? ⟨w.heap.size, 3, none⟩ = some (.slice a.v s.vals.length a.cv) ∧ w'.cell? ⟨w.heap.size, 4, none⟩ = some (.slice a.c s.counts.length a.cc) ∧ w'.cell? ⟨w.heap.size, 5, none⟩ = some (.int .u64 (s.laid : Int))) ∧ w'.cell? ⟨w.heap.size + 1, 0, none⟩ = some (.int .i64 p1) ∧ w'.cell? ⟨w.heap.size + 1, 1, none⟩ = some (.int .i64 p2))) (by kernel_rfl) (⟨(BX.out.below ((Below.refl _ _).drew)).cellAt, (BP.out.below ((Below.refl _ _).drew)).c0, (BP.out.below ((Below.refl _ _).drew)).c1⟩) (fun hHeld => ?_)
            refine wpAnyH_take (i := 0) (oi := Oper.mk _ _ _ _ _ _) (v := ?vd0) rfl (by kernel_rfl) (by kernel_rfl) (by kernel_rfl) (fun _ _ _ h => h) (Or.inl ⟨by rfl, ?hyd0⟩) (by assumption) ?restd0
            case hyd0 =>
              intro w0 hSw
              try dsimp only at hSw
              go_simp
              all_goals with_reducible rfl
            try simp only [Act.put, List.setIfInBounds_toArray, List.set_cons_zero, List.set_cons_succ]
            refine wpAnyH_take (i := 1) (oi := Oper.mk _ _ _ _ _ _) (v := ?vd1) rfl (by kernel_rfl) (by kernel_rfl) (by kernel_rfl) (fun _ _ _ h => h) (Or.inl ⟨by rfl, ?hyd1⟩) (by assumption) ?restd1
            case hyd1 =>
              intro w0 hSw
              try dsimp only at hSw
              go_simp
              all_goals with_reducible rfl
            try simp only [Act.put, List.setIfInBounds_toArray, List.set_cons_zero, List.set_cons_succ]
            refine wpAnyH_take (i := 2) (oi := Oper.mk _ _ _ _ _ _) (v := ?vd2) rfl (by kernel_rfl) (by kernel_rfl) (by kernel_rfl) (fun _ _ _ h => h) (Or.inl ⟨by rfl, ?hyd2⟩) (by assumption) ?restd2
            case hyd2 =>
              intro w0 hSw
              try dsimp only at hSw
              go_simp
              all_goals with_reducible rfl
            try simp only [Act.put, List.setIfInBounds_toArray, List.set_cons_zero, List.set_cons_succ]
            refine wpAnyH_take (i := 3) (oi := Oper.mk _ _ _ _ _ _) (v := ?vd3) rfl (by kernel_rfl) (by kernel_rfl) (by kernel_rfl) (fun _ _ _ h => h) (Or.inl ⟨by rfl, ?hyd3⟩) (by assumption) ?restd3
            case hyd3 =>
              intro w0 hSw
              try dsimp only at hSw
              go_simp
              all_goals with_reducible rfl
            try simp only [Act.put, List.setIfInBounds_toArray, List.set_cons_zero, List.set_cons_succ]
            refine wpAnyH_take (i := 4) (oi := Oper.mk _ _ _ _ _ _) (v := ?vd4) rfl (by kernel_rfl) (by kernel_rfl) (by kernel_rfl) (fun _ _ _ h => h) (Or.inl ⟨by rfl, ?hyd4⟩) (by assumption) ?restd4
            case hyd4 =>
              intro w0 hSw
              try dsimp only at hSw
              go_simp
              all_goals with_reducible rfl
            try simp only [Act.put, List.setIfInBounds_toArray, List.set_cons_zero, List.set_cons_succ]
            refine wpAnyH_take (i := 5) (oi := Oper.mk _ _ _ _ _ _) (v := ?vd5) rfl (by kernel_rfl) (by kernel_rfl) (by kernel_rfl) (fun _ _ _ h => h) (Or.inl ⟨by rfl, ?hyd5⟩) (by assumption) ?restd5
            case hyd5 =>
              intro w0 hSw
              try dsimp only at hSw
              go_simp
              all_goals with_reducible rfl
            try simp only [Act.put, List.setIfInBounds_toArray, List.set_cons_zero, List.set_cons_succ]
            refine wpAnyH_ready (rs := [6]) (by kernel_rfl) (by simp) ?_
            refine AllReadyH.cons (o := Oper.mk _ _ _ _ _ _) rfl (fun K hK => ?_) AllReadyH.nil
            go_simp
            have dr := (Below.refl w1.heap.size w1).drew
            replace BX := Lib.hid (BX.out.below dr)
            replace BP := Lib.hid (BP.out.below dr)
            replace BR := Lib.hid (BR.out.below dr)
            replace BB := Lib.hid (BB.out.trans (dr.mono BB.out.size))
            replace P1 := Lib.hid (P1.out.below dr)
            replace zz := Nat.le_trans zz dr.size
            clear dr
            refine (CA.out _ P1.out).mono ?_
            rintro e W5 ⟨v, rfl, hr, hb⟩
            obtain ⟨A5, d5, rfl, hP5⟩ := prow_list hr
            have P5 := Lib.hid hP5
            replace BX := Lib.hid (BX.out.below hb)
            replace BP := Lib.hid (BP.out.below hb)
            replace BR := Lib.hid (BR.out.below hb)
            replace BB := Lib.hid (BB.out.trans (hb.mono BB.out.size))
            replace zz := Nat.le_trans zz hb.size
            clear hr hb hP5
            try (go_simp)
            refine hK.out _ _ (⟨BX.out.cellAt, BP.out.c0, BP.out.c1⟩) (fun hHeldd1 => ?_)
            clear hK K hHeld
            try simp only [Act.put, List.setIfInBounds_toArray, List.set_cons_zero, List.set_cons_succ]
            refine wpAnyH_ready (rs := [7]) (by kernel_rfl) (by simp) ?_
            refine AllReadyH.cons (o := Oper.mk _ _ _ _ _ _) rfl (fun K hK => ?_) AllReadyH.nil
            go_simp
            refine (CS.out W5 A5 d5 BB.out P5.out).mono ?_
            rintro e W6 ⟨a3, rfl, own, hb⟩
            replace BX := Lib.hid (BX.out.below hb)
            replace BP := Lib.hid (BP.out.below hb)
            replace BR := Lib.hid (BR.out.below hb)
            replace BB := Lib.hid (BB.out.trans (hb.mono BB.out.size))
            have FIN := Lib.hid (ans_put6 (r := w.heap.size + 2) own BB.out (by omega) (by omega))
            replace zz := Nat.le_trans zz hb.size
            clear own hb
            obtain ⟨_, s0, s1, s2, s3, s4, s5, sf⟩ := BR.out
            have sf0 := sf 0
            have sf1 := sf 1
            have sf2 := sf 2
            have sf3 := sf 3
            have sf4 := sf 4
            have sf5 := sf 5
            clear sf
            unfold slv
            try (go_simp)
            refine hK.out _ _ (⟨BX.out.cellAt, BP.out.c0, BP.out.c1⟩) (fun hHeldd2 => ?_)
            clear hK K hHeldd1
            try simp only [Act.put, List.setIfInBounds_toArray, List.set_cons_zero, List.set_cons_succ]
            refine wpAnyH_take (i := 8) (oi := Oper.mk _ _ _ _ _ _) (v := ?vd8) rfl (by kernel_rfl) (by kernel_rfl) (by kernel_rfl) (fun _ _ _ h => h) (Or.inl ⟨by rfl, ?hyd8⟩) (by assumption) ?restd8
            case hyd8 =>
              intro w0 hSw
              try dsimp only at hSw
              go_simp
              all_goals with_reducible rfl
            try simp only [Act.put, List.setIfInBounds_toArray, List.set_cons_zero, List.set_cons_succ]
            refine wpAnyH_take (i := 9) (oi := Oper.mk _ _ _ _ _ _) (v := ?vd9) rfl (by kernel_rfl) (by kernel_rfl) (by kernel_rfl) (fun _ _ _ h => h) (Or.inl ⟨by rfl, ?hyd9⟩) (by assumption) ?restd9
            case hyd9 =>
              intro w0 hSw
              try dsimp only at hSw
              go_simp
              all_goals with_reducible rfl
            try simp only [Act.put, List.setIfInBounds_toArray, List.set_cons_zero, List.set_cons_succ]
            refine wpAnyH_ready (rs := [10]) (by kernel_rfl) (by simp) ?_
            refine AllReadyH.cons (o := Oper.mk _ _ _ _ _ _) rfl (fun K hK => ?_) AllReadyH.nil
            go_simp
            skip
            refine hK.out _ _ (⟨(BX.out.put6o (g' := w.heap.size + 2) (by omega) _ _ _ _ _ _).cellAt, (BP.out.put6 (g' := w.heap.size + 2) (by omega) _ _ _ _ _ _).c0, (BP.out.put6 (g' := w.heap.size + 2) (by omega) _ _ _ _ _ _).c1⟩) (fun hHeldd3 => ?_)
            clear hK K hHeldd2
            try simp only [Act.put, List.setIfInBounds_toArray, List.set_cons_zero, List.set_cons_succ]
            refine wpAnyH_take (i := 11) (oi := Oper.mk _ _ _ _ _ _) (v := ?vd11) rfl (by kernel_rfl) (by kernel_rfl) (by kernel_rfl) (fun _ _ _ h => h) (Or.inl ⟨by rfl, ?hyd11⟩) (by assumption) ?restd11
            case hyd11 =>
              intro w0 hSw
              try dsimp only at hSw
              go_simp
              all_goals with_reducible rfl
            try simp only [Act.put, List.setIfInBounds_toArray, List.set_cons_zero, List.set_cons_succ]
            refine wpAnyH_done (by kernel_rfl) ?_ _
            go_wp2
            simp only [Exit.jump]
            refine bodyPost_ret (v := .tuple #[slv t a3, .int .i64 0]) (by simp [results, Tryd.results9, go_sem, slv, s0, s1, s2, s3, s4, s5, sf0, sf1, sf2, sf3, sf4, sf5]) rfl ?_
            exact ⟨_, rfl, FIN.out _ _ _ _ _ _⟩

set_option maxRecDepth 100000 in
set_option maxHeartbeats 8000000 in
theorem yInto (s : Sl) (a : Ads) (size : Int) (al : Option Addr) (cal : Nat) (ps : List (Int × Int)) (w : World) (h : Held w s a) (hok : s.Ok) (hs : s.Short) (hT : Tab w) (hz : In64 size) (hn : ps.length ≤ 65536) (hp : PLst w al ps) (h64 : In64P ps) :
    Calls Tryd.prog 12 #[slv s a, .int .i64 size, .slice al ps.length cal] w (Ans (Ly.intoS s size ps) (Ly.intoE s size ps.length) w) := by
  have HH := Lib.hid h
  have HT := Lib.hid hT
  have HPP := Lib.hid hp
  have CM := Lib.hid (fun W (hb : Below w.heap.size w W) => sCheck s a W (HH.out.below hb) hok hs (HT.out.below hb))
  obtain ⟨W0, hW0⟩ : ∃ W0, W0 = ((w.alloc (.cells #[.int .i64 s.seg, .slice a.w s.words.length a.cw, .slice a.k s.keys.length a.ck, .slice a.v s.vals.length a.cv, .slice a.c s.counts.length a.cc, .int .u64 (s.laid : Int)] 27)).alloc (.cells #[.int .i64 0, .slice none 0 0, .slice none 0 0, .slice none 0 0, .slice none 0 0, .int .u64 0] 27)).alloc (.cells #[.int .i64 0, .slice none 0 0, .slice none 0 0, .slice none 0 0, .slice none 0 0, .int .u64 0] 27) := ⟨_, rfl⟩
  have BX := Lib.hid (show Box W0 w.heap.size s a by rw [hW0]; exact ((Box.new w s a 27).below ((Below.refl _ _).alloc (Nat.le_refl _) _)).below ((Below.refl _ _).alloc (Nat.le_refl _) _))
  have BR := Lib.hid (show Box W0 (w.heap.size + 1) Sl.none adsNone by rw [hW0]; exact (Box.second w _ Sl.none adsNone 27).below ((Below.refl _ _).alloc (Nat.le_refl _) _))
  have BZ := Lib.hid (show Box W0 (w.heap.size + 2) Sl.none adsNone by rw [hW0]; exact Box.third w _ _ Sl.none adsNone 27)
  have BB := Lib.hid (show Below w.heap.size w W0 by rw [hW0]; exact (((Below.refl w.heap.size w).alloc (Nat.le_refl _) _).alloc (by simp) _).alloc (by simp; omega) _)
  have zz : w.heap.size + 3 ≤ W0.heap.size := by rw [hW0]; simp
  cases hm : s.mayB
  · have E := Ly.into_bad hm size ps.length
    have V := Ly.into_no (s := s) (size := size) (l := ps) (by rw [E]; decide)
    rw [E, V]
    rw [show s.chk = 8 by unfold Sl.chk; rw [hm]; rfl] at CM
    clear h hok hs hT hp h64 hm E V hz
    unfold slv at CM ⊢
    go_enter Tryd.func12, Tryd.ntmps12
    go_wp2_with fail
    refine wp_scope_on 0 rfl ?_
    go_upto_region 2 with (fail)
    rw [← hW0]
    clear hW0
    obtain ⟨_, q0, q1, q2, q3, q4, q5, _⟩ := BX.out
    go_wp2_with fail
    refine (CM.out W0 BB.out).mono ?_
    rintro e w1 ⟨rfl, hb⟩
    clear q0 q1 q2 q3 q4 q5
    replace BX := Lib.hid (BX.out.below hb)
    replace BR := Lib.hid (BR.out.below hb)
    replace BZ := Lib.hid (BZ.out.below hb)
    replace BB := Lib.hid (BB.out.trans (hb.mono BB.out.size))
    replace zz := Nat.le_trans zz hb.size
    clear hb
    obtain ⟨_, s0, s1, s2, s3, s4, s5, sf⟩ := BR.out
    have sf0 := sf 0
    have sf1 := sf 1
    have sf2 := sf 2
    have sf3 := sf 3
    have sf4 := sf 4
    have sf5 := sf 5
    clear sf
    go_wp2
    go_step3
    refine ⟨rfl, ?_⟩
    go_wp2
    simp only [Exit.jump]
    refine bodyPost_ret (v := .tuple #[slv Sl.none adsNone, .int .i64 8]) (by simp [results, Tryd.results12, go_sem, slv, Sl.none, adsNone, s0, s1, s2, s3, s4, s5, sf0, sf1, sf2, sf3, sf4, sf5]) rfl ?_
    exact ⟨_, rfl, (none_own _ _).1, below_put6 BB.out (by omega) _ _ _ _ _ _⟩
  · have E := Ly.into_may hm size ps.length
    rw [show s.chk = 0 by unfold Sl.chk; rw [hm]; rfl] at CM
    have CN := Lib.hid (fun W => sNew s.seg size W hok.seg hz)
    cases hf : Sl.fitsB s.seg size
    · rw [hf, Bool.false_and] at E
      have V := Ly.into_no (s := s) (size := size) (l := ps) (by rw [E]; decide)
      rw [E, V, if_neg (by decide)]
      rw [show Sl.newS s.seg size = Sl.none by unfold Sl.newS; rw [hf]; rfl, show Sl.newE s.seg size = 2 by unfold Sl.newE; rw [hf]; rfl] at CN
      clear h hok hs hT hp h64 hm hf E V hz
      unfold slv at CM ⊢
      go_enter Tryd.func12, Tryd.ntmps12
      go_wp2_with fail
      refine wp_scope_on 0 rfl ?_
      go_upto_region 2 with (fail)
      rw [← hW0]
      clear hW0
      obtain ⟨_, q0, q1, q2, q3, q4, q5, _⟩ := BX.out
      go_wp2_with fail
      refine (CM.out W0 BB.out).mono ?_
      rintro e w1 ⟨rfl, hb⟩
      clear q0 q1 q2 q3 q4 q5
      replace BX := Lib.hid (BX.out.below hb)
      replace BR := Lib.hid (BR.out.below hb)
      replace BZ := Lib.hid (BZ.out.below hb)
      replace BB := Lib.hid (BB.out.trans (hb.mono BB.out.size))
      replace zz := Nat.le_trans zz hb.size
      clear hb
      obtain ⟨_, q0, q1, q2, q3, q4, q5, _⟩ := BX.out
      go_wp2_with fail
      refine (CN.out w1).mono ?_
      rintro e w2 ⟨a1, rfl, own, hb⟩
      clear q0 q1 q2 q3 q4 q5
      have zw := zz
      replace BX := Lib.hid (BX.out.below hb)
      replace BR := Lib.hid (BR.out.below hb)
      replace BZ := Lib.hid (BZ.out.below hb)
      replace BB := Lib.hid (BB.out.trans (hb.mono BB.out.size))
      replace zz := Nat.le_trans zz hb.size
      have OW := Lib.hid own
      clear own hb
      obtain ⟨_, t0, t1, t2, t3, t4, t5, tf⟩ := BZ.out
      have tf0 := tf 0
      have tf1 := tf 1
      have tf2 := tf 2
      have tf3 := tf 3
      have tf4 := tf 4
      have tf5 := tf 5
      clear tf
      unfold slv
      go_upto_region 5 with (fail)
      obtain ⟨V1, hV⟩ : ∃ V, V = put6 w2 (w.heap.size + 2) (.int .i64 Sl.none.seg) (.slice a1.w Sl.none.words.length a1.cw) (.slice a1.k Sl.none.keys.length a1.ck) (.slice a1.v Sl.none.vals.length a1.cv) (.slice a1.c Sl.none.counts.length a1.cc) (.int .u64 (Sl.none.laid : Int)) := ⟨_, rfl⟩
      replace BX := Lib.hid (show Box V1 w.heap.size s a by rw [hV]; exact BX.out.put6o (by omega) _ _ _ _ _ _)
      replace BR := Lib.hid (show Box V1 (w.heap.size + 1) Sl.none adsNone by rw [hV]; exact BR.out.put6o (by omega) _ _ _ _ _ _)
      replace BZ := Lib.hid (show Box V1 (w.heap.size + 2) Sl.none a1 by rw [hV]; exact BZ.out.put6 Sl.none a1)
      replace OW := Lib.hid (show Own V1 w1.heap.size Sl.none a1 by rw [hV]; exact ⟨OW.out.words.put6 (by omega) _ _ _ _ _ _, OW.out.keys.put6 (by omega) _ _ _ _ _ _, OW.out.vals.put6 (by omega) _ _ _ _ _ _, OW.out.counts.put6 (by omega) _ _ _ _ _ _, OW.out.caps⟩)
      replace BB := Lib.hid (show Below w.heap.size w V1 by rw [hV]; exact below_put6 BB.out (by omega) _ _ _ _ _ _)
      have zv : w.heap.size + 3 ≤ V1.heap.size := by rw [hV, size_put6]; exact zz
      unfold put6 at hV
      rw [← hV]
      clear hV t0 t1 t2 t3 t4 t5 tf0 tf1 tf2 tf3 tf4 tf5
      obtain ⟨_, s0, s1, s2, s3, s4, s5, sf⟩ := BR.out
      have sf0 := sf 0
      have sf1 := sf 1
      have sf2 := sf 2
      have sf3 := sf 3
      have sf4 := sf 4
      have sf5 := sf 5
      clear sf
      go_wp2
      go_step3
      refine ⟨rfl, ?_⟩
      go_wp2
      simp only [Exit.jump]
      refine bodyPost_ret (v := .tuple #[slv Sl.none adsNone, .int .i64 2]) (by simp [results, Tryd.results12, go_sem, slv, Sl.none, adsNone, s0, s1, s2, s3, s4, s5, sf0, sf1, sf2, sf3, sf4, sf5]) rfl ?_
      exact ⟨_, rfl, (none_own _ _).1, below_put6 BB.out (by omega) _ _ _ _ _ _⟩
    · rw [hf, Bool.true_and] at E
      rw [show Sl.newS s.seg size = Sl.empty s.seg size by unfold Sl.newS; rw [hf]; rfl, show Sl.newE s.seg size = 0 by unfold Sl.newE; rw [hf]; rfl] at CN
      obtain ⟨f1, f2, f3, f4, f5, f6, f7⟩ := fits_yes hf
      obtain ⟨m, rfl⟩ : ∃ m : Nat, size = m := ⟨size.toNat, by omega⟩
      have BA := base_bare hf hok.seg hok.laid
      have CS := Lib.hid (show ∀ W a1, Below w.heap.size w W → Held W (Ly.base s m) a1 → Calls Tryd.prog 27 #[slv (Ly.base s m) a1, .int .i64 0, .int .i64 (m : Int), .slice al ps.length cal] W (Ans (Ly.intoS s m ps) (Ly.intoE s m ps.length) W) from fun W a1 hb hh => by
        by_cases hl : (ps.length : Int) ≤ m
        · rw [decide_eq_true hl, if_pos rfl] at E
          have V : Ly.intoS s m ps = Ly.spreadS (Ly.base s m) (0 : Nat) m ps := by unfold Ly.intoS; rw [if_pos E]; rfl
          rw [E, V]
          exact yOver_ok (Ly.base s m) a1 0 m al cal ps W hh BA.ok BA.short (HT.out.below hb) BA.may (by omega) (by rw [BA.keys]; exact Nat.le_refl _) (HPP.out.below hb) h64
        · rw [decide_eq_false hl, if_neg (by decide)] at E
          have V := Ly.into_no (s := s) (size := m) (l := ps) (by rw [E]; decide)
          rw [E, V]
          exact yOver_no (Ly.base s m) a1 0 m al cal ps.length W (by constructor <;> omega) hz hn (by unfold Sp.mayB; rw [decide_eq_false (show ¬ (ps.length : Int) ≤ (m : Int) - 0 by omega)]; simp))
      obtain ⟨u, hu⟩ : ∃ u, u = Sl.empty s.seg m := ⟨_, rfl⟩
      have HB := Lib.hid (show Ly.base s m = { u with laid := s.laid } by rw [hu]; rfl)
      rw [HB.out] at CS
      rw [← hu] at CN
      obtain ⟨er, her⟩ : ∃ er, er = Ly.intoE s m ps.length := ⟨_, rfl⟩
      obtain ⟨t, ht⟩ : ∃ t, t = Ly.intoS s m ps := ⟨_, rfl⟩
      rw [← her, ← ht] at CS ⊢
      clear h hok hs hT hp h64 hm hf E hz BA f1 f2 f3 f4 f5 f6 f7 hu her ht
      unfold slv at CM ⊢
      go_enter Tryd.func12, Tryd.ntmps12
      go_wp2_with fail
      refine wp_scope_on 0 rfl ?_
      go_upto_region 2 with (fail)
      rw [← hW0]
      clear hW0
      obtain ⟨_, q0, q1, q2, q3, q4, q5, _⟩ := BX.out
      go_wp2_with fail
      refine (CM.out W0 BB.out).mono ?_
      rintro e w1 ⟨rfl, hb⟩
      clear q0 q1 q2 q3 q4 q5
      replace BX := Lib.hid (BX.out.below hb)
      replace BR := Lib.hid (BR.out.below hb)
      replace BZ := Lib.hid (BZ.out.below hb)
      replace BB := Lib.hid (BB.out.trans (hb.mono BB.out.size))
      replace zz := Nat.le_trans zz hb.size
      clear hb
      obtain ⟨_, q0, q1, q2, q3, q4, q5, _⟩ := BX.out
      go_wp2_with fail
      refine (CN.out w1).mono ?_
      rintro e w2 ⟨a1, rfl, own, hb⟩
      clear q0 q1 q2 q3 q4 q5
      have zw := zz
      replace BX := Lib.hid (BX.out.below hb)
      replace BR := Lib.hid (BR.out.below hb)
      replace BZ := Lib.hid (BZ.out.below hb)
      replace BB := Lib.hid (BB.out.trans (hb.mono BB.out.size))
      replace zz := Nat.le_trans zz hb.size
      have OW := Lib.hid own
      clear own hb
      obtain ⟨_, t0, t1, t2, t3, t4, t5, tf⟩ := BZ.out
      have tf0 := tf 0
      have tf1 := tf 1
      have tf2 := tf 2
      have tf3 := tf 3
      have tf4 := tf 4
      have tf5 := tf 5
      clear tf
      unfold slv
      go_upto_region 5 with (fail)
      obtain ⟨V1, hV⟩ : ∃ V, V = put6 w2 (w.heap.size + 2) (.int .i64 u.seg) (.slice a1.w u.words.length a1.cw) (.slice a1.k u.keys.length a1.ck) (.slice a1.v u.vals.length a1.cv) (.slice a1.c u.counts.length a1.cc) (.int .u64 (u.laid : Int)) := ⟨_, rfl⟩
      replace BX := Lib.hid (show Box V1 w.heap.size s a by rw [hV]; exact BX.out.put6o (by omega) _ _ _ _ _ _)
      replace BR := Lib.hid (show Box V1 (w.heap.size + 1) Sl.none adsNone by rw [hV]; exact BR.out.put6o (by omega) _ _ _ _ _ _)
      replace BZ := Lib.hid (show Box V1 (w.heap.size + 2) u a1 by rw [hV]; exact BZ.out.put6 u a1)
      replace OW := Lib.hid (show Own V1 w1.heap.size u a1 by rw [hV]; exact ⟨OW.out.words.put6 (by omega) _ _ _ _ _ _, OW.out.keys.put6 (by omega) _ _ _ _ _ _, OW.out.vals.put6 (by omega) _ _ _ _ _ _, OW.out.counts.put6 (by omega) _ _ _ _ _ _, OW.out.caps⟩)
      replace BB := Lib.hid (show Below w.heap.size w V1 by rw [hV]; exact below_put6 BB.out (by omega) _ _ _ _ _ _)
      have zv : w.heap.size + 3 ≤ V1.heap.size := by rw [hV, size_put6]; exact zz
      unfold put6 at hV
      rw [← hV]
      clear hV t0 t1 t2 t3 t4 t5 tf0 tf1 tf2 tf3 tf4 tf5
      obtain ⟨_, q0, q1, q2, q3, q4, q5, _⟩ := BX.out
      obtain ⟨_, t0, t1, t2, t3, t4, t5, tf⟩ := BZ.out
      have tf5 := tf 5
      clear tf
      go_upto_region 7 with (fail)
      obtain ⟨V2, hV⟩ : ∃ V, V = V1.setCell ⟨w.heap.size + 2, 5, none⟩ (.int .u64 (s.laid : Int)) := ⟨_, rfl⟩
      have BZ2 := Lib.hid (show Box V2 (w.heap.size + 2) { u with laid := s.laid } a1 by rw [hV]; exact BZ.out.set (s' := { u with laid := s.laid }) (a' := a1) 5 (.int .u64 (s.laid : Int)) (by decide) rfl ⟨rfl, rfl, rfl⟩ ⟨rfl, rfl, rfl⟩ ⟨rfl, rfl, rfl⟩ ⟨rfl, rfl, rfl⟩ rfl)
      replace BR := Lib.hid (show Box V2 (w.heap.size + 1) Sl.none adsNone by rw [hV]; exact BR.out.setOther (by omega) _ _)
      replace OW := Lib.hid (show Held V2 { u with laid := s.laid } a1 by
        rw [hV]
        have o := OW.out
        exact ⟨(o.words.setBox (by omega) _ _).lst, (o.keys.setBox (by omega) _ _).lst, (o.vals.setBox (by omega) _ _).lst, (o.counts.setBox (by omega) _ _).lst, ⟨o.caps.w0, o.caps.k0, o.caps.v0, o.caps.c0, o.caps.w1, o.caps.k1, o.caps.v1, o.caps.c1⟩⟩)
      replace BB := Lib.hid (show Below w.heap.size w V2 by rw [hV]; exact BB.out.setCell (p := ⟨w.heap.size + 2, 5, none⟩) (by show w.heap.size ≤ w.heap.size + 2; omega) _)
      rw [← hV]
      have zv2 : w.heap.size + 3 ≤ V2.heap.size := by rw [hV]; simpa using zv
      clear hV q0 q1 q2 q3 q4 q5 t0 t1 t2 t3 t4 t5 tf5 BX BZ
      have CS1 := Lib.hid (CS.out V2 a1 BB.out OW.out)
      unfold slv at CS1
      dsimp only at CS1
      obtain ⟨_, q0, q1, q2, q3, q4, q5, _⟩ := BZ2.out
      dsimp only at q0 q1 q2 q3 q4 q5
      go_wp2_with fail
      refine CS1.out.mono ?_
      rintro e w3 ⟨a3, rfl, own, hb⟩
      replace BR := Lib.hid (BR.out.below hb)
      replace BB := Lib.hid (BB.out.trans (hb.mono BB.out.size))
      have FIN := Lib.hid (ans_put6 (r := w.heap.size + 1) own BB.out (by omega) (by omega))
      clear own hb q0 q1 q2 q3 q4 q5 BZ2
      obtain ⟨_, s0, s1, s2, s3, s4, s5, sf⟩ := BR.out
      have sf0 := sf 0
      have sf1 := sf 1
      have sf2 := sf 2
      have sf3 := sf 3
      have sf4 := sf 4
      have sf5 := sf 5
      clear sf
      unfold slv
      go_wp2
      simp only [Exit.jump]
      refine bodyPost_ret (v := .tuple #[slv t a3, .int .i64 er]) (by simp [results, Tryd.results12, go_sem, slv, s0, s1, s2, s3, s4, s5, sf0, sf1, sf2, sf3, sf4, sf5]) rfl ?_
      exact ⟨_, rfl, FIN.out _ _ _ _ _ _⟩
end Go.Proofs.YtmmkaabefofdeaaDoor
