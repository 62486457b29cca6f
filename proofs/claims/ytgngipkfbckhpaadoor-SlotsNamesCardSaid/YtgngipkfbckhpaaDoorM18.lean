/- What Move of package slots returns. -/
import Derived.Test.YtgngipkfbckhpaaDoorM17
import Derived.Test.YtgngipkfbckhpaaDoorM15
namespace Go.Proofs.YtgngipkfbckhpaaDoor
open Go.RowKit
set_option linter.unusedVariables false
set_option linter.unusedSimpArgs false

set_option maxRecDepth 100000 in
set_option maxHeartbeats 8000000 in
theorem cMove (s : Sl) (a : Ads) (i j : Int) (w : World) (h : Held w s a) (hok : s.Ok) (hs : s.Short) (hT : Tab w) :
    Calls Tryd.prog 9 #[slv s a, .int .i64 i, .int .i64 j] w (Ans (s.moveS i j) (s.moveE i j) w) := by
  have HB := Lib.hid (fun o o' => ((Below.refl w.heap.size w).alloc (Nat.le_refl _) o).alloc (by simp) o')
  have CA := Lib.hid (fun o o' => sAt s a i ((w.alloc o).alloc o') (h.below (HB.out o o')) hok hs (hT.below (HB.out o o')))
  have CI := Lib.hid (fun W => sIsSlot s a j W)
  have CH := Lib.hid (fun W (hb : Below w.heap.size w W) => sHas s a j W (h.below hb) hok hs)
  have CT := Lib.hid (fun W (hb : Below w.heap.size w W) => sTwin s a W (h.below hb) hs)
  have BX := Lib.hid (fun o' => (Box.new w s a 27).below ((Below.refl _ _).alloc (Nat.le_refl _) o'))
  have RX := Lib.hid (Box.new (w.alloc (.cells (slCells s a) 27)) Sl.none adsNone 27)
  have HOK := Lib.hid hok
  have HSh := Lib.hid hs
  clear h hok hs hT
  unfold slv at CA CT CI CH ⊢
  unfold slCells at RX
  rw [World.size_alloc] at RX
  dsimp only [Sl.none, adsNone, List.length_nil] at RX
  by_cases hk : s.atE i = 0
  · obtain ⟨hm, h0, h1, hbit⟩ := at_parts hk
    have HK := Lib.hid hk
    have HM := Lib.hid (may_iff.1 hm)
    cases hsl : s.slotB j
    · have KE := Lib.hid (show s.moveE i j = 2 by unfold Sl.moveE; rw [if_pos hk, hsl]; rfl)
      have V := Lib.hid (moveS_no (s := s) (i := i) (j := j) (by rw [KE.out]; decide))
      rw [hsl] at CI
      clear hk hm hbit hsl
      go_enter Tryd.func9, Tryd.ntmps9
      go_wp2_with fail
      refine (CA.out _ _).mono ?_
      rintro e w1 ⟨rfl, hb⟩
      rw [HK.out]
      unfold pv
      have B1 := Lib.hid ((HB.out _ _).trans (hb.mono (HB.out _ _).size))
      have z1 : w.heap.size + 2 ≤ w1.heap.size := by have := hb.size; simp at this; omega
      have bx1 := Lib.hid ((BX.out _).below hb)
      have rx1 := Lib.hid (RX.out.below hb)
      clear hb
      go_upto_region 2 with (fail)
      obtain ⟨V1, hV1⟩ : ∃ V, V = w1.alloc (.cells #[.int .i64 (s.atV i).1, .int .i64 (s.atV i).2] 33) := ⟨_, rfl⟩
      have hbv : Below w1.heap.size w1 V1 := by rw [hV1]; exact (Below.refl _ _).alloc (Nat.le_refl _) _
      have px2 := Lib.hid (show PBox V1 w1.heap.size (s.atV i) by rw [hV1]; exact PBox.new w1 (s.atV i) 33)
      have B2 := Lib.hid (B1.out.trans (hbv.mono B1.out.size))
      have bx2 := Lib.hid (bx1.out.below hbv)
      have rx2 := Lib.hid (rx1.out.below hbv)
      have z2 : w1.heap.size < V1.heap.size := px2.out.lt
      first | rw [← hV1] | skip
      clear hV1 hbv bx1 rx1 B1
      obtain ⟨_, c0, c1, c2, c3, c4, c5, _⟩ := bx2.out
      go_wp2_with fail
      refine (CI.out _).mono ?_
      rintro e w2 ⟨rfl, hb⟩
      have B3 := Lib.hid (B2.out.trans (hb.mono B2.out.size))
      have bx3 := Lib.hid (bx2.out.below hb)
      have rx3 := Lib.hid (rx2.out.below hb)
      have px3 := Lib.hid (px2.out.below hb)
      have z3 := hb.size
      clear hb c0 c1 c2 c3 c4 c5 bx2 rx2 px2 B2
      obtain ⟨_, c0, c1, c2, c3, c4, c5, _⟩ := bx3.out
      obtain ⟨_, s0, s1, s2, s3, s4, s5, sf⟩ := rx3.out
      have sf0 := sf 0
      have sf1 := sf 1
      have sf2 := sf 2
      have sf3 := sf 3
      have sf4 := sf 4
      have sf5 := sf 5
      dsimp only [List.length_nil] at s0 s1 s2 s3 s4 s5
      clear sf
      go_wp2
      refine bodyPost_ret (v := .tuple #[slv Sl.none adsNone, .int .i64 2]) (by simp [results, Tryd.results9, go_sem, slv, Sl.none, adsNone, s0, s1, s2, s3, s4, s5, sf0, sf1, sf2, sf3, sf4, sf5]) rfl ?_
      rw [V.out, KE.out]
      exact ⟨_, rfl, (none_own _ _).1, by first | (with_reducible exact B3.out) | (exact below_put6 (g := w.heap.size + 1) B3.out (by omega) _ _ _ _ _ _)⟩
    · obtain ⟨j0, j1⟩ := slot_iff.1 hsl
      rw [hsl] at CI
      obtain ⟨k, hki0⟩ : ∃ k : Nat, i = k := ⟨i.toNat, by omega⟩
      obtain ⟨m, hmj⟩ : ∃ m : Nat, j = m := ⟨j.toNat, by omega⟩
      have hki : k < s.keys.length := by omega
      have hmi0 : m < s.keys.length := by omega
      have hmi : m < (s.emptied k).keys.length := by rw [emptied_keys]; exact hmi0
      have HM2 := Lib.hid (HM.out.emptied hki)
      have HOK2 := Lib.hid (((may_fit hm HOK.out HSh.out).emptied (by omega) k).ok)
      have HSh2 := Lib.hid (HSh.out.emptied k)
      have HAV := Lib.hid (show s.atV i = s.pairAt k by rw [atV_ok hk, hki0, Int.toNat_natCast])
      have HHV := Lib.hid (show Oc.hasV s.words s.keys.length j = Oc.isB s.words m by rw [hmj]; exact hasV_may HM.out hmi0)
      rw [HHV.out] at CH
      by_cases hij : j = i
      · have k1 : (j != i) = false := by simp [hij]
        have KE := Lib.hid (show s.moveE i j = 0 by unfold Sl.moveE; rw [if_pos hk, hsl, if_pos rfl, if_neg (by simp [hij])])
        have HL := Lib.hid (show s.moveS i j = (s.emptied k).withP m (s.pairAt k) by unfold Sl.moveS; rw [if_pos KE.out, hki0, hmj, Int.toNat_natCast, Int.toNat_natCast])
        subst hmj
        subst hki0
        clear hk hm hbit hsl hij CH
        go_enter Tryd.func9, Tryd.ntmps9
        go_wp2_with fail
        refine (CA.out _ _).mono ?_
        rintro e w1 ⟨rfl, hb⟩
        rw [HK.out]
        unfold pv
        have B1 := Lib.hid ((HB.out _ _).trans (hb.mono (HB.out _ _).size))
        have z1 : w.heap.size + 2 ≤ w1.heap.size := by have := hb.size; simp at this; omega
        have bx1 := Lib.hid ((BX.out _).below hb)
        have rx1 := Lib.hid (RX.out.below hb)
        clear hb
        go_upto_region 2 with (fail)
        obtain ⟨V1, hV1⟩ : ∃ V, V = w1.alloc (.cells #[.int .i64 (s.atV (k : Int)).1, .int .i64 (s.atV (k : Int)).2] 33) := ⟨_, rfl⟩
        have hbv : Below w1.heap.size w1 V1 := by rw [hV1]; exact (Below.refl _ _).alloc (Nat.le_refl _) _
        have px2 := Lib.hid (show PBox V1 w1.heap.size (s.atV (k : Int)) by rw [hV1]; exact PBox.new w1 (s.atV (k : Int)) 33)
        have B2 := Lib.hid (B1.out.trans (hbv.mono B1.out.size))
        have bx2 := Lib.hid (bx1.out.below hbv)
        have rx2 := Lib.hid (rx1.out.below hbv)
        have z2 : w1.heap.size < V1.heap.size := px2.out.lt
        first | rw [← hV1] | skip
        clear hV1 hbv bx1 rx1 B1
        obtain ⟨_, c0, c1, c2, c3, c4, c5, _⟩ := bx2.out
        go_wp2_with fail
        refine (CI.out _).mono ?_
        rintro e w2 ⟨rfl, hb⟩
        have B3 := Lib.hid (B2.out.trans (hb.mono B2.out.size))
        have bx3 := Lib.hid (bx2.out.below hb)
        have rx3 := Lib.hid (rx2.out.below hb)
        have px3 := Lib.hid (px2.out.below hb)
        have z3 := hb.size
        clear hb c0 c1 c2 c3 c4 c5 bx2 rx2 px2 B2
        obtain ⟨_, c0, c1, c2, c3, c4, c5, _⟩ := bx3.out
        go_wp2_with fail
        refine (CT.out _ B3.out).mono ?_
        rintro e w4 ⟨a1, rfl, own, sep, lies, hb⟩
        have B4 := Lib.hid (B3.out.trans (hb.mono B3.out.size))
        have rx4 := Lib.hid (rx3.out.below hb)
        have px4 := Lib.hid (px3.out.below hb)
        have z4 := hb.size
        have CS := Lib.hid (Cop.start own sep lies 60)
        clear hb c0 c1 c2 c3 c4 c5 own sep lies
        unfold slv
        go_upto_region 9 with (fail)
        obtain ⟨W5, hW5⟩ : ∃ W, W = w4.alloc (.cells (slCells s a1) 60) := ⟨_, rfl⟩
        rw [← hW5] at CS
        have rx5 := Lib.hid (rx4.out.below CS.out.2)
        have px5 := Lib.hid (px4.out.below CS.out.2)
        have B5 := Lib.hid (B4.out.trans (CS.out.2.mono B4.out.size))
        have z5 := CS.out.2.size
        unfold slCells at hW5
        rw [← hW5]
        clear hW5 rx4 px4 B4
        have CL := Lib.hid (sClear w2.heap.size w4.heap.size s a1 k W5 CS.out.1 HM.out HOK.out HSh.out hki (by omega))
        go_wp2_with fail
        refine CL.out.mono ?_
        rintro e w6 ⟨rfl, C6', T6'⟩
        have C6 := Lib.hid C6'
        have hb6 := T6'.below CS.out.1 (by omega) (by omega)
        have B6 := Lib.hid (B5.out.trans (hb6.mono B3.out.size))
        have rx6 := Lib.hid (rx5.out.keep hb6 (by omega))
        have px6 := Lib.hid (px5.out.keep hb6 (by omega))
        have z6 := hb6.size
        clear C6' T6' hb6
        have CL2 := Lib.hid (sLayIn w2.heap.size w4.heap.size (s.emptied k) a1 m (s.pairAt k).1 (s.pairAt k).2 w6 C6.out HM2.out HOK2.out HSh2.out hmi (by omega))
        unfold pv at CL2
        have d0 := px6.out.c0
        have d1 := px6.out.c1
        rw [HAV.out] at d0 d1
        go_wp2_with fail
        refine CL2.out.mono ?_
        rintro e w7 ⟨rfl, C7', T7'⟩
        have C7 := Lib.hid C7'
        have hb7 := T7'.below C6.out (by omega) (by omega)
        have B7 := Lib.hid (B6.out.trans (hb7.mono B3.out.size))
        have rx7 := Lib.hid (rx6.out.keep hb7 (by omega))
        clear C7' T7' hb7 d0 d1
        obtain ⟨_, c0, c1, c2, c3, c4, c5, _⟩ := C7.out.box
        obtain ⟨_, s0, s1, s2, s3, s4, s5, sf⟩ := rx7.out
        have sf0 := sf 0
        have sf1 := sf 1
        have sf2 := sf 2
        have sf3 := sf 3
        have sf4 := sf 4
        have sf5 := sf 5
        have FIN := Lib.hid (C7.out.ans (r := w.heap.size + 1) (B := w.heap.size) B7.out (by omega) (by omega) (by omega))
        clear sf
        go_wp2
        refine bodyPost_ret (v := .tuple #[slv ((s.emptied k).withP m ((s.pairAt k).1, (s.pairAt k).2)) a1, .int .i64 0]) (by simp [results, Tryd.results9, go_sem, slv, s0, s1, s2, s3, s4, s5, sf0, sf1, sf2, sf3, sf4, sf5]) rfl ?_
        rw [HL.out, KE.out]
        exact ⟨_, rfl, FIN.out _ _ _ _ _ _⟩
      · have k1 : (j != i) = true := by simp [hij]
        cases hjb : Oc.isB s.words m
        · have KE := Lib.hid (show s.moveE i j = 0 by unfold Sl.moveE; rw [if_pos hk, hsl, if_pos rfl, if_neg (by rw [hmj, Int.toNat_natCast, hjb]; simp)])
          have HL := Lib.hid (show s.moveS i j = (s.emptied k).withP m (s.pairAt k) by unfold Sl.moveS; rw [if_pos KE.out, hki0, hmj, Int.toNat_natCast, Int.toNat_natCast])
          rw [hjb] at CH
          subst hmj
          subst hki0
          clear hk hm hbit hsl hij hjb
          go_enter Tryd.func9, Tryd.ntmps9
          go_wp2_with fail
          refine (CA.out _ _).mono ?_
          rintro e w1 ⟨rfl, hb⟩
          rw [HK.out]
          unfold pv
          have B1 := Lib.hid ((HB.out _ _).trans (hb.mono (HB.out _ _).size))
          have z1 : w.heap.size + 2 ≤ w1.heap.size := by have := hb.size; simp at this; omega
          have bx1 := Lib.hid ((BX.out _).below hb)
          have rx1 := Lib.hid (RX.out.below hb)
          clear hb
          go_upto_region 2 with (fail)
          obtain ⟨V1, hV1⟩ : ∃ V, V = w1.alloc (.cells #[.int .i64 (s.atV (k : Int)).1, .int .i64 (s.atV (k : Int)).2] 33) := ⟨_, rfl⟩
          have hbv : Below w1.heap.size w1 V1 := by rw [hV1]; exact (Below.refl _ _).alloc (Nat.le_refl _) _
          have px2 := Lib.hid (show PBox V1 w1.heap.size (s.atV (k : Int)) by rw [hV1]; exact PBox.new w1 (s.atV (k : Int)) 33)
          have B2 := Lib.hid (B1.out.trans (hbv.mono B1.out.size))
          have bx2 := Lib.hid (bx1.out.below hbv)
          have rx2 := Lib.hid (rx1.out.below hbv)
          have z2 : w1.heap.size < V1.heap.size := px2.out.lt
          first | rw [← hV1] | skip
          clear hV1 hbv bx1 rx1 B1
          obtain ⟨_, c0, c1, c2, c3, c4, c5, _⟩ := bx2.out
          go_wp2_with fail
          refine (CI.out _).mono ?_
          rintro e w2 ⟨rfl, hb⟩
          have B3 := Lib.hid (B2.out.trans (hb.mono B2.out.size))
          have bx3 := Lib.hid (bx2.out.below hb)
          have rx3 := Lib.hid (rx2.out.below hb)
          have px3 := Lib.hid (px2.out.below hb)
          have z3 := hb.size
          clear hb c0 c1 c2 c3 c4 c5 bx2 rx2 px2 B2
          obtain ⟨_, c0, c1, c2, c3, c4, c5, _⟩ := bx3.out
          go_wp2_with fail
          refine (CH.out _ B3.out).mono ?_
          rintro e w3 ⟨rfl, hb⟩
          replace B3 := Lib.hid (B3.out.trans (hb.mono B3.out.size))
          replace bx3 := Lib.hid (bx3.out.below hb)
          replace rx3 := Lib.hid (rx3.out.below hb)
          replace px3 := Lib.hid (px3.out.below hb)
          replace z3 := Nat.le_trans z3 hb.size
          clear hb c0 c1 c2 c3 c4 c5
          obtain ⟨_, c0, c1, c2, c3, c4, c5, _⟩ := bx3.out
          go_wp2_with fail
          refine (CT.out _ B3.out).mono ?_
          rintro e w4 ⟨a1, rfl, own, sep, lies, hb⟩
          have B4 := Lib.hid (B3.out.trans (hb.mono B3.out.size))
          have rx4 := Lib.hid (rx3.out.below hb)
          have px4 := Lib.hid (px3.out.below hb)
          have z4 := hb.size
          have CS := Lib.hid (Cop.start own sep lies 60)
          clear hb c0 c1 c2 c3 c4 c5 own sep lies
          unfold slv
          go_upto_region 9 with (fail)
          obtain ⟨W5, hW5⟩ : ∃ W, W = w4.alloc (.cells (slCells s a1) 60) := ⟨_, rfl⟩
          rw [← hW5] at CS
          have rx5 := Lib.hid (rx4.out.below CS.out.2)
          have px5 := Lib.hid (px4.out.below CS.out.2)
          have B5 := Lib.hid (B4.out.trans (CS.out.2.mono B4.out.size))
          have z5 := CS.out.2.size
          unfold slCells at hW5
          rw [← hW5]
          clear hW5 rx4 px4 B4
          have CL := Lib.hid (sClear w3.heap.size w4.heap.size s a1 k W5 CS.out.1 HM.out HOK.out HSh.out hki (by omega))
          go_wp2_with fail
          refine CL.out.mono ?_
          rintro e w6 ⟨rfl, C6', T6'⟩
          have C6 := Lib.hid C6'
          have hb6 := T6'.below CS.out.1 (by omega) (by omega)
          have B6 := Lib.hid (B5.out.trans (hb6.mono B3.out.size))
          have rx6 := Lib.hid (rx5.out.keep hb6 (by omega))
          have px6 := Lib.hid (px5.out.keep hb6 (by omega))
          have z6 := hb6.size
          clear C6' T6' hb6
          have CL2 := Lib.hid (sLayIn w3.heap.size w4.heap.size (s.emptied k) a1 m (s.pairAt k).1 (s.pairAt k).2 w6 C6.out HM2.out HOK2.out HSh2.out hmi (by omega))
          unfold pv at CL2
          have d0 := px6.out.c0
          have d1 := px6.out.c1
          rw [HAV.out] at d0 d1
          go_wp2_with fail
          refine CL2.out.mono ?_
          rintro e w7 ⟨rfl, C7', T7'⟩
          have C7 := Lib.hid C7'
          have hb7 := T7'.below C6.out (by omega) (by omega)
          have B7 := Lib.hid (B6.out.trans (hb7.mono B3.out.size))
          have rx7 := Lib.hid (rx6.out.keep hb7 (by omega))
          clear C7' T7' hb7 d0 d1
          obtain ⟨_, c0, c1, c2, c3, c4, c5, _⟩ := C7.out.box
          obtain ⟨_, s0, s1, s2, s3, s4, s5, sf⟩ := rx7.out
          have sf0 := sf 0
          have sf1 := sf 1
          have sf2 := sf 2
          have sf3 := sf 3
          have sf4 := sf 4
          have sf5 := sf 5
          have FIN := Lib.hid (C7.out.ans (r := w.heap.size + 1) (B := w.heap.size) B7.out (by omega) (by omega) (by omega))
          clear sf
          go_wp2
          refine bodyPost_ret (v := .tuple #[slv ((s.emptied k).withP m ((s.pairAt k).1, (s.pairAt k).2)) a1, .int .i64 0]) (by simp [results, Tryd.results9, go_sem, slv, s0, s1, s2, s3, s4, s5, sf0, sf1, sf2, sf3, sf4, sf5]) rfl ?_
          rw [HL.out, KE.out]
          exact ⟨_, rfl, FIN.out _ _ _ _ _ _⟩
        · have KE := Lib.hid (show s.moveE i j = 9 by unfold Sl.moveE; rw [if_pos hk, hsl, if_pos rfl, if_pos ⟨hij, by rw [hmj, Int.toNat_natCast]; exact hjb⟩])
          have V := Lib.hid (moveS_no (s := s) (i := i) (j := j) (by rw [KE.out]; decide))
          rw [hjb] at CH
          subst hmj
          subst hki0
          clear hk hm hbit hsl hij hjb
          go_enter Tryd.func9, Tryd.ntmps9
          go_wp2_with fail
          refine (CA.out _ _).mono ?_
          rintro e w1 ⟨rfl, hb⟩
          rw [HK.out]
          unfold pv
          have B1 := Lib.hid ((HB.out _ _).trans (hb.mono (HB.out _ _).size))
          have z1 : w.heap.size + 2 ≤ w1.heap.size := by have := hb.size; simp at this; omega
          have bx1 := Lib.hid ((BX.out _).below hb)
          have rx1 := Lib.hid (RX.out.below hb)
          clear hb
          go_upto_region 2 with (fail)
          obtain ⟨V1, hV1⟩ : ∃ V, V = w1.alloc (.cells #[.int .i64 (s.atV (k : Int)).1, .int .i64 (s.atV (k : Int)).2] 33) := ⟨_, rfl⟩
          have hbv : Below w1.heap.size w1 V1 := by rw [hV1]; exact (Below.refl _ _).alloc (Nat.le_refl _) _
          have px2 := Lib.hid (show PBox V1 w1.heap.size (s.atV (k : Int)) by rw [hV1]; exact PBox.new w1 (s.atV (k : Int)) 33)
          have B2 := Lib.hid (B1.out.trans (hbv.mono B1.out.size))
          have bx2 := Lib.hid (bx1.out.below hbv)
          have rx2 := Lib.hid (rx1.out.below hbv)
          have z2 : w1.heap.size < V1.heap.size := px2.out.lt
          first | rw [← hV1] | skip
          clear hV1 hbv bx1 rx1 B1
          obtain ⟨_, c0, c1, c2, c3, c4, c5, _⟩ := bx2.out
          go_wp2_with fail
          refine (CI.out _).mono ?_
          rintro e w2 ⟨rfl, hb⟩
          have B3 := Lib.hid (B2.out.trans (hb.mono B2.out.size))
          have bx3 := Lib.hid (bx2.out.below hb)
          have rx3 := Lib.hid (rx2.out.below hb)
          have px3 := Lib.hid (px2.out.below hb)
          have z3 := hb.size
          clear hb c0 c1 c2 c3 c4 c5 bx2 rx2 px2 B2
          obtain ⟨_, c0, c1, c2, c3, c4, c5, _⟩ := bx3.out
          go_wp2_with fail
          refine (CH.out _ B3.out).mono ?_
          rintro e w3 ⟨rfl, hb⟩
          replace B3 := Lib.hid (B3.out.trans (hb.mono B3.out.size))
          replace bx3 := Lib.hid (bx3.out.below hb)
          replace rx3 := Lib.hid (rx3.out.below hb)
          replace px3 := Lib.hid (px3.out.below hb)
          replace z3 := Nat.le_trans z3 hb.size
          clear hb c0 c1 c2 c3 c4 c5
          obtain ⟨_, c0, c1, c2, c3, c4, c5, _⟩ := bx3.out
          obtain ⟨_, s0, s1, s2, s3, s4, s5, sf⟩ := rx3.out
          have sf0 := sf 0
          have sf1 := sf 1
          have sf2 := sf 2
          have sf3 := sf 3
          have sf4 := sf 4
          have sf5 := sf 5
          dsimp only [List.length_nil] at s0 s1 s2 s3 s4 s5
          clear sf
          go_wp2
          refine bodyPost_ret (v := .tuple #[slv Sl.none adsNone, .int .i64 9]) (by simp [results, Tryd.results9, go_sem, slv, Sl.none, adsNone, s0, s1, s2, s3, s4, s5, sf0, sf1, sf2, sf3, sf4, sf5]) rfl ?_
          rw [V.out, KE.out]
          exact ⟨_, rfl, (none_own _ _).1, by first | (with_reducible exact B3.out) | (exact below_put6 (g := w.heap.size + 1) B3.out (by omega) _ _ _ _ _ _)⟩
  · obtain ⟨E, hE⟩ : ∃ E, E = s.atE i := ⟨_, rfl⟩
    have KE := Lib.hid (show s.moveE i j = E by unfold Sl.moveE; rw [if_neg hk, hE])
    have V := Lib.hid (moveS_no (s := s) (i := i) (j := j) (by rw [KE.out, hE]; exact hk))
    have hEn : (E != 0) = true := by rw [hE]; simp [hk]
    unfold AtPost at CA
    rw [← hE] at CA
    clear hE hk
    go_enter Tryd.func9, Tryd.ntmps9
    go_wp2_with fail
    refine (CA.out _ _).mono ?_
    rintro e w1 ⟨rfl, hb⟩
    skip
    unfold pv
    have B1 := Lib.hid ((HB.out _ _).trans (hb.mono (HB.out _ _).size))
    have z1 : w.heap.size + 2 ≤ w1.heap.size := by have := hb.size; simp at this; omega
    have bx1 := Lib.hid ((BX.out _).below hb)
    have rx1 := Lib.hid (RX.out.below hb)
    clear hb
    go_upto_region 2 with (fail)
    obtain ⟨V1, hV1⟩ : ∃ V, V = w1.alloc (.cells #[.int .i64 (s.atV i).1, .int .i64 (s.atV i).2] 33) := ⟨_, rfl⟩
    have hbv : Below w1.heap.size w1 V1 := by rw [hV1]; exact (Below.refl _ _).alloc (Nat.le_refl _) _
    have px2 := Lib.hid (show PBox V1 w1.heap.size (s.atV i) by rw [hV1]; exact PBox.new w1 (s.atV i) 33)
    have B2 := Lib.hid (B1.out.trans (hbv.mono B1.out.size))
    have bx2 := Lib.hid (bx1.out.below hbv)
    have rx2 := Lib.hid (rx1.out.below hbv)
    have z2 : w1.heap.size < V1.heap.size := px2.out.lt
    first | rw [← hV1] | skip
    clear hV1 hbv bx1 rx1 B1
    obtain ⟨_, s0, s1, s2, s3, s4, s5, sf⟩ := rx2.out
    have sf0 := sf 0
    have sf1 := sf 1
    have sf2 := sf 2
    have sf3 := sf 3
    have sf4 := sf 4
    have sf5 := sf 5
    dsimp only [List.length_nil] at s0 s1 s2 s3 s4 s5
    clear sf
    go_wp2
    refine bodyPost_ret (v := .tuple #[slv Sl.none adsNone, .int .i64 E]) (by simp [results, Tryd.results9, go_sem, slv, Sl.none, adsNone, s0, s1, s2, s3, s4, s5, sf0, sf1, sf2, sf3, sf4, sf5]) rfl ?_
    rw [V.out, KE.out]
    exact ⟨_, rfl, (none_own _ _).1, by first | (with_reducible exact B2.out) | (exact below_put6 (g := w.heap.size + 1) B2.out (by omega) _ _ _ _ _ _)⟩
end Go.Proofs.YtgngipkfbckhpaaDoor
