/- What package handle's Make returns. -/
import Derived.Test.YtephmejhglcdiaaHnG
import Derived.Test.YtephmejhglcdiaaHnF
namespace Go.Proofs.Ytephmejhglcdiaa
open Go.RowKit
set_option linter.unusedVariables false
set_option linter.unusedSimpArgs false

theorem held_of {w : World} {B : Nat} {t : Ht} {A : HAds} (h : HRows 3 w B t A) : HHeld w t A := h.own.held
theorem make_same {t : Ht} {p : Int} : placeE t p = 0 → Hn.chkE t = 0 ∧ ¬ p < 0 := fun h => by
  unfold placeE at h
  by_cases h0 : Hn.chkE t = 0
  · rw [if_pos h0] at h
    refine ⟨h0, fun hp => ?_⟩
    rw [if_pos hp] at h
    cases h
  · rw [if_neg h0] at h; exact absurd h h0
theorem make_not {t : Ht} {p : Int} (h : ¬ placeE t p = 0) : Hn.makeE t p = placeE t p := by
  unfold Hn.makeE placeE
  unfold placeE at h
  by_cases h0 : Hn.chkE t = 0
  · rw [if_pos h0, if_pos h0]
    rw [if_pos h0] at h
    by_cases h3 : p < 0
    · rw [if_pos h3, if_pos h3]
    · rw [if_neg h3] at h; exact absurd rfl h
  · rw [if_neg h0, if_neg h0]
theorem full_of {t : Ht} (hM : Hn.May t) : Hn.fullB t = decide (Hn.free t = 65536) := by
  have h1 := Hn.free_le t
  have h2 := hM.most
  unfold Hn.fullB
  rw [Bool.eq_iff_iff]
  simp
  omega
set_option maxRecDepth 100000 in
set_option maxHeartbeats 8000000 in
theorem hMake (t : Ht) (A : HAds) (p : Int) (w : World) (h : HHeld w t A) (ok : t.Ok) (hs : t.Short) (hp : In64 p) :
    Calls Try.prog 9 #[hv t A, .int .i64 p] w (HAns3 (Hn.makeV t p) (Hn.makeH t p) (Hn.makeE t p) w) := by
  have HB := Lib.hid (fun x y z => (((Below.refl w.heap.size w).alloc (Nat.le_refl _) x).alloc (by simp) y).alloc (by simp; omega) z)
  have HX := Lib.hid (fun x y => ((HBox.new w t A 24).below ((Below.refl _ _).alloc (Nat.le_refl _) x)).below ((Below.refl _ _).alloc (Nat.le_refl _) y))
  have HY := Lib.hid (fun x y => (HBox.new (w.alloc x) Ht.zero hNone 24).below ((Below.refl _ _).alloc (Nat.le_refl _) y))
  have HZ := Lib.hid (fun x y => PBox.new ((w.alloc x).alloc y) (0, 0) 26)
  have CC := Lib.hid (fun V (hb : Below w.heap.size w V) => hPlace t A p V (h.below hb) ok hs)
  have CN := Lib.hid (fun V (hb : Below w.heap.size w V) hM => hNext t A V (h.below hb) hM)
  have CT := Lib.hid (fun V (hb : Below w.heap.size w V) => hCopied t A V (h.below hb) hs)
  clear h ok hs hp
  unfold hv at CC CT CN
  unfold hv
  go_enter Try.func9, Try.ntmps9
  go_upto_region 1 with (fail)
  obtain ⟨W0, hW0⟩ : ∃ W, W = ((w.alloc (.cells #[.slice A.g t.gens.length A.cg, .slice A.a t.ats.length A.ca] 24)).alloc (.cells #[.slice none 0 0, .slice none 0 0] 24)).alloc (.cells #[.int .i64 0, .int .i64 0] 26) := ⟨_, rfl⟩
  have BX := Lib.hid (show HBox W0 w.heap.size t A by rw [hW0]; exact HX.out _ _)
  have BR := Lib.hid (show HBox W0 (w.heap.size + 1) Ht.zero hNone by rw [hW0]; have := HY.out (.cells #[.slice A.g t.gens.length A.cg, .slice A.a t.ats.length A.ca] 24) (.cells #[.int .i64 0, .int .i64 0] 26); rw [World.size_alloc] at this; exact this)
  have BH := Lib.hid (show PBox W0 (w.heap.size + 1 + 1) (0, 0) by rw [hW0]; have := HZ.out (.cells #[.slice A.g t.gens.length A.cg, .slice A.a t.ats.length A.ca] 24) (.cells #[.slice none 0 0, .slice none 0 0] 24); rw [World.size_alloc, World.size_alloc] at this; exact this)
  have BB := Lib.hid (show Below w.heap.size w W0 by rw [hW0]; exact HB.out _ _ _)
  have z0 : w.heap.size + 3 ≤ W0.heap.size := by rw [hW0]; simp
  rw [← hW0]
  clear hW0 HB HX HY HZ
  obtain ⟨_, p0, p1, _, _⟩ := BX.out
  go_wp2_with fail
  refine (CC.out W0 BB.out).mono ?_
  rintro e w1 ⟨rfl, hb⟩
  have z1 : W0.heap.size ≤ w1.heap.size := hb.size
  replace BX := Lib.hid (BX.out.below hb)
  replace BR := Lib.hid (BR.out.below hb)
  replace BH := Lib.hid (BH.out.below hb)
  replace BB := Lib.hid (BB.out.trans (hb.mono BB.out.size))
  clear hb p0 p1 CC
  by_cases hc : placeE t p = 0
  · have k1 : (placeE t p != 0) = false := by simpa using hc
    obtain ⟨hc0, hpp⟩ := make_same hc
    have HM := Lib.hid (Hn.chk_may.1 hc0)
    have EM := Lib.hid (show Hn.makeE t p = if Hn.fullB t = true then 9 else 0 by unfold Hn.makeE; rw [if_pos hc0, if_neg hpp])
    clear hc hc0 hpp
    obtain ⟨_, p0, p1, _, _⟩ := BX.out
    go_wp2_with fail
    refine (CN.out w1 BB.out HM.out).mono ?_
    rintro e w2 ⟨rfl, hb⟩
    have z2 : w1.heap.size ≤ w2.heap.size := hb.size
    replace BX := Lib.hid (BX.out.below hb)
    replace BR := Lib.hid (BR.out.below hb)
    replace BH := Lib.hid (BH.out.below hb)
    replace BB := Lib.hid (BB.out.trans (hb.mono BB.out.size))
    clear hb p0 p1 CN k1
    have HF := Lib.hid (full_of HM.out)
    by_cases hf : Hn.free t = 65536
    · have FU := Lib.hid (show Hn.fullB t = true by rw [HF.out]; exact decide_eq_true hf)
      have EE := Lib.hid (show Hn.makeE t p = 9 by rw [EM.out, FU.out, if_pos rfl])
      have VV := Lib.hid (show Hn.makeV t p = Ht.zero by unfold Hn.makeV; rw [EE.out, if_neg (by omega)])
      have VH := Lib.hid (show Hn.makeH t p = (0, 0) by unfold Hn.makeH; rw [EE.out, if_neg (by omega)])
      have k2 : (((Hn.free t : Nat) : Int) == 65536) = true := by simp; omega
      clear hf EM HF CT
      obtain ⟨_, q0, q1, qf0, qf1⟩ := BR.out
      obtain ⟨_, r0, r1, rf0, rf1⟩ := BH.out
      dsimp only [Ht.zero, hNone, List.length_nil] at q0 q1
      dsimp only at r0 r1
      go_wp2
      obtain ⟨U, hU⟩ : ∃ U, U = wput2 (wput2 w2 (w.heap.size + 1) (.slice none 0 0) (.slice none 0 0)) (w.heap.size + 1 + 1) (.int .i64 0) (.int .i64 0) := ⟨_, rfl⟩
      have BR3 := Lib.hid (show HBox U (w.heap.size + 1) Ht.zero hNone by rw [hU]; exact (BR.out.put2 Ht.zero hNone).put2o (by omega) _ _)
      have BH3 := Lib.hid (show PBox U (w.heap.size + 1 + 1) (0, 0) by rw [hU]; exact (BH.out.put2o (by omega) _ _).put2 (0, 0))
      have BB3 := Lib.hid (show Below w.heap.size w U by rw [hU]; exact below_put2 (below_put2 BB.out (by omega) _ _) (by omega) _ _)
      unfold wput2 at hU
      rw [← hU]
      clear hU
      obtain ⟨_, s0, s1, _, _⟩ := BR3.out
      obtain ⟨_, v0, v1, _, _⟩ := BH3.out
      dsimp only at v0 v1
      dsimp only [Ht.zero, hNone, List.length_nil] at s0 s1
      refine bodyPost_ret (v := .tuple #[hv Ht.zero hNone, pv (0, 0), .int .i64 (9)]) (by simp [results, Try.results9, go_sem, hv, pv, Ht.zero, hNone, s0, s1, v0, v1]) rfl (by unfold HAns3; rw [VV.out, EE.out, VH.out]; exact ⟨_, rfl, own_zero _ _, BB3.out⟩)
    · have FU := Lib.hid (show Hn.fullB t = false by rw [HF.out]; exact decide_eq_false hf)
      have EE := Lib.hid (show Hn.makeE t p = 0 by rw [EM.out, FU.out, if_neg (by simp)])
      have VV := Lib.hid (show Hn.makeV t p = Hn.given t p by unfold Hn.makeV; rw [EE.out, if_pos rfl])
      have VH := Lib.hid (show Hn.makeH t p = Hn.hnd t by unfold Hn.makeH; rw [EE.out, if_pos rfl])
      have k2 : (((Hn.free t : Nat) : Int) == 65536) = false := by simp; omega
      obtain ⟨k, hk⟩ : ∃ k, Hn.free t = k := ⟨_, rfl⟩
      have CG := Lib.hid (fun A1 B V (own : HRows 3 V B t A1) hB => hGive t A1 p B V own hB HM.out FU.out)
      unfold hv at CG
      rw [hk] at CG k2 ⊢
      clear hf hk EM HF
      go_upto_region 7 with (fail)
      clear k2
      obtain ⟨_, p0, p1, _, _⟩ := BX.out
      go_wp2_with fail
      refine (CT.out w2 BB.out).mono ?_
      rintro e w3 ⟨A1, rfl, own, hb⟩
      have z3 : w2.heap.size ≤ w3.heap.size := hb.size
      have OR := Lib.hid own
      replace BR := Lib.hid (BR.out.below hb)
      replace BH := Lib.hid (BH.out.below hb)
      replace BB := Lib.hid (BB.out.trans (hb.mono BB.out.size))
      clear own hb p0 p1 CT BX
      unfold hv
      go_wp2_with fail
      refine (CG.out A1 w2.heap.size w3 OR.out z3).mono ?_
      rintro e w4 ⟨A2, rfl, own, hb, _, _⟩
      have z4 : w3.heap.size ≤ w4.heap.size := hb.size
      have OW := Lib.hid (own.lower (show w.heap.size + 3 ≤ w2.heap.size by omega))
      replace BR := Lib.hid (BR.out.low (by omega) hb)
      replace BH := Lib.hid (BH.out.lowH (by omega) hb)
      replace BB := Lib.hid (BB.out.trans (hb.mono (by omega)))
      clear own hb OR CG
      unfold hv pv
      go_upto_region 8 with (fail)
      obtain ⟨W5, hW5⟩ : ∃ W, W = (w4.alloc (.cells #[.slice A2.g (Hn.given t p).gens.length A2.cg, .slice A2.a (Hn.given t p).ats.length A2.ca] 24)).alloc (.cells #[.int .i64 (Hn.hnd t).1, .int .i64 (Hn.hnd t).2] 26) := ⟨_, rfl⟩
      have hb : Below w4.heap.size w4 W5 := by rw [hW5]; exact ((Below.refl _ _).alloc (Nat.le_refl _) _).alloc (by simp) _
      have z5 : W5.heap.size = w4.heap.size + 2 := by rw [hW5]; simp
      have BT := show HBox W5 w4.heap.size (Hn.given t p) A2 by rw [hW5]; exact (HBox.new w4 (Hn.given t p) A2 24).below ((Below.refl _ _).alloc (Nat.le_refl _) _)
      have BN := show PBox W5 (w4.heap.size + 1) (Hn.hnd t) by
        rw [hW5]
        have := PBox.new (w4.alloc (.cells #[.slice A2.g (Hn.given t p).gens.length A2.cg, .slice A2.a (Hn.given t p).ats.length A2.ca] 24)) (Hn.hnd t) 26
        rw [World.size_alloc] at this
        exact this
      have CS := Lib.hid (show W5.cell? ⟨w4.heap.size, 0, none⟩ = some (.slice A2.g (Hn.given t p).gens.length A2.cg) ∧ W5.cell? ⟨w4.heap.size, 1, none⟩ = some (.slice A2.a (Hn.given t p).ats.length A2.ca) ∧ W5.cell? ⟨w4.heap.size + 1, 0, none⟩ = some (.int .i64 (Hn.hnd t).1) ∧ W5.cell? ⟨w4.heap.size + 1, 1, none⟩ = some (.int .i64 (Hn.hnd t).2) from ⟨BT.c0, BT.c1, BN.c0, BN.c1⟩)
      replace BR := Lib.hid (BR.out.below hb)
      replace BH := Lib.hid (BH.out.below hb)
      replace OW := Lib.hid (OW.out.below hb)
      replace BB := Lib.hid (BB.out.trans (hb.mono BB.out.size))
      rw [← hW5]
      clear hW5 hb BT BN
      refine wp_region_held_drew (S := fun w' => w'.cell? ⟨w4.heap.size, 0, none⟩ = some (.slice A2.g (Hn.given t p).gens.length A2.cg) ∧ w'.cell? ⟨w4.heap.size, 1, none⟩ = some (.slice A2.a (Hn.given t p).ats.length A2.ca) ∧ w'.cell? ⟨w4.heap.size + 1, 0, none⟩ = some (.int .i64 (Hn.hnd t).1) ∧ w'.cell? ⟨w4.heap.size + 1, 1, none⟩ = some (.int .i64 (Hn.hnd t).2)) (by kernel_rfl) (by exact CS.out) (fun hHeld => ?_)
      obtain ⟨W5d, hV⟩ : ∃ V, V = W5.drew := ⟨_, rfl⟩
      replace CS := Lib.hid (show W5d.cell? ⟨w4.heap.size, 0, none⟩ = some (.slice A2.g (Hn.given t p).gens.length A2.cg) ∧ W5d.cell? ⟨w4.heap.size, 1, none⟩ = some (.slice A2.a (Hn.given t p).ats.length A2.ca) ∧ W5d.cell? ⟨w4.heap.size + 1, 0, none⟩ = some (.int .i64 (Hn.hnd t).1) ∧ W5d.cell? ⟨w4.heap.size + 1, 1, none⟩ = some (.int .i64 (Hn.hnd t).2) by rw [hV]; exact CS.out)
      replace BR := Lib.hid (show HBox W5d (w.heap.size + 1) (Ht.zero) (hNone) by rw [hV]; exact BR.out.below ((Below.refl _ _).drew))
      replace BH := Lib.hid (show PBox W5d (w.heap.size + 1 + 1) ((0, 0)) by rw [hV]; exact BH.out.below ((Below.refl _ _).drew))
      replace OW := Lib.hid (show HOwn W5d (w.heap.size + 3) (Hn.given t p) (A2) by rw [hV]; exact OW.out.below ((Below.refl _ _).drew))
      replace BB := Lib.hid (show Below w.heap.size w W5d by rw [hV]; exact BB.out.drew)
      rw [← hV] at hHeld ⊢
      clear hV
      refine wpAnyH_take (i := 0) (oi := Oper.mk _ _ _ _ _ _) (v := ?vmake0) rfl (by kernel_rfl) (by kernel_rfl) (by kernel_rfl) (fun _ _ _ h => h) (Or.inl ⟨by rfl, ?hymake0⟩) (by assumption) ?restmake0
      case hymake0 =>
        intro w0 hSw
        try dsimp only at hSw
        go_simp
        all_goals with_reducible rfl
      try simp only [Act.put, List.setIfInBounds_toArray, List.set_cons_zero, List.set_cons_succ]
      refine wpAnyH_take (i := 1) (oi := Oper.mk _ _ _ _ _ _) (v := ?vmake1) rfl (by kernel_rfl) (by kernel_rfl) (by kernel_rfl) (fun _ _ _ h => h) (Or.inl ⟨by rfl, ?hymake1⟩) (by assumption) ?restmake1
      case hymake1 =>
        intro w0 hSw
        try dsimp only at hSw
        go_simp
        all_goals with_reducible rfl
      try simp only [Act.put, List.setIfInBounds_toArray, List.set_cons_zero, List.set_cons_succ]
      refine wpAnyH_ready (rs := [2]) (by kernel_rfl) (by simp) ?_
      refine AllReadyH.cons (o := Oper.mk _ _ _ _ _ _) rfl (fun K hK => ?_) AllReadyH.nil
      obtain ⟨_, z1, z2, zf1, zf2⟩ := BR.out
      try dsimp only [Ht.zero, hNone, List.length_nil] at z1 z2
      go_simp
      obtain ⟨Fmake1, hU⟩ : ∃ U, U = wput2 W5d (w.heap.size + 1) (.slice (A2).g (Hn.given t p).gens.length (A2).cg) (.slice (A2).a (Hn.given t p).ats.length (A2).ca) := ⟨_, rfl⟩
      replace CS := Lib.hid (show Fmake1.cell? ⟨w4.heap.size, 0, none⟩ = some (.slice A2.g (Hn.given t p).gens.length A2.cg) ∧ Fmake1.cell? ⟨w4.heap.size, 1, none⟩ = some (.slice A2.a (Hn.given t p).ats.length A2.ca) ∧ Fmake1.cell? ⟨w4.heap.size + 1, 0, none⟩ = some (.int .i64 (Hn.hnd t).1) ∧ Fmake1.cell? ⟨w4.heap.size + 1, 1, none⟩ = some (.int .i64 (Hn.hnd t).2) by rw [hU]; obtain ⟨c0, c1, c2, c3⟩ := CS.out; exact ⟨cell_put2 c0 (by omega) _ _, cell_put2 c1 (by omega) _ _, cell_put2 c2 (by omega) _ _, cell_put2 c3 (by omega) _ _⟩)
      have BXn := Lib.hid (show HBox Fmake1 (w.heap.size + 1) (Hn.given t p) (A2) by rw [hU]; exact BR.out.put2 (Hn.given t p) (A2))
      replace BH := Lib.hid (show PBox Fmake1 (w.heap.size + 1 + 1) ((0, 0)) by rw [hU]; exact BH.out.put2o (by omega) _ _)
      replace OW := Lib.hid (show HOwn Fmake1 (w.heap.size + 3) (Hn.given t p) (A2) by rw [hU]; exact OW.out.put2o (OW.out.off_lt (by omega)) _ _)
      replace BB := Lib.hid (show Below w.heap.size w Fmake1 by rw [hU]; exact below_put2 BB.out (by omega) _ _)
      unfold wput2 at hU
      try dsimp only at hU
      first | rw [← hU] | skip
      clear hU z1 z2 zf1 zf2 BR
      have BR := BXn
      clear BXn
      refine hK.out _ _ (CS.out) (fun hHeldmake2 => ?_)
      clear hK K hHeld
      try simp only [Act.put, List.setIfInBounds_toArray, List.set_cons_zero, List.set_cons_succ]
      refine wpAnyH_ready (rs := [3]) (by kernel_rfl) (by simp) ?_
      refine AllReadyH.cons (o := Oper.mk _ _ _ _ _ _) rfl (fun K hK => ?_) AllReadyH.nil
      obtain ⟨_, z1, z2, zf1, zf2⟩ := BH.out
      try dsimp only [Ht.zero, hNone, List.length_nil] at z1 z2
      go_simp
      obtain ⟨Fmake2, hU⟩ : ∃ U, U = wput2 Fmake1 (w.heap.size + 1 + 1) (.int .i64 (Hn.hnd t).1) (.int .i64 (Hn.hnd t).2) := ⟨_, rfl⟩
      replace CS := Lib.hid (show Fmake2.cell? ⟨w4.heap.size, 0, none⟩ = some (.slice A2.g (Hn.given t p).gens.length A2.cg) ∧ Fmake2.cell? ⟨w4.heap.size, 1, none⟩ = some (.slice A2.a (Hn.given t p).ats.length A2.ca) ∧ Fmake2.cell? ⟨w4.heap.size + 1, 0, none⟩ = some (.int .i64 (Hn.hnd t).1) ∧ Fmake2.cell? ⟨w4.heap.size + 1, 1, none⟩ = some (.int .i64 (Hn.hnd t).2) by rw [hU]; obtain ⟨c0, c1, c2, c3⟩ := CS.out; exact ⟨cell_put2 c0 (by omega) _ _, cell_put2 c1 (by omega) _ _, cell_put2 c2 (by omega) _ _, cell_put2 c3 (by omega) _ _⟩)
      have BXn := Lib.hid (show PBox Fmake2 (w.heap.size + 1 + 1) (Hn.hnd t) by rw [hU]; exact BH.out.put2 (Hn.hnd t))
      replace BR := Lib.hid (show HBox Fmake2 (w.heap.size + 1) (Hn.given t p) (A2) by rw [hU]; exact BR.out.put2o (by omega) _ _)
      replace OW := Lib.hid (show HOwn Fmake2 (w.heap.size + 3) (Hn.given t p) (A2) by rw [hU]; exact OW.out.put2o (OW.out.off_lt (by omega)) _ _)
      replace BB := Lib.hid (show Below w.heap.size w Fmake2 by rw [hU]; exact below_put2 BB.out (by omega) _ _)
      unfold wput2 at hU
      try dsimp only at hU
      first | rw [← hU] | skip
      clear hU z1 z2 zf1 zf2 BH
      have BH := BXn
      clear BXn
      refine hK.out _ _ (CS.out) (fun hHeldmake3 => ?_)
      clear hK K hHeldmake2
      try simp only [Act.put, List.setIfInBounds_toArray, List.set_cons_zero, List.set_cons_succ]
      refine wpAnyH_take (i := 4) (oi := Oper.mk _ _ _ _ _ _) (v := ?vmake4) rfl (by kernel_rfl) (by kernel_rfl) (by kernel_rfl) (fun _ _ _ h => h) (Or.inl ⟨by rfl, ?hymake4⟩) (by assumption) ?restmake4
      case hymake4 =>
        intro w0 hSw
        try dsimp only at hSw
        go_simp
        all_goals with_reducible rfl
      try simp only [Act.put, List.setIfInBounds_toArray, List.set_cons_zero, List.set_cons_succ]
      refine wpAnyH_done (by kernel_rfl) ?_ _
      go_wp2
      obtain ⟨_, s0, s1, _, _⟩ := BR.out
      obtain ⟨_, v0, v1, _, _⟩ := BH.out
      refine bodyPost_ret (v := .tuple #[hv (Hn.given t p) A2, pv (Hn.hnd t), .int .i64 0]) (by simp [results, Try.results9, go_sem, hv, pv, s0, s1, v0, v1]) rfl (by unfold HAns3; rw [VV.out, EE.out, VH.out]; exact ⟨_, rfl, OW.out.lower (by omega), BB.out⟩)
  · have k1 : (placeE t p != 0) = true := by simpa using hc
    have EE := Lib.hid (make_not hc)
    have VV := Lib.hid (show Hn.makeV t p = Ht.zero by unfold Hn.makeV; rw [EE.out, if_neg hc])
    have VH := Lib.hid (show Hn.makeH t p = (0, 0) by unfold Hn.makeH; rw [EE.out, if_neg hc])
    clear hc CN CT
    obtain ⟨_, q0, q1, qf0, qf1⟩ := BR.out
    obtain ⟨_, r0, r1, rf0, rf1⟩ := BH.out
    dsimp only [Ht.zero, hNone, List.length_nil] at q0 q1
    dsimp only at r0 r1
    go_wp2
    obtain ⟨U, hU⟩ : ∃ U, U = wput2 (wput2 w1 (w.heap.size + 1) (.slice none 0 0) (.slice none 0 0)) (w.heap.size + 1 + 1) (.int .i64 0) (.int .i64 0) := ⟨_, rfl⟩
    have BR3 := Lib.hid (show HBox U (w.heap.size + 1) Ht.zero hNone by rw [hU]; exact (BR.out.put2 Ht.zero hNone).put2o (by omega) _ _)
    have BH3 := Lib.hid (show PBox U (w.heap.size + 1 + 1) (0, 0) by rw [hU]; exact (BH.out.put2o (by omega) _ _).put2 (0, 0))
    have BB3 := Lib.hid (show Below w.heap.size w U by rw [hU]; exact below_put2 (below_put2 BB.out (by omega) _ _) (by omega) _ _)
    unfold wput2 at hU
    rw [← hU]
    clear hU
    obtain ⟨_, s0, s1, _, _⟩ := BR3.out
    obtain ⟨_, v0, v1, _, _⟩ := BH3.out
    dsimp only at v0 v1
    dsimp only [Ht.zero, hNone, List.length_nil] at s0 s1
    refine bodyPost_ret (v := .tuple #[hv Ht.zero hNone, pv (0, 0), .int .i64 (placeE t p)]) (by simp [results, Try.results9, go_sem, hv, pv, Ht.zero, hNone, s0, s1, v0, v1]) rfl (by unfold HAns3; rw [VV.out, EE.out, VH.out]; exact ⟨_, rfl, own_zero _ _, BB3.out⟩)
end Go.Proofs.Ytephmejhglcdiaa
