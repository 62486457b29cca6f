/- What package handle's Drop returns. -/
import Derived.Test.YtephmejhglcdiaaHnG
import Derived.Test.YtephmejhglcdiaaHnF
namespace Go.Proofs.Ytephmejhglcdiaa
open Go.RowKit
set_option linter.unusedVariables false
set_option linter.unusedSimpArgs false

theorem held_of {w : World} {B : Nat} {t : Ht} {A : HAds} (h : HRows 3 w B t A) : HHeld w t A := h.own.held
set_option maxRecDepth 100000 in
set_option maxHeartbeats 8000000 in
theorem hDrop (t : Ht) (A : HAds) (x : Int × Int) (w : World) (h : HHeld w t A) (ok : t.Ok) (hs : t.Short) (h1 : In64 x.1) (h2 : In64 x.2) :
    Calls Try.prog 10 #[hv t A, pv x] w (HAns (Hn.dropV t x) (Hn.findE t x) w) := by
  obtain ⟨n, m⟩ := x
  have HB := Lib.hid (fun x y z => (((Below.refl w.heap.size w).alloc (Nat.le_refl _) x).alloc (by simp) y).alloc (by simp; omega) z)
  have HX := Lib.hid (fun x y => ((HBox.new w t A 24).below ((Below.refl _ _).alloc (Nat.le_refl _) x)).below ((Below.refl _ _).alloc (Nat.le_refl _) y))
  have HP := Lib.hid (fun x y => (PBox.new (w.alloc x) (n, m) 26).below ((Below.refl _ _).alloc (Nat.le_refl _) y))
  have HY := Lib.hid (fun x y => HBox.new ((w.alloc x).alloc y) Ht.zero hNone 24)
  have CC := Lib.hid (fun V (hb : Below w.heap.size w V) => hCheck t A V (h.below hb) ok hs)
  have CK := Lib.hid (fun V (hb : Below w.heap.size w V) hM => hKnown t A (n, m) V (h.below hb) hM)
  have CT := Lib.hid (fun V (hb : Below w.heap.size w V) => hCopied t A V (h.below hb) hs)
  clear h h1 h2 ok hs
  unfold hv pv at CK
  unfold hv at CC CT
  unfold hv pv
  dsimp only at CK ⊢
  go_enter Try.func10, Try.ntmps10
  go_upto_region 1 with (fail)
  obtain ⟨W0, hW0⟩ : ∃ W, W = ((w.alloc (.cells #[.slice A.g t.gens.length A.cg, .slice A.a t.ats.length A.ca] 24)).alloc (.cells #[.int .i64 n, .int .i64 m] 26)).alloc (.cells #[.slice none 0 0, .slice none 0 0] 24) := ⟨_, rfl⟩
  have BX := Lib.hid (show HBox W0 w.heap.size t A by rw [hW0]; exact HX.out _ _)
  have BP := Lib.hid (show PBox W0 (w.heap.size + 1) (n, m) by rw [hW0]; have := HP.out (.cells #[.slice A.g t.gens.length A.cg, .slice A.a t.ats.length A.ca] 24) (.cells #[.slice none 0 0, .slice none 0 0] 24); rw [World.size_alloc] at this; exact this)
  have BR := Lib.hid (show HBox W0 (w.heap.size + 1 + 1) Ht.zero hNone by rw [hW0]; have := HY.out (.cells #[.slice A.g t.gens.length A.cg, .slice A.a t.ats.length A.ca] 24) (.cells #[.int .i64 n, .int .i64 m] 26); rw [World.size_alloc, World.size_alloc] at this; exact this)
  have BB := Lib.hid (show Below w.heap.size w W0 by rw [hW0]; exact HB.out _ _ _)
  have z0 : w.heap.size + 3 ≤ W0.heap.size := by rw [hW0]; simp
  rw [← hW0]
  clear hW0 HB HX HP HY
  obtain ⟨_, p0, p1, _, _⟩ := BX.out
  go_wp2_with fail
  refine (CC.out W0 BB.out).mono ?_
  rintro e w1 ⟨rfl, hb⟩
  have z1 : W0.heap.size ≤ w1.heap.size := hb.size
  replace BX := Lib.hid (BX.out.below hb)
  replace BP := Lib.hid (BP.out.below hb)
  replace BR := Lib.hid (BR.out.below hb)
  replace BB := Lib.hid (BB.out.trans (hb.mono BB.out.size))
  clear hb p0 p1 CC
  obtain ⟨_, p0, p1, _, _⟩ := BX.out
  obtain ⟨_, r0, r1, _, _⟩ := BP.out
  dsimp only at r0 r1
  by_cases hc : Hn.chkE t = 0
  · have k1 : (Hn.chkE t != 0) = false := by simpa using hc
    have HC := Lib.hid hc
    have HM := Lib.hid (Hn.chk_may.1 HC.out)
    clear hc
    go_wp2_with fail
    refine (CK.out w1 BB.out HM.out).mono ?_
    rintro e w2 ⟨rfl, hb⟩
    have z2 : w1.heap.size ≤ w2.heap.size := hb.size
    replace BX := Lib.hid (BX.out.below hb)
    replace BP := Lib.hid (BP.out.below hb)
    replace BR := Lib.hid (BR.out.below hb)
    replace BB := Lib.hid (BB.out.trans (hb.mono BB.out.size))
    clear hb p0 p1 r0 r1 CK k1
    cases hi : Hn.isB t (n, m)
    · have EE := Lib.hid (show Hn.findE t (n, m) = 140 by unfold Hn.findE; rw [HC.out, if_pos rfl, hi, if_neg (by simp)])
      have VV := Lib.hid (show Hn.dropV t (n, m) = Ht.zero by unfold Hn.dropV; rw [EE.out, if_neg (by omega)])
      obtain ⟨_, q0, q1, qf0, qf1⟩ := BR.out
      dsimp only [Ht.zero, hNone, List.length_nil] at q0 q1
      go_wp2
      obtain ⟨U, hU⟩ : ∃ U, U = wput2 w2 (w.heap.size + 1 + 1) (.slice none 0 0) (.slice none 0 0) := ⟨_, rfl⟩
      have BR3 := Lib.hid (show HBox U (w.heap.size + 1 + 1) Ht.zero hNone by rw [hU]; exact BR.out.put2 Ht.zero hNone)
      have BB3 := Lib.hid (show Below w.heap.size w U by rw [hU]; exact below_put2 BB.out (by omega) _ _)
      unfold wput2 at hU
      rw [← hU]
      clear hU
      obtain ⟨_, s0, s1, _, _⟩ := BR3.out
      dsimp only [Ht.zero, hNone, List.length_nil] at s0 s1
      refine bodyPost_ret (v := .tuple #[hv Ht.zero hNone, .int .i64 (140)]) (by simp [results, Try.results10, go_sem, hv, pv, Ht.zero, hNone, s0, s1]) rfl (by unfold HAns; rw [VV.out, EE.out]; exact ⟨_, rfl, own_zero _ _, BB3.out⟩)
    · have EE := Lib.hid (show Hn.findE t (n, m) = 0 by unfold Hn.findE; rw [HC.out, if_pos rfl, hi, if_pos rfl])
      obtain ⟨i0, i1, i3, i4⟩ := (Hn.is_iff t (n, m)).1 hi
      dsimp only at i0 i1 i3 i4
      clear hi
      obtain ⟨k, rfl⟩ : ∃ k : Nat, n = k := ⟨n.toNat, by omega⟩
      rw [Int.toNat_natCast] at i3 i4
      have HK := Lib.hid (show k < t.gens.length by omega)
      have hmm := (HM.out.fine k HK.out)
      rw [i4] at hmm
      have VV := Lib.hid (show Hn.dropV t ((k : Int), m) = ⟨t.gens.set k (m + 1), t.ats.set k (-1)⟩ by
        unfold Hn.dropV
        rw [EE.out, if_pos rfl]
        dsimp only
        rw [Int.toNat_natCast]
        unfold Hn.back; rw [i4])
      have m1 : 0 ≤ m := hmm.1
      have m2 : m ≤ 2147483647 := hmm.2.1
      clear hmm i0 i1 i3 i4
      go_upto_region 6 with (fail)
      refine wp_region_held_drew (S := fun w' => w'.cell? ⟨w.heap.size, 0, none⟩ = some (.slice A.g t.gens.length A.cg) ∧ w'.cell? ⟨w.heap.size, 1, none⟩ = some (.slice A.a t.ats.length A.ca) ∧ w'.cell? ⟨w.heap.size + 1, 0, none⟩ = some (.int .i64 (k : Int)) ∧ w'.cell? ⟨w.heap.size + 1, 1, none⟩ = some (.int .i64 m)) (by kernel_rfl) (by exact ⟨(BX.out.below ((Below.refl _ _).drew)).c0, (BX.out.below ((Below.refl _ _).drew)).c1, (BP.out.below ((Below.refl _ _).drew)).c0, (BP.out.below ((Below.refl _ _).drew)).c1⟩) (fun hHeld => ?_)
      obtain ⟨V0, hV⟩ : ∃ V, V = w2.drew := ⟨_, rfl⟩
      replace BX := Lib.hid (show HBox V0 w.heap.size t A by rw [hV]; exact BX.out.below ((Below.refl _ _).drew))
      replace BP := Lib.hid (show PBox V0 (w.heap.size + 1) ((k : Int), m) by rw [hV]; exact BP.out.below ((Below.refl _ _).drew))
      replace BR := Lib.hid (show HBox V0 (w.heap.size + 1 + 1) Ht.zero hNone by rw [hV]; exact BR.out.below ((Below.refl _ _).drew))
      replace BB := Lib.hid (show Below w.heap.size w V0 by rw [hV]; exact BB.out.drew)
      have y0 : w2.heap.size = V0.heap.size := by rw [hV]; rfl
      rw [← hV] at hHeld ⊢
      clear hV
      refine wpAnyH_take (i := 0) (oi := Oper.mk _ _ _ _ _ _) (v := ?vdrop0) rfl (by kernel_rfl) (by kernel_rfl) (by kernel_rfl) (fun _ _ _ h => h) (Or.inl ⟨by rfl, ?hydrop0⟩) (by assumption) ?restdrop0
      case hydrop0 =>
        intro w0 hSw
        try dsimp only at hSw
        go_simp
        all_goals with_reducible rfl
      try simp only [Act.put, List.setIfInBounds_toArray, List.set_cons_zero, List.set_cons_succ]
      refine wpAnyH_take (i := 2) (oi := Oper.mk _ _ _ _ _ _) (v := ?vdrop1) rfl (by kernel_rfl) (by kernel_rfl) (by kernel_rfl) (fun _ _ _ h => h) (Or.inl ⟨by rfl, ?hydrop1⟩) (by assumption) ?restdrop1
      case hydrop1 =>
        intro w0 hSw
        try dsimp only at hSw
        go_simp
        all_goals with_reducible rfl
      try simp only [Act.put, List.setIfInBounds_toArray, List.set_cons_zero, List.set_cons_succ]
      refine wpAnyH_take (i := 3) (oi := Oper.mk _ _ _ _ _ _) (v := ?vdrop2) rfl (by kernel_rfl) (by kernel_rfl) (by kernel_rfl) (fun _ _ _ h => h) (Or.inl ⟨by rfl, ?hydrop2⟩) (by assumption) ?restdrop2
      case hydrop2 =>
        intro w0 hSw
        try dsimp only at hSw
        go_simp
        all_goals with_reducible rfl
      try simp only [Act.put, List.setIfInBounds_toArray, List.set_cons_zero, List.set_cons_succ]
      refine wpAnyH_take (i := 4) (oi := Oper.mk _ _ _ _ _ _) (v := ?vdrop3) rfl (by kernel_rfl) (by kernel_rfl) (by kernel_rfl) (fun _ _ _ h => h) (Or.inl ⟨by rfl, ?hydrop3⟩) (by assumption) ?restdrop3
      case hydrop3 =>
        intro w0 hSw
        try dsimp only at hSw
        go_simp
        all_goals with_reducible rfl
      try simp only [Act.put, List.setIfInBounds_toArray, List.set_cons_zero, List.set_cons_succ]
      refine wpAnyH_take (i := 5) (oi := Oper.mk _ _ _ _ _ _) (v := ?vdrop4) rfl (by kernel_rfl) (by kernel_rfl) (by kernel_rfl) (fun _ _ _ h => h) (Or.inl ⟨by rfl, ?hydrop4⟩) (by assumption) ?restdrop4
      case hydrop4 =>
        intro w0 hSw
        try dsimp only at hSw
        go_simp
        all_goals with_reducible rfl
      try simp only [Act.put, List.setIfInBounds_toArray, List.set_cons_zero, List.set_cons_succ]
      refine wpAnyH_take (i := 6) (oi := Oper.mk _ _ _ _ _ _) (v := ?vdrop5) rfl (by kernel_rfl) (by kernel_rfl) (by kernel_rfl) (fun _ _ _ h => h) (Or.inl ⟨by rfl, ?hydrop5⟩) (by assumption) ?restdrop5
      case hydrop5 =>
        intro w0 hSw
        try dsimp only at hSw
        go_simp
        all_goals with_reducible rfl
      try simp only [Act.put, List.setIfInBounds_toArray, List.set_cons_zero, List.set_cons_succ]
      refine wpAnyH_take (i := 7) (oi := Oper.mk _ _ _ _ _ _) (v := ?vdrop6) rfl (by kernel_rfl) (by kernel_rfl) (by kernel_rfl) (fun _ _ _ h => h) (Or.inl ⟨by rfl, ?hydrop6⟩) (by assumption) ?restdrop6
      case hydrop6 =>
        intro w0 hSw
        try dsimp only at hSw
        go_simp
        all_goals with_reducible rfl
      try simp only [Act.put, List.setIfInBounds_toArray, List.set_cons_zero, List.set_cons_succ]
      refine wpAnyH_ready (rs := [1]) (by kernel_rfl) (by simp) ?_
      refine AllReadyH.cons (o := Oper.mk _ _ _ _ _ _) rfl (fun K hK => ?_) AllReadyH.nil
      have ew : IntKind.i64.wrap (m + 1) = m + 1 := IntWalk.i64_in _ (by omega)
      simp only [ew]
      clear ew
      go_simp
      refine (CT.out V0 BB.out).mono ?_
      rintro e V1 ⟨A1, rfl, own, hb⟩
      try unfold hv
      try (go_simp)
      have y1 : V0.heap.size ≤ V1.heap.size := hb.size
      replace BX := Lib.hid (BX.out.below hb)
      replace BP := Lib.hid (BP.out.below hb)
      replace BR := Lib.hid (BR.out.below hb)
      replace BB := Lib.hid (BB.out.trans (hb.mono BB.out.size))
      have OR := Lib.hid own
      clear own hb
      refine hK.out _ _ (by exact ⟨BX.out.c0, BX.out.c1, BP.out.c0, BP.out.c1⟩) (fun hHelddrop7 => ?_)
      clear hK K hHeld
      try simp only [Act.put, List.setIfInBounds_toArray, List.set_cons_zero, List.set_cons_succ]
      refine wpAnyH_ready (rs := [8]) (by kernel_rfl) (by simp) ?_
      refine AllReadyH.cons (o := Oper.mk _ _ _ _ _ _) rfl (fun K hK => ?_) AllReadyH.nil
      go_simp
      refine (hLay t A1 k (m + 1) (-1) V0.heap.size V1 OR.out.own y1 HK.out HM.out.len).mono ?_
      rintro e V2 ⟨rfl, own, hb, _⟩
      try unfold hv
      try dsimp only
      have y2 : V1.heap.size ≤ V2.heap.size := hb.size
      replace BX := Lib.hid (BX.out.low (by omega) hb)
      replace BP := Lib.hid (BP.out.lowH (by omega) hb)
      replace BR := Lib.hid (BR.out.low (by omega) hb)
      replace BB := Lib.hid (BB.out.trans (hb.mono (by omega)))
      have OW := Lib.hid (own.lower (show w.heap.size + 3 ≤ V0.heap.size by omega))
      clear own hb OR
      refine hK.out _ _ (by exact ⟨BX.out.c0, BX.out.c1, BP.out.c0, BP.out.c1⟩) (fun hHelddrop8 => ?_)
      clear hK K hHelddrop7
      try simp only [Act.put, List.setIfInBounds_toArray, List.set_cons_zero, List.set_cons_succ]
      refine wpAnyH_ready (rs := [9]) (by kernel_rfl) (by simp) ?_
      refine AllReadyH.cons (o := Oper.mk _ _ _ _ _ _) rfl (fun K hK => ?_) AllReadyH.nil
      obtain ⟨_, q0, q1, qf0, qf1⟩ := BR.out
      dsimp only [Ht.zero, hNone, List.length_nil] at q0 q1
      go_simp
      obtain ⟨V3, hU⟩ : ∃ U, U = wput2 V2 (w.heap.size + 1 + 1) (.slice A1.g t.gens.length A1.cg) (.slice A1.a t.ats.length A1.ca) := ⟨_, rfl⟩
      have BY := Lib.hid (show HBox V3 (w.heap.size + 1 + 1) ⟨t.gens.set k (m + 1), t.ats.set k (-1)⟩ A1 by rw [hU]; have h9 := BR.out.put2 ⟨t.gens.set k (m + 1), t.ats.set k (-1)⟩ A1; simp only [List.length_set] at h9; exact h9)
      replace BX := Lib.hid (show HBox V3 w.heap.size t A by rw [hU]; exact BX.out.put2o (by omega) _ _)
      replace BP := Lib.hid (show PBox V3 (w.heap.size + 1) ((k : Int), m) by rw [hU]; exact BP.out.put2o (by omega) _ _)
      replace OW := Lib.hid (show HOwn V3 (w.heap.size + 3) ⟨t.gens.set k (m + 1), t.ats.set k (-1)⟩ A1 by rw [hU]; exact OW.out.put2 (by omega) _ _)
      replace BB := Lib.hid (show Below w.heap.size w V3 by rw [hU]; exact below_put2 BB.out (by omega) _ _)
      unfold wput2 at hU
      first | rw [← hU] | skip
      clear hU q0 q1 qf0 qf1 BR
      refine hK.out _ _ (by exact ⟨BX.out.c0, BX.out.c1, BP.out.c0, BP.out.c1⟩) (fun hHelddrop9 => ?_)
      clear hK K hHelddrop8
      try simp only [Act.put, List.setIfInBounds_toArray, List.set_cons_zero, List.set_cons_succ]
      refine wpAnyH_take (i := 10) (oi := Oper.mk _ _ _ _ _ _) (v := ?vdrop10) rfl (by kernel_rfl) (by kernel_rfl) (by kernel_rfl) (fun _ _ _ h => h) (Or.inl ⟨by rfl, ?hydrop10⟩) (by assumption) ?restdrop10
      case hydrop10 =>
        intro w0 hSw
        try dsimp only at hSw
        go_simp
        all_goals with_reducible rfl
      try simp only [Act.put, List.setIfInBounds_toArray, List.set_cons_zero, List.set_cons_succ]
      refine wpAnyH_done (by kernel_rfl) ?_ _
      go_wp2
      obtain ⟨_, s0, s1, _, _⟩ := BY.out
      simp only [List.length_set] at s0 s1
      refine bodyPost_ret (v := .tuple #[hv ⟨t.gens.set k (m + 1), t.ats.set k (-1)⟩ A1, .int .i64 0]) (by simp [results, Try.results10, go_sem, hv, s0, s1]) rfl (by unfold HAns; rw [VV.out, EE.out]; exact ⟨_, rfl, OW.out.lower (by omega), BB.out⟩)
  · have k1 : (Hn.chkE t != 0) = true := by simpa using hc
    have EE := Lib.hid (show Hn.findE t (n, m) = Hn.chkE t by unfold Hn.findE; rw [if_neg hc])
    have VV := Lib.hid (show Hn.dropV t (n, m) = Ht.zero by unfold Hn.dropV; rw [EE.out, if_neg hc])
    clear hc CK CT p0 p1 r0 r1
    obtain ⟨_, q0, q1, qf0, qf1⟩ := BR.out
    dsimp only [Ht.zero, hNone, List.length_nil] at q0 q1
    go_wp2
    obtain ⟨U, hU⟩ : ∃ U, U = wput2 w1 (w.heap.size + 1 + 1) (.slice none 0 0) (.slice none 0 0) := ⟨_, rfl⟩
    have BR3 := Lib.hid (show HBox U (w.heap.size + 1 + 1) Ht.zero hNone by rw [hU]; exact BR.out.put2 Ht.zero hNone)
    have BB3 := Lib.hid (show Below w.heap.size w U by rw [hU]; exact below_put2 BB.out (by omega) _ _)
    unfold wput2 at hU
    rw [← hU]
    clear hU
    obtain ⟨_, s0, s1, _, _⟩ := BR3.out
    dsimp only [Ht.zero, hNone, List.length_nil] at s0 s1
    refine bodyPost_ret (v := .tuple #[hv Ht.zero hNone, .int .i64 (Hn.chkE t)]) (by simp [results, Try.results10, go_sem, hv, pv, Ht.zero, hNone, s0, s1]) rfl (by unfold HAns; rw [VV.out, EE.out]; exact ⟨_, rfl, own_zero _ _, BB3.out⟩)
end Go.Proofs.Ytephmejhglcdiaa
