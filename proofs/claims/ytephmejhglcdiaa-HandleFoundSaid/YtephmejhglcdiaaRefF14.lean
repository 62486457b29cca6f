/- What the document's own answers of layer 14 (package shelfmarkref14) return: Find, Set, Drop, Make. -/
import Derived.Test.YtephmejhglcdiaaRefE14
namespace Go.Proofs.Ytephmejhglcdiaa
open Go.RowKit
set_option linter.unusedVariables false
set_option linter.unusedSimpArgs false

theorem chk_of_may {t : Ht} (h : Hn.mayB t = true) : Hn.chkE t = 0 := by unfold Hn.chkE; rw [h]; rfl
theorem chk_of_not {t : Ht} (h : Hn.mayB t = false) : Hn.chkE t = 8 := by unfold Hn.chkE; rw [h]; rfl
set_option maxRecDepth 100000 in
set_option maxHeartbeats 8000000 in
theorem r14Find (t : Ht) (A : HAds) (h : Int × Int) (w : World) (hh : HHeld w t A) :
    Calls Try.prog 21 #[hv t A, pv h] w fun e w' => e = .returned (.tuple #[.int .i64 (Hn.findV t h), .int .i64 (Hn.findE t h)]) ∧ Below w.heap.size w w' := by
  obtain ⟨ag, aa, cg, ca⟩ := A
  obtain ⟨n, m⟩ := h
  have HB := Lib.hid (fun x y => ((Below.refl w.heap.size w).alloc (Nat.le_refl _) x).alloc (by simp) y)
  have HX := Lib.hid (fun x => (HBox.new w t ⟨ag, aa, cg, ca⟩ 24).below ((Below.refl _ _).alloc (Nat.le_refl _) x))
  have HP := Lib.hid (fun x => PBox.new (w.alloc x) (n, m) 26)
  have CM := Lib.hid (fun V (hb : Below w.heap.size w V) => r14May t ⟨ag, aa, cg, ca⟩ V (hh.below hb))
  have CI := Lib.hid (fun V (hb : Below w.heap.size w V) hl => r14Is t ⟨ag, aa, cg, ca⟩ (n, m) V (hh.below hb) hl)
  have HH := Lib.hid hh
  clear hh
  unfold hv pv at CI
  unfold hv at CM
  unfold hv pv
  dsimp only at CM CI ⊢
  go_enter Try.func21, Try.ntmps21
  go_upto_region 1 with (fail)
  obtain ⟨W0, hW0⟩ : ∃ W, W = (w.alloc (.cells #[.slice ag t.gens.length cg, .slice aa t.ats.length ca] 24)).alloc (.cells #[.int .i64 n, .int .i64 m] 26) := ⟨_, rfl⟩
  have BX := Lib.hid (show HBox W0 w.heap.size t ⟨ag, aa, cg, ca⟩ by rw [hW0]; exact HX.out _)
  have BP := Lib.hid (show PBox W0 (w.heap.size + 1) (n, m) by rw [hW0]; have := HP.out (.cells #[.slice ag t.gens.length cg, .slice aa t.ats.length ca] 24); rw [World.size_alloc] at this; exact this)
  have BB := Lib.hid (show Below w.heap.size w W0 by rw [hW0]; exact HB.out _ _)
  rw [← hW0]
  clear hW0 HB HX HP
  obtain ⟨_, p0, p1, _, _⟩ := BX.out
  dsimp only at p0 p1
  go_wp2_with fail
  refine (CM.out W0 BB.out).mono ?_
  rintro e w1 ⟨rfl, hb⟩
  replace BX := Lib.hid (BX.out.below hb)
  replace BP := Lib.hid (BP.out.below hb)
  replace BB := Lib.hid (BB.out.trans (hb.mono BB.out.size))
  clear hb p0 p1 CM
  obtain ⟨_, p0, p1, _, _⟩ := BX.out
  obtain ⟨_, r0, r1, _, _⟩ := BP.out
  dsimp only at p0 p1 r0 r1
  cases hm : Hn.mayB t
  · have CE := Lib.hid (chk_of_not hm)
    have EE := Lib.hid (show Hn.findE t (n, m) = 8 by unfold Hn.findE; rw [CE.out, if_neg (by omega)])
    have VV := Lib.hid (show Hn.findV t (n, m) = 0 by unfold Hn.findV; rw [EE.out, if_neg (by omega)])
    go_wp2
    go_ret2
    rw [EE.out, VV.out]
    exact ⟨rfl, BB.out⟩
  have CE := Lib.hid (chk_of_may hm)
  have hM := (Hn.may_iff t).1 hm
  have HL := Lib.hid hM.len
  go_wp2_with fail
  refine (CI.out w1 BB.out HL.out).mono ?_
  rintro e w2 ⟨rfl, hb⟩
  replace BX := Lib.hid (BX.out.below hb)
  replace BP := Lib.hid (BP.out.below hb)
  replace BB := Lib.hid (BB.out.trans (hb.mono BB.out.size))
  clear hb p0 p1 r0 r1 CI
  obtain ⟨_, p0, p1, _, _⟩ := BX.out
  obtain ⟨_, r0, r1, _, _⟩ := BP.out
  dsimp only at p0 p1 r0 r1
  cases hi : Hn.isB t (n, m)
  · have EE := Lib.hid (show Hn.findE t (n, m) = 140 by unfold Hn.findE; rw [CE.out, if_pos rfl, hi, if_neg (by simp)])
    have VV := Lib.hid (show Hn.findV t (n, m) = 0 by unfold Hn.findV; rw [EE.out, if_neg (by omega)])
    go_wp2
    go_ret2
    rw [EE.out, VV.out]
    exact ⟨rfl, BB.out⟩
  have EE := Lib.hid (show Hn.findE t (n, m) = 0 by unfold Hn.findE; rw [CE.out, if_pos rfl, hi, if_pos rfl])
  obtain ⟨i1, i2, _, _⟩ := (Hn.is_iff t (n, m)).1 hi
  dsimp only at i1 i2
  obtain ⟨k, rfl⟩ : ∃ k : Nat, n = k := ⟨n.toNat, by omega⟩
  have VV := Lib.hid (show Hn.findV t ((k : Int), m) = Hn.a t k by unfold Hn.findV; rw [EE.out, if_pos rfl]; rfl)
  have hk : k < t.ats.length := by rw [HL.out]; omega
  obtain ⟨b, o, hA, hl, c1⟩ := HH.out.ats.cell hk
  replace c1 := (BB.out.cell (p := ⟨b, o + k, none⟩) hl).trans c1
  dsimp only at hA
  subst hA
  have i3 : (k : Int) < (t.ats.length : Int) := by omega
  rw [show t.ats.getD k 0 = Hn.a t k from rfl] at c1
  go_wp2
  go_ret2
  rw [EE.out, VV.out]
  exact ⟨rfl, BB.out⟩
set_option maxRecDepth 100000 in
set_option maxHeartbeats 8000000 in
theorem r14Set (t : Ht) (A : HAds) (h : Int × Int) (p : Int) (w : World) (hh : HHeld w t A) :
    Calls Try.prog 27 #[hv t A, pv h, .int .i64 p] w (HAns (Hn.setV t h p) (Hn.setE t h p) w) := by
  obtain ⟨n, m⟩ := h
  have HB := Lib.hid (fun x y z => (((Below.refl w.heap.size w).alloc (Nat.le_refl _) x).alloc (by simp) y).alloc (by simp; omega) z)
  have HX := Lib.hid (fun x y => ((HBox.new w t A 24).below ((Below.refl _ _).alloc (Nat.le_refl _) x)).below ((Below.refl _ _).alloc (Nat.le_refl _) y))
  have HP := Lib.hid (fun x y => (PBox.new (w.alloc x) (n, m) 26).below ((Below.refl _ _).alloc (Nat.le_refl _) y))
  have HY := Lib.hid (fun x y => HBox.new ((w.alloc x).alloc y) Ht.zero hNone 24)
  have CM := Lib.hid (fun V (hb : Below w.heap.size w V) => r14May t A V (hh.below hb))
  have CI := Lib.hid (fun V (hb : Below w.heap.size w V) hl => r14Is t A (n, m) V (hh.below hb) hl)
  have CC := Lib.hid (fun V (hb : Below w.heap.size w V) k hm hk => r14Moved t A k p V (hh.below hb) (Ht.short_of hm) hk)
  have HH := Lib.hid hh
  clear hh
  unfold hv pv at CI
  unfold hv at CM CC
  unfold hv pv
  dsimp only at CI ⊢
  go_enter Try.func27, Try.ntmps27
  go_upto_region 1 with (fail)
  obtain ⟨W0, hW0⟩ : ∃ W, W = ((w.alloc (.cells #[.slice A.g t.gens.length A.cg, .slice A.a t.ats.length A.ca] 24)).alloc (.cells #[.int .i64 n, .int .i64 m] 26)).alloc (.cells #[.slice none 0 0, .slice none 0 0] 24) := ⟨_, rfl⟩
  have BX := Lib.hid (show HBox W0 w.heap.size t A by rw [hW0]; exact HX.out _ _)
  have BP := Lib.hid (show PBox W0 (w.heap.size + 1) (n, m) by rw [hW0]; have := HP.out (.cells #[.slice A.g t.gens.length A.cg, .slice A.a t.ats.length A.ca] 24) (.cells #[.slice none 0 0, .slice none 0 0] 24); rw [World.size_alloc] at this; exact this)
  have BR := Lib.hid (show HBox W0 (w.heap.size + 1 + 1) Ht.zero hNone by rw [hW0]; have := HY.out (.cells #[.slice A.g t.gens.length A.cg, .slice A.a t.ats.length A.ca] 24) (.cells #[.int .i64 n, .int .i64 m] 26); rw [World.size_alloc, World.size_alloc] at this; exact this)
  have BB := Lib.hid (show Below w.heap.size w W0 by rw [hW0]; exact HB.out _ _ _)
  have z0 : w.heap.size + 3 ≤ W0.heap.size := by rw [hW0]; simp
  rw [← hW0]
  clear hW0 HB HX HP HY
  obtain ⟨_, p0, p1, _, _⟩ := BX.out
  go_wp2_with fail
  refine (CM.out W0 BB.out).mono ?_
  rintro e w1 ⟨rfl, hb⟩
  have z1 : W0.heap.size ≤ w1.heap.size := hb.size
  replace BX := Lib.hid (BX.out.below hb)
  replace BP := Lib.hid (BP.out.below hb)
  replace BR := Lib.hid (BR.out.below hb)
  replace BB := Lib.hid (BB.out.trans (hb.mono BB.out.size))
  clear hb p0 p1 CM
  obtain ⟨_, p0, p1, _, _⟩ := BX.out
  obtain ⟨_, r0, r1, _, _⟩ := BP.out
  dsimp only at r0 r1
  cases hm : Hn.mayB t
  · have EE := Lib.hid (show Hn.setE t (n, m) p = 8 by unfold Hn.setE; rw [chk_of_not hm, if_neg (by omega)])
    have VV := Lib.hid (show Hn.setV t (n, m) p = Ht.zero by unfold Hn.setV; rw [EE.out, if_neg (by omega)])
    obtain ⟨_, q0, q1, qf0, qf1⟩ := BR.out
    dsimp only [Ht.zero, hNone, List.length_nil] at q0 q1
    go_wp2
    obtain ⟨U, hU⟩ : ∃ U, U = wput2 w1 (w.heap.size + 1 + 1) (.slice none 0 0) (.slice none 0 0) := ⟨_, rfl⟩
    have BR3 := Lib.hid (show HBox U (w.heap.size + 1 + 1) Ht.zero hNone by rw [hU]; exact BR.out.put2 Ht.zero hNone)
    have BB3 := Lib.hid (show Below w.heap.size w U by rw [hU]; exact below_put2 BB.out (by omega) _ _)
    unfold wput2 at hU
    rw [← hU]
    clear hU
    obtain ⟨_, s0, s1, _, _⟩ := BR3.out
    dsimp only [Ht.zero, hNone, List.length_nil] at s0 s1
    refine bodyPost_ret (v := .tuple #[hv Ht.zero hNone, .int .i64 8]) (by simp [results, Try.results27, go_sem, hv, pv, Ht.zero, hNone, s0, s1]) rfl (by unfold HAns; rw [VV.out, EE.out]; exact ⟨_, rfl, own_zero _ _, BB3.out⟩)
  have CE := Lib.hid (chk_of_may hm)
  have hM := (Hn.may_iff t).1 hm
  have HL := Lib.hid hM.len
  have MM := Lib.hid hM
  by_cases hp : p < 0
  · have EE := Lib.hid (show Hn.setE t (n, m) p = 2 by unfold Hn.setE; rw [CE.out, if_pos rfl, if_pos hp])
    have VV := Lib.hid (show Hn.setV t (n, m) p = Ht.zero by unfold Hn.setV; rw [EE.out, if_neg (by omega)])
    obtain ⟨_, q0, q1, qf0, qf1⟩ := BR.out
    dsimp only [Ht.zero, hNone, List.length_nil] at q0 q1
    go_wp2
    obtain ⟨U, hU⟩ : ∃ U, U = wput2 w1 (w.heap.size + 1 + 1) (.slice none 0 0) (.slice none 0 0) := ⟨_, rfl⟩
    have BR3 := Lib.hid (show HBox U (w.heap.size + 1 + 1) Ht.zero hNone by rw [hU]; exact BR.out.put2 Ht.zero hNone)
    have BB3 := Lib.hid (show Below w.heap.size w U by rw [hU]; exact below_put2 BB.out (by omega) _ _)
    unfold wput2 at hU
    rw [← hU]
    clear hU
    obtain ⟨_, s0, s1, _, _⟩ := BR3.out
    dsimp only [Ht.zero, hNone, List.length_nil] at s0 s1
    refine bodyPost_ret (v := .tuple #[hv Ht.zero hNone, .int .i64 2]) (by simp [results, Try.results27, go_sem, hv, pv, Ht.zero, hNone, s0, s1]) rfl (by unfold HAns; rw [VV.out, EE.out]; exact ⟨_, rfl, own_zero _ _, BB3.out⟩)
  go_wp2_with fail
  refine (CI.out w1 BB.out HL.out).mono ?_
  rintro e w2 ⟨rfl, hb⟩
  have z2 : w1.heap.size ≤ w2.heap.size := hb.size
  replace BX := Lib.hid (BX.out.below hb)
  replace BP := Lib.hid (BP.out.below hb)
  replace BR := Lib.hid (BR.out.below hb)
  replace BB := Lib.hid (BB.out.trans (hb.mono BB.out.size))
  clear hb p0 p1 r0 r1 CI
  obtain ⟨_, p0, p1, _, _⟩ := BX.out
  obtain ⟨_, r0, r1, _, _⟩ := BP.out
  dsimp only at r0 r1
  cases hi : Hn.isB t (n, m)
  · have EE := Lib.hid (show Hn.setE t (n, m) p = 140 by unfold Hn.setE; rw [CE.out, if_pos rfl, if_neg (by omega), hi, if_neg (by simp)])
    have VV := Lib.hid (show Hn.setV t (n, m) p = Ht.zero by unfold Hn.setV; rw [EE.out, if_neg (by omega)])
    obtain ⟨_, q0, q1, qf0, qf1⟩ := BR.out
    dsimp only [Ht.zero, hNone, List.length_nil] at q0 q1
    go_wp2
    obtain ⟨U, hU⟩ : ∃ U, U = wput2 w2 (w.heap.size + 1 + 1) (.slice none 0 0) (.slice none 0 0) := ⟨_, rfl⟩
    have BR3 := Lib.hid (show HBox U (w.heap.size + 1 + 1) Ht.zero hNone by rw [hU]; exact BR.out.put2 Ht.zero hNone)
    have BB3 := Lib.hid (show Below w.heap.size w U by rw [hU]; exact below_put2 BB.out (by omega) _ _)
    unfold wput2 at hU
    rw [← hU]
    clear hU
    obtain ⟨_, s0, s1, _, _⟩ := BR3.out
    dsimp only [Ht.zero, hNone, List.length_nil] at s0 s1
    refine bodyPost_ret (v := .tuple #[hv Ht.zero hNone, .int .i64 140]) (by simp [results, Try.results27, go_sem, hv, pv, Ht.zero, hNone, s0, s1]) rfl (by unfold HAns; rw [VV.out, EE.out]; exact ⟨_, rfl, own_zero _ _, BB3.out⟩)
  have EE := Lib.hid (show Hn.setE t (n, m) p = 0 by unfold Hn.setE; rw [CE.out, if_pos rfl, if_neg (by omega), hi, if_pos rfl])
  obtain ⟨i1, i2, _, _⟩ := (Hn.is_iff t (n, m)).1 hi
  dsimp only at i1 i2
  obtain ⟨k, rfl⟩ : ∃ k : Nat, n = k := ⟨n.toNat, by omega⟩
  have VV := Lib.hid (show Hn.setV t ((k : Int), m) p = Hn.moved t k p by unfold Hn.setV; rw [EE.out, if_pos rfl]; rfl)
  have hk : k < t.ats.length := by rw [HL.out]; omega
  go_wp2_with fail
  refine (CC.out w2 BB.out k MM.out hk).mono ?_
  rintro e w3 ⟨A1, rfl, own, hb⟩
  have z3 : w2.heap.size ≤ w3.heap.size := hb.size
  replace BR := Lib.hid (BR.out.below hb)
  replace BB := Lib.hid (BB.out.trans (hb.mono BB.out.size))
  have OX := Lib.hid own
  clear own hb p0 p1 r0 r1
  unfold hv
  obtain ⟨M, hM⟩ : ∃ M, M = Hn.moved t k p := ⟨_, rfl⟩
  rw [← hM] at VV OX ⊢
  clear hM
  obtain ⟨_, q0, q1, qf0, qf1⟩ := BR.out
  dsimp only [Ht.zero, hNone, List.length_nil] at q0 q1
  go_wp2
  obtain ⟨U, hU⟩ : ∃ U, U = wput2 w3 (w.heap.size + 1 + 1) (.slice A1.g M.gens.length A1.cg) (.slice A1.a M.ats.length A1.ca) := ⟨_, rfl⟩
  have BY := Lib.hid (show HBox U (w.heap.size + 1 + 1) M A1 by rw [hU]; exact BR.out.put2 M A1)
  have OZ := Lib.hid (show HOwn U w.heap.size M A1 by rw [hU]; exact (OX.out.put2o (OX.out.off_lt (by omega)) _ _).lower (by omega))
  have BZ := Lib.hid (show Below w.heap.size w U by rw [hU]; exact below_put2 BB.out (by omega) _ _)
  unfold wput2 at hU
  rw [← hU]
  clear hU
  obtain ⟨_, s0, s1, _, _⟩ := BY.out
  refine bodyPost_ret (v := .tuple #[hv M A1, .int .i64 0]) (by simp [results, Try.results27, go_sem, hv, s0, s1]) rfl (by unfold HAns; rw [VV.out, EE.out]; exact ⟨_, rfl, OZ.out, BZ.out⟩)
set_option maxRecDepth 100000 in
set_option maxHeartbeats 8000000 in
theorem r14Drop (t : Ht) (A : HAds) (h : Int × Int) (w : World) (hh : HHeld w t A) :
    Calls Try.prog 28 #[hv t A, pv h] w (HAns (Hn.dropV t h) (Hn.findE t h) w) := by
  obtain ⟨n, m⟩ := h
  have HB := Lib.hid (fun x y z => (((Below.refl w.heap.size w).alloc (Nat.le_refl _) x).alloc (by simp) y).alloc (by simp; omega) z)
  have HX := Lib.hid (fun x y => ((HBox.new w t A 24).below ((Below.refl _ _).alloc (Nat.le_refl _) x)).below ((Below.refl _ _).alloc (Nat.le_refl _) y))
  have HP := Lib.hid (fun x y => (PBox.new (w.alloc x) (n, m) 26).below ((Below.refl _ _).alloc (Nat.le_refl _) y))
  have HY := Lib.hid (fun x y => HBox.new ((w.alloc x).alloc y) Ht.zero hNone 24)
  have CM := Lib.hid (fun V (hb : Below w.heap.size w V) => r14May t A V (hh.below hb))
  have CI := Lib.hid (fun V (hb : Below w.heap.size w V) hl => r14Is t A (n, m) V (hh.below hb) hl)
  have CC := Lib.hid (fun V (hb : Below w.heap.size w V) k hm hk hk2 hg => r14Back t A k V (hh.below hb) (Ht.short_of hm) hk hk2 hg)
  have HH := Lib.hid hh
  clear hh
  unfold hv pv at CI
  unfold hv at CM CC
  unfold hv pv
  dsimp only at CI ⊢
  go_enter Try.func28, Try.ntmps28
  go_upto_region 1 with (fail)
  obtain ⟨W0, hW0⟩ : ∃ W, W = ((w.alloc (.cells #[.slice A.g t.gens.length A.cg, .slice A.a t.ats.length A.ca] 24)).alloc (.cells #[.int .i64 n, .int .i64 m] 26)).alloc (.cells #[.slice none 0 0, .slice none 0 0] 24) := ⟨_, rfl⟩
  have BX := Lib.hid (show HBox W0 w.heap.size t A by rw [hW0]; exact HX.out _ _)
  have BP := Lib.hid (show PBox W0 (w.heap.size + 1) (n, m) by rw [hW0]; have := HP.out (.cells #[.slice A.g t.gens.length A.cg, .slice A.a t.ats.length A.ca] 24) (.cells #[.slice none 0 0, .slice none 0 0] 24); rw [World.size_alloc] at this; exact this)
  have BR := Lib.hid (show HBox W0 (w.heap.size + 1 + 1) Ht.zero hNone by rw [hW0]; have := HY.out (.cells #[.slice A.g t.gens.length A.cg, .slice A.a t.ats.length A.ca] 24) (.cells #[.int .i64 n, .int .i64 m] 26); rw [World.size_alloc, World.size_alloc] at this; exact this)
  have BB := Lib.hid (show Below w.heap.size w W0 by rw [hW0]; exact HB.out _ _ _)
  have z0 : w.heap.size + 3 ≤ W0.heap.size := by rw [hW0]; simp
  rw [← hW0]
  clear hW0 HB HX HP HY
  obtain ⟨_, p0, p1, _, _⟩ := BX.out
  go_wp2_with fail
  refine (CM.out W0 BB.out).mono ?_
  rintro e w1 ⟨rfl, hb⟩
  have z1 : W0.heap.size ≤ w1.heap.size := hb.size
  replace BX := Lib.hid (BX.out.below hb)
  replace BP := Lib.hid (BP.out.below hb)
  replace BR := Lib.hid (BR.out.below hb)
  replace BB := Lib.hid (BB.out.trans (hb.mono BB.out.size))
  clear hb p0 p1 CM
  obtain ⟨_, p0, p1, _, _⟩ := BX.out
  obtain ⟨_, r0, r1, _, _⟩ := BP.out
  dsimp only at r0 r1
  cases hm : Hn.mayB t
  · have EE := Lib.hid (show Hn.findE t (n, m) = 8 by unfold Hn.findE; rw [chk_of_not hm, if_neg (by omega)])
    have VV := Lib.hid (show Hn.dropV t (n, m) = Ht.zero by unfold Hn.dropV; rw [EE.out, if_neg (by omega)])
    obtain ⟨_, q0, q1, qf0, qf1⟩ := BR.out
    dsimp only [Ht.zero, hNone, List.length_nil] at q0 q1
    go_wp2
    obtain ⟨U, hU⟩ : ∃ U, U = wput2 w1 (w.heap.size + 1 + 1) (.slice none 0 0) (.slice none 0 0) := ⟨_, rfl⟩
    have BR3 := Lib.hid (show HBox U (w.heap.size + 1 + 1) Ht.zero hNone by rw [hU]; exact BR.out.put2 Ht.zero hNone)
    have BB3 := Lib.hid (show Below w.heap.size w U by rw [hU]; exact below_put2 BB.out (by omega) _ _)
    unfold wput2 at hU
    rw [← hU]
    clear hU
    obtain ⟨_, s0, s1, _, _⟩ := BR3.out
    dsimp only [Ht.zero, hNone, List.length_nil] at s0 s1
    refine bodyPost_ret (v := .tuple #[hv Ht.zero hNone, .int .i64 8]) (by simp [results, Try.results28, go_sem, hv, pv, Ht.zero, hNone, s0, s1]) rfl (by unfold HAns; rw [VV.out, EE.out]; exact ⟨_, rfl, own_zero _ _, BB3.out⟩)
  have CE := Lib.hid (chk_of_may hm)
  have hM := (Hn.may_iff t).1 hm
  have HL := Lib.hid hM.len
  have MM := Lib.hid hM
  go_wp2_with fail
  refine (CI.out w1 BB.out HL.out).mono ?_
  rintro e w2 ⟨rfl, hb⟩
  have z2 : w1.heap.size ≤ w2.heap.size := hb.size
  replace BX := Lib.hid (BX.out.below hb)
  replace BP := Lib.hid (BP.out.below hb)
  replace BR := Lib.hid (BR.out.below hb)
  replace BB := Lib.hid (BB.out.trans (hb.mono BB.out.size))
  clear hb p0 p1 r0 r1 CI
  obtain ⟨_, p0, p1, _, _⟩ := BX.out
  obtain ⟨_, r0, r1, _, _⟩ := BP.out
  dsimp only at r0 r1
  cases hi : Hn.isB t (n, m)
  · have EE := Lib.hid (show Hn.findE t (n, m) = 140 by unfold Hn.findE; rw [CE.out, if_pos rfl, hi, if_neg (by simp)])
    have VV := Lib.hid (show Hn.dropV t (n, m) = Ht.zero by unfold Hn.dropV; rw [EE.out, if_neg (by omega)])
    obtain ⟨_, q0, q1, qf0, qf1⟩ := BR.out
    dsimp only [Ht.zero, hNone, List.length_nil] at q0 q1
    go_wp2
    obtain ⟨U, hU⟩ : ∃ U, U = wput2 w2 (w.heap.size + 1 + 1) (.slice none 0 0) (.slice none 0 0) := ⟨_, rfl⟩
    have BR3 := Lib.hid (show HBox U (w.heap.size + 1 + 1) Ht.zero hNone by rw [hU]; exact BR.out.put2 Ht.zero hNone)
    have BB3 := Lib.hid (show Below w.heap.size w U by rw [hU]; exact below_put2 BB.out (by omega) _ _)
    unfold wput2 at hU
    rw [← hU]
    clear hU
    obtain ⟨_, s0, s1, _, _⟩ := BR3.out
    dsimp only [Ht.zero, hNone, List.length_nil] at s0 s1
    refine bodyPost_ret (v := .tuple #[hv Ht.zero hNone, .int .i64 140]) (by simp [results, Try.results28, go_sem, hv, pv, Ht.zero, hNone, s0, s1]) rfl (by unfold HAns; rw [VV.out, EE.out]; exact ⟨_, rfl, own_zero _ _, BB3.out⟩)
  have EE := Lib.hid (show Hn.findE t (n, m) = 0 by unfold Hn.findE; rw [CE.out, if_pos rfl, hi, if_pos rfl])
  obtain ⟨i1, i2, _, _⟩ := (Hn.is_iff t (n, m)).1 hi
  dsimp only at i1 i2
  obtain ⟨k, rfl⟩ : ∃ k : Nat, n = k := ⟨n.toNat, by omega⟩
  have VV := Lib.hid (show Hn.dropV t ((k : Int), m) = Hn.back t k by unfold Hn.dropV; rw [EE.out, if_pos rfl]; rfl)
  have hk2 : k < t.gens.length := by omega
  have hk : k < t.ats.length := by rw [HL.out]; omega
  have hg : 0 ≤ Hn.g t k ∧ Hn.g t k ≤ 2147483647 := ⟨(MM.out.fine k hk2).1, (MM.out.fine k hk2).2.1⟩
  go_wp2_with fail
  refine (CC.out w2 BB.out k MM.out hk hk2 hg).mono ?_
  rintro e w3 ⟨A1, rfl, own, hb⟩
  have z3 : w2.heap.size ≤ w3.heap.size := hb.size
  replace BR := Lib.hid (BR.out.below hb)
  replace BB := Lib.hid (BB.out.trans (hb.mono BB.out.size))
  have OX := Lib.hid own
  clear own hb p0 p1 r0 r1
  unfold hv
  obtain ⟨M, hM⟩ : ∃ M, M = Hn.back t k := ⟨_, rfl⟩
  rw [← hM] at VV OX ⊢
  clear hM
  obtain ⟨_, q0, q1, qf0, qf1⟩ := BR.out
  dsimp only [Ht.zero, hNone, List.length_nil] at q0 q1
  go_wp2
  obtain ⟨U, hU⟩ : ∃ U, U = wput2 w3 (w.heap.size + 1 + 1) (.slice A1.g M.gens.length A1.cg) (.slice A1.a M.ats.length A1.ca) := ⟨_, rfl⟩
  have BY := Lib.hid (show HBox U (w.heap.size + 1 + 1) M A1 by rw [hU]; exact BR.out.put2 M A1)
  have OZ := Lib.hid (show HOwn U w.heap.size M A1 by rw [hU]; exact (OX.out.put2o (OX.out.off_lt (by omega)) _ _).lower (by omega))
  have BZ := Lib.hid (show Below w.heap.size w U by rw [hU]; exact below_put2 BB.out (by omega) _ _)
  unfold wput2 at hU
  rw [← hU]
  clear hU
  obtain ⟨_, s0, s1, _, _⟩ := BY.out
  refine bodyPost_ret (v := .tuple #[hv M A1, .int .i64 0]) (by simp [results, Try.results28, go_sem, hv, s0, s1]) rfl (by unfold HAns; rw [VV.out, EE.out]; exact ⟨_, rfl, OZ.out, BZ.out⟩)
set_option maxRecDepth 100000 in
set_option maxHeartbeats 8000000 in
theorem r14Make (t : Ht) (A : HAds) (p : Int) (w : World) (hh : HHeld w t A) :
    Calls Try.prog 26 #[hv t A, .int .i64 p] w (HAns3 (Hn.makeV t p) (Hn.makeH t p) (Hn.makeE t p) w) := by
  have HB := Lib.hid (fun x y z => (((Below.refl w.heap.size w).alloc (Nat.le_refl _) x).alloc (by simp) y).alloc (by simp; omega) z)
  have HX := Lib.hid (fun x y => ((HBox.new w t A 24).below ((Below.refl _ _).alloc (Nat.le_refl _) x)).below ((Below.refl _ _).alloc (Nat.le_refl _) y))
  have HY := Lib.hid (fun x y => (HBox.new (w.alloc x) Ht.zero hNone 24).below ((Below.refl _ _).alloc (Nat.le_refl _) y))
  have HZ := Lib.hid (fun x y => PBox.new ((w.alloc x).alloc y) (0, 0) 26)
  have CM := Lib.hid (fun V (hb : Below w.heap.size w V) => r14May t A V (hh.below hb))
  have CC := Lib.hid (fun V (hb : Below w.heap.size w V) hm => r14Given t A p V (hh.below hb) hm)
  clear hh
  unfold hv at CM CC
  unfold hv
  go_enter Try.func26, Try.ntmps26
  go_upto_region 1 with (fail)
  obtain ⟨W0, hW0⟩ : ∃ W, W = ((w.alloc (.cells #[.slice A.g t.gens.length A.cg, .slice A.a t.ats.length A.ca] 24)).alloc (.cells #[.slice none 0 0, .slice none 0 0] 24)).alloc (.cells #[.int .i64 0, .int .i64 0] 26) := ⟨_, rfl⟩
  have BX := Lib.hid (show HBox W0 w.heap.size t A by rw [hW0]; exact HX.out _ _)
  have BR := Lib.hid (show HBox W0 (w.heap.size + 1) Ht.zero hNone by rw [hW0]; have := HY.out (.cells #[.slice A.g t.gens.length A.cg, .slice A.a t.ats.length A.ca] 24) (.cells #[.int .i64 0, .int .i64 0] 26); rw [World.size_alloc] at this; exact this)
  have BH := Lib.hid (show PBox W0 (w.heap.size + 1 + 1) (0, 0) by rw [hW0]; have := HZ.out (.cells #[.slice A.g t.gens.length A.cg, .slice A.a t.ats.length A.ca] 24) (.cells #[.slice none 0 0, .slice none 0 0] 24); rw [World.size_alloc, World.size_alloc] at this; exact this)
  have BB := Lib.hid (show Below w.heap.size w W0 by rw [hW0]; exact HB.out _ _ _)
  have z0 : w.heap.size + 3 ≤ W0.heap.size := by rw [hW0]; simp
  rw [← hW0]
  clear hW0 HB HX HY HZ
  obtain ⟨_, p0, p1, _, _⟩ := BX.out
  go_wp2_with fail
  refine (CM.out W0 BB.out).mono ?_
  rintro e w1 ⟨rfl, hb⟩
  have z1 : W0.heap.size ≤ w1.heap.size := hb.size
  replace BX := Lib.hid (BX.out.below hb)
  replace BR := Lib.hid (BR.out.below hb)
  replace BH := Lib.hid (BH.out.below hb)
  replace BB := Lib.hid (BB.out.trans (hb.mono BB.out.size))
  clear hb p0 p1 CM
  obtain ⟨_, p0, p1, _, _⟩ := BX.out
  cases hm : Hn.mayB t
  · have EE := Lib.hid (show Hn.makeE t p = 8 by unfold Hn.makeE; rw [chk_of_not hm, if_neg (by omega)])
    have VV := Lib.hid (show Hn.makeV t p = Ht.zero by unfold Hn.makeV; rw [EE.out, if_neg (by omega)])
    have VH := Lib.hid (show Hn.makeH t p = (0, 0) by unfold Hn.makeH; rw [EE.out, if_neg (by omega)])
    obtain ⟨_, q0, q1, qf0, qf1⟩ := BR.out
    obtain ⟨_, r0, r1, rf0, rf1⟩ := BH.out
    dsimp only [Ht.zero, hNone, List.length_nil] at q0 q1
    go_wp2
    obtain ⟨U, hU⟩ : ∃ U, U = wput2 (wput2 w1 (w.heap.size + 1) (.slice none 0 0) (.slice none 0 0)) (w.heap.size + 1 + 1) (.int .i64 0) (.int .i64 0) := ⟨_, rfl⟩
    have BR3 := Lib.hid (show HBox U (w.heap.size + 1) Ht.zero hNone by rw [hU]; exact (BR.out.put2 Ht.zero hNone).put2o (by omega) _ _)
    have BH3 := Lib.hid (show PBox U (w.heap.size + 1 + 1) (0, 0) by rw [hU]; exact (BH.out.put2o (by omega) _ _).put2 (0, 0))
    have BB3 := Lib.hid (show Below w.heap.size w U by rw [hU]; exact below_put2 (below_put2 BB.out (by omega) _ _) (by omega) _ _)
    unfold wput2 at hU
    rw [← hU]
    clear hU
    obtain ⟨_, s0, s1, _, _⟩ := BR3.out
    obtain ⟨_, v0, v1, _, _⟩ := BH3.out
    dsimp only [Ht.zero, hNone, List.length_nil] at s0 s1
    refine bodyPost_ret (v := .tuple #[hv Ht.zero hNone, pv (0, 0), .int .i64 8]) (by simp [results, Try.results26, go_sem, hv, pv, Ht.zero, hNone, s0, s1, v0, v1]) rfl (by unfold HAns3; rw [VV.out, EE.out, VH.out]; exact ⟨_, rfl, own_zero _ _, BB3.out⟩)
  have CE := Lib.hid (chk_of_may hm)
  have MM := Lib.hid ((Hn.may_iff t).1 hm)
  by_cases hp : p < 0
  · have EE := Lib.hid (show Hn.makeE t p = 2 by unfold Hn.makeE; rw [CE.out, if_pos rfl, if_pos hp])
    have VV := Lib.hid (show Hn.makeV t p = Ht.zero by unfold Hn.makeV; rw [EE.out, if_neg (by omega)])
    have VH := Lib.hid (show Hn.makeH t p = (0, 0) by unfold Hn.makeH; rw [EE.out, if_neg (by omega)])
    obtain ⟨_, q0, q1, qf0, qf1⟩ := BR.out
    obtain ⟨_, r0, r1, rf0, rf1⟩ := BH.out
    dsimp only [Ht.zero, hNone, List.length_nil] at q0 q1
    go_wp2
    obtain ⟨U, hU⟩ : ∃ U, U = wput2 (wput2 w1 (w.heap.size + 1) (.slice none 0 0) (.slice none 0 0)) (w.heap.size + 1 + 1) (.int .i64 0) (.int .i64 0) := ⟨_, rfl⟩
    have BR3 := Lib.hid (show HBox U (w.heap.size + 1) Ht.zero hNone by rw [hU]; exact (BR.out.put2 Ht.zero hNone).put2o (by omega) _ _)
    have BH3 := Lib.hid (show PBox U (w.heap.size + 1 + 1) (0, 0) by rw [hU]; exact (BH.out.put2o (by omega) _ _).put2 (0, 0))
    have BB3 := Lib.hid (show Below w.heap.size w U by rw [hU]; exact below_put2 (below_put2 BB.out (by omega) _ _) (by omega) _ _)
    unfold wput2 at hU
    rw [← hU]
    clear hU
    obtain ⟨_, s0, s1, _, _⟩ := BR3.out
    obtain ⟨_, v0, v1, _, _⟩ := BH3.out
    dsimp only [Ht.zero, hNone, List.length_nil] at s0 s1
    refine bodyPost_ret (v := .tuple #[hv Ht.zero hNone, pv (0, 0), .int .i64 2]) (by simp [results, Try.results26, go_sem, hv, pv, Ht.zero, hNone, s0, s1, v0, v1]) rfl (by unfold HAns3; rw [VV.out, EE.out, VH.out]; exact ⟨_, rfl, own_zero _ _, BB3.out⟩)
  go_wp2_with fail
  refine (CC.out w1 BB.out MM.out).mono ?_
  rintro e w2 ⟨A1, rfl, own, hb⟩
  have z2 : w1.heap.size ≤ w2.heap.size := hb.size
  replace BR := Lib.hid (BR.out.below hb)
  replace BH := Lib.hid (BH.out.below hb)
  replace BB := Lib.hid (BB.out.trans (hb.mono BB.out.size))
  have OX := Lib.hid own
  clear own hb p0 p1 CC BX
  obtain ⟨M, hM⟩ : ∃ M, M = Hn.giveV t p := ⟨_, rfl⟩
  obtain ⟨x, hx⟩ : ∃ x, x = Hn.giveH t := ⟨_, rfl⟩
  have MV := Lib.hid hM
  have XV := Lib.hid hx
  rw [← hM] at OX
  rw [← hM, ← hx]
  clear hM hx
  unfold hv pv
  go_upto_region 6 with (fail)
  obtain ⟨W3, hW3⟩ : ∃ W, W = (w2.alloc (.cells #[.slice A1.g M.gens.length A1.cg, .slice A1.a M.ats.length A1.ca] 24)).alloc (.cells #[.int .i64 x.1, .int .i64 x.2] 26) := ⟨_, rfl⟩
  have hb : Below w2.heap.size w2 W3 := by rw [hW3]; exact ((Below.refl _ _).alloc (Nat.le_refl _) _).alloc (by simp) _
  have BX := Lib.hid (show HBox W3 w2.heap.size M A1 by rw [hW3]; exact (HBox.new w2 M A1 24).below ((Below.refl _ _).alloc (Nat.le_refl _) _))
  have BP := Lib.hid (show PBox W3 (w2.heap.size + 1) x by rw [hW3]; have := PBox.new (w2.alloc (.cells #[.slice A1.g M.gens.length A1.cg, .slice A1.a M.ats.length A1.ca] 24)) x 26; rw [World.size_alloc] at this; exact this)
  have z3 : w2.heap.size + 2 ≤ W3.heap.size := by rw [hW3]; simp
  replace BR := Lib.hid (BR.out.below hb)
  replace BH := Lib.hid (BH.out.below hb)
  replace OX := Lib.hid (OX.out.below hb)
  replace BB := Lib.hid (BB.out.trans (hb.mono BB.out.size))
  rw [← hW3]
  clear hW3 hb
  cases hf : Hn.fullB t
  · have EE := Lib.hid (show Hn.makeE t p = 0 by unfold Hn.makeE; rw [CE.out, if_pos rfl, if_neg (by omega), hf, if_neg (by simp)])
    have VV := Lib.hid (show Hn.makeV t p = M by unfold Hn.makeV; rw [EE.out, if_pos rfl, MV.out]; unfold Hn.giveV; rw [hf, if_neg (by simp)])
    have VH := Lib.hid (show Hn.makeH t p = x by unfold Hn.makeH; rw [EE.out, if_pos rfl, XV.out]; unfold Hn.giveH; rw [hf, if_neg (by simp)])
    go_upto_region 8 with (fail)
    have CS := Lib.hid (show W3.cell? ⟨w2.heap.size, 0, none⟩ = some (.slice A1.g M.gens.length A1.cg) ∧ W3.cell? ⟨w2.heap.size, 1, none⟩ = some (.slice A1.a M.ats.length A1.ca) ∧ W3.cell? ⟨w2.heap.size + 1, 0, none⟩ = some (.int .i64 x.1) ∧ W3.cell? ⟨w2.heap.size + 1, 1, none⟩ = some (.int .i64 x.2) from ⟨BX.out.c0, BX.out.c1, BP.out.c0, BP.out.c1⟩)
    clear BX BP MV XV MM CE
    refine wp_region_held_drew (S := fun w' => w'.cell? ⟨w2.heap.size, 0, none⟩ = some (.slice A1.g M.gens.length A1.cg) ∧ w'.cell? ⟨w2.heap.size, 1, none⟩ = some (.slice A1.a M.ats.length A1.ca) ∧ w'.cell? ⟨w2.heap.size + 1, 0, none⟩ = some (.int .i64 x.1) ∧ w'.cell? ⟨w2.heap.size + 1, 1, none⟩ = some (.int .i64 x.2)) (by kernel_rfl) (by exact CS.out) (fun hHeld => ?_)
    obtain ⟨W3d, hV⟩ : ∃ V, V = W3.drew := ⟨_, rfl⟩
    replace CS := Lib.hid (show W3d.cell? ⟨w2.heap.size, 0, none⟩ = some (.slice A1.g M.gens.length A1.cg) ∧ W3d.cell? ⟨w2.heap.size, 1, none⟩ = some (.slice A1.a M.ats.length A1.ca) ∧ W3d.cell? ⟨w2.heap.size + 1, 0, none⟩ = some (.int .i64 x.1) ∧ W3d.cell? ⟨w2.heap.size + 1, 1, none⟩ = some (.int .i64 x.2) by rw [hV]; exact CS.out)
    replace BR := Lib.hid (show HBox W3d (w.heap.size + 1) (Ht.zero) (hNone) by rw [hV]; exact BR.out.below ((Below.refl _ _).drew))
    replace BH := Lib.hid (show PBox W3d (w.heap.size + 1 + 1) ((0, 0)) by rw [hV]; exact BH.out.below ((Below.refl _ _).drew))
    replace OX := Lib.hid (show HOwn W3d (w1.heap.size) (M) (A1) by rw [hV]; exact OX.out.below ((Below.refl _ _).drew))
    replace BB := Lib.hid (show Below w.heap.size w W3d by rw [hV]; exact BB.out.drew)
    rw [← hV] at hHeld ⊢
    clear hV
    refine wpAnyH_take (i := 0) (oi := Oper.mk _ _ _ _ _ _) (v := ?vk0) rfl (by kernel_rfl) (by kernel_rfl) (by kernel_rfl) (fun _ _ _ h => h) (Or.inl ⟨by rfl, ?hyk0⟩) (by assumption) ?restk0
    case hyk0 =>
      intro w0 hSw
      try dsimp only at hSw
      go_simp
      all_goals with_reducible rfl
    try simp only [Act.put, List.setIfInBounds_toArray, List.set_cons_zero, List.set_cons_succ]
    refine wpAnyH_take (i := 1) (oi := Oper.mk _ _ _ _ _ _) (v := ?vk1) rfl (by kernel_rfl) (by kernel_rfl) (by kernel_rfl) (fun _ _ _ h => h) (Or.inl ⟨by rfl, ?hyk1⟩) (by assumption) ?restk1
    case hyk1 =>
      intro w0 hSw
      try dsimp only at hSw
      go_simp
      all_goals with_reducible rfl
    try simp only [Act.put, List.setIfInBounds_toArray, List.set_cons_zero, List.set_cons_succ]
    refine wpAnyH_ready (rs := [2]) (by kernel_rfl) (by simp) ?_
    refine AllReadyH.cons (o := Oper.mk _ _ _ _ _ _) rfl (fun K hK => ?_) AllReadyH.nil
    obtain ⟨_, z1, z2, zf1, zf2⟩ := BR.out
    try dsimp only [Ht.zero, hNone, List.length_nil] at z1 z2
    go_simp
    obtain ⟨Fk1, hU⟩ : ∃ U, U = wput2 W3d (w.heap.size + 1) (.slice (A1).g (M).gens.length (A1).cg) (.slice (A1).a (M).ats.length (A1).ca) := ⟨_, rfl⟩
    replace CS := Lib.hid (show Fk1.cell? ⟨w2.heap.size, 0, none⟩ = some (.slice A1.g M.gens.length A1.cg) ∧ Fk1.cell? ⟨w2.heap.size, 1, none⟩ = some (.slice A1.a M.ats.length A1.ca) ∧ Fk1.cell? ⟨w2.heap.size + 1, 0, none⟩ = some (.int .i64 x.1) ∧ Fk1.cell? ⟨w2.heap.size + 1, 1, none⟩ = some (.int .i64 x.2) by rw [hU]; obtain ⟨c0, c1, c2, c3⟩ := CS.out; exact ⟨cell_put2 c0 (by omega) _ _, cell_put2 c1 (by omega) _ _, cell_put2 c2 (by omega) _ _, cell_put2 c3 (by omega) _ _⟩)
    have BXn := Lib.hid (show HBox Fk1 (w.heap.size + 1) (M) (A1) by rw [hU]; exact BR.out.put2 (M) (A1))
    replace BH := Lib.hid (show PBox Fk1 (w.heap.size + 1 + 1) ((0, 0)) by rw [hU]; exact BH.out.put2o (by omega) _ _)
    replace OX := Lib.hid (show HOwn Fk1 (w1.heap.size) (M) (A1) by rw [hU]; exact OX.out.put2o (OX.out.off_lt (by omega)) _ _)
    replace BB := Lib.hid (show Below w.heap.size w Fk1 by rw [hU]; exact below_put2 BB.out (by omega) _ _)
    unfold wput2 at hU
    try dsimp only at hU
    first | rw [← hU] | skip
    clear hU z1 z2 zf1 zf2 BR
    have BR := BXn
    clear BXn
    refine hK.out _ _ (CS.out) (fun hHeldk2 => ?_)
    clear hK K hHeld
    try simp only [Act.put, List.setIfInBounds_toArray, List.set_cons_zero, List.set_cons_succ]
    refine wpAnyH_ready (rs := [3]) (by kernel_rfl) (by simp) ?_
    refine AllReadyH.cons (o := Oper.mk _ _ _ _ _ _) rfl (fun K hK => ?_) AllReadyH.nil
    obtain ⟨_, z1, z2, zf1, zf2⟩ := BH.out
    try dsimp only [Ht.zero, hNone, List.length_nil] at z1 z2
    go_simp
    obtain ⟨Fk2, hU⟩ : ∃ U, U = wput2 Fk1 (w.heap.size + 1 + 1) (.int .i64 (x).1) (.int .i64 (x).2) := ⟨_, rfl⟩
    replace CS := Lib.hid (show Fk2.cell? ⟨w2.heap.size, 0, none⟩ = some (.slice A1.g M.gens.length A1.cg) ∧ Fk2.cell? ⟨w2.heap.size, 1, none⟩ = some (.slice A1.a M.ats.length A1.ca) ∧ Fk2.cell? ⟨w2.heap.size + 1, 0, none⟩ = some (.int .i64 x.1) ∧ Fk2.cell? ⟨w2.heap.size + 1, 1, none⟩ = some (.int .i64 x.2) by rw [hU]; obtain ⟨c0, c1, c2, c3⟩ := CS.out; exact ⟨cell_put2 c0 (by omega) _ _, cell_put2 c1 (by omega) _ _, cell_put2 c2 (by omega) _ _, cell_put2 c3 (by omega) _ _⟩)
    have BXn := Lib.hid (show PBox Fk2 (w.heap.size + 1 + 1) (x) by rw [hU]; exact BH.out.put2 (x))
    replace BR := Lib.hid (show HBox Fk2 (w.heap.size + 1) (M) (A1) by rw [hU]; exact BR.out.put2o (by omega) _ _)
    replace OX := Lib.hid (show HOwn Fk2 (w1.heap.size) (M) (A1) by rw [hU]; exact OX.out.put2o (OX.out.off_lt (by omega)) _ _)
    replace BB := Lib.hid (show Below w.heap.size w Fk2 by rw [hU]; exact below_put2 BB.out (by omega) _ _)
    unfold wput2 at hU
    try dsimp only at hU
    first | rw [← hU] | skip
    clear hU z1 z2 zf1 zf2 BH
    have BH := BXn
    clear BXn
    refine hK.out _ _ (CS.out) (fun hHeldk3 => ?_)
    clear hK K hHeldk2
    try simp only [Act.put, List.setIfInBounds_toArray, List.set_cons_zero, List.set_cons_succ]
    refine wpAnyH_take (i := 4) (oi := Oper.mk _ _ _ _ _ _) (v := ?vk4) rfl (by kernel_rfl) (by kernel_rfl) (by kernel_rfl) (fun _ _ _ h => h) (Or.inl ⟨by rfl, ?hyk4⟩) (by assumption) ?restk4
    case hyk4 =>
      intro w0 hSw
      try dsimp only at hSw
      go_simp
      all_goals with_reducible rfl
    try simp only [Act.put, List.setIfInBounds_toArray, List.set_cons_zero, List.set_cons_succ]
    refine wpAnyH_done (by kernel_rfl) ?_ _
    go_wp2
    obtain ⟨_, s0, s1, _, _⟩ := BR.out
    obtain ⟨_, v0, v1, _, _⟩ := BH.out
    refine bodyPost_ret (v := .tuple #[hv M A1, pv x, .int .i64 0]) (by simp [results, Try.results26, go_sem, hv, pv, s0, s1, v0, v1]) rfl (by unfold HAns3; rw [VV.out, EE.out, VH.out]; exact ⟨_, rfl, OX.out.lower (by omega), BB.out⟩)
  · have EE := Lib.hid (show Hn.makeE t p = 9 by unfold Hn.makeE; rw [CE.out, if_pos rfl, if_neg (by omega), hf, if_pos rfl])
    have VV := Lib.hid (show Hn.makeV t p = Ht.zero by unfold Hn.makeV; rw [EE.out, if_neg (by omega)])
    have VH := Lib.hid (show Hn.makeH t p = (0, 0) by unfold Hn.makeH; rw [EE.out, if_neg (by omega)])
    obtain ⟨_, q0, q1, qf0, qf1⟩ := BR.out
    obtain ⟨_, r0, r1, rf0, rf1⟩ := BH.out
    dsimp only [Ht.zero, hNone, List.length_nil] at q0 q1
    go_wp2
    obtain ⟨U, hU⟩ : ∃ U, U = wput2 (wput2 W3 (w.heap.size + 1) (.slice none 0 0) (.slice none 0 0)) (w.heap.size + 1 + 1) (.int .i64 0) (.int .i64 0) := ⟨_, rfl⟩
    have BR3 := Lib.hid (show HBox U (w.heap.size + 1) Ht.zero hNone by rw [hU]; exact (BR.out.put2 Ht.zero hNone).put2o (by omega) _ _)
    have BH3 := Lib.hid (show PBox U (w.heap.size + 1 + 1) (0, 0) by rw [hU]; exact (BH.out.put2o (by omega) _ _).put2 (0, 0))
    have BB3 := Lib.hid (show Below w.heap.size w U by rw [hU]; exact below_put2 (below_put2 BB.out (by omega) _ _) (by omega) _ _)
    unfold wput2 at hU
    rw [← hU]
    clear hU
    obtain ⟨_, s0, s1, _, _⟩ := BR3.out
    obtain ⟨_, v0, v1, _, _⟩ := BH3.out
    dsimp only [Ht.zero, hNone, List.length_nil] at s0 s1
    refine bodyPost_ret (v := .tuple #[hv Ht.zero hNone, pv (0, 0), .int .i64 9]) (by simp [results, Try.results26, go_sem, hv, pv, Ht.zero, hNone, s0, s1, v0, v1]) rfl (by unfold HAns3; rw [VV.out, EE.out, VH.out]; exact ⟨_, rfl, own_zero _ _, BB3.out⟩)
end Go.Proofs.Ytephmejhglcdiaa
