/- What package handle's Live and next return: ranges over the numbers of a table. -/
import Derived.Test.YtephmejhglcdiaaHnB
namespace Go.Proofs.Ytephmejhglcdiaa
open Go.RowKit Go.Shelf
attribute [local go_sem] Oper.semAt_some
set_option linter.unusedVariables false
set_option linter.unusedSimpArgs false

/-- Between two rounds of Live: how many numbers so far are given out. -/
structure LivI (t : Ht) (w : World) (base : Nat) (b2 : Nat) (pre : List Nat) (W : World) : Prop where
  below : Below w.heap.size w W
  size : base ≤ W.heap.size
  many : Boxed W b2 3 (.int .i64 (Hn.live (t.ats.take pre.length) : Nat))
theorem livI_own (t : Ht) (w : World) (base b2 m : Nat) (hn : w.heap.size ≤ m) : OwnFrom m (LivI t w base b2) := fun pre A B row hs hg hr =>
  have ho := Over.of_grown hg hr
  ⟨ownFrom_below (β := Unit) (Nat.le_refl _) hn () A B row hs.below hg hr, Nat.le_trans hs.size ho.size, ho.boxed hs.many⟩
theorem no_ownH (m : Nat) : OwnFrom m (fun (_ : List Nat) (_ : World) => False) := fun _ _ _ _ h _ _ => h
set_option maxRecDepth 100000 in
set_option maxHeartbeats 2000000 in
theorem hLive (t : Ht) (A : HAds) (w : World) (h : HHeld w t A) (ok : t.Ok) (hs : t.Short) :
    Calls Try.prog 18 #[hv t A] w fun e w' => e = .returned (.tuple #[.int .i64 (Hn.liveV t), .int .i64 (Hn.chkE t)]) ∧ Below w.heap.size w w' := by
  have HH := Lib.hid h
  have HX := Lib.hid (HBox.new w t A 24)
  have BB := Lib.hid (fun o => (Below.refl w.heap.size w).alloc (Nat.le_refl _) o)
  have CC := Lib.hid (fun V (hb : Below w.heap.size w V) => hCheck t A V (h.below hb) ok hs)
  have CN := Lib.hid (fun V => hNumbers t A V)
  clear h ok hs
  unfold hCells at HX
  unfold hv at CC CN ⊢
  refine calls_marks Try.func18 rfl ?_
  simp only [Try.ntmps18, List.size_toArray, List.length_cons, List.length_nil, Nat.reduceAdd, Nat.reduceSub, Array.replicate_succ, Array.replicate_zero, List.push_toArray, List.append_toArray, List.nil_append, List.cons_append]
  go_wp2_with fail
  refine (CC.out _ (BB.out _)).mono ?_
  rintro e w1 ⟨rfl, hb⟩
  have B1 := Lib.hid ((BB.out _).trans (hb.mono (BB.out _).size))
  have X1 := Lib.hid (HX.out.below hb)
  have z1 := hb.size
  simp only [World.size_alloc] at z1
  clear hb BB CC HX
  obtain ⟨_, p0, p1, _, _⟩ := X1.out
  by_cases hc : Hn.chkE t = 0
  · have HM := Lib.hid (Hn.chk_may.1 hc)
    have EV := Lib.hid (show Hn.liveV t = ((Hn.live t.ats : Nat) : Int) by unfold Hn.liveV; rw [if_pos hc])
    have HC := Lib.hid hc
    rw [hc]
    clear hc
    go_upto_region 5 with (fail)
    obtain ⟨V, hV⟩ : ∃ V, V = w1.alloc (.cells #[.int .i64 0] 3) := ⟨_, rfl⟩
    have hbv : Below w1.heap.size w1 V := by rw [hV]; exact (Below.refl _ _).alloc (Nat.le_refl _) _
    have rV : Boxed V w1.heap.size 3 (.int .i64 0) := by rw [hV]; exact Boxed.new _ _ _
    have zV : V.heap.size = w1.heap.size + 1 := by rw [hV]; simp
    have BV := Lib.hid (B1.out.trans (hbv.mono B1.out.size))
    have XV := Lib.hid (X1.out.below hbv)
    rw [← hV]
    clear hV hbv X1 B1 p0 p1
    obtain ⟨_, p0, p1, _, _⟩ := XV.out
    go_wp2_with fail
    refine (CN.out _).mono ?_
    rintro e W5 ⟨b, rfl, hB, hb1, hb⟩
    have B5 := Lib.hid (BV.out.trans (hb.mono BV.out.size))
    have R5 := Lib.hid (boxed_low rV rV.lt hb)
    have HB := Lib.hid hB
    have H5 := Lib.hid (HH.out.below B5.out)
    have z5 : V.heap.size ≤ W5.heap.size := hb.size
    have zb := hB.lt
    clear hB hb p0 p1 XV rV BV CN
    go_wp2_with fail
    refine wp_rangeQ (enc := fun x : Nat => #[.int .i64 x, .agg #[.int .i64 (Hn.g t x), .int .i64 (Hn.a t x)]]) (fun _ => rfl) (gf := 47) (lb := #[.pointer (some ⟨b, 0, none⟩)]) rfl (enters_of Try.func47 (by kernel_rfl) rfl)
      (nums_seq _ t A b W5 ⟨HB.out, H5.out⟩ (zok_of HH.out hb1 zb) (fun k hk => by rcases hk with hk | hk <;> omega) HM.out.len HM.out.most) (fun k hk => by rcases hk with hk | hk <;> omega)
      (LivI t w W5.heap.size w1.heap.size) (fun _ _ _ => False) (livI_own _ _ _ _ _ (by omega)) (fun c => no_ownH _)
      ⟨B5.out, Nat.le_refl _, R5.out⟩
      (fun W x => { tmps := #[(.agg #[.slice A.g t.gens.length A.cg, .slice A.a t.ats.length A.ca]), .pointer (some ⟨w.heap.size, 0, none⟩), .int .i64 0, .int .i64 0, .int .i64 0, .pointer (some ⟨w1.heap.size, 0, none⟩), undef, .pointer (some ⟨W.heap.size, 0, none⟩), (.agg #[.slice A.g t.gens.length A.cg, .slice A.a t.ats.length A.ca]), .int .i64 0, .int .i64 0, .bool false, undef, (.agg #[.slice A.g t.gens.length A.cg, .slice A.a t.ats.length A.ca]), (.func (Fn.func 47) #[] #[.pointer (some ⟨b, 0, none⟩)]), .int .i64 (x : Int), .agg #[.int .i64 (Hn.g t x), .int .i64 (Hn.a t x)], undef, undef, undef, undef, undef, undef], defers := [] }) (fun W x => W.alloc (.cells #[.int .i64 (Hn.g t x), .int .i64 (Hn.a t x)] 64)) (fun W x => (Below.refl _ _).alloc (Nat.le_refl _) _) ?assign ?body ?done ?stop
    case assign =>
      intro l x W K hK
      gi_wp2
      exact hK
    case body =>
      rintro l pre x W W' hI hpre hov hsz
      obtain ⟨rfl, hx⟩ := range_last hpre
      have HI := Lib.hid hI
      have PB := Lib.hid (num_box hov)
      have q0 := PB.out.c0
      have q1 := PB.out.c1
      have sz' : W5.heap.size ≤ W'.heap.size := hI.size
      have CM := Lib.hid (fun V => hFree (Hn.g t x) (Hn.a t x) V)
      have HT := Lib.hid (live_take t.ats x (by rw [HM.out.len]; exact hx))
      have HF := Lib.hid (HM.out.fine x hx)
      have hlv : Hn.live (t.ats.take x) ≤ 65536 := by have h1 := live_le (t.ats.take x); have h2 := HM.out.most; rw [List.length_take] at h1; omega
      have hm := hI.many
      rw [List.length_range] at hm
      obtain ⟨m, hmm⟩ : ∃ m, Hn.live (t.ats.take x) = m := ⟨_, rfl⟩
      rw [hmm] at hm hlv HT
      have HM2 := Lib.hid hm
      clear hI hpre hov hsz hm hmm
      dsimp only at q0 q1
      gi_wp2
      refine ⟨trivial, ?_⟩
      refine (callsIn_wide.2 (CM.out _)).mono ?_
      rintro e W2 ⟨rfl, hb⟩
      have hb2 := Lib.hid hb
      have HR2 := Lib.hid (boxed_low HM2.out HM2.out.lt hb)
      have sz2 := hb.size
      clear hb q0 q1 PB CM HM2
      have r0 := HR2.out.cell
      have r1 := HR2.out.frozen
      have ET := Lib.hid (show Hn.live (t.ats.take (List.range x ++ [x]).length) = m + (if 0 ≤ Hn.a t x then 1 else 0) by rw [List.length_append, List.length_range]; exact HT.out)
      by_cases hf : Hn.a t x = -1
      · have k1 : (Hn.a t x == -1) = true := by simpa using hf
        have EI := Lib.hid (show (if 0 ≤ Hn.a t x then 1 else 0 : Nat) = 0 by rw [if_neg (by omega)])
        clear hf
        gi_wp2
        exact ⟨keeps_of_belowH hb2.out, Kept.of_below hb2.out (fun k hk => by rcases hk with hk | hk <;> omega), HI.out.below.trans (hb2.out.mono HI.out.below.size), by omega, by rw [ET.out, EI.out]; exact HR2.out⟩
      · have k1 : (Hn.a t x == -1) = false := by simpa using hf
        have EI := Lib.hid (show (if 0 ≤ Hn.a t x then 1 else 0 : Nat) = 1 by rw [if_pos (by have := HF.out.2.2.1; omega)])
        clear hf
        gi_wp2
        refine ⟨(keeps_of_belowH hb2.out).trans (KeepsOthers.setCell _ _ _), (Kept.of_below hb2.out (fun k hk => by rcases hk with hk | hk <;> omega)).setCell (by show ¬ (w1.heap.size < w.heap.size ∨ V.heap.size ≤ w1.heap.size ∧ w1.heap.size < W5.heap.size); omega) _, (HI.out.below.trans (hb2.out.mono HI.out.below.size)).setCell (by show w.heap.size ≤ w1.heap.size; omega) _, by rw [World.size_setCell]; omega, ?_⟩
        rw [ET.out, EI.out, show (((m + 1 : Nat) : Int)) = (m : Int) + 1 by omega]
        exact HR2.out.set _
    case done =>
      rintro D W hD hI hKD
      have HI := Lib.hid hI.below
      have E := Lib.hid (show Hn.live (t.ats.take (List.range t.gens.length).length) = Hn.live t.ats by rw [List.length_range, List.take_of_length_le (by rw [HM.out.len]; exact Nat.le_refl _)])
      have zs := hI.size
      have hKD2 := Lib.hid hKD
      have hDlt : D < W.heap.size := (Array.getElem?_eq_some_iff.1 hKD).1
      have d0 := hI.many.cell
      rw [E.out] at d0
      clear hI hKD
      go_wp2
      refine leaves_one hKD2.out ?_
      refine ⟨_, results_tmp2 rfl _ _ _, by rw [EV.out, HC.out]; rfl, ?_⟩
      exact HI.out.trans ((Below.refl _ _).grown (grownBy_putObj' _ D _) (by omega) (fun k e => by cases e; omega))
    case stop =>
      rintro D c pre W hD hSp hF hKD
      exact hF.elim
  · have EV := Lib.hid (show Hn.liveV t = 0 by unfold Hn.liveV; rw [if_neg hc])
    have k1 : (Hn.chkE t != 0) = true := by simpa using hc
    clear hc
    go_wp2
    exact ⟨_, results_tmp2 rfl _ _ _, by rw [EV.out]; rfl, B1.out⟩


/-- Between two rounds of next: none so far can be given out. -/
structure NxtI (t : Ht) (w : World) (base : Nat) (b2 : Nat) (pre : List Nat) (W : World) : Prop where
  below : Below w.heap.size w W
  size : base ≤ W.heap.size
  least : Boxed W b2 3 (.int .i64 (pre.length : Nat))
  none : ∀ j, j < pre.length → Hn.freeB t j = false
theorem nxtI_own (t : Ht) (w : World) (base b2 m : Nat) (hn : w.heap.size ≤ m) : OwnFrom m (NxtI t w base b2) := fun pre A B row hs hg hr =>
  have ho := Over.of_grown hg hr
  ⟨ownFrom_below (β := Unit) (Nat.le_refl _) hn () A B row hs.below hg hr, Nat.le_trans hs.size ho.size, ho.boxed hs.least, hs.none⟩
/-- Left: that one can. -/
structure NxtX (t : Ht) (w : World) (base : Nat) (b2 : Nat) (c : Code) (pre : List Nat) (W : World) : Prop where
  code : c = .exit 0
  below : Below w.heap.size w W
  size : base ≤ W.heap.size
  least : Boxed W b2 3 (.int .i64 (Hn.free t : Nat))
theorem nxtX_own (t : Ht) (w : World) (base b2 m : Nat) (hn : w.heap.size ≤ m) (c : Code) : OwnFrom m (NxtX t w base b2 c) := fun pre A B row hs hg hr =>
  have ho := Over.of_grown hg hr
  ⟨hs.code, ownFrom_below (β := Unit) (Nat.le_refl _) hn () A B row hs.below hg hr, Nat.le_trans hs.size ho.size, ho.boxed hs.least⟩
theorem none_next {t : Ht} {x : Nat} (h : ∀ j, j < (List.range x).length → Hn.freeB t j = false) (hx : Hn.freeB t x = false) : ∀ j, j < (List.range x ++ [x]).length → Hn.freeB t j = false := fun j hj => by
  rw [List.length_append, List.length_range] at hj
  by_cases e : j = x
  · rw [e]; exact hx
  · exact h j (by rw [List.length_range]; simp at hj; omega)
set_option maxRecDepth 100000 in
set_option maxHeartbeats 2000000 in
theorem hNext (t : Ht) (A : HAds) (w : World) (h : HHeld w t A) (hM : Hn.May t) :
    Calls Try.prog 30 #[hv t A] w fun e w' => e = .returned (.int .i64 (Hn.free t : Nat)) ∧ Below w.heap.size w w' := by
  have HH := Lib.hid h
  have HM := Lib.hid hM
  have HX := Lib.hid (fun o => (HBox.new w t A 24).below ((Below.refl _ _).alloc (Nat.le_refl _) o))
  have BB := Lib.hid (fun o o' => ((Below.refl w.heap.size w).alloc (Nat.le_refl _) o).alloc (by simp) o')
  have CN := Lib.hid (fun V => hNumbers t A V)
  clear h hM
  unfold hCells at HX
  unfold hv at CN ⊢
  refine calls_marks Try.func30 rfl ?_
  simp only [Try.ntmps30, List.size_toArray, List.length_cons, List.length_nil, Nat.reduceAdd, Nat.reduceSub, Array.replicate_succ, Array.replicate_zero, List.push_toArray, List.append_toArray, List.nil_append, List.cons_append]
  go_upto_region 1 with (fail)
  go_step3
  go_upto_region 2 with (fail)
  obtain ⟨V, hV⟩ : ∃ V, V = (w.alloc (.cells #[.slice A.g t.gens.length A.cg, .slice A.a t.ats.length A.ca] 24)).alloc (.cells #[.int .i64 0] 3) := ⟨_, rfl⟩
  rw [← hV]
  have bV : Below w.heap.size w V := by rw [hV]; exact BB.out _ _
  have xV : HBox V w.heap.size t A := by rw [hV]; exact HX.out _
  have rV : Boxed V (w.heap.size + 1) 3 (.int .i64 0) := by
    rw [hV]
    have := Boxed.new (w.alloc (.cells #[.slice A.g t.gens.length A.cg, .slice A.a t.ats.length A.ca] 24)) 3 (.int .i64 0)
    rw [World.size_alloc] at this
    exact this
  have XV := Lib.hid xV
  clear hV HX BB
  obtain ⟨_, p0, p1, _, _⟩ := xV
  go_wp2_with fail
  go_step3
  go_wp2_with fail
  refine (CN.out _).mono ?_
  rintro e W5 ⟨b, rfl, hB, hb1, hb⟩
  have B5 := Lib.hid (bV.trans (hb.mono bV.size))
  have R5 := Lib.hid (boxed_low rV rV.lt hb)
  have HB := Lib.hid hB
  have H5 := Lib.hid (HH.out.below B5.out)
  have zV : w.heap.size + 1 < V.heap.size := rV.lt
  have z5 : V.heap.size ≤ W5.heap.size := hb.size
  have zb := hB.lt
  clear hB hb p0 p1 XV rV bV CN
  go_wp2_with fail
  refine wp_rangeQ (enc := fun x : Nat => #[.int .i64 x, .agg #[.int .i64 (Hn.g t x), .int .i64 (Hn.a t x)]]) (fun _ => rfl) (gf := 47) (lb := #[.pointer (some ⟨b, 0, none⟩)]) rfl (enters_of Try.func47 (by kernel_rfl) rfl)
    (nums_seq _ t A b W5 ⟨HB.out, H5.out⟩ (zok_of HH.out hb1 zb) (fun k hk => by rcases hk with hk | hk <;> omega) HM.out.len HM.out.most) (fun k hk => by rcases hk with hk | hk <;> omega)
    (NxtI t w W5.heap.size (w.heap.size + 1)) (NxtX t w W5.heap.size (w.heap.size + 1)) (nxtI_own _ _ _ _ _ (by omega)) (fun c => nxtX_own _ _ _ _ _ (by omega) c)
    ⟨B5.out, Nat.le_refl _, R5.out, fun j hj => absurd hj (by simp)⟩
    (fun W x => { tmps := #[(.agg #[.slice A.g t.gens.length A.cg, .slice A.a t.ats.length A.ca]), .pointer (some ⟨w.heap.size, 0, none⟩), .int .i64 0, .pointer (some ⟨w.heap.size + 1, 0, none⟩), .int .i64 (x : Int), .pointer (some ⟨W.heap.size, 0, none⟩), (.agg #[.slice A.g t.gens.length A.cg, .slice A.a t.ats.length A.ca]), (.func (Fn.func 47) #[] #[.pointer (some ⟨b, 0, none⟩)]), .int .i64 (x : Int), .agg #[.int .i64 (Hn.g t x), .int .i64 (Hn.a t x)], undef, undef, undef, undef, undef, undef, undef, undef, undef], defers := [] }) (fun W x => W.alloc (.cells #[.int .i64 (Hn.g t x), .int .i64 (Hn.a t x)] 64)) (fun W x => (Below.refl _ _).alloc (Nat.le_refl _) _) ?assign ?body ?done ?stop
  case assign =>
    intro l x W K hK
    gi_wp2
    exact hK
  case body =>
    rintro l pre x W W' hI hpre hov hsz
    obtain ⟨rfl, hx⟩ := range_last hpre
    have HI := Lib.hid hI
    have PB := Lib.hid (num_box hov)
    have q0 := PB.out.c0
    have q1 := PB.out.c1
    have sz' : W5.heap.size ≤ W'.heap.size := hI.size
    have CF := Lib.hid (fun V => hFree (Hn.g t x) (Hn.a t x) V)
    have CW := Lib.hid (fun V => hWorn (Hn.g t x) (Hn.a t x) V)
    have HF := Lib.hid (HM.out.fine x hx)
    have hm := HM.out.most
    have HX := Lib.hid hx
    have hx9 : x < 65536 := by omega
    clear hI hpre hov hsz hm hx
    dsimp only at q0 q1
    gi_wp2
    refine ⟨trivial, ?_⟩
    refine (callsIn_wide.2 (CF.out _)).mono ?_
    rintro e W2 ⟨rfl, hb⟩
    have hb2 := Lib.hid hb
    have HR2 := Lib.hid (boxed_low HI.out.least HI.out.least.lt hb)
    have PB2 := Lib.hid (PB.out.below hb)
    have sz2 := hb.size
    clear hb q0 q1 PB CF
    by_cases hf : Hn.a t x = -1
    · have k1 : (Hn.a t x == -1) = true := by simpa using hf
      have q0 := PB2.out.c0
      have q1 := PB2.out.c1
      dsimp only at q0 q1
      have HFE := Lib.hid hf
      clear hf
      gi_wp2
      refine ⟨trivial, ?_⟩
      refine (callsIn_wide.2 (CW.out _)).mono ?_
      rintro e W3 ⟨rfl, hb⟩
      have HB2 := Lib.hid (hb2.out.trans (hb.mono hb2.out.size))
      have HR3 := Lib.hid (boxed_low HR2.out HR2.out.lt hb)
      have sz3 := hb.size
      clear hb q0 q1 PB2 CW HR2 hb2
      have r0 := HR3.out.cell
      have r1 := HR3.out.frozen
      by_cases hg : Hn.g t x = 2147483647
      · have k2 : (Hn.g t x == 2147483647) = true := by simpa using hg
        have HF0 := Lib.hid (show Hn.freeB t x = false by unfold Hn.freeB; simp; omega)
        clear hg
        gi_wp2
        refine ⟨(keeps_of_belowH HB2.out).trans (KeepsOthers.setCell _ _ _), (Kept.of_below HB2.out (fun k hk => by rcases hk with hk | hk <;> omega)).setCell (by show ¬ (w.heap.size + 1 < w.heap.size ∨ V.heap.size ≤ w.heap.size + 1 ∧ w.heap.size + 1 < W5.heap.size); omega) _, (HI.out.below.trans (HB2.out.mono HI.out.below.size)).setCell (by show w.heap.size ≤ w.heap.size + 1; omega) _, by rw [World.size_setCell]; omega, ?_, none_next HI.out.none HF0.out⟩
        rw [show (((List.range x ++ [x]).length : Nat) : Int) = (x : Int) + 1 by simp]
        exact HR3.out.set _
      · have k2 : (Hn.g t x == 2147483647) = false := by simpa using hg
        have E := Lib.hid (show Hn.free t = x from Hn.free_is (by have := HX.out; omega) (fun j hj => HI.out.none j (by rw [List.length_range]; exact hj)) (fun _ => by unfold Hn.freeB; have := HF.out.2.1; have := HFE.out; simp; omega))
        clear hg
        gi_wp2
        refine ⟨keeps_of_belowH HB2.out, rfl, HI.out.below.trans (HB2.out.mono HI.out.below.size), by omega, ?_⟩
        rw [E.out]
        have := HR3.out
        rw [List.length_range] at this
        exact this
    · have k1 : (Hn.a t x == -1) = false := by simpa using hf
      have HF0 := Lib.hid (show Hn.freeB t x = false by unfold Hn.freeB; have := HF.out.2.2.1; simp; omega)
      have HB2 := Lib.hid hb2.out
      have HR3 := Lib.hid HR2.out
      have r0 := HR3.out.cell
      have r1 := HR3.out.frozen
      clear hf CW PB2
      gi_wp2
      refine ⟨(keeps_of_belowH HB2.out).trans (KeepsOthers.setCell _ _ _), (Kept.of_below HB2.out (fun k hk => by rcases hk with hk | hk <;> omega)).setCell (by show ¬ (w.heap.size + 1 < w.heap.size ∨ V.heap.size ≤ w.heap.size + 1 ∧ w.heap.size + 1 < W5.heap.size); omega) _, (HI.out.below.trans (HB2.out.mono HI.out.below.size)).setCell (by show w.heap.size ≤ w.heap.size + 1; omega) _, by rw [World.size_setCell]; omega, ?_, none_next HI.out.none HF0.out⟩
      rw [show (((List.range x ++ [x]).length : Nat) : Int) = (x : Int) + 1 by simp]
      exact HR3.out.set _
  case done =>
    rintro D W hD hI hKD
    have HI := Lib.hid hI.below
    have E := Lib.hid (show Hn.free t = t.gens.length from Hn.free_is (Nat.le_refl _) (fun j hj => hI.none j (by rw [List.length_range]; exact hj)) (fun h => absurd h (Nat.lt_irrefl _)))
    have zs := hI.size
    have hKD2 := Lib.hid hKD
    have hDlt : D < W.heap.size := (Array.getElem?_eq_some_iff.1 hKD).1
    have d0 := hI.least.cell
    rw [List.length_range] at d0
    clear hI hKD
    go_wp2
    refine leaves_one hKD2.out ?_
    refine ⟨_, results_tmp rfl _ _ _, by rw [E.out]; rfl, ?_⟩
    exact HI.out.trans ((Below.refl _ _).grown (grownBy_putObj' _ D _) (by omega) (fun k e => by cases e; omega))
  case stop =>
    rintro D c pre W hD hSp hF hKD
    obtain ⟨rfl, hbelow, hsize, hres⟩ := hF
    have HI := Lib.hid hbelow
    have hKD2 := Lib.hid hKD
    have hDlt : D < W.heap.size := (Array.getElem?_eq_some_iff.1 hKD).1
    have d0 := hres.cell
    clear hbelow hres hKD hSp
    go_wp2
    refine leaves_one hKD2.out ?_
    refine ⟨_, results_tmp rfl _ _ _, rfl, ?_⟩
    exact HI.out.trans ((Below.refl _ _).grown (grownBy_putObj' _ D _) (by omega) (fun k e => by cases e; omega))
end Go.Proofs.Ytephmejhglcdiaa
