/- What package handle's Check, Live and next return: ranges over the numbers of a table. -/
import Derived.Test.YtephmejhglcdiaaHnA
import Derived.Test.YtephmejhglcdiaaRefB14
import Derived.Deep.Cut
import Derived.Deep.RegionHeld
namespace Go.Proofs.Ytephmejhglcdiaa
open Go.RowKit Go.Shelf
attribute [local go_sem] Oper.semAt_some
set_option linter.unusedVariables false
set_option linter.unusedSimpArgs false

/-- The blocks that stay while numbers are gone through. -/
theorem zok_of {w W : World} {t : Ht} {A : HAds} {b n : Nat} (h : HHeld w t A) (h1 : n ≤ b) (h2 : b < W.heap.size) : ZokH (fun k => k < w.heap.size ∨ (n ≤ k ∧ k < W.heap.size)) t A b :=
  ⟨Or.inr ⟨h1, h2⟩, fun hz p hp => Or.inl (lst_ltH h.gens hz p hp), fun hz p hp => Or.inl (lst_ltH h.ats hz p hp)⟩
/-- A box of one number that is of a round. -/
theorem num_box {W W' : World} {g a : Int} {T : TypeId} (hov : Over (W.alloc (.cells #[.int .i64 g, .int .i64 a] T)) W') : PBox W' W.heap.size (g, a) :=
  PBox.of_block (p := (g, a)) (t := T) (hov.cells _ _ (World.alloc_heap_new W _) rfl)
theorem keeps_of_belowH {w w' : World} (h : Below w.heap.size w w') : KeepsOthers w w' := ⟨h.size, fun k o hk _ => (h.block k (Array.getElem?_eq_some_iff.1 hk).1).trans hk⟩
/-- Between two rounds of Check: all numbers so far may be. -/
structure ChkI (t : Ht) (w : World) (base : Nat) (b2 : Nat) (pre : List Nat) (W : World) : Prop where
  below : Below w.heap.size w W
  size : base ≤ W.heap.size
  res : Boxed W b2 27 (.int .i64 0)
  fine : pre.all (Hn.fineB t) = true
theorem chkI_own (t : Ht) (w : World) (base b2 m : Nat) (hn : w.heap.size ≤ m) : OwnFrom m (ChkI t w base b2) := fun pre A B row hs hg hr =>
  have ho := Over.of_grown hg hr
  ⟨ownFrom_below (β := Unit) (Nat.le_refl _) hn () A B row hs.below hg hr, Nat.le_trans hs.size ho.size, ho.boxed hs.res, hs.fine⟩
/-- Left: one may not be. -/
structure ChkX (t : Ht) (w : World) (base : Nat) (b2 : Nat) (c : Code) (pre : List Nat) (W : World) : Prop where
  code : c = .ret
  below : Below w.heap.size w W
  size : base ≤ W.heap.size
  res : Boxed W b2 27 (.int .i64 8)
  bad : pre.all (Hn.fineB t) = false
theorem chkX_own (t : Ht) (w : World) (base b2 m : Nat) (hn : w.heap.size ≤ m) (c : Code) : OwnFrom m (ChkX t w base b2 c) := fun pre A B row hs hg hr =>
  have ho := Over.of_grown hg hr
  ⟨hs.code, ownFrom_below (β := Unit) (Nat.le_refl _) hn () A B row hs.below hg hr, Nat.le_trans hs.size ho.size, ho.boxed hs.res, hs.bad⟩
theorem chk_len {t : Ht} (h : ¬ t.ats.length = t.gens.length) : Hn.chkE t = 8 := by unfold Hn.chkE Hn.mayB; simp [h]
theorem chk_most {t : Ht} (h : ¬ t.gens.length ≤ 65536) : Hn.chkE t = 8 := by
  unfold Hn.chkE Hn.mayB
  rw [decide_eq_false h]
  simp
theorem chk_all {t : Ht} (h : t.ats.length = t.gens.length) (h2 : t.gens.length ≤ 65536) (h3 : (List.range t.gens.length).all (Hn.fineB t) = true) : Hn.chkE t = 0 := by
  unfold Hn.chkE Hn.mayB
  rw [decide_eq_true h, decide_eq_true h2, h3]
  rfl
theorem chk_some {t : Ht} {pre : List Nat} (hp : pre <+: List.range t.gens.length) (h3 : pre.all (Hn.fineB t) = false) : Hn.chkE t = 8 := by
  have : (List.range t.gens.length).all (Hn.fineB t) = false := by
    obtain ⟨r, hr⟩ := hp
    rw [← hr, List.all_append, h3]
    rfl
  unfold Hn.chkE Hn.mayB
  rw [this]
  simp
set_option maxRecDepth 100000 in
set_option maxHeartbeats 2000000 in
theorem hCheck (t : Ht) (A : HAds) (w : World) (h : HHeld w t A) (ok : t.Ok) (hs : t.Short) :
    Calls Try.prog 12 #[hv t A] w fun e w' => e = .returned (.int .i64 (Hn.chkE t)) ∧ Below w.heap.size w w' := by
  have HH := Lib.hid h
  have HX := Lib.hid (fun o => (HBox.new w t A 24).below ((Below.refl _ _).alloc (Nat.le_refl _) o))
  have BB := Lib.hid (fun o o' => ((Below.refl w.heap.size w).alloc (Nat.le_refl _) o).alloc (by simp) o')
  have CN := Lib.hid (fun V => hNumbers t A V)
  clear h ok hs
  unfold hCells at HX
  unfold hv at CN ⊢
  by_cases hl : t.ats.length = t.gens.length
  · by_cases hn : t.gens.length ≤ 65536
    · have k1 : ((t.gens.length : Int) != (t.ats.length : Int)) = false := by simp; omega
      have k2 : decide ((t.gens.length : Int) > 65536) = false := by simp; omega
      have HL := Lib.hid hl
      clear hl
      have k3 := hn
      refine calls_marks Try.func12 rfl ?_
      simp only [Try.ntmps12, List.size_toArray, List.length_cons, List.length_nil, Nat.reduceAdd, Nat.reduceSub, Array.replicate_succ, Array.replicate_zero, List.push_toArray, List.append_toArray, List.nil_append, List.cons_append]
      go_upto_region 3 with (fail)
      obtain ⟨V, hV⟩ : ∃ V, V = (w.alloc (.cells #[.slice A.g t.gens.length A.cg, .slice A.a t.ats.length A.ca] 24)).alloc (.cells #[.int .i64 0] 27) := ⟨_, rfl⟩
      rw [← hV]
      have bV : Below w.heap.size w V := by rw [hV]; exact BB.out _ _
      have xV : HBox V w.heap.size t A := by rw [hV]; exact HX.out _
      have rV : Boxed V (w.heap.size + 1) 27 (.int .i64 0) := by
        rw [hV]
        have := Boxed.new (w.alloc (.cells #[.slice A.g t.gens.length A.cg, .slice A.a t.ats.length A.ca] 24)) 27 (.int .i64 0)
        rw [World.size_alloc] at this
        exact this
      have XV := Lib.hid xV
      clear hV HX BB
      obtain ⟨_, p0, p1, _, _⟩ := xV
      go_wp2_with fail
      refine (CN.out _).mono ?_
      rintro e W5 ⟨b, rfl, hB, hb1, hb⟩
      have B5 := Lib.hid (bV.trans (hb.mono bV.size))
      have R5 := Lib.hid (boxed_low rV rV.lt hb)
      have HB := Lib.hid hB
      have H5 := Lib.hid (HH.out.below B5.out)
      have zV : w.heap.size + 1 < V.heap.size := rV.lt
      have z5 : V.heap.size ≤ W5.heap.size := hb.size
      have zb := hB.lt
      clear hB hb p0 p1 XV rV bV CN
      go_wp2_with fail
      refine wp_rangeQ (enc := fun x : Nat => #[.int .i64 x, .agg #[.int .i64 (Hn.g t x), .int .i64 (Hn.a t x)]]) (fun _ => rfl) (gf := 47) (lb := #[.pointer (some ⟨b, 0, none⟩)]) rfl (enters_of Try.func47 (by kernel_rfl) rfl)
        (nums_seq _ t A b W5 ⟨HB.out, H5.out⟩ (zok_of HH.out hb1 zb) (fun k hk => by rcases hk with hk | hk <;> omega) HL.out k3) (fun k hk => by rcases hk with hk | hk <;> omega)
        (ChkI t w W5.heap.size (w.heap.size + 1)) (ChkX t w W5.heap.size (w.heap.size + 1)) (chkI_own _ _ _ _ _ (by omega)) (fun c => chkX_own _ _ _ _ _ (by omega) c)
        ⟨B5.out, Nat.le_refl _, R5.out, rfl⟩
        (fun W x => { tmps := #[(.agg #[.slice A.g t.gens.length A.cg, .slice A.a t.ats.length A.ca]), (.pointer (some ⟨w.heap.size, 0, none⟩)), .pointer (some ⟨w.heap.size + 1, 0, none⟩), undef, .pointer (some ⟨W.heap.size, 0, none⟩), (.pointer (some ⟨w.heap.size, 0, none⟩)), .slice A.g t.gens.length A.cg, (.int .i64 (t.gens.length : Int)), (.pointer (some ⟨w.heap.size, 1, none⟩)), .slice A.a t.ats.length A.ca, .int .i64 (t.ats.length : Int), .bool false, .bool false, (.pointer (some ⟨w.heap.size, 0, none⟩)), .slice A.g t.gens.length A.cg, (.int .i64 (t.gens.length : Int)), .bool false, .bool false, (.agg #[.slice A.g t.gens.length A.cg, .slice A.a t.ats.length A.ca]), (.func (Fn.func 47) #[] #[.pointer (some ⟨b, 0, none⟩)]), .int .i64 (x : Int), .agg #[.int .i64 (Hn.g t x), .int .i64 (Hn.a t x)], undef, undef, undef], defers := [] }) (fun W x => W.alloc (.cells #[.int .i64 (Hn.g t x), .int .i64 (Hn.a t x)] 64)) (fun W x => (Below.refl _ _).alloc (Nat.le_refl _) _) ?assign ?body ?done ?stop
      case assign =>
        intro l x W K hK
        gi_wp2
        exact hK
      case body =>
        rintro l pre x W W' hI hpre hov hsz
        have HI := Lib.hid hI
        have PB := Lib.hid (num_box hov)
        have r0 := hI.res.cell
        have r1 := hI.res.frozen
        have q0 := PB.out.c0
        have q1 := PB.out.c1
        have sz' : W5.heap.size ≤ W'.heap.size := hI.size
        have zW : W'.heap.size = W.heap.size + 1 := by rw [hsz]; simp
        have CM := Lib.hid (fun V => hMayBe (Hn.g t x) (Hn.a t x) V)
        rw [num_fine] at CM
        dsimp only at q0 q1
        clear hI hpre hov hsz
        gi_wp2
        refine ⟨trivial, ?_⟩
        refine (callsIn_wide.2 (CM.out _)).mono ?_
        rintro e W2 ⟨rfl, hb⟩
        have hb2 := Lib.hid hb
        have HR2 := Lib.hid (boxed_low HI.out.res HI.out.res.lt hb)
        have sz2 := hb.size
        clear hb r0 r1 q0 q1 PB CM
        have r0 := HR2.out.cell
        have r1 := HR2.out.frozen
        cases hf : Hn.fineB t x
        · have HF := Lib.hid hf
          clear hf
          gi_wp2
          exact ⟨(keeps_of_belowH hb2.out).trans (KeepsOthers.setCell _ _ _), rfl, (HI.out.below.trans (hb2.out.mono HI.out.below.size)).setCell (by simp) _, by rw [World.size_setCell]; omega, HR2.out.set _, by rw [List.all_append]; simp [HF.out]⟩
        · have HF := Lib.hid hf
          clear hf
          gi_wp2
          exact ⟨keeps_of_belowH hb2.out, Kept.of_below hb2.out (fun k hk => by rcases hk with hk | hk <;> omega), HI.out.below.trans (hb2.out.mono HI.out.below.size), by omega, HR2.out, by rw [List.all_append, HI.out.fine]; simp [HF.out]⟩
      case done =>
        rintro D W hD hI hKD
        have HI := Lib.hid hI.below
        have HR := Lib.hid hI.res
        have E := Lib.hid (chk_all HL.out k3 hI.fine)
        have zs := hI.size
        have hKD2 := Lib.hid hKD
        have hDlt : D < W.heap.size := (Array.getElem?_eq_some_iff.1 hKD).1
        have d0 := hI.res.cell
        have d1 := hI.res.frozen
        clear hI hKD
        go_wp2
        have hKD3 : (W.setCell ⟨w.heap.size + 1, 0, none⟩ (.int .i64 0)).heap[D]? = some (.deferred (some [])) := (Below.heap_setCell W ⟨w.heap.size + 1, 0, none⟩ _ D (by show D ≠ w.heap.size + 1; omega)).trans hKD2.out
        refine leaves_one hKD3 ?_
        have ov := Over.of_grown (n := 0) (grownBy_putObj' (W.setCell ⟨w.heap.size + 1, 0, none⟩ (.int .i64 0)) D (.deferred none)) (fun r e => by cases e; exact ⟨Nat.zero_le _, _, hKD3, rfl⟩)
        have c9 := (ov.boxed (HR.out.set (.int .i64 0))).cell
        refine ⟨.int .i64 0, by simp [results, Try.results12, go_sem, c9], by rw [E.out], ?_⟩
        exact (HI.out.setCell (p := ⟨w.heap.size + 1, 0, none⟩) (by simp) _).trans ((Below.refl _ _).grown (grownBy_putObj' _ D _) (by rw [World.size_setCell]; omega) (fun k e => by cases e; omega))
      case stop =>
        rintro D c pre W hD hSp hF hKD
        obtain ⟨rfl, hbelow, hsize, hres, hbad⟩ := hF
        have HI := Lib.hid hbelow
        have HR := Lib.hid hres
        have E := Lib.hid (chk_some hSp hbad)
        have hKD2 := Lib.hid hKD
        have hDlt : D < W.heap.size := (Array.getElem?_eq_some_iff.1 hKD).1
        clear hbelow hres hbad hKD hSp
        go_wp2
        refine leaves_one hKD2.out ?_
        have ov := Over.of_grown (n := 0) (grownBy_putObj' W D (.deferred none)) (fun r e => by cases e; exact ⟨Nat.zero_le _, _, hKD2.out, rfl⟩)
        have c9 := (ov.boxed HR.out).cell
        refine ⟨.int .i64 8, by simp [results, Try.results12, go_sem, c9], by rw [E.out], ?_⟩
        exact HI.out.trans ((Below.refl _ _).grown (grownBy_putObj' _ D _) (by omega) (fun k e => by cases e; omega))
    · have k1 : ((t.gens.length : Int) != (t.ats.length : Int)) = false := by simp; omega
      have k2 : decide ((t.gens.length : Int) > 65536) = true := by simp; omega
      have E := Lib.hid (chk_most hn)
      clear hl hn HX
      go_enter Try.func12, Try.ntmps12
      go_wp2
      refine bodyPost_ret (v := .int .i64 8) (by simp [results, Try.results12, go_sem]) rfl ⟨by rw [E.out], BB.out _ _⟩
  · have k1 : ((t.gens.length : Int) != (t.ats.length : Int)) = true := by simp; omega
    have E := Lib.hid (chk_len hl)
    clear hl HX
    go_enter Try.func12, Try.ntmps12
    go_wp2
    refine bodyPost_ret (v := .int .i64 8) (by simp [results, Try.results12, go_sem]) rfl ⟨by rw [E.out], BB.out _ _⟩
end Go.Proofs.Ytephmejhglcdiaa
