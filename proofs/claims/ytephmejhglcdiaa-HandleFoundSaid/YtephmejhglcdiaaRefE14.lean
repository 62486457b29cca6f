/- What the document's own answers of layer 14 (package shelfmarkref14) return: Given. What it answers is new memory. -/
import Derived.Test.YtephmejhglcdiaaRefD14
namespace Go.Proofs.Ytephmejhglcdiaa
open Go.RowKit
set_option linter.unusedVariables false
set_option linter.unusedSimpArgs false

def GivJ (t : Ht) (w : World) (i : Value) (wr : World) : Prop := ∃ k : Nat, k ≤ t.gens.length ∧ i = .int .i64 k ∧ wr = w ∧ ∀ j, j < k → Hn.freeB t j = false
theorem free_no {t : Ht} {k : Nat} (h : ¬ (Hn.a t k < 0 ∧ Hn.g t k < 2147483647)) : Hn.freeB t k = false := by
  cases e : Hn.freeB t k
  · rfl
  · exact absurd ((Hn.free_iff t k).1 e) h
set_option maxRecDepth 100000 in
set_option maxHeartbeats 8000000 in
theorem r14Given (t : Ht) (A : HAds) (p : Int) (w : World) (h : HHeld w t A) (hm : Hn.May t) :
    Calls Try.prog 43 #[hv t A, .int .i64 p] w (HAnsB (Hn.giveV t p) (Hn.giveH t) (!Hn.fullB t) w) := by
  have hs := Ht.short_of hm
  have l1 := hm.most
  have L2 := Lib.hid hm.len
  have HB := Lib.hid (fun x y z => (((Below.refl w.heap.size w).alloc (Nat.le_refl _) x).alloc (by simp) y).alloc (by simp; omega) z)
  have HX := Lib.hid (fun x y => ((HBox.new w t A 24).below ((Below.refl _ _).alloc (Nat.le_refl _) x)).below ((Below.refl _ _).alloc (Nat.le_refl _) y))
  have HY := Lib.hid (fun x y => (HBox.new (w.alloc x) Ht.zero hNone 24).below ((Below.refl _ _).alloc (Nat.le_refl _) y))
  have HZ := Lib.hid (fun x y => PBox.new ((w.alloc x).alloc y) (0, 0) 26)
  have CT := Lib.hid (fun V (hb : Below w.heap.size w V) => r14TwinR t A V (h.below hb) hs)
  have HH := Lib.hid h
  clear h hs
  unfold hv
  go_enter Try.func43, Try.ntmps43
  go_upto_region 1 with (fail)
  obtain ⟨W0, hW0⟩ : ∃ W, W = ((w.alloc (.cells #[.slice A.g t.gens.length A.cg, .slice A.a t.ats.length A.ca] 24)).alloc (.cells #[.slice none 0 0, .slice none 0 0] 24)).alloc (.cells #[.int .i64 0, .int .i64 0] 26) := ⟨_, rfl⟩
  have BX := Lib.hid (show HBox W0 w.heap.size t A by rw [hW0]; exact HX.out _ _)
  have BR := Lib.hid (show HBox W0 (w.heap.size + 1) Ht.zero hNone by rw [hW0]; have := HY.out (.cells #[.slice A.g t.gens.length A.cg, .slice A.a t.ats.length A.ca] 24) (.cells #[.int .i64 0, .int .i64 0] 26); rw [World.size_alloc] at this; exact this)
  have BH := Lib.hid (show PBox W0 (w.heap.size + 1 + 1) (0, 0) by rw [hW0]; have := HZ.out (.cells #[.slice A.g t.gens.length A.cg, .slice A.a t.ats.length A.ca] 24) (.cells #[.slice none 0 0, .slice none 0 0] 24); rw [World.size_alloc, World.size_alloc] at this; exact this)
  have BB := Lib.hid (show Below w.heap.size w W0 by rw [hW0]; exact HB.out _ _ _)
  have z0 : w.heap.size + 3 ≤ W0.heap.size := by rw [hW0]; simp
  rw [← hW0]
  clear hW0 HB HX HY HZ
  obtain ⟨_, p0, p1, _, _⟩ := BX.out
  unfold hv at CT
  go_wp2_with fail
  refine (CT.out _ BB.out).mono ?_
  rintro e w1 ⟨A1, rfl, own, hb⟩
  unfold hv
  go_upto_region 2 with (fail)
  obtain ⟨W1, hW1⟩ : ∃ W, W = w1.alloc (.cells #[.slice A1.g t.gens.length A1.cg, .slice A1.a t.ats.length A1.ca] 24) := ⟨_, rfl⟩
  have hbW1 : Below w1.heap.size w1 W1 := by rw [hW1]; exact (Below.refl _ _).alloc (Nat.le_refl _) _
  have BX1 := Lib.hid (show HBox W1 w1.heap.size t A1 by rw [hW1]; exact HBox.new w1 t A1 24)
  rw [← hW1]
  have OR := Lib.hid (own.below hbW1)
  have OF := Lib.hid (own.own.off_ge (Nat.le_refl w1.heap.size))
  have z1 : W0.heap.size ≤ w1.heap.size := hb.size
  have BB1 := Lib.hid (show Below w.heap.size w W1 from (BB.out.trans (hb.mono (by omega))).trans (hbW1.mono (by omega)))
  have BR1 := Lib.hid ((BR.out.below hb).below hbW1)
  have BH1 := Lib.hid ((BH.out.below hb).below hbW1)
  have BT1 := Lib.hid ((BX.out.below hb).below hbW1)
  have z2 : ∀ k, (Value.slice A1.g t.gens.length A1.cg).ownBlock = some k → k < w1.heap.size := fun k hk => (World.ownsRow.lt own.gens k hk).2
  have z3 : ∀ k, (Value.slice A1.a t.ats.length A1.ca).ownBlock = some k → k < w1.heap.size := fun k hk => (World.ownsRow.lt own.ats k hk).2
  clear hW1 hbW1 own hb BB BR BH BX p0 p1 CT
  obtain ⟨ag, aa, cg, ca⟩ := A
  try dsimp only at HH BT1
  go_wp2
  go_loopw [8] (GivJ t W1) (fun i _ => t.gens.length - (intOf i).toNat)
  case atStart => exact ⟨0, Nat.zero_le _, rfl, rfl, fun j hj => by omega⟩
  case round =>
    obtain ⟨k, hk, rfl, rfl, ht⟩ := hrel
    have HT := Lib.hid ht
    clear ht
    by_cases hlt : k < t.gens.length
    · obtain ⟨b1, o1, hA1, hl1, c1⟩ := HH.out.gens.cell hlt
      obtain ⟨b2, o2, hA2, hl2, c2⟩ := HH.out.ats.cell (show k < t.ats.length by have := L2.out; omega)
      replace c1 := (BB1.out.cell (p := ⟨b1, o1 + k, none⟩) hl1).trans c1
      replace c2 := (BB1.out.cell (p := ⟨b2, o2 + k, none⟩) hl2).trans c2
      dsimp only at hA1 hA2
      subst hA1 hA2
      obtain ⟨_, p0, p1, _, _⟩ := BT1.out
      dsimp only at p0 p1
      have i2 : (k : Int) < (t.ats.length : Int) := by have := L2.out; omega
      have ST := Lib.hid (show Hn.freeB t k = false → ∀ j, j < k + 1 → Hn.freeB t j = false from fun h j hj => by
        rcases Nat.lt_or_ge j k with h1 | h1
        · exact HT.out j h1
        · obtain rfl : j = k := by omega
          exact h)
      have FR := Lib.hid (show Hn.freeB t k = true → Hn.free t = k from fun h => Hn.free_is hk HT.out (fun _ => h))
      have NF := Lib.hid (fun h => free_no (t := t) (k := k) h)
      have YF := Lib.hid ((Hn.free_iff t k).2)
      obtain ⟨x, hx⟩ : ∃ x, Hn.g t k = x := ⟨_, rfl⟩
      obtain ⟨y, hy⟩ : ∃ y, Hn.a t k = y := ⟨_, rfl⟩
      rw [show t.gens.getD k 0 = x from hx] at c1
      rw [show t.ats.getD k 0 = y from hy] at c2
      rw [hx, hy] at NF YF
      have HGX := Lib.hid hx
      clear hx hy HT
      by_cases h1 : ¬ y < 0
      · have HE := Lib.hid (ST.out (NF.out (fun h => h1 h.1)))
        have h1' : decide (y < 0) = false := decide_eq_false h1
        clear ST FR NF YF
        go_wp2
        go_roundw
        case rel => exact ⟨k + 1, by omega, by go_num, rfl, HE.out⟩
        case measure => simp [intOf]; omega
      replace h1 := Decidable.not_not.1 h1
      by_cases h2 : ¬ x < 2147483647
      · have HE := Lib.hid (ST.out (NF.out (fun h => h2 h.2)))
        have h2' : decide (x < 2147483647) = false := decide_eq_false h2
        clear ST FR NF YF
        go_wp2
        go_roundw
        case rel => exact ⟨k + 1, by omega, by go_num, rfl, HE.out⟩
        case measure => simp [intOf]; omega
      replace h2 := Decidable.not_not.1 h2
      have HF := Lib.hid (FR.out (YF.out ⟨h1, h2⟩))
      clear ST FR NF YF
      have FU := Lib.hid (show Hn.fullB t = false by
        unfold Hn.fullB
        rw [HF.out, decide_eq_false (by omega)]
        rfl)
      have GV := Lib.hid (show Hn.giveV t p = Hn.moved t k p by unfold Hn.giveV; rw [FU.out, if_neg (by simp)]; unfold Hn.given Hn.moved; rw [HF.out, if_pos hlt])
      have HD := Lib.hid (show Hn.giveH t = ((k : Int), x) by unfold Hn.giveH; rw [FU.out, if_neg (by simp)]; unfold Hn.hnd; rw [HF.out, HGX.out])
      obtain ⟨b, o, hA, hbb, hbl, hc, hf, hset⟩ := OR.out.own.setA (i := k) (show k < t.ats.length by have := L2.out; omega)
      have hbB : b ≠ w1.heap.size := by
        rcases OF.out.a with e | e
        · have := hlt; rw [← L2.out, e] at this; simp at this
        · exact e _ hA
      have n1 : b1 ≠ b := by omega
      have n2 : b2 ≠ b := by omega
      have BX2 := Lib.hid (fun u => (BX1.out.setOther (p := ⟨b, o + k, none⟩) hbB u))
      have BR2 := Lib.hid (fun u => (BR1.out.setOther (p := ⟨b, o + k, none⟩) (by show b ≠ w.heap.size + 1; omega) u))
      have BH2 := Lib.hid (fun u => (BH1.out.apart (p := ⟨b, o + k, none⟩) (by show b ≠ w.heap.size + 1 + 1; omega) u))
      have BT2 := Lib.hid (fun u => (BT1.out.setOther (p := ⟨b, o + k, none⟩) (by show b ≠ w.heap.size; omega) u))
      have OY := Lib.hid (hset p)
      have BB2 := Lib.hid (fun u => BB1.out.setCell (p := ⟨b, o + k, none⟩) (by show w.heap.size ≤ b; omega) u)
      obtain ⟨dg, da, eg, ea⟩ := A1
      obtain ⟨_, q0, q1, _, _⟩ := BX1.out
      dsimp only at hA q0 q1
      subst hA
      clear hset
      go_upto_region 7 with (fail)
      obtain ⟨M, hM⟩ : ∃ M, M = Hn.moved t k p := ⟨_, rfl⟩
      obtain ⟨W2, hW2⟩ : ∃ W, W = wr.setCell ⟨b, o + k, none⟩ (.int .i64 p) := ⟨_, rfl⟩
      have CS := Lib.hid (show W2.cell? ⟨w1.heap.size, 0, none⟩ = some (.slice dg M.gens.length eg) ∧ W2.cell? ⟨w1.heap.size, 1, none⟩ = some (.slice (some ⟨b, o, none⟩) M.ats.length ea) ∧ W2.cell? ⟨w.heap.size, 0, none⟩ = some (.slice (some ⟨b1, o1, none⟩) t.gens.length cg) ∧ W2.cell? ⟨b1, o1 + k, none⟩ = some (.int .i64 x) by
        rw [hW2, hM]
        obtain ⟨e0, e1, e2, e3, e4⟩ := BX2.out (.int .i64 p)
        refine ⟨e1, ?_, (BT2.out _).c0, (World.cell?_setCell_other _ _ _ _ (by intro e; injection e with e1; exact n1 e1.symm)).trans c1⟩
        rw [e2]; show _ = some (Value.slice (some ⟨b, o, none⟩) (t.ats.set k p).length ea); rw [List.length_set])
      have BR3 := Lib.hid (show HBox W2 (w.heap.size + 1) Ht.zero hNone by rw [hW2]; exact BR2.out _)
      have BH3 := Lib.hid (show PBox W2 (w.heap.size + 1 + 1) (0, 0) by rw [hW2]; exact BH2.out _)
      replace OY := Lib.hid (show HOwn W2 W0.heap.size M ⟨dg, some ⟨b, o, none⟩, eg, ea⟩ by rw [hW2, hM]; exact OY.out)
      have BB3 := Lib.hid (show Below w.heap.size w W2 by rw [hW2]; exact BB2.out _)
      rw [← hM] at GV
      rw [← hW2]
      clear hW2 hM BX2 BR2 BH2 BT2 BB2 BR1 BH1 BT1 BX1 hc hf p0 p1 q0 q1 c1 c2 OR OF HF HGX BB1 HH
      refine wp_region_held_drew (S := fun w' => w'.cell? ⟨w1.heap.size, 0, none⟩ = some (.slice dg M.gens.length eg) ∧ w'.cell? ⟨w1.heap.size, 1, none⟩ = some (.slice (some ⟨b, o, none⟩) M.ats.length ea) ∧ w'.cell? ⟨w.heap.size, 0, none⟩ = some (.slice (some ⟨b1, o1, none⟩) t.gens.length cg) ∧ w'.cell? ⟨b1, o1 + k, none⟩ = some (.int .i64 x)) (by kernel_rfl) (by exact CS.out) (fun hHeld => ?_)
      obtain ⟨W2d, hV⟩ : ∃ V, V = W2.drew := ⟨_, rfl⟩
      replace CS := Lib.hid (show W2d.cell? ⟨w1.heap.size, 0, none⟩ = some (.slice dg M.gens.length eg) ∧ W2d.cell? ⟨w1.heap.size, 1, none⟩ = some (.slice (some ⟨b, o, none⟩) M.ats.length ea) ∧ W2d.cell? ⟨w.heap.size, 0, none⟩ = some (.slice (some ⟨b1, o1, none⟩) t.gens.length cg) ∧ W2d.cell? ⟨b1, o1 + k, none⟩ = some (.int .i64 x) by rw [hV]; exact CS.out)
      replace BR3 := Lib.hid (show HBox W2d (w.heap.size + 1) (Ht.zero) (hNone) by rw [hV]; exact BR3.out.below ((Below.refl _ _).drew))
      replace BH3 := Lib.hid (show PBox W2d (w.heap.size + 1 + 1) ((0, 0)) by rw [hV]; exact BH3.out.below ((Below.refl _ _).drew))
      replace OY := Lib.hid (show HOwn W2d (W0.heap.size) (M) (⟨dg, some ⟨b, o, none⟩, eg, ea⟩ : HAds) by rw [hV]; exact OY.out.below ((Below.refl _ _).drew))
      replace BB3 := Lib.hid (show Below w.heap.size w W2d by rw [hV]; exact BB3.out.drew)
      rw [← hV] at hHeld ⊢
      clear hV
      refine wpAnyH_take (i := 0) (oi := Oper.mk _ _ _ _ _ _) (v := ?vg0) rfl (by kernel_rfl) (by kernel_rfl) (by kernel_rfl) (fun _ _ _ h => h) (Or.inl ⟨by rfl, ?hyg0⟩) (by assumption) ?restg0
      case hyg0 =>
        intro w0 hSw
        try dsimp only at hSw
        go_simp
        all_goals with_reducible rfl
      try simp only [Act.put, List.setIfInBounds_toArray, List.set_cons_zero, List.set_cons_succ]
      refine wpAnyH_take (i := 1) (oi := Oper.mk _ _ _ _ _ _) (v := ?vg1) rfl (by kernel_rfl) (by kernel_rfl) (by kernel_rfl) (fun _ _ _ h => h) (Or.inl ⟨by rfl, ?hyg1⟩) (by assumption) ?restg1
      case hyg1 =>
        intro w0 hSw
        try dsimp only at hSw
        go_simp
        all_goals with_reducible rfl
      try simp only [Act.put, List.setIfInBounds_toArray, List.set_cons_zero, List.set_cons_succ]
      refine wpAnyH_take (i := 2) (oi := Oper.mk _ _ _ _ _ _) (v := ?vg2) rfl (by kernel_rfl) (by kernel_rfl) (by kernel_rfl) (fun _ _ _ h => h) (Or.inl ⟨by rfl, ?hyg2⟩) (by assumption) ?restg2
      case hyg2 =>
        intro w0 hSw
        try dsimp only at hSw
        go_simp
        all_goals with_reducible rfl
      try simp only [Act.put, List.setIfInBounds_toArray, List.set_cons_zero, List.set_cons_succ]
      refine wpAnyH_take (i := 3) (oi := Oper.mk _ _ _ _ _ _) (v := ?vg3) rfl (by kernel_rfl) (by kernel_rfl) (by kernel_rfl) (fun _ _ _ h => h) (Or.inl ⟨by rfl, ?hyg3⟩) (by assumption) ?restg3
      case hyg3 =>
        intro w0 hSw
        try dsimp only at hSw
        go_simp
        all_goals with_reducible rfl
      try simp only [Act.put, List.setIfInBounds_toArray, List.set_cons_zero, List.set_cons_succ]
      refine wpAnyH_take (i := 4) (oi := Oper.mk _ _ _ _ _ _) (v := ?vg4) rfl (by kernel_rfl) (by kernel_rfl) (by kernel_rfl) (fun _ _ _ h => h) (Or.inl ⟨by rfl, ?hyg4⟩) (by assumption) ?restg4
      case hyg4 =>
        intro w0 hSw
        try dsimp only at hSw
        go_simp
        all_goals with_reducible rfl
      try simp only [Act.put, List.setIfInBounds_toArray, List.set_cons_zero, List.set_cons_succ]
      refine wpAnyH_take (i := 5) (oi := Oper.mk _ _ _ _ _ _) (v := ?vg5) rfl (by kernel_rfl) (by kernel_rfl) (by kernel_rfl) (fun _ _ _ h => h) (Or.inl ⟨by rfl, ?hyg5⟩) (by assumption) ?restg5
      case hyg5 =>
        intro w0 hSw
        try dsimp only at hSw
        go_simp
        all_goals with_reducible rfl
      try simp only [Act.put, List.setIfInBounds_toArray, List.set_cons_zero, List.set_cons_succ]
      refine wpAnyH_take (i := 6) (oi := Oper.mk _ _ _ _ _ _) (v := ?vg6) rfl (by kernel_rfl) (by kernel_rfl) (by kernel_rfl) (fun _ _ _ h => h) (Or.inl ⟨by rfl, ?hyg6⟩) (by assumption) ?restg6
      case hyg6 =>
        intro w0 hSw
        try dsimp only at hSw
        go_simp
        all_goals with_reducible rfl
      try simp only [Act.put, List.setIfInBounds_toArray, List.set_cons_zero, List.set_cons_succ]
      refine wpAnyH_take (i := 7) (oi := Oper.mk _ _ _ _ _ _) (v := ?vg7) rfl (by kernel_rfl) (by kernel_rfl) (by kernel_rfl) (fun _ _ _ h => h) (Or.inl ⟨by rfl, ?hyg7⟩) (by assumption) ?restg7
      case hyg7 =>
        intro w0 hSw
        try dsimp only at hSw
        go_simp
        all_goals with_reducible rfl
      try simp only [Act.put, List.setIfInBounds_toArray, List.set_cons_zero, List.set_cons_succ]
      refine wpAnyH_ready (rs := [8]) (by kernel_rfl) (by simp) ?_
      refine AllReadyH.cons (o := Oper.mk _ _ _ _ _ _) rfl (fun K hK => ?_) AllReadyH.nil
      obtain ⟨_, z1, z2, zf1, zf2⟩ := BR3.out
      try dsimp only [Ht.zero, hNone, List.length_nil] at z1 z2
      go_simp
      obtain ⟨Fg1, hU⟩ : ∃ U, U = wput2 W2d (w.heap.size + 1) (.slice (⟨dg, some ⟨b, o, none⟩, eg, ea⟩ : HAds).g (M).gens.length (⟨dg, some ⟨b, o, none⟩, eg, ea⟩ : HAds).cg) (.slice (⟨dg, some ⟨b, o, none⟩, eg, ea⟩ : HAds).a (M).ats.length (⟨dg, some ⟨b, o, none⟩, eg, ea⟩ : HAds).ca) := ⟨_, rfl⟩
      replace CS := Lib.hid (show Fg1.cell? ⟨w1.heap.size, 0, none⟩ = some (.slice dg M.gens.length eg) ∧ Fg1.cell? ⟨w1.heap.size, 1, none⟩ = some (.slice (some ⟨b, o, none⟩) M.ats.length ea) ∧ Fg1.cell? ⟨w.heap.size, 0, none⟩ = some (.slice (some ⟨b1, o1, none⟩) t.gens.length cg) ∧ Fg1.cell? ⟨b1, o1 + k, none⟩ = some (.int .i64 x) by rw [hU]; obtain ⟨c0, c1, c2, c3⟩ := CS.out; exact ⟨cell_put2 c0 (by omega) _ _, cell_put2 c1 (by omega) _ _, cell_put2 c2 (by omega) _ _, cell_put2 c3 (by omega) _ _⟩)
      have BXn := Lib.hid (show HBox Fg1 (w.heap.size + 1) (M) (⟨dg, some ⟨b, o, none⟩, eg, ea⟩ : HAds) by rw [hU]; exact BR3.out.put2 (M) (⟨dg, some ⟨b, o, none⟩, eg, ea⟩ : HAds))
      replace BH3 := Lib.hid (show PBox Fg1 (w.heap.size + 1 + 1) ((0, 0)) by rw [hU]; exact BH3.out.put2o (by omega) _ _)
      replace OY := Lib.hid (show HOwn Fg1 (W0.heap.size) (M) (⟨dg, some ⟨b, o, none⟩, eg, ea⟩ : HAds) by rw [hU]; exact OY.out.put2o (OY.out.off_lt (by omega)) _ _)
      replace BB3 := Lib.hid (show Below w.heap.size w Fg1 by rw [hU]; exact below_put2 BB3.out (by omega) _ _)
      unfold wput2 at hU
      try dsimp only at hU
      first | rw [← hU] | skip
      clear hU z1 z2 zf1 zf2 BR3
      have BR3 := BXn
      clear BXn
      refine hK.out _ _ (CS.out) (fun hHeldg8 => ?_)
      clear hK K hHeld
      try simp only [Act.put, List.setIfInBounds_toArray, List.set_cons_zero, List.set_cons_succ]
      refine wpAnyH_ready (rs := [9]) (by kernel_rfl) (by simp) ?_
      refine AllReadyH.cons (o := Oper.mk _ _ _ _ _ _) rfl (fun K hK => ?_) AllReadyH.nil
      obtain ⟨_, z1, z2, zf1, zf2⟩ := BH3.out
      try dsimp only [Ht.zero, hNone, List.length_nil] at z1 z2
      go_simp
      obtain ⟨Fg2, hU⟩ : ∃ U, U = wput2 Fg1 (w.heap.size + 1 + 1) (.int .i64 (((k : Int), x)).1) (.int .i64 (((k : Int), x)).2) := ⟨_, rfl⟩
      replace CS := Lib.hid (show Fg2.cell? ⟨w1.heap.size, 0, none⟩ = some (.slice dg M.gens.length eg) ∧ Fg2.cell? ⟨w1.heap.size, 1, none⟩ = some (.slice (some ⟨b, o, none⟩) M.ats.length ea) ∧ Fg2.cell? ⟨w.heap.size, 0, none⟩ = some (.slice (some ⟨b1, o1, none⟩) t.gens.length cg) ∧ Fg2.cell? ⟨b1, o1 + k, none⟩ = some (.int .i64 x) by rw [hU]; obtain ⟨c0, c1, c2, c3⟩ := CS.out; exact ⟨cell_put2 c0 (by omega) _ _, cell_put2 c1 (by omega) _ _, cell_put2 c2 (by omega) _ _, cell_put2 c3 (by omega) _ _⟩)
      have BXn := Lib.hid (show PBox Fg2 (w.heap.size + 1 + 1) (((k : Int), x)) by rw [hU]; exact BH3.out.put2 (((k : Int), x)))
      replace BR3 := Lib.hid (show HBox Fg2 (w.heap.size + 1) (M) (⟨dg, some ⟨b, o, none⟩, eg, ea⟩ : HAds) by rw [hU]; exact BR3.out.put2o (by omega) _ _)
      replace OY := Lib.hid (show HOwn Fg2 (W0.heap.size) (M) (⟨dg, some ⟨b, o, none⟩, eg, ea⟩ : HAds) by rw [hU]; exact OY.out.put2o (OY.out.off_lt (by omega)) _ _)
      replace BB3 := Lib.hid (show Below w.heap.size w Fg2 by rw [hU]; exact below_put2 BB3.out (by omega) _ _)
      unfold wput2 at hU
      try dsimp only at hU
      first | rw [← hU] | skip
      clear hU z1 z2 zf1 zf2 BH3
      have BH3 := BXn
      clear BXn
      refine hK.out _ _ (CS.out) (fun hHeldg9 => ?_)
      clear hK K hHeldg8
      try simp only [Act.put, List.setIfInBounds_toArray, List.set_cons_zero, List.set_cons_succ]
      refine wpAnyH_take (i := 10) (oi := Oper.mk _ _ _ _ _ _) (v := ?vg10) rfl (by kernel_rfl) (by kernel_rfl) (by kernel_rfl) (fun _ _ _ h => h) (Or.inl ⟨by rfl, ?hyg10⟩) (by assumption) ?restg10
      case hyg10 =>
        intro w0 hSw
        try dsimp only at hSw
        go_simp
        all_goals with_reducible rfl
      try simp only [Act.put, List.setIfInBounds_toArray, List.set_cons_zero, List.set_cons_succ]
      refine wpAnyH_done (by kernel_rfl) ?_ _
      go_wp2
      obtain ⟨_, s0, s1, _, _⟩ := BR3.out
      obtain ⟨_, v0, v1, _, _⟩ := BH3.out
      dsimp only at s0 s1 v0 v1
      refine bodyPost_ret (v := .tuple #[hv M (⟨dg, some ⟨b, o, none⟩, eg, ea⟩ : HAds), pv ((k : Int), x), .bool true]) (by simp [results, Try.results43, go_sem, hv, pv, s0, s1, v0, v1]) rfl (by unfold HAnsB; rw [GV.out, HD.out, FU.out]; exact ⟨_, rfl, OY.out.lower (by omega), BB3.out⟩)
    obtain rfl : k = t.gens.length := by omega
    have HF := Lib.hid (show Hn.free t = t.gens.length from Hn.free_is (Nat.le_refl _) HT.out (fun h => absurd h (Nat.lt_irrefl _)))
    clear HT hlt hk
    by_cases h6 : t.gens.length = 65536
    · have FU := Lib.hid (show Hn.fullB t = true by unfold Hn.fullB; rw [HF.out, decide_eq_true rfl, decide_eq_true h6]; rfl)
      have GV := Lib.hid (show Hn.giveV t p = Ht.zero by unfold Hn.giveV; rw [FU.out, if_pos rfl])
      have HD := Lib.hid (show Hn.giveH t = (0, 0) by unfold Hn.giveH; rw [FU.out, if_pos rfl])
      have k6 : ((t.gens.length : Int) == 65536) = true := by simp; omega
      obtain ⟨_, p0, p1, _, _⟩ := BT1.out
      obtain ⟨_, q0, q1, qf0, qf1⟩ := BR1.out
      obtain ⟨_, r0, r1, rf0, rf1⟩ := BH1.out
      dsimp only [Ht.zero, hNone, List.length_nil] at p0 p1 q0 q1 r0 r1
      have H6 := Lib.hid h6
      clear h6
      go_wp2
      obtain ⟨U, hU⟩ : ∃ U, U = wput2 (wput2 wr (w.heap.size + 1) (.slice none 0 0) (.slice none 0 0)) (w.heap.size + 1 + 1) (.int .i64 0) (.int .i64 0) := ⟨_, rfl⟩
      have BR3 := Lib.hid (show HBox U (w.heap.size + 1) Ht.zero hNone by rw [hU]; exact (BR1.out.put2 Ht.zero hNone).put2o (by omega) _ _)
      have BH3 := Lib.hid (show PBox U (w.heap.size + 1 + 1) (0, 0) by rw [hU]; exact (BH1.out.put2o (by omega) _ _).put2 (0, 0))
      have BB3 := Lib.hid (show Below w.heap.size w U by rw [hU]; exact below_put2 (below_put2 BB1.out (by omega) _ _) (by omega) _ _)
      unfold wput2 at hU
      rw [← hU]
      clear hU p0 p1 q0 q1 r0 r1 qf0 qf1 rf0 rf1
      obtain ⟨_, s0, s1, _, _⟩ := BR3.out
      obtain ⟨_, v0, v1, _, _⟩ := BH3.out
      dsimp only [Ht.zero, hNone, List.length_nil] at s0 s1 v0 v1
      refine bodyPost_ret (v := .tuple #[hv Ht.zero hNone, pv (0, 0), .bool false]) (by simp [results, Try.results43, go_sem, hv, pv, Ht.zero, hNone, s0, s1, v0, v1]) rfl (by unfold HAnsB; rw [GV.out, HD.out, FU.out]; exact ⟨_, rfl, own_zero _ _, BB3.out⟩)
    have FU := Lib.hid (show Hn.fullB t = false by unfold Hn.fullB; rw [decide_eq_false h6, Bool.and_false])
    have GV := Lib.hid (show Hn.giveV t p = ⟨t.gens ++ [0], t.ats ++ [p]⟩ by unfold Hn.giveV; rw [FU.out, if_neg (by simp)]; unfold Hn.given; rw [HF.out, if_neg (Nat.lt_irrefl _)])
    have HD := Lib.hid (show Hn.giveH t = ((t.gens.length : Int), 0) by unfold Hn.giveH; rw [FU.out, if_neg (by simp)]; unfold Hn.hnd; rw [HF.out, Hn.g_past (Nat.le_refl _)])
    have k6 : ((t.gens.length : Int) == 65536) = false := by simp; omega
    have l6 : t.gens.length < 65536 := by omega
    clear h6 HF
    obtain ⟨dg, da, eg, ea⟩ := A1
    obtain ⟨_, p0, p1, _, _⟩ := BT1.out
    obtain ⟨_, q0, q1, qf0, qf1⟩ := BX1.out
    dsimp only at p0 p1 q0 q1 z2 z3
    obtain ⟨og, oa, sp⟩ := OR.out
    dsimp only at og oa sp
    have OG := Lib.hid og
    have OA := Lib.hid oa
    have SP := Lib.hid sp
    have bg := fun k hk => (World.ownsRow.lt og k hk).1
    have ba := fun k hk => (World.ownsRow.lt oa k hk).1
    have Z2 := Lib.hid z2
    have Z3 := Lib.hid z3
    have BG := Lib.hid bg
    have BA := Lib.hid ba
    have la := L2.out
    have SB := Lib.hid (show ∀ k k', (Value.slice dg t.gens.length eg).ownBlock = some k → (Value.slice da t.ats.length ea).ownBlock = some k' → k ≠ k' from fun k k' h1 h2 => by
      cases dg with
      | none => cases h1
      | some a1 =>
        cases da with
        | none => cases h2
        | some a2 => cases h1; cases h2; exact sp _ _ rfl rfl)
    have zs := BX1.out.lt
    have LA := Lib.hid la
    clear og oa sp bg ba z2 z3 la OR OF
    go_upto_region 11 with (first | (at_builtin; refine wpList_more_where elemI rfl (.tmp 52) (.tmp 53) rfl W0.heap.size t.gens.length _ _ rfl (OG.out.alloc _) (.int .i64 0) ⟨wr.heap.size, 0, none⟩ 1 rfl (cell_new1 _ _ _) rfl (by simp; omega) (by unfold maxLen; omega) (by omega) ?_; intro v1 w2 hown1 hgr1 hwh1; obtain ⟨g1, c1, rfl, hg1, hl1, hc1⟩ := own_pos hown1; have BX2 := Lib.hid ((BX1.out.below ((Below.refl _ _).alloc (Nat.le_refl _) (.cells #[.int .i64 0] 3))).grown hgr1 (fun e => Nat.lt_irrefl _ (Z2.out _ e.symm))); obtain ⟨_, y0, y1, yf0, yf1⟩ := BX2.out; dsimp only at y0 y1) | fail)
    have y2 : wr.heap.size + 1 ≤ w2.heap.size := by have := hgr1.size; simpa using this
    have Y1 := Lib.hid (show (Value.slice dg t.gens.length eg).ownBlock = some g1 ∨ g1 = wr.heap.size + 1 from (hwh1 g1 rfl).imp id (fun h => h.trans (World.size_alloc _ _)))
    have n1 : g1 ≠ w1.heap.size := by
      rcases Y1.out with h | h
      · have := Z2.out _ h; omega
      · omega
    obtain ⟨W3, hW3⟩ : ∃ W, W = w2.setCell ⟨w1.heap.size, 0, none⟩ (.slice (some ⟨g1, 0, none⟩) (t.gens.length + 1) c1) := ⟨_, rfl⟩
    have CX3 := Lib.hid (show HBox W3 w1.heap.size ⟨t.gens ++ [0], t.ats⟩ ⟨some ⟨g1, 0, none⟩, da, c1, ea⟩ by
      rw [hW3]
      have := BX2.out.set0 (t' := ⟨t.gens ++ [0], t.ats⟩) (A' := ⟨some ⟨g1, 0, none⟩, da, c1, ea⟩) rfl rfl rfl
      simpa using this)
    have OG3 := Lib.hid (show W3.ownsRow W0.heap.size 3 1 (.slice (some ⟨g1, 0, none⟩) (t.gens.length + 1) c1) (t.gens.length + 1) (t.gens.map (Value.int .i64) ++ [.int .i64 0]) by
      rw [hW3]
      exact row_other hown1 (p := ⟨w1.heap.size, 0, none⟩) (fun k hk => by cases hk; exact n1) _)
    have OA3 := Lib.hid (show W3.ownsRow W0.heap.size 3 1 (.slice da t.ats.length ea) t.ats.length (t.ats.map (Value.int .i64)) by
      rw [hW3]
      refine row_other ((OA.out.alloc (.cells #[.int .i64 0] 3)).kept hgr1 ?_) (p := ⟨w1.heap.size, 0, none⟩) (fun k hk => by have := Z3.out k hk; show k ≠ w1.heap.size; omega) _
      cases ho : (Value.slice da t.ats.length ea).ownBlock with
      | none => exact Or.inl rfl
      | some k' => exact Or.inr (fun e => SB.out _ _ e.symm ho rfl))
    have lowg : ∀ {x : Nat}, x < W0.heap.size → some x ≠ (Value.slice dg t.gens.length eg).ownBlock := fun hx e => by have := BG.out _ e.symm; omega
    have BT3 := Lib.hid (show HBox W3 w.heap.size t ⟨ag, aa, cg, ca⟩ by rw [hW3]; exact ((BT1.out.below ((Below.refl _ _).alloc (Nat.le_refl _) (.cells #[.int .i64 0] 3))).grown hgr1 (lowg (by omega))).setOther (p := ⟨w1.heap.size, 0, none⟩) (by show w1.heap.size ≠ w.heap.size; omega) _)
    have BR3 := Lib.hid (show HBox W3 (w.heap.size + 1) Ht.zero hNone by rw [hW3]; exact ((BR1.out.below ((Below.refl _ _).alloc (Nat.le_refl _) (.cells #[.int .i64 0] 3))).grown hgr1 (lowg (by omega))).setOther (p := ⟨w1.heap.size, 0, none⟩) (by show w1.heap.size ≠ w.heap.size + 1; omega) _)
    have BH3 := Lib.hid (show PBox W3 (w.heap.size + 1 + 1) (0, 0) by rw [hW3]; exact ((BH1.out.below ((Below.refl _ _).alloc (Nat.le_refl _) (.cells #[.int .i64 0] 3))).grown hgr1 (lowg (by omega))).apart (p := ⟨w1.heap.size, 0, none⟩) (by show w1.heap.size ≠ w.heap.size + 1 + 1; omega) _)
    have BB3 := Lib.hid (show Below w.heap.size w W3 by rw [hW3]; exact ((BB1.out.alloc (by have := BB1.out.size; omega) (.cells #[.int .i64 0] 3)).grown hgr1 (by simp; have := BB1.out.size; omega) (fun k hk => by have := BG.out k hk; omega)).setCell (p := ⟨w1.heap.size, 0, none⟩) (by show w.heap.size ≤ w1.heap.size; omega) _)
    have y3 : w2.heap.size = W3.heap.size := by rw [hW3]; simp
    have lg1 : g1 < W3.heap.size := by omega
    rw [← hW3]
    clear hW3 hgr1 hwh1 hown1 BX2 y0 y1 yf0 yf1 BT1 BR1 BH1 BB1 BX1 p0 p1 q0 q1 qf0 qf1 OA OG lowg
    obtain ⟨_, q0, q1, qf0, qf1⟩ := CX3.out
    dsimp only at q0 q1
    go_upto_region 12 with (first | (at_builtin; refine wpList_more_where elemI rfl (.tmp 57) (.tmp 59) rfl W0.heap.size t.ats.length _ _ rfl (OA3.out.alloc _) (.int .i64 p) ⟨W3.heap.size, 0, none⟩ 1 rfl (cell_new1 _ _ _) rfl (by simp; omega) (by have := LA.out; unfold maxLen; omega) (by have := LA.out; omega) ?_; intro v1 w4 hown2 hgr2 hwh2; obtain ⟨g2, c2, rfl, hg2, hl2, hc2⟩ := own_pos hown2; have BX2 := Lib.hid ((CX3.out.below ((Below.refl _ _).alloc (Nat.le_refl _) (.cells #[.int .i64 p] 3))).grown hgr2 (fun e => Nat.lt_irrefl _ (Z3.out _ e.symm))); obtain ⟨_, y0, y1, yf0, yf1⟩ := BX2.out; dsimp only at y0 y1) | fail)
    have y4 : W3.heap.size + 1 ≤ w4.heap.size := by have := hgr2.size; simpa using this
    have Y2 := Lib.hid (show (Value.slice da t.ats.length ea).ownBlock = some g2 ∨ g2 = W3.heap.size + 1 from (hwh2 g2 rfl).imp id (fun h => h.trans (World.size_alloc _ _)))
    have n2 : g2 ≠ w1.heap.size := by
      rcases Y2.out with h | h
      · have := Z3.out _ h; omega
      · omega
    have n3 : g1 ≠ g2 := by
      rcases Y2.out with h | h
      · rcases Y1.out with h' | h'
        · exact SB.out _ _ h' h
        · have := Z3.out _ h; omega
      · omega
    obtain ⟨W4, hW4⟩ : ∃ W, W = w4.setCell ⟨w1.heap.size, 1, none⟩ (.slice (some ⟨g2, 0, none⟩) (t.ats.length + 1) c2) := ⟨_, rfl⟩
    obtain ⟨M, hM⟩ : ∃ M : Ht, M = ⟨t.gens ++ [0], t.ats ++ [p]⟩ := ⟨_, rfl⟩
    have mg : M.gens.length = t.gens.length + 1 := by rw [hM]; simp
    have ma : M.ats.length = t.ats.length + 1 := by rw [hM]; simp
    have CX4 := Lib.hid (show HBox W4 w1.heap.size M ⟨some ⟨g1, 0, none⟩, some ⟨g2, 0, none⟩, c1, c2⟩ by
      rw [hW4]
      have := BX2.out.set1 (t' := M) (A' := ⟨some ⟨g1, 0, none⟩, some ⟨g2, 0, none⟩, c1, c2⟩) rfl rfl (by rw [mg]; simp)
      dsimp only at this
      rw [ma] at this
      exact this)
    have OY := Lib.hid (show HOwn W4 W0.heap.size M ⟨some ⟨g1, 0, none⟩, some ⟨g2, 0, none⟩, c1, c2⟩ by
      have h1 : W4.ownsRow W0.heap.size 3 1 (.slice (some ⟨g1, 0, none⟩) (t.gens.length + 1) c1) (t.gens.length + 1) ((t.gens ++ [0]).map (Value.int .i64)) := by
        rw [hW4, List.map_append]
        refine row_other ((OG3.out.alloc (.cells #[.int .i64 p] 3)).kept hgr2 ?_) (p := ⟨w1.heap.size, 1, none⟩) (fun k hk => by cases hk; exact n1) _
        refine Or.inr (fun e => ?_)
        have e2 : (Value.slice da t.ats.length ea).ownBlock = some g1 := e.symm
        rcases Y1.out with h' | h'
        · exact SB.out _ _ h' e2 rfl
        · have := Z3.out _ e2; omega
      have h2 : W4.ownsRow W0.heap.size 3 1 (.slice (some ⟨g2, 0, none⟩) (t.ats.length + 1) c2) (t.ats.length + 1) ((t.ats ++ [p]).map (Value.int .i64)) := by
        rw [hW4, List.map_append]
        exact row_other hown2 (p := ⟨w1.heap.size, 1, none⟩) (fun k hk => by cases hk; exact n2) _
      rw [hM]
      refine ⟨New.of_own h1, New.of_own h2, ⟨(fun e => by cases e), (fun e => by cases e), ?_, ?_⟩, Or.inr (Or.inr (fun x y hx hy => by cases hx; cases hy; exact n3))⟩
      · simp; exact hc1
      · simp; exact hc2)
    have lowa : ∀ {x : Nat}, x < W0.heap.size → some x ≠ (Value.slice da t.ats.length ea).ownBlock := fun hx e => by have := BA.out _ e.symm; omega
    have BT4 := Lib.hid (show HBox W4 w.heap.size t ⟨ag, aa, cg, ca⟩ by rw [hW4]; exact ((BT3.out.below ((Below.refl _ _).alloc (Nat.le_refl _) (.cells #[.int .i64 p] 3))).grown hgr2 (lowa (by omega))).setOther (p := ⟨w1.heap.size, 1, none⟩) (by show w1.heap.size ≠ w.heap.size; omega) _)
    have BR4 := Lib.hid (show HBox W4 (w.heap.size + 1) Ht.zero hNone by rw [hW4]; exact ((BR3.out.below ((Below.refl _ _).alloc (Nat.le_refl _) (.cells #[.int .i64 p] 3))).grown hgr2 (lowa (by omega))).setOther (p := ⟨w1.heap.size, 1, none⟩) (by show w1.heap.size ≠ w.heap.size + 1; omega) _)
    have BH4 := Lib.hid (show PBox W4 (w.heap.size + 1 + 1) (0, 0) by rw [hW4]; exact ((BH3.out.below ((Below.refl _ _).alloc (Nat.le_refl _) (.cells #[.int .i64 p] 3))).grown hgr2 (lowa (by omega))).apart (p := ⟨w1.heap.size, 1, none⟩) (by show w1.heap.size ≠ w.heap.size + 1 + 1; omega) _)
    have BB4 := Lib.hid (show Below w.heap.size w W4 by rw [hW4]; exact ((BB3.out.alloc (by have := BB3.out.size; omega) (.cells #[.int .i64 p] 3)).grown hgr2 (by simp; have := BB3.out.size; omega) (fun k hk => by have := BA.out k hk; omega)).setCell (p := ⟨w1.heap.size, 1, none⟩) (by show w.heap.size ≤ w1.heap.size; omega) _)
    have CS := Lib.hid (show W4.cell? ⟨w1.heap.size, 0, none⟩ = some (.slice (some ⟨g1, 0, none⟩) M.gens.length c1) ∧ W4.cell? ⟨w1.heap.size, 1, none⟩ = some (.slice (some ⟨g2, 0, none⟩) M.ats.length c2) ∧ W4.cell? ⟨w.heap.size, 0, none⟩ = some (.slice ag t.gens.length cg) from ⟨CX4.out.c0, CX4.out.c1, BT4.out.c0⟩)
    rw [← hW4]
    rw [← hM] at GV
    clear hW4 hgr2 hwh2 hown2 BX2 y0 y1 yf0 yf1 BT3 BR3 BH3 BB3 q0 q1 qf0 qf1 OA3 OG3 lowa CX3 CX4 BT4 hM mg ma Y1 Y2 SB SP Z2 Z3 BG BA
    refine wp_region_held_drew (S := fun w' => w'.cell? ⟨w1.heap.size, 0, none⟩ = some (.slice (some ⟨g1, 0, none⟩) M.gens.length c1) ∧ w'.cell? ⟨w1.heap.size, 1, none⟩ = some (.slice (some ⟨g2, 0, none⟩) M.ats.length c2) ∧ w'.cell? ⟨w.heap.size, 0, none⟩ = some (.slice ag t.gens.length cg)) (by kernel_rfl) (by exact CS.out) (fun hHeld => ?_)
    obtain ⟨W4d, hV⟩ : ∃ V, V = W4.drew := ⟨_, rfl⟩
    replace CS := Lib.hid (show W4d.cell? ⟨w1.heap.size, 0, none⟩ = some (.slice (some ⟨g1, 0, none⟩) M.gens.length c1) ∧ W4d.cell? ⟨w1.heap.size, 1, none⟩ = some (.slice (some ⟨g2, 0, none⟩) M.ats.length c2) ∧ W4d.cell? ⟨w.heap.size, 0, none⟩ = some (.slice ag t.gens.length cg) by rw [hV]; exact CS.out)
    replace BR4 := Lib.hid (show HBox W4d (w.heap.size + 1) (Ht.zero) (hNone) by rw [hV]; exact BR4.out.below ((Below.refl _ _).drew))
    replace BH4 := Lib.hid (show PBox W4d (w.heap.size + 1 + 1) ((0, 0)) by rw [hV]; exact BH4.out.below ((Below.refl _ _).drew))
    replace OY := Lib.hid (show HOwn W4d (W0.heap.size) (M) (⟨some ⟨g1, 0, none⟩, some ⟨g2, 0, none⟩, c1, c2⟩ : HAds) by rw [hV]; exact OY.out.below ((Below.refl _ _).drew))
    replace BB4 := Lib.hid (show Below w.heap.size w W4d by rw [hV]; exact BB4.out.drew)
    rw [← hV] at hHeld ⊢
    clear hV
    refine wpAnyH_take (i := 0) (oi := Oper.mk _ _ _ _ _ _) (v := ?vh0) rfl (by kernel_rfl) (by kernel_rfl) (by kernel_rfl) (fun _ _ _ h => h) (Or.inl ⟨by rfl, ?hyh0⟩) (by assumption) ?resth0
    case hyh0 =>
      intro w0 hSw
      try dsimp only at hSw
      go_simp
      all_goals with_reducible rfl
    try simp only [Act.put, List.setIfInBounds_toArray, List.set_cons_zero, List.set_cons_succ]
    refine wpAnyH_take (i := 1) (oi := Oper.mk _ _ _ _ _ _) (v := ?vh1) rfl (by kernel_rfl) (by kernel_rfl) (by kernel_rfl) (fun _ _ _ h => h) (Or.inl ⟨by rfl, ?hyh1⟩) (by assumption) ?resth1
    case hyh1 =>
      intro w0 hSw
      try dsimp only at hSw
      go_simp
      all_goals with_reducible rfl
    try simp only [Act.put, List.setIfInBounds_toArray, List.set_cons_zero, List.set_cons_succ]
    refine wpAnyH_take (i := 2) (oi := Oper.mk _ _ _ _ _ _) (v := ?vh2) rfl (by kernel_rfl) (by kernel_rfl) (by kernel_rfl) (fun _ _ _ h => h) (Or.inl ⟨by rfl, ?hyh2⟩) (by assumption) ?resth2
    case hyh2 =>
      intro w0 hSw
      try dsimp only at hSw
      go_simp
      all_goals with_reducible rfl
    try simp only [Act.put, List.setIfInBounds_toArray, List.set_cons_zero, List.set_cons_succ]
    refine wpAnyH_take (i := 3) (oi := Oper.mk _ _ _ _ _ _) (v := ?vh3) rfl (by kernel_rfl) (by kernel_rfl) (by kernel_rfl) (fun _ _ _ h => h) (Or.inl ⟨by rfl, ?hyh3⟩) (by assumption) ?resth3
    case hyh3 =>
      intro w0 hSw
      try dsimp only at hSw
      go_simp
      all_goals with_reducible rfl
    try simp only [Act.put, List.setIfInBounds_toArray, List.set_cons_zero, List.set_cons_succ]
    refine wpAnyH_take (i := 4) (oi := Oper.mk _ _ _ _ _ _) (v := ?vh4) rfl (by kernel_rfl) (by kernel_rfl) (by kernel_rfl) (fun _ _ _ h => h) (Or.inl ⟨by rfl, ?hyh4⟩) (by assumption) ?resth4
    case hyh4 =>
      intro w0 hSw
      try dsimp only at hSw
      go_simp
      all_goals with_reducible rfl
    try simp only [Act.put, List.setIfInBounds_toArray, List.set_cons_zero, List.set_cons_succ]
    refine wpAnyH_ready (rs := [5]) (by kernel_rfl) (by simp) ?_
    refine AllReadyH.cons (o := Oper.mk _ _ _ _ _ _) rfl (fun K hK => ?_) AllReadyH.nil
    obtain ⟨_, z1, z2, zf1, zf2⟩ := BR4.out
    try dsimp only [Ht.zero, hNone, List.length_nil] at z1 z2
    go_simp
    obtain ⟨Fh1, hU⟩ : ∃ U, U = wput2 W4d (w.heap.size + 1) (.slice (⟨some ⟨g1, 0, none⟩, some ⟨g2, 0, none⟩, c1, c2⟩ : HAds).g (M).gens.length (⟨some ⟨g1, 0, none⟩, some ⟨g2, 0, none⟩, c1, c2⟩ : HAds).cg) (.slice (⟨some ⟨g1, 0, none⟩, some ⟨g2, 0, none⟩, c1, c2⟩ : HAds).a (M).ats.length (⟨some ⟨g1, 0, none⟩, some ⟨g2, 0, none⟩, c1, c2⟩ : HAds).ca) := ⟨_, rfl⟩
    replace CS := Lib.hid (show Fh1.cell? ⟨w1.heap.size, 0, none⟩ = some (.slice (some ⟨g1, 0, none⟩) M.gens.length c1) ∧ Fh1.cell? ⟨w1.heap.size, 1, none⟩ = some (.slice (some ⟨g2, 0, none⟩) M.ats.length c2) ∧ Fh1.cell? ⟨w.heap.size, 0, none⟩ = some (.slice ag t.gens.length cg) by rw [hU]; obtain ⟨c0, c1, c2⟩ := CS.out; exact ⟨cell_put2 c0 (by omega) _ _, cell_put2 c1 (by omega) _ _, cell_put2 c2 (by omega) _ _⟩)
    have BXn := Lib.hid (show HBox Fh1 (w.heap.size + 1) (M) (⟨some ⟨g1, 0, none⟩, some ⟨g2, 0, none⟩, c1, c2⟩ : HAds) by rw [hU]; exact BR4.out.put2 (M) (⟨some ⟨g1, 0, none⟩, some ⟨g2, 0, none⟩, c1, c2⟩ : HAds))
    replace BH4 := Lib.hid (show PBox Fh1 (w.heap.size + 1 + 1) ((0, 0)) by rw [hU]; exact BH4.out.put2o (by omega) _ _)
    replace OY := Lib.hid (show HOwn Fh1 (W0.heap.size) (M) (⟨some ⟨g1, 0, none⟩, some ⟨g2, 0, none⟩, c1, c2⟩ : HAds) by rw [hU]; exact OY.out.put2o (OY.out.off_lt (by omega)) _ _)
    replace BB4 := Lib.hid (show Below w.heap.size w Fh1 by rw [hU]; exact below_put2 BB4.out (by omega) _ _)
    unfold wput2 at hU
    try dsimp only at hU
    first | rw [← hU] | skip
    clear hU z1 z2 zf1 zf2 BR4
    have BR4 := BXn
    clear BXn
    refine hK.out _ _ (CS.out) (fun hHeldh5 => ?_)
    clear hK K hHeld
    try simp only [Act.put, List.setIfInBounds_toArray, List.set_cons_zero, List.set_cons_succ]
    refine wpAnyH_ready (rs := [6]) (by kernel_rfl) (by simp) ?_
    refine AllReadyH.cons (o := Oper.mk _ _ _ _ _ _) rfl (fun K hK => ?_) AllReadyH.nil
    obtain ⟨_, z1, z2, zf1, zf2⟩ := BH4.out
    try dsimp only [Ht.zero, hNone, List.length_nil] at z1 z2
    go_simp
    obtain ⟨Fh2, hU⟩ : ∃ U, U = wput2 Fh1 (w.heap.size + 1 + 1) (.int .i64 (((t.gens.length : Int), 0)).1) (.int .i64 (((t.gens.length : Int), 0)).2) := ⟨_, rfl⟩
    replace CS := Lib.hid (show Fh2.cell? ⟨w1.heap.size, 0, none⟩ = some (.slice (some ⟨g1, 0, none⟩) M.gens.length c1) ∧ Fh2.cell? ⟨w1.heap.size, 1, none⟩ = some (.slice (some ⟨g2, 0, none⟩) M.ats.length c2) ∧ Fh2.cell? ⟨w.heap.size, 0, none⟩ = some (.slice ag t.gens.length cg) by rw [hU]; obtain ⟨c0, c1, c2⟩ := CS.out; exact ⟨cell_put2 c0 (by omega) _ _, cell_put2 c1 (by omega) _ _, cell_put2 c2 (by omega) _ _⟩)
    have BXn := Lib.hid (show PBox Fh2 (w.heap.size + 1 + 1) (((t.gens.length : Int), 0)) by rw [hU]; exact BH4.out.put2 (((t.gens.length : Int), 0)))
    replace BR4 := Lib.hid (show HBox Fh2 (w.heap.size + 1) (M) (⟨some ⟨g1, 0, none⟩, some ⟨g2, 0, none⟩, c1, c2⟩ : HAds) by rw [hU]; exact BR4.out.put2o (by omega) _ _)
    replace OY := Lib.hid (show HOwn Fh2 (W0.heap.size) (M) (⟨some ⟨g1, 0, none⟩, some ⟨g2, 0, none⟩, c1, c2⟩ : HAds) by rw [hU]; exact OY.out.put2o (OY.out.off_lt (by omega)) _ _)
    replace BB4 := Lib.hid (show Below w.heap.size w Fh2 by rw [hU]; exact below_put2 BB4.out (by omega) _ _)
    unfold wput2 at hU
    try dsimp only at hU
    first | rw [← hU] | skip
    clear hU z1 z2 zf1 zf2 BH4
    have BH4 := BXn
    clear BXn
    refine hK.out _ _ (CS.out) (fun hHeldh6 => ?_)
    clear hK K hHeldh5
    try simp only [Act.put, List.setIfInBounds_toArray, List.set_cons_zero, List.set_cons_succ]
    refine wpAnyH_take (i := 7) (oi := Oper.mk _ _ _ _ _ _) (v := ?vh7) rfl (by kernel_rfl) (by kernel_rfl) (by kernel_rfl) (fun _ _ _ h => h) (Or.inl ⟨by rfl, ?hyh7⟩) (by assumption) ?resth7
    case hyh7 =>
      intro w0 hSw
      try dsimp only at hSw
      go_simp
      all_goals with_reducible rfl
    try simp only [Act.put, List.setIfInBounds_toArray, List.set_cons_zero, List.set_cons_succ]
    refine wpAnyH_done (by kernel_rfl) ?_ _
    go_wp2
    obtain ⟨_, s0, s1, _, _⟩ := BR4.out
    obtain ⟨_, v0, v1, _, _⟩ := BH4.out
    dsimp only at s0 s1 v0 v1
    refine bodyPost_ret (v := .tuple #[hv M (⟨some ⟨g1, 0, none⟩, some ⟨g2, 0, none⟩, c1, c2⟩ : HAds), pv ((t.gens.length : Int), 0), .bool true]) (by simp [results, Try.results43, go_sem, hv, pv, s0, s1, v0, v1]) rfl (by unfold HAnsB; rw [GV.out, HD.out, FU.out]; exact ⟨_, rfl, OY.out.lower (by omega), BB4.out⟩)
end Go.Proofs.Ytephmejhglcdiaa
