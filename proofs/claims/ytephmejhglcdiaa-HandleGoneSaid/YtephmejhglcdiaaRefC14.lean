/- What the document's own answers of layer 14 (package shelfmarkref14) return: Twin. What it answers is new memory. -/
import Derived.Test.YtephmejhglcdiaaRefB14
import Derived.Test.YtephmejhglcdiaaLitJoin
import Derived.Deep.Cut
import Derived.Deep.RegionHeld
namespace Go.Proofs.Ytephmejhglcdiaa
open Go.RowKit
set_option linter.unusedVariables false
set_option linter.unusedSimpArgs false

set_option maxRecDepth 100000 in
set_option maxHeartbeats 4000000 in
theorem r14TwinR (t : Ht) (A : HAds) (w : World) (h : HHeld w t A) (hs : t.Short) :
    Calls Try.prog 16 #[hv t A] w (HPostR 3 t w) := by
  have l1 := hs.gens
  have l2 := hs.ats
  have HC := Lib.hid h.caps
  have HB := Lib.hid (fun x y => ((Below.refl w.heap.size w).alloc (Nat.le_refl _) x).alloc (by simp) y)
  have HX := Lib.hid (fun x => (HBox.new w t A 24).below ((Below.refl _ _).alloc (Nat.le_refl _) x))
  have HY := Lib.hid (fun x => HBox.new (w.alloc x) Ht.zero hNone 24)
  have HH := Lib.hid (fun x y => h.below (HB.out x y))
  clear h hs
  unfold hv
  go_enter Try.func16, Try.ntmps16
  go_upto_region 1 with (fail)
  obtain ⟨W0, hW0⟩ : ∃ W, W = (w.alloc (.cells #[.slice A.g t.gens.length A.cg, .slice A.a t.ats.length A.ca] 24)).alloc (.cells #[.slice none 0 0, .slice none 0 0] 24) := ⟨_, rfl⟩
  have BX := Lib.hid (show HBox W0.drew w.heap.size t A by rw [hW0]; exact (HX.out _).below ((Below.refl _ _).drew))
  have BR := Lib.hid (show HBox W0.drew (w.heap.size + 1) Ht.zero hNone by rw [hW0]; have := HY.out (.cells #[.slice A.g t.gens.length A.cg, .slice A.a t.ats.length A.ca] 24); rw [World.size_alloc] at this; exact this.below ((Below.refl _ _).drew))
  have GG := Lib.hid (show Lst .i64 W0.drew A.g t.gens by rw [hW0]; exact (HH.out _ _).gens.below ((Below.refl _ _).drew))
  have GA := Lib.hid (show Lst .i64 W0.drew A.a t.ats by rw [hW0]; exact (HH.out _ _).ats.below ((Below.refl _ _).drew))
  have BL0 := Lib.hid (show Below w.heap.size w W0.drew by rw [hW0]; exact (HB.out _ _).drew)
  have z0 : w.heap.size + 2 ≤ W0.drew.heap.size := by rw [hW0]; simp
  rw [← hW0]
  clear hW0 HB HX HY HH
  have BL0' := Lib.hid (Below.refl w.heap.size w)
  refine wp_region_held_drew (S := fun w' => w'.cell? ⟨w.heap.size, 0, none⟩ = some (.slice A.g t.gens.length A.cg) ∧ w'.cell? ⟨w.heap.size, 1, none⟩ = some (.slice A.a t.ats.length A.ca)) (by kernel_rfl) (by exact ⟨BX.out.c0, BX.out.c1⟩) (fun hHeld => ?_)
  obtain ⟨V0, hV0⟩ : ∃ V, V = W0.drew := ⟨_, rfl⟩
  rw [← hV0] at BX BR GG GA BL0 z0 hHeld ⊢
  clear hV0
  refine wpAnyH_take (i := 1) (oi := Oper.mk _ _ _ _ _ _) (v := ?va0) rfl (by kernel_rfl) (by kernel_rfl) (by kernel_rfl) (fun _ _ _ h => h) (Or.inl ⟨by rfl, ?hya0⟩) (by assumption) ?resta0
  case hya0 =>
    intro w0 hSw
    try dsimp only at hSw
    go_simp
    all_goals with_reducible rfl
  try simp only [Act.put, List.setIfInBounds_toArray, List.set_cons_zero, List.set_cons_succ]
  refine wpAnyH_take (i := 2) (oi := Oper.mk _ _ _ _ _ _) (v := ?va1) rfl (by kernel_rfl) (by kernel_rfl) (by kernel_rfl) (fun _ _ _ h => h) (Or.inl ⟨by rfl, ?hya1⟩) (by assumption) ?resta1
  case hya1 =>
    intro w0 hSw
    try dsimp only at hSw
    go_simp
    all_goals with_reducible rfl
  try simp only [Act.put, List.setIfInBounds_toArray, List.set_cons_zero, List.set_cons_succ]
  refine wpAnyH_take (i := 5) (oi := Oper.mk _ _ _ _ _ _) (v := ?va2) rfl (by kernel_rfl) (by kernel_rfl) (by kernel_rfl) (fun _ _ _ h => h) (Or.inl ⟨by rfl, ?hya2⟩) (by assumption) ?resta2
  case hya2 =>
    intro w0 hSw
    try dsimp only at hSw
    go_simp
    all_goals with_reducible rfl
  try simp only [Act.put, List.setIfInBounds_toArray, List.set_cons_zero, List.set_cons_succ]
  refine wpAnyH_take (i := 6) (oi := Oper.mk _ _ _ _ _ _) (v := ?va3) rfl (by kernel_rfl) (by kernel_rfl) (by kernel_rfl) (fun _ _ _ h => h) (Or.inl ⟨by rfl, ?hya3⟩) (by assumption) ?resta3
  case hya3 =>
    intro w0 hSw
    try dsimp only at hSw
    go_simp
    all_goals with_reducible rfl
  try simp only [Act.put, List.setIfInBounds_toArray, List.set_cons_zero, List.set_cons_succ]
  refine wpAnyH_ready (rs := [0, 4]) (by kernel_rfl) (by simp) ?_
  refine AllReadyH.cons (o := Oper.mk _ _ _ _ _ _) rfl (fun K hK => ?_) ?_
  · skip
    go_simp
    obtain ⟨U1, hU⟩ : ∃ U, U = V0.alloc (.cells #[] 3) := ⟨_, rfl⟩
    have hb : Below V0.heap.size V0 U1 := by rw [hU]; exact (Below.refl _ _).alloc (Nat.le_refl _) _
    have sG : V0.heap.size < U1.heap.size := by rw [hU]; simp
    have LG := Lib.hid (show U1.heap[V0.heap.size]? = some (.cells #[] 3 (0, 0)) by rw [hU]; exact Array.getElem?_push_size)
    rw [← hU]
    clear hU
    replace BX := Lib.hid (BX.out.below hb)
    replace BR := Lib.hid (BR.out.below hb)
    replace GG := Lib.hid (GG.out.below hb)
    replace GA := Lib.hid (GA.out.below hb)
    have BL1 := Lib.hid (BL0.out.trans (hb.mono BL0.out.size))
    have y1 : V0.heap.size ≤ U1.heap.size := hb.size
    clear hb
    refine hK.out _ _ (by exact ⟨BX.out.c0, BX.out.c1⟩) (fun hHelda4 => ?_)
    clear hK K hHeld
    try simp only [Act.put, List.setIfInBounds_toArray, List.set_cons_zero, List.set_cons_succ]
    refine wpAnyH_ready (rs := [3, 4]) (by kernel_rfl) (by simp) ?_
    refine AllReadyH.cons (o := Oper.mk _ _ _ _ _ _) rfl (fun K hK => ?_) ?_
    · skip
      refine step_copy_lit elemI rfl (.tmp 3) (.tmp 5) rfl (V0.heap.size) LG.out rfl A.g t.gens A.cg rfl GG.out HC.out.g0 (by unfold maxLen; omega) (by omega) ?_
      intro AG cG U2 NG qG rG hb
      replace BX := Lib.hid (BX.out.below hb)
      replace BR := Lib.hid (BR.out.below hb)
      replace GG := Lib.hid (GG.out.below hb)
      replace GA := Lib.hid (GA.out.below hb)
      replace LG := Lib.hid ((hb.block _ (Array.getElem?_eq_some_iff.1 LG.out).1).trans LG.out)
      have BL2 := Lib.hid (BL1.out.trans (hb.mono BL1.out.size))
      have y2 : U1.heap.size ≤ U2.heap.size := hb.size
      replace NG := Lib.hid (own_below NG (Below.refl _ _))
      clear qG
      replace rG := Lib.hid rG
      clear hb
      refine hK.out _ _ (by exact ⟨BX.out.c0, BX.out.c1⟩) (fun hHelda5 => ?_)
      clear hK K hHelda4
      try simp only [Act.put, List.setIfInBounds_toArray, List.set_cons_zero, List.set_cons_succ]
      refine wpAnyH_ready (rs := [4]) (by kernel_rfl) (by simp) ?_
      refine AllReadyH.cons (o := Oper.mk _ _ _ _ _ _) rfl (fun K hK => ?_) AllReadyH.nil
      go_simp
      obtain ⟨U3, hU⟩ : ∃ U, U = U2.alloc (.cells #[] 3) := ⟨_, rfl⟩
      have hb : Below U2.heap.size U2 U3 := by rw [hU]; exact (Below.refl _ _).alloc (Nat.le_refl _) _
      have sA : U2.heap.size < U3.heap.size := by rw [hU]; simp
      have LA := Lib.hid (show U3.heap[U2.heap.size]? = some (.cells #[] 3 (0, 0)) by rw [hU]; exact Array.getElem?_push_size)
      rw [← hU]
      clear hU
      replace BX := Lib.hid (BX.out.below hb)
      replace BR := Lib.hid (BR.out.below hb)
      replace GG := Lib.hid (GG.out.below hb)
      replace GA := Lib.hid (GA.out.below hb)
      replace NG := Lib.hid (own_below NG.out hb)
      replace LG := Lib.hid ((hb.block _ (Array.getElem?_eq_some_iff.1 LG.out).1).trans LG.out)
      have BL3 := Lib.hid (BL2.out.trans (hb.mono BL2.out.size))
      have y3 : U2.heap.size ≤ U3.heap.size := hb.size
      clear hb
      refine hK.out _ _ (by exact ⟨BX.out.c0, BX.out.c1⟩) (fun hHelda6 => ?_)
      clear hK K hHelda5
      try simp only [Act.put, List.setIfInBounds_toArray, List.set_cons_zero, List.set_cons_succ]
      refine wpAnyH_ready (rs := [7]) (by kernel_rfl) (by simp) ?_
      refine AllReadyH.cons (o := Oper.mk _ _ _ _ _ _) rfl (fun K hK => ?_) AllReadyH.nil
      refine step_copy_lit elemI rfl (.tmp 7) (.tmp 9) rfl (U2.heap.size) LA.out rfl A.a t.ats A.ca rfl GA.out HC.out.a0 (by unfold maxLen; omega) (by omega) ?_
      intro AA cA U4 NA qA rA hb
      replace BX := Lib.hid (BX.out.below hb)
      replace BR := Lib.hid (BR.out.below hb)
      replace GG := Lib.hid (GG.out.below hb)
      replace GA := Lib.hid (GA.out.below hb)
      replace NG := Lib.hid (own_below NG.out hb)
      replace LG := Lib.hid ((hb.block _ (Array.getElem?_eq_some_iff.1 LG.out).1).trans LG.out)
      replace LA := Lib.hid ((hb.block _ (Array.getElem?_eq_some_iff.1 LA.out).1).trans LA.out)
      have BL4 := Lib.hid (BL3.out.trans (hb.mono BL3.out.size))
      have y4 : U3.heap.size ≤ U4.heap.size := hb.size
      replace NA := Lib.hid (own_below NA (Below.refl _ _))
      clear qA
      replace rA := Lib.hid rA
      clear hb
      refine hK.out _ _ (by exact ⟨BX.out.c0, BX.out.c1⟩) (fun hHelda7 => ?_)
      clear hK K hHelda6
      try simp only [Act.put, List.setIfInBounds_toArray, List.set_cons_zero, List.set_cons_succ]
      refine wpAnyH_take (i := 8) (oi := Oper.mk _ _ _ _ _ _) (v := ?va8) rfl (by kernel_rfl) (by kernel_rfl) (by kernel_rfl) (fun _ _ _ h => h) (Or.inl ⟨by rfl, ?hya8⟩) (by assumption) ?resta8
      case hya8 =>
        intro w0 hSw
        try dsimp only at hSw
        go_simp
        all_goals with_reducible rfl
      try simp only [Act.put, List.setIfInBounds_toArray, List.set_cons_zero, List.set_cons_succ]
      refine wpAnyH_ready (rs := [9]) (by kernel_rfl) (by simp) ?_
      refine AllReadyH.cons (o := Oper.mk _ _ _ _ _ _) rfl (fun K hK => ?_) AllReadyH.nil
      have SP := Lib.hid (show ∀ p q, AG = some p → AA = some q → p.block ≠ q.block from fun p q hp hq => by have h1 := rG.out p hp; have h2 := rA.out q hq; omega)
      obtain ⟨_, z1, z2, zf1, zf2⟩ := BR.out
      go_simp
      obtain ⟨U5, hU⟩ : ∃ U, U = wput2 U4 (w.heap.size + 1) (.slice AG t.gens.length cG) (.slice AA t.ats.length cA) := ⟨_, rfl⟩
      have BY := Lib.hid (show HBox U5 (w.heap.size + 1) t ⟨AG, AA, cG, cA⟩ by rw [hU]; exact BR.out.put2 t ⟨AG, AA, cG, cA⟩)
      have OY := Lib.hid (show HRows 3 U5 w.heap.size t ⟨AG, AA, cG, cA⟩ by rw [hU]; exact HRows.lower (B := w.heap.size + 2) (HRows.put2 ⟨own_lower NG.out (by omega), own_lower NA.out (by omega), SP.out⟩ (by omega) _ _) (by omega))
      have BL5 := Lib.hid (show Below w.heap.size w U5 by rw [hU]; exact below_put2 BL4.out (by omega) _ _)
      have BX' := Lib.hid (show U5.cell? ⟨w.heap.size, 0, none⟩ = some (.slice A.g t.gens.length A.cg) ∧ U5.cell? ⟨w.heap.size, 1, none⟩ = some (.slice A.a t.ats.length A.ca) by rw [hU]; have h1 := (BX.out.setOther (p := ⟨w.heap.size + 1, 0, none⟩) (by show w.heap.size + 1 ≠ w.heap.size; omega) (.slice AG t.gens.length cG)).setOther (p := ⟨w.heap.size + 1, 1, none⟩) (by show w.heap.size + 1 ≠ w.heap.size; omega) (.slice AA t.ats.length cA); exact ⟨h1.c0, h1.c1⟩)
      unfold wput2 at hU
      rw [← hU]
      clear hU z1 z2 zf1 zf2 BR
      refine hK.out _ _ (BX'.out) (fun hHelda9 => ?_)
      clear hK K hHelda7
      try simp only [Act.put, List.setIfInBounds_toArray, List.set_cons_zero, List.set_cons_succ]
      refine wpAnyH_done (by kernel_rfl) ?_ _
      go_wp2
      obtain ⟨_, s0, s1, sf0, sf1⟩ := BY.out
      refine bodyPost_ret (v := hv t ⟨AG, AA, cG, cA⟩) (by simp [results, Try.results16, go_sem, hv, s0, s1]) rfl ⟨_, rfl, OY.out, BL5.out⟩
    refine AllReadyH.cons (o := Oper.mk _ _ _ _ _ _) rfl (fun K hK => ?_) AllReadyH.nil
    go_simp
    obtain ⟨U2, hU⟩ : ∃ U, U = U1.alloc (.cells #[] 3) := ⟨_, rfl⟩
    have hb : Below U1.heap.size U1 U2 := by rw [hU]; exact (Below.refl _ _).alloc (Nat.le_refl _) _
    have sA : U1.heap.size < U2.heap.size := by rw [hU]; simp
    have LA := Lib.hid (show U2.heap[U1.heap.size]? = some (.cells #[] 3 (0, 0)) by rw [hU]; exact Array.getElem?_push_size)
    rw [← hU]
    clear hU
    replace BX := Lib.hid (BX.out.below hb)
    replace BR := Lib.hid (BR.out.below hb)
    replace GG := Lib.hid (GG.out.below hb)
    replace GA := Lib.hid (GA.out.below hb)
    replace LG := Lib.hid ((hb.block _ (Array.getElem?_eq_some_iff.1 LG.out).1).trans LG.out)
    have BL2 := Lib.hid (BL1.out.trans (hb.mono BL1.out.size))
    have y2 : U1.heap.size ≤ U2.heap.size := hb.size
    clear hb
    refine hK.out _ _ (by exact ⟨BX.out.c0, BX.out.c1⟩) (fun hHelda10 => ?_)
    clear hK K hHelda4
    try simp only [Act.put, List.setIfInBounds_toArray, List.set_cons_zero, List.set_cons_succ]
    refine wpAnyH_ready (rs := [3]) (by kernel_rfl) (by simp) ?_
    refine AllReadyH.cons (o := Oper.mk _ _ _ _ _ _) rfl (fun K hK => ?_) AllReadyH.nil
    refine step_copy_lit elemI rfl (.tmp 3) (.tmp 5) rfl (V0.heap.size) LG.out rfl A.g t.gens A.cg rfl GG.out HC.out.g0 (by unfold maxLen; omega) (by omega) ?_
    intro AG cG U3 NG qG rG hb
    replace BX := Lib.hid (BX.out.below hb)
    replace BR := Lib.hid (BR.out.below hb)
    replace GG := Lib.hid (GG.out.below hb)
    replace GA := Lib.hid (GA.out.below hb)
    replace LG := Lib.hid ((hb.block _ (Array.getElem?_eq_some_iff.1 LG.out).1).trans LG.out)
    replace LA := Lib.hid ((hb.block _ (Array.getElem?_eq_some_iff.1 LA.out).1).trans LA.out)
    have BL3 := Lib.hid (BL2.out.trans (hb.mono BL2.out.size))
    have y3 : U2.heap.size ≤ U3.heap.size := hb.size
    replace NG := Lib.hid (own_below NG (Below.refl _ _))
    clear qG
    replace rG := Lib.hid rG
    clear hb
    refine hK.out _ _ (by exact ⟨BX.out.c0, BX.out.c1⟩) (fun hHelda11 => ?_)
    clear hK K hHelda10
    try simp only [Act.put, List.setIfInBounds_toArray, List.set_cons_zero, List.set_cons_succ]
    refine wpAnyH_ready (rs := [7]) (by kernel_rfl) (by simp) ?_
    refine AllReadyH.cons (o := Oper.mk _ _ _ _ _ _) rfl (fun K hK => ?_) AllReadyH.nil
    refine step_copy_lit elemI rfl (.tmp 7) (.tmp 9) rfl (U1.heap.size) LA.out rfl A.a t.ats A.ca rfl GA.out HC.out.a0 (by unfold maxLen; omega) (by omega) ?_
    intro AA cA U4 NA qA rA hb
    replace BX := Lib.hid (BX.out.below hb)
    replace BR := Lib.hid (BR.out.below hb)
    replace GG := Lib.hid (GG.out.below hb)
    replace GA := Lib.hid (GA.out.below hb)
    replace NG := Lib.hid (own_below NG.out hb)
    replace LG := Lib.hid ((hb.block _ (Array.getElem?_eq_some_iff.1 LG.out).1).trans LG.out)
    replace LA := Lib.hid ((hb.block _ (Array.getElem?_eq_some_iff.1 LA.out).1).trans LA.out)
    have BL4 := Lib.hid (BL3.out.trans (hb.mono BL3.out.size))
    have y4 : U3.heap.size ≤ U4.heap.size := hb.size
    replace NA := Lib.hid (own_below NA (Below.refl _ _))
    clear qA
    replace rA := Lib.hid rA
    clear hb
    refine hK.out _ _ (by exact ⟨BX.out.c0, BX.out.c1⟩) (fun hHelda12 => ?_)
    clear hK K hHelda11
    try simp only [Act.put, List.setIfInBounds_toArray, List.set_cons_zero, List.set_cons_succ]
    refine wpAnyH_take (i := 8) (oi := Oper.mk _ _ _ _ _ _) (v := ?va13) rfl (by kernel_rfl) (by kernel_rfl) (by kernel_rfl) (fun _ _ _ h => h) (Or.inl ⟨by rfl, ?hya13⟩) (by assumption) ?resta13
    case hya13 =>
      intro w0 hSw
      try dsimp only at hSw
      go_simp
      all_goals with_reducible rfl
    try simp only [Act.put, List.setIfInBounds_toArray, List.set_cons_zero, List.set_cons_succ]
    refine wpAnyH_ready (rs := [9]) (by kernel_rfl) (by simp) ?_
    refine AllReadyH.cons (o := Oper.mk _ _ _ _ _ _) rfl (fun K hK => ?_) AllReadyH.nil
    have SP := Lib.hid (show ∀ p q, AG = some p → AA = some q → p.block ≠ q.block from fun p q hp hq => by have h1 := rG.out p hp; have h2 := rA.out q hq; omega)
    obtain ⟨_, z1, z2, zf1, zf2⟩ := BR.out
    go_simp
    obtain ⟨U5, hU⟩ : ∃ U, U = wput2 U4 (w.heap.size + 1) (.slice AG t.gens.length cG) (.slice AA t.ats.length cA) := ⟨_, rfl⟩
    have BY := Lib.hid (show HBox U5 (w.heap.size + 1) t ⟨AG, AA, cG, cA⟩ by rw [hU]; exact BR.out.put2 t ⟨AG, AA, cG, cA⟩)
    have OY := Lib.hid (show HRows 3 U5 w.heap.size t ⟨AG, AA, cG, cA⟩ by rw [hU]; exact HRows.lower (B := w.heap.size + 2) (HRows.put2 ⟨own_lower NG.out (by omega), own_lower NA.out (by omega), SP.out⟩ (by omega) _ _) (by omega))
    have BL5 := Lib.hid (show Below w.heap.size w U5 by rw [hU]; exact below_put2 BL4.out (by omega) _ _)
    have BX' := Lib.hid (show U5.cell? ⟨w.heap.size, 0, none⟩ = some (.slice A.g t.gens.length A.cg) ∧ U5.cell? ⟨w.heap.size, 1, none⟩ = some (.slice A.a t.ats.length A.ca) by rw [hU]; have h1 := (BX.out.setOther (p := ⟨w.heap.size + 1, 0, none⟩) (by show w.heap.size + 1 ≠ w.heap.size; omega) (.slice AG t.gens.length cG)).setOther (p := ⟨w.heap.size + 1, 1, none⟩) (by show w.heap.size + 1 ≠ w.heap.size; omega) (.slice AA t.ats.length cA); exact ⟨h1.c0, h1.c1⟩)
    unfold wput2 at hU
    rw [← hU]
    clear hU z1 z2 zf1 zf2 BR
    refine hK.out _ _ (BX'.out) (fun hHelda14 => ?_)
    clear hK K hHelda12
    try simp only [Act.put, List.setIfInBounds_toArray, List.set_cons_zero, List.set_cons_succ]
    refine wpAnyH_done (by kernel_rfl) ?_ _
    go_wp2
    obtain ⟨_, s0, s1, sf0, sf1⟩ := BY.out
    refine bodyPost_ret (v := hv t ⟨AG, AA, cG, cA⟩) (by simp [results, Try.results16, go_sem, hv, s0, s1]) rfl ⟨_, rfl, OY.out, BL5.out⟩
  refine AllReadyH.cons (o := Oper.mk _ _ _ _ _ _) rfl (fun K hK => ?_) AllReadyH.nil
  go_simp
  obtain ⟨U1, hU⟩ : ∃ U, U = V0.alloc (.cells #[] 3) := ⟨_, rfl⟩
  have hb : Below V0.heap.size V0 U1 := by rw [hU]; exact (Below.refl _ _).alloc (Nat.le_refl _) _
  have sA : V0.heap.size < U1.heap.size := by rw [hU]; simp
  have LA := Lib.hid (show U1.heap[V0.heap.size]? = some (.cells #[] 3 (0, 0)) by rw [hU]; exact Array.getElem?_push_size)
  rw [← hU]
  clear hU
  replace BX := Lib.hid (BX.out.below hb)
  replace BR := Lib.hid (BR.out.below hb)
  replace GG := Lib.hid (GG.out.below hb)
  replace GA := Lib.hid (GA.out.below hb)
  have BL1 := Lib.hid (BL0.out.trans (hb.mono BL0.out.size))
  have y1 : V0.heap.size ≤ U1.heap.size := hb.size
  clear hb
  refine hK.out _ _ (by exact ⟨BX.out.c0, BX.out.c1⟩) (fun hHelda15 => ?_)
  clear hK K hHeld
  try simp only [Act.put, List.setIfInBounds_toArray, List.set_cons_zero, List.set_cons_succ]
  refine wpAnyH_ready (rs := [0]) (by kernel_rfl) (by simp) ?_
  refine AllReadyH.cons (o := Oper.mk _ _ _ _ _ _) rfl (fun K hK => ?_) AllReadyH.nil
  go_simp
  obtain ⟨U2, hU⟩ : ∃ U, U = U1.alloc (.cells #[] 3) := ⟨_, rfl⟩
  have hb : Below U1.heap.size U1 U2 := by rw [hU]; exact (Below.refl _ _).alloc (Nat.le_refl _) _
  have sG : U1.heap.size < U2.heap.size := by rw [hU]; simp
  have LG := Lib.hid (show U2.heap[U1.heap.size]? = some (.cells #[] 3 (0, 0)) by rw [hU]; exact Array.getElem?_push_size)
  rw [← hU]
  clear hU
  replace BX := Lib.hid (BX.out.below hb)
  replace BR := Lib.hid (BR.out.below hb)
  replace GG := Lib.hid (GG.out.below hb)
  replace GA := Lib.hid (GA.out.below hb)
  replace LA := Lib.hid ((hb.block _ (Array.getElem?_eq_some_iff.1 LA.out).1).trans LA.out)
  have BL2 := Lib.hid (BL1.out.trans (hb.mono BL1.out.size))
  have y2 : U1.heap.size ≤ U2.heap.size := hb.size
  clear hb
  refine hK.out _ _ (by exact ⟨BX.out.c0, BX.out.c1⟩) (fun hHelda16 => ?_)
  clear hK K hHelda15
  try simp only [Act.put, List.setIfInBounds_toArray, List.set_cons_zero, List.set_cons_succ]
  refine wpAnyH_ready (rs := [3]) (by kernel_rfl) (by simp) ?_
  refine AllReadyH.cons (o := Oper.mk _ _ _ _ _ _) rfl (fun K hK => ?_) AllReadyH.nil
  refine step_copy_lit elemI rfl (.tmp 3) (.tmp 5) rfl (U1.heap.size) LG.out rfl A.g t.gens A.cg rfl GG.out HC.out.g0 (by unfold maxLen; omega) (by omega) ?_
  intro AG cG U3 NG qG rG hb
  replace BX := Lib.hid (BX.out.below hb)
  replace BR := Lib.hid (BR.out.below hb)
  replace GG := Lib.hid (GG.out.below hb)
  replace GA := Lib.hid (GA.out.below hb)
  replace LA := Lib.hid ((hb.block _ (Array.getElem?_eq_some_iff.1 LA.out).1).trans LA.out)
  replace LG := Lib.hid ((hb.block _ (Array.getElem?_eq_some_iff.1 LG.out).1).trans LG.out)
  have BL3 := Lib.hid (BL2.out.trans (hb.mono BL2.out.size))
  have y3 : U2.heap.size ≤ U3.heap.size := hb.size
  replace NG := Lib.hid (own_below NG (Below.refl _ _))
  clear qG
  replace rG := Lib.hid rG
  clear hb
  refine hK.out _ _ (by exact ⟨BX.out.c0, BX.out.c1⟩) (fun hHelda17 => ?_)
  clear hK K hHelda16
  try simp only [Act.put, List.setIfInBounds_toArray, List.set_cons_zero, List.set_cons_succ]
  refine wpAnyH_ready (rs := [7]) (by kernel_rfl) (by simp) ?_
  refine AllReadyH.cons (o := Oper.mk _ _ _ _ _ _) rfl (fun K hK => ?_) AllReadyH.nil
  refine step_copy_lit elemI rfl (.tmp 7) (.tmp 9) rfl (V0.heap.size) LA.out rfl A.a t.ats A.ca rfl GA.out HC.out.a0 (by unfold maxLen; omega) (by omega) ?_
  intro AA cA U4 NA qA rA hb
  replace BX := Lib.hid (BX.out.below hb)
  replace BR := Lib.hid (BR.out.below hb)
  replace GG := Lib.hid (GG.out.below hb)
  replace GA := Lib.hid (GA.out.below hb)
  replace NG := Lib.hid (own_below NG.out hb)
  replace LA := Lib.hid ((hb.block _ (Array.getElem?_eq_some_iff.1 LA.out).1).trans LA.out)
  replace LG := Lib.hid ((hb.block _ (Array.getElem?_eq_some_iff.1 LG.out).1).trans LG.out)
  have BL4 := Lib.hid (BL3.out.trans (hb.mono BL3.out.size))
  have y4 : U3.heap.size ≤ U4.heap.size := hb.size
  replace NA := Lib.hid (own_below NA (Below.refl _ _))
  clear qA
  replace rA := Lib.hid rA
  clear hb
  refine hK.out _ _ (by exact ⟨BX.out.c0, BX.out.c1⟩) (fun hHelda18 => ?_)
  clear hK K hHelda17
  try simp only [Act.put, List.setIfInBounds_toArray, List.set_cons_zero, List.set_cons_succ]
  refine wpAnyH_take (i := 8) (oi := Oper.mk _ _ _ _ _ _) (v := ?va19) rfl (by kernel_rfl) (by kernel_rfl) (by kernel_rfl) (fun _ _ _ h => h) (Or.inl ⟨by rfl, ?hya19⟩) (by assumption) ?resta19
  case hya19 =>
    intro w0 hSw
    try dsimp only at hSw
    go_simp
    all_goals with_reducible rfl
  try simp only [Act.put, List.setIfInBounds_toArray, List.set_cons_zero, List.set_cons_succ]
  refine wpAnyH_ready (rs := [9]) (by kernel_rfl) (by simp) ?_
  refine AllReadyH.cons (o := Oper.mk _ _ _ _ _ _) rfl (fun K hK => ?_) AllReadyH.nil
  have SP := Lib.hid (show ∀ p q, AG = some p → AA = some q → p.block ≠ q.block from fun p q hp hq => by have h1 := rG.out p hp; have h2 := rA.out q hq; omega)
  obtain ⟨_, z1, z2, zf1, zf2⟩ := BR.out
  go_simp
  obtain ⟨U5, hU⟩ : ∃ U, U = wput2 U4 (w.heap.size + 1) (.slice AG t.gens.length cG) (.slice AA t.ats.length cA) := ⟨_, rfl⟩
  have BY := Lib.hid (show HBox U5 (w.heap.size + 1) t ⟨AG, AA, cG, cA⟩ by rw [hU]; exact BR.out.put2 t ⟨AG, AA, cG, cA⟩)
  have OY := Lib.hid (show HRows 3 U5 w.heap.size t ⟨AG, AA, cG, cA⟩ by rw [hU]; exact HRows.lower (B := w.heap.size + 2) (HRows.put2 ⟨own_lower NG.out (by omega), own_lower NA.out (by omega), SP.out⟩ (by omega) _ _) (by omega))
  have BL5 := Lib.hid (show Below w.heap.size w U5 by rw [hU]; exact below_put2 BL4.out (by omega) _ _)
  have BX' := Lib.hid (show U5.cell? ⟨w.heap.size, 0, none⟩ = some (.slice A.g t.gens.length A.cg) ∧ U5.cell? ⟨w.heap.size, 1, none⟩ = some (.slice A.a t.ats.length A.ca) by rw [hU]; have h1 := (BX.out.setOther (p := ⟨w.heap.size + 1, 0, none⟩) (by show w.heap.size + 1 ≠ w.heap.size; omega) (.slice AG t.gens.length cG)).setOther (p := ⟨w.heap.size + 1, 1, none⟩) (by show w.heap.size + 1 ≠ w.heap.size; omega) (.slice AA t.ats.length cA); exact ⟨h1.c0, h1.c1⟩)
  unfold wput2 at hU
  rw [← hU]
  clear hU z1 z2 zf1 zf2 BR
  refine hK.out _ _ (BX'.out) (fun hHelda20 => ?_)
  clear hK K hHelda18
  try simp only [Act.put, List.setIfInBounds_toArray, List.set_cons_zero, List.set_cons_succ]
  refine wpAnyH_done (by kernel_rfl) ?_ _
  go_wp2
  obtain ⟨_, s0, s1, sf0, sf1⟩ := BY.out
  refine bodyPost_ret (v := hv t ⟨AG, AA, cG, cA⟩) (by simp [results, Try.results16, go_sem, hv, s0, s1]) rfl ⟨_, rfl, OY.out, BL5.out⟩
theorem r14Twin (t : Ht) (A : HAds) (w : World) (h : HHeld w t A) (hs : t.Short) :
    Calls Try.prog 16 #[hv t A] w (HPost t w) := (r14TwinR t A w h hs).mono (fun _ _ h => h.post)
end Go.Proofs.Ytephmejhglcdiaa
