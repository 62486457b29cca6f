/- What slices.Clone and slices.Equal, and package handle's Same, Twin and copied return. What is cloned lies in rows of one's own. -/
import Derived.Test.YtephmejhglcdiaaHnC
import Derived.Test.YtephmejhglcdiaaSteps
import Derived.Deep.CutRange
namespace Go.Proofs.Ytephmejhglcdiaa
open Go.RowKit
set_option linter.unusedVariables false
set_option linter.unusedSimpArgs false

theorem one_ofH (k : IntKind) (zs : List Int) : ∀ u ∈ zs.map (Value.int k), u.oneCell' = true := by
  intro u hu
  obtain ⟨z, _, rfl⟩ := List.mem_map.1 hu
  rfl
/-- A row of its own, in new memory. -/
def ClonedRow (zs : List Int) (n : Nat) (w : World) (e : Ending) (w' : World) : Prop :=
  ∃ A c, e = .returned (.slice A n c) ∧ w'.ownsRow w.heap.size 3 1 (.slice A n c) n (zs.map (.int .i64)) ∧ (∀ p, A = some p → w.heap.size ≤ p.block ∧ p.block < w'.heap.size) ∧ Below w.heap.size w w'
set_option maxRecDepth 100000 in
set_option maxHeartbeats 1000000 in
theorem hClone (a : Option Addr) (cap : Nat) (zs : List Int) (w : World) (hl : Lst .i64 w a zs) (hn : zs.length ≤ 65536) (hnil : a = none → zs.length = 0 ∧ cap = 0) :
    Calls Try.prog 37 #[.slice a zs.length cap] w (ClonedRow zs zs.length w) := by
  have HL := Lib.hid hl
  cases a with
  | none =>
    obtain ⟨h0, h1⟩ := hnil rfl
    subst h1
    have hz : zs = [] := List.eq_nil_of_length_eq_zero h0
    subst hz
    clear hl hnil
    have heq : ∀ w', Sem.run Try.prog (binOp BinOp.eql 22 (Value.slice none 0 0) (Value.slice none 0 0)) w' = .ok (.bool true) w' := fun _ => by kernel_rfl
    go_enter Try.func37, Try.ntmps37
    go_wp2
    go_ret
    exact ⟨none, 0, rfl, World.ownsRow_nil _ _ _ _, fun p hp => (by cases hp), Below.refl _ _⟩
  | some ad =>
    obtain ⟨n, hzn⟩ : ∃ n, n = zs.length := ⟨_, rfl⟩
    have HN := Lib.hid hzn
    rw [← hzn] at hn ⊢
    clear hl hnil hzn
    have heq : ∀ w', Sem.run Try.prog (binOp BinOp.eql 22 (Value.slice (some ad) n cap) (Value.slice none 0 0)) w' = .ok (.bool false) w' := fun _ => by kernel_rfl
    go_enter Try.func37, Try.ntmps37
    go_wp2_with (at_builtin; refine wpList_copy elemI rfl (.tmp 5) (.tmp 6) rfl w rfl (some ad) n cap (zs.map (Value.int .i64)) rfl rfl (Cells.of_lst HL.out) (by rw [List.length_map, HN.out, Nat.mul_one]) (one_ofH _ _) (fun h => by cases h) (by unfold maxLen; omega) (by omega) ?_; intro A c w1 hown _ hb; have OW := Lib.hid hown; obtain ⟨N0, q0, q1, r⟩ := own_where hown; have QQ := Lib.hid r; have BB := Lib.hid hb; clear hown N0 q0 q1 r hb)
    go_ret
    exact ⟨A, c, rfl, OW.out, QQ.out, BB.out⟩
set_option maxHeartbeats 400000 in
theorem hEqualI (a b : Option Addr) (ca cb : Nat) (xs ys : List Int) (w : World) (ha : Lst .i64 w a xs) (hb : Lst .i64 w b ys) (hn : xs.length ≤ 65536) (hm : ys.length ≤ 65536) :
    Calls Try.prog 41 #[.slice a xs.length ca, .slice b ys.length cb] w fun e w' => e = .returned (.bool (xs == ys)) ∧ Below w.heap.size w w' := by
  have HA := Lib.hid ha
  have HB := Lib.hid hb
  clear ha hb
  by_cases hne : xs.length = ys.length
  · have k1 : ((xs.length : Int) != ys.length) = false := by simp; omega
    have HNE := Lib.hid hne
    clear hne
    go_enter Try.func41, Try.ntmps41
    go_wp2
    go_loopw [13] (SameIJ xs ys w) (fun i _ => xs.length - (intOf i).toNat)
    case atStart => exact ⟨0, 0, Nat.zero_le _, rfl, rfl, rfl⟩
    case round =>
      obtain ⟨k, q, hk, rfl, rfl, ht⟩ := hrel
      have HT := Lib.hid ht
      clear ht
      by_cases hlt : k < xs.length
      · have hltb : k < ys.length := by have := HNE.out; omega
        obtain ⟨b1, o1, rfl, _, c1⟩ := HA.out.cell hlt
        obtain ⟨b2, o2, rfl, _, c2⟩ := HB.out.cell hltb
        obtain ⟨x, hx⟩ : ∃ x, xs.getD k 0 = x := ⟨_, rfl⟩
        obtain ⟨y, hy⟩ : ∃ y, ys.getD k 0 = y := ⟨_, rfl⟩
        rw [hx] at c1
        rw [hy] at c2
        have HX := Lib.hid hx
        have HY := Lib.hid hy
        clear hx hy
        by_cases he : x = y
        · have k2 : (x != y) = false := by simp [he]
          have HE := Lib.hid he
          clear he
          go_wp2
          go_quiet (fail)
          go_wp2
          go_roundw
          case rel => exact ⟨k + 1, _, by omega, by go_num, rfl, take_sameI xs ys k hlt hltb HT.out (by rw [HX.out, HY.out, HE.out])⟩
          case measure => simp [intOf]; omega
        · have k2 : (x != y) = true := by simp [he]
          have HE := Lib.hid he
          clear he
          go_wp2
          go_quiet (fail)
          go_wp2
          go_ret
          rw [not_sameI xs ys k (by rw [HX.out, HY.out]; exact HE.out)]
          exact ⟨rfl, below_drewN (below_drewN (Below.refl _ _) _) _⟩
      · go_wp2
        go_ret
        have e : xs = ys := by
          have := HT.out
          rwa [List.take_of_length_le (by omega), List.take_of_length_le (by have := HNE.out; omega)] at this
        rw [e]
        exact ⟨by simp, below_drewN (Below.refl _ _) _⟩
  · have k1 : ((xs.length : Int) != ys.length) = true := by simp; omega
    have H := Lib.hid (show (xs == ys) = false by rw [beq_eq_false_iff_ne]; rintro rfl; exact hne rfl)
    clear hne
    go_enter Try.func41, Try.ntmps41
    go_wp2
    go_ret
    rw [H.out]
    exact ⟨rfl, Below.refl _ _⟩
set_option maxRecDepth 100000 in
set_option maxHeartbeats 1000000 in
theorem hSame (t o : Ht) (A B : HAds) (w : World) (h : HHeld w t A) (h' : HHeld w o B) (ok : t.Ok) (ok' : o.Ok) (hs : t.Short) (hs' : o.Short) :
    Calls Try.prog 23 #[hv t A, hv o B] w fun e w' => e = .returned (.bool (Hn.sameB t o)) ∧ Below w.heap.size w w' := by
  have HB := Lib.hid (fun x y => ((Below.refl w.heap.size w).alloc (Nat.le_refl _) x).alloc (by simp) y)
  have C1 := Lib.hid (fun V (hb : Below w.heap.size w V) => hEqualI A.g B.g A.cg B.cg t.gens o.gens V (h.below hb).gens (h'.below hb).gens (by have := hs.gens; omega) (by have := hs'.gens; omega))
  have C2 := Lib.hid (fun V (hb : Below w.heap.size w V) => hEqualI A.a B.a A.ca B.ca t.ats o.ats V (h.below hb).ats (h'.below hb).ats (by have := hs.ats; omega) (by have := hs'.ats; omega))
  have HX := Lib.hid (fun x => (HBox.new w t A 24).below ((Below.refl _ _).alloc (Nat.le_refl _) x))
  have HY := Lib.hid (fun x => HBox.new (w.alloc x) o B 24)
  have HS := Lib.hid (show Hn.sameB t o = ((t.gens == o.gens) && (t.ats == o.ats)) from rfl)
  clear h h' hs hs' ok ok'
  unfold hCells at HX HY
  unfold hv
  go_enter Try.func23, Try.ntmps23
  go_wp2_with fail
  refine (C1.out _ (HB.out _ _)).mono ?_
  rintro e w1 ⟨rfl, hb⟩
  have B1 := Lib.hid ((HB.out _ _).trans (hb.mono (HB.out _ _).size))
  obtain ⟨_, p0, p1, _, _⟩ := (HX.out _).below hb
  obtain ⟨_, p2, p3, _, _⟩ := (HY.out _).below hb
  simp only [World.size_alloc] at p2 p3
  clear hb HX HY HB C1
  cases e1 : (t.gens == o.gens)
  · rw [e1] at HS
    go_wp2
    go_ret
    rw [HS.out]
    exact ⟨rfl, B1.out⟩
  · rw [e1] at HS
    go_wp2_with fail
    refine (C2.out _ B1.out).mono ?_
    rintro e w2 ⟨rfl, hb⟩
    have B2 := Lib.hid (B1.out.trans (hb.mono B1.out.size))
    clear hb C2 B1 p0 p1 p2 p3
    go_wp2
    go_ret
    rw [HS.out]
    exact ⟨by simp, B2.out⟩
set_option maxRecDepth 100000 in
set_option maxHeartbeats 8000000 in
theorem hTwinR (t : Ht) (A : HAds) (w : World) (h : HHeld w t A) (hs : t.Short) :
    Calls Try.prog 17 #[hv t A] w (HPostR 3 t w) := by
  have CG := Lib.hid (fun V (hb : Below w.heap.size w V) => hClone A.g A.cg t.gens V (h.below hb).gens hs.gens h.caps.g0)
  have CA := Lib.hid (fun V (hb : Below w.heap.size w V) => hClone A.a A.ca t.ats V (h.below hb).ats hs.ats h.caps.a0)
  have HX := Lib.hid (fun x => (HBox.new w t A 24).below ((Below.refl _ _).alloc (Nat.le_refl _) x))
  have HY := Lib.hid (fun x => HBox.new (w.alloc x) Ht.zero hNone 24)
  clear h hs
  unfold hv
  go_enter Try.func17, Try.ntmps17
  go_upto_region 1 with (fail)
  obtain ⟨W1, hW1⟩ : ∃ W, W = (w.alloc (.cells #[.slice A.g t.gens.length A.cg, .slice A.a t.ats.length A.ca] 24)).alloc (.cells #[.slice none 0 0, .slice none 0 0] 24) := ⟨_, rfl⟩
  have BX := Lib.hid (show HBox W1 w.heap.size t A by rw [hW1]; exact HX.out _)
  have BR := Lib.hid (show HBox W1 (w.heap.size + 1) Ht.zero hNone by rw [hW1]; have := HY.out (.cells #[.slice A.g t.gens.length A.cg, .slice A.a t.ats.length A.ca] 24); rw [World.size_alloc] at this; exact this)
  have BB := Lib.hid (show Below w.heap.size w W1 by rw [hW1]; exact ((Below.refl _ _).alloc (Nat.le_refl _) _).alloc (by simp) _)
  have zz : w.heap.size + 2 ≤ W1.heap.size := by rw [hW1]; simp
  rw [← hW1]
  clear hW1 HX HY
  refine wp_region_held_drew (S := fun w' => w'.cell? ⟨w.heap.size, 0, none⟩ = some (.slice A.g t.gens.length A.cg) ∧ w'.cell? ⟨w.heap.size, 1, none⟩ = some (.slice A.a t.ats.length A.ca) ∧ Hid (Below w.heap.size w w')) (by kernel_rfl) (by exact ⟨(BX.out.below ((Below.refl _ _).drew)).c0, (BX.out.below ((Below.refl _ _).drew)).c1, Lib.hid (BB.out.trans ((Below.refl _ _).drew.mono BB.out.size))⟩) (fun hHeld => ?_)
  obtain ⟨V0, hV0⟩ : ∃ V, V = W1.drew := ⟨_, rfl⟩
  have BL0 := Lib.hid (show Below w.heap.size w V0 by rw [hV0]; exact BB.out.trans ((Below.refl _ _).drew.mono BB.out.size))
  replace BX := Lib.hid (show HBox V0 w.heap.size t A by rw [hV0]; exact BX.out.below ((Below.refl _ _).drew))
  replace BR := Lib.hid (show HBox V0 (w.heap.size + 1) Ht.zero hNone by rw [hV0]; exact BR.out.below ((Below.refl _ _).drew))
  replace zz : w.heap.size + 2 ≤ V0.heap.size := by rw [hV0]; exact zz
  rw [← hV0] at hHeld ⊢
  clear hV0
  refine wpAnyH_take (i := 0) (oi := Oper.mk _ _ _ _ _ _) (v := ?vt0) rfl (by kernel_rfl) (by kernel_rfl) (by kernel_rfl) (fun _ _ _ h => h) (Or.inl ⟨by rfl, ?hyt0⟩) (by assumption) ?restt0
  case hyt0 =>
    intro w0 hSw
    try dsimp only at hSw
    go_simp
    all_goals with_reducible rfl
  try simp only [Act.put, List.setIfInBounds_toArray, List.set_cons_zero, List.set_cons_succ]
  refine wpAnyH_take (i := 1) (oi := Oper.mk _ _ _ _ _ _) (v := ?vt1) rfl (by kernel_rfl) (by kernel_rfl) (by kernel_rfl) (fun _ _ _ h => h) (Or.inl ⟨by rfl, ?hyt1⟩) (by assumption) ?restt1
  case hyt1 =>
    intro w0 hSw
    try dsimp only at hSw
    go_simp
    all_goals with_reducible rfl
  try simp only [Act.put, List.setIfInBounds_toArray, List.set_cons_zero, List.set_cons_succ]
  refine wpAnyH_take (i := 3) (oi := Oper.mk _ _ _ _ _ _) (v := ?vt2) rfl (by kernel_rfl) (by kernel_rfl) (by kernel_rfl) (fun _ _ _ h => h) (Or.inl ⟨by rfl, ?hyt2⟩) (by assumption) ?restt2
  case hyt2 =>
    intro w0 hSw
    try dsimp only at hSw
    go_simp
    all_goals with_reducible rfl
  try simp only [Act.put, List.setIfInBounds_toArray, List.set_cons_zero, List.set_cons_succ]
  refine wpAnyH_take (i := 4) (oi := Oper.mk _ _ _ _ _ _) (v := ?vt3) rfl (by kernel_rfl) (by kernel_rfl) (by kernel_rfl) (fun _ _ _ h => h) (Or.inl ⟨by rfl, ?hyt3⟩) (by assumption) ?restt3
  case hyt3 =>
    intro w0 hSw
    try dsimp only at hSw
    go_simp
    all_goals with_reducible rfl
  try simp only [Act.put, List.setIfInBounds_toArray, List.set_cons_zero, List.set_cons_succ]
  refine wpAnyH_ready (rs := [2]) (by kernel_rfl) (by simp) ?_
  refine AllReadyH.cons (o := Oper.mk _ _ _ _ _ _) rfl (fun K hK => ?_) AllReadyH.nil
  go_simp
  refine (CG.out V0 BL0.out).mono ?_
  rintro e U1 ⟨RG, cG, rfl, hrow, hrg, hb⟩
  try (go_simp)
  have BL1 := Lib.hid (BL0.out.trans (hb.mono BL0.out.size))
  replace BX := Lib.hid (BX.out.below hb)
  replace BR := Lib.hid (BR.out.below hb)
  have z1 : V0.heap.size ≤ U1.heap.size := hb.size
  have ROWG := Lib.hid (own_lower (base' := w.heap.size + 2) hrow (by omega))
  have RGG := Lib.hid hrg
  clear hb hrow hrg
  refine hK.out _ _ (by exact ⟨(BX.out).c0, (BX.out).c1, BL1⟩) (fun hHeldt4 => ?_)
  clear hK K hHeld
  try simp only [Act.put, List.setIfInBounds_toArray, List.set_cons_zero, List.set_cons_succ]
  refine wpAnyH_ready (rs := [5]) (by kernel_rfl) (by simp) ?_
  refine AllReadyH.cons (o := Oper.mk _ _ _ _ _ _) rfl (fun K hK => ?_) AllReadyH.nil
  go_simp
  refine (CA.out U1 BL1.out).mono ?_
  rintro e U2 ⟨RA, cA, rfl, hrow, hrg, hb⟩
  try (go_simp)
  have BL2 := Lib.hid (BL1.out.trans (hb.mono BL1.out.size))
  replace BX := Lib.hid (BX.out.below hb)
  replace BR := Lib.hid (BR.out.below hb)
  have z2 : U1.heap.size ≤ U2.heap.size := hb.size
  replace ROWG := Lib.hid (own_below ROWG.out hb)
  have ROWA := Lib.hid (own_lower (base' := w.heap.size + 2) hrow (by omega))
  have RGA := Lib.hid hrg
  clear hb hrow hrg
  refine hK.out _ _ (by exact ⟨(BX.out).c0, (BX.out).c1, BL2⟩) (fun hHeldt5 => ?_)
  clear hK K hHeldt4
  try simp only [Act.put, List.setIfInBounds_toArray, List.set_cons_zero, List.set_cons_succ]
  refine wpAnyH_take (i := 6) (oi := Oper.mk _ _ _ _ _ _) (v := ?vt6) rfl (by kernel_rfl) (by kernel_rfl) (by kernel_rfl) (fun _ _ _ h => h) (Or.inl ⟨by rfl, ?hyt6⟩) (by assumption) ?restt6
  case hyt6 =>
    intro w0 hSw
    try dsimp only at hSw
    go_simp
    all_goals with_reducible rfl
  try simp only [Act.put, List.setIfInBounds_toArray, List.set_cons_zero, List.set_cons_succ]
  refine wpAnyH_ready (rs := [7]) (by kernel_rfl) (by simp) ?_
  refine AllReadyH.cons (o := Oper.mk _ _ _ _ _ _) rfl (fun K hK => ?_) AllReadyH.nil
  obtain ⟨_, z1, z2, zf1, zf2⟩ := BR.out
  try dsimp only [Ht.zero, hNone, List.length_nil] at z1 z2
  go_simp
  obtain ⟨U3, hU⟩ : ∃ U, U = wput2 U2 (w.heap.size + 1) (.slice RG t.gens.length cG) (.slice RA t.ats.length cA) := ⟨_, rfl⟩
  have HR := Lib.hid (show HRows 3 U3 (w.heap.size + 2) t ⟨RG, RA, cG, cA⟩ by rw [hU]; exact HRows.put2 ⟨ROWG.out, ROWA.out, fun p q hp hq => by have h1 := RGG.out p hp; have h2 := RGA.out q hq; omega⟩ (by omega) _ _)
  have BY := Lib.hid (show HBox U3 (w.heap.size + 1) t ⟨RG, RA, cG, cA⟩ by rw [hU]; exact BR.out.put2 t ⟨RG, RA, cG, cA⟩)
  replace BX := Lib.hid (show HBox U3 w.heap.size t A by rw [hU]; exact BX.out.put2o (by omega) _ _)
  have BL3 := Lib.hid (show Below w.heap.size w U3 by rw [hU]; exact below_put2 BL2.out (by omega) _ _)
  unfold wput2 at hU
  first | rw [← hU] | skip
  clear hU z1 z2 zf1 zf2 BR
  refine hK.out _ _ (by exact ⟨(BX.out).c0, (BX.out).c1, BL3⟩) (fun hHeldt7 => ?_)
  clear hK K hHeldt5
  try simp only [Act.put, List.setIfInBounds_toArray, List.set_cons_zero, List.set_cons_succ]
  refine wpAnyH_done (by kernel_rfl) ?_ _
  obtain ⟨_, s0, s1, _, _⟩ := BY.out
  dsimp only at s0 s1
  go_wp2
  refine bodyPost_ret (v := hv t ⟨RG, RA, cG, cA⟩) (by simp [results, Try.results17, go_sem, hv, s0, s1]) rfl ⟨_, rfl, HR.out.lower (by omega), BL3.out⟩
theorem hTwin (t : Ht) (A : HAds) (w : World) (h : HHeld w t A) (ok : t.Ok) (hs : t.Short) :
    Calls Try.prog 17 #[hv t A] w (HPost t w) := (hTwinR t A w h hs).mono fun e w' h => h.post
end Go.Proofs.Ytephmejhglcdiaa
