/- The walk of the law SlotsParts: a part's pairs, and those behind it, are all; counts add up to how many there are. -/
import Derived.Test.YtifffaigmfahdaaDoorM03
import Derived.Test.YtifffaigmfahdaaDoorM21
import Derived.Test.YtifffaigmfahdaaDoorM19
namespace Go.Proofs.YtifffaigmfahdaaDoor.slotsParts
open Go.RowKit
set_option linter.unusedVariables false
set_option linter.unusedSimpArgs false

theorem sum_small {s : Sl} (h : s.May) (k : Nat) (hk : k ≤ s.counts.length) : 0 ≤ sumTo s.counts k ∧ sumTo s.counts k ≤ 65536 := by
  rw [sum_counts h k hk]
  have h1 := Oc.places_length_le s.words 0 (k * s.seg.toNat)
  have h2 := h.whole
  have h3 := h.many
  have h4 : k * s.seg.toNat ≤ s.counts.length * s.seg.toNat := Nat.mul_le_mul_right _ hk
  omega
/-- 'append(v, w...)', whatever w is, onto a row that is owned, under a guard that says yes. -/
theorem wpList_joinG {P : Program} {T E : TypeId} {z : Value} {size bytes : Nat} (hE : Elem P T E z size bytes) {w : World} {ops : Array Oper} {rest : List Oper} {o : Oper} {act : Act} {Q : Exit → Act → World → Prop} (hw : Region.wanted o (yielded ops act.tmps) = true) (s x : Operand)
    (ho : o.op = .call { callee := .builtin .append, args := #[s, x], argTypes := #[T, T] })
    (base n : Nat) (v : Value) (ys : List Value) (hs : act.eval s = v) (hown : w.ownsRow base E size v n ys) (a : Option Addr) (m cap : Nat) (xs : List Value) (hx : act.eval x = .slice a m cap)
    (hl : Cells w a xs) (hlen : xs.length = m * size) (h1 : ∀ u ∈ xs, u.oneCell' = true) (hnil : a = none → m = 0 ∧ cap = 0) (hbase : base ≤ w.heap.size) (h63 : n + m ≤ maxLen) (hby : (n + m) * bytes ≤ 140737488355328)
    (h : ∀ v' w', w'.ownsRow base E size v' (n + m) (ys ++ xs) → Below base w w' → wpList P ops Q rest (act.put o.dst v') w') : wpList P ops Q (o :: rest) act w := by
  refine wpList_step fun K hK => ?_
  rw [if_pos hw]
  obtain ⟨i0, hi0, hz0, hz1, hz2⟩ := hE.info
  cases a with
  | none =>
    obtain ⟨rfl, rfl⟩ := hnil rfl
    have hxs : xs = [] := List.eq_nil_of_length_eq_zero (by rw [hlen, Nat.zero_mul])
    subst hxs
    have hrun := run_append_owned_none (P := P) (w := w) base T o.type E i0 size hE.und hi0 v n ys hown
    have hK2 := hK _ _ (h v w (by rw [Nat.add_zero, List.append_nil]; exact hown) (Below.refl _ _))
    unfold Oper.wp
    simp [execOp, ho, resolve, invoke, builtin, hs, hx, hrun, Result.andThen]
    exact hK2
  | some ad =>
    have hnews : ∀ j u, xs[j]? = some u → w.cell? (ad.add j) = some u := by
      intro j u hu
      have hj : j < xs.length := (List.getElem?_eq_some_iff.1 hu).1
      rcases hl with h0 | ⟨b, off, e, hb, hc⟩
      · subst h0; simp at hj
      · injection e with e
        subst e
        rw [add_at, hc j hj, hu]
    refine wp_append_own _ s x T ho base E i0 z size bytes hE.und hi0 hz0 hz1 hz2 hE.zero hE.pos v n ys hs hown ad m cap xs hx hlen hnews h1 h63 hby hbase ?_
    intro v1 w1 hown1 hgrow1 _
    exact hK _ _ (h v1 w1 hown1 ((Below.refl _ _).grown hgrow1 hbase (fun g hg => (World.ownsRow.lt hown g hg).1)))
def SumJ (s : Sl) (a : Ads) (b : Nat) (w1 : World) (n i : Value) (wr : World) : Prop := ∃ k : Nat, k ≤ s.counts.length ∧ i = .int .i64 k ∧ n = .int .i64 (sumTo s.counts k) ∧ w1 = wr
theorem pairsE_cases (s : Sl) (z : Int) (n : Int) (hn : n = (s.keys.length : Int)) : (s.mayB = false ∧ s.pairsE 0 n = 8 ∧ s.pairsE 0 z = 8 ∧ s.pairsE z n = 8) ∨ (s.mayB = true ∧ s.pairsE 0 n = 0 ∧ s.pairsE 0 z = 2 ∧ s.pairsE z n = 2) ∨ (s.mayB = true ∧ s.pairsE 0 n = 0 ∧ s.pairsE 0 z = 0 ∧ s.pairsE z n = 0 ∧ 0 ≤ z ∧ z ≤ n) := by
  subst hn
  unfold Sl.pairsE
  cases hm : s.mayB
  · exact Or.inl ⟨rfl, rfl, rfl, rfl⟩
  · have h0 : Sl.partB s.keys.length 0 s.keys.length = true := part_iff.2 ⟨by omega, by omega, by omega⟩
    by_cases hz : 0 ≤ z ∧ z ≤ (s.keys.length : Int)
    · have h1 : Sl.partB s.keys.length 0 z = true := part_iff.2 ⟨by omega, by omega, by omega⟩
      have h2 : Sl.partB s.keys.length z s.keys.length = true := part_iff.2 ⟨by omega, by omega, by omega⟩
      rw [h0, h1, h2]
      exact Or.inr (Or.inr ⟨rfl, rfl, rfl, rfl, hz.1, hz.2⟩)
    · have h1 : Sl.partB s.keys.length 0 z = false := by
        cases h : Sl.partB s.keys.length 0 z
        · rfl
        · have := part_iff.1 h; omega
      have h2 : Sl.partB s.keys.length z s.keys.length = false := by
        cases h : Sl.partB s.keys.length z s.keys.length
        · rfl
        · have := part_iff.1 h; omega
      rw [h0, h1, h2]
      exact Or.inr (Or.inl ⟨rfl, rfl, rfl, rfl⟩)
set_option maxRecDepth 100000 in
set_option maxHeartbeats 8000000 in
theorem full (s : Sl) (a : Ads) (z : Int) (W0 : World) (h : Held W0 s a) (hok : s.Ok) (hT : Tab W0) (hs : s.Short) (hg : s.greatB 300 = false) :
    Calls Tryd.prog 8 #[slv s a, .int .i64 z] W0 fun e w' => e = .returned (.bool true) ∧ Below W0.heap.size W0 w' := by
  have HG := Lib.hid hg
  have HB := Lib.hid (fun o => (Below.refl W0.heap.size W0).alloc (Nat.le_refl _) o)
  have BX := Lib.hid (Box.new W0 s a 27)
  have HA0 := Lib.hid h
  have TB0 := Lib.hid hT
  have CA := Lib.hid (fun o => lAlive (W0.alloc o) (hT.below (HB.out o)))
  have cP := Lib.hid (fun lo hi V (hv : Held V s a) tv => cPairs s a lo hi V hv hok hs tv)
  obtain ⟨n, hn⟩ : ∃ n : Int, n = (s.keys.length : Int) := ⟨_, rfl⟩
  have HN := Lib.hid hn
  have PC := Lib.hid (pairsE_cases s z n hn)
  have l4 := hs.counts
  have SM := Lib.hid (fun hm k hk => sum_small (s := s) (may_iff.1 hm) k hk)
  have SA := Lib.hid (fun hm => sum_all (s := s) (may_iff.1 hm))
  have l2 := hs.keys
  clear h hok hT hs hg
  unfold slv at cP ⊢
  have start : ∀ (E0 E1 E2 : Int) (l0 l1 l2 : List (Int × Int)), s.pairsE 0 n = E0 → s.pairsE 0 z = E1 → s.pairsE z n = E2 → s.pairsV 0 n = l0 → s.pairsV 0 z = l1 → s.pairsV z n = l2 →
      (∀ V, Held V s a → Tab V → Calls Tryd.prog 22 #[slv s a, .int .i64 0, .int .i64 (s.keys.length : Int)] V (POwn2 l0 E0 V)) ∧ (∀ V, Held V s a → Tab V → Calls Tryd.prog 22 #[slv s a, .int .i64 0, .int .i64 z] V (POwn2 l1 E1 V)) ∧ (∀ V, Held V s a → Tab V → Calls Tryd.prog 22 #[slv s a, .int .i64 z, .int .i64 (s.keys.length : Int)] V (POwn2 l2 E2 V)) := by
    intro E0 E1 E2 l0 l1 l2 e0 e1 e2 v0 v1 v2
    rw [← HN.out]
    unfold slv
    exact ⟨fun V hv tv => by rw [← e0, ← v0]; exact cP.out 0 n V hv tv, fun V hv tv => by rw [← e1, ← v1]; exact cP.out 0 z V hv tv, fun V hv tv => by rw [← e2, ← v2]; exact cP.out z n V hv tv⟩
  have START := Lib.hid start
  clear start cP hn
  rcases PC.out with ⟨hm, h0, h1, h2⟩ | ⟨hm, h0, h1, h2⟩ | ⟨hm, h0, h1, h2, hz1, hz2⟩
  · obtain ⟨q0, q1, q2⟩ := START.out _ _ _ _ _ _ h0 h1 h2 rfl rfl rfl
    unfold slv at q0 q1 q2
    have Q0 := Lib.hid q0
    have Q1 := Lib.hid q1
    have Q2 := Lib.hid q2
    clear q0 q1 q2 h0 h1 h2 hm
    go_enter Tryd.func8, Tryd.ntmps8
    go_wp2_with fail
    refine (CA.out _).mono ?_
    rintro e W ⟨rfl, hb⟩
    have BB := Lib.hid ((HB.out _).trans (hb.mono (by simp)))
    have B0 := Lib.hid (BX.out.below hb)
    clear hb
    obtain ⟨_, p0, p1, p2, p3, p4, p5, _⟩ := B0.out
    go_wp2_with fail
    refine (r4Great s a 300 _).mono ?_
    rintro e W1 ⟨rfl, hb⟩
    rw [HG.out]
    replace BB := Lib.hid (BB.out.trans (hb.mono BB.out.size))
    replace B0 := Lib.hid (B0.out.below hb)
    clear hb p0 p1 p2 p3 p4 p5
    obtain ⟨_, p0, p1, p2, p3, p4, p5, _⟩ := B0.out
    go_wp2_with fail
    refine (Q0.out _ (HA0.out.below BB.out) (TB0.out.below BB.out)).mono ?_
    rintro e W2 ⟨v0, rfl, _, hb⟩
    replace BB := Lib.hid (BB.out.trans (hb.mono BB.out.size))
    replace B0 := Lib.hid (B0.out.below hb)
    clear hb p0 p1 p2 p3 p4 p5
    obtain ⟨_, p0, p1, p2, p3, p4, p5, _⟩ := B0.out
    go_wp2_with fail
    refine (Q1.out _ (HA0.out.below BB.out) (TB0.out.below BB.out)).mono ?_
    rintro e W3 ⟨v1, rfl, _, hb⟩
    replace BB := Lib.hid (BB.out.trans (hb.mono BB.out.size))
    replace B0 := Lib.hid (B0.out.below hb)
    clear hb p0 p1 p2 p3 p4 p5
    obtain ⟨_, p0, p1, p2, p3, p4, p5, _⟩ := B0.out
    go_wp2_with fail
    refine (Q2.out _ (HA0.out.below BB.out) (TB0.out.below BB.out)).mono ?_
    rintro e W4 ⟨v2, rfl, _, hb⟩
    replace BB := Lib.hid (BB.out.trans (hb.mono BB.out.size))
    clear hb p0 p1 p2 p3 p4 p5
    go_wp2
    go_ret
    exact ⟨rfl, BB.out⟩
  · obtain ⟨q0, q1, q2⟩ := START.out _ _ _ _ _ _ h0 h1 h2 rfl rfl rfl
    unfold slv at q0 q1 q2
    have Q0 := Lib.hid q0
    have Q1 := Lib.hid q1
    have Q2 := Lib.hid q2
    clear q0 q1 q2 h0 h1 h2 hm
    go_enter Tryd.func8, Tryd.ntmps8
    go_wp2_with fail
    refine (CA.out _).mono ?_
    rintro e W ⟨rfl, hb⟩
    have BB := Lib.hid ((HB.out _).trans (hb.mono (by simp)))
    have B0 := Lib.hid (BX.out.below hb)
    clear hb
    obtain ⟨_, p0, p1, p2, p3, p4, p5, _⟩ := B0.out
    go_wp2_with fail
    refine (r4Great s a 300 _).mono ?_
    rintro e W1 ⟨rfl, hb⟩
    rw [HG.out]
    replace BB := Lib.hid (BB.out.trans (hb.mono BB.out.size))
    replace B0 := Lib.hid (B0.out.below hb)
    clear hb p0 p1 p2 p3 p4 p5
    obtain ⟨_, p0, p1, p2, p3, p4, p5, _⟩ := B0.out
    go_wp2_with fail
    refine (Q0.out _ (HA0.out.below BB.out) (TB0.out.below BB.out)).mono ?_
    rintro e W2 ⟨v0, rfl, _, hb⟩
    replace BB := Lib.hid (BB.out.trans (hb.mono BB.out.size))
    replace B0 := Lib.hid (B0.out.below hb)
    clear hb p0 p1 p2 p3 p4 p5
    obtain ⟨_, p0, p1, p2, p3, p4, p5, _⟩ := B0.out
    go_wp2_with fail
    refine (Q1.out _ (HA0.out.below BB.out) (TB0.out.below BB.out)).mono ?_
    rintro e W3 ⟨v1, rfl, _, hb⟩
    replace BB := Lib.hid (BB.out.trans (hb.mono BB.out.size))
    replace B0 := Lib.hid (B0.out.below hb)
    clear hb p0 p1 p2 p3 p4 p5
    obtain ⟨_, p0, p1, p2, p3, p4, p5, _⟩ := B0.out
    go_wp2_with fail
    refine (Q2.out _ (HA0.out.below BB.out) (TB0.out.below BB.out)).mono ?_
    rintro e W4 ⟨v2, rfl, _, hb⟩
    replace BB := Lib.hid (BB.out.trans (hb.mono BB.out.size))
    clear hb p0 p1 p2 p3 p4 p5
    go_wp2
    go_ret
    exact ⟨rfl, BB.out⟩
  · obtain ⟨k, rfl⟩ : ∃ k : Nat, z = k := ⟨z.toNat, by omega⟩
    have hkn : k ≤ s.keys.length := by have := HN.out; omega
    have V0 : s.pairsV 0 n = s.of 0 s.keys.length := by unfold Sl.pairsV; rw [if_pos h0, HN.out]; simp
    have V1 : s.pairsV 0 (k : Int) = s.of 0 k := by unfold Sl.pairsV; rw [if_pos h1]; simp
    have V2 : s.pairsV (k : Int) n = s.of k s.keys.length := by unfold Sl.pairsV; rw [if_pos h2, HN.out]; simp
    obtain ⟨q0, q1, q2⟩ := START.out _ _ _ _ _ _ h0 h1 h2 V0 V1 V2
    have SP := Lib.hid (of_split s 0 k s.keys.length (Nat.zero_le _) hkn)
    have SB := Lib.hid (SM.out hm)
    have ST := Lib.hid (SA.out hm)
    have LN := Lib.hid (show (s.of 0 s.keys.length).length ≤ s.keys.length by unfold Sl.of; rw [List.length_map]; have := Oc.places_length_le s.words 0 s.keys.length; omega)
    obtain ⟨l0, hl0⟩ : ∃ l, l = s.of 0 s.keys.length := ⟨_, rfl⟩
    obtain ⟨l1, hl1⟩ : ∃ l, l = s.of 0 k := ⟨_, rfl⟩
    obtain ⟨l2', hl2⟩ : ∃ l, l = s.of k s.keys.length := ⟨_, rfl⟩
    rw [← hl0] at q0 SP ST LN
    rw [← hl1] at q1 SP
    rw [← hl2] at q2 SP
    unfold slv at q0 q1 q2
    have Q0 := Lib.hid q0
    have Q1 := Lib.hid q1
    have Q2 := Lib.hid q2
    clear q0 q1 q2 h0 h1 h2 hm V0 V1 V2 hl0 hl1 hl2 hz1 hz2 PC START SM SA
    go_enter Tryd.func8, Tryd.ntmps8
    go_wp2_with fail
    refine (CA.out _).mono ?_
    rintro e W ⟨rfl, hb⟩
    have BB := Lib.hid ((HB.out _).trans (hb.mono (by simp)))
    have B0 := Lib.hid (BX.out.below hb)
    clear hb
    obtain ⟨_, p0, p1, p2, p3, p4, p5, _⟩ := B0.out
    go_wp2_with fail
    refine (r4Great s a 300 _).mono ?_
    rintro e W1 ⟨rfl, hb⟩
    rw [HG.out]
    replace BB := Lib.hid (BB.out.trans (hb.mono BB.out.size))
    replace B0 := Lib.hid (B0.out.below hb)
    clear hb p0 p1 p2 p3 p4 p5
    obtain ⟨_, p0, p1, p2, p3, p4, p5, _⟩ := B0.out
    go_wp2_with fail
    refine (Q0.out _ (HA0.out.below BB.out) (TB0.out.below BB.out)).mono ?_
    rintro e W2 ⟨v0, rfl, hown, hb⟩
    obtain ⟨A0, c0, rfl, hC0, hnil0, _, hcap0⟩ := own_cells hown
    have R0 := Lib.hid (show PLst W2 A0 l0 from hC0)
    replace BB := Lib.hid (BB.out.trans (hb.mono BB.out.size))
    replace B0 := Lib.hid (B0.out.below hb)
    clear hb p0 p1 p2 p3 p4 p5 hown hC0
    obtain ⟨_, p0, p1, p2, p3, p4, p5, _⟩ := B0.out
    go_wp2_with fail
    refine (Q1.out _ (HA0.out.below BB.out) (TB0.out.below BB.out)).mono ?_
    rintro e W3 ⟨v1, rfl, hown, hb⟩
    obtain ⟨A1, c1, rfl, hC1, hnil1, _, hcap1⟩ := own_cells hown
    have R1 := Lib.hid (show PLst W3 A1 l1 from hC1)
    replace R0 := Lib.hid (R0.out.below hb)
    replace BB := Lib.hid (BB.out.trans (hb.mono BB.out.size))
    replace B0 := Lib.hid (B0.out.below hb)
    clear hb p0 p1 p2 p3 p4 p5 hown hC1
    obtain ⟨_, p0, p1, p2, p3, p4, p5, _⟩ := B0.out
    go_wp2_with fail
    refine (Q2.out _ (HA0.out.below BB.out) (TB0.out.below BB.out)).mono ?_
    rintro e W4 ⟨v2, rfl, hown, hb⟩
    obtain ⟨A2, c2, rfl, hC2, hnil2, _, hcap2⟩ := own_cells hown
    have R2 := Lib.hid (show PLst W4 A2 l2' from hC2)
    replace R0 := Lib.hid (R0.out.below hb)
    replace R1 := Lib.hid (R1.out.below hb)
    replace BB := Lib.hid (BB.out.trans (hb.mono BB.out.size))
    replace B0 := Lib.hid (B0.out.below hb)
    have HA := Lib.hid (HA0.out.below BB.out)
    clear hb p0 p1 p2 p3 p4 p5 hown hC2
    have N1 := Lib.hid (And.intro hnil0 (And.intro hnil1 hnil2))
    clear hnil0 hnil1 hnil2
    go_wp2
    go_loopw [12, 13] (SumJ s a W0.heap.size W4) (fun _ i _ => s.counts.length - (intOf i).toNat)
    case atStart => exact ⟨0, Nat.zero_le _, rfl, rfl, rfl⟩
    case round =>
      obtain ⟨j, hj, rfl, rfl, rfl⟩ := hrel
      obtain ⟨_, p0, p1, p2, p3, p4, p5, _⟩ := B0.out
      by_cases hlt : j < s.counts.length
      · obtain ⟨bc, oc, hac, hbc, cc⟩ := HA.out.counts.cell hlt
        rw [hac] at p4
        have hs1 := SB.out j (by omega)
        have hs2 := SB.out (j + 1) (by omega)
        have hst : sumTo s.counts (j + 1) = sumTo s.counts j + s.counts.getD j 0 := rfl
        obtain ⟨x, hx⟩ : ∃ x, s.counts.getD j 0 = x := ⟨_, rfl⟩
        obtain ⟨y, hy⟩ : ∃ y, sumTo s.counts j = y := ⟨_, rfl⟩
        rw [hx] at cc hst
        rw [hy] at hs1 hst ⊢
        have HST := Lib.hid hst
        have hxy : IntKind.i64.wrap (y + x) = y + x := IntWalk.i64_in _ (by omega)
        clear hx hy hst hac hs2
        go_wp2
        go_roundw
        case rel => exact ⟨j + 1, by omega, by go_num, by rw [HST.out], rfl⟩
        case measure => simp [intOf]; omega
      · have hje : j = s.counts.length := by omega
        subst hje
        rw [ST.out]
        have LP := Lib.hid (show l1.length + l2'.length = l0.length by rw [SP.out, List.length_append])
        have e12 : l1.length + l2'.length ≤ 65536 := by have := LP.out; have := LN.out; omega
        clear hcap0 hcap1 hcap2
        go_wp2_with (first | (at_builtin; refine wpList_joinG elemP (by rfl) (.tmp 77) (.tmp 78) rfl W4.heap.size 0 _ [] rfl (World.ownsRow_lit W4 #[] 0 (Nat.le_refl _) (Nat.zero_le _) (by simp)) A1 l1.length c1 (pcells l1) rfl (R1.out.below ((Below.refl _ _).alloc (Nat.le_refl _) _)) (pcells_length l1) (pcells_one l1) N1.out.2.1 (by simp) (by unfold maxLen; omega) (by omega) ?_; intro v3 w5 hown5 hb5; have ROW := Lib.hid hown5; have BB5 := Lib.hid (((Below.refl W4.heap.size W4).alloc (Nat.le_refl _) _).trans hb5); clear hown5 hb5) | (at_builtin; go_loud (refine wpList_joinG elemP (by rfl) (.tmp 79) (.tmp 80) rfl W4.heap.size (0 + l1.length) v3 _ rfl ROW.out A2 l2'.length c2 (pcells l2') rfl (R2.out.below BB5.out) (pcells_length l2') (pcells_one l2') N1.out.2.2 BB5.out.size (by unfold maxLen; omega) (by omega) ?_; intro v4 w6 hown6 hb6; have ROW2 := Lib.hid hown6; have BB6 := Lib.hid hb6; clear hown6 hb6)))
        have BB7 := Lib.hid (BB5.out.trans BB6.out)
        obtain ⟨A3, c3, rfl, hC3, hnil3, _, hcap3⟩ := own_cells ROW2.out
        have PC3 := Lib.hid (show PLst w6 A3 l0 by unfold PLst; rw [SP.out]; unfold pcells; rw [List.flatMap_append]; exact hC3)
        have L2 : 0 + l1.length + l2'.length = l0.length := by have := LP.out; omega
        rw [L2]
        clear hC3 hnil3 hcap3 L2
        refine (r4SamePairs A3 A0 c3 c0 l0 l0 w6 PC3.out (R0.out.below BB7.out) (by have := LN.out; omega) (by have := LN.out; omega)).mono ?_
        rintro e W7 ⟨rfl, hb⟩
        rw [show (l0 == l0) = true from beq_self_eq_true l0]
        have hb' := BB7.out.trans (hb.mono (Nat.le_trans BB7.out.size (Nat.le_refl _)))
        have BB8 := Lib.hid (BB.out.trans (hb'.mono BB.out.size))
        clear hb hb'
        go_wp2
        go_ret
        exact ⟨rfl, BB8.out⟩
theorem walk (s : Sl) (a : Ads) (z : Int) (W0 : World) (h : Held W0 s a) (hok : s.Ok) (hT : Tab W0) :
    Calls Tryd.prog 8 #[slv s a, .int .i64 z] W0 fun e w' => e = .returned (.bool true) ∧ Below W0.heap.size W0 w' := by
  cases hg : s.greatB 300
  · refine full s a z W0 h hok hT ?_ hg
    unfold Sl.greatB at hg
    simp only [Bool.or_eq_false_iff, decide_eq_false_iff_not] at hg
    exact ⟨by omega, by omega, by omega, by omega⟩
  · have HG := Lib.hid hg
    have HB := Lib.hid (fun o => (Below.refl W0.heap.size W0).alloc (Nat.le_refl _) o)
    have BX := Lib.hid (Box.new W0 s a 27)
    have CA := Lib.hid (fun o => lAlive (W0.alloc o) (hT.below (HB.out o)))
    clear hg h hok hT
    unfold slv
    go_enter Tryd.func8, Tryd.ntmps8
    go_wp2_with fail
    refine (CA.out _).mono ?_
    rintro e W ⟨rfl, hb⟩
    have BB := Lib.hid ((HB.out _).trans (hb.mono (by simp)))
    have B0 := Lib.hid (BX.out.below hb)
    clear hb
    obtain ⟨_, p0, p1, p2, p3, p4, p5, _⟩ := B0.out
    go_wp2_with fail
    refine (r4Great s a 300 _).mono ?_
    rintro e W1 ⟨rfl, hb⟩
    rw [HG.out]
    replace BB := Lib.hid (BB.out.trans (hb.mono BB.out.size))
    clear hb p0 p1 p2 p3 p4 p5
    go_wp2
    go_ret
    exact ⟨rfl, BB.out⟩
end Go.Proofs.YtifffaigmfahdaaDoor.slotsParts
