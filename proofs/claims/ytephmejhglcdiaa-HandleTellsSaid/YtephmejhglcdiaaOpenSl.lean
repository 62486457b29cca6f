/- Arguments opened: a row of numbers, a struct by its fields, a gapped array, a pair, a list of pairs. No program is named here. -/
import Derived.Test.YtephmejhglcdiaaSlv
import Derived.Test.YtephmejhglcdiaaOpenF
import Derived.ProofKit
import Derived.OpenShut
import Derived.ChangeOld
import Derived.Below
import Derived.Deep.Fields
import Derived.Deep.Slices
import Derived.Lib.SmallJoins
namespace Go.Proofs.Ytephmejhglcdiaa
open Go.ChangeShapes Go.WideShapes Go.ChangeAt Go.RowKit Go.Deep
set_option linter.unusedVariables false

section
variable {H : Type} {enc : TypeId × Value → H} {P : Program} {w : World} {base : Nat} {spare : Nat → Bool} {held : Bool}

/-- A field that is a list of numbers of one kind. -/
theorem open_row {k : IntKind} {t e : TypeId} {u : Value} {n : Nat} {y : DataW H × List MemPlace} (ht : P.underlying t = some (.slice e)) (he : P.underlying e = some (.int k)) (hce : P.cellsOf e = 1) (h : DataW.trod enc P w base spare held n t [u] = some y) :
    ∃ (a : Option Addr) (cap : Nat) (zs : List Int), u = .slice a zs.length cap ∧ Lst k w a zs ∧ (∀ z ∈ zs, (Lit.int k z).wf = true) ∧ (a = none → zs.length = 0 ∧ cap = 0) ∧ zs.length ≤ cap ∧ cap ≤ maxLen := by
  rcases open_ints ht he hce h with ⟨hcs, _⟩ | ⟨x, l, c, zs, hcs, _, hl, hm, hz, _, hcell, hwz⟩
  · injection hcs with hcs _
    exact ⟨none, 0, [], hcs, Or.inl rfl, fun z hz => by simp at hz, fun _ => ⟨rfl, rfl⟩, Nat.le_refl _, Nat.zero_le _⟩
  · injection hcs with hcs _
    have hzl : l ≤ zs.length := by rw [hz]; split <;> omega
    have hlen : (zs.take l).length = l := by rw [List.length_take]; omega
    refine ⟨some x, c, zs.take l, by rw [hlen]; exact hcs, ?_, fun z hzm => hwz z (List.mem_of_mem_take hzm), fun e => (by cases e), by rw [hlen]; exact hl, hm⟩
    by_cases h0 : l = 0
    · left; rw [h0]; rfl
    · right
      obtain ⟨b, off, rfl, hc⟩ := ints_at hcell (by omega)
      have hlt : b < w.heap.size := by
        have h1 := hc 0 (by omega)
        rcases Nat.lt_or_ge b w.heap.size with h2 | h2
        · exact h2
        · simp [World.cell?, Array.getElem?_eq_none h2] at h1
      refine ⟨b, off, rfl, hlt, fun i hi => ?_⟩
      rw [hlen] at hi
      rw [hc i (by omega)]
      congr 2
      simp [List.getD, hi]
theorem all64_of {zs : List Int} (h : ∀ z ∈ zs, (Lit.int .i64 z).wf = true) : All64 zs := by
  intro i
  rcases Nat.lt_or_ge i zs.length with h1 | h1
  · have hm : zs.getD i 0 ∈ zs := by
      simp only [List.getD, List.getElem?_eq_getElem h1, Option.getD_some]; exact List.getElem_mem h1
    exact bounds_i64 (h _ hm)
  · rw [show zs.getD i 0 = 0 from by simp [List.getD, List.getElem?_eq_none h1]]
    exact ⟨by omega, by omega⟩
theorem bounds_u64 {n : Int} (h : (Lit.int .u64 n).wf = true) : 0 ≤ n ∧ n < 18446744073709551616 := by
  simp [Lit.wf, IntKind.min, IntKind.max, IntKind.signed, IntKind.bits] at h
  omega
theorem nats_of {zs : List Int} (h : ∀ z ∈ zs, (Lit.int .u64 z).wf = true) : ∃ ws : List Nat, zs = ints ws ∧ Wide ws := by
  refine ⟨zs.map Int.toNat, ?_, ?_⟩
  · unfold ints
    rw [List.map_map]
    conv => lhs; rw [← List.map_id zs]
    apply List.map_congr_left
    intro z hz
    have := (bounds_u64 (h z hz)).1
    simp only [Function.comp_apply, id_eq]
    omega
  · intro i
    rcases Nat.lt_or_ge i zs.length with h1 | h1
    · have hm : zs.getD i 0 ∈ zs := by
        simp only [List.getD, List.getElem?_eq_getElem h1, Option.getD_some]; exact List.getElem_mem h1
      have h2 := (bounds_u64 (h _ hm)).2
      have h3 := (bounds_u64 (h _ hm)).1
      have e : (zs.map Int.toNat).getD i 0 = (zs.getD i 0).toNat := by simp [List.getD, List.getElem?_eq_getElem h1]
      rw [e]
      omega
    · have e : (zs.map Int.toNat).getD i 0 = 0 := by simp [List.getD, List.getElem?_eq_none h1]
      rw [e]
      omega
/-- A gapped array that came in by value. -/
theorem open_slots {r : Reach} {b0 : Nat} {t tw tk tc : TypeId} {f0 f1 f2 f3 f4 f5 : Field} {v : Value} {d : DataW H} {p : List MemPlace} (hs : P.underlying t = some (.struct #[f0, f1, f2, f3, f4, f5])) (hone : oneCellFields P #[f0, f1, f2, f3, f4, f5] = true) (hC : P.cellsOf t = 6)
    (t0 : P.underlying f0.type = some (.int .i64)) (t1 : P.underlying f1.type = some (.slice tw)) (t2 : P.underlying f2.type = some (.slice tk)) (t3 : P.underlying f3.type = some (.slice tk)) (t4 : P.underlying f4.type = some (.slice tc)) (t5 : P.underlying f5.type = some (.int .u64))
    (ew : P.underlying tw = some (.int .u64)) (cw : P.cellsOf tw = 1) (ek : P.underlying tk = some (.int .i64)) (ck : P.cellsOf tk = 1) (ec : P.underlying tc = some (.int .i64)) (cc : P.cellsOf tc = 1)
    (hv : Value.okWide P w r b0 t v) (h : DataW.Trod enc P w base spare held t v d p) :
    ∃ (s : Sl) (a : Ads), v = slv s a ∧ Held w s a ∧ s.Ok ∧ s.words.length ≤ maxLen ∧ s.keys.length ≤ maxLen ∧ s.vals.length ≤ maxLen ∧ s.counts.length ≤ maxLen := by
  obtain ⟨cs, rfl, hsz, hf⟩ := open_fields hs hone hC hv h
  obtain ⟨u0, y0, n0, g0, r0⟩ := hf 0 f0 rfl
  obtain ⟨u1, y1, n1, g1, r1⟩ := hf 1 f1 rfl
  obtain ⟨u2, y2, n2, g2, r2⟩ := hf 2 f2 rfl
  obtain ⟨u3, y3, n3, g3, r3⟩ := hf 3 f3 rfl
  obtain ⟨u4, y4, n4, g4, r4⟩ := hf 4 f4 rfl
  obtain ⟨u5, y5, n5, g5, r5⟩ := hf 5 f5 rfl
  have hcs : cs = #[u0, u1, u2, u3, u4, u5] := by
    obtain ⟨l⟩ := cs
    match l, hsz with
    | [c0, c1, c2, c3, c4, c5], _ =>
      simp at g0 g1 g2 g3 g4 g5
      subst g0 g1 g2 g3 g4 g5
      rfl
  subst hcs
  obtain ⟨z0, e0, _, w0⟩ := DataW.trod_int t0 r0
  obtain ⟨z5, e5, _, w5⟩ := DataW.trod_int t5 r5
  injection e0 with e0 _
  injection e5 with e5 _
  subst e0 e5
  obtain ⟨a1, c1, q1, rfl, l1, k1, m1, v1, x1⟩ := open_row t1 ew cw r1
  obtain ⟨a2, c2, q2, rfl, l2, k2, m2, v2, x2⟩ := open_row t2 ek ck r2
  obtain ⟨a3, c3, q3, rfl, l3, k3, m3, v3, x3⟩ := open_row t3 ek ck r3
  obtain ⟨a4, c4, q4, rfl, l4, k4, m4, v4, x4⟩ := open_row t4 ec cc r4
  obtain ⟨ws, rfl, hw⟩ := nats_of k1
  rw [ints_length] at m1 v1
  obtain ⟨hu0, hu1⟩ := bounds_u64 w5
  refine ⟨⟨z0, ws, q2, q3, q4, z5.toNat⟩, ⟨a1, a2, a3, a4, c1, c2, c3, c4⟩, ?_, ⟨l1, l2, l3, l4, ⟨m1, m2, m3, m4, v1, v2, v3, v4⟩⟩, ⟨bounds_i64 w0, hw, all64_of k2, all64_of k3, all64_of k4, by show z5.toNat < _; omega⟩, Nat.le_trans v1 x1, Nat.le_trans v2 x2, Nat.le_trans v3 x3, Nat.le_trans v4 x4⟩
  unfold slv
  rw [ints_length, show ((z5.toNat : Nat) : Int) = z5 from by omega]
/-- A pair that came in by value. -/
theorem open_pair {r : Reach} {b0 : Nat} {t : TypeId} {f0 f1 : Field} {v : Value} {d : DataW H} {p : List MemPlace} (hs : P.underlying t = some (.struct #[f0, f1])) (hone : oneCellFields P #[f0, f1] = true) (hC : P.cellsOf t = 2)
    (t0 : P.underlying f0.type = some (.int .i64)) (t1 : P.underlying f1.type = some (.int .i64)) (hv : Value.okWide P w r b0 t v) (h : DataW.Trod enc P w base spare held t v d p) :
    ∃ x : Int × Int, v = pv x ∧ In64 x.1 ∧ In64 x.2 := by
  obtain ⟨cs, rfl, hsz, hf⟩ := open_fields hs hone hC hv h
  obtain ⟨u0, y0, n0, g0, r0⟩ := hf 0 f0 rfl
  obtain ⟨u1, y1, n1, g1, r1⟩ := hf 1 f1 rfl
  have hcs : cs = #[u0, u1] := by
    obtain ⟨l⟩ := cs
    match l, hsz with
    | [c0, c1], _ =>
      simp at g0 g1
      subst g0 g1
      rfl
  subst hcs
  obtain ⟨z0, e0, _, w0⟩ := DataW.trod_int t0 r0
  obtain ⟨z1, e1, _, w1⟩ := DataW.trod_int t1 r1
  injection e0 with e0 _
  injection e1 with e1 _
  subst e0 e1
  exact ⟨(z0, z1), rfl, bounds_i64 w0, bounds_i64 w1⟩
/-- A list of pairs that came in. -/
theorem open_pairs {r : Reach} {b0 : Nat} {t e : TypeId} {f0 f1 : Field} {v : Value} {d : DataW H} {p : List MemPlace} (ht : P.underlying t = some (.slice e)) (hs : P.underlying e = some (.struct #[f0, f1])) (hone : oneCellFields P #[f0, f1] = true) (hC : P.cellsOf e = 2)
    (t0 : P.underlying f0.type = some (.int .i64)) (t1 : P.underlying f1.type = some (.int .i64)) (hv : Value.okWide P w r b0 t v) (h : DataW.Trod enc P w base spare held t v d p) :
    ∃ (a : Option Addr) (cap : Nat) (ps : List (Int × Int)), v = .slice a ps.length cap ∧ PLst w a ps ∧ (∀ k, In64 (ps.getD k (0, 0)).1 ∧ In64 (ps.getD k (0, 0)).2) ∧ (a = none → ps.length = 0 ∧ cap = 0) ∧ ps.length ≤ cap ∧ cap ≤ maxLen := by
  obtain ⟨a, len, cap, rfl⟩ := okWide_slice ht hv
  obtain ⟨fuel, hf⟩ := h
  rcases Go.Deep.open_slice ht hf with ⟨hcs, _⟩ | ⟨x, l, c, m, n, D, Pl, hcs, _, hl, hm, hmm, _, hi⟩
  · simp [Value.cells] at hcs
    obtain ⟨rfl, rfl, rfl⟩ := hcs
    refine ⟨none, 0, [], rfl, Or.inl rfl, fun k => ?_, fun _ => ⟨rfl, rfl⟩, Nat.le_refl _, Nat.zero_le _⟩
    simp only [List.getD_nil]
    exact ⟨⟨by omega, by omega⟩, ⟨by omega, by omega⟩⟩
  · simp [Value.cells] at hcs
    obtain ⟨rfl, rfl, rfl⟩ := hcs
    have hlm : len ≤ m := by rw [hmm]; split <;> omega
    have HH : ∀ i, ∃ q : Int × Int, i < m → (w.cell? (x.add (i * 2)) = some (.int .i64 q.1) ∧ w.cell? (x.add (i * 2 + 1)) = some (.int .i64 q.2) ∧ In64 q.1 ∧ In64 q.2) := by
      intro i
      by_cases him : i < m
      · obtain ⟨cs', hc, ht'⟩ := hi i him
        rw [hC] at hc
        obtain ⟨_, hcl, hat⟩ := World.cells?_some hc
        obtain ⟨ys, n', _, hy, hlen, hyl, hg⟩ := DataW.trod_struct hs ht'
        obtain ⟨o0, k0⟩ := hone_of hone 0 f0 rfl
        obtain ⟨o1, k1⟩ := hone_of hone 1 f1 rfl
        have g0 := hg 0 f0 rfl
        have g1 := hg 1 f1 rfl
        rw [o0, k0] at g0
        rw [o1, k1] at g1
        match cs', hcl with
        | [u0, u1], _ =>
          match ys, hyl with
          | [y0, y1], _ =>
            simp only [List.drop_zero, List.take_succ_cons, List.take_zero, List.drop_succ_cons] at g0 g1
            obtain ⟨z0, e0, _, w0⟩ := DataW.trod_int t0 g0
            obtain ⟨z1, e1, _, w1⟩ := DataW.trod_int t1 g1
            injection e0 with e0 _
            injection e1 with e1 _
            subst e0 e1
            have h0 := hat 0 (by omega)
            have h1 := hat 1 (by omega)
            rw [Go.Deep.add_add] at h0 h1
            exact ⟨(z0, z1), fun _ => ⟨h0, h1, bounds_i64 w0, bounds_i64 w1⟩⟩
      · exact ⟨(0, 0), fun h => absurd h him⟩
    obtain ⟨f, hfs⟩ := Classical.axiomOfChoice HH
    have hps : ((List.range len).map f).length = len := by simp
    have hgd : ∀ k, k < len → ((List.range len).map f).getD k (0, 0) = f k := fun k hk => by simp [List.getD, List.getElem?_range hk]
    refine ⟨some x, cap, (List.range len).map f, by rw [hps], ?_, ?_, fun e => (by cases e), by rw [hps]; exact hl, hm⟩
    · by_cases h0 : len = 0
      · left; subst h0; rfl
      · right
        have hc0 := (hfs 0 (by omega)).1
        obtain ⟨b, off, spot⟩ := x
        have hspot : spot = none := by simpa [Addr.add] using World.cell?_spot hc0
        subst hspot
        have hlt : b < w.heap.size := by
          rw [add_at] at hc0
          rcases Nat.lt_or_ge b w.heap.size with h2 | h2
          · exact h2
          · simp [World.cell?, Array.getElem?_eq_none h2] at hc0
        refine ⟨b, off, rfl, hlt, fun j hj => ?_⟩
        rw [pcells_length, hps] at hj
        have hj2 : j / 2 < len := by omega
        have hp := pcells_at ((List.range len).map f) (j / 2) (by rw [hps]; exact hj2)
        rw [hgd _ hj2] at hp
        have hq := hfs (j / 2) (by omega)
        rw [add_at, add_at] at hq
        rcases Nat.mod_two_eq_zero_or_one j with h2 | h2
        · have e : j = j / 2 * 2 := by omega
          rw [e, hp.1]; exact hq.1
        · have e : j = j / 2 * 2 + 1 := by omega
          rw [e, hp.2]; exact hq.2.1
    · intro k
      by_cases hk : k < len
      · rw [hgd k hk]; exact ⟨(hfs k (by omega)).2.2.1, (hfs k (by omega)).2.2.2⟩
      · rw [show ((List.range len).map f).getD k (0, 0) = (0, 0) from by simp [List.getD, List.getElem?_eq_none (show ((List.range len).map f).length ≤ k by rw [hps]; omega)]]
        exact ⟨⟨by omega, by omega⟩, ⟨by omega, by omega⟩⟩
end
end Go.Proofs.Ytephmejhglcdiaa
