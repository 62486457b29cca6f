/- What one number of a table says of itself (package handle: free, worn, mayBe), and the range over a table's numbers. -/
import Derived.Test.YtephmejhglcdiaaFn14
import Derived.Test.YtephmejhglcdiaaRefW01
import Derived.Test.YtephmejhglcdiaaRangeQ
import Derived.Test.YtephmejhglcdiaaRangeM
namespace Go.Proofs.Ytephmejhglcdiaa
open Go.RowKit Go.Shelf
attribute [local go_sem] Oper.semAt_some
set_option linter.unusedVariables false
set_option linter.unusedSimpArgs false

theorem hFree (g a : Int) (w : World) : Calls Try.prog 38 #[.agg #[.int .i64 g, .int .i64 a]] w fun e w' => e = .returned (.bool (a == -1)) ∧ Below w.heap.size w w' := by
  go_enter Try.func38, Try.ntmps38
  go_wp2
  go_ret
  exact ⟨rfl, (Below.refl _ _).alloc (Nat.le_refl _) _⟩
theorem hWorn (g a : Int) (w : World) : Calls Try.prog 46 #[.agg #[.int .i64 g, .int .i64 a]] w fun e w' => e = .returned (.bool (g == 2147483647)) ∧ Below w.heap.size w w' := by
  go_enter Try.func46, Try.ntmps46
  go_wp2
  go_ret
  exact ⟨rfl, (Below.refl _ _).alloc (Nat.le_refl _) _⟩
/-- Whether a number may be. -/
def numB (g a : Int) : Bool := decide (0 ≤ g) && decide (g ≤ 2147483647) && decide (-1 ≤ a) && (decide (a < 0) || decide (g ≠ 2147483647))
theorem num_fine (t : Ht) (i : Nat) : numB (Hn.g t i) (Hn.a t i) = Hn.fineB t i := rfl
set_option maxRecDepth 100000 in
set_option maxHeartbeats 1000000 in
theorem hMayBe (g a : Int) (w : World) : Calls Try.prog 36 #[.agg #[.int .i64 g, .int .i64 a]] w fun e w' => e = .returned (.bool (numB g a)) ∧ Below w.heap.size w w' := by
  have CF := Lib.hid (fun V => hFree g a V)
  have CW := Lib.hid (fun V => hWorn g a V)
  have BB := Lib.hid (fun o => (Below.refl w.heap.size w).alloc (Nat.le_refl _) o)
  by_cases h1 : 0 ≤ g
  · have k1 : decide (g ≥ 0) = true := by simpa using h1
    by_cases h2 : g ≤ 2147483647
    · have k2 : decide (g ≤ 2147483647) = true := by simpa using h2
      by_cases h3 : -1 ≤ a
      · have k3 : decide (a ≥ -1) = true := by simpa using h3
        by_cases h4 : a = -1
        · have k4 : (a == -1) = true := by simpa using h4
          have E := Lib.hid (show numB g a = true by unfold numB; simp; omega)
          clear h1 h2 h3 h4
          go_enter Try.func36, Try.ntmps36
          go_wp2_with fail
          refine (CF.out _).mono ?_
          rintro e w1 ⟨rfl, hb⟩
          have B1 := Lib.hid ((BB.out _).trans (hb.mono (BB.out _).size))
          clear hb
          go_wp2
          go_ret
          rw [E.out]
          exact ⟨rfl, B1.out⟩
        · have k4 : (a == -1) = false := by simpa using h4
          by_cases h5 : g = 2147483647
          · have k5 : (g == 2147483647) = true := by simpa using h5
            have E := Lib.hid (show numB g a = false by unfold numB; simp; omega)
            clear h1 h2 h3 h4 h5
            go_enter Try.func36, Try.ntmps36
            obtain ⟨w0, hw0⟩ : ∃ V, V = w.alloc (.cells #[.int .i64 g, .int .i64 a] 64) := ⟨_, rfl⟩
            go_wp2_with fail
            refine (CF.out _).mono ?_
            rintro e w1 ⟨rfl, hb⟩
            have B1 := Lib.hid ((BB.out _).trans (hb.mono (BB.out _).size))
            have p0 := show w1.cell? ⟨w.heap.size, 0, none⟩ = some (.int .i64 g) from (PBox.of_block (p := (g, a)) (World.alloc_heap_new w _)).below hb |>.c0
            have p1 := show w1.cell? ⟨w.heap.size, 1, none⟩ = some (.int .i64 a) from (PBox.of_block (p := (g, a)) (World.alloc_heap_new w _)).below hb |>.c1
            clear hb
            go_wp2_with fail
            refine (CW.out _).mono ?_
            rintro e w2 ⟨rfl, hb⟩
            have B2 := Lib.hid (B1.out.trans (hb.mono B1.out.size))
            clear hb p0 p1
            go_wp2
            go_ret
            rw [E.out]
            exact ⟨rfl, B2.out⟩
          · have k5 : (g == 2147483647) = false := by simpa using h5
            have E := Lib.hid (show numB g a = true by unfold numB; simp; omega)
            clear h1 h2 h3 h4 h5
            go_enter Try.func36, Try.ntmps36
            go_wp2_with fail
            refine (CF.out _).mono ?_
            rintro e w1 ⟨rfl, hb⟩
            have B1 := Lib.hid ((BB.out _).trans (hb.mono (BB.out _).size))
            have p0 := show w1.cell? ⟨w.heap.size, 0, none⟩ = some (.int .i64 g) from (PBox.of_block (p := (g, a)) (World.alloc_heap_new w _)).below hb |>.c0
            have p1 := show w1.cell? ⟨w.heap.size, 1, none⟩ = some (.int .i64 a) from (PBox.of_block (p := (g, a)) (World.alloc_heap_new w _)).below hb |>.c1
            clear hb
            go_wp2_with fail
            refine (CW.out _).mono ?_
            rintro e w2 ⟨rfl, hb⟩
            have B2 := Lib.hid (B1.out.trans (hb.mono B1.out.size))
            clear hb p0 p1
            go_wp2
            go_ret
            rw [E.out]
            exact ⟨rfl, B2.out⟩
      · have k3 : decide (a ≥ -1) = false := by simpa using h3
        have E := Lib.hid (show numB g a = false by unfold numB; simp; omega)
        clear h1 h2 h3
        go_enter Try.func36, Try.ntmps36
        go_wp2
        go_ret
        rw [E.out]
        exact ⟨rfl, BB.out _⟩
    · have k2 : decide (g ≤ 2147483647) = false := by simpa using h2
      have E := Lib.hid (show numB g a = false by unfold numB; simp; omega)
      clear h1 h2
      go_enter Try.func36, Try.ntmps36
      go_wp2
      go_ret
      rw [E.out]
      exact ⟨rfl, BB.out _⟩
  · have k1 : decide (g ≥ 0) = false := by simpa using h1
    have E := Lib.hid (show numB g a = false by unfold numB; simp; omega)
    clear h1
    go_enter Try.func36, Try.ntmps36
    go_wp2
    go_ret
    rw [E.out]
    exact ⟨rfl, BB.out _⟩

/-- What the range over numbers reads: the box of the table and its rows. -/
structure SeenH (w : World) (b : Nat) (t : Ht) (A : HAds) : Prop where
  box : HBox w b t A
  held : HHeld w t A
theorem SeenH.below {w w' : World} {b : Nat} {t : Ht} {A : HAds} (h : SeenH w b t A) (hb : Below w.heap.size w w') : SeenH w' b t A := ⟨h.box.below hb, h.held.below hb⟩
/-- The blocks in which that lies. -/
structure ZokH (Z : Nat → Prop) (t : Ht) (A : HAds) (b : Nat) : Prop where
  zb : Z b
  zg : t.gens ≠ [] → ∀ p, A.g = some p → Z p.block
  za : t.ats ≠ [] → ∀ p, A.a = some p → Z p.block
theorem Kept.lstH {Z : Nat → Prop} {A B : World} (h : Kept Z A B) {k : IntKind} {a : Option Addr} {zs : List Int} (hl : Lst k A a zs) (ha : zs ≠ [] → ∀ p, a = some p → Z p.block) : Lst k B a zs := by
  by_cases hz : zs = []
  · exact Or.inl hz
  · exact h.lst hl (ha hz)
theorem lst_ltH {w : World} {k : IntKind} {a : Option Addr} {zs : List Int} (hl : Lst k w a zs) (hz : zs ≠ []) : ∀ p, a = some p → p.block < w.heap.size := fun p hp => by
  rcases hl with h0 | ⟨b, off, h1, h2, _⟩
  · exact absurd h0 hz
  · rw [hp] at h1; cases h1; exact h2
theorem SeenH.kept {Z : Nat → Prop} {V W : World} {b : Nat} {t : Ht} {A : HAds} (h : SeenH V b t A) (hz : ZokH Z t A b) (hk : Kept Z V W) : SeenH W b t A :=
  ⟨⟨Nat.lt_of_lt_of_le h.box.lt hk.size, (hk.cell (p := ⟨b, 0, none⟩) hz.zb).trans h.box.c0, (hk.cell (p := ⟨b, 1, none⟩) hz.zb).trans h.box.c1, (hk.frozen (p := ⟨b, 0, none⟩) hz.zb).trans h.box.f0, (hk.frozen (p := ⟨b, 1, none⟩) hz.zb).trans h.box.f1⟩, ⟨hk.lstH h.held.gens hz.zg, hk.lstH h.held.ats hz.za, h.held.caps⟩⟩
def NumsPost (t : Ht) (A : HAds) (w : World) (e : Ending) (w' : World) : Prop :=
  ∃ b, e = .returned (.func (.func 47) #[] #[.pointer (some ⟨b, 0, none⟩)]) ∧ HBox w' b t A ∧ w.heap.size ≤ b ∧ Below w.heap.size w w'
theorem hNumbers (t : Ht) (A : HAds) (w : World) : Calls Try.prog 35 #[hv t A] w (NumsPost t A w) := by
  have HB := Lib.hid (HBox.new w t A 24)
  unfold hCells at HB
  unfold hv
  go_enter Try.func35, Try.ntmps35
  go_wp2
  go_ret
  exact ⟨_, rfl, HB.out, Nat.le_refl _, (Below.refl _ _).alloc (Nat.le_refl _) _⟩
theorem range_pre : ∀ {m n : Nat}, m ≤ n → List.range m <+: List.range n
  | m, 0, h => by obtain rfl : m = 0 := by omega
                  exact List.prefix_refl _
  | m, n + 1, h => by
    by_cases e : m = n + 1
    · rw [e]; exact List.prefix_refl _
    · rw [List.range_succ]; exact (range_pre (by omega : m ≤ n)).trans (List.prefix_append _ _)
theorem range_last {n : Nat} {pre : List Nat} {x : Nat} (h : pre ++ [x] <+: List.range n) : pre = List.range x ∧ x < n := by
  obtain ⟨r, hr⟩ := h
  have hl := congrArg List.length hr
  simp only [List.length_append, List.length_cons, List.length_nil, List.length_range] at hl
  have h1 : ∀ i, i < pre.length → pre[i]? = some i := fun i hi => by
    have := congrArg (fun l => l[i]?) hr
    simp only [List.append_assoc, List.getElem?_append_left hi] at this
    rw [this, List.getElem?_range (by omega)]
  have h2 : x = pre.length := by
    have := congrArg (fun l => l[pre.length]?) hr
    simp only [List.append_assoc, List.getElem?_append_right (Nat.le_refl _), Nat.sub_self] at this
    rw [List.getElem?_range (by omega)] at this
    simpa using this
  refine ⟨?_, by omega⟩
  apply List.ext_getElem?
  intro i
  by_cases hi : i < pre.length
  · rw [h1 i hi, List.getElem?_range (by omega)]
  · rw [List.getElem?_eq_none (by omega), List.getElem?_eq_none (by simp; omega)]
/-- Between two rounds of the iterator. -/
def NumsJ (t : Ht) (A : HAds) (b : Nat) (J : List Nat → World → Prop) (i : Value) (wr : World) : Prop :=
  ∃ k : Nat, k ≤ t.gens.length ∧ i = .int .i64 k ∧ SeenH wr b t A ∧ J (List.range k) wr
set_option maxRecDepth 100000 in
set_option maxHeartbeats 2000000 in
theorem nums_seq (Z : Nat → Prop) (t : Ht) (A : HAds) (b : Nat) (w : World) (hs : SeenH w b t A) (hZ : ZokH Z t A b) (hZs : ∀ k, Z k → k < w.heap.size) (hl : t.ats.length = t.gens.length) (hn : t.gens.length ≤ 65536) :
    SeqQ (fun x : Nat => #[.int .i64 x, .agg #[.int .i64 (Hn.g t x), .int .i64 (Hn.a t x)]]) Try.prog 47 #[.pointer (some ⟨b, 0, none⟩)] Z (List.range t.gens.length) w := fun l J Jx W hW hJ hJx hY h0 => by
  have HS := Lib.hid (hs.kept hZ (Kept.of_below hW hZs))
  have HZ := Lib.hid hZ
  have HZS := Lib.hid (fun k (h : Z k) => Nat.lt_of_lt_of_le (hZs k h) hW.size)
  have HY := Lib.hid hY
  have HL := Lib.hid hl
  have h0' : (fun pre wr => W.heap.size ≤ wr.heap.size ∧ J pre wr) [] W := ⟨Nat.le_refl _, h0⟩
  obtain ⟨n, hnn⟩ : ∃ n, n = t.gens.length := ⟨_, rfl⟩
  have HNN := Lib.hid hnn
  clear hs hZ hZs hY hJ hJx hW hl h0
  have P0 := HS.out.box.c0
  have P1 := HS.out.box.c1
  rw [← hnn] at P0 hn
  clear hnn
  refine callsIn_of_wp Try.func47 rfl trivial ?_ rfl
  simp only [Try.ntmps47, List.size_toArray, List.length_cons, List.length_nil, Nat.reduceAdd, Nat.reduceSub, Array.replicate_succ, Array.replicate_zero, List.push_toArray, List.append_toArray, List.nil_append, List.cons_append]
  gi_wp2
  clear P0 P1
  gi_loopw [8] (NumsJ t A b (fun pre wr => W.heap.size ≤ wr.heap.size ∧ J pre wr)) (fun i _ => t.gens.length - (intOf i).toNat)
  case atStart => exact ⟨0, Nat.zero_le _, rfl, HS.out, h0'⟩
  case round =>
    obtain ⟨k, hk, rfl, hsr, hszr, hJr⟩ := hrel
    have HR := Lib.hid hsr
    have HQ := Lib.hid hJr
    have HK := Lib.hid hk
    clear hsr hJr
    rw [← HNN.out] at hk
    by_cases hlt : k < n
    · have e1 := HR.out.box.c1
      rw [HL.out, ← HNN.out] at e1
      obtain ⟨b1, o1, hA1, _, c1⟩ := HR.out.held.gens.cell (i := k) (by have := HNN.out; omega)
      obtain ⟨b2, o2, hA2, _, c2⟩ := HR.out.held.ats.cell (i := k) (by rw [HL.out]; have := HNN.out; omega)
      rw [hA2] at e1
      clear hA2
      have HX2 := Lib.hid (show List.range (k + 1) <+: List.range t.gens.length from range_pre (by have := HNN.out; omega))
      rw [hA1]
      obtain ⟨fn, tmps, assign, body, hy, hR⟩ := HY.out (List.range k) k wr HQ.out (by rw [← List.range_succ]; exact HX2.out)
      replace c1 : wr.cell? ⟨b1, o1 + k, none⟩ = some (.int .i64 (Hn.g t k)) := c1
      replace c2 : wr.cell? ⟨b2, o2 + k, none⟩ = some (.int .i64 (Hn.a t k)) := c2
      obtain ⟨x, hx⟩ : ∃ x, Hn.g t k = x := ⟨_, rfl⟩
      obtain ⟨y, hy'⟩ : ∃ y, Hn.a t k = y := ⟨_, rfl⟩
      rw [hx] at c1 hy
      rw [hy'] at c2 hy
      clear hx hy' hA1
      gi_wp2
      refine hR.mono ?_
      rintro e W3 (⟨rfl, hJ3, hk3⟩ | ⟨rfl, hJx3⟩)
      · have HS3 := Lib.hid (HR.out.kept HZ.out hk3)
        have sz3 := Nat.le_trans hszr hk3.size
        have HJ3 := Lib.hid hJ3
        clear hk3 hJ3 c1 c2 e1 hR hy
        gi_wp2
        go_roundw
        case rel => exact ⟨k + 1, by have := HNN.out; omega, by go_num, HS3.out, sz3, by rw [List.range_succ]; exact HJ3.out⟩
        case measure => have := HNN.out; simp [intOf]; omega
      · gi_wp2
        refine bodyPost_ret (results_none rfl _ _ _) rfl ?_
        exact ⟨⟨_, rfl⟩, .inr ⟨List.range k ++ [k], by rw [← List.range_succ]; exact HX2.out, hJx3⟩⟩
    · gi_wp2
      go_end0
      exact ⟨⟨_, rfl⟩, .inl (by rw [show t.gens.length = k by have := HNN.out; have := HK.out; omega]; exact HQ.out)⟩
end Go.Proofs.Ytephmejhglcdiaa
