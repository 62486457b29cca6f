/- The walk of the law SlotsNames: the examples of package slots, call by call. -/
import Derived.Test.YtgngipkfbckhpaaDoorM20
import Derived.Test.YtgngipkfbckhpaaDoorM18
import Derived.Test.YtgngipkfbckhpaaDoorM21
import Derived.Deep.RegionHeld3
namespace Go.Proofs.YtgngipkfbckhpaaDoor.slotsNames
open Go.RowKit
set_option linter.unusedVariables false
set_option linter.unusedSimpArgs false

def t0 : Sl := Sl.newS 4 4
def t1 : Sl := t0.layS 0 (-9, 1)
def t2 : Sl := t1.moveS 0 3
def t3 : Sl := t2.layS 1 (2, 0)
def t4 : Sl := t3.moveS 1 1
def t5 : Sl := t3.fillS 0 4 [0, 3] [(8, 0), (9, 0)]
/-- What the examples tell. -/
structure Told : Prop where
  n1 : Sl.newE 4 12 = 2
  n2 : Sl.newE 6 12 = 2
  n3 : Sl.newE 2 4 = 2
  n4 : Sl.newE 64 32 = 2
  n5 : Sl.newE 4 4 = 0
  l1 : t0.layE 0 = 0
  a1 : t1.atE 1 = 6
  a2 : t1.atE 4 = 2
  v1 : t1.atV 1 = (0, 0)
  v2 : t1.atV 4 = (0, 0)
  c1 : t1.atE 2 = 6
  m1 : t1.moveE 0 3 = 0
  l2 : t2.layE 1 = 0
  m2 : t3.moveE 1 3 = 9
  m3 : t3.moveE 1 1 = 0
  f1 : t3.fillE 0 4 [1, 1] 2 = 2
  f2 : t3.fillE 0 4 [0, 3] 2 = 0
  d2 : t2.laid = 2
  d4 : t4.laid = 4
  d5 : t5.laid = 5
  k5 : t5.counts = [2]
  b1 : Sl.chk ⟨0, [], [], [], [], 0⟩ = 8
  b2 : Sl.chk ⟨4, [1], [0, 0, 0, 0], [0, 0, 0, 0], [0], 0⟩ = 8
  b3 : Sl.chk ⟨4, [0], [1, 0, 0, 0], [0, 0, 0, 0], [0], 0⟩ = 8
set_option maxRecDepth 100000 in
theorem told : Told := by constructor <;> decide +kernel
theorem i64s {z : Int} (h1 : -1000 ≤ z) (h2 : z ≤ 1000) : In64 z := ⟨by omega, by omega⟩
theorem ok0 : t0.Ok ∧ t0.Short := ⟨ok_new (i64s (by decide) (by decide)), short_new⟩
theorem ok1 : t1.Ok ∧ t1.Short := ⟨ok_lay ok0.1 ok0.2 _ (i64s (by decide) (by decide)) (i64s (by decide) (by decide)), short_lay ok0.2 _ _⟩
theorem ok2 : t2.Ok ∧ t2.Short := ⟨ok_move ok1.1 ok1.2 _ _, short_move ok1.2 _ _⟩
theorem ok3 : t3.Ok ∧ t3.Short := ⟨ok_lay ok2.1 ok2.2 _ (i64s (by decide) (by decide)) (i64s (by decide) (by decide)), short_lay ok2.2 _ _⟩
theorem lst_two (w : World) (x y : Int) (t : TypeId) : Lst .i64 (w.alloc (.cells #[.int .i64 x, .int .i64 y] t)) (some ⟨w.heap.size, 0, none⟩) [x, y] :=
  have p := PBox.new w (x, y) t
  Or.inr ⟨w.heap.size, 0, rfl, p.lt, fun i hi => by
    match i, hi with
    | 0, _ => exact p.c0
    | 1, _ => exact p.c1⟩
theorem step_pairs2 {P : Program} {T E : TypeId} {bytes : Nat} (hE : Elem P T E (.agg #[.int .i64 0, .int .i64 0]) 2 bytes) {w : World} {ops : Array Oper} {o : Oper} {act : Act} {K : Act → World → Prop} {Q : Exit → Act → World → Prop} {F : Prop} (hg : o.guard = none) (l c : Operand)
    (hop : o.op = Op.makeSlice T l c) (hl : act.eval l = .int .i64 2) (hc : act.eval c = .int .i64 2) (b2 : bytes * 2 ≤ 281474976710656)
    (h : ∀ g w', g = w.heap.size → g < w'.heap.size → PLst w' (some ⟨g, 0, none⟩) [(0, 0), (0, 0)] → Below g w w' → K (act.put o.dst (.slice (some ⟨g, 0, none⟩) 2 2)) w') : if Region.wanted o (yielded ops act.tmps) = true then Oper.wp P o act w K Q else F := by
  have hw : Region.wanted o (yielded ops act.tmps) = true := by simp [Region.wanted, hg]
  rw [if_pos hw]
  obtain ⟨i0, hi0, hz0, hz1, hz2⟩ := hE.info
  obtain ⟨w', hrun, r1, r2⟩ := run_make_full (P := P) w w.heap.size T E i0 (.agg #[.int .i64 0, .int .i64 0]) 2 hE.und hi0 hz0 hz1 .i64 .i64 2 (by rw [hz2]; exact b2) (by unfold maxLen; omega) (Nat.le_refl _)
  have e : (madeCells (Value.agg #[.int .i64 0, .int .i64 0]).cells (2 * 2)).toList = pcells [(0, 0), (0, 0)] := by first | (simp [madeCells, Value.cells, pcells]; done) | (simp [madeCells, Value.cells, pcells, List.range_succ]; done) | (unfold madeCells; kernel_rfl) | (simp [madeCells, Value.cells, pcells]; decide)
  rw [e] at r1
  have hlt := (World.ownsRow.lt r1 w.heap.size rfl).2
  obtain ⟨A', c', hv, hC, _⟩ := own_cells r1
  injection hv with e1 _ _
  subst e1
  unfold Oper.wp
  simp [execOp, hop, hl, hc] at hrun ⊢
  simp [hrun, Result.andThen]
  exact h _ w' rfl hlt hC ((Below.refl _ _).grown r2 (Nat.le_refl _) (fun k e => by cases e))
theorem plst_two (w : World) (x y z u : Int) (t : TypeId) : PLst (w.alloc (.cells #[.int .i64 x, .int .i64 y, .int .i64 z, .int .i64 u] t)) (some ⟨w.heap.size, 0, none⟩) [(x, y), (z, u)] :=
  Or.inr ⟨w.heap.size, 0, rfl, by simp, fun i hi => by
    match i, hi with
    | 0, _ => simp [pcells]
    | 1, _ => simp [pcells]
    | 2, _ => simp [pcells]
    | 3, _ => simp [pcells]⟩
theorem lst_one (k : IntKind) (w : World) (x : Int) (t : TypeId) : Lst k (w.alloc (.cells #[.int k x] t)) (some ⟨w.heap.size, 0, none⟩) [x] :=
  Or.inr ⟨w.heap.size, 0, rfl, by simp, fun i hi => by
    match i, hi with
    | 0, _ => simp⟩
theorem lst_four (w : World) (x y z u : Int) (t : TypeId) : Lst .i64 (w.alloc (.cells #[.int .i64 x, .int .i64 y, .int .i64 z, .int .i64 u] t)) (some ⟨w.heap.size, 0, none⟩) [x, y, z, u] :=
  Or.inr ⟨w.heap.size, 0, rfl, by simp, fun i hi => by
    match i, hi with
    | 0, _ => simp
    | 1, _ => simp
    | 2, _ => simp
    | 3, _ => simp⟩
/-- As step_zeros, for an operation that is wanted whatever guards it. -/
theorem step_zerosG {P : Program} {T E : TypeId} {k : IntKind} {bytes : Nat} (hE : Elem P T E (.int k 0) 1 bytes) {w : World} {ops : Array Oper} {o : Oper} {act : Act} {K : Act → World → Prop} {Q : Exit → Act → World → Prop} {F : Prop} (hw : Region.wanted o (yielded ops act.tmps) = true) (l c : Operand)
    (hop : o.op = Op.makeSlice T l c) (n : Nat) (hl : act.eval l = .int .i64 (n : Int)) (hc : act.eval c = .int .i64 (n : Int)) (b2 : bytes * n ≤ 281474976710656) (b3 : n ≤ maxLen)
    (h : ∀ g w', g = w.heap.size → g < w'.heap.size → New k w' g (some ⟨g, 0, none⟩) (List.replicate n 0) → Below g w w' → K (act.put o.dst (.slice (some ⟨g, 0, none⟩) n n)) w') : if Region.wanted o (yielded ops act.tmps) = true then Oper.wp P o act w K Q else F := by
  rw [if_pos hw]
  obtain ⟨i0, hi0, hz0, hz1, hz2⟩ := hE.info
  obtain ⟨w', hrun, r1, r2⟩ := run_make_full (P := P) w w.heap.size T E i0 (.int k 0) 1 hE.und hi0 hz0 hz1 .i64 .i64 n (by rw [hz2]; exact b2) b3 (Nat.le_refl _)
  have e : (madeCells (Value.int k 0).cells (n * 1)).toList = (List.replicate n (0 : Int)).map (Value.int k) := by
    rw [show (Value.int k 0).cells = #[Value.int k 0] from rfl, made_one, List.map_replicate]
  rw [e] at r1
  have hlt := (World.ownsRow.lt r1 w.heap.size rfl).2
  unfold Oper.wp
  simp [execOp, hop, hl, hc, hrun, Result.andThen]
  exact h _ w' rfl hlt (New.of_own r1) ((Below.refl _ _).grown r2 (Nat.le_refl _) (fun k e => by cases e))
theorem step_lW (x : Int) {w : World} {ops : Array Oper} {o : Oper} {act : Act} {K : Act → World → Prop} {Q : Exit → Act → World → Prop} {F : Prop} (hw : Region.wanted o (yielded ops act.tmps) = true)
    (hop : o.op = Op.buildSlice 22 1 #[(0, .const (.int .u64 x))])
    (h : ∀ g w', g = w.heap.size → Lst .u64 w' (some ⟨g, 0, none⟩) [x] → Below w.heap.size w w' → K (act.put o.dst (.slice (some ⟨g, 0, none⟩) 1 1)) w') : if Region.wanted o (yielded ops act.tmps) = true then Oper.wp Tryd.prog o act w K Q else F := by
  have h' := h w.heap.size (w.alloc (.cells #[.int .u64 x] 25)) rfl (lst_one .u64 w x 25) ((Below.refl _ _).alloc (Nat.le_refl _) _)
  clear h
  rw [if_pos hw]
  obtain ⟨d, op, ty, pos, af, gd⟩ := o
  dsimp only at hop
  subst hop
  go_simp
  cases d <;> exact h'
theorem step_lI (x : Int) {w : World} {ops : Array Oper} {o : Oper} {act : Act} {K : Act → World → Prop} {Q : Exit → Act → World → Prop} {F : Prop} (hw : Region.wanted o (yielded ops act.tmps) = true)
    (hop : o.op = Op.buildSlice 24 1 #[(0, .const (.int .i64 x))])
    (h : ∀ g w', g = w.heap.size → Lst .i64 w' (some ⟨g, 0, none⟩) [x] → Below w.heap.size w w' → K (act.put o.dst (.slice (some ⟨g, 0, none⟩) 1 1)) w') : if Region.wanted o (yielded ops act.tmps) = true then Oper.wp Tryd.prog o act w K Q else F := by
  have h' := h w.heap.size (w.alloc (.cells #[.int .i64 x] 3)) rfl (lst_one .i64 w x 3) ((Below.refl _ _).alloc (Nat.le_refl _) _)
  clear h
  rw [if_pos hw]
  obtain ⟨d, op, ty, pos, af, gd⟩ := o
  dsimp only at hop
  subst hop
  go_simp
  cases d <;> exact h'
theorem step_l4 (x y z u : Int) {w : World} {ops : Array Oper} {o : Oper} {act : Act} {K : Act → World → Prop} {Q : Exit → Act → World → Prop} {F : Prop} (hw : Region.wanted o (yielded ops act.tmps) = true)
    (hop : o.op = Op.buildSlice 23 4 #[(0, .const (.int .i64 x)), (1, .const (.int .i64 y)), (2, .const (.int .i64 z)), (3, .const (.int .i64 u))])
    (h : ∀ g w', g = w.heap.size → Lst .i64 w' (some ⟨g, 0, none⟩) [x, y, z, u] → Below w.heap.size w w' → K (act.put o.dst (.slice (some ⟨g, 0, none⟩) 4 4)) w') : if Region.wanted o (yielded ops act.tmps) = true then Oper.wp Tryd.prog o act w K Q else F := by
  have h' := h w.heap.size (w.alloc (.cells #[.int .i64 x, .int .i64 y, .int .i64 z, .int .i64 u] 2)) rfl (lst_four w x y z u 2) ((Below.refl _ _).alloc (Nat.le_refl _) _)
  clear h
  rw [if_pos hw]
  obtain ⟨d, op, ty, pos, af, gd⟩ := o
  dsimp only at hop
  subst hop
  go_simp
  cases d <;> exact h'
/-- Four lists that were made, in whatever order. -/
def Four (VC : World) (ws ks vs cs : List Int) (g1 g2 g3 g4 : Nat) (V : World) : Prop := Lst .u64 V (some ⟨g1, 0, none⟩) ws ∧ Lst .i64 V (some ⟨g2, 0, none⟩) ks ∧ Lst .i64 V (some ⟨g3, 0, none⟩) vs ∧ Lst .i64 V (some ⟨g4, 0, none⟩) cs ∧ Below VC.heap.size VC V
/-- What stands behind the makes is walked once, whatever their order. -/
theorem by_rest {X : Nat → Nat → Nat → Nat → World → Prop} {B : Nat → Nat → Nat → Nat → World → Prop} {G : Prop} (main : (∀ g1 g2 g3 g4 V, B g1 g2 g3 g4 V → X g1 g2 g3 g4 V) → G) (rest : ∀ g1 g2 g3 g4 V, B g1 g2 g3 g4 V → X g1 g2 g3 g4 V) : G := main rest
theorem by_state {P : Program} {md : Region.Mode} {ops : Array Oper} {Q : Exit → Act → World → Prop} {S : World → Prop} {f : Nat} {L1 L2 : Array Bool} {a1 a2 : Act} {w : World} (e : L1 = L2) (d : a1 = a2) (h : wpAnyH P md ops Q S f L1 a1 w) : wpAnyH P md ops Q S f L2 a2 w := e ▸ d ▸ h
theorem held_lit (V : World) (g1 g2 g3 g4 : Nat) (ws : List Nat) (ks vs cs : List Int) (h1 : Lst .u64 V (some ⟨g1, 0, none⟩) (ints ws)) (h2 : Lst .i64 V (some ⟨g2, 0, none⟩) ks) (h3 : Lst .i64 V (some ⟨g3, 0, none⟩) vs) (h4 : Lst .i64 V (some ⟨g4, 0, none⟩) cs) :
    Held V ⟨4, ws, ks, vs, cs, 0⟩ ⟨some ⟨g1, 0, none⟩, some ⟨g2, 0, none⟩, some ⟨g3, 0, none⟩, some ⟨g4, 0, none⟩, ws.length, ks.length, vs.length, cs.length⟩ :=
  ⟨h1, h2, h3, h4, ⟨fun e => by (cases e), fun e => by (cases e), fun e => by (cases e), fun e => by (cases e), Nat.le_refl _, Nat.le_refl _, Nat.le_refl _, Nat.le_refl _⟩⟩
theorem all64_lit {zs : List Int} (h : ∀ z ∈ zs, In64 z) : All64 zs := by
  intro i
  rcases Nat.lt_or_ge i zs.length with h1 | h1
  · have hm : zs.getD i 0 ∈ zs := by
      simp only [List.getD, List.getElem?_eq_getElem h1, Option.getD_some]; exact List.getElem_mem h1
    exact h _ hm
  · rw [show zs.getD i 0 = 0 from by simp [List.getD, List.getElem?_eq_none h1]]
    exact ⟨by omega, by omega⟩
theorem wide_lit {ws : List Nat} (h : ∀ z ∈ ws, z < 18446744073709551616) : Wide ws := by
  intro i
  rcases Nat.lt_or_ge i ws.length with h1 | h1
  · have hm : ws.getD i 0 ∈ ws := by
      simp only [List.getD, List.getElem?_eq_getElem h1, Option.getD_some]; exact List.getElem_mem h1
    exact h _ hm
  · rw [show ws.getD i 0 = 0 from by simp [List.getD, List.getElem?_eq_none h1]]
    omega
theorem ok_lit (ws : List Nat) (ks vs cs : List Int) (h1 : ∀ z ∈ ws, z < 18446744073709551616) (h2 : ∀ z ∈ ks, In64 z) (h3 : ∀ z ∈ vs, In64 z) (h4 : ∀ z ∈ cs, In64 z) : (Sl.mk 4 ws ks vs cs 0).Ok :=
  ⟨⟨by show (-9223372036854775808 : Int) ≤ 4; omega, by show (4 : Int) ≤ 9223372036854775807; omega⟩, wide_lit h1, all64_lit h2, all64_lit h3, all64_lit h4, by show 0 < _; omega⟩
theorem bad1 (g1 g2 g3 g4 : Nat) (V : World) (hT : Tab V) (h1 : Lst .u64 V (some ⟨g1, 0, none⟩) [1]) (h2 : Lst .i64 V (some ⟨g2, 0, none⟩) [0, 0, 0, 0]) (h3 : Lst .i64 V (some ⟨g3, 0, none⟩) [0, 0, 0, 0]) (h4 : Lst .i64 V (some ⟨g4, 0, none⟩) [0]) :
    Calls Tryd.prog 11 #[.agg #[.int .i64 4, .slice (some ⟨g1, 0, none⟩) 1 1, .slice (some ⟨g2, 0, none⟩) 4 4, .slice (some ⟨g3, 0, none⟩) 4 4, .slice (some ⟨g4, 0, none⟩) 1 1, .int .u64 0]] V fun e w' => e = .returned (.int .i64 8) ∧ Below V.heap.size V w' := by
  have := sCheck ⟨4, [1], [0, 0, 0, 0], [0, 0, 0, 0], [0], 0⟩ _ V (held_lit V g1 g2 g3 g4 [1] [0, 0, 0, 0] [0, 0, 0, 0] [0] h1 h2 h3 h4) (ok_lit _ _ _ _ (by simp) (by simp [In64]) (by simp [In64]) (by simp [In64])) ⟨by simp, by simp, by simp, by simp⟩ hT
  rw [told.b2] at this
  exact this
theorem bad2 (g1 g2 g3 g4 : Nat) (V : World) (hT : Tab V) (h1 : Lst .u64 V (some ⟨g1, 0, none⟩) [0]) (h2 : Lst .i64 V (some ⟨g2, 0, none⟩) [1, 0, 0, 0]) (h3 : Lst .i64 V (some ⟨g3, 0, none⟩) [0, 0, 0, 0]) (h4 : Lst .i64 V (some ⟨g4, 0, none⟩) [0]) :
    Calls Tryd.prog 11 #[.agg #[.int .i64 4, .slice (some ⟨g1, 0, none⟩) 1 1, .slice (some ⟨g2, 0, none⟩) 4 4, .slice (some ⟨g3, 0, none⟩) 4 4, .slice (some ⟨g4, 0, none⟩) 1 1, .int .u64 0]] V fun e w' => e = .returned (.int .i64 8) ∧ Below V.heap.size V w' := by
  have := sCheck ⟨4, [0], [1, 0, 0, 0], [0, 0, 0, 0], [0], 0⟩ _ V (held_lit V g1 g2 g3 g4 [0] [1, 0, 0, 0] [0, 0, 0, 0] [0] h1 h2 h3 h4) (ok_lit _ _ _ _ (by simp) (by simp [In64]) (by simp [In64]) (by simp [In64])) ⟨by simp, by simp, by simp, by simp⟩ hT
  rw [told.b3] at this
  exact this
theorem bad0 (V : World) (hT : Tab V) :
    Calls Tryd.prog 11 #[.agg #[.int .i64 0, .slice none 0 0, .slice none 0 0, .slice none 0 0, .slice none 0 0, .int .u64 0]] V fun e w' => e = .returned (.int .i64 8) ∧ Below V.heap.size V w' := by
  have := sCheck ⟨0, [], [], [], [], 0⟩ ⟨none, none, none, none, 0, 0, 0, 0⟩ V ⟨Or.inl rfl, Or.inl rfl, Or.inl rfl, Or.inl rfl, ⟨fun _ => ⟨rfl, rfl⟩, fun _ => ⟨rfl, rfl⟩, fun _ => ⟨rfl, rfl⟩, fun _ => ⟨rfl, rfl⟩, Nat.le_refl _, Nat.le_refl _, Nat.le_refl _, Nat.le_refl _⟩⟩
    ⟨⟨by show (-9223372036854775808 : Int) ≤ 0; omega, by show (0 : Int) ≤ 9223372036854775807; omega⟩, wide_lit (by simp), all64_lit (by simp), all64_lit (by simp), all64_lit (by simp), by show 0 < _; omega⟩ ⟨by simp, by simp, by simp, by simp⟩ hT
  rw [told.b1] at this
  exact this
set_option maxRecDepth 100000 in
set_option maxHeartbeats 16000000 in
theorem walk (w : World) (hT : Tab w) :
    Calls Tryd.prog 3 #[] w fun e w' => e = .returned (.bool true) ∧ Below w.heap.size w w' := by
  have CN1 := Lib.hid (fun V => sNew 4 12 V (i64s (by decide) (by decide)) (i64s (by decide) (by decide)))
  rw [told.n1] at CN1
  have CN2 := Lib.hid (fun V => sNew 6 12 V (i64s (by decide) (by decide)) (i64s (by decide) (by decide)))
  rw [told.n2] at CN2
  have CN3 := Lib.hid (fun V => sNew 2 4 V (i64s (by decide) (by decide)) (i64s (by decide) (by decide)))
  rw [told.n3] at CN3
  have CN4 := Lib.hid (fun V => sNew 64 32 V (i64s (by decide) (by decide)) (i64s (by decide) (by decide)))
  rw [told.n4] at CN4
  have CN5 := Lib.hid (fun V => sNew 4 4 V (i64s (by decide) (by decide)) (i64s (by decide) (by decide)))
  rw [told.n5] at CN5
  have CL1 := Lib.hid (fun A V (hv : Held V t0 A) tv => cLay t0 A 0 (-9, 1) V hv ok0.1 ok0.2 tv)
  rw [told.l1] at CL1
  have CA1 := Lib.hid (fun A V (hv : Held V t1 A) tv => sAt t1 A 1 V hv ok1.1 ok1.2 tv)
  have CA2 := Lib.hid (fun A V (hv : Held V t1 A) tv => sAt t1 A 4 V hv ok1.1 ok1.2 tv)
  unfold AtPost at CA1 CA2
  rw [told.a1, told.v1] at CA1
  rw [told.a2, told.v2] at CA2
  have CC1 := Lib.hid (fun A V (hv : Held V t1 A) tv => cClear t1 A 2 V hv ok1.1 ok1.2 tv)
  rw [told.c1] at CC1
  have CM1 := Lib.hid (fun A V (hv : Held V t1 A) tv => cMove t1 A 0 3 V hv ok1.1 ok1.2 tv)
  rw [told.m1] at CM1
  have CL2 := Lib.hid (fun A V (hv : Held V t2 A) tv => cLay t2 A 1 (2, 0) V hv ok2.1 ok2.2 tv)
  rw [told.l2] at CL2
  have CM2 := Lib.hid (fun A V (hv : Held V t3 A) tv => cMove t3 A 1 3 V hv ok3.1 ok3.2 tv)
  rw [told.m2] at CM2
  have CM3 := Lib.hid (fun A V (hv : Held V t3 A) tv => cMove t3 A 1 1 V hv ok3.1 ok3.2 tv)
  rw [told.m3] at CM3
  have CF1 := Lib.hid (fun A LA LC PA PC V (hv : Held V t3 A) tv hl hp => cFill t3 A 0 4 LA PA LC PC [1, 1] [(0, 0), (0, 0)] V hv ok3.1 ok3.2 tv hl hp (by decide) (by decide) (fun k => by rcases k with _ | _ | k <;> exact ⟨i64s (by simp) (by simp), i64s (by simp) (by simp)⟩))
  have CF2 := Lib.hid (fun A LA LC PA PC V (hv : Held V t3 A) tv hl hp => cFill t3 A 0 4 LA PA LC PC [0, 3] [(8, 0), (9, 0)] V hv ok3.1 ok3.2 tv hl hp (by decide) (by decide) (fun k => by rcases k with _ | _ | k <;> exact ⟨i64s (by simp) (by simp), i64s (by simp) (by simp)⟩))
  rw [show t3.fillE 0 4 [1, 1] ([(0, 0), (0, 0)] : List (Int × Int)).length = 2 from told.f1] at CF1
  rw [show t3.fillE 0 4 [0, 3] ([(8, 0), (9, 0)] : List (Int × Int)).length = 0 from told.f2] at CF2
  simp only [List.length_cons, List.length_nil, Nat.zero_add, Nat.reduceAdd] at CF1 CF2
  have D2 := Lib.hid told.d2
  have D4 := Lib.hid told.d4
  have D5 := Lib.hid told.d5
  have K5 := Lib.hid told.k5
  rw [show t0.layS 0 (-9, 1) = t1 from rfl] at CL1
  rw [show t1.moveS 0 3 = t2 from rfl] at CM1
  rw [show t2.layS 1 (2, 0) = t3 from rfl] at CL2
  rw [show t3.moveS 1 1 = t4 from rfl] at CM3
  rw [show t3.fillS 0 4 [0, 3] [(8, 0), (9, 0)] = t5 from rfl] at CF2
  rw [show Sl.newS 4 4 = t0 from rfl] at CN5
  obtain ⟨x1, hx⟩ : ∃ s, s = Sl.newS 4 12 := ⟨_, rfl⟩
  rw [← hx] at CN1
  clear hx
  obtain ⟨x2, hx⟩ : ∃ s, s = Sl.newS 6 12 := ⟨_, rfl⟩
  rw [← hx] at CN2
  clear hx
  obtain ⟨x3, hx⟩ : ∃ s, s = Sl.newS 2 4 := ⟨_, rfl⟩
  rw [← hx] at CN3
  clear hx
  obtain ⟨x4, hx⟩ : ∃ s, s = Sl.newS 64 32 := ⟨_, rfl⟩
  rw [← hx] at CN4
  clear hx
  obtain ⟨x5, hx⟩ : ∃ s, s = t1.clearS 2 := ⟨_, rfl⟩
  rw [← hx] at CC1
  clear hx
  obtain ⟨x6, hx⟩ : ∃ s, s = t3.moveS 1 3 := ⟨_, rfl⟩
  rw [← hx] at CM2
  clear hx
  obtain ⟨x7, hx⟩ : ∃ s, s = t3.fillS 0 4 [1, 1] [(0, 0), (0, 0)] := ⟨_, rfl⟩
  rw [← hx] at CF1
  clear hx
  generalize t0 = s0 at CN5 CL1
  generalize t1 = s1 at CL1 CA1 CA2 CC1 CM1
  generalize t2 = s2 at CM1 CL2 D2
  generalize t3 = s3 at CL2 CM2 CM3 CF1 CF2
  generalize t4 = s4 at CM3 D4
  generalize t5 = s5 at CF2 D5 K5
  have TB0 := Lib.hid hT
  clear hT
  unfold slv pv at CL1 CL2
  unfold slv at CA1 CA2 CC1 CM1 CM2 CM3 CF1 CF2
  have BB := Lib.hid (Below.refl w.heap.size w)
  go_enter Tryd.func3, Tryd.ntmps3
  go_wp2_with fail
  refine (CN1.out _).mono ?_
  rintro e w1 ⟨A1, rfl, own, hb⟩
  replace BB := Lib.hid (BB.out.trans (hb.mono BB.out.size))
  have z1 := BB.out.size
  clear hb own
  unfold slv
  go_upto_region 2 with (fail)
  obtain ⟨V1, hV⟩ : ∃ V, V = w1.alloc (.cells #[.int .i64 x1.seg, .slice A1.w x1.words.length A1.cw, .slice A1.k x1.keys.length A1.ck, .slice A1.v x1.vals.length A1.cv, .slice A1.c x1.counts.length A1.cc, .int .u64 (x1.laid : Int)] 27) := ⟨_, rfl⟩
  have hba : Below w1.heap.size w1 V1 := by rw [hV]; exact (Below.refl _ _).alloc (Nat.le_refl _) _
  rw [← hV]
  clear hV
  replace BB := Lib.hid (BB.out.trans (hba.mono BB.out.size))
  clear hba
  go_wp2_with fail
  refine (CN2.out _).mono ?_
  rintro e w2 ⟨A2, rfl, own, hb⟩
  replace BB := Lib.hid (BB.out.trans (hb.mono BB.out.size))
  have z2 := BB.out.size
  clear hb own
  unfold slv
  go_upto_region 3 with (fail)
  obtain ⟨V2, hV⟩ : ∃ V, V = w2.alloc (.cells #[.int .i64 x2.seg, .slice A2.w x2.words.length A2.cw, .slice A2.k x2.keys.length A2.ck, .slice A2.v x2.vals.length A2.cv, .slice A2.c x2.counts.length A2.cc, .int .u64 (x2.laid : Int)] 27) := ⟨_, rfl⟩
  have hba : Below w2.heap.size w2 V2 := by rw [hV]; exact (Below.refl _ _).alloc (Nat.le_refl _) _
  rw [← hV]
  clear hV
  replace BB := Lib.hid (BB.out.trans (hba.mono BB.out.size))
  clear hba
  go_wp2_with fail
  refine (CN3.out _).mono ?_
  rintro e w3 ⟨A3, rfl, own, hb⟩
  replace BB := Lib.hid (BB.out.trans (hb.mono BB.out.size))
  have z3 := BB.out.size
  clear hb own
  unfold slv
  go_upto_region 4 with (fail)
  obtain ⟨V3, hV⟩ : ∃ V, V = w3.alloc (.cells #[.int .i64 x3.seg, .slice A3.w x3.words.length A3.cw, .slice A3.k x3.keys.length A3.ck, .slice A3.v x3.vals.length A3.cv, .slice A3.c x3.counts.length A3.cc, .int .u64 (x3.laid : Int)] 27) := ⟨_, rfl⟩
  have hba : Below w3.heap.size w3 V3 := by rw [hV]; exact (Below.refl _ _).alloc (Nat.le_refl _) _
  rw [← hV]
  clear hV
  replace BB := Lib.hid (BB.out.trans (hba.mono BB.out.size))
  clear hba
  go_wp2_with fail
  refine (CN4.out _).mono ?_
  rintro e w4 ⟨A4, rfl, own, hb⟩
  replace BB := Lib.hid (BB.out.trans (hb.mono BB.out.size))
  have z4 := BB.out.size
  clear hb own
  unfold slv
  go_upto_region 5 with (fail)
  obtain ⟨V4, hV⟩ : ∃ V, V = w4.alloc (.cells #[.int .i64 x4.seg, .slice A4.w x4.words.length A4.cw, .slice A4.k x4.keys.length A4.ck, .slice A4.v x4.vals.length A4.cv, .slice A4.c x4.counts.length A4.cc, .int .u64 (x4.laid : Int)] 27) := ⟨_, rfl⟩
  have hba : Below w4.heap.size w4 V4 := by rw [hV]; exact (Below.refl _ _).alloc (Nat.le_refl _) _
  rw [← hV]
  clear hV
  replace BB := Lib.hid (BB.out.trans (hba.mono BB.out.size))
  clear hba
  go_wp2_with fail
  refine (CN5.out _).mono ?_
  rintro e w5 ⟨A5, rfl, own, hb⟩
  have O5 := Lib.hid own.held
  replace BB := Lib.hid (BB.out.trans (hb.mono BB.out.size))
  have z5 := BB.out.size
  clear hb own
  unfold slv
  go_upto_region 6 with (fail)
  obtain ⟨V5, hV⟩ : ∃ V, V = w5.alloc (.cells #[.int .i64 s0.seg, .slice A5.w s0.words.length A5.cw, .slice A5.k s0.keys.length A5.ck, .slice A5.v s0.vals.length A5.cv, .slice A5.c s0.counts.length A5.cc, .int .u64 (s0.laid : Int)] 27) := ⟨_, rfl⟩
  have hba : Below w5.heap.size w5 V5 := by rw [hV]; exact (Below.refl _ _).alloc (Nat.le_refl _) _
  have B5 := Lib.hid (show Box V5 w5.heap.size s0 A5 by rw [hV]; exact Box.new w5 s0 A5 27)
  rw [← hV]
  clear hV
  replace O5 := Lib.hid (O5.out.below hba)
  replace BB := Lib.hid (BB.out.trans (hba.mono BB.out.size))
  clear hba
  obtain ⟨_, p0, p1, p2, p3, p4, p5, _⟩ := B5.out
  go_wp2_with fail
  refine (CL1.out A5 _ O5.out (TB0.out.below BB.out)).mono ?_
  rintro e w6 ⟨A6, rfl, own, hb⟩
  replace O5 := Lib.hid (O5.out.below hb)
  replace B5 := Lib.hid (B5.out.below hb)
  replace BB := Lib.hid (BB.out.trans (hb.mono BB.out.size))
  have g5 := B5.out.lt
  have z6 := hb.size
  clear hb p0 p1 p2 p3 p4 p5 O5
  unfold slv
  obtain ⟨_, p0, p1, p2, p3, p4, p5, pf⟩ := B5.out
  have pf0 := pf 0
  have pf1 := pf 1
  have pf2 := pf 2
  have pf3 := pf 3
  have pf4 := pf 4
  have pf5 := pf 5
  clear pf
  go_upto_region 7 with (fail)
  obtain ⟨V6, hV⟩ : ∃ V, V = put6 w6 w5.heap.size (.int .i64 s1.seg) (.slice A6.w s1.words.length A6.cw) (.slice A6.k s1.keys.length A6.ck) (.slice A6.v s1.vals.length A6.cv) (.slice A6.c s1.counts.length A6.cc) (.int .u64 (s1.laid : Int)) := ⟨_, rfl⟩
  have B6 := Lib.hid (show Box V6 w5.heap.size s1 A6 by rw [hV]; exact B5.out.put6 s1 A6)
  have O6 := Lib.hid (show Held V6 s1 A6 by rw [hV]; exact ⟨(own.words.put6 (by omega) _ _ _ _ _ _).lst, (own.keys.put6 (by omega) _ _ _ _ _ _).lst, (own.vals.put6 (by omega) _ _ _ _ _ _).lst, (own.counts.put6 (by omega) _ _ _ _ _ _).lst, own.caps⟩)
  replace BB := Lib.hid (show Below w.heap.size w V6 by rw [hV]; exact below_put6 BB.out z5 _ _ _ _ _ _)
  unfold put6 at hV
  rw [← hV]
  clear hV p0 p1 p2 p3 p4 p5 pf0 pf1 pf2 pf3 pf4 pf5 B5 own
  obtain ⟨_, p0, p1, p2, p3, p4, p5, _⟩ := B6.out
  go_wp2_with fail
  refine (CA1.out A6 _ O6.out (TB0.out.below BB.out)).mono ?_
  rintro e w7 ⟨rfl, hb⟩
  replace B6 := Lib.hid (B6.out.below hb)
  replace O6 := Lib.hid (O6.out.below hb)
  replace BB := Lib.hid (BB.out.trans (hb.mono BB.out.size))
  clear hb p0 p1 p2 p3 p4 p5
  unfold pv
  go_upto_region 8 with (fail)
  obtain ⟨V7, hV⟩ : ∃ V, V = w7.alloc (.cells #[.int .i64 0, .int .i64 0] 33) := ⟨_, rfl⟩
  have hba : Below w7.heap.size w7 V7 := by rw [hV]; exact (Below.refl _ _).alloc (Nat.le_refl _) _
  rw [← hV]
  clear hV
  replace B6 := Lib.hid (B6.out.below hba)
  replace O6 := Lib.hid (O6.out.below hba)
  replace BB := Lib.hid (BB.out.trans (hba.mono BB.out.size))
  clear hba
  obtain ⟨_, p0, p1, p2, p3, p4, p5, _⟩ := B6.out
  go_wp2_with fail
  refine (CA2.out A6 _ O6.out (TB0.out.below BB.out)).mono ?_
  rintro e w8 ⟨rfl, hb⟩
  replace B6 := Lib.hid (B6.out.below hb)
  replace O6 := Lib.hid (O6.out.below hb)
  replace BB := Lib.hid (BB.out.trans (hb.mono BB.out.size))
  clear hb p0 p1 p2 p3 p4 p5
  unfold pv
  go_upto_region 9 with (fail)
  obtain ⟨V8, hV⟩ : ∃ V, V = w8.alloc (.cells #[.int .i64 0, .int .i64 0] 33) := ⟨_, rfl⟩
  have hba : Below w8.heap.size w8 V8 := by rw [hV]; exact (Below.refl _ _).alloc (Nat.le_refl _) _
  rw [← hV]
  clear hV
  replace B6 := Lib.hid (B6.out.below hba)
  replace O6 := Lib.hid (O6.out.below hba)
  replace BB := Lib.hid (BB.out.trans (hba.mono BB.out.size))
  clear hba
  obtain ⟨_, p0, p1, p2, p3, p4, p5, _⟩ := B6.out
  go_wp2_with fail
  refine (CC1.out A6 _ O6.out (TB0.out.below BB.out)).mono ?_
  rintro e w9 ⟨A9, rfl, own, hb⟩
  replace B6 := Lib.hid (B6.out.below hb)
  replace O6 := Lib.hid (O6.out.below hb)
  replace BB := Lib.hid (BB.out.trans (hb.mono BB.out.size))
  clear hb own p0 p1 p2 p3 p4 p5
  unfold slv
  go_upto_region 10 with (fail)
  obtain ⟨V9, hV⟩ : ∃ V, V = w9.alloc (.cells #[.int .i64 x5.seg, .slice A9.w x5.words.length A9.cw, .slice A9.k x5.keys.length A9.ck, .slice A9.v x5.vals.length A9.cv, .slice A9.c x5.counts.length A9.cc, .int .u64 (x5.laid : Int)] 27) := ⟨_, rfl⟩
  have hba : Below w9.heap.size w9 V9 := by rw [hV]; exact (Below.refl _ _).alloc (Nat.le_refl _) _
  rw [← hV]
  clear hV
  replace B6 := Lib.hid (B6.out.below hba)
  replace O6 := Lib.hid (O6.out.below hba)
  replace BB := Lib.hid (BB.out.trans (hba.mono BB.out.size))
  clear hba
  obtain ⟨_, p0, p1, p2, p3, p4, p5, _⟩ := B6.out
  go_wp2_with fail
  refine (CM1.out A6 _ O6.out (TB0.out.below BB.out)).mono ?_
  rintro e w10 ⟨A10, rfl, own, hb⟩
  have O10 := Lib.hid own.held
  replace B6 := Lib.hid (B6.out.below hb)
  replace O6 := Lib.hid (O6.out.below hb)
  replace BB := Lib.hid (BB.out.trans (hb.mono BB.out.size))
  clear hb own p0 p1 p2 p3 p4 p5
  unfold slv
  go_upto_region 11 with (fail)
  obtain ⟨V10, hV⟩ : ∃ V, V = w10.alloc (.cells #[.int .i64 s2.seg, .slice A10.w s2.words.length A10.cw, .slice A10.k s2.keys.length A10.ck, .slice A10.v s2.vals.length A10.cv, .slice A10.c s2.counts.length A10.cc, .int .u64 (s2.laid : Int)] 27) := ⟨_, rfl⟩
  have hba : Below w10.heap.size w10 V10 := by rw [hV]; exact (Below.refl _ _).alloc (Nat.le_refl _) _
  have B10 := Lib.hid (show Box V10 w10.heap.size s2 A10 by rw [hV]; exact Box.new w10 s2 A10 27)
  rw [← hV]
  clear hV
  replace B6 := Lib.hid (B6.out.below hba)
  replace O6 := Lib.hid (O6.out.below hba)
  replace O10 := Lib.hid (O10.out.below hba)
  replace BB := Lib.hid (BB.out.trans (hba.mono BB.out.size))
  clear hba
  obtain ⟨_, p0, p1, p2, p3, p4, p5, _⟩ := B10.out
  go_wp2_with fail
  refine (CL2.out A10 _ O10.out (TB0.out.below BB.out)).mono ?_
  rintro e w11 ⟨A11, rfl, own, hb⟩
  have O11 := Lib.hid own.held
  replace B6 := Lib.hid (B6.out.below hb)
  replace O6 := Lib.hid (O6.out.below hb)
  replace O10 := Lib.hid (O10.out.below hb)
  replace B10 := Lib.hid (B10.out.below hb)
  replace BB := Lib.hid (BB.out.trans (hb.mono BB.out.size))
  clear hb own p0 p1 p2 p3 p4 p5
  unfold slv
  go_upto_region 12 with (fail)
  obtain ⟨V11, hV⟩ : ∃ V, V = w11.alloc (.cells #[.int .i64 s3.seg, .slice A11.w s3.words.length A11.cw, .slice A11.k s3.keys.length A11.ck, .slice A11.v s3.vals.length A11.cv, .slice A11.c s3.counts.length A11.cc, .int .u64 (s3.laid : Int)] 27) := ⟨_, rfl⟩
  have hba : Below w11.heap.size w11 V11 := by rw [hV]; exact (Below.refl _ _).alloc (Nat.le_refl _) _
  have B11 := Lib.hid (show Box V11 w11.heap.size s3 A11 by rw [hV]; exact Box.new w11 s3 A11 27)
  rw [← hV]
  clear hV
  replace B6 := Lib.hid (B6.out.below hba)
  replace O6 := Lib.hid (O6.out.below hba)
  replace O10 := Lib.hid (O10.out.below hba)
  replace B10 := Lib.hid (B10.out.below hba)
  replace O11 := Lib.hid (O11.out.below hba)
  replace BB := Lib.hid (BB.out.trans (hba.mono BB.out.size))
  clear hba
  obtain ⟨_, p0, p1, p2, p3, p4, p5, _⟩ := B11.out
  go_wp2_with fail
  refine (CM2.out A11 _ O11.out (TB0.out.below BB.out)).mono ?_
  rintro e w12 ⟨A12, rfl, own, hb⟩
  replace B6 := Lib.hid (B6.out.below hb)
  replace O6 := Lib.hid (O6.out.below hb)
  replace O10 := Lib.hid (O10.out.below hb)
  replace B10 := Lib.hid (B10.out.below hb)
  replace O11 := Lib.hid (O11.out.below hb)
  replace B11 := Lib.hid (B11.out.below hb)
  replace BB := Lib.hid (BB.out.trans (hb.mono BB.out.size))
  clear hb own p0 p1 p2 p3 p4 p5
  unfold slv
  go_upto_region 13 with (fail)
  obtain ⟨V12, hV⟩ : ∃ V, V = w12.alloc (.cells #[.int .i64 x6.seg, .slice A12.w x6.words.length A12.cw, .slice A12.k x6.keys.length A12.ck, .slice A12.v x6.vals.length A12.cv, .slice A12.c x6.counts.length A12.cc, .int .u64 (x6.laid : Int)] 27) := ⟨_, rfl⟩
  have hba : Below w12.heap.size w12 V12 := by rw [hV]; exact (Below.refl _ _).alloc (Nat.le_refl _) _
  rw [← hV]
  clear hV
  replace B6 := Lib.hid (B6.out.below hba)
  replace O6 := Lib.hid (O6.out.below hba)
  replace O10 := Lib.hid (O10.out.below hba)
  replace B10 := Lib.hid (B10.out.below hba)
  replace O11 := Lib.hid (O11.out.below hba)
  replace B11 := Lib.hid (B11.out.below hba)
  replace BB := Lib.hid (BB.out.trans (hba.mono BB.out.size))
  clear hba
  obtain ⟨_, p0, p1, p2, p3, p4, p5, _⟩ := B11.out
  go_wp2_with fail
  refine (CM3.out A11 _ O11.out (TB0.out.below BB.out)).mono ?_
  rintro e w13 ⟨A13, rfl, own, hb⟩
  replace B6 := Lib.hid (B6.out.below hb)
  replace O6 := Lib.hid (O6.out.below hb)
  replace O10 := Lib.hid (O10.out.below hb)
  replace B10 := Lib.hid (B10.out.below hb)
  replace O11 := Lib.hid (O11.out.below hb)
  replace B11 := Lib.hid (B11.out.below hb)
  replace BB := Lib.hid (BB.out.trans (hb.mono BB.out.size))
  clear hb own p0 p1 p2 p3 p4 p5
  unfold slv
  go_upto_region 14 with (fail)
  obtain ⟨V13, hV⟩ : ∃ V, V = w13.alloc (.cells #[.int .i64 s4.seg, .slice A13.w s4.words.length A13.cw, .slice A13.k s4.keys.length A13.ck, .slice A13.v s4.vals.length A13.cv, .slice A13.c s4.counts.length A13.cc, .int .u64 (s4.laid : Int)] 27) := ⟨_, rfl⟩
  have hba : Below w13.heap.size w13 V13 := by rw [hV]; exact (Below.refl _ _).alloc (Nat.le_refl _) _
  have B13 := Lib.hid (show Box V13 w13.heap.size s4 A13 by rw [hV]; exact Box.new w13 s4 A13 27)
  rw [← hV]
  clear hV
  replace B6 := Lib.hid (B6.out.below hba)
  replace O6 := Lib.hid (O6.out.below hba)
  replace O10 := Lib.hid (O10.out.below hba)
  replace B10 := Lib.hid (B10.out.below hba)
  replace O11 := Lib.hid (O11.out.below hba)
  replace B11 := Lib.hid (B11.out.below hba)
  replace BB := Lib.hid (BB.out.trans (hba.mono BB.out.size))
  clear hba
  go_cut [26, 27] from 95 to 101 (fun s26 s27 wx => s27 = .int .i64 2 ∧ Below V13.heap.size V13 wx)
  case first =>
    have bx := Lib.hid (B11.out.below ((Below.refl V13.heap.size V13).drew))
    have ho := Lib.hid (O11.out.below ((Below.refl V13.heap.size V13).drew))
    have bb := Lib.hid (Below.refl V13.heap.size V13).drew
    have lt11 : w11.heap.size < V13.heap.size := B11.out.lt
    refine wp_region_held_drew (S := fun w' => w'.cell? ⟨w11.heap.size, 0, none⟩ = some (.int .i64 s3.seg) ∧ w'.cell? ⟨w11.heap.size, 1, none⟩ = some (.slice A11.w s3.words.length A11.cw) ∧ w'.cell? ⟨w11.heap.size, 2, none⟩ = some (.slice A11.k s3.keys.length A11.ck) ∧ w'.cell? ⟨w11.heap.size, 3, none⟩ = some (.slice A11.v s3.vals.length A11.cv) ∧ w'.cell? ⟨w11.heap.size, 4, none⟩ = some (.slice A11.c s3.counts.length A11.cc) ∧ w'.cell? ⟨w11.heap.size, 5, none⟩ = some (.int .u64 (s3.laid : Int))) (by kernel_rfl) ⟨bx.out.c0, bx.out.c1, bx.out.c2, bx.out.c3, bx.out.c4, bx.out.c5⟩ (fun hHeld => ?_)
    refine wpAnyH_take (i := 0) (oi := Oper.mk _ _ _ _ _ _) (v := ?v0) rfl (by kernel_rfl) (by kernel_rfl) (by kernel_rfl) (fun _ _ _ h => h) (Or.inl ⟨by rfl, ?hy0⟩) ⟨bx.out.c0, bx.out.c1, bx.out.c2, bx.out.c3, bx.out.c4, bx.out.c5⟩ ?rest0
    case hy0 =>
      rintro w0 ⟨c0, c1, c2, c3, c4, c5⟩
      go_simp
      all_goals with_reducible rfl
    try simp only [Act.put, List.setIfInBounds_toArray, List.set_cons_zero, List.set_cons_succ]
    obtain ⟨W0, hW0⟩ : ∃ V, V = V13.drew := ⟨_, rfl⟩
    rw [← hW0] at bx ho bb hHeld ⊢
    clear hW0 B11 O11
    refine wpAnyH_ready (rs := [1, 2, 7]) (by kernel_rfl) (by simp) ?_
    refine AllReadyH.cons (o := Oper.mk _ _ _ _ _ _) rfl (fun K hK => ?_) ?_
    · skip
      go_simp
      obtain ⟨U1, hU⟩ : ∃ V, V = W0.alloc (.cells #[.int .i64 1, .int .i64 1] 3) := ⟨_, rfl⟩
      have hb : Below W0.heap.size W0 U1 := by rw [hU]; exact (Below.refl _ _).alloc (Nat.le_refl _) _
      have li := Lib.hid (show Lst .i64 U1 (some ⟨W0.heap.size, 0, none⟩) [1, 1] by rw [hU]; exact lst_two W0 1 1 3)
      obtain ⟨gL, hgL⟩ : ∃ g, g = W0.heap.size := ⟨_, rfl⟩
      try rw [← hU]
      rw [← hgL] at li ⊢
      clear hU hgL
      replace bx := Lib.hid (bx.out.below hb)
      replace ho := Lib.hid (ho.out.below hb)
      replace bb := Lib.hid (bb.out.trans (hb.mono bb.out.size))
      clear hb
      refine hK.out _ _ ⟨bx.out.c0, bx.out.c1, bx.out.c2, bx.out.c3, bx.out.c4, bx.out.c5⟩ (fun _ => ?_)
      clear hK K
      try simp only [Act.put, List.setIfInBounds_toArray, List.set_cons_zero, List.set_cons_succ]
      refine wpAnyH_ready (rs := [2, 7]) (by kernel_rfl) (by simp) ?_
      refine AllReadyH.cons (o := Oper.mk _ _ _ _ _ _) rfl (fun K hK => ?_) ?_
      · skip
        refine step_pairs2 elemP rfl (.const (.int .i64 2)) (.const (.int .i64 2)) rfl rfl rfl (by omega) ?_
        intro gM U2 hgM hlt lp hb
        have lp := Lib.hid lp
        replace hb : Below U1.heap.size U1 U2 := by rw [← hgM]; exact hb
        replace bx := Lib.hid (bx.out.below hb)
        replace ho := Lib.hid (ho.out.below hb)
        replace li := Lib.hid (li.out.below hb)
        replace bb := Lib.hid (bb.out.trans (hb.mono bb.out.size))
        clear hb hlt hgM
        refine hK.out _ _ ⟨bx.out.c0, bx.out.c1, bx.out.c2, bx.out.c3, bx.out.c4, bx.out.c5⟩ (fun _ => ?_)
        clear hK K
        try simp only [Act.put, List.setIfInBounds_toArray, List.set_cons_zero, List.set_cons_succ]
        refine wpAnyH_ready (rs := [3, 7]) (by kernel_rfl) (by simp) ?_
        refine AllReadyH.cons (o := Oper.mk _ _ _ _ _ _) rfl (fun K hK => ?_) ?_
        · skip
          go_simp
          refine (CF1.out A11 (some ⟨gL, 0, none⟩) 2 (some ⟨gM, 0, none⟩) 2 _ ho.out (TB0.out.below (BB.out.trans (bb.out.mono BB.out.size))) li.out lp.out).mono ?_
          rintro e U3 ⟨A14, rfl, own, hb⟩
          replace bx := Lib.hid (bx.out.below hb)
          replace ho := Lib.hid (ho.out.below hb)
          replace li := Lib.hid (li.out.below hb)
          replace lp := Lib.hid (lp.out.below hb)
          replace bb := Lib.hid (bb.out.trans (hb.mono bb.out.size))
          clear hb own
          unfold slv
          go_wp2_with fail
          refine hK.out _ _ ⟨bx.out.c0, bx.out.c1, bx.out.c2, bx.out.c3, bx.out.c4, bx.out.c5⟩ (fun _ => ?_)
          clear hK K
          try simp only [Act.put, List.setIfInBounds_toArray, List.set_cons_zero, List.set_cons_succ]
          refine wpAnyH_take (i := 4) (oi := Oper.mk _ _ _ _ _ _) (v := ?v4_4) rfl (by kernel_rfl) (by kernel_rfl) (by kernel_rfl) (fun _ _ _ h => h) (Or.inl ⟨by rfl, ?hy4_4⟩) ⟨bx.out.c0, bx.out.c1, bx.out.c2, bx.out.c3, bx.out.c4, bx.out.c5⟩ ?rest4_4
          case hy4_4 =>
            rintro w0 ⟨c0, c1, c2, c3, c4, c5⟩
            go_simp
            all_goals with_reducible rfl
          try simp only [Act.put, List.setIfInBounds_toArray, List.set_cons_zero, List.set_cons_succ]
          refine wpAnyH_take (i := 5) (oi := Oper.mk _ _ _ _ _ _) (v := ?v5_5) rfl (by kernel_rfl) (by kernel_rfl) (by kernel_rfl) (fun _ _ _ h => h) (Or.inl ⟨by rfl, ?hy5_5⟩) ⟨bx.out.c0, bx.out.c1, bx.out.c2, bx.out.c3, bx.out.c4, bx.out.c5⟩ ?rest5_5
          case hy5_5 =>
            rintro w0 ⟨c0, c1, c2, c3, c4, c5⟩
            go_simp
            all_goals with_reducible rfl
          try simp only [Act.put, List.setIfInBounds_toArray, List.set_cons_zero, List.set_cons_succ]
          refine wpAnyH_take (i := 6) (oi := Oper.mk _ _ _ _ _ _) (v := ?v6_6) rfl (by kernel_rfl) (by kernel_rfl) (by kernel_rfl) (fun _ _ _ h => h) (Or.inl ⟨by rfl, ?hy6_6⟩) ⟨bx.out.c0, bx.out.c1, bx.out.c2, bx.out.c3, bx.out.c4, bx.out.c5⟩ ?rest6_6
          case hy6_6 =>
            rintro w0 ⟨c0, c1, c2, c3, c4, c5⟩
            go_simp
            all_goals with_reducible rfl
          try simp only [Act.put, List.setIfInBounds_toArray, List.set_cons_zero, List.set_cons_succ]
          refine wpAnyH_ready (rs := [7]) (by kernel_rfl) (by simp) ?_
          refine AllReadyH.cons (o := Oper.mk _ _ _ _ _ _) rfl (fun K hK => ?_) ?_
          · skip
            go_simp
            obtain ⟨U7, hU⟩ : ∃ V, V = U3.alloc (.cells #[.int .i64 0, .slice none 0 0, .slice none 0 0, .slice none 0 0, .slice none 0 0, .int .u64 0] 27) := ⟨_, rfl⟩
            have hb : Below U3.heap.size U3 U7 := by rw [hU]; exact (Below.refl _ _).alloc (Nat.le_refl _) _
            have bz := Lib.hid (show Box U7 U3.heap.size Sl.none adsNone by rw [hU]; exact Box.new U3 Sl.none adsNone 27)
            have gXb : V13.heap.size ≤ U3.heap.size := bb.out.size
            obtain ⟨gX, hgX⟩ : ∃ g, g = U3.heap.size := ⟨_, rfl⟩
            try rw [← hU]
            rw [← hgX] at bz gXb ⊢
            clear hU
            replace bx := Lib.hid (bx.out.below hb)
            replace ho := Lib.hid (ho.out.below hb)
            replace li := Lib.hid (li.out.below hb)
            replace lp := Lib.hid (lp.out.below hb)
            replace bb := Lib.hid (bb.out.trans (hb.mono bb.out.size))
            clear hb hgX
            refine hK.out _ _ ⟨bx.out.c0, bx.out.c1, bx.out.c2, bx.out.c3, bx.out.c4, bx.out.c5⟩ (fun _ => ?_)
            clear hK K
            try simp only [Act.put, List.setIfInBounds_toArray, List.set_cons_zero, List.set_cons_succ]
            obtain ⟨_, s0, s1, s2, s3', s4', s5', sf⟩ := bz.out
            have sf0 := sf 0
            have sf1 := sf 1
            have sf2 := sf 2
            have sf3 := sf 3
            have sf4 := sf 4
            have sf5 := sf 5
            clear sf
            dsimp only [Sl.none, adsNone, List.length_nil] at s0 s1 s2 s3' s4' s5'
            refine wpAnyH_ready (rs := [8]) (by kernel_rfl) (by simp) ?_
            refine AllReadyH.cons (o := Oper.mk _ _ _ _ _ _) rfl (fun K hK => ?_) AllReadyH.nil
            go_simp
            have by2 := Lib.hid (bx.out.put6o (g' := gX) (by omega) (.int .i64 x7.seg) (.slice A14.w x7.words.length A14.cw) (.slice A14.k x7.keys.length A14.ck) (.slice A14.v x7.vals.length A14.cv) (.slice A14.c x7.counts.length A14.cc) (.int .u64 (x7.laid : Int)))
            have bf := below_put6 bb.out gXb (.int .i64 x7.seg) (.slice A14.w x7.words.length A14.cw) (.slice A14.k x7.keys.length A14.ck) (.slice A14.v x7.vals.length A14.cv) (.slice A14.c x7.counts.length A14.cc) (.int .u64 (x7.laid : Int))
            refine hK.out _ _ ⟨by2.out.c0, by2.out.c1, by2.out.c2, by2.out.c3, by2.out.c4, by2.out.c5⟩ (fun _ => ?_)
            clear hK K
            try simp only [Act.put, List.setIfInBounds_toArray, List.set_cons_zero, List.set_cons_succ]
            refine wpAnyH_take (i := 9) (oi := Oper.mk _ _ _ _ _ _) (v := ?v9_8) rfl (by kernel_rfl) (by kernel_rfl) (by kernel_rfl) (fun _ _ _ h => h) (Or.inl ⟨by rfl, ?hy9_8⟩) ⟨by2.out.c0, by2.out.c1, by2.out.c2, by2.out.c3, by2.out.c4, by2.out.c5⟩ ?rest9_8
            case hy9_8 =>
              rintro w0 ⟨c0, c1, c2, c3, c4, c5⟩
              go_simp
              all_goals with_reducible rfl
            try simp only [Act.put, List.setIfInBounds_toArray, List.set_cons_zero, List.set_cons_succ]
            refine wpAnyH_done (by kernel_rfl) ?_ _
            go_wp2
            go_meet
            exact ⟨rfl, bf⟩
          exact AllReadyH.nil
        refine AllReadyH.cons (o := Oper.mk _ _ _ _ _ _) rfl (fun K hK => ?_) ?_
        · skip
          go_simp
          obtain ⟨U9, hU⟩ : ∃ V, V = U2.alloc (.cells #[.int .i64 0, .slice none 0 0, .slice none 0 0, .slice none 0 0, .slice none 0 0, .int .u64 0] 27) := ⟨_, rfl⟩
          have hb : Below U2.heap.size U2 U9 := by rw [hU]; exact (Below.refl _ _).alloc (Nat.le_refl _) _
          have bz := Lib.hid (show Box U9 U2.heap.size Sl.none adsNone by rw [hU]; exact Box.new U2 Sl.none adsNone 27)
          have gXb : V13.heap.size ≤ U2.heap.size := bb.out.size
          obtain ⟨gX, hgX⟩ : ∃ g, g = U2.heap.size := ⟨_, rfl⟩
          try rw [← hU]
          rw [← hgX] at bz gXb ⊢
          clear hU
          replace bx := Lib.hid (bx.out.below hb)
          replace ho := Lib.hid (ho.out.below hb)
          replace li := Lib.hid (li.out.below hb)
          replace lp := Lib.hid (lp.out.below hb)
          replace bb := Lib.hid (bb.out.trans (hb.mono bb.out.size))
          clear hb hgX
          refine hK.out _ _ ⟨bx.out.c0, bx.out.c1, bx.out.c2, bx.out.c3, bx.out.c4, bx.out.c5⟩ (fun _ => ?_)
          clear hK K
          try simp only [Act.put, List.setIfInBounds_toArray, List.set_cons_zero, List.set_cons_succ]
          refine wpAnyH_ready (rs := [3]) (by kernel_rfl) (by simp) ?_
          refine AllReadyH.cons (o := Oper.mk _ _ _ _ _ _) rfl (fun K hK => ?_) ?_
          · skip
            go_simp
            refine (CF1.out A11 (some ⟨gL, 0, none⟩) 2 (some ⟨gM, 0, none⟩) 2 _ ho.out (TB0.out.below (BB.out.trans (bb.out.mono BB.out.size))) li.out lp.out).mono ?_
            rintro e U10 ⟨A14, rfl, own, hb⟩
            replace bx := Lib.hid (bx.out.below hb)
            replace ho := Lib.hid (ho.out.below hb)
            replace li := Lib.hid (li.out.below hb)
            replace lp := Lib.hid (lp.out.below hb)
            replace bz := Lib.hid (bz.out.below hb)
            replace bb := Lib.hid (bb.out.trans (hb.mono bb.out.size))
            clear hb own
            unfold slv
            go_wp2_with fail
            refine hK.out _ _ ⟨bx.out.c0, bx.out.c1, bx.out.c2, bx.out.c3, bx.out.c4, bx.out.c5⟩ (fun _ => ?_)
            clear hK K
            try simp only [Act.put, List.setIfInBounds_toArray, List.set_cons_zero, List.set_cons_succ]
            refine wpAnyH_take (i := 4) (oi := Oper.mk _ _ _ _ _ _) (v := ?v4_11) rfl (by kernel_rfl) (by kernel_rfl) (by kernel_rfl) (fun _ _ _ h => h) (Or.inl ⟨by rfl, ?hy4_11⟩) ⟨bx.out.c0, bx.out.c1, bx.out.c2, bx.out.c3, bx.out.c4, bx.out.c5⟩ ?rest4_11
            case hy4_11 =>
              rintro w0 ⟨c0, c1, c2, c3, c4, c5⟩
              go_simp
              all_goals with_reducible rfl
            try simp only [Act.put, List.setIfInBounds_toArray, List.set_cons_zero, List.set_cons_succ]
            refine wpAnyH_take (i := 5) (oi := Oper.mk _ _ _ _ _ _) (v := ?v5_12) rfl (by kernel_rfl) (by kernel_rfl) (by kernel_rfl) (fun _ _ _ h => h) (Or.inl ⟨by rfl, ?hy5_12⟩) ⟨bx.out.c0, bx.out.c1, bx.out.c2, bx.out.c3, bx.out.c4, bx.out.c5⟩ ?rest5_12
            case hy5_12 =>
              rintro w0 ⟨c0, c1, c2, c3, c4, c5⟩
              go_simp
              all_goals with_reducible rfl
            try simp only [Act.put, List.setIfInBounds_toArray, List.set_cons_zero, List.set_cons_succ]
            refine wpAnyH_take (i := 6) (oi := Oper.mk _ _ _ _ _ _) (v := ?v6_13) rfl (by kernel_rfl) (by kernel_rfl) (by kernel_rfl) (fun _ _ _ h => h) (Or.inl ⟨by rfl, ?hy6_13⟩) ⟨bx.out.c0, bx.out.c1, bx.out.c2, bx.out.c3, bx.out.c4, bx.out.c5⟩ ?rest6_13
            case hy6_13 =>
              rintro w0 ⟨c0, c1, c2, c3, c4, c5⟩
              go_simp
              all_goals with_reducible rfl
            try simp only [Act.put, List.setIfInBounds_toArray, List.set_cons_zero, List.set_cons_succ]
            obtain ⟨_, s0, s1, s2, s3', s4', s5', sf⟩ := bz.out
            have sf0 := sf 0
            have sf1 := sf 1
            have sf2 := sf 2
            have sf3 := sf 3
            have sf4 := sf 4
            have sf5 := sf 5
            clear sf
            dsimp only [Sl.none, adsNone, List.length_nil] at s0 s1 s2 s3' s4' s5'
            refine wpAnyH_ready (rs := [8]) (by kernel_rfl) (by simp) ?_
            refine AllReadyH.cons (o := Oper.mk _ _ _ _ _ _) rfl (fun K hK => ?_) AllReadyH.nil
            go_simp
            have by2 := Lib.hid (bx.out.put6o (g' := gX) (by omega) (.int .i64 x7.seg) (.slice A14.w x7.words.length A14.cw) (.slice A14.k x7.keys.length A14.ck) (.slice A14.v x7.vals.length A14.cv) (.slice A14.c x7.counts.length A14.cc) (.int .u64 (x7.laid : Int)))
            have bf := below_put6 bb.out gXb (.int .i64 x7.seg) (.slice A14.w x7.words.length A14.cw) (.slice A14.k x7.keys.length A14.ck) (.slice A14.v x7.vals.length A14.cv) (.slice A14.c x7.counts.length A14.cc) (.int .u64 (x7.laid : Int))
            refine hK.out _ _ ⟨by2.out.c0, by2.out.c1, by2.out.c2, by2.out.c3, by2.out.c4, by2.out.c5⟩ (fun _ => ?_)
            clear hK K
            try simp only [Act.put, List.setIfInBounds_toArray, List.set_cons_zero, List.set_cons_succ]
            refine wpAnyH_take (i := 9) (oi := Oper.mk _ _ _ _ _ _) (v := ?v9_14) rfl (by kernel_rfl) (by kernel_rfl) (by kernel_rfl) (fun _ _ _ h => h) (Or.inl ⟨by rfl, ?hy9_14⟩) ⟨by2.out.c0, by2.out.c1, by2.out.c2, by2.out.c3, by2.out.c4, by2.out.c5⟩ ?rest9_14
            case hy9_14 =>
              rintro w0 ⟨c0, c1, c2, c3, c4, c5⟩
              go_simp
              all_goals with_reducible rfl
            try simp only [Act.put, List.setIfInBounds_toArray, List.set_cons_zero, List.set_cons_succ]
            refine wpAnyH_done (by kernel_rfl) ?_ _
            go_wp2
            go_meet
            exact ⟨rfl, bf⟩
          exact AllReadyH.nil
        exact AllReadyH.nil
      refine AllReadyH.cons (o := Oper.mk _ _ _ _ _ _) rfl (fun K hK => ?_) ?_
      · skip
        go_simp
        obtain ⟨U15, hU⟩ : ∃ V, V = U1.alloc (.cells #[.int .i64 0, .slice none 0 0, .slice none 0 0, .slice none 0 0, .slice none 0 0, .int .u64 0] 27) := ⟨_, rfl⟩
        have hb : Below U1.heap.size U1 U15 := by rw [hU]; exact (Below.refl _ _).alloc (Nat.le_refl _) _
        have bz := Lib.hid (show Box U15 U1.heap.size Sl.none adsNone by rw [hU]; exact Box.new U1 Sl.none adsNone 27)
        have gXb : V13.heap.size ≤ U1.heap.size := bb.out.size
        obtain ⟨gX, hgX⟩ : ∃ g, g = U1.heap.size := ⟨_, rfl⟩
        try rw [← hU]
        rw [← hgX] at bz gXb ⊢
        clear hU
        replace bx := Lib.hid (bx.out.below hb)
        replace ho := Lib.hid (ho.out.below hb)
        replace li := Lib.hid (li.out.below hb)
        replace bb := Lib.hid (bb.out.trans (hb.mono bb.out.size))
        clear hb hgX
        refine hK.out _ _ ⟨bx.out.c0, bx.out.c1, bx.out.c2, bx.out.c3, bx.out.c4, bx.out.c5⟩ (fun _ => ?_)
        clear hK K
        try simp only [Act.put, List.setIfInBounds_toArray, List.set_cons_zero, List.set_cons_succ]
        refine wpAnyH_ready (rs := [2]) (by kernel_rfl) (by simp) ?_
        refine AllReadyH.cons (o := Oper.mk _ _ _ _ _ _) rfl (fun K hK => ?_) ?_
        · skip
          refine step_pairs2 elemP rfl (.const (.int .i64 2)) (.const (.int .i64 2)) rfl rfl rfl (by omega) ?_
          intro gM U16 hgM hlt lp hb
          have lp := Lib.hid lp
          replace hb : Below U15.heap.size U15 U16 := by rw [← hgM]; exact hb
          replace bx := Lib.hid (bx.out.below hb)
          replace ho := Lib.hid (ho.out.below hb)
          replace li := Lib.hid (li.out.below hb)
          replace bz := Lib.hid (bz.out.below hb)
          replace bb := Lib.hid (bb.out.trans (hb.mono bb.out.size))
          clear hb hlt hgM
          refine hK.out _ _ ⟨bx.out.c0, bx.out.c1, bx.out.c2, bx.out.c3, bx.out.c4, bx.out.c5⟩ (fun _ => ?_)
          clear hK K
          try simp only [Act.put, List.setIfInBounds_toArray, List.set_cons_zero, List.set_cons_succ]
          refine wpAnyH_ready (rs := [3]) (by kernel_rfl) (by simp) ?_
          refine AllReadyH.cons (o := Oper.mk _ _ _ _ _ _) rfl (fun K hK => ?_) ?_
          · skip
            go_simp
            refine (CF1.out A11 (some ⟨gL, 0, none⟩) 2 (some ⟨gM, 0, none⟩) 2 _ ho.out (TB0.out.below (BB.out.trans (bb.out.mono BB.out.size))) li.out lp.out).mono ?_
            rintro e U17 ⟨A14, rfl, own, hb⟩
            replace bx := Lib.hid (bx.out.below hb)
            replace ho := Lib.hid (ho.out.below hb)
            replace li := Lib.hid (li.out.below hb)
            replace bz := Lib.hid (bz.out.below hb)
            replace lp := Lib.hid (lp.out.below hb)
            replace bb := Lib.hid (bb.out.trans (hb.mono bb.out.size))
            clear hb own
            unfold slv
            go_wp2_with fail
            refine hK.out _ _ ⟨bx.out.c0, bx.out.c1, bx.out.c2, bx.out.c3, bx.out.c4, bx.out.c5⟩ (fun _ => ?_)
            clear hK K
            try simp only [Act.put, List.setIfInBounds_toArray, List.set_cons_zero, List.set_cons_succ]
            refine wpAnyH_take (i := 4) (oi := Oper.mk _ _ _ _ _ _) (v := ?v4_18) rfl (by kernel_rfl) (by kernel_rfl) (by kernel_rfl) (fun _ _ _ h => h) (Or.inl ⟨by rfl, ?hy4_18⟩) ⟨bx.out.c0, bx.out.c1, bx.out.c2, bx.out.c3, bx.out.c4, bx.out.c5⟩ ?rest4_18
            case hy4_18 =>
              rintro w0 ⟨c0, c1, c2, c3, c4, c5⟩
              go_simp
              all_goals with_reducible rfl
            try simp only [Act.put, List.setIfInBounds_toArray, List.set_cons_zero, List.set_cons_succ]
            refine wpAnyH_take (i := 5) (oi := Oper.mk _ _ _ _ _ _) (v := ?v5_19) rfl (by kernel_rfl) (by kernel_rfl) (by kernel_rfl) (fun _ _ _ h => h) (Or.inl ⟨by rfl, ?hy5_19⟩) ⟨bx.out.c0, bx.out.c1, bx.out.c2, bx.out.c3, bx.out.c4, bx.out.c5⟩ ?rest5_19
            case hy5_19 =>
              rintro w0 ⟨c0, c1, c2, c3, c4, c5⟩
              go_simp
              all_goals with_reducible rfl
            try simp only [Act.put, List.setIfInBounds_toArray, List.set_cons_zero, List.set_cons_succ]
            refine wpAnyH_take (i := 6) (oi := Oper.mk _ _ _ _ _ _) (v := ?v6_20) rfl (by kernel_rfl) (by kernel_rfl) (by kernel_rfl) (fun _ _ _ h => h) (Or.inl ⟨by rfl, ?hy6_20⟩) ⟨bx.out.c0, bx.out.c1, bx.out.c2, bx.out.c3, bx.out.c4, bx.out.c5⟩ ?rest6_20
            case hy6_20 =>
              rintro w0 ⟨c0, c1, c2, c3, c4, c5⟩
              go_simp
              all_goals with_reducible rfl
            try simp only [Act.put, List.setIfInBounds_toArray, List.set_cons_zero, List.set_cons_succ]
            obtain ⟨_, s0, s1, s2, s3', s4', s5', sf⟩ := bz.out
            have sf0 := sf 0
            have sf1 := sf 1
            have sf2 := sf 2
            have sf3 := sf 3
            have sf4 := sf 4
            have sf5 := sf 5
            clear sf
            dsimp only [Sl.none, adsNone, List.length_nil] at s0 s1 s2 s3' s4' s5'
            refine wpAnyH_ready (rs := [8]) (by kernel_rfl) (by simp) ?_
            refine AllReadyH.cons (o := Oper.mk _ _ _ _ _ _) rfl (fun K hK => ?_) AllReadyH.nil
            go_simp
            have by2 := Lib.hid (bx.out.put6o (g' := gX) (by omega) (.int .i64 x7.seg) (.slice A14.w x7.words.length A14.cw) (.slice A14.k x7.keys.length A14.ck) (.slice A14.v x7.vals.length A14.cv) (.slice A14.c x7.counts.length A14.cc) (.int .u64 (x7.laid : Int)))
            have bf := below_put6 bb.out gXb (.int .i64 x7.seg) (.slice A14.w x7.words.length A14.cw) (.slice A14.k x7.keys.length A14.ck) (.slice A14.v x7.vals.length A14.cv) (.slice A14.c x7.counts.length A14.cc) (.int .u64 (x7.laid : Int))
            refine hK.out _ _ ⟨by2.out.c0, by2.out.c1, by2.out.c2, by2.out.c3, by2.out.c4, by2.out.c5⟩ (fun _ => ?_)
            clear hK K
            try simp only [Act.put, List.setIfInBounds_toArray, List.set_cons_zero, List.set_cons_succ]
            refine wpAnyH_take (i := 9) (oi := Oper.mk _ _ _ _ _ _) (v := ?v9_21) rfl (by kernel_rfl) (by kernel_rfl) (by kernel_rfl) (fun _ _ _ h => h) (Or.inl ⟨by rfl, ?hy9_21⟩) ⟨by2.out.c0, by2.out.c1, by2.out.c2, by2.out.c3, by2.out.c4, by2.out.c5⟩ ?rest9_21
            case hy9_21 =>
              rintro w0 ⟨c0, c1, c2, c3, c4, c5⟩
              go_simp
              all_goals with_reducible rfl
            try simp only [Act.put, List.setIfInBounds_toArray, List.set_cons_zero, List.set_cons_succ]
            refine wpAnyH_done (by kernel_rfl) ?_ _
            go_wp2
            go_meet
            exact ⟨rfl, bf⟩
          exact AllReadyH.nil
        exact AllReadyH.nil
      exact AllReadyH.nil
    refine AllReadyH.cons (o := Oper.mk _ _ _ _ _ _) rfl (fun K hK => ?_) ?_
    · skip
      refine step_pairs2 elemP rfl (.const (.int .i64 2)) (.const (.int .i64 2)) rfl rfl rfl (by omega) ?_
      intro gM U22 hgM hlt lp hb
      have lp := Lib.hid lp
      replace hb : Below W0.heap.size W0 U22 := by rw [← hgM]; exact hb
      replace bx := Lib.hid (bx.out.below hb)
      replace ho := Lib.hid (ho.out.below hb)
      replace bb := Lib.hid (bb.out.trans (hb.mono bb.out.size))
      clear hb hlt hgM
      refine hK.out _ _ ⟨bx.out.c0, bx.out.c1, bx.out.c2, bx.out.c3, bx.out.c4, bx.out.c5⟩ (fun _ => ?_)
      clear hK K
      try simp only [Act.put, List.setIfInBounds_toArray, List.set_cons_zero, List.set_cons_succ]
      refine wpAnyH_ready (rs := [1, 7]) (by kernel_rfl) (by simp) ?_
      refine AllReadyH.cons (o := Oper.mk _ _ _ _ _ _) rfl (fun K hK => ?_) ?_
      · skip
        go_simp
        obtain ⟨U23, hU⟩ : ∃ V, V = U22.alloc (.cells #[.int .i64 1, .int .i64 1] 3) := ⟨_, rfl⟩
        have hb : Below U22.heap.size U22 U23 := by rw [hU]; exact (Below.refl _ _).alloc (Nat.le_refl _) _
        have li := Lib.hid (show Lst .i64 U23 (some ⟨U22.heap.size, 0, none⟩) [1, 1] by rw [hU]; exact lst_two U22 1 1 3)
        obtain ⟨gL, hgL⟩ : ∃ g, g = U22.heap.size := ⟨_, rfl⟩
        try rw [← hU]
        rw [← hgL] at li ⊢
        clear hU hgL
        replace bx := Lib.hid (bx.out.below hb)
        replace ho := Lib.hid (ho.out.below hb)
        replace lp := Lib.hid (lp.out.below hb)
        replace bb := Lib.hid (bb.out.trans (hb.mono bb.out.size))
        clear hb
        refine hK.out _ _ ⟨bx.out.c0, bx.out.c1, bx.out.c2, bx.out.c3, bx.out.c4, bx.out.c5⟩ (fun _ => ?_)
        clear hK K
        try simp only [Act.put, List.setIfInBounds_toArray, List.set_cons_zero, List.set_cons_succ]
        refine wpAnyH_ready (rs := [3, 7]) (by kernel_rfl) (by simp) ?_
        refine AllReadyH.cons (o := Oper.mk _ _ _ _ _ _) rfl (fun K hK => ?_) ?_
        · skip
          go_simp
          refine (CF1.out A11 (some ⟨gL, 0, none⟩) 2 (some ⟨gM, 0, none⟩) 2 _ ho.out (TB0.out.below (BB.out.trans (bb.out.mono BB.out.size))) li.out lp.out).mono ?_
          rintro e U24 ⟨A14, rfl, own, hb⟩
          replace bx := Lib.hid (bx.out.below hb)
          replace ho := Lib.hid (ho.out.below hb)
          replace lp := Lib.hid (lp.out.below hb)
          replace li := Lib.hid (li.out.below hb)
          replace bb := Lib.hid (bb.out.trans (hb.mono bb.out.size))
          clear hb own
          unfold slv
          go_wp2_with fail
          refine hK.out _ _ ⟨bx.out.c0, bx.out.c1, bx.out.c2, bx.out.c3, bx.out.c4, bx.out.c5⟩ (fun _ => ?_)
          clear hK K
          try simp only [Act.put, List.setIfInBounds_toArray, List.set_cons_zero, List.set_cons_succ]
          refine wpAnyH_take (i := 4) (oi := Oper.mk _ _ _ _ _ _) (v := ?v4_25) rfl (by kernel_rfl) (by kernel_rfl) (by kernel_rfl) (fun _ _ _ h => h) (Or.inl ⟨by rfl, ?hy4_25⟩) ⟨bx.out.c0, bx.out.c1, bx.out.c2, bx.out.c3, bx.out.c4, bx.out.c5⟩ ?rest4_25
          case hy4_25 =>
            rintro w0 ⟨c0, c1, c2, c3, c4, c5⟩
            go_simp
            all_goals with_reducible rfl
          try simp only [Act.put, List.setIfInBounds_toArray, List.set_cons_zero, List.set_cons_succ]
          refine wpAnyH_take (i := 5) (oi := Oper.mk _ _ _ _ _ _) (v := ?v5_26) rfl (by kernel_rfl) (by kernel_rfl) (by kernel_rfl) (fun _ _ _ h => h) (Or.inl ⟨by rfl, ?hy5_26⟩) ⟨bx.out.c0, bx.out.c1, bx.out.c2, bx.out.c3, bx.out.c4, bx.out.c5⟩ ?rest5_26
          case hy5_26 =>
            rintro w0 ⟨c0, c1, c2, c3, c4, c5⟩
            go_simp
            all_goals with_reducible rfl
          try simp only [Act.put, List.setIfInBounds_toArray, List.set_cons_zero, List.set_cons_succ]
          refine wpAnyH_take (i := 6) (oi := Oper.mk _ _ _ _ _ _) (v := ?v6_27) rfl (by kernel_rfl) (by kernel_rfl) (by kernel_rfl) (fun _ _ _ h => h) (Or.inl ⟨by rfl, ?hy6_27⟩) ⟨bx.out.c0, bx.out.c1, bx.out.c2, bx.out.c3, bx.out.c4, bx.out.c5⟩ ?rest6_27
          case hy6_27 =>
            rintro w0 ⟨c0, c1, c2, c3, c4, c5⟩
            go_simp
            all_goals with_reducible rfl
          try simp only [Act.put, List.setIfInBounds_toArray, List.set_cons_zero, List.set_cons_succ]
          refine wpAnyH_ready (rs := [7]) (by kernel_rfl) (by simp) ?_
          refine AllReadyH.cons (o := Oper.mk _ _ _ _ _ _) rfl (fun K hK => ?_) ?_
          · skip
            go_simp
            obtain ⟨U28, hU⟩ : ∃ V, V = U24.alloc (.cells #[.int .i64 0, .slice none 0 0, .slice none 0 0, .slice none 0 0, .slice none 0 0, .int .u64 0] 27) := ⟨_, rfl⟩
            have hb : Below U24.heap.size U24 U28 := by rw [hU]; exact (Below.refl _ _).alloc (Nat.le_refl _) _
            have bz := Lib.hid (show Box U28 U24.heap.size Sl.none adsNone by rw [hU]; exact Box.new U24 Sl.none adsNone 27)
            have gXb : V13.heap.size ≤ U24.heap.size := bb.out.size
            obtain ⟨gX, hgX⟩ : ∃ g, g = U24.heap.size := ⟨_, rfl⟩
            try rw [← hU]
            rw [← hgX] at bz gXb ⊢
            clear hU
            replace bx := Lib.hid (bx.out.below hb)
            replace ho := Lib.hid (ho.out.below hb)
            replace lp := Lib.hid (lp.out.below hb)
            replace li := Lib.hid (li.out.below hb)
            replace bb := Lib.hid (bb.out.trans (hb.mono bb.out.size))
            clear hb hgX
            refine hK.out _ _ ⟨bx.out.c0, bx.out.c1, bx.out.c2, bx.out.c3, bx.out.c4, bx.out.c5⟩ (fun _ => ?_)
            clear hK K
            try simp only [Act.put, List.setIfInBounds_toArray, List.set_cons_zero, List.set_cons_succ]
            obtain ⟨_, s0, s1, s2, s3', s4', s5', sf⟩ := bz.out
            have sf0 := sf 0
            have sf1 := sf 1
            have sf2 := sf 2
            have sf3 := sf 3
            have sf4 := sf 4
            have sf5 := sf 5
            clear sf
            dsimp only [Sl.none, adsNone, List.length_nil] at s0 s1 s2 s3' s4' s5'
            refine wpAnyH_ready (rs := [8]) (by kernel_rfl) (by simp) ?_
            refine AllReadyH.cons (o := Oper.mk _ _ _ _ _ _) rfl (fun K hK => ?_) AllReadyH.nil
            go_simp
            have by2 := Lib.hid (bx.out.put6o (g' := gX) (by omega) (.int .i64 x7.seg) (.slice A14.w x7.words.length A14.cw) (.slice A14.k x7.keys.length A14.ck) (.slice A14.v x7.vals.length A14.cv) (.slice A14.c x7.counts.length A14.cc) (.int .u64 (x7.laid : Int)))
            have bf := below_put6 bb.out gXb (.int .i64 x7.seg) (.slice A14.w x7.words.length A14.cw) (.slice A14.k x7.keys.length A14.ck) (.slice A14.v x7.vals.length A14.cv) (.slice A14.c x7.counts.length A14.cc) (.int .u64 (x7.laid : Int))
            refine hK.out _ _ ⟨by2.out.c0, by2.out.c1, by2.out.c2, by2.out.c3, by2.out.c4, by2.out.c5⟩ (fun _ => ?_)
            clear hK K
            try simp only [Act.put, List.setIfInBounds_toArray, List.set_cons_zero, List.set_cons_succ]
            refine wpAnyH_take (i := 9) (oi := Oper.mk _ _ _ _ _ _) (v := ?v9_29) rfl (by kernel_rfl) (by kernel_rfl) (by kernel_rfl) (fun _ _ _ h => h) (Or.inl ⟨by rfl, ?hy9_29⟩) ⟨by2.out.c0, by2.out.c1, by2.out.c2, by2.out.c3, by2.out.c4, by2.out.c5⟩ ?rest9_29
            case hy9_29 =>
              rintro w0 ⟨c0, c1, c2, c3, c4, c5⟩
              go_simp
              all_goals with_reducible rfl
            try simp only [Act.put, List.setIfInBounds_toArray, List.set_cons_zero, List.set_cons_succ]
            refine wpAnyH_done (by kernel_rfl) ?_ _
            go_wp2
            go_meet
            exact ⟨rfl, bf⟩
          exact AllReadyH.nil
        refine AllReadyH.cons (o := Oper.mk _ _ _ _ _ _) rfl (fun K hK => ?_) ?_
        · skip
          go_simp
          obtain ⟨U30, hU⟩ : ∃ V, V = U23.alloc (.cells #[.int .i64 0, .slice none 0 0, .slice none 0 0, .slice none 0 0, .slice none 0 0, .int .u64 0] 27) := ⟨_, rfl⟩
          have hb : Below U23.heap.size U23 U30 := by rw [hU]; exact (Below.refl _ _).alloc (Nat.le_refl _) _
          have bz := Lib.hid (show Box U30 U23.heap.size Sl.none adsNone by rw [hU]; exact Box.new U23 Sl.none adsNone 27)
          have gXb : V13.heap.size ≤ U23.heap.size := bb.out.size
          obtain ⟨gX, hgX⟩ : ∃ g, g = U23.heap.size := ⟨_, rfl⟩
          try rw [← hU]
          rw [← hgX] at bz gXb ⊢
          clear hU
          replace bx := Lib.hid (bx.out.below hb)
          replace ho := Lib.hid (ho.out.below hb)
          replace lp := Lib.hid (lp.out.below hb)
          replace li := Lib.hid (li.out.below hb)
          replace bb := Lib.hid (bb.out.trans (hb.mono bb.out.size))
          clear hb hgX
          refine hK.out _ _ ⟨bx.out.c0, bx.out.c1, bx.out.c2, bx.out.c3, bx.out.c4, bx.out.c5⟩ (fun _ => ?_)
          clear hK K
          try simp only [Act.put, List.setIfInBounds_toArray, List.set_cons_zero, List.set_cons_succ]
          refine wpAnyH_ready (rs := [3]) (by kernel_rfl) (by simp) ?_
          refine AllReadyH.cons (o := Oper.mk _ _ _ _ _ _) rfl (fun K hK => ?_) ?_
          · skip
            go_simp
            refine (CF1.out A11 (some ⟨gL, 0, none⟩) 2 (some ⟨gM, 0, none⟩) 2 _ ho.out (TB0.out.below (BB.out.trans (bb.out.mono BB.out.size))) li.out lp.out).mono ?_
            rintro e U31 ⟨A14, rfl, own, hb⟩
            replace bx := Lib.hid (bx.out.below hb)
            replace ho := Lib.hid (ho.out.below hb)
            replace lp := Lib.hid (lp.out.below hb)
            replace li := Lib.hid (li.out.below hb)
            replace bz := Lib.hid (bz.out.below hb)
            replace bb := Lib.hid (bb.out.trans (hb.mono bb.out.size))
            clear hb own
            unfold slv
            go_wp2_with fail
            refine hK.out _ _ ⟨bx.out.c0, bx.out.c1, bx.out.c2, bx.out.c3, bx.out.c4, bx.out.c5⟩ (fun _ => ?_)
            clear hK K
            try simp only [Act.put, List.setIfInBounds_toArray, List.set_cons_zero, List.set_cons_succ]
            refine wpAnyH_take (i := 4) (oi := Oper.mk _ _ _ _ _ _) (v := ?v4_32) rfl (by kernel_rfl) (by kernel_rfl) (by kernel_rfl) (fun _ _ _ h => h) (Or.inl ⟨by rfl, ?hy4_32⟩) ⟨bx.out.c0, bx.out.c1, bx.out.c2, bx.out.c3, bx.out.c4, bx.out.c5⟩ ?rest4_32
            case hy4_32 =>
              rintro w0 ⟨c0, c1, c2, c3, c4, c5⟩
              go_simp
              all_goals with_reducible rfl
            try simp only [Act.put, List.setIfInBounds_toArray, List.set_cons_zero, List.set_cons_succ]
            refine wpAnyH_take (i := 5) (oi := Oper.mk _ _ _ _ _ _) (v := ?v5_33) rfl (by kernel_rfl) (by kernel_rfl) (by kernel_rfl) (fun _ _ _ h => h) (Or.inl ⟨by rfl, ?hy5_33⟩) ⟨bx.out.c0, bx.out.c1, bx.out.c2, bx.out.c3, bx.out.c4, bx.out.c5⟩ ?rest5_33
            case hy5_33 =>
              rintro w0 ⟨c0, c1, c2, c3, c4, c5⟩
              go_simp
              all_goals with_reducible rfl
            try simp only [Act.put, List.setIfInBounds_toArray, List.set_cons_zero, List.set_cons_succ]
            refine wpAnyH_take (i := 6) (oi := Oper.mk _ _ _ _ _ _) (v := ?v6_34) rfl (by kernel_rfl) (by kernel_rfl) (by kernel_rfl) (fun _ _ _ h => h) (Or.inl ⟨by rfl, ?hy6_34⟩) ⟨bx.out.c0, bx.out.c1, bx.out.c2, bx.out.c3, bx.out.c4, bx.out.c5⟩ ?rest6_34
            case hy6_34 =>
              rintro w0 ⟨c0, c1, c2, c3, c4, c5⟩
              go_simp
              all_goals with_reducible rfl
            try simp only [Act.put, List.setIfInBounds_toArray, List.set_cons_zero, List.set_cons_succ]
            obtain ⟨_, s0, s1, s2, s3', s4', s5', sf⟩ := bz.out
            have sf0 := sf 0
            have sf1 := sf 1
            have sf2 := sf 2
            have sf3 := sf 3
            have sf4 := sf 4
            have sf5 := sf 5
            clear sf
            dsimp only [Sl.none, adsNone, List.length_nil] at s0 s1 s2 s3' s4' s5'
            refine wpAnyH_ready (rs := [8]) (by kernel_rfl) (by simp) ?_
            refine AllReadyH.cons (o := Oper.mk _ _ _ _ _ _) rfl (fun K hK => ?_) AllReadyH.nil
            go_simp
            have by2 := Lib.hid (bx.out.put6o (g' := gX) (by omega) (.int .i64 x7.seg) (.slice A14.w x7.words.length A14.cw) (.slice A14.k x7.keys.length A14.ck) (.slice A14.v x7.vals.length A14.cv) (.slice A14.c x7.counts.length A14.cc) (.int .u64 (x7.laid : Int)))
            have bf := below_put6 bb.out gXb (.int .i64 x7.seg) (.slice A14.w x7.words.length A14.cw) (.slice A14.k x7.keys.length A14.ck) (.slice A14.v x7.vals.length A14.cv) (.slice A14.c x7.counts.length A14.cc) (.int .u64 (x7.laid : Int))
            refine hK.out _ _ ⟨by2.out.c0, by2.out.c1, by2.out.c2, by2.out.c3, by2.out.c4, by2.out.c5⟩ (fun _ => ?_)
            clear hK K
            try simp only [Act.put, List.setIfInBounds_toArray, List.set_cons_zero, List.set_cons_succ]
            refine wpAnyH_take (i := 9) (oi := Oper.mk _ _ _ _ _ _) (v := ?v9_35) rfl (by kernel_rfl) (by kernel_rfl) (by kernel_rfl) (fun _ _ _ h => h) (Or.inl ⟨by rfl, ?hy9_35⟩) ⟨by2.out.c0, by2.out.c1, by2.out.c2, by2.out.c3, by2.out.c4, by2.out.c5⟩ ?rest9_35
            case hy9_35 =>
              rintro w0 ⟨c0, c1, c2, c3, c4, c5⟩
              go_simp
              all_goals with_reducible rfl
            try simp only [Act.put, List.setIfInBounds_toArray, List.set_cons_zero, List.set_cons_succ]
            refine wpAnyH_done (by kernel_rfl) ?_ _
            go_wp2
            go_meet
            exact ⟨rfl, bf⟩
          exact AllReadyH.nil
        exact AllReadyH.nil
      refine AllReadyH.cons (o := Oper.mk _ _ _ _ _ _) rfl (fun K hK => ?_) ?_
      · skip
        go_simp
        obtain ⟨U36, hU⟩ : ∃ V, V = U22.alloc (.cells #[.int .i64 0, .slice none 0 0, .slice none 0 0, .slice none 0 0, .slice none 0 0, .int .u64 0] 27) := ⟨_, rfl⟩
        have hb : Below U22.heap.size U22 U36 := by rw [hU]; exact (Below.refl _ _).alloc (Nat.le_refl _) _
        have bz := Lib.hid (show Box U36 U22.heap.size Sl.none adsNone by rw [hU]; exact Box.new U22 Sl.none adsNone 27)
        have gXb : V13.heap.size ≤ U22.heap.size := bb.out.size
        obtain ⟨gX, hgX⟩ : ∃ g, g = U22.heap.size := ⟨_, rfl⟩
        try rw [← hU]
        rw [← hgX] at bz gXb ⊢
        clear hU
        replace bx := Lib.hid (bx.out.below hb)
        replace ho := Lib.hid (ho.out.below hb)
        replace lp := Lib.hid (lp.out.below hb)
        replace bb := Lib.hid (bb.out.trans (hb.mono bb.out.size))
        clear hb hgX
        refine hK.out _ _ ⟨bx.out.c0, bx.out.c1, bx.out.c2, bx.out.c3, bx.out.c4, bx.out.c5⟩ (fun _ => ?_)
        clear hK K
        try simp only [Act.put, List.setIfInBounds_toArray, List.set_cons_zero, List.set_cons_succ]
        refine wpAnyH_ready (rs := [1]) (by kernel_rfl) (by simp) ?_
        refine AllReadyH.cons (o := Oper.mk _ _ _ _ _ _) rfl (fun K hK => ?_) ?_
        · skip
          go_simp
          obtain ⟨U37, hU⟩ : ∃ V, V = U36.alloc (.cells #[.int .i64 1, .int .i64 1] 3) := ⟨_, rfl⟩
          have hb : Below U36.heap.size U36 U37 := by rw [hU]; exact (Below.refl _ _).alloc (Nat.le_refl _) _
          have li := Lib.hid (show Lst .i64 U37 (some ⟨U36.heap.size, 0, none⟩) [1, 1] by rw [hU]; exact lst_two U36 1 1 3)
          obtain ⟨gL, hgL⟩ : ∃ g, g = U36.heap.size := ⟨_, rfl⟩
          try rw [← hU]
          rw [← hgL] at li ⊢
          clear hU hgL
          replace bx := Lib.hid (bx.out.below hb)
          replace ho := Lib.hid (ho.out.below hb)
          replace lp := Lib.hid (lp.out.below hb)
          replace bz := Lib.hid (bz.out.below hb)
          replace bb := Lib.hid (bb.out.trans (hb.mono bb.out.size))
          clear hb
          refine hK.out _ _ ⟨bx.out.c0, bx.out.c1, bx.out.c2, bx.out.c3, bx.out.c4, bx.out.c5⟩ (fun _ => ?_)
          clear hK K
          try simp only [Act.put, List.setIfInBounds_toArray, List.set_cons_zero, List.set_cons_succ]
          refine wpAnyH_ready (rs := [3]) (by kernel_rfl) (by simp) ?_
          refine AllReadyH.cons (o := Oper.mk _ _ _ _ _ _) rfl (fun K hK => ?_) ?_
          · skip
            go_simp
            refine (CF1.out A11 (some ⟨gL, 0, none⟩) 2 (some ⟨gM, 0, none⟩) 2 _ ho.out (TB0.out.below (BB.out.trans (bb.out.mono BB.out.size))) li.out lp.out).mono ?_
            rintro e U38 ⟨A14, rfl, own, hb⟩
            replace bx := Lib.hid (bx.out.below hb)
            replace ho := Lib.hid (ho.out.below hb)
            replace lp := Lib.hid (lp.out.below hb)
            replace bz := Lib.hid (bz.out.below hb)
            replace li := Lib.hid (li.out.below hb)
            replace bb := Lib.hid (bb.out.trans (hb.mono bb.out.size))
            clear hb own
            unfold slv
            go_wp2_with fail
            refine hK.out _ _ ⟨bx.out.c0, bx.out.c1, bx.out.c2, bx.out.c3, bx.out.c4, bx.out.c5⟩ (fun _ => ?_)
            clear hK K
            try simp only [Act.put, List.setIfInBounds_toArray, List.set_cons_zero, List.set_cons_succ]
            refine wpAnyH_take (i := 4) (oi := Oper.mk _ _ _ _ _ _) (v := ?v4_39) rfl (by kernel_rfl) (by kernel_rfl) (by kernel_rfl) (fun _ _ _ h => h) (Or.inl ⟨by rfl, ?hy4_39⟩) ⟨bx.out.c0, bx.out.c1, bx.out.c2, bx.out.c3, bx.out.c4, bx.out.c5⟩ ?rest4_39
            case hy4_39 =>
              rintro w0 ⟨c0, c1, c2, c3, c4, c5⟩
              go_simp
              all_goals with_reducible rfl
            try simp only [Act.put, List.setIfInBounds_toArray, List.set_cons_zero, List.set_cons_succ]
            refine wpAnyH_take (i := 5) (oi := Oper.mk _ _ _ _ _ _) (v := ?v5_40) rfl (by kernel_rfl) (by kernel_rfl) (by kernel_rfl) (fun _ _ _ h => h) (Or.inl ⟨by rfl, ?hy5_40⟩) ⟨bx.out.c0, bx.out.c1, bx.out.c2, bx.out.c3, bx.out.c4, bx.out.c5⟩ ?rest5_40
            case hy5_40 =>
              rintro w0 ⟨c0, c1, c2, c3, c4, c5⟩
              go_simp
              all_goals with_reducible rfl
            try simp only [Act.put, List.setIfInBounds_toArray, List.set_cons_zero, List.set_cons_succ]
            refine wpAnyH_take (i := 6) (oi := Oper.mk _ _ _ _ _ _) (v := ?v6_41) rfl (by kernel_rfl) (by kernel_rfl) (by kernel_rfl) (fun _ _ _ h => h) (Or.inl ⟨by rfl, ?hy6_41⟩) ⟨bx.out.c0, bx.out.c1, bx.out.c2, bx.out.c3, bx.out.c4, bx.out.c5⟩ ?rest6_41
            case hy6_41 =>
              rintro w0 ⟨c0, c1, c2, c3, c4, c5⟩
              go_simp
              all_goals with_reducible rfl
            try simp only [Act.put, List.setIfInBounds_toArray, List.set_cons_zero, List.set_cons_succ]
            obtain ⟨_, s0, s1, s2, s3', s4', s5', sf⟩ := bz.out
            have sf0 := sf 0
            have sf1 := sf 1
            have sf2 := sf 2
            have sf3 := sf 3
            have sf4 := sf 4
            have sf5 := sf 5
            clear sf
            dsimp only [Sl.none, adsNone, List.length_nil] at s0 s1 s2 s3' s4' s5'
            refine wpAnyH_ready (rs := [8]) (by kernel_rfl) (by simp) ?_
            refine AllReadyH.cons (o := Oper.mk _ _ _ _ _ _) rfl (fun K hK => ?_) AllReadyH.nil
            go_simp
            have by2 := Lib.hid (bx.out.put6o (g' := gX) (by omega) (.int .i64 x7.seg) (.slice A14.w x7.words.length A14.cw) (.slice A14.k x7.keys.length A14.ck) (.slice A14.v x7.vals.length A14.cv) (.slice A14.c x7.counts.length A14.cc) (.int .u64 (x7.laid : Int)))
            have bf := below_put6 bb.out gXb (.int .i64 x7.seg) (.slice A14.w x7.words.length A14.cw) (.slice A14.k x7.keys.length A14.ck) (.slice A14.v x7.vals.length A14.cv) (.slice A14.c x7.counts.length A14.cc) (.int .u64 (x7.laid : Int))
            refine hK.out _ _ ⟨by2.out.c0, by2.out.c1, by2.out.c2, by2.out.c3, by2.out.c4, by2.out.c5⟩ (fun _ => ?_)
            clear hK K
            try simp only [Act.put, List.setIfInBounds_toArray, List.set_cons_zero, List.set_cons_succ]
            refine wpAnyH_take (i := 9) (oi := Oper.mk _ _ _ _ _ _) (v := ?v9_42) rfl (by kernel_rfl) (by kernel_rfl) (by kernel_rfl) (fun _ _ _ h => h) (Or.inl ⟨by rfl, ?hy9_42⟩) ⟨by2.out.c0, by2.out.c1, by2.out.c2, by2.out.c3, by2.out.c4, by2.out.c5⟩ ?rest9_42
            case hy9_42 =>
              rintro w0 ⟨c0, c1, c2, c3, c4, c5⟩
              go_simp
              all_goals with_reducible rfl
            try simp only [Act.put, List.setIfInBounds_toArray, List.set_cons_zero, List.set_cons_succ]
            refine wpAnyH_done (by kernel_rfl) ?_ _
            go_wp2
            go_meet
            exact ⟨rfl, bf⟩
          exact AllReadyH.nil
        exact AllReadyH.nil
      exact AllReadyH.nil
    refine AllReadyH.cons (o := Oper.mk _ _ _ _ _ _) rfl (fun K hK => ?_) ?_
    · skip
      go_simp
      obtain ⟨U43, hU⟩ : ∃ V, V = W0.alloc (.cells #[.int .i64 0, .slice none 0 0, .slice none 0 0, .slice none 0 0, .slice none 0 0, .int .u64 0] 27) := ⟨_, rfl⟩
      have hb : Below W0.heap.size W0 U43 := by rw [hU]; exact (Below.refl _ _).alloc (Nat.le_refl _) _
      have bz := Lib.hid (show Box U43 W0.heap.size Sl.none adsNone by rw [hU]; exact Box.new W0 Sl.none adsNone 27)
      have gXb : V13.heap.size ≤ W0.heap.size := bb.out.size
      obtain ⟨gX, hgX⟩ : ∃ g, g = W0.heap.size := ⟨_, rfl⟩
      try rw [← hU]
      rw [← hgX] at bz gXb ⊢
      clear hU
      replace bx := Lib.hid (bx.out.below hb)
      replace ho := Lib.hid (ho.out.below hb)
      replace bb := Lib.hid (bb.out.trans (hb.mono bb.out.size))
      clear hb hgX
      refine hK.out _ _ ⟨bx.out.c0, bx.out.c1, bx.out.c2, bx.out.c3, bx.out.c4, bx.out.c5⟩ (fun _ => ?_)
      clear hK K
      try simp only [Act.put, List.setIfInBounds_toArray, List.set_cons_zero, List.set_cons_succ]
      refine wpAnyH_ready (rs := [1, 2]) (by kernel_rfl) (by simp) ?_
      refine AllReadyH.cons (o := Oper.mk _ _ _ _ _ _) rfl (fun K hK => ?_) ?_
      · skip
        go_simp
        obtain ⟨U44, hU⟩ : ∃ V, V = U43.alloc (.cells #[.int .i64 1, .int .i64 1] 3) := ⟨_, rfl⟩
        have hb : Below U43.heap.size U43 U44 := by rw [hU]; exact (Below.refl _ _).alloc (Nat.le_refl _) _
        have li := Lib.hid (show Lst .i64 U44 (some ⟨U43.heap.size, 0, none⟩) [1, 1] by rw [hU]; exact lst_two U43 1 1 3)
        obtain ⟨gL, hgL⟩ : ∃ g, g = U43.heap.size := ⟨_, rfl⟩
        try rw [← hU]
        rw [← hgL] at li ⊢
        clear hU hgL
        replace bx := Lib.hid (bx.out.below hb)
        replace ho := Lib.hid (ho.out.below hb)
        replace bz := Lib.hid (bz.out.below hb)
        replace bb := Lib.hid (bb.out.trans (hb.mono bb.out.size))
        clear hb
        refine hK.out _ _ ⟨bx.out.c0, bx.out.c1, bx.out.c2, bx.out.c3, bx.out.c4, bx.out.c5⟩ (fun _ => ?_)
        clear hK K
        try simp only [Act.put, List.setIfInBounds_toArray, List.set_cons_zero, List.set_cons_succ]
        refine wpAnyH_ready (rs := [2]) (by kernel_rfl) (by simp) ?_
        refine AllReadyH.cons (o := Oper.mk _ _ _ _ _ _) rfl (fun K hK => ?_) ?_
        · skip
          refine step_pairs2 elemP rfl (.const (.int .i64 2)) (.const (.int .i64 2)) rfl rfl rfl (by omega) ?_
          intro gM U45 hgM hlt lp hb
          have lp := Lib.hid lp
          replace hb : Below U44.heap.size U44 U45 := by rw [← hgM]; exact hb
          replace bx := Lib.hid (bx.out.below hb)
          replace ho := Lib.hid (ho.out.below hb)
          replace bz := Lib.hid (bz.out.below hb)
          replace li := Lib.hid (li.out.below hb)
          replace bb := Lib.hid (bb.out.trans (hb.mono bb.out.size))
          clear hb hlt hgM
          refine hK.out _ _ ⟨bx.out.c0, bx.out.c1, bx.out.c2, bx.out.c3, bx.out.c4, bx.out.c5⟩ (fun _ => ?_)
          clear hK K
          try simp only [Act.put, List.setIfInBounds_toArray, List.set_cons_zero, List.set_cons_succ]
          refine wpAnyH_ready (rs := [3]) (by kernel_rfl) (by simp) ?_
          refine AllReadyH.cons (o := Oper.mk _ _ _ _ _ _) rfl (fun K hK => ?_) ?_
          · skip
            go_simp
            refine (CF1.out A11 (some ⟨gL, 0, none⟩) 2 (some ⟨gM, 0, none⟩) 2 _ ho.out (TB0.out.below (BB.out.trans (bb.out.mono BB.out.size))) li.out lp.out).mono ?_
            rintro e U46 ⟨A14, rfl, own, hb⟩
            replace bx := Lib.hid (bx.out.below hb)
            replace ho := Lib.hid (ho.out.below hb)
            replace bz := Lib.hid (bz.out.below hb)
            replace li := Lib.hid (li.out.below hb)
            replace lp := Lib.hid (lp.out.below hb)
            replace bb := Lib.hid (bb.out.trans (hb.mono bb.out.size))
            clear hb own
            unfold slv
            go_wp2_with fail
            refine hK.out _ _ ⟨bx.out.c0, bx.out.c1, bx.out.c2, bx.out.c3, bx.out.c4, bx.out.c5⟩ (fun _ => ?_)
            clear hK K
            try simp only [Act.put, List.setIfInBounds_toArray, List.set_cons_zero, List.set_cons_succ]
            refine wpAnyH_take (i := 4) (oi := Oper.mk _ _ _ _ _ _) (v := ?v4_47) rfl (by kernel_rfl) (by kernel_rfl) (by kernel_rfl) (fun _ _ _ h => h) (Or.inl ⟨by rfl, ?hy4_47⟩) ⟨bx.out.c0, bx.out.c1, bx.out.c2, bx.out.c3, bx.out.c4, bx.out.c5⟩ ?rest4_47
            case hy4_47 =>
              rintro w0 ⟨c0, c1, c2, c3, c4, c5⟩
              go_simp
              all_goals with_reducible rfl
            try simp only [Act.put, List.setIfInBounds_toArray, List.set_cons_zero, List.set_cons_succ]
            refine wpAnyH_take (i := 5) (oi := Oper.mk _ _ _ _ _ _) (v := ?v5_48) rfl (by kernel_rfl) (by kernel_rfl) (by kernel_rfl) (fun _ _ _ h => h) (Or.inl ⟨by rfl, ?hy5_48⟩) ⟨bx.out.c0, bx.out.c1, bx.out.c2, bx.out.c3, bx.out.c4, bx.out.c5⟩ ?rest5_48
            case hy5_48 =>
              rintro w0 ⟨c0, c1, c2, c3, c4, c5⟩
              go_simp
              all_goals with_reducible rfl
            try simp only [Act.put, List.setIfInBounds_toArray, List.set_cons_zero, List.set_cons_succ]
            refine wpAnyH_take (i := 6) (oi := Oper.mk _ _ _ _ _ _) (v := ?v6_49) rfl (by kernel_rfl) (by kernel_rfl) (by kernel_rfl) (fun _ _ _ h => h) (Or.inl ⟨by rfl, ?hy6_49⟩) ⟨bx.out.c0, bx.out.c1, bx.out.c2, bx.out.c3, bx.out.c4, bx.out.c5⟩ ?rest6_49
            case hy6_49 =>
              rintro w0 ⟨c0, c1, c2, c3, c4, c5⟩
              go_simp
              all_goals with_reducible rfl
            try simp only [Act.put, List.setIfInBounds_toArray, List.set_cons_zero, List.set_cons_succ]
            obtain ⟨_, s0, s1, s2, s3', s4', s5', sf⟩ := bz.out
            have sf0 := sf 0
            have sf1 := sf 1
            have sf2 := sf 2
            have sf3 := sf 3
            have sf4 := sf 4
            have sf5 := sf 5
            clear sf
            dsimp only [Sl.none, adsNone, List.length_nil] at s0 s1 s2 s3' s4' s5'
            refine wpAnyH_ready (rs := [8]) (by kernel_rfl) (by simp) ?_
            refine AllReadyH.cons (o := Oper.mk _ _ _ _ _ _) rfl (fun K hK => ?_) AllReadyH.nil
            go_simp
            have by2 := Lib.hid (bx.out.put6o (g' := gX) (by omega) (.int .i64 x7.seg) (.slice A14.w x7.words.length A14.cw) (.slice A14.k x7.keys.length A14.ck) (.slice A14.v x7.vals.length A14.cv) (.slice A14.c x7.counts.length A14.cc) (.int .u64 (x7.laid : Int)))
            have bf := below_put6 bb.out gXb (.int .i64 x7.seg) (.slice A14.w x7.words.length A14.cw) (.slice A14.k x7.keys.length A14.ck) (.slice A14.v x7.vals.length A14.cv) (.slice A14.c x7.counts.length A14.cc) (.int .u64 (x7.laid : Int))
            refine hK.out _ _ ⟨by2.out.c0, by2.out.c1, by2.out.c2, by2.out.c3, by2.out.c4, by2.out.c5⟩ (fun _ => ?_)
            clear hK K
            try simp only [Act.put, List.setIfInBounds_toArray, List.set_cons_zero, List.set_cons_succ]
            refine wpAnyH_take (i := 9) (oi := Oper.mk _ _ _ _ _ _) (v := ?v9_50) rfl (by kernel_rfl) (by kernel_rfl) (by kernel_rfl) (fun _ _ _ h => h) (Or.inl ⟨by rfl, ?hy9_50⟩) ⟨by2.out.c0, by2.out.c1, by2.out.c2, by2.out.c3, by2.out.c4, by2.out.c5⟩ ?rest9_50
            case hy9_50 =>
              rintro w0 ⟨c0, c1, c2, c3, c4, c5⟩
              go_simp
              all_goals with_reducible rfl
            try simp only [Act.put, List.setIfInBounds_toArray, List.set_cons_zero, List.set_cons_succ]
            refine wpAnyH_done (by kernel_rfl) ?_ _
            go_wp2
            go_meet
            exact ⟨rfl, bf⟩
          exact AllReadyH.nil
        exact AllReadyH.nil
      refine AllReadyH.cons (o := Oper.mk _ _ _ _ _ _) rfl (fun K hK => ?_) ?_
      · skip
        refine step_pairs2 elemP rfl (.const (.int .i64 2)) (.const (.int .i64 2)) rfl rfl rfl (by omega) ?_
        intro gM U51 hgM hlt lp hb
        have lp := Lib.hid lp
        replace hb : Below U43.heap.size U43 U51 := by rw [← hgM]; exact hb
        replace bx := Lib.hid (bx.out.below hb)
        replace ho := Lib.hid (ho.out.below hb)
        replace bz := Lib.hid (bz.out.below hb)
        replace bb := Lib.hid (bb.out.trans (hb.mono bb.out.size))
        clear hb hlt hgM
        refine hK.out _ _ ⟨bx.out.c0, bx.out.c1, bx.out.c2, bx.out.c3, bx.out.c4, bx.out.c5⟩ (fun _ => ?_)
        clear hK K
        try simp only [Act.put, List.setIfInBounds_toArray, List.set_cons_zero, List.set_cons_succ]
        refine wpAnyH_ready (rs := [1]) (by kernel_rfl) (by simp) ?_
        refine AllReadyH.cons (o := Oper.mk _ _ _ _ _ _) rfl (fun K hK => ?_) ?_
        · skip
          go_simp
          obtain ⟨U52, hU⟩ : ∃ V, V = U51.alloc (.cells #[.int .i64 1, .int .i64 1] 3) := ⟨_, rfl⟩
          have hb : Below U51.heap.size U51 U52 := by rw [hU]; exact (Below.refl _ _).alloc (Nat.le_refl _) _
          have li := Lib.hid (show Lst .i64 U52 (some ⟨U51.heap.size, 0, none⟩) [1, 1] by rw [hU]; exact lst_two U51 1 1 3)
          obtain ⟨gL, hgL⟩ : ∃ g, g = U51.heap.size := ⟨_, rfl⟩
          try rw [← hU]
          rw [← hgL] at li ⊢
          clear hU hgL
          replace bx := Lib.hid (bx.out.below hb)
          replace ho := Lib.hid (ho.out.below hb)
          replace bz := Lib.hid (bz.out.below hb)
          replace lp := Lib.hid (lp.out.below hb)
          replace bb := Lib.hid (bb.out.trans (hb.mono bb.out.size))
          clear hb
          refine hK.out _ _ ⟨bx.out.c0, bx.out.c1, bx.out.c2, bx.out.c3, bx.out.c4, bx.out.c5⟩ (fun _ => ?_)
          clear hK K
          try simp only [Act.put, List.setIfInBounds_toArray, List.set_cons_zero, List.set_cons_succ]
          refine wpAnyH_ready (rs := [3]) (by kernel_rfl) (by simp) ?_
          refine AllReadyH.cons (o := Oper.mk _ _ _ _ _ _) rfl (fun K hK => ?_) ?_
          · skip
            go_simp
            refine (CF1.out A11 (some ⟨gL, 0, none⟩) 2 (some ⟨gM, 0, none⟩) 2 _ ho.out (TB0.out.below (BB.out.trans (bb.out.mono BB.out.size))) li.out lp.out).mono ?_
            rintro e U53 ⟨A14, rfl, own, hb⟩
            replace bx := Lib.hid (bx.out.below hb)
            replace ho := Lib.hid (ho.out.below hb)
            replace bz := Lib.hid (bz.out.below hb)
            replace lp := Lib.hid (lp.out.below hb)
            replace li := Lib.hid (li.out.below hb)
            replace bb := Lib.hid (bb.out.trans (hb.mono bb.out.size))
            clear hb own
            unfold slv
            go_wp2_with fail
            refine hK.out _ _ ⟨bx.out.c0, bx.out.c1, bx.out.c2, bx.out.c3, bx.out.c4, bx.out.c5⟩ (fun _ => ?_)
            clear hK K
            try simp only [Act.put, List.setIfInBounds_toArray, List.set_cons_zero, List.set_cons_succ]
            refine wpAnyH_take (i := 4) (oi := Oper.mk _ _ _ _ _ _) (v := ?v4_54) rfl (by kernel_rfl) (by kernel_rfl) (by kernel_rfl) (fun _ _ _ h => h) (Or.inl ⟨by rfl, ?hy4_54⟩) ⟨bx.out.c0, bx.out.c1, bx.out.c2, bx.out.c3, bx.out.c4, bx.out.c5⟩ ?rest4_54
            case hy4_54 =>
              rintro w0 ⟨c0, c1, c2, c3, c4, c5⟩
              go_simp
              all_goals with_reducible rfl
            try simp only [Act.put, List.setIfInBounds_toArray, List.set_cons_zero, List.set_cons_succ]
            refine wpAnyH_take (i := 5) (oi := Oper.mk _ _ _ _ _ _) (v := ?v5_55) rfl (by kernel_rfl) (by kernel_rfl) (by kernel_rfl) (fun _ _ _ h => h) (Or.inl ⟨by rfl, ?hy5_55⟩) ⟨bx.out.c0, bx.out.c1, bx.out.c2, bx.out.c3, bx.out.c4, bx.out.c5⟩ ?rest5_55
            case hy5_55 =>
              rintro w0 ⟨c0, c1, c2, c3, c4, c5⟩
              go_simp
              all_goals with_reducible rfl
            try simp only [Act.put, List.setIfInBounds_toArray, List.set_cons_zero, List.set_cons_succ]
            refine wpAnyH_take (i := 6) (oi := Oper.mk _ _ _ _ _ _) (v := ?v6_56) rfl (by kernel_rfl) (by kernel_rfl) (by kernel_rfl) (fun _ _ _ h => h) (Or.inl ⟨by rfl, ?hy6_56⟩) ⟨bx.out.c0, bx.out.c1, bx.out.c2, bx.out.c3, bx.out.c4, bx.out.c5⟩ ?rest6_56
            case hy6_56 =>
              rintro w0 ⟨c0, c1, c2, c3, c4, c5⟩
              go_simp
              all_goals with_reducible rfl
            try simp only [Act.put, List.setIfInBounds_toArray, List.set_cons_zero, List.set_cons_succ]
            obtain ⟨_, s0, s1, s2, s3', s4', s5', sf⟩ := bz.out
            have sf0 := sf 0
            have sf1 := sf 1
            have sf2 := sf 2
            have sf3 := sf 3
            have sf4 := sf 4
            have sf5 := sf 5
            clear sf
            dsimp only [Sl.none, adsNone, List.length_nil] at s0 s1 s2 s3' s4' s5'
            refine wpAnyH_ready (rs := [8]) (by kernel_rfl) (by simp) ?_
            refine AllReadyH.cons (o := Oper.mk _ _ _ _ _ _) rfl (fun K hK => ?_) AllReadyH.nil
            go_simp
            have by2 := Lib.hid (bx.out.put6o (g' := gX) (by omega) (.int .i64 x7.seg) (.slice A14.w x7.words.length A14.cw) (.slice A14.k x7.keys.length A14.ck) (.slice A14.v x7.vals.length A14.cv) (.slice A14.c x7.counts.length A14.cc) (.int .u64 (x7.laid : Int)))
            have bf := below_put6 bb.out gXb (.int .i64 x7.seg) (.slice A14.w x7.words.length A14.cw) (.slice A14.k x7.keys.length A14.ck) (.slice A14.v x7.vals.length A14.cv) (.slice A14.c x7.counts.length A14.cc) (.int .u64 (x7.laid : Int))
            refine hK.out _ _ ⟨by2.out.c0, by2.out.c1, by2.out.c2, by2.out.c3, by2.out.c4, by2.out.c5⟩ (fun _ => ?_)
            clear hK K
            try simp only [Act.put, List.setIfInBounds_toArray, List.set_cons_zero, List.set_cons_succ]
            refine wpAnyH_take (i := 9) (oi := Oper.mk _ _ _ _ _ _) (v := ?v9_57) rfl (by kernel_rfl) (by kernel_rfl) (by kernel_rfl) (fun _ _ _ h => h) (Or.inl ⟨by rfl, ?hy9_57⟩) ⟨by2.out.c0, by2.out.c1, by2.out.c2, by2.out.c3, by2.out.c4, by2.out.c5⟩ ?rest9_57
            case hy9_57 =>
              rintro w0 ⟨c0, c1, c2, c3, c4, c5⟩
              go_simp
              all_goals with_reducible rfl
            try simp only [Act.put, List.setIfInBounds_toArray, List.set_cons_zero, List.set_cons_succ]
            refine wpAnyH_done (by kernel_rfl) ?_ _
            go_wp2
            go_meet
            exact ⟨rfl, bf⟩
          exact AllReadyH.nil
        exact AllReadyH.nil
      exact AllReadyH.nil
    exact AllReadyH.nil
  case rest =>
   obtain ⟨rfl, hbx⟩ := hcut
   replace B10 := Lib.hid (B10.out.below hbx)
   replace B11 := Lib.hid (B11.out.below hbx)
   replace O11 := Lib.hid (O11.out.below hbx)
   replace B13 := Lib.hid (B13.out.below hbx)
   replace BB := Lib.hid (BB.out.trans (hbx.mono BB.out.size))
   clear hbx B6 O6 O10
   obtain ⟨_, p0, p1, p2, p3, p4, p5, _⟩ := B11.out
   have L1 := Lib.hid (lst_two wc 0 3 3)
   have L2 := Lib.hid (L1.out.below ((Below.refl _ _).alloc (Nat.le_refl _) (.cells #[.int .i64 8, .int .i64 0, .int .i64 9, .int .i64 0] 33)))
   have P2 := Lib.hid (show PLst _ (some ⟨wc.heap.size + 1, 0, none⟩) _ by have := plst_two (wc.alloc (.cells #[.int .i64 0, .int .i64 3] 3)) 8 0 9 0 33; rw [World.size_alloc] at this; exact this)
   have b2 := Lib.hid (((Below.refl wc.heap.size wc).alloc (Nat.le_refl _) (.cells #[.int .i64 0, .int .i64 3] 3)).alloc (by simp) (.cells #[.int .i64 8, .int .i64 0, .int .i64 9, .int .i64 0] 33))
   go_wp2_with fail
   refine (CF2.out A11 (some ⟨wc.heap.size, 0, none⟩) 2 (some ⟨wc.heap.size + 1, 0, none⟩) 2 _ (O11.out.below b2.out) (TB0.out.below (BB.out.trans (b2.out.mono BB.out.size))) L2.out P2.out).mono ?_
   rintro e w15 ⟨A15, rfl, own, hb0⟩
   have hb : Below wc.heap.size wc w15 := b2.out.trans (hb0.mono (by simp; omega))
   have C15 := Lib.hid own.counts.lst
   replace B10 := Lib.hid (B10.out.below hb)
   replace B13 := Lib.hid (B13.out.below hb)
   replace BB := Lib.hid (BB.out.trans (hb.mono BB.out.size))
   clear hb hb0 own p0 p1 p2 p3 p4 p5 L1 L2 P2 b2 B11 O11
   unfold slv
   go_upto_region 16 with (fail)
   obtain ⟨V15, hV⟩ : ∃ V, V = w15.alloc (.cells #[.int .i64 s5.seg, .slice A15.w s5.words.length A15.cw, .slice A15.k s5.keys.length A15.ck, .slice A15.v s5.vals.length A15.cv, .slice A15.c s5.counts.length A15.cc, .int .u64 (s5.laid : Int)] 27) := ⟨_, rfl⟩
   have hba : Below w15.heap.size w15 V15 := by rw [hV]; exact (Below.refl _ _).alloc (Nat.le_refl _) _
   have B15 := Lib.hid (show Box V15 w15.heap.size s5 A15 by rw [hV]; exact Box.new w15 s5 A15 27)
   rw [← hV]
   clear hV
   replace C15 := Lib.hid (C15.out.below hba)
   replace B10 := Lib.hid (B10.out.below hba)
   replace B13 := Lib.hid (B13.out.below hba)
   replace BB := Lib.hid (BB.out.trans (hba.mono BB.out.size))
   clear hba
   have r1 : V15.cell? ⟨w10.heap.size, 5, none⟩ = some (.int .u64 2) := by have := B10.out.c5; rw [D2.out] at this; exact this
   have r2 : V15.cell? ⟨w13.heap.size, 5, none⟩ = some (.int .u64 4) := by have := B13.out.c5; rw [D4.out] at this; exact this
   have r3 : V15.cell? ⟨w15.heap.size, 5, none⟩ = some (.int .u64 5) := by have := B15.out.c5; rw [D5.out] at this; exact this
   have r4 := B15.out.c4
   rw [K5.out] at r4 C15
   obtain ⟨bc, oc, ec, hc⟩ : ∃ b off, A15.c = some ⟨b, off, none⟩ ∧ V15.cell? ⟨b, off, none⟩ = some (.int .i64 2) := by
    rcases C15.out with h | ⟨b, off, h1, _, h3⟩
    · cases h
    · exact ⟨b, off, h1, h3 0 (by decide)⟩
   rw [ec] at r4
   clear ec C15
   simp only [List.length_cons, List.length_nil, Nat.zero_add] at r4
   go_upto_region 18 with (fail)
   clear r1 r2 r3 r4 hc B10 B13 B15
   go_cut [32] from 195 to 215 (fun s32 wx => s32 = .bool true ∧ Below V15.heap.size V15 wx)
   case first =>
    have bb := Lib.hid (Below.refl V15.heap.size V15).drew
    have TB := Lib.hid (TB0.out.below BB.out)
    refine wp_region_held_drew (S := fun _ => True) (by kernel_rfl) trivial (fun _ => ?_)
    refine wpAnyH_take (i := 0) (oi := Oper.mk _ _ _ _ _ _) (v := ?v0_58) rfl (by kernel_rfl) (by kernel_rfl) (by kernel_rfl) (fun _ _ _ h => h) (Or.inl ⟨by rfl, ?hy0_58⟩) trivial ?rest0_58
    case hy0_58 =>
     intro w0 _
     go_simp
     all_goals with_reducible rfl
    try simp only [Act.put, List.setIfInBounds_toArray, List.set_cons_zero, List.set_cons_succ]
    obtain ⟨W0, hW0⟩ : ∃ V, V = V15.drew := ⟨_, rfl⟩
    rw [← hW0] at bb ⊢
    clear hW0
    refine wpAnyH_ready (rs := [1]) (by kernel_rfl) (by simp) ?_
    refine AllReadyH.cons (o := Oper.mk _ _ _ _ _ _) rfl (fun K hK => ?_) AllReadyH.nil
    go_simp
    refine (bad0 W0 (TB.out.below bb.out)).mono ?_
    rintro e W1 ⟨rfl, hb⟩
    replace bb := Lib.hid (bb.out.trans (hb.mono bb.out.size))
    clear hb
    go_wp2_with fail
    refine hK.out _ _ trivial (fun _ => ?_)
    clear hK K
    try simp only [Act.put, List.setIfInBounds_toArray, List.set_cons_zero, List.set_cons_succ]
    refine wpAnyH_take (i := 2) (oi := Oper.mk _ _ _ _ _ _) (v := ?v2_59) rfl (by kernel_rfl) (by kernel_rfl) (by kernel_rfl) (fun _ _ _ h => h) (Or.inl ⟨by rfl, ?hy2_59⟩) trivial ?rest2_59
    case hy2_59 =>
     intro w0 _
     go_simp
     all_goals with_reducible rfl
    try simp only [Act.put, List.setIfInBounds_toArray, List.set_cons_zero, List.set_cons_succ]
    refine wpAnyH_take (i := 3) (oi := Oper.mk _ _ _ _ _ _) (v := ?v3_60) rfl (by kernel_rfl) (by kernel_rfl) (by kernel_rfl) (fun _ _ _ h => h) (Or.inl ⟨by rfl, ?hy3_60⟩) trivial ?rest3_60
    case hy3_60 =>
     intro w0 _
     go_simp
     all_goals with_reducible rfl
    try simp only [Act.put, List.setIfInBounds_toArray, List.set_cons_zero, List.set_cons_succ]
    apply by_rest (B := Four V15 [1] [0, 0, 0, 0] [0, 0, 0, 0] [0])
    case main =>
     intro REST
     refine wpAnyH_ready (rs := [4, 5, 6, 7]) (by kernel_rfl) (by simp) ?_
     refine AllReadyH.cons (o := Oper.mk _ _ _ _ _ _) rfl (fun K hK => ?_) ?_
     ·
      refine step_lW 1 (by kernel_rfl) rfl ?_
      intro gW U61 eg hn hb
      have lw := Lib.hid hn
      replace bb := Lib.hid (bb.out.trans (hb.mono bb.out.size))
      clear hb hn eg
      refine hK.out _ _ trivial (fun _ => ?_)
      clear hK K
      refine wpAnyH_ready (rs := [5, 6, 7]) (by kernel_rfl) (by simp) ?_
      refine AllReadyH.cons (o := Oper.mk _ _ _ _ _ _) rfl (fun K hK => ?_) ?_
      ·
       refine step_zerosG elemK (by kernel_rfl) (.const (.int .i64 4)) (.const (.int .i64 4)) rfl 4 rfl rfl (by omega) (by unfold maxLen; omega) ?_
       intro gK U62 eg hlt hn hb
       have lk := Lib.hid hn.lst
       replace hb : Below U61.heap.size U61 U62 := by rw [← eg]; exact hb
       replace lw := Lib.hid (lw.out.below hb)
       replace bb := Lib.hid (bb.out.trans (hb.mono bb.out.size))
       clear hb hlt hn eg
       refine hK.out _ _ trivial (fun _ => ?_)
       clear hK K
       refine wpAnyH_ready (rs := [6, 7]) (by kernel_rfl) (by simp) ?_
       refine AllReadyH.cons (o := Oper.mk _ _ _ _ _ _) rfl (fun K hK => ?_) ?_
       ·
        refine step_zerosG elemK (by kernel_rfl) (.const (.int .i64 4)) (.const (.int .i64 4)) rfl 4 rfl rfl (by omega) (by unfold maxLen; omega) ?_
        intro gV U63 eg hlt hn hb
        have lv := Lib.hid hn.lst
        replace hb : Below U62.heap.size U62 U63 := by rw [← eg]; exact hb
        replace lw := Lib.hid (lw.out.below hb)
        replace lk := Lib.hid (lk.out.below hb)
        replace bb := Lib.hid (bb.out.trans (hb.mono bb.out.size))
        clear hb hlt hn eg
        refine hK.out _ _ trivial (fun _ => ?_)
        clear hK K
        refine wpAnyH_ready (rs := [7]) (by kernel_rfl) (by simp) ?_
        refine AllReadyH.cons (o := Oper.mk _ _ _ _ _ _) rfl (fun K hK => ?_) ?_
        ·
         refine step_lI 0 (by kernel_rfl) rfl ?_
         intro gC U64 eg hn hb
         have lc := Lib.hid hn
         replace lw := Lib.hid (lw.out.below hb)
         replace lk := Lib.hid (lk.out.below hb)
         replace lv := Lib.hid (lv.out.below hb)
         replace bb := Lib.hid (bb.out.trans (hb.mono bb.out.size))
         clear hb hn eg
         refine hK.out _ _ trivial (fun _ => ?_)
         clear hK K
         exact REST gW gK gV gC U64 ⟨lw.out, lk.out, lv.out, lc.out, bb.out⟩
        exact AllReadyH.nil
       refine AllReadyH.cons (o := Oper.mk _ _ _ _ _ _) rfl (fun K hK => ?_) ?_
       ·
        refine step_lI 0 (by kernel_rfl) rfl ?_
        intro gC U65 eg hn hb
        have lc := Lib.hid hn
        replace lw := Lib.hid (lw.out.below hb)
        replace lk := Lib.hid (lk.out.below hb)
        replace bb := Lib.hid (bb.out.trans (hb.mono bb.out.size))
        clear hb hn eg
        refine hK.out _ _ trivial (fun _ => ?_)
        clear hK K
        refine wpAnyH_ready (rs := [6]) (by kernel_rfl) (by simp) ?_
        refine AllReadyH.cons (o := Oper.mk _ _ _ _ _ _) rfl (fun K hK => ?_) ?_
        ·
         refine step_zerosG elemK (by kernel_rfl) (.const (.int .i64 4)) (.const (.int .i64 4)) rfl 4 rfl rfl (by omega) (by unfold maxLen; omega) ?_
         intro gV U66 eg hlt hn hb
         have lv := Lib.hid hn.lst
         replace hb : Below U65.heap.size U65 U66 := by rw [← eg]; exact hb
         replace lw := Lib.hid (lw.out.below hb)
         replace lk := Lib.hid (lk.out.below hb)
         replace lc := Lib.hid (lc.out.below hb)
         replace bb := Lib.hid (bb.out.trans (hb.mono bb.out.size))
         clear hb hlt hn eg
         refine hK.out _ _ trivial (fun _ => ?_)
         clear hK K
         exact by_state (by kernel_rfl) (by kernel_rfl) (REST gW gK gV gC U66 ⟨lw.out, lk.out, lv.out, lc.out, bb.out⟩)
        exact AllReadyH.nil
       exact AllReadyH.nil
      refine AllReadyH.cons (o := Oper.mk _ _ _ _ _ _) rfl (fun K hK => ?_) ?_
      ·
       refine step_zerosG elemK (by kernel_rfl) (.const (.int .i64 4)) (.const (.int .i64 4)) rfl 4 rfl rfl (by omega) (by unfold maxLen; omega) ?_
       intro gV U67 eg hlt hn hb
       have lv := Lib.hid hn.lst
       replace hb : Below U61.heap.size U61 U67 := by rw [← eg]; exact hb
       replace lw := Lib.hid (lw.out.below hb)
       replace bb := Lib.hid (bb.out.trans (hb.mono bb.out.size))
       clear hb hlt hn eg
       refine hK.out _ _ trivial (fun _ => ?_)
       clear hK K
       refine wpAnyH_ready (rs := [5, 7]) (by kernel_rfl) (by simp) ?_
       refine AllReadyH.cons (o := Oper.mk _ _ _ _ _ _) rfl (fun K hK => ?_) ?_
       ·
        refine step_zerosG elemK (by kernel_rfl) (.const (.int .i64 4)) (.const (.int .i64 4)) rfl 4 rfl rfl (by omega) (by unfold maxLen; omega) ?_
        intro gK U68 eg hlt hn hb
        have lk := Lib.hid hn.lst
        replace hb : Below U67.heap.size U67 U68 := by rw [← eg]; exact hb
        replace lw := Lib.hid (lw.out.below hb)
        replace lv := Lib.hid (lv.out.below hb)
        replace bb := Lib.hid (bb.out.trans (hb.mono bb.out.size))
        clear hb hlt hn eg
        refine hK.out _ _ trivial (fun _ => ?_)
        clear hK K
        refine wpAnyH_ready (rs := [7]) (by kernel_rfl) (by simp) ?_
        refine AllReadyH.cons (o := Oper.mk _ _ _ _ _ _) rfl (fun K hK => ?_) ?_
        ·
         refine step_lI 0 (by kernel_rfl) rfl ?_
         intro gC U69 eg hn hb
         have lc := Lib.hid hn
         replace lw := Lib.hid (lw.out.below hb)
         replace lv := Lib.hid (lv.out.below hb)
         replace lk := Lib.hid (lk.out.below hb)
         replace bb := Lib.hid (bb.out.trans (hb.mono bb.out.size))
         clear hb hn eg
         refine hK.out _ _ trivial (fun _ => ?_)
         clear hK K
         exact by_state (by kernel_rfl) (by kernel_rfl) (REST gW gK gV gC U69 ⟨lw.out, lk.out, lv.out, lc.out, bb.out⟩)
        exact AllReadyH.nil
       refine AllReadyH.cons (o := Oper.mk _ _ _ _ _ _) rfl (fun K hK => ?_) ?_
       ·
        refine step_lI 0 (by kernel_rfl) rfl ?_
        intro gC U70 eg hn hb
        have lc := Lib.hid hn
        replace lw := Lib.hid (lw.out.below hb)
        replace lv := Lib.hid (lv.out.below hb)
        replace bb := Lib.hid (bb.out.trans (hb.mono bb.out.size))
        clear hb hn eg
        refine hK.out _ _ trivial (fun _ => ?_)
        clear hK K
        refine wpAnyH_ready (rs := [5]) (by kernel_rfl) (by simp) ?_
        refine AllReadyH.cons (o := Oper.mk _ _ _ _ _ _) rfl (fun K hK => ?_) ?_
        ·
         refine step_zerosG elemK (by kernel_rfl) (.const (.int .i64 4)) (.const (.int .i64 4)) rfl 4 rfl rfl (by omega) (by unfold maxLen; omega) ?_
         intro gK U71 eg hlt hn hb
         have lk := Lib.hid hn.lst
         replace hb : Below U70.heap.size U70 U71 := by rw [← eg]; exact hb
         replace lw := Lib.hid (lw.out.below hb)
         replace lv := Lib.hid (lv.out.below hb)
         replace lc := Lib.hid (lc.out.below hb)
         replace bb := Lib.hid (bb.out.trans (hb.mono bb.out.size))
         clear hb hlt hn eg
         refine hK.out _ _ trivial (fun _ => ?_)
         clear hK K
         exact by_state (by kernel_rfl) (by kernel_rfl) (REST gW gK gV gC U71 ⟨lw.out, lk.out, lv.out, lc.out, bb.out⟩)
        exact AllReadyH.nil
       exact AllReadyH.nil
      refine AllReadyH.cons (o := Oper.mk _ _ _ _ _ _) rfl (fun K hK => ?_) ?_
      ·
       refine step_lI 0 (by kernel_rfl) rfl ?_
       intro gC U72 eg hn hb
       have lc := Lib.hid hn
       replace lw := Lib.hid (lw.out.below hb)
       replace bb := Lib.hid (bb.out.trans (hb.mono bb.out.size))
       clear hb hn eg
       refine hK.out _ _ trivial (fun _ => ?_)
       clear hK K
       refine wpAnyH_ready (rs := [5, 6]) (by kernel_rfl) (by simp) ?_
       refine AllReadyH.cons (o := Oper.mk _ _ _ _ _ _) rfl (fun K hK => ?_) ?_
       ·
        refine step_zerosG elemK (by kernel_rfl) (.const (.int .i64 4)) (.const (.int .i64 4)) rfl 4 rfl rfl (by omega) (by unfold maxLen; omega) ?_
        intro gK U73 eg hlt hn hb
        have lk := Lib.hid hn.lst
        replace hb : Below U72.heap.size U72 U73 := by rw [← eg]; exact hb
        replace lw := Lib.hid (lw.out.below hb)
        replace lc := Lib.hid (lc.out.below hb)
        replace bb := Lib.hid (bb.out.trans (hb.mono bb.out.size))
        clear hb hlt hn eg
        refine hK.out _ _ trivial (fun _ => ?_)
        clear hK K
        refine wpAnyH_ready (rs := [6]) (by kernel_rfl) (by simp) ?_
        refine AllReadyH.cons (o := Oper.mk _ _ _ _ _ _) rfl (fun K hK => ?_) ?_
        ·
         refine step_zerosG elemK (by kernel_rfl) (.const (.int .i64 4)) (.const (.int .i64 4)) rfl 4 rfl rfl (by omega) (by unfold maxLen; omega) ?_
         intro gV U74 eg hlt hn hb
         have lv := Lib.hid hn.lst
         replace hb : Below U73.heap.size U73 U74 := by rw [← eg]; exact hb
         replace lw := Lib.hid (lw.out.below hb)
         replace lc := Lib.hid (lc.out.below hb)
         replace lk := Lib.hid (lk.out.below hb)
         replace bb := Lib.hid (bb.out.trans (hb.mono bb.out.size))
         clear hb hlt hn eg
         refine hK.out _ _ trivial (fun _ => ?_)
         clear hK K
         exact by_state (by kernel_rfl) (by kernel_rfl) (REST gW gK gV gC U74 ⟨lw.out, lk.out, lv.out, lc.out, bb.out⟩)
        exact AllReadyH.nil
       refine AllReadyH.cons (o := Oper.mk _ _ _ _ _ _) rfl (fun K hK => ?_) ?_
       ·
        refine step_zerosG elemK (by kernel_rfl) (.const (.int .i64 4)) (.const (.int .i64 4)) rfl 4 rfl rfl (by omega) (by unfold maxLen; omega) ?_
        intro gV U75 eg hlt hn hb
        have lv := Lib.hid hn.lst
        replace hb : Below U72.heap.size U72 U75 := by rw [← eg]; exact hb
        replace lw := Lib.hid (lw.out.below hb)
        replace lc := Lib.hid (lc.out.below hb)
        replace bb := Lib.hid (bb.out.trans (hb.mono bb.out.size))
        clear hb hlt hn eg
        refine hK.out _ _ trivial (fun _ => ?_)
        clear hK K
        refine wpAnyH_ready (rs := [5]) (by kernel_rfl) (by simp) ?_
        refine AllReadyH.cons (o := Oper.mk _ _ _ _ _ _) rfl (fun K hK => ?_) ?_
        ·
         refine step_zerosG elemK (by kernel_rfl) (.const (.int .i64 4)) (.const (.int .i64 4)) rfl 4 rfl rfl (by omega) (by unfold maxLen; omega) ?_
         intro gK U76 eg hlt hn hb
         have lk := Lib.hid hn.lst
         replace hb : Below U75.heap.size U75 U76 := by rw [← eg]; exact hb
         replace lw := Lib.hid (lw.out.below hb)
         replace lc := Lib.hid (lc.out.below hb)
         replace lv := Lib.hid (lv.out.below hb)
         replace bb := Lib.hid (bb.out.trans (hb.mono bb.out.size))
         clear hb hlt hn eg
         refine hK.out _ _ trivial (fun _ => ?_)
         clear hK K
         exact by_state (by kernel_rfl) (by kernel_rfl) (REST gW gK gV gC U76 ⟨lw.out, lk.out, lv.out, lc.out, bb.out⟩)
        exact AllReadyH.nil
       exact AllReadyH.nil
      exact AllReadyH.nil
     refine AllReadyH.cons (o := Oper.mk _ _ _ _ _ _) rfl (fun K hK => ?_) ?_
     ·
      refine step_zerosG elemK (by kernel_rfl) (.const (.int .i64 4)) (.const (.int .i64 4)) rfl 4 rfl rfl (by omega) (by unfold maxLen; omega) ?_
      intro gK U77 eg hlt hn hb
      have lk := Lib.hid hn.lst
      replace hb : Below W1.heap.size W1 U77 := by rw [← eg]; exact hb
      replace bb := Lib.hid (bb.out.trans (hb.mono bb.out.size))
      clear hb hlt hn eg
      refine hK.out _ _ trivial (fun _ => ?_)
      clear hK K
      refine wpAnyH_ready (rs := [4, 6, 7]) (by kernel_rfl) (by simp) ?_
      refine AllReadyH.cons (o := Oper.mk _ _ _ _ _ _) rfl (fun K hK => ?_) ?_
      ·
       refine step_lW 1 (by kernel_rfl) rfl ?_
       intro gW U78 eg hn hb
       have lw := Lib.hid hn
       replace lk := Lib.hid (lk.out.below hb)
       replace bb := Lib.hid (bb.out.trans (hb.mono bb.out.size))
       clear hb hn eg
       refine hK.out _ _ trivial (fun _ => ?_)
       clear hK K
       refine wpAnyH_ready (rs := [6, 7]) (by kernel_rfl) (by simp) ?_
       refine AllReadyH.cons (o := Oper.mk _ _ _ _ _ _) rfl (fun K hK => ?_) ?_
       ·
        refine step_zerosG elemK (by kernel_rfl) (.const (.int .i64 4)) (.const (.int .i64 4)) rfl 4 rfl rfl (by omega) (by unfold maxLen; omega) ?_
        intro gV U79 eg hlt hn hb
        have lv := Lib.hid hn.lst
        replace hb : Below U78.heap.size U78 U79 := by rw [← eg]; exact hb
        replace lk := Lib.hid (lk.out.below hb)
        replace lw := Lib.hid (lw.out.below hb)
        replace bb := Lib.hid (bb.out.trans (hb.mono bb.out.size))
        clear hb hlt hn eg
        refine hK.out _ _ trivial (fun _ => ?_)
        clear hK K
        refine wpAnyH_ready (rs := [7]) (by kernel_rfl) (by simp) ?_
        refine AllReadyH.cons (o := Oper.mk _ _ _ _ _ _) rfl (fun K hK => ?_) ?_
        ·
         refine step_lI 0 (by kernel_rfl) rfl ?_
         intro gC U80 eg hn hb
         have lc := Lib.hid hn
         replace lk := Lib.hid (lk.out.below hb)
         replace lw := Lib.hid (lw.out.below hb)
         replace lv := Lib.hid (lv.out.below hb)
         replace bb := Lib.hid (bb.out.trans (hb.mono bb.out.size))
         clear hb hn eg
         refine hK.out _ _ trivial (fun _ => ?_)
         clear hK K
         exact by_state (by kernel_rfl) (by kernel_rfl) (REST gW gK gV gC U80 ⟨lw.out, lk.out, lv.out, lc.out, bb.out⟩)
        exact AllReadyH.nil
       refine AllReadyH.cons (o := Oper.mk _ _ _ _ _ _) rfl (fun K hK => ?_) ?_
       ·
        refine step_lI 0 (by kernel_rfl) rfl ?_
        intro gC U81 eg hn hb
        have lc := Lib.hid hn
        replace lk := Lib.hid (lk.out.below hb)
        replace lw := Lib.hid (lw.out.below hb)
        replace bb := Lib.hid (bb.out.trans (hb.mono bb.out.size))
        clear hb hn eg
        refine hK.out _ _ trivial (fun _ => ?_)
        clear hK K
        refine wpAnyH_ready (rs := [6]) (by kernel_rfl) (by simp) ?_
        refine AllReadyH.cons (o := Oper.mk _ _ _ _ _ _) rfl (fun K hK => ?_) ?_
        ·
         refine step_zerosG elemK (by kernel_rfl) (.const (.int .i64 4)) (.const (.int .i64 4)) rfl 4 rfl rfl (by omega) (by unfold maxLen; omega) ?_
         intro gV U82 eg hlt hn hb
         have lv := Lib.hid hn.lst
         replace hb : Below U81.heap.size U81 U82 := by rw [← eg]; exact hb
         replace lk := Lib.hid (lk.out.below hb)
         replace lw := Lib.hid (lw.out.below hb)
         replace lc := Lib.hid (lc.out.below hb)
         replace bb := Lib.hid (bb.out.trans (hb.mono bb.out.size))
         clear hb hlt hn eg
         refine hK.out _ _ trivial (fun _ => ?_)
         clear hK K
         exact by_state (by kernel_rfl) (by kernel_rfl) (REST gW gK gV gC U82 ⟨lw.out, lk.out, lv.out, lc.out, bb.out⟩)
        exact AllReadyH.nil
       exact AllReadyH.nil
      refine AllReadyH.cons (o := Oper.mk _ _ _ _ _ _) rfl (fun K hK => ?_) ?_
      ·
       refine step_zerosG elemK (by kernel_rfl) (.const (.int .i64 4)) (.const (.int .i64 4)) rfl 4 rfl rfl (by omega) (by unfold maxLen; omega) ?_
       intro gV U83 eg hlt hn hb
       have lv := Lib.hid hn.lst
       replace hb : Below U77.heap.size U77 U83 := by rw [← eg]; exact hb
       replace lk := Lib.hid (lk.out.below hb)
       replace bb := Lib.hid (bb.out.trans (hb.mono bb.out.size))
       clear hb hlt hn eg
       refine hK.out _ _ trivial (fun _ => ?_)
       clear hK K
       refine wpAnyH_ready (rs := [4, 7]) (by kernel_rfl) (by simp) ?_
       refine AllReadyH.cons (o := Oper.mk _ _ _ _ _ _) rfl (fun K hK => ?_) ?_
       ·
        refine step_lW 1 (by kernel_rfl) rfl ?_
        intro gW U84 eg hn hb
        have lw := Lib.hid hn
        replace lk := Lib.hid (lk.out.below hb)
        replace lv := Lib.hid (lv.out.below hb)
        replace bb := Lib.hid (bb.out.trans (hb.mono bb.out.size))
        clear hb hn eg
        refine hK.out _ _ trivial (fun _ => ?_)
        clear hK K
        refine wpAnyH_ready (rs := [7]) (by kernel_rfl) (by simp) ?_
        refine AllReadyH.cons (o := Oper.mk _ _ _ _ _ _) rfl (fun K hK => ?_) ?_
        ·
         refine step_lI 0 (by kernel_rfl) rfl ?_
         intro gC U85 eg hn hb
         have lc := Lib.hid hn
         replace lk := Lib.hid (lk.out.below hb)
         replace lv := Lib.hid (lv.out.below hb)
         replace lw := Lib.hid (lw.out.below hb)
         replace bb := Lib.hid (bb.out.trans (hb.mono bb.out.size))
         clear hb hn eg
         refine hK.out _ _ trivial (fun _ => ?_)
         clear hK K
         exact by_state (by kernel_rfl) (by kernel_rfl) (REST gW gK gV gC U85 ⟨lw.out, lk.out, lv.out, lc.out, bb.out⟩)
        exact AllReadyH.nil
       refine AllReadyH.cons (o := Oper.mk _ _ _ _ _ _) rfl (fun K hK => ?_) ?_
       ·
        refine step_lI 0 (by kernel_rfl) rfl ?_
        intro gC U86 eg hn hb
        have lc := Lib.hid hn
        replace lk := Lib.hid (lk.out.below hb)
        replace lv := Lib.hid (lv.out.below hb)
        replace bb := Lib.hid (bb.out.trans (hb.mono bb.out.size))
        clear hb hn eg
        refine hK.out _ _ trivial (fun _ => ?_)
        clear hK K
        refine wpAnyH_ready (rs := [4]) (by kernel_rfl) (by simp) ?_
        refine AllReadyH.cons (o := Oper.mk _ _ _ _ _ _) rfl (fun K hK => ?_) ?_
        ·
         refine step_lW 1 (by kernel_rfl) rfl ?_
         intro gW U87 eg hn hb
         have lw := Lib.hid hn
         replace lk := Lib.hid (lk.out.below hb)
         replace lv := Lib.hid (lv.out.below hb)
         replace lc := Lib.hid (lc.out.below hb)
         replace bb := Lib.hid (bb.out.trans (hb.mono bb.out.size))
         clear hb hn eg
         refine hK.out _ _ trivial (fun _ => ?_)
         clear hK K
         exact by_state (by kernel_rfl) (by kernel_rfl) (REST gW gK gV gC U87 ⟨lw.out, lk.out, lv.out, lc.out, bb.out⟩)
        exact AllReadyH.nil
       exact AllReadyH.nil
      refine AllReadyH.cons (o := Oper.mk _ _ _ _ _ _) rfl (fun K hK => ?_) ?_
      ·
       refine step_lI 0 (by kernel_rfl) rfl ?_
       intro gC U88 eg hn hb
       have lc := Lib.hid hn
       replace lk := Lib.hid (lk.out.below hb)
       replace bb := Lib.hid (bb.out.trans (hb.mono bb.out.size))
       clear hb hn eg
       refine hK.out _ _ trivial (fun _ => ?_)
       clear hK K
       refine wpAnyH_ready (rs := [4, 6]) (by kernel_rfl) (by simp) ?_
       refine AllReadyH.cons (o := Oper.mk _ _ _ _ _ _) rfl (fun K hK => ?_) ?_
       ·
        refine step_lW 1 (by kernel_rfl) rfl ?_
        intro gW U89 eg hn hb
        have lw := Lib.hid hn
        replace lk := Lib.hid (lk.out.below hb)
        replace lc := Lib.hid (lc.out.below hb)
        replace bb := Lib.hid (bb.out.trans (hb.mono bb.out.size))
        clear hb hn eg
        refine hK.out _ _ trivial (fun _ => ?_)
        clear hK K
        refine wpAnyH_ready (rs := [6]) (by kernel_rfl) (by simp) ?_
        refine AllReadyH.cons (o := Oper.mk _ _ _ _ _ _) rfl (fun K hK => ?_) ?_
        ·
         refine step_zerosG elemK (by kernel_rfl) (.const (.int .i64 4)) (.const (.int .i64 4)) rfl 4 rfl rfl (by omega) (by unfold maxLen; omega) ?_
         intro gV U90 eg hlt hn hb
         have lv := Lib.hid hn.lst
         replace hb : Below U89.heap.size U89 U90 := by rw [← eg]; exact hb
         replace lk := Lib.hid (lk.out.below hb)
         replace lc := Lib.hid (lc.out.below hb)
         replace lw := Lib.hid (lw.out.below hb)
         replace bb := Lib.hid (bb.out.trans (hb.mono bb.out.size))
         clear hb hlt hn eg
         refine hK.out _ _ trivial (fun _ => ?_)
         clear hK K
         exact by_state (by kernel_rfl) (by kernel_rfl) (REST gW gK gV gC U90 ⟨lw.out, lk.out, lv.out, lc.out, bb.out⟩)
        exact AllReadyH.nil
       refine AllReadyH.cons (o := Oper.mk _ _ _ _ _ _) rfl (fun K hK => ?_) ?_
       ·
        refine step_zerosG elemK (by kernel_rfl) (.const (.int .i64 4)) (.const (.int .i64 4)) rfl 4 rfl rfl (by omega) (by unfold maxLen; omega) ?_
        intro gV U91 eg hlt hn hb
        have lv := Lib.hid hn.lst
        replace hb : Below U88.heap.size U88 U91 := by rw [← eg]; exact hb
        replace lk := Lib.hid (lk.out.below hb)
        replace lc := Lib.hid (lc.out.below hb)
        replace bb := Lib.hid (bb.out.trans (hb.mono bb.out.size))
        clear hb hlt hn eg
        refine hK.out _ _ trivial (fun _ => ?_)
        clear hK K
        refine wpAnyH_ready (rs := [4]) (by kernel_rfl) (by simp) ?_
        refine AllReadyH.cons (o := Oper.mk _ _ _ _ _ _) rfl (fun K hK => ?_) ?_
        ·
         refine step_lW 1 (by kernel_rfl) rfl ?_
         intro gW U92 eg hn hb
         have lw := Lib.hid hn
         replace lk := Lib.hid (lk.out.below hb)
         replace lc := Lib.hid (lc.out.below hb)
         replace lv := Lib.hid (lv.out.below hb)
         replace bb := Lib.hid (bb.out.trans (hb.mono bb.out.size))
         clear hb hn eg
         refine hK.out _ _ trivial (fun _ => ?_)
         clear hK K
         exact by_state (by kernel_rfl) (by kernel_rfl) (REST gW gK gV gC U92 ⟨lw.out, lk.out, lv.out, lc.out, bb.out⟩)
        exact AllReadyH.nil
       exact AllReadyH.nil
      exact AllReadyH.nil
     refine AllReadyH.cons (o := Oper.mk _ _ _ _ _ _) rfl (fun K hK => ?_) ?_
     ·
      refine step_zerosG elemK (by kernel_rfl) (.const (.int .i64 4)) (.const (.int .i64 4)) rfl 4 rfl rfl (by omega) (by unfold maxLen; omega) ?_
      intro gV U93 eg hlt hn hb
      have lv := Lib.hid hn.lst
      replace hb : Below W1.heap.size W1 U93 := by rw [← eg]; exact hb
      replace bb := Lib.hid (bb.out.trans (hb.mono bb.out.size))
      clear hb hlt hn eg
      refine hK.out _ _ trivial (fun _ => ?_)
      clear hK K
      refine wpAnyH_ready (rs := [4, 5, 7]) (by kernel_rfl) (by simp) ?_
      refine AllReadyH.cons (o := Oper.mk _ _ _ _ _ _) rfl (fun K hK => ?_) ?_
      ·
       refine step_lW 1 (by kernel_rfl) rfl ?_
       intro gW U94 eg hn hb
       have lw := Lib.hid hn
       replace lv := Lib.hid (lv.out.below hb)
       replace bb := Lib.hid (bb.out.trans (hb.mono bb.out.size))
       clear hb hn eg
       refine hK.out _ _ trivial (fun _ => ?_)
       clear hK K
       refine wpAnyH_ready (rs := [5, 7]) (by kernel_rfl) (by simp) ?_
       refine AllReadyH.cons (o := Oper.mk _ _ _ _ _ _) rfl (fun K hK => ?_) ?_
       ·
        refine step_zerosG elemK (by kernel_rfl) (.const (.int .i64 4)) (.const (.int .i64 4)) rfl 4 rfl rfl (by omega) (by unfold maxLen; omega) ?_
        intro gK U95 eg hlt hn hb
        have lk := Lib.hid hn.lst
        replace hb : Below U94.heap.size U94 U95 := by rw [← eg]; exact hb
        replace lv := Lib.hid (lv.out.below hb)
        replace lw := Lib.hid (lw.out.below hb)
        replace bb := Lib.hid (bb.out.trans (hb.mono bb.out.size))
        clear hb hlt hn eg
        refine hK.out _ _ trivial (fun _ => ?_)
        clear hK K
        refine wpAnyH_ready (rs := [7]) (by kernel_rfl) (by simp) ?_
        refine AllReadyH.cons (o := Oper.mk _ _ _ _ _ _) rfl (fun K hK => ?_) ?_
        ·
         refine step_lI 0 (by kernel_rfl) rfl ?_
         intro gC U96 eg hn hb
         have lc := Lib.hid hn
         replace lv := Lib.hid (lv.out.below hb)
         replace lw := Lib.hid (lw.out.below hb)
         replace lk := Lib.hid (lk.out.below hb)
         replace bb := Lib.hid (bb.out.trans (hb.mono bb.out.size))
         clear hb hn eg
         refine hK.out _ _ trivial (fun _ => ?_)
         clear hK K
         exact by_state (by kernel_rfl) (by kernel_rfl) (REST gW gK gV gC U96 ⟨lw.out, lk.out, lv.out, lc.out, bb.out⟩)
        exact AllReadyH.nil
       refine AllReadyH.cons (o := Oper.mk _ _ _ _ _ _) rfl (fun K hK => ?_) ?_
       ·
        refine step_lI 0 (by kernel_rfl) rfl ?_
        intro gC U97 eg hn hb
        have lc := Lib.hid hn
        replace lv := Lib.hid (lv.out.below hb)
        replace lw := Lib.hid (lw.out.below hb)
        replace bb := Lib.hid (bb.out.trans (hb.mono bb.out.size))
        clear hb hn eg
        refine hK.out _ _ trivial (fun _ => ?_)
        clear hK K
        refine wpAnyH_ready (rs := [5]) (by kernel_rfl) (by simp) ?_
        refine AllReadyH.cons (o := Oper.mk _ _ _ _ _ _) rfl (fun K hK => ?_) ?_
        ·
         refine step_zerosG elemK (by kernel_rfl) (.const (.int .i64 4)) (.const (.int .i64 4)) rfl 4 rfl rfl (by omega) (by unfold maxLen; omega) ?_
         intro gK U98 eg hlt hn hb
         have lk := Lib.hid hn.lst
         replace hb : Below U97.heap.size U97 U98 := by rw [← eg]; exact hb
         replace lv := Lib.hid (lv.out.below hb)
         replace lw := Lib.hid (lw.out.below hb)
         replace lc := Lib.hid (lc.out.below hb)
         replace bb := Lib.hid (bb.out.trans (hb.mono bb.out.size))
         clear hb hlt hn eg
         refine hK.out _ _ trivial (fun _ => ?_)
         clear hK K
         exact by_state (by kernel_rfl) (by kernel_rfl) (REST gW gK gV gC U98 ⟨lw.out, lk.out, lv.out, lc.out, bb.out⟩)
        exact AllReadyH.nil
       exact AllReadyH.nil
      refine AllReadyH.cons (o := Oper.mk _ _ _ _ _ _) rfl (fun K hK => ?_) ?_
      ·
       refine step_zerosG elemK (by kernel_rfl) (.const (.int .i64 4)) (.const (.int .i64 4)) rfl 4 rfl rfl (by omega) (by unfold maxLen; omega) ?_
       intro gK U99 eg hlt hn hb
       have lk := Lib.hid hn.lst
       replace hb : Below U93.heap.size U93 U99 := by rw [← eg]; exact hb
       replace lv := Lib.hid (lv.out.below hb)
       replace bb := Lib.hid (bb.out.trans (hb.mono bb.out.size))
       clear hb hlt hn eg
       refine hK.out _ _ trivial (fun _ => ?_)
       clear hK K
       refine wpAnyH_ready (rs := [4, 7]) (by kernel_rfl) (by simp) ?_
       refine AllReadyH.cons (o := Oper.mk _ _ _ _ _ _) rfl (fun K hK => ?_) ?_
       ·
        refine step_lW 1 (by kernel_rfl) rfl ?_
        intro gW U100 eg hn hb
        have lw := Lib.hid hn
        replace lv := Lib.hid (lv.out.below hb)
        replace lk := Lib.hid (lk.out.below hb)
        replace bb := Lib.hid (bb.out.trans (hb.mono bb.out.size))
        clear hb hn eg
        refine hK.out _ _ trivial (fun _ => ?_)
        clear hK K
        refine wpAnyH_ready (rs := [7]) (by kernel_rfl) (by simp) ?_
        refine AllReadyH.cons (o := Oper.mk _ _ _ _ _ _) rfl (fun K hK => ?_) ?_
        ·
         refine step_lI 0 (by kernel_rfl) rfl ?_
         intro gC U101 eg hn hb
         have lc := Lib.hid hn
         replace lv := Lib.hid (lv.out.below hb)
         replace lk := Lib.hid (lk.out.below hb)
         replace lw := Lib.hid (lw.out.below hb)
         replace bb := Lib.hid (bb.out.trans (hb.mono bb.out.size))
         clear hb hn eg
         refine hK.out _ _ trivial (fun _ => ?_)
         clear hK K
         exact by_state (by kernel_rfl) (by kernel_rfl) (REST gW gK gV gC U101 ⟨lw.out, lk.out, lv.out, lc.out, bb.out⟩)
        exact AllReadyH.nil
       refine AllReadyH.cons (o := Oper.mk _ _ _ _ _ _) rfl (fun K hK => ?_) ?_
       ·
        refine step_lI 0 (by kernel_rfl) rfl ?_
        intro gC U102 eg hn hb
        have lc := Lib.hid hn
        replace lv := Lib.hid (lv.out.below hb)
        replace lk := Lib.hid (lk.out.below hb)
        replace bb := Lib.hid (bb.out.trans (hb.mono bb.out.size))
        clear hb hn eg
        refine hK.out _ _ trivial (fun _ => ?_)
        clear hK K
        refine wpAnyH_ready (rs := [4]) (by kernel_rfl) (by simp) ?_
        refine AllReadyH.cons (o := Oper.mk _ _ _ _ _ _) rfl (fun K hK => ?_) ?_
        ·
         refine step_lW 1 (by kernel_rfl) rfl ?_
         intro gW U103 eg hn hb
         have lw := Lib.hid hn
         replace lv := Lib.hid (lv.out.below hb)
         replace lk := Lib.hid (lk.out.below hb)
         replace lc := Lib.hid (lc.out.below hb)
         replace bb := Lib.hid (bb.out.trans (hb.mono bb.out.size))
         clear hb hn eg
         refine hK.out _ _ trivial (fun _ => ?_)
         clear hK K
         exact by_state (by kernel_rfl) (by kernel_rfl) (REST gW gK gV gC U103 ⟨lw.out, lk.out, lv.out, lc.out, bb.out⟩)
        exact AllReadyH.nil
       exact AllReadyH.nil
      refine AllReadyH.cons (o := Oper.mk _ _ _ _ _ _) rfl (fun K hK => ?_) ?_
      ·
       refine step_lI 0 (by kernel_rfl) rfl ?_
       intro gC U104 eg hn hb
       have lc := Lib.hid hn
       replace lv := Lib.hid (lv.out.below hb)
       replace bb := Lib.hid (bb.out.trans (hb.mono bb.out.size))
       clear hb hn eg
       refine hK.out _ _ trivial (fun _ => ?_)
       clear hK K
       refine wpAnyH_ready (rs := [4, 5]) (by kernel_rfl) (by simp) ?_
       refine AllReadyH.cons (o := Oper.mk _ _ _ _ _ _) rfl (fun K hK => ?_) ?_
       ·
        refine step_lW 1 (by kernel_rfl) rfl ?_
        intro gW U105 eg hn hb
        have lw := Lib.hid hn
        replace lv := Lib.hid (lv.out.below hb)
        replace lc := Lib.hid (lc.out.below hb)
        replace bb := Lib.hid (bb.out.trans (hb.mono bb.out.size))
        clear hb hn eg
        refine hK.out _ _ trivial (fun _ => ?_)
        clear hK K
        refine wpAnyH_ready (rs := [5]) (by kernel_rfl) (by simp) ?_
        refine AllReadyH.cons (o := Oper.mk _ _ _ _ _ _) rfl (fun K hK => ?_) ?_
        ·
         refine step_zerosG elemK (by kernel_rfl) (.const (.int .i64 4)) (.const (.int .i64 4)) rfl 4 rfl rfl (by omega) (by unfold maxLen; omega) ?_
         intro gK U106 eg hlt hn hb
         have lk := Lib.hid hn.lst
         replace hb : Below U105.heap.size U105 U106 := by rw [← eg]; exact hb
         replace lv := Lib.hid (lv.out.below hb)
         replace lc := Lib.hid (lc.out.below hb)
         replace lw := Lib.hid (lw.out.below hb)
         replace bb := Lib.hid (bb.out.trans (hb.mono bb.out.size))
         clear hb hlt hn eg
         refine hK.out _ _ trivial (fun _ => ?_)
         clear hK K
         exact by_state (by kernel_rfl) (by kernel_rfl) (REST gW gK gV gC U106 ⟨lw.out, lk.out, lv.out, lc.out, bb.out⟩)
        exact AllReadyH.nil
       refine AllReadyH.cons (o := Oper.mk _ _ _ _ _ _) rfl (fun K hK => ?_) ?_
       ·
        refine step_zerosG elemK (by kernel_rfl) (.const (.int .i64 4)) (.const (.int .i64 4)) rfl 4 rfl rfl (by omega) (by unfold maxLen; omega) ?_
        intro gK U107 eg hlt hn hb
        have lk := Lib.hid hn.lst
        replace hb : Below U104.heap.size U104 U107 := by rw [← eg]; exact hb
        replace lv := Lib.hid (lv.out.below hb)
        replace lc := Lib.hid (lc.out.below hb)
        replace bb := Lib.hid (bb.out.trans (hb.mono bb.out.size))
        clear hb hlt hn eg
        refine hK.out _ _ trivial (fun _ => ?_)
        clear hK K
        refine wpAnyH_ready (rs := [4]) (by kernel_rfl) (by simp) ?_
        refine AllReadyH.cons (o := Oper.mk _ _ _ _ _ _) rfl (fun K hK => ?_) ?_
        ·
         refine step_lW 1 (by kernel_rfl) rfl ?_
         intro gW U108 eg hn hb
         have lw := Lib.hid hn
         replace lv := Lib.hid (lv.out.below hb)
         replace lc := Lib.hid (lc.out.below hb)
         replace lk := Lib.hid (lk.out.below hb)
         replace bb := Lib.hid (bb.out.trans (hb.mono bb.out.size))
         clear hb hn eg
         refine hK.out _ _ trivial (fun _ => ?_)
         clear hK K
         exact by_state (by kernel_rfl) (by kernel_rfl) (REST gW gK gV gC U108 ⟨lw.out, lk.out, lv.out, lc.out, bb.out⟩)
        exact AllReadyH.nil
       exact AllReadyH.nil
      exact AllReadyH.nil
     refine AllReadyH.cons (o := Oper.mk _ _ _ _ _ _) rfl (fun K hK => ?_) ?_
     ·
      refine step_lI 0 (by kernel_rfl) rfl ?_
      intro gC U109 eg hn hb
      have lc := Lib.hid hn
      replace bb := Lib.hid (bb.out.trans (hb.mono bb.out.size))
      clear hb hn eg
      refine hK.out _ _ trivial (fun _ => ?_)
      clear hK K
      refine wpAnyH_ready (rs := [4, 5, 6]) (by kernel_rfl) (by simp) ?_
      refine AllReadyH.cons (o := Oper.mk _ _ _ _ _ _) rfl (fun K hK => ?_) ?_
      ·
       refine step_lW 1 (by kernel_rfl) rfl ?_
       intro gW U110 eg hn hb
       have lw := Lib.hid hn
       replace lc := Lib.hid (lc.out.below hb)
       replace bb := Lib.hid (bb.out.trans (hb.mono bb.out.size))
       clear hb hn eg
       refine hK.out _ _ trivial (fun _ => ?_)
       clear hK K
       refine wpAnyH_ready (rs := [5, 6]) (by kernel_rfl) (by simp) ?_
       refine AllReadyH.cons (o := Oper.mk _ _ _ _ _ _) rfl (fun K hK => ?_) ?_
       ·
        refine step_zerosG elemK (by kernel_rfl) (.const (.int .i64 4)) (.const (.int .i64 4)) rfl 4 rfl rfl (by omega) (by unfold maxLen; omega) ?_
        intro gK U111 eg hlt hn hb
        have lk := Lib.hid hn.lst
        replace hb : Below U110.heap.size U110 U111 := by rw [← eg]; exact hb
        replace lc := Lib.hid (lc.out.below hb)
        replace lw := Lib.hid (lw.out.below hb)
        replace bb := Lib.hid (bb.out.trans (hb.mono bb.out.size))
        clear hb hlt hn eg
        refine hK.out _ _ trivial (fun _ => ?_)
        clear hK K
        refine wpAnyH_ready (rs := [6]) (by kernel_rfl) (by simp) ?_
        refine AllReadyH.cons (o := Oper.mk _ _ _ _ _ _) rfl (fun K hK => ?_) ?_
        ·
         refine step_zerosG elemK (by kernel_rfl) (.const (.int .i64 4)) (.const (.int .i64 4)) rfl 4 rfl rfl (by omega) (by unfold maxLen; omega) ?_
         intro gV U112 eg hlt hn hb
         have lv := Lib.hid hn.lst
         replace hb : Below U111.heap.size U111 U112 := by rw [← eg]; exact hb
         replace lc := Lib.hid (lc.out.below hb)
         replace lw := Lib.hid (lw.out.below hb)
         replace lk := Lib.hid (lk.out.below hb)
         replace bb := Lib.hid (bb.out.trans (hb.mono bb.out.size))
         clear hb hlt hn eg
         refine hK.out _ _ trivial (fun _ => ?_)
         clear hK K
         exact by_state (by kernel_rfl) (by kernel_rfl) (REST gW gK gV gC U112 ⟨lw.out, lk.out, lv.out, lc.out, bb.out⟩)
        exact AllReadyH.nil
       refine AllReadyH.cons (o := Oper.mk _ _ _ _ _ _) rfl (fun K hK => ?_) ?_
       ·
        refine step_zerosG elemK (by kernel_rfl) (.const (.int .i64 4)) (.const (.int .i64 4)) rfl 4 rfl rfl (by omega) (by unfold maxLen; omega) ?_
        intro gV U113 eg hlt hn hb
        have lv := Lib.hid hn.lst
        replace hb : Below U110.heap.size U110 U113 := by rw [← eg]; exact hb
        replace lc := Lib.hid (lc.out.below hb)
        replace lw := Lib.hid (lw.out.below hb)
        replace bb := Lib.hid (bb.out.trans (hb.mono bb.out.size))
        clear hb hlt hn eg
        refine hK.out _ _ trivial (fun _ => ?_)
        clear hK K
        refine wpAnyH_ready (rs := [5]) (by kernel_rfl) (by simp) ?_
        refine AllReadyH.cons (o := Oper.mk _ _ _ _ _ _) rfl (fun K hK => ?_) ?_
        ·
         refine step_zerosG elemK (by kernel_rfl) (.const (.int .i64 4)) (.const (.int .i64 4)) rfl 4 rfl rfl (by omega) (by unfold maxLen; omega) ?_
         intro gK U114 eg hlt hn hb
         have lk := Lib.hid hn.lst
         replace hb : Below U113.heap.size U113 U114 := by rw [← eg]; exact hb
         replace lc := Lib.hid (lc.out.below hb)
         replace lw := Lib.hid (lw.out.below hb)
         replace lv := Lib.hid (lv.out.below hb)
         replace bb := Lib.hid (bb.out.trans (hb.mono bb.out.size))
         clear hb hlt hn eg
         refine hK.out _ _ trivial (fun _ => ?_)
         clear hK K
         exact by_state (by kernel_rfl) (by kernel_rfl) (REST gW gK gV gC U114 ⟨lw.out, lk.out, lv.out, lc.out, bb.out⟩)
        exact AllReadyH.nil
       exact AllReadyH.nil
      refine AllReadyH.cons (o := Oper.mk _ _ _ _ _ _) rfl (fun K hK => ?_) ?_
      ·
       refine step_zerosG elemK (by kernel_rfl) (.const (.int .i64 4)) (.const (.int .i64 4)) rfl 4 rfl rfl (by omega) (by unfold maxLen; omega) ?_
       intro gK U115 eg hlt hn hb
       have lk := Lib.hid hn.lst
       replace hb : Below U109.heap.size U109 U115 := by rw [← eg]; exact hb
       replace lc := Lib.hid (lc.out.below hb)
       replace bb := Lib.hid (bb.out.trans (hb.mono bb.out.size))
       clear hb hlt hn eg
       refine hK.out _ _ trivial (fun _ => ?_)
       clear hK K
       refine wpAnyH_ready (rs := [4, 6]) (by kernel_rfl) (by simp) ?_
       refine AllReadyH.cons (o := Oper.mk _ _ _ _ _ _) rfl (fun K hK => ?_) ?_
       ·
        refine step_lW 1 (by kernel_rfl) rfl ?_
        intro gW U116 eg hn hb
        have lw := Lib.hid hn
        replace lc := Lib.hid (lc.out.below hb)
        replace lk := Lib.hid (lk.out.below hb)
        replace bb := Lib.hid (bb.out.trans (hb.mono bb.out.size))
        clear hb hn eg
        refine hK.out _ _ trivial (fun _ => ?_)
        clear hK K
        refine wpAnyH_ready (rs := [6]) (by kernel_rfl) (by simp) ?_
        refine AllReadyH.cons (o := Oper.mk _ _ _ _ _ _) rfl (fun K hK => ?_) ?_
        ·
         refine step_zerosG elemK (by kernel_rfl) (.const (.int .i64 4)) (.const (.int .i64 4)) rfl 4 rfl rfl (by omega) (by unfold maxLen; omega) ?_
         intro gV U117 eg hlt hn hb
         have lv := Lib.hid hn.lst
         replace hb : Below U116.heap.size U116 U117 := by rw [← eg]; exact hb
         replace lc := Lib.hid (lc.out.below hb)
         replace lk := Lib.hid (lk.out.below hb)
         replace lw := Lib.hid (lw.out.below hb)
         replace bb := Lib.hid (bb.out.trans (hb.mono bb.out.size))
         clear hb hlt hn eg
         refine hK.out _ _ trivial (fun _ => ?_)
         clear hK K
         exact by_state (by kernel_rfl) (by kernel_rfl) (REST gW gK gV gC U117 ⟨lw.out, lk.out, lv.out, lc.out, bb.out⟩)
        exact AllReadyH.nil
       refine AllReadyH.cons (o := Oper.mk _ _ _ _ _ _) rfl (fun K hK => ?_) ?_
       ·
        refine step_zerosG elemK (by kernel_rfl) (.const (.int .i64 4)) (.const (.int .i64 4)) rfl 4 rfl rfl (by omega) (by unfold maxLen; omega) ?_
        intro gV U118 eg hlt hn hb
        have lv := Lib.hid hn.lst
        replace hb : Below U115.heap.size U115 U118 := by rw [← eg]; exact hb
        replace lc := Lib.hid (lc.out.below hb)
        replace lk := Lib.hid (lk.out.below hb)
        replace bb := Lib.hid (bb.out.trans (hb.mono bb.out.size))
        clear hb hlt hn eg
        refine hK.out _ _ trivial (fun _ => ?_)
        clear hK K
        refine wpAnyH_ready (rs := [4]) (by kernel_rfl) (by simp) ?_
        refine AllReadyH.cons (o := Oper.mk _ _ _ _ _ _) rfl (fun K hK => ?_) ?_
        ·
         refine step_lW 1 (by kernel_rfl) rfl ?_
         intro gW U119 eg hn hb
         have lw := Lib.hid hn
         replace lc := Lib.hid (lc.out.below hb)
         replace lk := Lib.hid (lk.out.below hb)
         replace lv := Lib.hid (lv.out.below hb)
         replace bb := Lib.hid (bb.out.trans (hb.mono bb.out.size))
         clear hb hn eg
         refine hK.out _ _ trivial (fun _ => ?_)
         clear hK K
         exact by_state (by kernel_rfl) (by kernel_rfl) (REST gW gK gV gC U119 ⟨lw.out, lk.out, lv.out, lc.out, bb.out⟩)
        exact AllReadyH.nil
       exact AllReadyH.nil
      refine AllReadyH.cons (o := Oper.mk _ _ _ _ _ _) rfl (fun K hK => ?_) ?_
      ·
       refine step_zerosG elemK (by kernel_rfl) (.const (.int .i64 4)) (.const (.int .i64 4)) rfl 4 rfl rfl (by omega) (by unfold maxLen; omega) ?_
       intro gV U120 eg hlt hn hb
       have lv := Lib.hid hn.lst
       replace hb : Below U109.heap.size U109 U120 := by rw [← eg]; exact hb
       replace lc := Lib.hid (lc.out.below hb)
       replace bb := Lib.hid (bb.out.trans (hb.mono bb.out.size))
       clear hb hlt hn eg
       refine hK.out _ _ trivial (fun _ => ?_)
       clear hK K
       refine wpAnyH_ready (rs := [4, 5]) (by kernel_rfl) (by simp) ?_
       refine AllReadyH.cons (o := Oper.mk _ _ _ _ _ _) rfl (fun K hK => ?_) ?_
       ·
        refine step_lW 1 (by kernel_rfl) rfl ?_
        intro gW U121 eg hn hb
        have lw := Lib.hid hn
        replace lc := Lib.hid (lc.out.below hb)
        replace lv := Lib.hid (lv.out.below hb)
        replace bb := Lib.hid (bb.out.trans (hb.mono bb.out.size))
        clear hb hn eg
        refine hK.out _ _ trivial (fun _ => ?_)
        clear hK K
        refine wpAnyH_ready (rs := [5]) (by kernel_rfl) (by simp) ?_
        refine AllReadyH.cons (o := Oper.mk _ _ _ _ _ _) rfl (fun K hK => ?_) ?_
        ·
         refine step_zerosG elemK (by kernel_rfl) (.const (.int .i64 4)) (.const (.int .i64 4)) rfl 4 rfl rfl (by omega) (by unfold maxLen; omega) ?_
         intro gK U122 eg hlt hn hb
         have lk := Lib.hid hn.lst
         replace hb : Below U121.heap.size U121 U122 := by rw [← eg]; exact hb
         replace lc := Lib.hid (lc.out.below hb)
         replace lv := Lib.hid (lv.out.below hb)
         replace lw := Lib.hid (lw.out.below hb)
         replace bb := Lib.hid (bb.out.trans (hb.mono bb.out.size))
         clear hb hlt hn eg
         refine hK.out _ _ trivial (fun _ => ?_)
         clear hK K
         exact by_state (by kernel_rfl) (by kernel_rfl) (REST gW gK gV gC U122 ⟨lw.out, lk.out, lv.out, lc.out, bb.out⟩)
        exact AllReadyH.nil
       refine AllReadyH.cons (o := Oper.mk _ _ _ _ _ _) rfl (fun K hK => ?_) ?_
       ·
        refine step_zerosG elemK (by kernel_rfl) (.const (.int .i64 4)) (.const (.int .i64 4)) rfl 4 rfl rfl (by omega) (by unfold maxLen; omega) ?_
        intro gK U123 eg hlt hn hb
        have lk := Lib.hid hn.lst
        replace hb : Below U120.heap.size U120 U123 := by rw [← eg]; exact hb
        replace lc := Lib.hid (lc.out.below hb)
        replace lv := Lib.hid (lv.out.below hb)
        replace bb := Lib.hid (bb.out.trans (hb.mono bb.out.size))
        clear hb hlt hn eg
        refine hK.out _ _ trivial (fun _ => ?_)
        clear hK K
        refine wpAnyH_ready (rs := [4]) (by kernel_rfl) (by simp) ?_
        refine AllReadyH.cons (o := Oper.mk _ _ _ _ _ _) rfl (fun K hK => ?_) ?_
        ·
         refine step_lW 1 (by kernel_rfl) rfl ?_
         intro gW U124 eg hn hb
         have lw := Lib.hid hn
         replace lc := Lib.hid (lc.out.below hb)
         replace lv := Lib.hid (lv.out.below hb)
         replace lk := Lib.hid (lk.out.below hb)
         replace bb := Lib.hid (bb.out.trans (hb.mono bb.out.size))
         clear hb hn eg
         refine hK.out _ _ trivial (fun _ => ?_)
         clear hK K
         exact by_state (by kernel_rfl) (by kernel_rfl) (REST gW gK gV gC U124 ⟨lw.out, lk.out, lv.out, lc.out, bb.out⟩)
        exact AllReadyH.nil
       exact AllReadyH.nil
      exact AllReadyH.nil
     exact AllReadyH.nil
    case rest =>
     rintro h1 h2 h3 h4 Z1 ⟨lw, lk, lv, lc, bb⟩
     replace lw := Lib.hid lw
     replace lk := Lib.hid lk
     replace lv := Lib.hid lv
     replace lc := Lib.hid lc
     replace bb := Lib.hid bb
     try simp only [Act.put, List.setIfInBounds_toArray, List.set_cons_zero, List.set_cons_succ]
     refine wpAnyH_take (i := 8) (oi := Oper.mk _ _ _ _ _ _) (v := ?v8_125) rfl (by kernel_rfl) (by kernel_rfl) (by kernel_rfl) (fun _ _ _ h => h) (Or.inl ⟨by rfl, ?hy8_125⟩) trivial ?rest8_125
     case hy8_125 =>
      intro w0 _
      go_simp
      all_goals with_reducible rfl
     try simp only [Act.put, List.setIfInBounds_toArray, List.set_cons_zero, List.set_cons_succ]
     refine wpAnyH_ready (rs := [9]) (by kernel_rfl) (by simp) ?_
     refine AllReadyH.cons (o := Oper.mk _ _ _ _ _ _) rfl (fun K hK => ?_) AllReadyH.nil
     go_simp
     refine (bad1 _ _ _ _ _ (TB.out.below bb.out) lw.out lk.out lv.out lc.out).mono ?_
     rintro e Y0 ⟨rfl, hb⟩
     replace bb := Lib.hid (bb.out.trans (hb.mono bb.out.size))
     clear hb lw lk lv lc
     go_wp2_with fail
     refine hK.out _ _ trivial (fun _ => ?_)
     clear hK K
     try simp only [Act.put, List.setIfInBounds_toArray, List.set_cons_zero, List.set_cons_succ]
     refine wpAnyH_take (i := 10) (oi := Oper.mk _ _ _ _ _ _) (v := ?v10_126) rfl (by kernel_rfl) (by kernel_rfl) (by kernel_rfl) (fun _ _ _ h => h) (Or.inl ⟨by rfl, ?hy10_126⟩) trivial ?rest10_126
     case hy10_126 =>
      intro w0 _
      go_simp
      all_goals with_reducible rfl
     try simp only [Act.put, List.setIfInBounds_toArray, List.set_cons_zero, List.set_cons_succ]
     refine wpAnyH_take (i := 11) (oi := Oper.mk _ _ _ _ _ _) (v := ?v11_127) rfl (by kernel_rfl) (by kernel_rfl) (by kernel_rfl) (fun _ _ _ h => h) (Or.inl ⟨by rfl, ?hy11_127⟩) trivial ?rest11_127
     case hy11_127 =>
      intro w0 _
      go_simp
      all_goals with_reducible rfl
     try simp only [Act.put, List.setIfInBounds_toArray, List.set_cons_zero, List.set_cons_succ]
     refine wpAnyH_take (i := 12) (oi := Oper.mk _ _ _ _ _ _) (v := ?v12_128) rfl (by kernel_rfl) (by kernel_rfl) (by kernel_rfl) (fun _ _ _ h => h) (Or.inl ⟨by rfl, ?hy12_128⟩) trivial ?rest12_128
     case hy12_128 =>
      intro w0 _
      go_simp
      all_goals with_reducible rfl
     try simp only [Act.put, List.setIfInBounds_toArray, List.set_cons_zero, List.set_cons_succ]
     apply by_rest (B := Four V15 [0] [1, 0, 0, 0] [0, 0, 0, 0] [0])
     case main =>
      intro REST2
      refine wpAnyH_ready (rs := [13, 14, 15, 16]) (by kernel_rfl) (by simp) ?_
      refine AllReadyH.cons (o := Oper.mk _ _ _ _ _ _) rfl (fun K hK => ?_) ?_
      ·
       refine step_lW 0 (by kernel_rfl) rfl ?_
       intro gW U129 eg hn hb
       have lw := Lib.hid hn
       replace bb := Lib.hid (bb.out.trans (hb.mono bb.out.size))
       clear hb hn eg
       refine hK.out _ _ trivial (fun _ => ?_)
       clear hK K
       refine wpAnyH_ready (rs := [14, 15, 16]) (by kernel_rfl) (by simp) ?_
       refine AllReadyH.cons (o := Oper.mk _ _ _ _ _ _) rfl (fun K hK => ?_) ?_
       ·
        refine step_l4 1 0 0 0 (by kernel_rfl) rfl ?_
        intro gK U130 eg hn hb
        have lk := Lib.hid hn
        replace lw := Lib.hid (lw.out.below hb)
        replace bb := Lib.hid (bb.out.trans (hb.mono bb.out.size))
        clear hb hn eg
        refine hK.out _ _ trivial (fun _ => ?_)
        clear hK K
        refine wpAnyH_ready (rs := [15, 16]) (by kernel_rfl) (by simp) ?_
        refine AllReadyH.cons (o := Oper.mk _ _ _ _ _ _) rfl (fun K hK => ?_) ?_
        ·
         refine step_zerosG elemK (by kernel_rfl) (.const (.int .i64 4)) (.const (.int .i64 4)) rfl 4 rfl rfl (by omega) (by unfold maxLen; omega) ?_
         intro gV U131 eg hlt hn hb
         have lv := Lib.hid hn.lst
         replace hb : Below U130.heap.size U130 U131 := by rw [← eg]; exact hb
         replace lw := Lib.hid (lw.out.below hb)
         replace lk := Lib.hid (lk.out.below hb)
         replace bb := Lib.hid (bb.out.trans (hb.mono bb.out.size))
         clear hb hlt hn eg
         refine hK.out _ _ trivial (fun _ => ?_)
         clear hK K
         refine wpAnyH_ready (rs := [16]) (by kernel_rfl) (by simp) ?_
         refine AllReadyH.cons (o := Oper.mk _ _ _ _ _ _) rfl (fun K hK => ?_) ?_
         ·
          refine step_lI 0 (by kernel_rfl) rfl ?_
          intro gC U132 eg hn hb
          have lc := Lib.hid hn
          replace lw := Lib.hid (lw.out.below hb)
          replace lk := Lib.hid (lk.out.below hb)
          replace lv := Lib.hid (lv.out.below hb)
          replace bb := Lib.hid (bb.out.trans (hb.mono bb.out.size))
          clear hb hn eg
          refine hK.out _ _ trivial (fun _ => ?_)
          clear hK K
          exact REST2 gW gK gV gC U132 ⟨lw.out, lk.out, lv.out, lc.out, bb.out⟩
         exact AllReadyH.nil
        refine AllReadyH.cons (o := Oper.mk _ _ _ _ _ _) rfl (fun K hK => ?_) ?_
        ·
         refine step_lI 0 (by kernel_rfl) rfl ?_
         intro gC U133 eg hn hb
         have lc := Lib.hid hn
         replace lw := Lib.hid (lw.out.below hb)
         replace lk := Lib.hid (lk.out.below hb)
         replace bb := Lib.hid (bb.out.trans (hb.mono bb.out.size))
         clear hb hn eg
         refine hK.out _ _ trivial (fun _ => ?_)
         clear hK K
         refine wpAnyH_ready (rs := [15]) (by kernel_rfl) (by simp) ?_
         refine AllReadyH.cons (o := Oper.mk _ _ _ _ _ _) rfl (fun K hK => ?_) ?_
         ·
          refine step_zerosG elemK (by kernel_rfl) (.const (.int .i64 4)) (.const (.int .i64 4)) rfl 4 rfl rfl (by omega) (by unfold maxLen; omega) ?_
          intro gV U134 eg hlt hn hb
          have lv := Lib.hid hn.lst
          replace hb : Below U133.heap.size U133 U134 := by rw [← eg]; exact hb
          replace lw := Lib.hid (lw.out.below hb)
          replace lk := Lib.hid (lk.out.below hb)
          replace lc := Lib.hid (lc.out.below hb)
          replace bb := Lib.hid (bb.out.trans (hb.mono bb.out.size))
          clear hb hlt hn eg
          refine hK.out _ _ trivial (fun _ => ?_)
          clear hK K
          exact by_state (by kernel_rfl) (by kernel_rfl) (REST2 gW gK gV gC U134 ⟨lw.out, lk.out, lv.out, lc.out, bb.out⟩)
         exact AllReadyH.nil
        exact AllReadyH.nil
       refine AllReadyH.cons (o := Oper.mk _ _ _ _ _ _) rfl (fun K hK => ?_) ?_
       ·
        refine step_zerosG elemK (by kernel_rfl) (.const (.int .i64 4)) (.const (.int .i64 4)) rfl 4 rfl rfl (by omega) (by unfold maxLen; omega) ?_
        intro gV U135 eg hlt hn hb
        have lv := Lib.hid hn.lst
        replace hb : Below U129.heap.size U129 U135 := by rw [← eg]; exact hb
        replace lw := Lib.hid (lw.out.below hb)
        replace bb := Lib.hid (bb.out.trans (hb.mono bb.out.size))
        clear hb hlt hn eg
        refine hK.out _ _ trivial (fun _ => ?_)
        clear hK K
        refine wpAnyH_ready (rs := [14, 16]) (by kernel_rfl) (by simp) ?_
        refine AllReadyH.cons (o := Oper.mk _ _ _ _ _ _) rfl (fun K hK => ?_) ?_
        ·
         refine step_l4 1 0 0 0 (by kernel_rfl) rfl ?_
         intro gK U136 eg hn hb
         have lk := Lib.hid hn
         replace lw := Lib.hid (lw.out.below hb)
         replace lv := Lib.hid (lv.out.below hb)
         replace bb := Lib.hid (bb.out.trans (hb.mono bb.out.size))
         clear hb hn eg
         refine hK.out _ _ trivial (fun _ => ?_)
         clear hK K
         refine wpAnyH_ready (rs := [16]) (by kernel_rfl) (by simp) ?_
         refine AllReadyH.cons (o := Oper.mk _ _ _ _ _ _) rfl (fun K hK => ?_) ?_
         ·
          refine step_lI 0 (by kernel_rfl) rfl ?_
          intro gC U137 eg hn hb
          have lc := Lib.hid hn
          replace lw := Lib.hid (lw.out.below hb)
          replace lv := Lib.hid (lv.out.below hb)
          replace lk := Lib.hid (lk.out.below hb)
          replace bb := Lib.hid (bb.out.trans (hb.mono bb.out.size))
          clear hb hn eg
          refine hK.out _ _ trivial (fun _ => ?_)
          clear hK K
          exact by_state (by kernel_rfl) (by kernel_rfl) (REST2 gW gK gV gC U137 ⟨lw.out, lk.out, lv.out, lc.out, bb.out⟩)
         exact AllReadyH.nil
        refine AllReadyH.cons (o := Oper.mk _ _ _ _ _ _) rfl (fun K hK => ?_) ?_
        ·
         refine step_lI 0 (by kernel_rfl) rfl ?_
         intro gC U138 eg hn hb
         have lc := Lib.hid hn
         replace lw := Lib.hid (lw.out.below hb)
         replace lv := Lib.hid (lv.out.below hb)
         replace bb := Lib.hid (bb.out.trans (hb.mono bb.out.size))
         clear hb hn eg
         refine hK.out _ _ trivial (fun _ => ?_)
         clear hK K
         refine wpAnyH_ready (rs := [14]) (by kernel_rfl) (by simp) ?_
         refine AllReadyH.cons (o := Oper.mk _ _ _ _ _ _) rfl (fun K hK => ?_) ?_
         ·
          refine step_l4 1 0 0 0 (by kernel_rfl) rfl ?_
          intro gK U139 eg hn hb
          have lk := Lib.hid hn
          replace lw := Lib.hid (lw.out.below hb)
          replace lv := Lib.hid (lv.out.below hb)
          replace lc := Lib.hid (lc.out.below hb)
          replace bb := Lib.hid (bb.out.trans (hb.mono bb.out.size))
          clear hb hn eg
          refine hK.out _ _ trivial (fun _ => ?_)
          clear hK K
          exact by_state (by kernel_rfl) (by kernel_rfl) (REST2 gW gK gV gC U139 ⟨lw.out, lk.out, lv.out, lc.out, bb.out⟩)
         exact AllReadyH.nil
        exact AllReadyH.nil
       refine AllReadyH.cons (o := Oper.mk _ _ _ _ _ _) rfl (fun K hK => ?_) ?_
       ·
        refine step_lI 0 (by kernel_rfl) rfl ?_
        intro gC U140 eg hn hb
        have lc := Lib.hid hn
        replace lw := Lib.hid (lw.out.below hb)
        replace bb := Lib.hid (bb.out.trans (hb.mono bb.out.size))
        clear hb hn eg
        refine hK.out _ _ trivial (fun _ => ?_)
        clear hK K
        refine wpAnyH_ready (rs := [14, 15]) (by kernel_rfl) (by simp) ?_
        refine AllReadyH.cons (o := Oper.mk _ _ _ _ _ _) rfl (fun K hK => ?_) ?_
        ·
         refine step_l4 1 0 0 0 (by kernel_rfl) rfl ?_
         intro gK U141 eg hn hb
         have lk := Lib.hid hn
         replace lw := Lib.hid (lw.out.below hb)
         replace lc := Lib.hid (lc.out.below hb)
         replace bb := Lib.hid (bb.out.trans (hb.mono bb.out.size))
         clear hb hn eg
         refine hK.out _ _ trivial (fun _ => ?_)
         clear hK K
         refine wpAnyH_ready (rs := [15]) (by kernel_rfl) (by simp) ?_
         refine AllReadyH.cons (o := Oper.mk _ _ _ _ _ _) rfl (fun K hK => ?_) ?_
         ·
          refine step_zerosG elemK (by kernel_rfl) (.const (.int .i64 4)) (.const (.int .i64 4)) rfl 4 rfl rfl (by omega) (by unfold maxLen; omega) ?_
          intro gV U142 eg hlt hn hb
          have lv := Lib.hid hn.lst
          replace hb : Below U141.heap.size U141 U142 := by rw [← eg]; exact hb
          replace lw := Lib.hid (lw.out.below hb)
          replace lc := Lib.hid (lc.out.below hb)
          replace lk := Lib.hid (lk.out.below hb)
          replace bb := Lib.hid (bb.out.trans (hb.mono bb.out.size))
          clear hb hlt hn eg
          refine hK.out _ _ trivial (fun _ => ?_)
          clear hK K
          exact by_state (by kernel_rfl) (by kernel_rfl) (REST2 gW gK gV gC U142 ⟨lw.out, lk.out, lv.out, lc.out, bb.out⟩)
         exact AllReadyH.nil
        refine AllReadyH.cons (o := Oper.mk _ _ _ _ _ _) rfl (fun K hK => ?_) ?_
        ·
         refine step_zerosG elemK (by kernel_rfl) (.const (.int .i64 4)) (.const (.int .i64 4)) rfl 4 rfl rfl (by omega) (by unfold maxLen; omega) ?_
         intro gV U143 eg hlt hn hb
         have lv := Lib.hid hn.lst
         replace hb : Below U140.heap.size U140 U143 := by rw [← eg]; exact hb
         replace lw := Lib.hid (lw.out.below hb)
         replace lc := Lib.hid (lc.out.below hb)
         replace bb := Lib.hid (bb.out.trans (hb.mono bb.out.size))
         clear hb hlt hn eg
         refine hK.out _ _ trivial (fun _ => ?_)
         clear hK K
         refine wpAnyH_ready (rs := [14]) (by kernel_rfl) (by simp) ?_
         refine AllReadyH.cons (o := Oper.mk _ _ _ _ _ _) rfl (fun K hK => ?_) ?_
         ·
          refine step_l4 1 0 0 0 (by kernel_rfl) rfl ?_
          intro gK U144 eg hn hb
          have lk := Lib.hid hn
          replace lw := Lib.hid (lw.out.below hb)
          replace lc := Lib.hid (lc.out.below hb)
          replace lv := Lib.hid (lv.out.below hb)
          replace bb := Lib.hid (bb.out.trans (hb.mono bb.out.size))
          clear hb hn eg
          refine hK.out _ _ trivial (fun _ => ?_)
          clear hK K
          exact by_state (by kernel_rfl) (by kernel_rfl) (REST2 gW gK gV gC U144 ⟨lw.out, lk.out, lv.out, lc.out, bb.out⟩)
         exact AllReadyH.nil
        exact AllReadyH.nil
       exact AllReadyH.nil
      refine AllReadyH.cons (o := Oper.mk _ _ _ _ _ _) rfl (fun K hK => ?_) ?_
      ·
       refine step_l4 1 0 0 0 (by kernel_rfl) rfl ?_
       intro gK U145 eg hn hb
       have lk := Lib.hid hn
       replace bb := Lib.hid (bb.out.trans (hb.mono bb.out.size))
       clear hb hn eg
       refine hK.out _ _ trivial (fun _ => ?_)
       clear hK K
       refine wpAnyH_ready (rs := [13, 15, 16]) (by kernel_rfl) (by simp) ?_
       refine AllReadyH.cons (o := Oper.mk _ _ _ _ _ _) rfl (fun K hK => ?_) ?_
       ·
        refine step_lW 0 (by kernel_rfl) rfl ?_
        intro gW U146 eg hn hb
        have lw := Lib.hid hn
        replace lk := Lib.hid (lk.out.below hb)
        replace bb := Lib.hid (bb.out.trans (hb.mono bb.out.size))
        clear hb hn eg
        refine hK.out _ _ trivial (fun _ => ?_)
        clear hK K
        refine wpAnyH_ready (rs := [15, 16]) (by kernel_rfl) (by simp) ?_
        refine AllReadyH.cons (o := Oper.mk _ _ _ _ _ _) rfl (fun K hK => ?_) ?_
        ·
         refine step_zerosG elemK (by kernel_rfl) (.const (.int .i64 4)) (.const (.int .i64 4)) rfl 4 rfl rfl (by omega) (by unfold maxLen; omega) ?_
         intro gV U147 eg hlt hn hb
         have lv := Lib.hid hn.lst
         replace hb : Below U146.heap.size U146 U147 := by rw [← eg]; exact hb
         replace lk := Lib.hid (lk.out.below hb)
         replace lw := Lib.hid (lw.out.below hb)
         replace bb := Lib.hid (bb.out.trans (hb.mono bb.out.size))
         clear hb hlt hn eg
         refine hK.out _ _ trivial (fun _ => ?_)
         clear hK K
         refine wpAnyH_ready (rs := [16]) (by kernel_rfl) (by simp) ?_
         refine AllReadyH.cons (o := Oper.mk _ _ _ _ _ _) rfl (fun K hK => ?_) ?_
         ·
          refine step_lI 0 (by kernel_rfl) rfl ?_
          intro gC U148 eg hn hb
          have lc := Lib.hid hn
          replace lk := Lib.hid (lk.out.below hb)
          replace lw := Lib.hid (lw.out.below hb)
          replace lv := Lib.hid (lv.out.below hb)
          replace bb := Lib.hid (bb.out.trans (hb.mono bb.out.size))
          clear hb hn eg
          refine hK.out _ _ trivial (fun _ => ?_)
          clear hK K
          exact by_state (by kernel_rfl) (by kernel_rfl) (REST2 gW gK gV gC U148 ⟨lw.out, lk.out, lv.out, lc.out, bb.out⟩)
         exact AllReadyH.nil
        refine AllReadyH.cons (o := Oper.mk _ _ _ _ _ _) rfl (fun K hK => ?_) ?_
        ·
         refine step_lI 0 (by kernel_rfl) rfl ?_
         intro gC U149 eg hn hb
         have lc := Lib.hid hn
         replace lk := Lib.hid (lk.out.below hb)
         replace lw := Lib.hid (lw.out.below hb)
         replace bb := Lib.hid (bb.out.trans (hb.mono bb.out.size))
         clear hb hn eg
         refine hK.out _ _ trivial (fun _ => ?_)
         clear hK K
         refine wpAnyH_ready (rs := [15]) (by kernel_rfl) (by simp) ?_
         refine AllReadyH.cons (o := Oper.mk _ _ _ _ _ _) rfl (fun K hK => ?_) ?_
         ·
          refine step_zerosG elemK (by kernel_rfl) (.const (.int .i64 4)) (.const (.int .i64 4)) rfl 4 rfl rfl (by omega) (by unfold maxLen; omega) ?_
          intro gV U150 eg hlt hn hb
          have lv := Lib.hid hn.lst
          replace hb : Below U149.heap.size U149 U150 := by rw [← eg]; exact hb
          replace lk := Lib.hid (lk.out.below hb)
          replace lw := Lib.hid (lw.out.below hb)
          replace lc := Lib.hid (lc.out.below hb)
          replace bb := Lib.hid (bb.out.trans (hb.mono bb.out.size))
          clear hb hlt hn eg
          refine hK.out _ _ trivial (fun _ => ?_)
          clear hK K
          exact by_state (by kernel_rfl) (by kernel_rfl) (REST2 gW gK gV gC U150 ⟨lw.out, lk.out, lv.out, lc.out, bb.out⟩)
         exact AllReadyH.nil
        exact AllReadyH.nil
       refine AllReadyH.cons (o := Oper.mk _ _ _ _ _ _) rfl (fun K hK => ?_) ?_
       ·
        refine step_zerosG elemK (by kernel_rfl) (.const (.int .i64 4)) (.const (.int .i64 4)) rfl 4 rfl rfl (by omega) (by unfold maxLen; omega) ?_
        intro gV U151 eg hlt hn hb
        have lv := Lib.hid hn.lst
        replace hb : Below U145.heap.size U145 U151 := by rw [← eg]; exact hb
        replace lk := Lib.hid (lk.out.below hb)
        replace bb := Lib.hid (bb.out.trans (hb.mono bb.out.size))
        clear hb hlt hn eg
        refine hK.out _ _ trivial (fun _ => ?_)
        clear hK K
        refine wpAnyH_ready (rs := [13, 16]) (by kernel_rfl) (by simp) ?_
        refine AllReadyH.cons (o := Oper.mk _ _ _ _ _ _) rfl (fun K hK => ?_) ?_
        ·
         refine step_lW 0 (by kernel_rfl) rfl ?_
         intro gW U152 eg hn hb
         have lw := Lib.hid hn
         replace lk := Lib.hid (lk.out.below hb)
         replace lv := Lib.hid (lv.out.below hb)
         replace bb := Lib.hid (bb.out.trans (hb.mono bb.out.size))
         clear hb hn eg
         refine hK.out _ _ trivial (fun _ => ?_)
         clear hK K
         refine wpAnyH_ready (rs := [16]) (by kernel_rfl) (by simp) ?_
         refine AllReadyH.cons (o := Oper.mk _ _ _ _ _ _) rfl (fun K hK => ?_) ?_
         ·
          refine step_lI 0 (by kernel_rfl) rfl ?_
          intro gC U153 eg hn hb
          have lc := Lib.hid hn
          replace lk := Lib.hid (lk.out.below hb)
          replace lv := Lib.hid (lv.out.below hb)
          replace lw := Lib.hid (lw.out.below hb)
          replace bb := Lib.hid (bb.out.trans (hb.mono bb.out.size))
          clear hb hn eg
          refine hK.out _ _ trivial (fun _ => ?_)
          clear hK K
          exact by_state (by kernel_rfl) (by kernel_rfl) (REST2 gW gK gV gC U153 ⟨lw.out, lk.out, lv.out, lc.out, bb.out⟩)
         exact AllReadyH.nil
        refine AllReadyH.cons (o := Oper.mk _ _ _ _ _ _) rfl (fun K hK => ?_) ?_
        ·
         refine step_lI 0 (by kernel_rfl) rfl ?_
         intro gC U154 eg hn hb
         have lc := Lib.hid hn
         replace lk := Lib.hid (lk.out.below hb)
         replace lv := Lib.hid (lv.out.below hb)
         replace bb := Lib.hid (bb.out.trans (hb.mono bb.out.size))
         clear hb hn eg
         refine hK.out _ _ trivial (fun _ => ?_)
         clear hK K
         refine wpAnyH_ready (rs := [13]) (by kernel_rfl) (by simp) ?_
         refine AllReadyH.cons (o := Oper.mk _ _ _ _ _ _) rfl (fun K hK => ?_) ?_
         ·
          refine step_lW 0 (by kernel_rfl) rfl ?_
          intro gW U155 eg hn hb
          have lw := Lib.hid hn
          replace lk := Lib.hid (lk.out.below hb)
          replace lv := Lib.hid (lv.out.below hb)
          replace lc := Lib.hid (lc.out.below hb)
          replace bb := Lib.hid (bb.out.trans (hb.mono bb.out.size))
          clear hb hn eg
          refine hK.out _ _ trivial (fun _ => ?_)
          clear hK K
          exact by_state (by kernel_rfl) (by kernel_rfl) (REST2 gW gK gV gC U155 ⟨lw.out, lk.out, lv.out, lc.out, bb.out⟩)
         exact AllReadyH.nil
        exact AllReadyH.nil
       refine AllReadyH.cons (o := Oper.mk _ _ _ _ _ _) rfl (fun K hK => ?_) ?_
       ·
        refine step_lI 0 (by kernel_rfl) rfl ?_
        intro gC U156 eg hn hb
        have lc := Lib.hid hn
        replace lk := Lib.hid (lk.out.below hb)
        replace bb := Lib.hid (bb.out.trans (hb.mono bb.out.size))
        clear hb hn eg
        refine hK.out _ _ trivial (fun _ => ?_)
        clear hK K
        refine wpAnyH_ready (rs := [13, 15]) (by kernel_rfl) (by simp) ?_
        refine AllReadyH.cons (o := Oper.mk _ _ _ _ _ _) rfl (fun K hK => ?_) ?_
        ·
         refine step_lW 0 (by kernel_rfl) rfl ?_
         intro gW U157 eg hn hb
         have lw := Lib.hid hn
         replace lk := Lib.hid (lk.out.below hb)
         replace lc := Lib.hid (lc.out.below hb)
         replace bb := Lib.hid (bb.out.trans (hb.mono bb.out.size))
         clear hb hn eg
         refine hK.out _ _ trivial (fun _ => ?_)
         clear hK K
         refine wpAnyH_ready (rs := [15]) (by kernel_rfl) (by simp) ?_
         refine AllReadyH.cons (o := Oper.mk _ _ _ _ _ _) rfl (fun K hK => ?_) ?_
         ·
          refine step_zerosG elemK (by kernel_rfl) (.const (.int .i64 4)) (.const (.int .i64 4)) rfl 4 rfl rfl (by omega) (by unfold maxLen; omega) ?_
          intro gV U158 eg hlt hn hb
          have lv := Lib.hid hn.lst
          replace hb : Below U157.heap.size U157 U158 := by rw [← eg]; exact hb
          replace lk := Lib.hid (lk.out.below hb)
          replace lc := Lib.hid (lc.out.below hb)
          replace lw := Lib.hid (lw.out.below hb)
          replace bb := Lib.hid (bb.out.trans (hb.mono bb.out.size))
          clear hb hlt hn eg
          refine hK.out _ _ trivial (fun _ => ?_)
          clear hK K
          exact by_state (by kernel_rfl) (by kernel_rfl) (REST2 gW gK gV gC U158 ⟨lw.out, lk.out, lv.out, lc.out, bb.out⟩)
         exact AllReadyH.nil
        refine AllReadyH.cons (o := Oper.mk _ _ _ _ _ _) rfl (fun K hK => ?_) ?_
        ·
         refine step_zerosG elemK (by kernel_rfl) (.const (.int .i64 4)) (.const (.int .i64 4)) rfl 4 rfl rfl (by omega) (by unfold maxLen; omega) ?_
         intro gV U159 eg hlt hn hb
         have lv := Lib.hid hn.lst
         replace hb : Below U156.heap.size U156 U159 := by rw [← eg]; exact hb
         replace lk := Lib.hid (lk.out.below hb)
         replace lc := Lib.hid (lc.out.below hb)
         replace bb := Lib.hid (bb.out.trans (hb.mono bb.out.size))
         clear hb hlt hn eg
         refine hK.out _ _ trivial (fun _ => ?_)
         clear hK K
         refine wpAnyH_ready (rs := [13]) (by kernel_rfl) (by simp) ?_
         refine AllReadyH.cons (o := Oper.mk _ _ _ _ _ _) rfl (fun K hK => ?_) ?_
         ·
          refine step_lW 0 (by kernel_rfl) rfl ?_
          intro gW U160 eg hn hb
          have lw := Lib.hid hn
          replace lk := Lib.hid (lk.out.below hb)
          replace lc := Lib.hid (lc.out.below hb)
          replace lv := Lib.hid (lv.out.below hb)
          replace bb := Lib.hid (bb.out.trans (hb.mono bb.out.size))
          clear hb hn eg
          refine hK.out _ _ trivial (fun _ => ?_)
          clear hK K
          exact by_state (by kernel_rfl) (by kernel_rfl) (REST2 gW gK gV gC U160 ⟨lw.out, lk.out, lv.out, lc.out, bb.out⟩)
         exact AllReadyH.nil
        exact AllReadyH.nil
       exact AllReadyH.nil
      refine AllReadyH.cons (o := Oper.mk _ _ _ _ _ _) rfl (fun K hK => ?_) ?_
      ·
       refine step_zerosG elemK (by kernel_rfl) (.const (.int .i64 4)) (.const (.int .i64 4)) rfl 4 rfl rfl (by omega) (by unfold maxLen; omega) ?_
       intro gV U161 eg hlt hn hb
       have lv := Lib.hid hn.lst
       replace hb : Below Y0.heap.size Y0 U161 := by rw [← eg]; exact hb
       replace bb := Lib.hid (bb.out.trans (hb.mono bb.out.size))
       clear hb hlt hn eg
       refine hK.out _ _ trivial (fun _ => ?_)
       clear hK K
       refine wpAnyH_ready (rs := [13, 14, 16]) (by kernel_rfl) (by simp) ?_
       refine AllReadyH.cons (o := Oper.mk _ _ _ _ _ _) rfl (fun K hK => ?_) ?_
       ·
        refine step_lW 0 (by kernel_rfl) rfl ?_
        intro gW U162 eg hn hb
        have lw := Lib.hid hn
        replace lv := Lib.hid (lv.out.below hb)
        replace bb := Lib.hid (bb.out.trans (hb.mono bb.out.size))
        clear hb hn eg
        refine hK.out _ _ trivial (fun _ => ?_)
        clear hK K
        refine wpAnyH_ready (rs := [14, 16]) (by kernel_rfl) (by simp) ?_
        refine AllReadyH.cons (o := Oper.mk _ _ _ _ _ _) rfl (fun K hK => ?_) ?_
        ·
         refine step_l4 1 0 0 0 (by kernel_rfl) rfl ?_
         intro gK U163 eg hn hb
         have lk := Lib.hid hn
         replace lv := Lib.hid (lv.out.below hb)
         replace lw := Lib.hid (lw.out.below hb)
         replace bb := Lib.hid (bb.out.trans (hb.mono bb.out.size))
         clear hb hn eg
         refine hK.out _ _ trivial (fun _ => ?_)
         clear hK K
         refine wpAnyH_ready (rs := [16]) (by kernel_rfl) (by simp) ?_
         refine AllReadyH.cons (o := Oper.mk _ _ _ _ _ _) rfl (fun K hK => ?_) ?_
         ·
          refine step_lI 0 (by kernel_rfl) rfl ?_
          intro gC U164 eg hn hb
          have lc := Lib.hid hn
          replace lv := Lib.hid (lv.out.below hb)
          replace lw := Lib.hid (lw.out.below hb)
          replace lk := Lib.hid (lk.out.below hb)
          replace bb := Lib.hid (bb.out.trans (hb.mono bb.out.size))
          clear hb hn eg
          refine hK.out _ _ trivial (fun _ => ?_)
          clear hK K
          exact by_state (by kernel_rfl) (by kernel_rfl) (REST2 gW gK gV gC U164 ⟨lw.out, lk.out, lv.out, lc.out, bb.out⟩)
         exact AllReadyH.nil
        refine AllReadyH.cons (o := Oper.mk _ _ _ _ _ _) rfl (fun K hK => ?_) ?_
        ·
         refine step_lI 0 (by kernel_rfl) rfl ?_
         intro gC U165 eg hn hb
         have lc := Lib.hid hn
         replace lv := Lib.hid (lv.out.below hb)
         replace lw := Lib.hid (lw.out.below hb)
         replace bb := Lib.hid (bb.out.trans (hb.mono bb.out.size))
         clear hb hn eg
         refine hK.out _ _ trivial (fun _ => ?_)
         clear hK K
         refine wpAnyH_ready (rs := [14]) (by kernel_rfl) (by simp) ?_
         refine AllReadyH.cons (o := Oper.mk _ _ _ _ _ _) rfl (fun K hK => ?_) ?_
         ·
          refine step_l4 1 0 0 0 (by kernel_rfl) rfl ?_
          intro gK U166 eg hn hb
          have lk := Lib.hid hn
          replace lv := Lib.hid (lv.out.below hb)
          replace lw := Lib.hid (lw.out.below hb)
          replace lc := Lib.hid (lc.out.below hb)
          replace bb := Lib.hid (bb.out.trans (hb.mono bb.out.size))
          clear hb hn eg
          refine hK.out _ _ trivial (fun _ => ?_)
          clear hK K
          exact by_state (by kernel_rfl) (by kernel_rfl) (REST2 gW gK gV gC U166 ⟨lw.out, lk.out, lv.out, lc.out, bb.out⟩)
         exact AllReadyH.nil
        exact AllReadyH.nil
       refine AllReadyH.cons (o := Oper.mk _ _ _ _ _ _) rfl (fun K hK => ?_) ?_
       ·
        refine step_l4 1 0 0 0 (by kernel_rfl) rfl ?_
        intro gK U167 eg hn hb
        have lk := Lib.hid hn
        replace lv := Lib.hid (lv.out.below hb)
        replace bb := Lib.hid (bb.out.trans (hb.mono bb.out.size))
        clear hb hn eg
        refine hK.out _ _ trivial (fun _ => ?_)
        clear hK K
        refine wpAnyH_ready (rs := [13, 16]) (by kernel_rfl) (by simp) ?_
        refine AllReadyH.cons (o := Oper.mk _ _ _ _ _ _) rfl (fun K hK => ?_) ?_
        ·
         refine step_lW 0 (by kernel_rfl) rfl ?_
         intro gW U168 eg hn hb
         have lw := Lib.hid hn
         replace lv := Lib.hid (lv.out.below hb)
         replace lk := Lib.hid (lk.out.below hb)
         replace bb := Lib.hid (bb.out.trans (hb.mono bb.out.size))
         clear hb hn eg
         refine hK.out _ _ trivial (fun _ => ?_)
         clear hK K
         refine wpAnyH_ready (rs := [16]) (by kernel_rfl) (by simp) ?_
         refine AllReadyH.cons (o := Oper.mk _ _ _ _ _ _) rfl (fun K hK => ?_) ?_
         ·
          refine step_lI 0 (by kernel_rfl) rfl ?_
          intro gC U169 eg hn hb
          have lc := Lib.hid hn
          replace lv := Lib.hid (lv.out.below hb)
          replace lk := Lib.hid (lk.out.below hb)
          replace lw := Lib.hid (lw.out.below hb)
          replace bb := Lib.hid (bb.out.trans (hb.mono bb.out.size))
          clear hb hn eg
          refine hK.out _ _ trivial (fun _ => ?_)
          clear hK K
          exact by_state (by kernel_rfl) (by kernel_rfl) (REST2 gW gK gV gC U169 ⟨lw.out, lk.out, lv.out, lc.out, bb.out⟩)
         exact AllReadyH.nil
        refine AllReadyH.cons (o := Oper.mk _ _ _ _ _ _) rfl (fun K hK => ?_) ?_
        ·
         refine step_lI 0 (by kernel_rfl) rfl ?_
         intro gC U170 eg hn hb
         have lc := Lib.hid hn
         replace lv := Lib.hid (lv.out.below hb)
         replace lk := Lib.hid (lk.out.below hb)
         replace bb := Lib.hid (bb.out.trans (hb.mono bb.out.size))
         clear hb hn eg
         refine hK.out _ _ trivial (fun _ => ?_)
         clear hK K
         refine wpAnyH_ready (rs := [13]) (by kernel_rfl) (by simp) ?_
         refine AllReadyH.cons (o := Oper.mk _ _ _ _ _ _) rfl (fun K hK => ?_) ?_
         ·
          refine step_lW 0 (by kernel_rfl) rfl ?_
          intro gW U171 eg hn hb
          have lw := Lib.hid hn
          replace lv := Lib.hid (lv.out.below hb)
          replace lk := Lib.hid (lk.out.below hb)
          replace lc := Lib.hid (lc.out.below hb)
          replace bb := Lib.hid (bb.out.trans (hb.mono bb.out.size))
          clear hb hn eg
          refine hK.out _ _ trivial (fun _ => ?_)
          clear hK K
          exact by_state (by kernel_rfl) (by kernel_rfl) (REST2 gW gK gV gC U171 ⟨lw.out, lk.out, lv.out, lc.out, bb.out⟩)
         exact AllReadyH.nil
        exact AllReadyH.nil
       refine AllReadyH.cons (o := Oper.mk _ _ _ _ _ _) rfl (fun K hK => ?_) ?_
       ·
        refine step_lI 0 (by kernel_rfl) rfl ?_
        intro gC U172 eg hn hb
        have lc := Lib.hid hn
        replace lv := Lib.hid (lv.out.below hb)
        replace bb := Lib.hid (bb.out.trans (hb.mono bb.out.size))
        clear hb hn eg
        refine hK.out _ _ trivial (fun _ => ?_)
        clear hK K
        refine wpAnyH_ready (rs := [13, 14]) (by kernel_rfl) (by simp) ?_
        refine AllReadyH.cons (o := Oper.mk _ _ _ _ _ _) rfl (fun K hK => ?_) ?_
        ·
         refine step_lW 0 (by kernel_rfl) rfl ?_
         intro gW U173 eg hn hb
         have lw := Lib.hid hn
         replace lv := Lib.hid (lv.out.below hb)
         replace lc := Lib.hid (lc.out.below hb)
         replace bb := Lib.hid (bb.out.trans (hb.mono bb.out.size))
         clear hb hn eg
         refine hK.out _ _ trivial (fun _ => ?_)
         clear hK K
         refine wpAnyH_ready (rs := [14]) (by kernel_rfl) (by simp) ?_
         refine AllReadyH.cons (o := Oper.mk _ _ _ _ _ _) rfl (fun K hK => ?_) ?_
         ·
          refine step_l4 1 0 0 0 (by kernel_rfl) rfl ?_
          intro gK U174 eg hn hb
          have lk := Lib.hid hn
          replace lv := Lib.hid (lv.out.below hb)
          replace lc := Lib.hid (lc.out.below hb)
          replace lw := Lib.hid (lw.out.below hb)
          replace bb := Lib.hid (bb.out.trans (hb.mono bb.out.size))
          clear hb hn eg
          refine hK.out _ _ trivial (fun _ => ?_)
          clear hK K
          exact by_state (by kernel_rfl) (by kernel_rfl) (REST2 gW gK gV gC U174 ⟨lw.out, lk.out, lv.out, lc.out, bb.out⟩)
         exact AllReadyH.nil
        refine AllReadyH.cons (o := Oper.mk _ _ _ _ _ _) rfl (fun K hK => ?_) ?_
        ·
         refine step_l4 1 0 0 0 (by kernel_rfl) rfl ?_
         intro gK U175 eg hn hb
         have lk := Lib.hid hn
         replace lv := Lib.hid (lv.out.below hb)
         replace lc := Lib.hid (lc.out.below hb)
         replace bb := Lib.hid (bb.out.trans (hb.mono bb.out.size))
         clear hb hn eg
         refine hK.out _ _ trivial (fun _ => ?_)
         clear hK K
         refine wpAnyH_ready (rs := [13]) (by kernel_rfl) (by simp) ?_
         refine AllReadyH.cons (o := Oper.mk _ _ _ _ _ _) rfl (fun K hK => ?_) ?_
         ·
          refine step_lW 0 (by kernel_rfl) rfl ?_
          intro gW U176 eg hn hb
          have lw := Lib.hid hn
          replace lv := Lib.hid (lv.out.below hb)
          replace lc := Lib.hid (lc.out.below hb)
          replace lk := Lib.hid (lk.out.below hb)
          replace bb := Lib.hid (bb.out.trans (hb.mono bb.out.size))
          clear hb hn eg
          refine hK.out _ _ trivial (fun _ => ?_)
          clear hK K
          exact by_state (by kernel_rfl) (by kernel_rfl) (REST2 gW gK gV gC U176 ⟨lw.out, lk.out, lv.out, lc.out, bb.out⟩)
         exact AllReadyH.nil
        exact AllReadyH.nil
       exact AllReadyH.nil
      refine AllReadyH.cons (o := Oper.mk _ _ _ _ _ _) rfl (fun K hK => ?_) ?_
      ·
       refine step_lI 0 (by kernel_rfl) rfl ?_
       intro gC U177 eg hn hb
       have lc := Lib.hid hn
       replace bb := Lib.hid (bb.out.trans (hb.mono bb.out.size))
       clear hb hn eg
       refine hK.out _ _ trivial (fun _ => ?_)
       clear hK K
       refine wpAnyH_ready (rs := [13, 14, 15]) (by kernel_rfl) (by simp) ?_
       refine AllReadyH.cons (o := Oper.mk _ _ _ _ _ _) rfl (fun K hK => ?_) ?_
       ·
        refine step_lW 0 (by kernel_rfl) rfl ?_
        intro gW U178 eg hn hb
        have lw := Lib.hid hn
        replace lc := Lib.hid (lc.out.below hb)
        replace bb := Lib.hid (bb.out.trans (hb.mono bb.out.size))
        clear hb hn eg
        refine hK.out _ _ trivial (fun _ => ?_)
        clear hK K
        refine wpAnyH_ready (rs := [14, 15]) (by kernel_rfl) (by simp) ?_
        refine AllReadyH.cons (o := Oper.mk _ _ _ _ _ _) rfl (fun K hK => ?_) ?_
        ·
         refine step_l4 1 0 0 0 (by kernel_rfl) rfl ?_
         intro gK U179 eg hn hb
         have lk := Lib.hid hn
         replace lc := Lib.hid (lc.out.below hb)
         replace lw := Lib.hid (lw.out.below hb)
         replace bb := Lib.hid (bb.out.trans (hb.mono bb.out.size))
         clear hb hn eg
         refine hK.out _ _ trivial (fun _ => ?_)
         clear hK K
         refine wpAnyH_ready (rs := [15]) (by kernel_rfl) (by simp) ?_
         refine AllReadyH.cons (o := Oper.mk _ _ _ _ _ _) rfl (fun K hK => ?_) ?_
         ·
          refine step_zerosG elemK (by kernel_rfl) (.const (.int .i64 4)) (.const (.int .i64 4)) rfl 4 rfl rfl (by omega) (by unfold maxLen; omega) ?_
          intro gV U180 eg hlt hn hb
          have lv := Lib.hid hn.lst
          replace hb : Below U179.heap.size U179 U180 := by rw [← eg]; exact hb
          replace lc := Lib.hid (lc.out.below hb)
          replace lw := Lib.hid (lw.out.below hb)
          replace lk := Lib.hid (lk.out.below hb)
          replace bb := Lib.hid (bb.out.trans (hb.mono bb.out.size))
          clear hb hlt hn eg
          refine hK.out _ _ trivial (fun _ => ?_)
          clear hK K
          exact by_state (by kernel_rfl) (by kernel_rfl) (REST2 gW gK gV gC U180 ⟨lw.out, lk.out, lv.out, lc.out, bb.out⟩)
         exact AllReadyH.nil
        refine AllReadyH.cons (o := Oper.mk _ _ _ _ _ _) rfl (fun K hK => ?_) ?_
        ·
         refine step_zerosG elemK (by kernel_rfl) (.const (.int .i64 4)) (.const (.int .i64 4)) rfl 4 rfl rfl (by omega) (by unfold maxLen; omega) ?_
         intro gV U181 eg hlt hn hb
         have lv := Lib.hid hn.lst
         replace hb : Below U178.heap.size U178 U181 := by rw [← eg]; exact hb
         replace lc := Lib.hid (lc.out.below hb)
         replace lw := Lib.hid (lw.out.below hb)
         replace bb := Lib.hid (bb.out.trans (hb.mono bb.out.size))
         clear hb hlt hn eg
         refine hK.out _ _ trivial (fun _ => ?_)
         clear hK K
         refine wpAnyH_ready (rs := [14]) (by kernel_rfl) (by simp) ?_
         refine AllReadyH.cons (o := Oper.mk _ _ _ _ _ _) rfl (fun K hK => ?_) ?_
         ·
          refine step_l4 1 0 0 0 (by kernel_rfl) rfl ?_
          intro gK U182 eg hn hb
          have lk := Lib.hid hn
          replace lc := Lib.hid (lc.out.below hb)
          replace lw := Lib.hid (lw.out.below hb)
          replace lv := Lib.hid (lv.out.below hb)
          replace bb := Lib.hid (bb.out.trans (hb.mono bb.out.size))
          clear hb hn eg
          refine hK.out _ _ trivial (fun _ => ?_)
          clear hK K
          exact by_state (by kernel_rfl) (by kernel_rfl) (REST2 gW gK gV gC U182 ⟨lw.out, lk.out, lv.out, lc.out, bb.out⟩)
         exact AllReadyH.nil
        exact AllReadyH.nil
       refine AllReadyH.cons (o := Oper.mk _ _ _ _ _ _) rfl (fun K hK => ?_) ?_
       ·
        refine step_l4 1 0 0 0 (by kernel_rfl) rfl ?_
        intro gK U183 eg hn hb
        have lk := Lib.hid hn
        replace lc := Lib.hid (lc.out.below hb)
        replace bb := Lib.hid (bb.out.trans (hb.mono bb.out.size))
        clear hb hn eg
        refine hK.out _ _ trivial (fun _ => ?_)
        clear hK K
        refine wpAnyH_ready (rs := [13, 15]) (by kernel_rfl) (by simp) ?_
        refine AllReadyH.cons (o := Oper.mk _ _ _ _ _ _) rfl (fun K hK => ?_) ?_
        ·
         refine step_lW 0 (by kernel_rfl) rfl ?_
         intro gW U184 eg hn hb
         have lw := Lib.hid hn
         replace lc := Lib.hid (lc.out.below hb)
         replace lk := Lib.hid (lk.out.below hb)
         replace bb := Lib.hid (bb.out.trans (hb.mono bb.out.size))
         clear hb hn eg
         refine hK.out _ _ trivial (fun _ => ?_)
         clear hK K
         refine wpAnyH_ready (rs := [15]) (by kernel_rfl) (by simp) ?_
         refine AllReadyH.cons (o := Oper.mk _ _ _ _ _ _) rfl (fun K hK => ?_) ?_
         ·
          refine step_zerosG elemK (by kernel_rfl) (.const (.int .i64 4)) (.const (.int .i64 4)) rfl 4 rfl rfl (by omega) (by unfold maxLen; omega) ?_
          intro gV U185 eg hlt hn hb
          have lv := Lib.hid hn.lst
          replace hb : Below U184.heap.size U184 U185 := by rw [← eg]; exact hb
          replace lc := Lib.hid (lc.out.below hb)
          replace lk := Lib.hid (lk.out.below hb)
          replace lw := Lib.hid (lw.out.below hb)
          replace bb := Lib.hid (bb.out.trans (hb.mono bb.out.size))
          clear hb hlt hn eg
          refine hK.out _ _ trivial (fun _ => ?_)
          clear hK K
          exact by_state (by kernel_rfl) (by kernel_rfl) (REST2 gW gK gV gC U185 ⟨lw.out, lk.out, lv.out, lc.out, bb.out⟩)
         exact AllReadyH.nil
        refine AllReadyH.cons (o := Oper.mk _ _ _ _ _ _) rfl (fun K hK => ?_) ?_
        ·
         refine step_zerosG elemK (by kernel_rfl) (.const (.int .i64 4)) (.const (.int .i64 4)) rfl 4 rfl rfl (by omega) (by unfold maxLen; omega) ?_
         intro gV U186 eg hlt hn hb
         have lv := Lib.hid hn.lst
         replace hb : Below U183.heap.size U183 U186 := by rw [← eg]; exact hb
         replace lc := Lib.hid (lc.out.below hb)
         replace lk := Lib.hid (lk.out.below hb)
         replace bb := Lib.hid (bb.out.trans (hb.mono bb.out.size))
         clear hb hlt hn eg
         refine hK.out _ _ trivial (fun _ => ?_)
         clear hK K
         refine wpAnyH_ready (rs := [13]) (by kernel_rfl) (by simp) ?_
         refine AllReadyH.cons (o := Oper.mk _ _ _ _ _ _) rfl (fun K hK => ?_) ?_
         ·
          refine step_lW 0 (by kernel_rfl) rfl ?_
          intro gW U187 eg hn hb
          have lw := Lib.hid hn
          replace lc := Lib.hid (lc.out.below hb)
          replace lk := Lib.hid (lk.out.below hb)
          replace lv := Lib.hid (lv.out.below hb)
          replace bb := Lib.hid (bb.out.trans (hb.mono bb.out.size))
          clear hb hn eg
          refine hK.out _ _ trivial (fun _ => ?_)
          clear hK K
          exact by_state (by kernel_rfl) (by kernel_rfl) (REST2 gW gK gV gC U187 ⟨lw.out, lk.out, lv.out, lc.out, bb.out⟩)
         exact AllReadyH.nil
        exact AllReadyH.nil
       refine AllReadyH.cons (o := Oper.mk _ _ _ _ _ _) rfl (fun K hK => ?_) ?_
       ·
        refine step_zerosG elemK (by kernel_rfl) (.const (.int .i64 4)) (.const (.int .i64 4)) rfl 4 rfl rfl (by omega) (by unfold maxLen; omega) ?_
        intro gV U188 eg hlt hn hb
        have lv := Lib.hid hn.lst
        replace hb : Below U177.heap.size U177 U188 := by rw [← eg]; exact hb
        replace lc := Lib.hid (lc.out.below hb)
        replace bb := Lib.hid (bb.out.trans (hb.mono bb.out.size))
        clear hb hlt hn eg
        refine hK.out _ _ trivial (fun _ => ?_)
        clear hK K
        refine wpAnyH_ready (rs := [13, 14]) (by kernel_rfl) (by simp) ?_
        refine AllReadyH.cons (o := Oper.mk _ _ _ _ _ _) rfl (fun K hK => ?_) ?_
        ·
         refine step_lW 0 (by kernel_rfl) rfl ?_
         intro gW U189 eg hn hb
         have lw := Lib.hid hn
         replace lc := Lib.hid (lc.out.below hb)
         replace lv := Lib.hid (lv.out.below hb)
         replace bb := Lib.hid (bb.out.trans (hb.mono bb.out.size))
         clear hb hn eg
         refine hK.out _ _ trivial (fun _ => ?_)
         clear hK K
         refine wpAnyH_ready (rs := [14]) (by kernel_rfl) (by simp) ?_
         refine AllReadyH.cons (o := Oper.mk _ _ _ _ _ _) rfl (fun K hK => ?_) ?_
         ·
          refine step_l4 1 0 0 0 (by kernel_rfl) rfl ?_
          intro gK U190 eg hn hb
          have lk := Lib.hid hn
          replace lc := Lib.hid (lc.out.below hb)
          replace lv := Lib.hid (lv.out.below hb)
          replace lw := Lib.hid (lw.out.below hb)
          replace bb := Lib.hid (bb.out.trans (hb.mono bb.out.size))
          clear hb hn eg
          refine hK.out _ _ trivial (fun _ => ?_)
          clear hK K
          exact by_state (by kernel_rfl) (by kernel_rfl) (REST2 gW gK gV gC U190 ⟨lw.out, lk.out, lv.out, lc.out, bb.out⟩)
         exact AllReadyH.nil
        refine AllReadyH.cons (o := Oper.mk _ _ _ _ _ _) rfl (fun K hK => ?_) ?_
        ·
         refine step_l4 1 0 0 0 (by kernel_rfl) rfl ?_
         intro gK U191 eg hn hb
         have lk := Lib.hid hn
         replace lc := Lib.hid (lc.out.below hb)
         replace lv := Lib.hid (lv.out.below hb)
         replace bb := Lib.hid (bb.out.trans (hb.mono bb.out.size))
         clear hb hn eg
         refine hK.out _ _ trivial (fun _ => ?_)
         clear hK K
         refine wpAnyH_ready (rs := [13]) (by kernel_rfl) (by simp) ?_
         refine AllReadyH.cons (o := Oper.mk _ _ _ _ _ _) rfl (fun K hK => ?_) ?_
         ·
          refine step_lW 0 (by kernel_rfl) rfl ?_
          intro gW U192 eg hn hb
          have lw := Lib.hid hn
          replace lc := Lib.hid (lc.out.below hb)
          replace lv := Lib.hid (lv.out.below hb)
          replace lk := Lib.hid (lk.out.below hb)
          replace bb := Lib.hid (bb.out.trans (hb.mono bb.out.size))
          clear hb hn eg
          refine hK.out _ _ trivial (fun _ => ?_)
          clear hK K
          exact by_state (by kernel_rfl) (by kernel_rfl) (REST2 gW gK gV gC U192 ⟨lw.out, lk.out, lv.out, lc.out, bb.out⟩)
         exact AllReadyH.nil
        exact AllReadyH.nil
       exact AllReadyH.nil
      exact AllReadyH.nil
     case rest =>
      rintro k1 k2 k3 k4 Z2 ⟨lw, lk, lv, lc, bb⟩
      replace lw := Lib.hid lw
      replace lk := Lib.hid lk
      replace lv := Lib.hid lv
      replace lc := Lib.hid lc
      replace bb := Lib.hid bb
      try simp only [Act.put, List.setIfInBounds_toArray, List.set_cons_zero, List.set_cons_succ]
      refine wpAnyH_take (i := 17) (oi := Oper.mk _ _ _ _ _ _) (v := ?v17_193) rfl (by kernel_rfl) (by kernel_rfl) (by kernel_rfl) (fun _ _ _ h => h) (Or.inl ⟨by rfl, ?hy17_193⟩) trivial ?rest17_193
      case hy17_193 =>
       intro w0 _
       go_simp
       all_goals with_reducible rfl
      try simp only [Act.put, List.setIfInBounds_toArray, List.set_cons_zero, List.set_cons_succ]
      refine wpAnyH_ready (rs := [18]) (by kernel_rfl) (by simp) ?_
      refine AllReadyH.cons (o := Oper.mk _ _ _ _ _ _) rfl (fun K hK => ?_) AllReadyH.nil
      go_simp
      refine (bad2 _ _ _ _ _ (TB.out.below bb.out) lw.out lk.out lv.out lc.out).mono ?_
      rintro e Y9 ⟨rfl, hb⟩
      replace bb := Lib.hid (bb.out.trans (hb.mono bb.out.size))
      clear hb lw lk lv lc
      go_wp2_with fail
      refine hK.out _ _ trivial (fun _ => ?_)
      clear hK K
      try simp only [Act.put, List.setIfInBounds_toArray, List.set_cons_zero, List.set_cons_succ]
      refine wpAnyH_take (i := 19) (oi := Oper.mk _ _ _ _ _ _) (v := ?v19_194) rfl (by kernel_rfl) (by kernel_rfl) (by kernel_rfl) (fun _ _ _ h => h) (Or.inl ⟨by rfl, ?hy19_194⟩) trivial ?rest19_194
      case hy19_194 =>
       intro w0 _
       go_simp
       all_goals with_reducible rfl
      try simp only [Act.put, List.setIfInBounds_toArray, List.set_cons_zero, List.set_cons_succ]
      refine wpAnyH_take (i := 20) (oi := Oper.mk _ _ _ _ _ _) (v := ?v20_195) rfl (by kernel_rfl) (by kernel_rfl) (by kernel_rfl) (fun _ _ _ h => h) (Or.inl ⟨by rfl, ?hy20_195⟩) trivial ?rest20_195
      case hy20_195 =>
       intro w0 _
       go_simp
       all_goals with_reducible rfl
      try simp only [Act.put, List.setIfInBounds_toArray, List.set_cons_zero, List.set_cons_succ]
      refine wpAnyH_take (i := 21) (oi := Oper.mk _ _ _ _ _ _) (v := ?v21_196) rfl (by kernel_rfl) (by kernel_rfl) (by kernel_rfl) (fun _ _ _ h => h) (Or.inl ⟨by rfl, ?hy21_196⟩) trivial ?rest21_196
      case hy21_196 =>
       intro w0 _
       go_simp
       all_goals with_reducible rfl
      try simp only [Act.put, List.setIfInBounds_toArray, List.set_cons_zero, List.set_cons_succ]
      refine wpAnyH_done (by kernel_rfl) ?_ _
      go_wp2
      go_meet
      exact ⟨rfl, bb.out⟩
   case rest =>
    obtain ⟨rfl, hbx⟩ := hcut
    replace BB := Lib.hid (BB.out.trans (hbx.mono BB.out.size))
    clear hbx
    go_wp2_with fail
    refine (lAlive _ (TB0.out.below BB.out)).mono ?_
    rintro e w19 ⟨rfl, hb⟩
    go_wp2
    go_ret
    exact ⟨rfl, BB.out.trans (hb.mono BB.out.size)⟩
end Go.Proofs.YtgngipkfbckhpaaDoor.slotsNames
