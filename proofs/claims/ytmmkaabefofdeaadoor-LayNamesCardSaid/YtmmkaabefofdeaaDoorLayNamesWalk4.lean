/- The walk of the law LayNames: the errors' numbers, and more examples. -/
import Derived.Test.YtmmkaabefofdeaaDoorLaw084
namespace Go.Proofs.YtmmkaabefofdeaaDoor.layNames
open Go.RowKit
set_option linter.unusedVariables false
set_option linter.unusedSimpArgs false

theorem plst8 (ps : List (Int × Int)) (w : World) (t : TypeId) : PLst (w.alloc (.cells (pcells ps).toArray t)) (some ⟨w.heap.size, 0, none⟩) ps := by
  refine Or.inr ⟨w.heap.size, 0, rfl, by simp, fun i hi => ?_⟩
  have hh : (w.alloc (.cells (pcells ps).toArray t)).heap[w.heap.size]? = some (.cells (pcells ps).toArray t) := by show (w.heap.push _)[w.heap.size]? = _; exact Array.getElem?_push_size
  simp only [World.cell?, hh, Nat.zero_add]
  simp [hi]
theorem step_pairs5 {P : Program} {T E : TypeId} {bytes : Nat} (hE : Elem P T E (.agg #[.int .i64 0, .int .i64 0]) 2 bytes) {w : World} {ops : Array Oper} {o : Oper} {act : Act} {K : Act → World → Prop} {Q : Exit → Act → World → Prop} {F : Prop} (hg : o.guard = none) (l c : Operand)
    (hop : o.op = Op.makeSlice T l c) (hl : act.eval l = .int .i64 5) (hc : act.eval c = .int .i64 5) (b2 : bytes * 5 ≤ 281474976710656)
    (h : ∀ g w', g = w.heap.size → g < w'.heap.size → PLst w' (some ⟨g, 0, none⟩) (List.replicate 5 (0, 0)) → Below g w w' → K (act.put o.dst (.slice (some ⟨g, 0, none⟩) 5 5)) w') : if Region.wanted o (yielded ops act.tmps) = true then Oper.wp P o act w K Q else F := by
  have hw : Region.wanted o (yielded ops act.tmps) = true := by simp [Region.wanted, hg]
  rw [if_pos hw]
  obtain ⟨i0, hi0, hz0, hz1, hz2⟩ := hE.info
  obtain ⟨w', hrun, r1, r2⟩ := run_make_full (P := P) w w.heap.size T E i0 (.agg #[.int .i64 0, .int .i64 0]) 2 hE.und hi0 hz0 hz1 .i64 .i64 5 (by rw [hz2]; exact b2) (by unfold maxLen; omega) (Nat.le_refl _)
  have e : (madeCells (Value.agg #[.int .i64 0, .int .i64 0]).cells (5 * 2)).toList = pcells (List.replicate 5 (0, 0)) := by first | (simp [madeCells, Value.cells, pcells]; done) | (simp [madeCells, Value.cells, pcells, List.range_succ]; done) | (unfold madeCells; kernel_rfl) | (simp [madeCells, Value.cells, pcells]; decide)
  rw [e] at r1
  have hlt := (World.ownsRow.lt r1 w.heap.size rfl).2
  obtain ⟨A', c', hv, hC, _⟩ := own_cells r1
  injection hv with e1 _ _
  subst e1
  unfold Oper.wp
  simp [execOp, hop, hl, hc] at hrun ⊢
  simp [hrun, Result.andThen]
  exact h _ w' rfl hlt hC ((Below.refl _ _).grown r2 (Nat.le_refl _) (fun k e => by cases e))
theorem facts : Ly.withE Ly.ch 0 2 0 = 9 ∧ Ly.withE Ly.ch 0 4 3 = 2 ∧ Ly.withE Ly.ch 0 4 (-1) = 2 ∧ Ly.withE Ly.ch 1 4 1 = 0 ∧ Ly.ch.pairsE 0 5 = 2 ∧ Sl.none.pairsE 0 0 = 8 ∧ Ly.intoE Ly.ch 8 2 = 0 ∧ Ly.intoE Ly.ch 12 0 = 2 ∧ Ly.intoE Ly.ch 4 5 = 2 := by decide +kernel
theorem vals8 : (Ly.withS Ly.ch 1 4 1 (7, 0)).keys = [5, 6, 7, 0] ∧ (Ly.intoS Ly.ch 8 [(1, 0), (2, 0)]).keys = [1, 0, 0, 0, 2, 0, 0, 0] ∧ (Ly.intoS Ly.ch 8 [(1, 0), (2, 0)]).laid = 4 := by decide +kernel
set_option maxRecDepth 100000 in
set_option maxHeartbeats 8000000 in
theorem walk (w : World) (hT : Tab w) :
    Calls Tryd.prog 3 #[] w fun e w' => e = .returned (.bool true) ∧ Below w.heap.size w w' := by
  obtain ⟨f1, f2, f3, f4, f5, f6, f7, f8, f9⟩ := facts
  obtain ⟨v4, v7, l7⟩ := vals8
  have CF := Lib.hid ch_fine
  have Z := Lib.hid (fun (z : Int) (h1 : -1000 ≤ z) (h2 : z ≤ 1000) => (small64 h1 h2 : In64 z))
  have sh4 := Lib.hid (with_fine CF.out.ok CF.out.short 1 4 1 (p := (7, 0)) (Z.out 7 (by omega) (by omega)) (Z.out 0 (by omega) (by omega))).short
  have P2 : In64P [(1, 0), (2, 0)] := fun k => by
    match k with
    | 0 => exact ⟨Z.out 1 (by omega) (by omega), Z.out 0 (by omega) (by omega)⟩
    | 1 => exact ⟨Z.out 2 (by omega) (by omega), Z.out 0 (by omega) (by omega)⟩
    | _ + 2 => exact ⟨Z.out 0 (by omega) (by omega), Z.out 0 (by omega) (by omega)⟩
  have P0 : In64P [] := fun k => by
    have : ([] : List (Int × Int)).getD k (0, 0) = (0, 0) := by simp
    rw [this]
    exact ⟨Z.out 0 (by omega) (by omega), Z.out 0 (by omega) (by omega)⟩
  have P5 : In64P (List.replicate 5 (0, 0)) := fun k => by
    have : (List.replicate 5 ((0 : Int), (0 : Int))).getD k (0, 0) = (0, 0) := by
      rw [List.getD_eq_getElem?_getD, List.getElem?_replicate]
      split <;> rfl
    rw [this]
    exact ⟨Z.out 0 (by omega) (by omega), Z.out 0 (by omega) (by omega)⟩
  have sh7 := Lib.hid (into_fine CF.out.ok CF.out.short 8 [(1, 0), (2, 0)] (by decide) P2).short
  have CC := Lib.hid (fun V tv => l8Chapter V tv)
  have C1 := Lib.hid (fun A V (hv : Held V Ly.ch A) tv => yWith Ly.ch A 0 2 0 0 0 V hv CF.out.ok CF.out.short tv (Z.out _ (by omega) (by omega)) (Z.out _ (by omega) (by omega)) (Z.out _ (by omega) (by omega)) (Z.out _ (by omega) (by omega)) (Z.out _ (by omega) (by omega)))
  rw [f1] at C1
  have C2 := Lib.hid (fun A V (hv : Held V Ly.ch A) tv => yWith Ly.ch A 0 4 3 0 0 V hv CF.out.ok CF.out.short tv (Z.out _ (by omega) (by omega)) (Z.out _ (by omega) (by omega)) (Z.out _ (by omega) (by omega)) (Z.out _ (by omega) (by omega)) (Z.out _ (by omega) (by omega)))
  rw [f2] at C2
  have C3 := Lib.hid (fun A V (hv : Held V Ly.ch A) tv => yWith Ly.ch A 0 4 (-1) 0 0 V hv CF.out.ok CF.out.short tv (Z.out _ (by omega) (by omega)) (Z.out _ (by omega) (by omega)) (Z.out _ (by omega) (by omega)) (Z.out _ (by omega) (by omega)) (Z.out _ (by omega) (by omega)))
  rw [f3] at C3
  have C4 := Lib.hid (fun A V (hv : Held V Ly.ch A) tv => yWith Ly.ch A 1 4 1 7 0 V hv CF.out.ok CF.out.short tv (Z.out _ (by omega) (by omega)) (Z.out _ (by omega) (by omega)) (Z.out _ (by omega) (by omega)) (Z.out _ (by omega) (by omega)) (Z.out _ (by omega) (by omega)))
  rw [f4] at C4
  have C5 := Lib.hid (fun A V (hv : Held V Ly.ch A) tv => yEven Ly.ch A 0 5 V hv CF.out.ok CF.out.short tv (Z.out _ (by omega) (by omega)) (Z.out _ (by omega) (by omega)))
  rw [f5] at C5
  have C6 := Lib.hid (fun V tv => yEven Sl.none adsNone 0 0 V (none_own V 0).1.held ok_none short_none tv (Z.out _ (by omega) (by omega)) (Z.out _ (by omega) (by omega)))
  rw [f6] at C6
  have C7 := Lib.hid (fun A AL cL V (hv : Held V Ly.ch A) tv (hp : PLst V AL [(1, 0), (2, 0)]) => yInto Ly.ch A 8 AL cL [(1, 0), (2, 0)] V hv CF.out.ok CF.out.short tv (Z.out _ (by omega) (by omega)) (by decide) hp P2)
  rw [show ([(1, 0), (2, 0)] : List (Int × Int)).length = 2 from rfl, f7] at C7
  have C8 := Lib.hid (fun A V (hv : Held V Ly.ch A) tv => yInto Ly.ch A 12 none 0 [] V hv CF.out.ok CF.out.short tv (Z.out _ (by omega) (by omega)) (by decide) (Or.inl rfl) P0)
  rw [show ([] : List (Int × Int)).length = 0 from rfl, f8] at C8
  have C9 := Lib.hid (fun A AL cL V (hv : Held V Ly.ch A) tv (hp : PLst V AL (List.replicate 5 (0, 0))) => yInto Ly.ch A 4 AL cL (List.replicate 5 (0, 0)) V hv CF.out.ok CF.out.short tv (Z.out _ (by omega) (by omega)) (by decide) hp P5)
  rw [show (List.replicate 5 ((0 : Int), (0 : Int))).length = 5 from rfl, f9] at C9
  obtain ⟨S4, hS4⟩ : ∃ S, S = Ly.withS Ly.ch 1 4 1 (7, 0) := ⟨_, rfl⟩
  obtain ⟨S7, hS7⟩ : ∃ S, S = Ly.intoS Ly.ch 8 [(1, 0), (2, 0)] := ⟨_, rfl⟩
  rw [← hS4] at C4 v4 sh4
  rw [← hS7] at C7 v7 l7 sh7
  have Q4 := Lib.hid (show (S4.keys == [5, 6, 7, 0]) = true by rw [v4]; rfl)
  have Q7 := Lib.hid (show (S7.keys == [1, 0, 0, 0, 2, 0, 0, 0]) = true by rw [v7]; rfl)
  have L7 := Lib.hid (show (S7.laid : Int) = 4 by rw [l7]; rfl)
  have TB0 := Lib.hid hT
  have CA := Lib.hid (fun V tv => lAlive V tv)
  obtain ⟨S0, hS0⟩ : ∃ S, S = Ly.ch := ⟨_, rfl⟩
  obtain ⟨X1, hX1⟩ : ∃ S, S = Ly.withS Ly.ch 0 2 0 (0, 0) := ⟨_, rfl⟩
  obtain ⟨X2, hX2⟩ : ∃ S, S = Ly.withS Ly.ch 0 4 3 (0, 0) := ⟨_, rfl⟩
  obtain ⟨X3, hX3⟩ : ∃ S, S = Ly.withS Ly.ch 0 4 (-1) (0, 0) := ⟨_, rfl⟩
  obtain ⟨X5, hX5⟩ : ∃ S, S = Ly.evenS Ly.ch 0 5 := ⟨_, rfl⟩
  obtain ⟨X6, hX6⟩ : ∃ S, S = Ly.evenS Sl.none 0 0 := ⟨_, rfl⟩
  obtain ⟨X8, hX8⟩ : ∃ S, S = Ly.intoS Ly.ch 12 [] := ⟨_, rfl⟩
  obtain ⟨X9, hX9⟩ : ∃ S, S = Ly.intoS Ly.ch 4 (List.replicate 5 (0, 0)) := ⟨_, rfl⟩
  rw [← hX1, ← hS0] at C1
  rw [← hX2, ← hS0] at C2
  rw [← hX3, ← hS0] at C3
  rw [← hS0] at C4 CC C7
  rw [← hX5, ← hS0] at C5
  rw [← hX6] at C6
  rw [← hX8, ← hS0] at C8
  rw [← hX9, ← hS0] at C9
  clear P0 hX1 hX2 hX3 hX5 hX6 hX8 hX9 hS0 hS4 hS7 f1 f2 f3 f4 f5 f6 f7 f8 f9 v4 v7 l7 P2 P5 hT CF Z
  unfold slv at C1 C2 C3 C4 C5 C6 C7 C8 C9
  have BB := Lib.hid (Below.refl w.heap.size w)
  go_enter Tryd.func3, Tryd.ntmps3
  go_wp2_with fail
  refine (CC.out _ (TB0.out.below BB.out)).mono ?_
  rintro e w1a ⟨A, rfl, own, hb⟩
  have O := Lib.hid own.held
  replace BB := Lib.hid (BB.out.trans (hb.mono BB.out.size))
  clear hb own
  unfold slv
  go_wp2_with fail
  refine (C1.out A _ O.out (TB0.out.below BB.out)).mono ?_
  rintro e w1b ⟨A1, rfl, own, hb⟩
  replace BB := Lib.hid (BB.out.trans (hb.mono BB.out.size))
  clear hb own O
  unfold slv
  go_upto_region 2 with (fail)
  obtain ⟨V1, hV⟩ : ∃ V, V = w1b.alloc (.cells #[.int .i64 X1.seg, .slice A1.w X1.words.length A1.cw, .slice A1.k X1.keys.length A1.ck, .slice A1.v X1.vals.length A1.cv, .slice A1.c X1.counts.length A1.cc, .int .u64 (X1.laid : Int)] 27) := ⟨_, rfl⟩
  have hba : Below w1b.heap.size w1b V1 := by rw [hV]; exact (Below.refl _ _).alloc (Nat.le_refl _) _
  first | rw [← hV] | skip
  replace BB := Lib.hid (BB.out.trans (hba.mono BB.out.size))
  clear hV hba
  go_wp2_with fail
  refine (CC.out _ (TB0.out.below BB.out)).mono ?_
  rintro e w2a ⟨A, rfl, own, hb⟩
  have O := Lib.hid own.held
  replace BB := Lib.hid (BB.out.trans (hb.mono BB.out.size))
  clear hb own
  unfold slv
  go_wp2_with fail
  refine (C2.out A _ O.out (TB0.out.below BB.out)).mono ?_
  rintro e w2b ⟨A2, rfl, own, hb⟩
  replace BB := Lib.hid (BB.out.trans (hb.mono BB.out.size))
  clear hb own O
  unfold slv
  go_upto_region 3 with (fail)
  obtain ⟨V2, hV⟩ : ∃ V, V = w2b.alloc (.cells #[.int .i64 X2.seg, .slice A2.w X2.words.length A2.cw, .slice A2.k X2.keys.length A2.ck, .slice A2.v X2.vals.length A2.cv, .slice A2.c X2.counts.length A2.cc, .int .u64 (X2.laid : Int)] 27) := ⟨_, rfl⟩
  have hba : Below w2b.heap.size w2b V2 := by rw [hV]; exact (Below.refl _ _).alloc (Nat.le_refl _) _
  first | rw [← hV] | skip
  replace BB := Lib.hid (BB.out.trans (hba.mono BB.out.size))
  clear hV hba
  go_wp2_with fail
  refine (CC.out _ (TB0.out.below BB.out)).mono ?_
  rintro e w3a ⟨A, rfl, own, hb⟩
  have O := Lib.hid own.held
  replace BB := Lib.hid (BB.out.trans (hb.mono BB.out.size))
  clear hb own
  unfold slv
  go_wp2_with fail
  refine (C3.out A _ O.out (TB0.out.below BB.out)).mono ?_
  rintro e w3b ⟨A3, rfl, own, hb⟩
  replace BB := Lib.hid (BB.out.trans (hb.mono BB.out.size))
  clear hb own O
  unfold slv
  go_upto_region 4 with (fail)
  obtain ⟨V3, hV⟩ : ∃ V, V = w3b.alloc (.cells #[.int .i64 X3.seg, .slice A3.w X3.words.length A3.cw, .slice A3.k X3.keys.length A3.ck, .slice A3.v X3.vals.length A3.cv, .slice A3.c X3.counts.length A3.cc, .int .u64 (X3.laid : Int)] 27) := ⟨_, rfl⟩
  have hba : Below w3b.heap.size w3b V3 := by rw [hV]; exact (Below.refl _ _).alloc (Nat.le_refl _) _
  first | rw [← hV] | skip
  replace BB := Lib.hid (BB.out.trans (hba.mono BB.out.size))
  clear hV hba
  go_wp2_with fail
  refine (CC.out _ (TB0.out.below BB.out)).mono ?_
  rintro e w4a ⟨A, rfl, own, hb⟩
  have O := Lib.hid own.held
  replace BB := Lib.hid (BB.out.trans (hb.mono BB.out.size))
  clear hb own
  unfold slv
  go_wp2_with fail
  refine (C4.out A _ O.out (TB0.out.below BB.out)).mono ?_
  rintro e w4b ⟨A4, rfl, own, hb⟩
  have O4 := Lib.hid own.held
  replace BB := Lib.hid (BB.out.trans (hb.mono BB.out.size))
  clear hb own O
  unfold slv
  go_upto_region 5 with (fail)
  obtain ⟨V4, hV⟩ : ∃ V, V = w4b.alloc (.cells #[.int .i64 S4.seg, .slice A4.w S4.words.length A4.cw, .slice A4.k S4.keys.length A4.ck, .slice A4.v S4.vals.length A4.cv, .slice A4.c S4.counts.length A4.cc, .int .u64 (S4.laid : Int)] 27) := ⟨_, rfl⟩
  have hba : Below w4b.heap.size w4b V4 := by rw [hV]; exact (Below.refl _ _).alloc (Nat.le_refl _) _
  have B4 := Lib.hid (show Box V4 w4b.heap.size S4 A4 by rw [hV]; exact Box.new w4b S4 A4 27)
  first | rw [← hV] | skip
  replace BB := Lib.hid (BB.out.trans (hba.mono BB.out.size))
  replace O4 := Lib.hid (O4.out.below hba)
  clear hV hba
  go_wp2_with fail
  refine (CC.out _ (TB0.out.below BB.out)).mono ?_
  rintro e w5a ⟨A, rfl, own, hb⟩
  have O := Lib.hid own.held
  replace BB := Lib.hid (BB.out.trans (hb.mono BB.out.size))
  replace O4 := Lib.hid (O4.out.below hb)
  replace B4 := Lib.hid (B4.out.below hb)
  clear hb own
  unfold slv
  go_wp2_with fail
  refine (C5.out A _ O.out (TB0.out.below BB.out)).mono ?_
  rintro e w5b ⟨A5, rfl, own, hb⟩
  replace BB := Lib.hid (BB.out.trans (hb.mono BB.out.size))
  replace O4 := Lib.hid (O4.out.below hb)
  replace B4 := Lib.hid (B4.out.below hb)
  clear hb own O
  unfold slv
  go_upto_region 6 with (fail)
  obtain ⟨V5, hV⟩ : ∃ V, V = w5b.alloc (.cells #[.int .i64 X5.seg, .slice A5.w X5.words.length A5.cw, .slice A5.k X5.keys.length A5.ck, .slice A5.v X5.vals.length A5.cv, .slice A5.c X5.counts.length A5.cc, .int .u64 (X5.laid : Int)] 27) := ⟨_, rfl⟩
  have hba : Below w5b.heap.size w5b V5 := by rw [hV]; exact (Below.refl _ _).alloc (Nat.le_refl _) _
  first | rw [← hV] | skip
  replace BB := Lib.hid (BB.out.trans (hba.mono BB.out.size))
  replace O4 := Lib.hid (O4.out.below hba)
  replace B4 := Lib.hid (B4.out.below hba)
  clear hV hba
  have O := Lib.hid True.intro
  go_wp2_with fail
  refine (C6.out _ (TB0.out.below BB.out)).mono ?_
  rintro e w6b ⟨A6, rfl, own, hb⟩
  replace BB := Lib.hid (BB.out.trans (hb.mono BB.out.size))
  replace O4 := Lib.hid (O4.out.below hb)
  replace B4 := Lib.hid (B4.out.below hb)
  clear hb own O
  unfold slv
  go_upto_region 7 with (fail)
  obtain ⟨V6, hV⟩ : ∃ V, V = w6b.alloc (.cells #[.int .i64 X6.seg, .slice A6.w X6.words.length A6.cw, .slice A6.k X6.keys.length A6.ck, .slice A6.v X6.vals.length A6.cv, .slice A6.c X6.counts.length A6.cc, .int .u64 (X6.laid : Int)] 27) := ⟨_, rfl⟩
  have hba : Below w6b.heap.size w6b V6 := by rw [hV]; exact (Below.refl _ _).alloc (Nat.le_refl _) _
  first | rw [← hV] | skip
  replace BB := Lib.hid (BB.out.trans (hba.mono BB.out.size))
  replace O4 := Lib.hid (O4.out.below hba)
  replace B4 := Lib.hid (B4.out.below hba)
  clear hV hba
  go_wp2_with fail
  refine (CC.out _ (TB0.out.below BB.out)).mono ?_
  rintro e w7a ⟨A, rfl, own, hb⟩
  have O := Lib.hid own.held
  replace BB := Lib.hid (BB.out.trans (hb.mono BB.out.size))
  replace O4 := Lib.hid (O4.out.below hb)
  replace B4 := Lib.hid (B4.out.below hb)
  clear hb own
  unfold slv
  have PL := Lib.hid (plst8 [(1, 0), (2, 0)] w7a 33)
  have hba := Lib.hid (fun o => (Below.refl w7a.heap.size w7a).alloc (Nat.le_refl _) o)
  go_wp2_with fail
  refine (C7.out A _ _ _ (O.out.below (hba.out _)) (TB0.out.below (BB.out.trans ((hba.out _).mono BB.out.size))) PL.out).mono ?_
  rintro e w7b ⟨A7, rfl, own, hb⟩
  have O7 := Lib.hid own.held
  replace hb := (hba.out _).trans (hb.mono (by simp))
  replace BB := Lib.hid (BB.out.trans (hb.mono BB.out.size))
  replace O4 := Lib.hid (O4.out.below hb)
  replace B4 := Lib.hid (B4.out.below hb)
  clear hb own O PL hba
  unfold slv
  go_upto_region 8 with (fail)
  obtain ⟨V7, hV⟩ : ∃ V, V = w7b.alloc (.cells #[.int .i64 S7.seg, .slice A7.w S7.words.length A7.cw, .slice A7.k S7.keys.length A7.ck, .slice A7.v S7.vals.length A7.cv, .slice A7.c S7.counts.length A7.cc, .int .u64 (S7.laid : Int)] 27) := ⟨_, rfl⟩
  have hba : Below w7b.heap.size w7b V7 := by rw [hV]; exact (Below.refl _ _).alloc (Nat.le_refl _) _
  have B7 := Lib.hid (show Box V7 w7b.heap.size S7 A7 by rw [hV]; exact Box.new w7b S7 A7 27)
  first | rw [← hV] | skip
  replace BB := Lib.hid (BB.out.trans (hba.mono BB.out.size))
  replace O4 := Lib.hid (O4.out.below hba)
  replace B4 := Lib.hid (B4.out.below hba)
  replace O7 := Lib.hid (O7.out.below hba)
  clear hV hba
  go_wp2_with fail
  refine (CC.out _ (TB0.out.below BB.out)).mono ?_
  rintro e w8a ⟨A, rfl, own, hb⟩
  have O := Lib.hid own.held
  replace BB := Lib.hid (BB.out.trans (hb.mono BB.out.size))
  replace O4 := Lib.hid (O4.out.below hb)
  replace B4 := Lib.hid (B4.out.below hb)
  replace O7 := Lib.hid (O7.out.below hb)
  replace B7 := Lib.hid (B7.out.below hb)
  clear hb own
  unfold slv
  go_wp2_with fail
  refine (C8.out A _ O.out (TB0.out.below BB.out)).mono ?_
  rintro e w8b ⟨A8, rfl, own, hb⟩
  replace BB := Lib.hid (BB.out.trans (hb.mono BB.out.size))
  replace O4 := Lib.hid (O4.out.below hb)
  replace B4 := Lib.hid (B4.out.below hb)
  replace O7 := Lib.hid (O7.out.below hb)
  replace B7 := Lib.hid (B7.out.below hb)
  clear hb own O
  unfold slv
  go_upto_region 9 with (fail)
  obtain ⟨V8, hV⟩ : ∃ V, V = w8b.alloc (.cells #[.int .i64 X8.seg, .slice A8.w X8.words.length A8.cw, .slice A8.k X8.keys.length A8.ck, .slice A8.v X8.vals.length A8.cv, .slice A8.c X8.counts.length A8.cc, .int .u64 (X8.laid : Int)] 27) := ⟨_, rfl⟩
  have hba : Below w8b.heap.size w8b V8 := by rw [hV]; exact (Below.refl _ _).alloc (Nat.le_refl _) _
  first | rw [← hV] | skip
  replace BB := Lib.hid (BB.out.trans (hba.mono BB.out.size))
  replace O4 := Lib.hid (O4.out.below hba)
  replace B4 := Lib.hid (B4.out.below hba)
  replace O7 := Lib.hid (O7.out.below hba)
  replace B7 := Lib.hid (B7.out.below hba)
  clear hV hba
  go_cut [17, 18] from 66 to 71 (fun s17 s18 wx => s18 = .int .i64 2 ∧ Below V8.heap.size V8 wx)
  case first =>
    have bb := Lib.hid (Below.refl V8.heap.size V8).drew
    refine wp_region_held_drew (S := fun w' => Hid (Below V8.heap.size V8 w')) (by kernel_rfl) (Lib.hid bb.out) (fun hHeld => ?_)
    obtain ⟨W0, hW0⟩ : ∃ V, V = V8.drew := ⟨_, rfl⟩
    rw [← hW0] at bb hHeld ⊢
    clear hW0 hHeld B4 O4 B7 O7
    refine wpAnyH_ready (rs := [0, 1, 6]) (by kernel_rfl) (by simp) ?_
    refine AllReadyH.cons (o := Oper.mk _ _ _ _ _ _) rfl (fun K hK => ?_) ?_
    · skip
      go_simp
      refine (CC.out _ (TB0.out.below (BB.out.trans (bb.out.mono BB.out.size)))).mono ?_
      rintro e U1 ⟨A, rfl, own, hb⟩
      replace bb := Lib.hid (bb.out.trans (hb.mono bb.out.size))
      have ho := Lib.hid own.held
      clear hb own
      unfold slv
      go_wp2_with fail
      refine hK.out _ _ (Lib.hid bb.out) (fun _ => ?_)
      clear hK K
      try simp only [Act.put, List.setIfInBounds_toArray, List.set_cons_zero, List.set_cons_succ]
      refine wpAnyH_ready (rs := [1, 6]) (by kernel_rfl) (by simp) ?_
      refine AllReadyH.cons (o := Oper.mk _ _ _ _ _ _) rfl (fun K hK => ?_) ?_
      · skip
        refine step_pairs5 elemP rfl (.const (.int .i64 5)) (.const (.int .i64 5)) rfl rfl rfl (by omega) ?_
        intro gM U2 hgM hlt lp hb
        have lp := Lib.hid lp
        replace hb : Below U1.heap.size U1 U2 := by rw [← hgM]; exact hb
        replace ho := Lib.hid (ho.out.below hb)
        replace bb := Lib.hid (bb.out.trans (hb.mono bb.out.size))
        clear hb hlt hgM
        refine hK.out _ _ (Lib.hid bb.out) (fun _ => ?_)
        clear hK K
        try simp only [Act.put, List.setIfInBounds_toArray, List.set_cons_zero, List.set_cons_succ]
        refine wpAnyH_ready (rs := [2, 6]) (by kernel_rfl) (by simp) ?_
        refine AllReadyH.cons (o := Oper.mk _ _ _ _ _ _) rfl (fun K hK => ?_) ?_
        · skip
          go_simp
          refine (C9.out A (some ⟨gM, 0, none⟩) 5 _ ho.out (TB0.out.below (BB.out.trans (bb.out.mono BB.out.size))) lp.out).mono ?_
          rintro e U3 ⟨A9, rfl, own, hb⟩
          replace ho := Lib.hid (ho.out.below hb)
          replace lp := Lib.hid (lp.out.below hb)
          replace bb := Lib.hid (bb.out.trans (hb.mono bb.out.size))
          clear hb own
          unfold slv
          go_wp2_with fail
          refine hK.out _ _ (Lib.hid bb.out) (fun _ => ?_)
          clear hK K
          try simp only [Act.put, List.setIfInBounds_toArray, List.set_cons_zero, List.set_cons_succ]
          refine wpAnyH_take (i := 3) (oi := Oper.mk _ _ _ _ _ _) (v := ?v3_4) rfl (by kernel_rfl) (by kernel_rfl) (by kernel_rfl) (fun _ _ _ h => h) (Or.inl ⟨by rfl, ?hy3_4⟩) (Lib.hid bb.out) ?rest3_4
          case hy3_4 =>
            rintro w0 hSw
            go_simp
            all_goals with_reducible rfl
          try simp only [Act.put, List.setIfInBounds_toArray, List.set_cons_zero, List.set_cons_succ]
          refine wpAnyH_take (i := 4) (oi := Oper.mk _ _ _ _ _ _) (v := ?v4_5) rfl (by kernel_rfl) (by kernel_rfl) (by kernel_rfl) (fun _ _ _ h => h) (Or.inl ⟨by rfl, ?hy4_5⟩) (Lib.hid bb.out) ?rest4_5
          case hy4_5 =>
            rintro w0 hSw
            go_simp
            all_goals with_reducible rfl
          try simp only [Act.put, List.setIfInBounds_toArray, List.set_cons_zero, List.set_cons_succ]
          refine wpAnyH_take (i := 5) (oi := Oper.mk _ _ _ _ _ _) (v := ?v5_6) rfl (by kernel_rfl) (by kernel_rfl) (by kernel_rfl) (fun _ _ _ h => h) (Or.inl ⟨by rfl, ?hy5_6⟩) (Lib.hid bb.out) ?rest5_6
          case hy5_6 =>
            rintro w0 hSw
            go_simp
            all_goals with_reducible rfl
          try simp only [Act.put, List.setIfInBounds_toArray, List.set_cons_zero, List.set_cons_succ]
          refine wpAnyH_ready (rs := [6]) (by kernel_rfl) (by simp) ?_
          refine AllReadyH.cons (o := Oper.mk _ _ _ _ _ _) rfl (fun K hK => ?_) ?_
          · skip
            go_simp
            obtain ⟨U7, hU⟩ : ∃ V, V = U3.alloc (.cells #[.int .i64 0, .slice none 0 0, .slice none 0 0, .slice none 0 0, .slice none 0 0, .int .u64 0] 27) := ⟨_, rfl⟩
            have hb : Below U3.heap.size U3 U7 := by rw [hU]; exact (Below.refl _ _).alloc (Nat.le_refl _) _
            have bz := Lib.hid (show Box U7 U3.heap.size Sl.none adsNone by rw [hU]; exact Box.new U3 Sl.none adsNone 27)
            have gXb : V8.heap.size ≤ U3.heap.size := bb.out.size
            obtain ⟨gX, hgX⟩ : ∃ g, g = U3.heap.size := ⟨_, rfl⟩
            try rw [← hU]
            rw [← hgX] at bz gXb ⊢
            clear hU
            replace ho := Lib.hid (ho.out.below hb)
            replace lp := Lib.hid (lp.out.below hb)
            replace bb := Lib.hid (bb.out.trans (hb.mono bb.out.size))
            clear hb hgX
            refine hK.out _ _ (Lib.hid bb.out) (fun _ => ?_)
            clear hK K
            try simp only [Act.put, List.setIfInBounds_toArray, List.set_cons_zero, List.set_cons_succ]
            obtain ⟨_, s0, s1, s2, s3', s4', s5', sf⟩ := bz.out
            have sf0 := sf 0
            have sf1 := sf 1
            have sf2 := sf 2
            have sf3 := sf 3
            have sf4 := sf 4
            have sf5 := sf 5
            clear sf
            dsimp only [Sl.none, adsNone, List.length_nil] at s0 s1 s2 s3' s4' s5'
            refine wpAnyH_ready (rs := [7]) (by kernel_rfl) (by simp) ?_
            refine AllReadyH.cons (o := Oper.mk _ _ _ _ _ _) rfl (fun K hK => ?_) AllReadyH.nil
            go_simp
            have bf := below_put6 bb.out gXb (.int .i64 X9.seg) (.slice A9.w X9.words.length A9.cw) (.slice A9.k X9.keys.length A9.ck) (.slice A9.v X9.vals.length A9.cv) (.slice A9.c X9.counts.length A9.cc) (.int .u64 (X9.laid : Int))
            refine hK.out _ _ (Lib.hid bf) (fun _ => ?_)
            clear hK K
            try simp only [Act.put, List.setIfInBounds_toArray, List.set_cons_zero, List.set_cons_succ]
            refine wpAnyH_take (i := 8) (oi := Oper.mk _ _ _ _ _ _) (v := ?v8_8) rfl (by kernel_rfl) (by kernel_rfl) (by kernel_rfl) (fun _ _ _ h => h) (Or.inl ⟨by rfl, ?hy8_8⟩) (Lib.hid bf) ?rest8_8
            case hy8_8 =>
              rintro w0 hSw
              go_simp
              all_goals with_reducible rfl
            try simp only [Act.put, List.setIfInBounds_toArray, List.set_cons_zero, List.set_cons_succ]
            refine wpAnyH_done (by kernel_rfl) ?_ _
            go_wp2
            go_meet
            exact ⟨rfl, bf⟩
          exact AllReadyH.nil
        refine AllReadyH.cons (o := Oper.mk _ _ _ _ _ _) rfl (fun K hK => ?_) ?_
        · skip
          go_simp
          obtain ⟨U9, hU⟩ : ∃ V, V = U2.alloc (.cells #[.int .i64 0, .slice none 0 0, .slice none 0 0, .slice none 0 0, .slice none 0 0, .int .u64 0] 27) := ⟨_, rfl⟩
          have hb : Below U2.heap.size U2 U9 := by rw [hU]; exact (Below.refl _ _).alloc (Nat.le_refl _) _
          have bz := Lib.hid (show Box U9 U2.heap.size Sl.none adsNone by rw [hU]; exact Box.new U2 Sl.none adsNone 27)
          have gXb : V8.heap.size ≤ U2.heap.size := bb.out.size
          obtain ⟨gX, hgX⟩ : ∃ g, g = U2.heap.size := ⟨_, rfl⟩
          try rw [← hU]
          rw [← hgX] at bz gXb ⊢
          clear hU
          replace ho := Lib.hid (ho.out.below hb)
          replace lp := Lib.hid (lp.out.below hb)
          replace bb := Lib.hid (bb.out.trans (hb.mono bb.out.size))
          clear hb hgX
          refine hK.out _ _ (Lib.hid bb.out) (fun _ => ?_)
          clear hK K
          try simp only [Act.put, List.setIfInBounds_toArray, List.set_cons_zero, List.set_cons_succ]
          refine wpAnyH_ready (rs := [2]) (by kernel_rfl) (by simp) ?_
          refine AllReadyH.cons (o := Oper.mk _ _ _ _ _ _) rfl (fun K hK => ?_) ?_
          · skip
            go_simp
            refine (C9.out A (some ⟨gM, 0, none⟩) 5 _ ho.out (TB0.out.below (BB.out.trans (bb.out.mono BB.out.size))) lp.out).mono ?_
            rintro e U10 ⟨A9, rfl, own, hb⟩
            replace ho := Lib.hid (ho.out.below hb)
            replace lp := Lib.hid (lp.out.below hb)
            replace bz := Lib.hid (bz.out.below hb)
            replace bb := Lib.hid (bb.out.trans (hb.mono bb.out.size))
            clear hb own
            unfold slv
            go_wp2_with fail
            refine hK.out _ _ (Lib.hid bb.out) (fun _ => ?_)
            clear hK K
            try simp only [Act.put, List.setIfInBounds_toArray, List.set_cons_zero, List.set_cons_succ]
            refine wpAnyH_take (i := 3) (oi := Oper.mk _ _ _ _ _ _) (v := ?v3_11) rfl (by kernel_rfl) (by kernel_rfl) (by kernel_rfl) (fun _ _ _ h => h) (Or.inl ⟨by rfl, ?hy3_11⟩) (Lib.hid bb.out) ?rest3_11
            case hy3_11 =>
              rintro w0 hSw
              go_simp
              all_goals with_reducible rfl
            try simp only [Act.put, List.setIfInBounds_toArray, List.set_cons_zero, List.set_cons_succ]
            refine wpAnyH_take (i := 4) (oi := Oper.mk _ _ _ _ _ _) (v := ?v4_12) rfl (by kernel_rfl) (by kernel_rfl) (by kernel_rfl) (fun _ _ _ h => h) (Or.inl ⟨by rfl, ?hy4_12⟩) (Lib.hid bb.out) ?rest4_12
            case hy4_12 =>
              rintro w0 hSw
              go_simp
              all_goals with_reducible rfl
            try simp only [Act.put, List.setIfInBounds_toArray, List.set_cons_zero, List.set_cons_succ]
            refine wpAnyH_take (i := 5) (oi := Oper.mk _ _ _ _ _ _) (v := ?v5_13) rfl (by kernel_rfl) (by kernel_rfl) (by kernel_rfl) (fun _ _ _ h => h) (Or.inl ⟨by rfl, ?hy5_13⟩) (Lib.hid bb.out) ?rest5_13
            case hy5_13 =>
              rintro w0 hSw
              go_simp
              all_goals with_reducible rfl
            try simp only [Act.put, List.setIfInBounds_toArray, List.set_cons_zero, List.set_cons_succ]
            obtain ⟨_, s0, s1, s2, s3', s4', s5', sf⟩ := bz.out
            have sf0 := sf 0
            have sf1 := sf 1
            have sf2 := sf 2
            have sf3 := sf 3
            have sf4 := sf 4
            have sf5 := sf 5
            clear sf
            dsimp only [Sl.none, adsNone, List.length_nil] at s0 s1 s2 s3' s4' s5'
            refine wpAnyH_ready (rs := [7]) (by kernel_rfl) (by simp) ?_
            refine AllReadyH.cons (o := Oper.mk _ _ _ _ _ _) rfl (fun K hK => ?_) AllReadyH.nil
            go_simp
            have bf := below_put6 bb.out gXb (.int .i64 X9.seg) (.slice A9.w X9.words.length A9.cw) (.slice A9.k X9.keys.length A9.ck) (.slice A9.v X9.vals.length A9.cv) (.slice A9.c X9.counts.length A9.cc) (.int .u64 (X9.laid : Int))
            refine hK.out _ _ (Lib.hid bf) (fun _ => ?_)
            clear hK K
            try simp only [Act.put, List.setIfInBounds_toArray, List.set_cons_zero, List.set_cons_succ]
            refine wpAnyH_take (i := 8) (oi := Oper.mk _ _ _ _ _ _) (v := ?v8_14) rfl (by kernel_rfl) (by kernel_rfl) (by kernel_rfl) (fun _ _ _ h => h) (Or.inl ⟨by rfl, ?hy8_14⟩) (Lib.hid bf) ?rest8_14
            case hy8_14 =>
              rintro w0 hSw
              go_simp
              all_goals with_reducible rfl
            try simp only [Act.put, List.setIfInBounds_toArray, List.set_cons_zero, List.set_cons_succ]
            refine wpAnyH_done (by kernel_rfl) ?_ _
            go_wp2
            go_meet
            exact ⟨rfl, bf⟩
          exact AllReadyH.nil
        exact AllReadyH.nil
      refine AllReadyH.cons (o := Oper.mk _ _ _ _ _ _) rfl (fun K hK => ?_) ?_
      · skip
        go_simp
        obtain ⟨U15, hU⟩ : ∃ V, V = U1.alloc (.cells #[.int .i64 0, .slice none 0 0, .slice none 0 0, .slice none 0 0, .slice none 0 0, .int .u64 0] 27) := ⟨_, rfl⟩
        have hb : Below U1.heap.size U1 U15 := by rw [hU]; exact (Below.refl _ _).alloc (Nat.le_refl _) _
        have bz := Lib.hid (show Box U15 U1.heap.size Sl.none adsNone by rw [hU]; exact Box.new U1 Sl.none adsNone 27)
        have gXb : V8.heap.size ≤ U1.heap.size := bb.out.size
        obtain ⟨gX, hgX⟩ : ∃ g, g = U1.heap.size := ⟨_, rfl⟩
        try rw [← hU]
        rw [← hgX] at bz gXb ⊢
        clear hU
        replace ho := Lib.hid (ho.out.below hb)
        replace bb := Lib.hid (bb.out.trans (hb.mono bb.out.size))
        clear hb hgX
        refine hK.out _ _ (Lib.hid bb.out) (fun _ => ?_)
        clear hK K
        try simp only [Act.put, List.setIfInBounds_toArray, List.set_cons_zero, List.set_cons_succ]
        refine wpAnyH_ready (rs := [1]) (by kernel_rfl) (by simp) ?_
        refine AllReadyH.cons (o := Oper.mk _ _ _ _ _ _) rfl (fun K hK => ?_) ?_
        · skip
          refine step_pairs5 elemP rfl (.const (.int .i64 5)) (.const (.int .i64 5)) rfl rfl rfl (by omega) ?_
          intro gM U16 hgM hlt lp hb
          have lp := Lib.hid lp
          replace hb : Below U15.heap.size U15 U16 := by rw [← hgM]; exact hb
          replace ho := Lib.hid (ho.out.below hb)
          replace bz := Lib.hid (bz.out.below hb)
          replace bb := Lib.hid (bb.out.trans (hb.mono bb.out.size))
          clear hb hlt hgM
          refine hK.out _ _ (Lib.hid bb.out) (fun _ => ?_)
          clear hK K
          try simp only [Act.put, List.setIfInBounds_toArray, List.set_cons_zero, List.set_cons_succ]
          refine wpAnyH_ready (rs := [2]) (by kernel_rfl) (by simp) ?_
          refine AllReadyH.cons (o := Oper.mk _ _ _ _ _ _) rfl (fun K hK => ?_) ?_
          · skip
            go_simp
            refine (C9.out A (some ⟨gM, 0, none⟩) 5 _ ho.out (TB0.out.below (BB.out.trans (bb.out.mono BB.out.size))) lp.out).mono ?_
            rintro e U17 ⟨A9, rfl, own, hb⟩
            replace ho := Lib.hid (ho.out.below hb)
            replace bz := Lib.hid (bz.out.below hb)
            replace lp := Lib.hid (lp.out.below hb)
            replace bb := Lib.hid (bb.out.trans (hb.mono bb.out.size))
            clear hb own
            unfold slv
            go_wp2_with fail
            refine hK.out _ _ (Lib.hid bb.out) (fun _ => ?_)
            clear hK K
            try simp only [Act.put, List.setIfInBounds_toArray, List.set_cons_zero, List.set_cons_succ]
            refine wpAnyH_take (i := 3) (oi := Oper.mk _ _ _ _ _ _) (v := ?v3_18) rfl (by kernel_rfl) (by kernel_rfl) (by kernel_rfl) (fun _ _ _ h => h) (Or.inl ⟨by rfl, ?hy3_18⟩) (Lib.hid bb.out) ?rest3_18
            case hy3_18 =>
              rintro w0 hSw
              go_simp
              all_goals with_reducible rfl
            try simp only [Act.put, List.setIfInBounds_toArray, List.set_cons_zero, List.set_cons_succ]
            refine wpAnyH_take (i := 4) (oi := Oper.mk _ _ _ _ _ _) (v := ?v4_19) rfl (by kernel_rfl) (by kernel_rfl) (by kernel_rfl) (fun _ _ _ h => h) (Or.inl ⟨by rfl, ?hy4_19⟩) (Lib.hid bb.out) ?rest4_19
            case hy4_19 =>
              rintro w0 hSw
              go_simp
              all_goals with_reducible rfl
            try simp only [Act.put, List.setIfInBounds_toArray, List.set_cons_zero, List.set_cons_succ]
            refine wpAnyH_take (i := 5) (oi := Oper.mk _ _ _ _ _ _) (v := ?v5_20) rfl (by kernel_rfl) (by kernel_rfl) (by kernel_rfl) (fun _ _ _ h => h) (Or.inl ⟨by rfl, ?hy5_20⟩) (Lib.hid bb.out) ?rest5_20
            case hy5_20 =>
              rintro w0 hSw
              go_simp
              all_goals with_reducible rfl
            try simp only [Act.put, List.setIfInBounds_toArray, List.set_cons_zero, List.set_cons_succ]
            obtain ⟨_, s0, s1, s2, s3', s4', s5', sf⟩ := bz.out
            have sf0 := sf 0
            have sf1 := sf 1
            have sf2 := sf 2
            have sf3 := sf 3
            have sf4 := sf 4
            have sf5 := sf 5
            clear sf
            dsimp only [Sl.none, adsNone, List.length_nil] at s0 s1 s2 s3' s4' s5'
            refine wpAnyH_ready (rs := [7]) (by kernel_rfl) (by simp) ?_
            refine AllReadyH.cons (o := Oper.mk _ _ _ _ _ _) rfl (fun K hK => ?_) AllReadyH.nil
            go_simp
            have bf := below_put6 bb.out gXb (.int .i64 X9.seg) (.slice A9.w X9.words.length A9.cw) (.slice A9.k X9.keys.length A9.ck) (.slice A9.v X9.vals.length A9.cv) (.slice A9.c X9.counts.length A9.cc) (.int .u64 (X9.laid : Int))
            refine hK.out _ _ (Lib.hid bf) (fun _ => ?_)
            clear hK K
            try simp only [Act.put, List.setIfInBounds_toArray, List.set_cons_zero, List.set_cons_succ]
            refine wpAnyH_take (i := 8) (oi := Oper.mk _ _ _ _ _ _) (v := ?v8_21) rfl (by kernel_rfl) (by kernel_rfl) (by kernel_rfl) (fun _ _ _ h => h) (Or.inl ⟨by rfl, ?hy8_21⟩) (Lib.hid bf) ?rest8_21
            case hy8_21 =>
              rintro w0 hSw
              go_simp
              all_goals with_reducible rfl
            try simp only [Act.put, List.setIfInBounds_toArray, List.set_cons_zero, List.set_cons_succ]
            refine wpAnyH_done (by kernel_rfl) ?_ _
            go_wp2
            go_meet
            exact ⟨rfl, bf⟩
          exact AllReadyH.nil
        exact AllReadyH.nil
      exact AllReadyH.nil
    refine AllReadyH.cons (o := Oper.mk _ _ _ _ _ _) rfl (fun K hK => ?_) ?_
    · skip
      refine step_pairs5 elemP rfl (.const (.int .i64 5)) (.const (.int .i64 5)) rfl rfl rfl (by omega) ?_
      intro gM U22 hgM hlt lp hb
      have lp := Lib.hid lp
      replace hb : Below W0.heap.size W0 U22 := by rw [← hgM]; exact hb
      replace bb := Lib.hid (bb.out.trans (hb.mono bb.out.size))
      clear hb hlt hgM
      refine hK.out _ _ (Lib.hid bb.out) (fun _ => ?_)
      clear hK K
      try simp only [Act.put, List.setIfInBounds_toArray, List.set_cons_zero, List.set_cons_succ]
      refine wpAnyH_ready (rs := [0, 6]) (by kernel_rfl) (by simp) ?_
      refine AllReadyH.cons (o := Oper.mk _ _ _ _ _ _) rfl (fun K hK => ?_) ?_
      · skip
        go_simp
        refine (CC.out _ (TB0.out.below (BB.out.trans (bb.out.mono BB.out.size)))).mono ?_
        rintro e U23 ⟨A, rfl, own, hb⟩
        replace lp := Lib.hid (lp.out.below hb)
        replace bb := Lib.hid (bb.out.trans (hb.mono bb.out.size))
        have ho := Lib.hid own.held
        clear hb own
        unfold slv
        go_wp2_with fail
        refine hK.out _ _ (Lib.hid bb.out) (fun _ => ?_)
        clear hK K
        try simp only [Act.put, List.setIfInBounds_toArray, List.set_cons_zero, List.set_cons_succ]
        refine wpAnyH_ready (rs := [2, 6]) (by kernel_rfl) (by simp) ?_
        refine AllReadyH.cons (o := Oper.mk _ _ _ _ _ _) rfl (fun K hK => ?_) ?_
        · skip
          go_simp
          refine (C9.out A (some ⟨gM, 0, none⟩) 5 _ ho.out (TB0.out.below (BB.out.trans (bb.out.mono BB.out.size))) lp.out).mono ?_
          rintro e U24 ⟨A9, rfl, own, hb⟩
          replace lp := Lib.hid (lp.out.below hb)
          replace ho := Lib.hid (ho.out.below hb)
          replace bb := Lib.hid (bb.out.trans (hb.mono bb.out.size))
          clear hb own
          unfold slv
          go_wp2_with fail
          refine hK.out _ _ (Lib.hid bb.out) (fun _ => ?_)
          clear hK K
          try simp only [Act.put, List.setIfInBounds_toArray, List.set_cons_zero, List.set_cons_succ]
          refine wpAnyH_take (i := 3) (oi := Oper.mk _ _ _ _ _ _) (v := ?v3_25) rfl (by kernel_rfl) (by kernel_rfl) (by kernel_rfl) (fun _ _ _ h => h) (Or.inl ⟨by rfl, ?hy3_25⟩) (Lib.hid bb.out) ?rest3_25
          case hy3_25 =>
            rintro w0 hSw
            go_simp
            all_goals with_reducible rfl
          try simp only [Act.put, List.setIfInBounds_toArray, List.set_cons_zero, List.set_cons_succ]
          refine wpAnyH_take (i := 4) (oi := Oper.mk _ _ _ _ _ _) (v := ?v4_26) rfl (by kernel_rfl) (by kernel_rfl) (by kernel_rfl) (fun _ _ _ h => h) (Or.inl ⟨by rfl, ?hy4_26⟩) (Lib.hid bb.out) ?rest4_26
          case hy4_26 =>
            rintro w0 hSw
            go_simp
            all_goals with_reducible rfl
          try simp only [Act.put, List.setIfInBounds_toArray, List.set_cons_zero, List.set_cons_succ]
          refine wpAnyH_take (i := 5) (oi := Oper.mk _ _ _ _ _ _) (v := ?v5_27) rfl (by kernel_rfl) (by kernel_rfl) (by kernel_rfl) (fun _ _ _ h => h) (Or.inl ⟨by rfl, ?hy5_27⟩) (Lib.hid bb.out) ?rest5_27
          case hy5_27 =>
            rintro w0 hSw
            go_simp
            all_goals with_reducible rfl
          try simp only [Act.put, List.setIfInBounds_toArray, List.set_cons_zero, List.set_cons_succ]
          refine wpAnyH_ready (rs := [6]) (by kernel_rfl) (by simp) ?_
          refine AllReadyH.cons (o := Oper.mk _ _ _ _ _ _) rfl (fun K hK => ?_) ?_
          · skip
            go_simp
            obtain ⟨U28, hU⟩ : ∃ V, V = U24.alloc (.cells #[.int .i64 0, .slice none 0 0, .slice none 0 0, .slice none 0 0, .slice none 0 0, .int .u64 0] 27) := ⟨_, rfl⟩
            have hb : Below U24.heap.size U24 U28 := by rw [hU]; exact (Below.refl _ _).alloc (Nat.le_refl _) _
            have bz := Lib.hid (show Box U28 U24.heap.size Sl.none adsNone by rw [hU]; exact Box.new U24 Sl.none adsNone 27)
            have gXb : V8.heap.size ≤ U24.heap.size := bb.out.size
            obtain ⟨gX, hgX⟩ : ∃ g, g = U24.heap.size := ⟨_, rfl⟩
            try rw [← hU]
            rw [← hgX] at bz gXb ⊢
            clear hU
            replace lp := Lib.hid (lp.out.below hb)
            replace ho := Lib.hid (ho.out.below hb)
            replace bb := Lib.hid (bb.out.trans (hb.mono bb.out.size))
            clear hb hgX
            refine hK.out _ _ (Lib.hid bb.out) (fun _ => ?_)
            clear hK K
            try simp only [Act.put, List.setIfInBounds_toArray, List.set_cons_zero, List.set_cons_succ]
            obtain ⟨_, s0, s1, s2, s3', s4', s5', sf⟩ := bz.out
            have sf0 := sf 0
            have sf1 := sf 1
            have sf2 := sf 2
            have sf3 := sf 3
            have sf4 := sf 4
            have sf5 := sf 5
            clear sf
            dsimp only [Sl.none, adsNone, List.length_nil] at s0 s1 s2 s3' s4' s5'
            refine wpAnyH_ready (rs := [7]) (by kernel_rfl) (by simp) ?_
            refine AllReadyH.cons (o := Oper.mk _ _ _ _ _ _) rfl (fun K hK => ?_) AllReadyH.nil
            go_simp
            have bf := below_put6 bb.out gXb (.int .i64 X9.seg) (.slice A9.w X9.words.length A9.cw) (.slice A9.k X9.keys.length A9.ck) (.slice A9.v X9.vals.length A9.cv) (.slice A9.c X9.counts.length A9.cc) (.int .u64 (X9.laid : Int))
            refine hK.out _ _ (Lib.hid bf) (fun _ => ?_)
            clear hK K
            try simp only [Act.put, List.setIfInBounds_toArray, List.set_cons_zero, List.set_cons_succ]
            refine wpAnyH_take (i := 8) (oi := Oper.mk _ _ _ _ _ _) (v := ?v8_29) rfl (by kernel_rfl) (by kernel_rfl) (by kernel_rfl) (fun _ _ _ h => h) (Or.inl ⟨by rfl, ?hy8_29⟩) (Lib.hid bf) ?rest8_29
            case hy8_29 =>
              rintro w0 hSw
              go_simp
              all_goals with_reducible rfl
            try simp only [Act.put, List.setIfInBounds_toArray, List.set_cons_zero, List.set_cons_succ]
            refine wpAnyH_done (by kernel_rfl) ?_ _
            go_wp2
            go_meet
            exact ⟨rfl, bf⟩
          exact AllReadyH.nil
        refine AllReadyH.cons (o := Oper.mk _ _ _ _ _ _) rfl (fun K hK => ?_) ?_
        · skip
          go_simp
          obtain ⟨U30, hU⟩ : ∃ V, V = U23.alloc (.cells #[.int .i64 0, .slice none 0 0, .slice none 0 0, .slice none 0 0, .slice none 0 0, .int .u64 0] 27) := ⟨_, rfl⟩
          have hb : Below U23.heap.size U23 U30 := by rw [hU]; exact (Below.refl _ _).alloc (Nat.le_refl _) _
          have bz := Lib.hid (show Box U30 U23.heap.size Sl.none adsNone by rw [hU]; exact Box.new U23 Sl.none adsNone 27)
          have gXb : V8.heap.size ≤ U23.heap.size := bb.out.size
          obtain ⟨gX, hgX⟩ : ∃ g, g = U23.heap.size := ⟨_, rfl⟩
          try rw [← hU]
          rw [← hgX] at bz gXb ⊢
          clear hU
          replace lp := Lib.hid (lp.out.below hb)
          replace ho := Lib.hid (ho.out.below hb)
          replace bb := Lib.hid (bb.out.trans (hb.mono bb.out.size))
          clear hb hgX
          refine hK.out _ _ (Lib.hid bb.out) (fun _ => ?_)
          clear hK K
          try simp only [Act.put, List.setIfInBounds_toArray, List.set_cons_zero, List.set_cons_succ]
          refine wpAnyH_ready (rs := [2]) (by kernel_rfl) (by simp) ?_
          refine AllReadyH.cons (o := Oper.mk _ _ _ _ _ _) rfl (fun K hK => ?_) ?_
          · skip
            go_simp
            refine (C9.out A (some ⟨gM, 0, none⟩) 5 _ ho.out (TB0.out.below (BB.out.trans (bb.out.mono BB.out.size))) lp.out).mono ?_
            rintro e U31 ⟨A9, rfl, own, hb⟩
            replace lp := Lib.hid (lp.out.below hb)
            replace ho := Lib.hid (ho.out.below hb)
            replace bz := Lib.hid (bz.out.below hb)
            replace bb := Lib.hid (bb.out.trans (hb.mono bb.out.size))
            clear hb own
            unfold slv
            go_wp2_with fail
            refine hK.out _ _ (Lib.hid bb.out) (fun _ => ?_)
            clear hK K
            try simp only [Act.put, List.setIfInBounds_toArray, List.set_cons_zero, List.set_cons_succ]
            refine wpAnyH_take (i := 3) (oi := Oper.mk _ _ _ _ _ _) (v := ?v3_32) rfl (by kernel_rfl) (by kernel_rfl) (by kernel_rfl) (fun _ _ _ h => h) (Or.inl ⟨by rfl, ?hy3_32⟩) (Lib.hid bb.out) ?rest3_32
            case hy3_32 =>
              rintro w0 hSw
              go_simp
              all_goals with_reducible rfl
            try simp only [Act.put, List.setIfInBounds_toArray, List.set_cons_zero, List.set_cons_succ]
            refine wpAnyH_take (i := 4) (oi := Oper.mk _ _ _ _ _ _) (v := ?v4_33) rfl (by kernel_rfl) (by kernel_rfl) (by kernel_rfl) (fun _ _ _ h => h) (Or.inl ⟨by rfl, ?hy4_33⟩) (Lib.hid bb.out) ?rest4_33
            case hy4_33 =>
              rintro w0 hSw
              go_simp
              all_goals with_reducible rfl
            try simp only [Act.put, List.setIfInBounds_toArray, List.set_cons_zero, List.set_cons_succ]
            refine wpAnyH_take (i := 5) (oi := Oper.mk _ _ _ _ _ _) (v := ?v5_34) rfl (by kernel_rfl) (by kernel_rfl) (by kernel_rfl) (fun _ _ _ h => h) (Or.inl ⟨by rfl, ?hy5_34⟩) (Lib.hid bb.out) ?rest5_34
            case hy5_34 =>
              rintro w0 hSw
              go_simp
              all_goals with_reducible rfl
            try simp only [Act.put, List.setIfInBounds_toArray, List.set_cons_zero, List.set_cons_succ]
            obtain ⟨_, s0, s1, s2, s3', s4', s5', sf⟩ := bz.out
            have sf0 := sf 0
            have sf1 := sf 1
            have sf2 := sf 2
            have sf3 := sf 3
            have sf4 := sf 4
            have sf5 := sf 5
            clear sf
            dsimp only [Sl.none, adsNone, List.length_nil] at s0 s1 s2 s3' s4' s5'
            refine wpAnyH_ready (rs := [7]) (by kernel_rfl) (by simp) ?_
            refine AllReadyH.cons (o := Oper.mk _ _ _ _ _ _) rfl (fun K hK => ?_) AllReadyH.nil
            go_simp
            have bf := below_put6 bb.out gXb (.int .i64 X9.seg) (.slice A9.w X9.words.length A9.cw) (.slice A9.k X9.keys.length A9.ck) (.slice A9.v X9.vals.length A9.cv) (.slice A9.c X9.counts.length A9.cc) (.int .u64 (X9.laid : Int))
            refine hK.out _ _ (Lib.hid bf) (fun _ => ?_)
            clear hK K
            try simp only [Act.put, List.setIfInBounds_toArray, List.set_cons_zero, List.set_cons_succ]
            refine wpAnyH_take (i := 8) (oi := Oper.mk _ _ _ _ _ _) (v := ?v8_35) rfl (by kernel_rfl) (by kernel_rfl) (by kernel_rfl) (fun _ _ _ h => h) (Or.inl ⟨by rfl, ?hy8_35⟩) (Lib.hid bf) ?rest8_35
            case hy8_35 =>
              rintro w0 hSw
              go_simp
              all_goals with_reducible rfl
            try simp only [Act.put, List.setIfInBounds_toArray, List.set_cons_zero, List.set_cons_succ]
            refine wpAnyH_done (by kernel_rfl) ?_ _
            go_wp2
            go_meet
            exact ⟨rfl, bf⟩
          exact AllReadyH.nil
        exact AllReadyH.nil
      refine AllReadyH.cons (o := Oper.mk _ _ _ _ _ _) rfl (fun K hK => ?_) ?_
      · skip
        go_simp
        obtain ⟨U36, hU⟩ : ∃ V, V = U22.alloc (.cells #[.int .i64 0, .slice none 0 0, .slice none 0 0, .slice none 0 0, .slice none 0 0, .int .u64 0] 27) := ⟨_, rfl⟩
        have hb : Below U22.heap.size U22 U36 := by rw [hU]; exact (Below.refl _ _).alloc (Nat.le_refl _) _
        have bz := Lib.hid (show Box U36 U22.heap.size Sl.none adsNone by rw [hU]; exact Box.new U22 Sl.none adsNone 27)
        have gXb : V8.heap.size ≤ U22.heap.size := bb.out.size
        obtain ⟨gX, hgX⟩ : ∃ g, g = U22.heap.size := ⟨_, rfl⟩
        try rw [← hU]
        rw [← hgX] at bz gXb ⊢
        clear hU
        replace lp := Lib.hid (lp.out.below hb)
        replace bb := Lib.hid (bb.out.trans (hb.mono bb.out.size))
        clear hb hgX
        refine hK.out _ _ (Lib.hid bb.out) (fun _ => ?_)
        clear hK K
        try simp only [Act.put, List.setIfInBounds_toArray, List.set_cons_zero, List.set_cons_succ]
        refine wpAnyH_ready (rs := [0]) (by kernel_rfl) (by simp) ?_
        refine AllReadyH.cons (o := Oper.mk _ _ _ _ _ _) rfl (fun K hK => ?_) ?_
        · skip
          go_simp
          refine (CC.out _ (TB0.out.below (BB.out.trans (bb.out.mono BB.out.size)))).mono ?_
          rintro e U37 ⟨A, rfl, own, hb⟩
          replace lp := Lib.hid (lp.out.below hb)
          replace bz := Lib.hid (bz.out.below hb)
          replace bb := Lib.hid (bb.out.trans (hb.mono bb.out.size))
          have ho := Lib.hid own.held
          clear hb own
          unfold slv
          go_wp2_with fail
          refine hK.out _ _ (Lib.hid bb.out) (fun _ => ?_)
          clear hK K
          try simp only [Act.put, List.setIfInBounds_toArray, List.set_cons_zero, List.set_cons_succ]
          refine wpAnyH_ready (rs := [2]) (by kernel_rfl) (by simp) ?_
          refine AllReadyH.cons (o := Oper.mk _ _ _ _ _ _) rfl (fun K hK => ?_) ?_
          · skip
            go_simp
            refine (C9.out A (some ⟨gM, 0, none⟩) 5 _ ho.out (TB0.out.below (BB.out.trans (bb.out.mono BB.out.size))) lp.out).mono ?_
            rintro e U38 ⟨A9, rfl, own, hb⟩
            replace lp := Lib.hid (lp.out.below hb)
            replace bz := Lib.hid (bz.out.below hb)
            replace ho := Lib.hid (ho.out.below hb)
            replace bb := Lib.hid (bb.out.trans (hb.mono bb.out.size))
            clear hb own
            unfold slv
            go_wp2_with fail
            refine hK.out _ _ (Lib.hid bb.out) (fun _ => ?_)
            clear hK K
            try simp only [Act.put, List.setIfInBounds_toArray, List.set_cons_zero, List.set_cons_succ]
            refine wpAnyH_take (i := 3) (oi := Oper.mk _ _ _ _ _ _) (v := ?v3_39) rfl (by kernel_rfl) (by kernel_rfl) (by kernel_rfl) (fun _ _ _ h => h) (Or.inl ⟨by rfl, ?hy3_39⟩) (Lib.hid bb.out) ?rest3_39
            case hy3_39 =>
              rintro w0 hSw
              go_simp
              all_goals with_reducible rfl
            try simp only [Act.put, List.setIfInBounds_toArray, List.set_cons_zero, List.set_cons_succ]
            refine wpAnyH_take (i := 4) (oi := Oper.mk _ _ _ _ _ _) (v := ?v4_40) rfl (by kernel_rfl) (by kernel_rfl) (by kernel_rfl) (fun _ _ _ h => h) (Or.inl ⟨by rfl, ?hy4_40⟩) (Lib.hid bb.out) ?rest4_40
            case hy4_40 =>
              rintro w0 hSw
              go_simp
              all_goals with_reducible rfl
            try simp only [Act.put, List.setIfInBounds_toArray, List.set_cons_zero, List.set_cons_succ]
            refine wpAnyH_take (i := 5) (oi := Oper.mk _ _ _ _ _ _) (v := ?v5_41) rfl (by kernel_rfl) (by kernel_rfl) (by kernel_rfl) (fun _ _ _ h => h) (Or.inl ⟨by rfl, ?hy5_41⟩) (Lib.hid bb.out) ?rest5_41
            case hy5_41 =>
              rintro w0 hSw
              go_simp
              all_goals with_reducible rfl
            try simp only [Act.put, List.setIfInBounds_toArray, List.set_cons_zero, List.set_cons_succ]
            obtain ⟨_, s0, s1, s2, s3', s4', s5', sf⟩ := bz.out
            have sf0 := sf 0
            have sf1 := sf 1
            have sf2 := sf 2
            have sf3 := sf 3
            have sf4 := sf 4
            have sf5 := sf 5
            clear sf
            dsimp only [Sl.none, adsNone, List.length_nil] at s0 s1 s2 s3' s4' s5'
            refine wpAnyH_ready (rs := [7]) (by kernel_rfl) (by simp) ?_
            refine AllReadyH.cons (o := Oper.mk _ _ _ _ _ _) rfl (fun K hK => ?_) AllReadyH.nil
            go_simp
            have bf := below_put6 bb.out gXb (.int .i64 X9.seg) (.slice A9.w X9.words.length A9.cw) (.slice A9.k X9.keys.length A9.ck) (.slice A9.v X9.vals.length A9.cv) (.slice A9.c X9.counts.length A9.cc) (.int .u64 (X9.laid : Int))
            refine hK.out _ _ (Lib.hid bf) (fun _ => ?_)
            clear hK K
            try simp only [Act.put, List.setIfInBounds_toArray, List.set_cons_zero, List.set_cons_succ]
            refine wpAnyH_take (i := 8) (oi := Oper.mk _ _ _ _ _ _) (v := ?v8_42) rfl (by kernel_rfl) (by kernel_rfl) (by kernel_rfl) (fun _ _ _ h => h) (Or.inl ⟨by rfl, ?hy8_42⟩) (Lib.hid bf) ?rest8_42
            case hy8_42 =>
              rintro w0 hSw
              go_simp
              all_goals with_reducible rfl
            try simp only [Act.put, List.setIfInBounds_toArray, List.set_cons_zero, List.set_cons_succ]
            refine wpAnyH_done (by kernel_rfl) ?_ _
            go_wp2
            go_meet
            exact ⟨rfl, bf⟩
          exact AllReadyH.nil
        exact AllReadyH.nil
      exact AllReadyH.nil
    refine AllReadyH.cons (o := Oper.mk _ _ _ _ _ _) rfl (fun K hK => ?_) ?_
    · skip
      go_simp
      obtain ⟨U43, hU⟩ : ∃ V, V = W0.alloc (.cells #[.int .i64 0, .slice none 0 0, .slice none 0 0, .slice none 0 0, .slice none 0 0, .int .u64 0] 27) := ⟨_, rfl⟩
      have hb : Below W0.heap.size W0 U43 := by rw [hU]; exact (Below.refl _ _).alloc (Nat.le_refl _) _
      have bz := Lib.hid (show Box U43 W0.heap.size Sl.none adsNone by rw [hU]; exact Box.new W0 Sl.none adsNone 27)
      have gXb : V8.heap.size ≤ W0.heap.size := bb.out.size
      obtain ⟨gX, hgX⟩ : ∃ g, g = W0.heap.size := ⟨_, rfl⟩
      try rw [← hU]
      rw [← hgX] at bz gXb ⊢
      clear hU
      replace bb := Lib.hid (bb.out.trans (hb.mono bb.out.size))
      clear hb hgX
      refine hK.out _ _ (Lib.hid bb.out) (fun _ => ?_)
      clear hK K
      try simp only [Act.put, List.setIfInBounds_toArray, List.set_cons_zero, List.set_cons_succ]
      refine wpAnyH_ready (rs := [0, 1]) (by kernel_rfl) (by simp) ?_
      refine AllReadyH.cons (o := Oper.mk _ _ _ _ _ _) rfl (fun K hK => ?_) ?_
      · skip
        go_simp
        refine (CC.out _ (TB0.out.below (BB.out.trans (bb.out.mono BB.out.size)))).mono ?_
        rintro e U44 ⟨A, rfl, own, hb⟩
        replace bz := Lib.hid (bz.out.below hb)
        replace bb := Lib.hid (bb.out.trans (hb.mono bb.out.size))
        have ho := Lib.hid own.held
        clear hb own
        unfold slv
        go_wp2_with fail
        refine hK.out _ _ (Lib.hid bb.out) (fun _ => ?_)
        clear hK K
        try simp only [Act.put, List.setIfInBounds_toArray, List.set_cons_zero, List.set_cons_succ]
        refine wpAnyH_ready (rs := [1]) (by kernel_rfl) (by simp) ?_
        refine AllReadyH.cons (o := Oper.mk _ _ _ _ _ _) rfl (fun K hK => ?_) ?_
        · skip
          refine step_pairs5 elemP rfl (.const (.int .i64 5)) (.const (.int .i64 5)) rfl rfl rfl (by omega) ?_
          intro gM U45 hgM hlt lp hb
          have lp := Lib.hid lp
          replace hb : Below U44.heap.size U44 U45 := by rw [← hgM]; exact hb
          replace bz := Lib.hid (bz.out.below hb)
          replace ho := Lib.hid (ho.out.below hb)
          replace bb := Lib.hid (bb.out.trans (hb.mono bb.out.size))
          clear hb hlt hgM
          refine hK.out _ _ (Lib.hid bb.out) (fun _ => ?_)
          clear hK K
          try simp only [Act.put, List.setIfInBounds_toArray, List.set_cons_zero, List.set_cons_succ]
          refine wpAnyH_ready (rs := [2]) (by kernel_rfl) (by simp) ?_
          refine AllReadyH.cons (o := Oper.mk _ _ _ _ _ _) rfl (fun K hK => ?_) ?_
          · skip
            go_simp
            refine (C9.out A (some ⟨gM, 0, none⟩) 5 _ ho.out (TB0.out.below (BB.out.trans (bb.out.mono BB.out.size))) lp.out).mono ?_
            rintro e U46 ⟨A9, rfl, own, hb⟩
            replace bz := Lib.hid (bz.out.below hb)
            replace ho := Lib.hid (ho.out.below hb)
            replace lp := Lib.hid (lp.out.below hb)
            replace bb := Lib.hid (bb.out.trans (hb.mono bb.out.size))
            clear hb own
            unfold slv
            go_wp2_with fail
            refine hK.out _ _ (Lib.hid bb.out) (fun _ => ?_)
            clear hK K
            try simp only [Act.put, List.setIfInBounds_toArray, List.set_cons_zero, List.set_cons_succ]
            refine wpAnyH_take (i := 3) (oi := Oper.mk _ _ _ _ _ _) (v := ?v3_47) rfl (by kernel_rfl) (by kernel_rfl) (by kernel_rfl) (fun _ _ _ h => h) (Or.inl ⟨by rfl, ?hy3_47⟩) (Lib.hid bb.out) ?rest3_47
            case hy3_47 =>
              rintro w0 hSw
              go_simp
              all_goals with_reducible rfl
            try simp only [Act.put, List.setIfInBounds_toArray, List.set_cons_zero, List.set_cons_succ]
            refine wpAnyH_take (i := 4) (oi := Oper.mk _ _ _ _ _ _) (v := ?v4_48) rfl (by kernel_rfl) (by kernel_rfl) (by kernel_rfl) (fun _ _ _ h => h) (Or.inl ⟨by rfl, ?hy4_48⟩) (Lib.hid bb.out) ?rest4_48
            case hy4_48 =>
              rintro w0 hSw
              go_simp
              all_goals with_reducible rfl
            try simp only [Act.put, List.setIfInBounds_toArray, List.set_cons_zero, List.set_cons_succ]
            refine wpAnyH_take (i := 5) (oi := Oper.mk _ _ _ _ _ _) (v := ?v5_49) rfl (by kernel_rfl) (by kernel_rfl) (by kernel_rfl) (fun _ _ _ h => h) (Or.inl ⟨by rfl, ?hy5_49⟩) (Lib.hid bb.out) ?rest5_49
            case hy5_49 =>
              rintro w0 hSw
              go_simp
              all_goals with_reducible rfl
            try simp only [Act.put, List.setIfInBounds_toArray, List.set_cons_zero, List.set_cons_succ]
            obtain ⟨_, s0, s1, s2, s3', s4', s5', sf⟩ := bz.out
            have sf0 := sf 0
            have sf1 := sf 1
            have sf2 := sf 2
            have sf3 := sf 3
            have sf4 := sf 4
            have sf5 := sf 5
            clear sf
            dsimp only [Sl.none, adsNone, List.length_nil] at s0 s1 s2 s3' s4' s5'
            refine wpAnyH_ready (rs := [7]) (by kernel_rfl) (by simp) ?_
            refine AllReadyH.cons (o := Oper.mk _ _ _ _ _ _) rfl (fun K hK => ?_) AllReadyH.nil
            go_simp
            have bf := below_put6 bb.out gXb (.int .i64 X9.seg) (.slice A9.w X9.words.length A9.cw) (.slice A9.k X9.keys.length A9.ck) (.slice A9.v X9.vals.length A9.cv) (.slice A9.c X9.counts.length A9.cc) (.int .u64 (X9.laid : Int))
            refine hK.out _ _ (Lib.hid bf) (fun _ => ?_)
            clear hK K
            try simp only [Act.put, List.setIfInBounds_toArray, List.set_cons_zero, List.set_cons_succ]
            refine wpAnyH_take (i := 8) (oi := Oper.mk _ _ _ _ _ _) (v := ?v8_50) rfl (by kernel_rfl) (by kernel_rfl) (by kernel_rfl) (fun _ _ _ h => h) (Or.inl ⟨by rfl, ?hy8_50⟩) (Lib.hid bf) ?rest8_50
            case hy8_50 =>
              rintro w0 hSw
              go_simp
              all_goals with_reducible rfl
            try simp only [Act.put, List.setIfInBounds_toArray, List.set_cons_zero, List.set_cons_succ]
            refine wpAnyH_done (by kernel_rfl) ?_ _
            go_wp2
            go_meet
            exact ⟨rfl, bf⟩
          exact AllReadyH.nil
        exact AllReadyH.nil
      refine AllReadyH.cons (o := Oper.mk _ _ _ _ _ _) rfl (fun K hK => ?_) ?_
      · skip
        refine step_pairs5 elemP rfl (.const (.int .i64 5)) (.const (.int .i64 5)) rfl rfl rfl (by omega) ?_
        intro gM U51 hgM hlt lp hb
        have lp := Lib.hid lp
        replace hb : Below U43.heap.size U43 U51 := by rw [← hgM]; exact hb
        replace bz := Lib.hid (bz.out.below hb)
        replace bb := Lib.hid (bb.out.trans (hb.mono bb.out.size))
        clear hb hlt hgM
        refine hK.out _ _ (Lib.hid bb.out) (fun _ => ?_)
        clear hK K
        try simp only [Act.put, List.setIfInBounds_toArray, List.set_cons_zero, List.set_cons_succ]
        refine wpAnyH_ready (rs := [0]) (by kernel_rfl) (by simp) ?_
        refine AllReadyH.cons (o := Oper.mk _ _ _ _ _ _) rfl (fun K hK => ?_) ?_
        · skip
          go_simp
          refine (CC.out _ (TB0.out.below (BB.out.trans (bb.out.mono BB.out.size)))).mono ?_
          rintro e U52 ⟨A, rfl, own, hb⟩
          replace bz := Lib.hid (bz.out.below hb)
          replace lp := Lib.hid (lp.out.below hb)
          replace bb := Lib.hid (bb.out.trans (hb.mono bb.out.size))
          have ho := Lib.hid own.held
          clear hb own
          unfold slv
          go_wp2_with fail
          refine hK.out _ _ (Lib.hid bb.out) (fun _ => ?_)
          clear hK K
          try simp only [Act.put, List.setIfInBounds_toArray, List.set_cons_zero, List.set_cons_succ]
          refine wpAnyH_ready (rs := [2]) (by kernel_rfl) (by simp) ?_
          refine AllReadyH.cons (o := Oper.mk _ _ _ _ _ _) rfl (fun K hK => ?_) ?_
          · skip
            go_simp
            refine (C9.out A (some ⟨gM, 0, none⟩) 5 _ ho.out (TB0.out.below (BB.out.trans (bb.out.mono BB.out.size))) lp.out).mono ?_
            rintro e U53 ⟨A9, rfl, own, hb⟩
            replace bz := Lib.hid (bz.out.below hb)
            replace lp := Lib.hid (lp.out.below hb)
            replace ho := Lib.hid (ho.out.below hb)
            replace bb := Lib.hid (bb.out.trans (hb.mono bb.out.size))
            clear hb own
            unfold slv
            go_wp2_with fail
            refine hK.out _ _ (Lib.hid bb.out) (fun _ => ?_)
            clear hK K
            try simp only [Act.put, List.setIfInBounds_toArray, List.set_cons_zero, List.set_cons_succ]
            refine wpAnyH_take (i := 3) (oi := Oper.mk _ _ _ _ _ _) (v := ?v3_54) rfl (by kernel_rfl) (by kernel_rfl) (by kernel_rfl) (fun _ _ _ h => h) (Or.inl ⟨by rfl, ?hy3_54⟩) (Lib.hid bb.out) ?rest3_54
            case hy3_54 =>
              rintro w0 hSw
              go_simp
              all_goals with_reducible rfl
            try simp only [Act.put, List.setIfInBounds_toArray, List.set_cons_zero, List.set_cons_succ]
            refine wpAnyH_take (i := 4) (oi := Oper.mk _ _ _ _ _ _) (v := ?v4_55) rfl (by kernel_rfl) (by kernel_rfl) (by kernel_rfl) (fun _ _ _ h => h) (Or.inl ⟨by rfl, ?hy4_55⟩) (Lib.hid bb.out) ?rest4_55
            case hy4_55 =>
              rintro w0 hSw
              go_simp
              all_goals with_reducible rfl
            try simp only [Act.put, List.setIfInBounds_toArray, List.set_cons_zero, List.set_cons_succ]
            refine wpAnyH_take (i := 5) (oi := Oper.mk _ _ _ _ _ _) (v := ?v5_56) rfl (by kernel_rfl) (by kernel_rfl) (by kernel_rfl) (fun _ _ _ h => h) (Or.inl ⟨by rfl, ?hy5_56⟩) (Lib.hid bb.out) ?rest5_56
            case hy5_56 =>
              rintro w0 hSw
              go_simp
              all_goals with_reducible rfl
            try simp only [Act.put, List.setIfInBounds_toArray, List.set_cons_zero, List.set_cons_succ]
            obtain ⟨_, s0, s1, s2, s3', s4', s5', sf⟩ := bz.out
            have sf0 := sf 0
            have sf1 := sf 1
            have sf2 := sf 2
            have sf3 := sf 3
            have sf4 := sf 4
            have sf5 := sf 5
            clear sf
            dsimp only [Sl.none, adsNone, List.length_nil] at s0 s1 s2 s3' s4' s5'
            refine wpAnyH_ready (rs := [7]) (by kernel_rfl) (by simp) ?_
            refine AllReadyH.cons (o := Oper.mk _ _ _ _ _ _) rfl (fun K hK => ?_) AllReadyH.nil
            go_simp
            have bf := below_put6 bb.out gXb (.int .i64 X9.seg) (.slice A9.w X9.words.length A9.cw) (.slice A9.k X9.keys.length A9.ck) (.slice A9.v X9.vals.length A9.cv) (.slice A9.c X9.counts.length A9.cc) (.int .u64 (X9.laid : Int))
            refine hK.out _ _ (Lib.hid bf) (fun _ => ?_)
            clear hK K
            try simp only [Act.put, List.setIfInBounds_toArray, List.set_cons_zero, List.set_cons_succ]
            refine wpAnyH_take (i := 8) (oi := Oper.mk _ _ _ _ _ _) (v := ?v8_57) rfl (by kernel_rfl) (by kernel_rfl) (by kernel_rfl) (fun _ _ _ h => h) (Or.inl ⟨by rfl, ?hy8_57⟩) (Lib.hid bf) ?rest8_57
            case hy8_57 =>
              rintro w0 hSw
              go_simp
              all_goals with_reducible rfl
            try simp only [Act.put, List.setIfInBounds_toArray, List.set_cons_zero, List.set_cons_succ]
            refine wpAnyH_done (by kernel_rfl) ?_ _
            go_wp2
            go_meet
            exact ⟨rfl, bf⟩
          exact AllReadyH.nil
        exact AllReadyH.nil
      exact AllReadyH.nil
    exact AllReadyH.nil
  case rest =>
    obtain ⟨rfl, hbx⟩ := hcut
    replace BB := Lib.hid (BB.out.trans (hbx.mono BB.out.size))
    replace B4 := Lib.hid (B4.out.below hbx)
    replace B7 := Lib.hid (B7.out.below hbx)
    replace O4 := Lib.hid (O4.out.below hbx)
    replace O7 := Lib.hid (O7.out.below hbx)
    clear hbx
    go_wp2_with fail
    refine (CA.out _ (TB0.out.below BB.out)).mono ?_
    rintro e Y1 ⟨rfl, hb⟩
    replace BB := Lib.hid (BB.out.trans (hb.mono BB.out.size))
    replace B4 := Lib.hid (B4.out.below hb)
    replace B7 := Lib.hid (B7.out.below hb)
    replace O4 := Lib.hid (O4.out.below hb)
    replace O7 := Lib.hid (O7.out.below hb)
    clear hb
    obtain ⟨_, p0, p1, p2, p3, p4, p5, _⟩ := B4.out
    have L1 := Lib.hid (lst8 [5, 6, 7, 0] Y1 2)
    have hba := Lib.hid (fun o => (Below.refl Y1.heap.size Y1).alloc (Nat.le_refl _) o)
    go_wp2_with fail
    refine (l8Keys S4 A4 _ 4 [5, 6, 7, 0] _ (O4.out.below (hba.out _)) sh4.out L1.out (by decide)).mono ?_
    rintro e Y2 ⟨rfl, hb⟩
    rw [Q4.out]
    replace hb := (hba.out _).trans (hb.mono (by simp))
    replace BB := Lib.hid (BB.out.trans (hb.mono BB.out.size))
    replace B7 := Lib.hid (B7.out.below hb)
    replace O7 := Lib.hid (O7.out.below hb)
    clear hb hba L1 p0 p1 p2 p3 p4 p5
    obtain ⟨_, p0, p1, p2, p3, p4, p5, _⟩ := B7.out
    have L2 := Lib.hid (lst8 [1, 0, 0, 0, 2, 0, 0, 0] Y2 2)
    have hba := Lib.hid (fun o => (Below.refl Y2.heap.size Y2).alloc (Nat.le_refl _) o)
    go_wp2_with fail
    refine (l8Keys S7 A7 _ 8 [1, 0, 0, 0, 2, 0, 0, 0] _ (O7.out.below (hba.out _)) sh7.out L2.out (by decide)).mono ?_
    rintro e Y3 ⟨rfl, hb⟩
    rw [Q7.out]
    replace hb := (hba.out _).trans (hb.mono (by simp))
    replace BB := Lib.hid (BB.out.trans (hb.mono BB.out.size))
    replace B7 := Lib.hid (B7.out.below hb)
    clear hb hba L2 p0 p1 p2 p3 p4 p5
    obtain ⟨_, p0, p1, p2, p3, p4, p5, _⟩ := B7.out
    rw [L7.out] at p5
    go_wp2
    go_ret
    exact ⟨rfl, BB.out⟩
end Go.Proofs.YtmmkaabefofdeaaDoor.layNames
