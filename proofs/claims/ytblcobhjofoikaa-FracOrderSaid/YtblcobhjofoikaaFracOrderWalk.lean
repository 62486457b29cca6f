/- The walk of the law FracOrder: cross products order fractions. -/
import Derived.Test.YtblcobhjofoikaaFracOrderFacts
import Derived.Deep.QuietTactic
import Derived.BigQuiet
namespace Go.Proofs.Ytblcobhjofoikaa.fracOrder
open Go.RowKit
set_option linter.unusedVariables false

theorem box_cells {a b c d x y : Int} {t : TypeId} {W w1 : World} (hb : Below (W.alloc (.cells #[.int .i64 a, .int .i64 b, .int .i64 c, .int .i64 d, .int .i64 x, .int .i64 y] t)).heap.size (W.alloc (.cells #[.int .i64 a, .int .i64 b, .int .i64 c, .int .i64 d, .int .i64 x, .int .i64 y] t)) w1) :
    (w1.cell? ⟨W.heap.size, 0, none⟩ = some (.int .i64 a) ∧ w1.cell? ⟨W.heap.size, 1, none⟩ = some (.int .i64 b) ∧ w1.cell? ⟨W.heap.size, 2, none⟩ = some (.int .i64 c) ∧ w1.cell? ⟨W.heap.size, 3, none⟩ = some (.int .i64 d) ∧ w1.cell? ⟨W.heap.size, 4, none⟩ = some (.int .i64 x) ∧ w1.cell? ⟨W.heap.size, 5, none⟩ = some (.int .i64 y)) ∧ Below W.heap.size W w1 := by
  have g : ∀ o, w1.cell? ⟨W.heap.size, o, none⟩ = (W.alloc (.cells #[.int .i64 a, .int .i64 b, .int .i64 c, .int .i64 d, .int .i64 x, .int .i64 y] t)).cell? ⟨W.heap.size, o, none⟩ := fun o => hb.cell (p := ⟨W.heap.size, o, none⟩) (by simp)
  refine ⟨⟨?_, ?_, ?_, ?_, ?_, ?_⟩, ((Below.refl _ _).alloc (Nat.le_refl _) _).trans (hb.mono (by simp))⟩ <;> (rw [g]; simp)

set_option maxRecDepth 100000 in
set_option maxHeartbeats 1000000 in
theorem early1 (a b c d x y : Int) (W : World) (e1 : (Fr.crossE a b c d != 0) = true) (f1 : (Fr.crossE a b c d == 0) = false) (v1 : (Fr.crossV a b c d == 0) = true) :
    Calls Try.prog 6 #[.agg #[.int .i64 a, .int .i64 b, .int .i64 c, .int .i64 d, .int .i64 x, .int .i64 y]] W fun e w' => e = .returned (.bool true) ∧ Below W.heap.size W w' := by
  go_enter Try.func6, Try.ntmps6
  go_wp2_with (go_at_call 15; refine (lAlive _).mono ?_; rintro e w1 ⟨rfl, hb1⟩)
  obtain ⟨⟨k0, k1, k2, k3, k4, k5⟩, hb⟩ := box_cells hb1
  clear hb1
  go_quiet (fail)
  clear k0 k1 k2 k3 k4 k5
  replace hb := below_drewN hb nq
  generalize w1.drewN nq = w2 at *
  go_wp2_with (first | (go_at_call 9; refine (fCross _ _ _ _ _).mono ?_; rintro e w1 ⟨rfl, hb1⟩; replace hb := hb.trans (hb1.mono hb.size); clear hb1) | (go_at_call 17; refine (lCross _ _ _ _ _ _).mono ?_; rintro e w1 ⟨rfl, hb1⟩; replace hb := hb.trans (hb1.mono hb.size); clear hb1))
  go_ret
  exact ⟨rfl, hb⟩

set_option maxRecDepth 100000 in
set_option maxHeartbeats 1000000 in
theorem early2 (a b c d x y : Int) (W : World) (e1 : (Fr.crossE a b c d != 0) = false) (f1 : (Fr.crossE a b c d == 0) = true) (e2 : (Fr.crossE c d x y != 0) = true) :
    Calls Try.prog 6 #[.agg #[.int .i64 a, .int .i64 b, .int .i64 c, .int .i64 d, .int .i64 x, .int .i64 y]] W fun e w' => e = .returned (.bool true) ∧ Below W.heap.size W w' := by
  go_enter Try.func6, Try.ntmps6
  go_wp2_with (go_at_call 15; refine (lAlive _).mono ?_; rintro e w1 ⟨rfl, hb1⟩)
  obtain ⟨⟨k0, k1, k2, k3, k4, k5⟩, hb⟩ := box_cells hb1
  clear hb1
  go_quiet (fail)
  clear k0 k1 k2 k3 k4 k5
  replace hb := below_drewN hb nq
  generalize w1.drewN nq = w2 at *
  go_wp2_with (first | (go_at_call 9; refine (fCross _ _ _ _ _).mono ?_; rintro e w1 ⟨rfl, hb1⟩; replace hb := hb.trans (hb1.mono hb.size); clear hb1) | (go_at_call 17; refine (lCross _ _ _ _ _ _).mono ?_; rintro e w1 ⟨rfl, hb1⟩; replace hb := hb.trans (hb1.mono hb.size); clear hb1))
  go_ret
  exact ⟨rfl, hb⟩

set_option maxRecDepth 100000 in
set_option maxHeartbeats 1000000 in
theorem early3 (a b c d x y : Int) (W : World) (e1 : (Fr.crossE a b c d != 0) = false) (f1 : (Fr.crossE a b c d == 0) = true) (e2 : (Fr.crossE c d x y != 0) = false) (e3 : (Fr.crossE a b x y != 0) = true) :
    Calls Try.prog 6 #[.agg #[.int .i64 a, .int .i64 b, .int .i64 c, .int .i64 d, .int .i64 x, .int .i64 y]] W fun e w' => e = .returned (.bool true) ∧ Below W.heap.size W w' := by
  go_enter Try.func6, Try.ntmps6
  go_wp2_with (go_at_call 15; refine (lAlive _).mono ?_; rintro e w1 ⟨rfl, hb1⟩)
  obtain ⟨⟨k0, k1, k2, k3, k4, k5⟩, hb⟩ := box_cells hb1
  clear hb1
  go_quiet (fail)
  clear k0 k1 k2 k3 k4 k5
  replace hb := below_drewN hb nq
  generalize w1.drewN nq = w2 at *
  go_wp2_with (first | (go_at_call 9; refine (fCross _ _ _ _ _).mono ?_; rintro e w1 ⟨rfl, hb1⟩; replace hb := hb.trans (hb1.mono hb.size); clear hb1) | (go_at_call 17; refine (lCross _ _ _ _ _ _).mono ?_; rintro e w1 ⟨rfl, hb1⟩; replace hb := hb.trans (hb1.mono hb.size); clear hb1))
  go_ret
  exact ⟨rfl, hb⟩

set_option maxRecDepth 100000 in
set_option maxHeartbeats 1000000 in
theorem early4 (a b c d x y : Int) (W : World) (e1 : (Fr.crossE a b c d != 0) = false) (f1 : (Fr.crossE a b c d == 0) = true) (e2 : (Fr.crossE c d x y != 0) = false) (e3 : (Fr.crossE a b x y != 0) = false) (p1 : b ≤ 0) :
    Calls Try.prog 6 #[.agg #[.int .i64 a, .int .i64 b, .int .i64 c, .int .i64 d, .int .i64 x, .int .i64 y]] W fun e w' => e = .returned (.bool true) ∧ Below W.heap.size W w' := by
  go_enter Try.func6, Try.ntmps6
  go_wp2_with (go_at_call 15; refine (lAlive _).mono ?_; rintro e w1 ⟨rfl, hb1⟩)
  obtain ⟨⟨k0, k1, k2, k3, k4, k5⟩, hb⟩ := box_cells hb1
  clear hb1
  go_quiet (fail)
  clear k0 k1 k2 k3 k4 k5
  replace hb := below_drewN hb nq
  generalize w1.drewN nq = w2 at *
  go_wp2_with (first | (go_at_call 9; refine (fCross _ _ _ _ _).mono ?_; rintro e w1 ⟨rfl, hb1⟩; replace hb := hb.trans (hb1.mono hb.size); clear hb1) | (go_at_call 17; refine (lCross _ _ _ _ _ _).mono ?_; rintro e w1 ⟨rfl, hb1⟩; replace hb := hb.trans (hb1.mono hb.size); clear hb1))
  go_ret
  exact ⟨rfl, hb⟩

set_option maxRecDepth 100000 in
set_option maxHeartbeats 1000000 in
theorem early5 (a b c d x y : Int) (W : World) (e1 : (Fr.crossE a b c d != 0) = false) (f1 : (Fr.crossE a b c d == 0) = true) (e2 : (Fr.crossE c d x y != 0) = false) (e3 : (Fr.crossE a b x y != 0) = false) (p1 : 0 < b) (p2 : d ≤ 0) :
    Calls Try.prog 6 #[.agg #[.int .i64 a, .int .i64 b, .int .i64 c, .int .i64 d, .int .i64 x, .int .i64 y]] W fun e w' => e = .returned (.bool true) ∧ Below W.heap.size W w' := by
  go_enter Try.func6, Try.ntmps6
  go_wp2_with (go_at_call 15; refine (lAlive _).mono ?_; rintro e w1 ⟨rfl, hb1⟩)
  obtain ⟨⟨k0, k1, k2, k3, k4, k5⟩, hb⟩ := box_cells hb1
  clear hb1
  go_quiet (fail)
  clear k0 k1 k2 k3 k4 k5
  replace hb := below_drewN hb nq
  generalize w1.drewN nq = w2 at *
  go_wp2_with (first | (go_at_call 9; refine (fCross _ _ _ _ _).mono ?_; rintro e w1 ⟨rfl, hb1⟩; replace hb := hb.trans (hb1.mono hb.size); clear hb1) | (go_at_call 17; refine (lCross _ _ _ _ _ _).mono ?_; rintro e w1 ⟨rfl, hb1⟩; replace hb := hb.trans (hb1.mono hb.size); clear hb1))
  go_ret
  exact ⟨rfl, hb⟩

set_option maxRecDepth 100000 in
set_option maxHeartbeats 1000000 in
theorem early6 (a b c d x y : Int) (W : World) (e1 : (Fr.crossE a b c d != 0) = false) (f1 : (Fr.crossE a b c d == 0) = true) (e2 : (Fr.crossE c d x y != 0) = false) (e3 : (Fr.crossE a b x y != 0) = false) (p1 : 0 < b) (p2 : 0 < d) (p3 : y ≤ 0) :
    Calls Try.prog 6 #[.agg #[.int .i64 a, .int .i64 b, .int .i64 c, .int .i64 d, .int .i64 x, .int .i64 y]] W fun e w' => e = .returned (.bool true) ∧ Below W.heap.size W w' := by
  go_enter Try.func6, Try.ntmps6
  go_wp2_with (go_at_call 15; refine (lAlive _).mono ?_; rintro e w1 ⟨rfl, hb1⟩)
  obtain ⟨⟨k0, k1, k2, k3, k4, k5⟩, hb⟩ := box_cells hb1
  clear hb1
  go_quiet (fail)
  clear k0 k1 k2 k3 k4 k5
  replace hb := below_drewN hb nq
  generalize w1.drewN nq = w2 at *
  go_wp2_with (first | (go_at_call 9; refine (fCross _ _ _ _ _).mono ?_; rintro e w1 ⟨rfl, hb1⟩; replace hb := hb.trans (hb1.mono hb.size); clear hb1) | (go_at_call 17; refine (lCross _ _ _ _ _ _).mono ?_; rintro e w1 ⟨rfl, hb1⟩; replace hb := hb.trans (hb1.mono hb.size); clear hb1))
  go_ret
  exact ⟨rfl, hb⟩

end Go.Proofs.Ytblcobhjofoikaa.fracOrder
