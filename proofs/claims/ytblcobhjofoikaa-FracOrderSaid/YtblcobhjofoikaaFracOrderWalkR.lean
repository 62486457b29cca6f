/- The walk of the law FracOrder, where all three cross products are told and the numbers below are above 0: the case E. -/
import Derived.Test.YtblcobhjofoikaaFracOrderWalk
namespace Go.Proofs.Ytblcobhjofoikaa.fracOrder
open Go.RowKit
set_option linter.unusedVariables false

set_option maxRecDepth 100000 in
set_option maxHeartbeats 1000000 in
theorem lateE1 (a b c d x y : Int) (W : World) (e1 : (Fr.crossE a b c d != 0) = false) (f1 : (Fr.crossE a b c d == 0) = true) (e2 : (Fr.crossE c d x y != 0) = false) (e3 : (Fr.crossE a b x y != 0) = false) (p1 : 0 < b) (p2 : 0 < d) (p3 : 0 < y) (r1 : -1 ≤ Fr.crossV a b c d) (r2 : Fr.crossV a b c d ≤ 1) (c1 : Fr.crossIs c d a b (-Fr.crossV a b c d) = true) (c2 : Fr.crossIs a b a b 0 = true) (o1 : Fr.crossV a b c d ≤ 0) (q1 : 0 ≤ Fr.crossV a b c d) (o2 : Fr.crossV c d x y < 0) (o3 : Fr.crossV a b x y < 0) (g1 : 16777216 < a) :
    Calls Try.prog 6 #[.agg #[.int .i64 a, .int .i64 b, .int .i64 c, .int .i64 d, .int .i64 x, .int .i64 y]] W fun e w' => e = .returned (.bool true) ∧ Below W.heap.size W w' := by
  go_enter Try.func6, Try.ntmps6
  go_wp2_with (go_at_call 15; refine (lAlive _).mono ?_; rintro e w1 ⟨rfl, hb1⟩)
  obtain ⟨⟨k0, k1, k2, k3, k4, k5⟩, hb⟩ := box_cells hb1
  clear hb1
  go_quiet (fail)
  clear k0 k1 k2 k3 k4 k5
  replace hb := below_drewN hb nq
  generalize w1.drewN nq = w2 at *
  go_wp2_with (first | (go_at_call 9; refine (fCross _ _ _ _ _).mono ?_; rintro e w1 ⟨rfl, hb1⟩; replace hb := hb.trans (hb1.mono hb.size); clear hb1) | (go_at_call 17; refine (lCross _ _ _ _ _ _).mono ?_; rintro e w1 ⟨rfl, hb1⟩; replace hb := hb.trans (hb1.mono hb.size); clear hb1))
  go_ret
  exact ⟨rfl, hb⟩

set_option maxRecDepth 100000 in
set_option maxHeartbeats 1000000 in
theorem lateE2 (a b c d x y : Int) (W : World) (e1 : (Fr.crossE a b c d != 0) = false) (f1 : (Fr.crossE a b c d == 0) = true) (e2 : (Fr.crossE c d x y != 0) = false) (e3 : (Fr.crossE a b x y != 0) = false) (p1 : 0 < b) (p2 : 0 < d) (p3 : 0 < y) (r1 : -1 ≤ Fr.crossV a b c d) (r2 : Fr.crossV a b c d ≤ 1) (c1 : Fr.crossIs c d a b (-Fr.crossV a b c d) = true) (c2 : Fr.crossIs a b a b 0 = true) (o1 : Fr.crossV a b c d ≤ 0) (q1 : 0 ≤ Fr.crossV a b c d) (o2 : Fr.crossV c d x y < 0) (o3 : Fr.crossV a b x y < 0) (g1 : a < -16777216) :
    Calls Try.prog 6 #[.agg #[.int .i64 a, .int .i64 b, .int .i64 c, .int .i64 d, .int .i64 x, .int .i64 y]] W fun e w' => e = .returned (.bool true) ∧ Below W.heap.size W w' := by
  go_enter Try.func6, Try.ntmps6
  go_wp2_with (go_at_call 15; refine (lAlive _).mono ?_; rintro e w1 ⟨rfl, hb1⟩)
  obtain ⟨⟨k0, k1, k2, k3, k4, k5⟩, hb⟩ := box_cells hb1
  clear hb1
  go_quiet (fail)
  clear k0 k1 k2 k3 k4 k5
  replace hb := below_drewN hb nq
  generalize w1.drewN nq = w2 at *
  go_wp2_with (first | (go_at_call 9; refine (fCross _ _ _ _ _).mono ?_; rintro e w1 ⟨rfl, hb1⟩; replace hb := hb.trans (hb1.mono hb.size); clear hb1) | (go_at_call 17; refine (lCross _ _ _ _ _ _).mono ?_; rintro e w1 ⟨rfl, hb1⟩; replace hb := hb.trans (hb1.mono hb.size); clear hb1))
  go_ret
  exact ⟨rfl, hb⟩

set_option maxRecDepth 100000 in
set_option maxHeartbeats 1000000 in
theorem lateE3 (a b c d x y : Int) (W : World) (e1 : (Fr.crossE a b c d != 0) = false) (f1 : (Fr.crossE a b c d == 0) = true) (e2 : (Fr.crossE c d x y != 0) = false) (e3 : (Fr.crossE a b x y != 0) = false) (p1 : 0 < b) (p2 : 0 < d) (p3 : 0 < y) (r1 : -1 ≤ Fr.crossV a b c d) (r2 : Fr.crossV a b c d ≤ 1) (c1 : Fr.crossIs c d a b (-Fr.crossV a b c d) = true) (c2 : Fr.crossIs a b a b 0 = true) (o1 : Fr.crossV a b c d ≤ 0) (q1 : 0 ≤ Fr.crossV a b c d) (o2 : Fr.crossV c d x y < 0) (o3 : Fr.crossV a b x y < 0) (g1 : -16777216 ≤ a) (g2 : a ≤ 16777216) (g3 : 16777216 < b) :
    Calls Try.prog 6 #[.agg #[.int .i64 a, .int .i64 b, .int .i64 c, .int .i64 d, .int .i64 x, .int .i64 y]] W fun e w' => e = .returned (.bool true) ∧ Below W.heap.size W w' := by
  go_enter Try.func6, Try.ntmps6
  go_wp2_with (go_at_call 15; refine (lAlive _).mono ?_; rintro e w1 ⟨rfl, hb1⟩)
  obtain ⟨⟨k0, k1, k2, k3, k4, k5⟩, hb⟩ := box_cells hb1
  clear hb1
  go_quiet (fail)
  clear k0 k1 k2 k3 k4 k5
  replace hb := below_drewN hb nq
  generalize w1.drewN nq = w2 at *
  go_wp2_with (first | (go_at_call 9; refine (fCross _ _ _ _ _).mono ?_; rintro e w1 ⟨rfl, hb1⟩; replace hb := hb.trans (hb1.mono hb.size); clear hb1) | (go_at_call 17; refine (lCross _ _ _ _ _ _).mono ?_; rintro e w1 ⟨rfl, hb1⟩; replace hb := hb.trans (hb1.mono hb.size); clear hb1))
  go_ret
  exact ⟨rfl, hb⟩

set_option maxRecDepth 100000 in
set_option maxHeartbeats 1000000 in
theorem lateE4 (a b c d x y : Int) (W : World) (e1 : (Fr.crossE a b c d != 0) = false) (f1 : (Fr.crossE a b c d == 0) = true) (e2 : (Fr.crossE c d x y != 0) = false) (e3 : (Fr.crossE a b x y != 0) = false) (p1 : 0 < b) (p2 : 0 < d) (p3 : 0 < y) (r1 : -1 ≤ Fr.crossV a b c d) (r2 : Fr.crossV a b c d ≤ 1) (c1 : Fr.crossIs c d a b (-Fr.crossV a b c d) = true) (c2 : Fr.crossIs a b a b 0 = true) (o1 : Fr.crossV a b c d ≤ 0) (q1 : 0 ≤ Fr.crossV a b c d) (o2 : Fr.crossV c d x y < 0) (o3 : Fr.crossV a b x y < 0) (g1 : -16777216 ≤ a) (g2 : a ≤ 16777216) (g3 : b ≤ 16777216) (c3 : Fr.crossIs (2 * a) (2 * b) a b 0 = true) :
    Calls Try.prog 6 #[.agg #[.int .i64 a, .int .i64 b, .int .i64 c, .int .i64 d, .int .i64 x, .int .i64 y]] W fun e w' => e = .returned (.bool true) ∧ Below W.heap.size W w' := by
  go_enter Try.func6, Try.ntmps6
  go_wp2_with (go_at_call 15; refine (lAlive _).mono ?_; rintro e w1 ⟨rfl, hb1⟩)
  obtain ⟨⟨k0, k1, k2, k3, k4, k5⟩, hb⟩ := box_cells hb1
  clear hb1
  go_quiet (fail)
  clear k0 k1 k2 k3 k4 k5
  replace hb := below_drewN hb nq
  generalize w1.drewN nq = w2 at *
  go_wp2_with (first | (go_at_call 9; refine (fCross _ _ _ _ _).mono ?_; rintro e w1 ⟨rfl, hb1⟩; replace hb := hb.trans (hb1.mono hb.size); clear hb1) | (go_at_call 17; refine (lCross _ _ _ _ _ _).mono ?_; rintro e w1 ⟨rfl, hb1⟩; replace hb := hb.trans (hb1.mono hb.size); clear hb1))
  go_ret
  exact ⟨rfl, hb⟩

end Go.Proofs.Ytblcobhjofoikaa.fracOrder
