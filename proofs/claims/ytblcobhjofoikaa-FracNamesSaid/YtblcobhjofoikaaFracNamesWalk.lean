/- The walk of the law FracNames: the errors' numbers, and the examples. -/
import Derived.Test.YtblcobhjofoikaaLaw01
namespace Go.Proofs.Ytblcobhjofoikaa.fracNames
open Go.RowKit

set_option maxRecDepth 100000 in
set_option maxHeartbeats 1000000 in
theorem walk (W : World) :
    Calls Try.prog 3 #[] W fun e w' => e = .returned (.bool true) ∧ Below W.heap.size W w' := by
  have hb : Below W.heap.size W W := Below.refl _ _
  have c1 : Fr.crossE 67108864 1 1 1 = 10 := by decide
  have c2 : Fr.crossE 1 1 1 (-67108864) = 10 := by decide
  have c3 : Fr.betE 10 20 1 4 = 0 := by decide
  have c4 : Fr.betV 10 20 1 4 = 50 := by decide
  have c5 : Fr.betE 1 1 5 4 = 2 := by decide
  have c6 : Fr.betE 1 1 0 0 = 2 := by decide
  have c7 : Fr.betE 67108864 1 0 1 = 10 := by decide
  have c8 : Fr.mulE (-1) (-9223372036854775808) = 10 := by decide
  have c9 : Fr.mulE (-4611686018427387904) 2 = 0 := by decide
  have d1 : Fr.mulV (-4611686018427387904) 2 = -9223372036854775808 := by decide
  have d2 : Fr.addE (-9223372036854775808) (-1) = 10 := by decide
  have d3 : Fr.downE 5 = 0 := by decide
  have d4 : Fr.downV 5 = 2 := by decide
  have d5 : Fr.downE 0 = 2 := by decide
  have d6 : Fr.powB 0 = false := by decide
  have d7 : Fr.powB 6 = false := by decide
  have d8 : Fr.powB 1 = true := by decide
  have d9 : Fr.crossIs 67108863 67108863 67108862 67108862 0 = true := by decide
  go_enter Try.func3, Try.ntmps3
  go_wp2_with (first | (go_at_call 9; refine (fCross _ _ _ _ _).mono ?_; rintro e w1 ⟨rfl, hb1⟩; replace hb := hb.trans (hb1.mono hb.size); clear hb1) | (go_at_call 10; refine (fBetween _ _ _ _ _).mono ?_; rintro e w1 ⟨rfl, hb1⟩; replace hb := hb.trans (hb1.mono hb.size); clear hb1) | (go_at_call 11; refine (fMul _ _ _ (by omega) (by omega) (by omega) (by omega)).mono ?_; rintro e w1 ⟨rfl, rfl⟩) | (go_at_call 12; refine (fAdd _ _ _ (by omega) (by omega) (by omega) (by omega)).mono ?_; rintro e w1 ⟨rfl, rfl⟩) | (go_at_call 14; refine (fUp _ _ (by omega)).mono ?_; rintro e w1 ⟨rfl, rfl⟩) | (go_at_call 13; refine (fDown _ _ (by omega)).mono ?_; rintro e w1 ⟨rfl, rfl⟩) | (go_at_call 16; refine (fPower _ _ (by omega)).mono ?_; rintro e w1 ⟨rfl, rfl⟩) | (go_at_call 15; refine (lAlive _).mono ?_; rintro e w1 ⟨rfl, hb1⟩; replace hb := hb.trans (hb1.mono hb.size); clear hb1) | (go_at_call 17; refine (lCross _ _ _ _ _ _).mono ?_; rintro e w1 ⟨rfl, hb1⟩; replace hb := hb.trans (hb1.mono hb.size); clear hb1))
  go_ret
  exact ⟨rfl, hb⟩
end Go.Proofs.Ytblcobhjofoikaa.fracNames
