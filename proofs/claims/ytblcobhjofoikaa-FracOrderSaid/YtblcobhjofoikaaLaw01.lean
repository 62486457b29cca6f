/- What the helpers of the laws of layer 1 (package shelfmarklaw01) return: cross, alive. -/
import Derived.Test.YtblcobhjofoikaaFracD
namespace Go.Proofs.Ytblcobhjofoikaa
open Go.RowKit

def Fr.crossIs (a b c d want : Int) : Bool := Fr.crossE a b c d == 0 && Fr.crossV a b c d == want

set_option maxHeartbeats 400000 in
theorem lCross (a b c d want : Int) (w : World) : Calls Try.prog 17 #[.int .i64 a, .int .i64 b, .int .i64 c, .int .i64 d, .int .i64 want] w fun e w' => e = .returned (.bool (Fr.crossIs a b c d want)) ∧ Below w.heap.size w w' := by
  have H := Lib.hid (show Fr.crossIs a b c d want = (Fr.crossE a b c d == 0 && Fr.crossV a b c d == want) from rfl)
  cases h1 : (Fr.crossE a b c d == 0)
  · go_enter Try.func17, Try.ntmps17
    go_wp2_with (go_at_call 9; refine (fCross _ _ _ _ _).mono ?_; rintro e w1 ⟨rfl, hb1⟩)
    go_ret
    rw [H.out, h1]
    exact ⟨rfl, hb1⟩
  · go_enter Try.func17, Try.ntmps17
    go_wp2_with (go_at_call 9; refine (fCross _ _ _ _ _).mono ?_; rintro e w1 ⟨rfl, hb1⟩)
    go_ret
    rw [H.out, h1]
    exact ⟨rfl, hb1⟩

set_option maxHeartbeats 400000 in
theorem lAlive (w : World) : Calls Try.prog 15 #[] w fun e w' => e = .returned (.bool true) ∧ Below w.heap.size w w' := by
  have hb : Below w.heap.size w w := Below.refl _ _
  have c1 : Fr.crossIs 1 2 2 3 (-1) = true := by decide
  have c2 : Fr.crossIs 2 4 1 2 0 = true := by decide
  have c3 : Fr.crossIs 3 4 2 3 1 = true := by decide
  have c4 : Fr.upV 5 = 3 := by decide
  have c5 : Fr.downE 5 = 0 := by decide
  have c6 : Fr.powB 8 = true := by decide
  go_enter Try.func15, Try.ntmps15
  go_wp2_with (first | (go_at_call 17; refine (lCross _ _ _ _ _ _).mono ?_; rintro e w1 ⟨rfl, hb1⟩; replace hb := hb.trans (hb1.mono hb.size); clear hb1) | (go_at_call 14; refine (fUp _ _ (by omega)).mono ?_; rintro e w1 ⟨rfl, rfl⟩) | (go_at_call 16; refine (fPower _ _ (by omega)).mono ?_; rintro e w1 ⟨rfl, rfl⟩))
  go_ret
  exact ⟨rfl, hb⟩
end Go.Proofs.Ytblcobhjofoikaa
