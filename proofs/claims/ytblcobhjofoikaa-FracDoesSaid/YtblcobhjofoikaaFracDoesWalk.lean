/- The walk of the law FracDoes: frac's Add, Mul, Up, Down and Power answer what the document's own do. -/
import Derived.Test.YtblcobhjofoikaaFracD
namespace Go.Proofs.Ytblcobhjofoikaa.fracDoes
open Go.RowKit

set_option maxHeartbeats 1000000 in
theorem walk (a b : Int) (W : World) (a1 : -9223372036854775808 ≤ a) (a2 : a ≤ 9223372036854775807) (b1 : -9223372036854775808 ≤ b) (b2 : b ≤ 9223372036854775807) :
    Calls Try.prog 5 #[.int .i64 a, .int .i64 b] W fun e w' => e = .returned (.bool true) ∧ Below W.heap.size W w' := by
  go_enter Try.func5, Try.ntmps5
  go_wp2_with (first | (go_at_call 12; refine (fAdd _ _ _ a1 a2 b1 b2).mono ?_; rintro e w1 ⟨rfl, rfl⟩) | (go_at_call 20; refine (rAdd _ _ _ a1 a2 b1 b2).mono ?_; rintro e w1 ⟨rfl, rfl⟩) | (go_at_call 11; refine (fMul _ _ _ a1 a2 b1 b2).mono ?_; rintro e w1 ⟨rfl, rfl⟩) | (go_at_call 21; refine (rMul _ _ _ a1 a2 b1 b2).mono ?_; rintro e w1 ⟨rfl, rfl⟩) | (go_at_call 14; refine (fUp _ _ a2).mono ?_; rintro e w1 ⟨rfl, rfl⟩) | (go_at_call 22; refine (rUp _ _ a2).mono ?_; rintro e w1 ⟨rfl, rfl⟩) | (go_at_call 13; refine (fDown _ _ a2).mono ?_; rintro e w1 ⟨rfl, rfl⟩) | (go_at_call 23; refine (rDown _ _ a2).mono ?_; rintro e w1 ⟨rfl, rfl⟩) | (go_at_call 16; refine (fPower _ _ a2).mono ?_; rintro e w1 ⟨rfl, rfl⟩) | (go_at_call 24; refine (rPower _ _ a2).mono ?_; rintro e w1 ⟨rfl, rfl⟩))
  go_ret
  exact ⟨rfl, Below.refl _ _⟩
end Go.Proofs.Ytblcobhjofoikaa.fracDoes
