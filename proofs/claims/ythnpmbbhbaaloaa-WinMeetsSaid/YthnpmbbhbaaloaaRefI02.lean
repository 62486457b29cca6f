/- What the document's own answers of layer 2 (package shelfmarkref02) return: bit, Is, May. They only read. -/
import Derived.Test.YthnpmbbhbaaloaaProg
import Derived.Test.YthnpmbbhbaaloaaFn02
import Derived.Test.YthnpmbbhbaaloaaMem
namespace Go.Proofs.Ythnpmbbhbaaloaa
open Go.RowKit
set_option linter.unusedVariables false

theorem shr_cast (x j : Nat) : (x : Int) / 2 ^ j = ((x / 2 ^ j : Nat) : Int) := by
  rw [Int.natCast_ediv, Int.natCast_pow]; rfl
theorem shr_bit (x j : Nat) : ((((x : Int) / 2 ^ j).tmod 2 == 1)) = x.testBit j := by
  rw [shr_cast, Int.tmod_eq_emod_of_nonneg (Int.natCast_nonneg _), Nat.testBit_eq_decide_div_mod_eq, Bool.eq_iff_iff, beq_iff_eq, decide_eq_true_eq]
  omega

/-- May's loop: no slot from n on, ahead of k, is occupied. -/
def MayJ (ws : List Nat) (n : Nat) (i : Value) : Prop := ∃ k : Nat, n ≤ k ∧ i = .int .i64 k ∧ k ≤ 64 * ws.length + n ∧ Oc.places ws n k = []

end Go.Proofs.Ythnpmbbhbaaloaa
