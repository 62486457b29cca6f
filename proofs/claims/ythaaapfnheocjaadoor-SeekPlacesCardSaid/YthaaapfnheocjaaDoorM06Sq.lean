/- What New of the document's own answers returns. -/
import Derived.Test.YthaaapfnheocjaaDoorM04Sq
import Derived.Deep.DeepCutAuto
namespace Go.Proofs.YthaaapfnheocjaaDoor
open Go.RowKit
set_option linter.unusedVariables false
set_option linter.unusedSimpArgs false

theorem empty_made (sg m : Nat) : Sl.empty sg m = slMade sg ((m + 63) / 64) m (m / sg) := by
  unfold Sl.empty slMade
  have h1 : (((m : Int) + 63) / 64).toNat = (m + 63) / 64 := by omega
  have h2 : ((m : Int) / (sg : Int)).toNat = m / sg := by rw [show (m : Int) / (sg : Int) = ((m / sg : Nat) : Int) from by simp]; exact Int.toNat_natCast _
  rw [h1, h2, Int.toNat_natCast]
def RiseJ (l : List Int) (w : World) (i : Value) (wr : World) : Prop := ∃ k q : Nat, k + 1 ≤ l.length ∧ i = .int .i64 ((k : Int) + 1) ∧ wr = w.drewN q ∧ (List.range k).all (fun i => decide (l.getD i 0 < l.getD (i + 1) 0)) = true
end Go.Proofs.YthaaapfnheocjaaDoor
