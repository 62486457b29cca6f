/- What Pairs and Fill of the document's own answers return. -/
import Derived.Test.YthaaapfnheocjaaDoorM06Sq
import Derived.Test.YthaaapfnheocjaaDoorM05Sq
namespace Go.Proofs.YthaaapfnheocjaaDoor
open Go.RowKit
set_option linter.unusedVariables false
set_option linter.unusedSimpArgs false

def POwn2 (ps : List (Int × Int)) (er : Int) (w : World) (e : Ending) (w' : World) : Prop :=
  ∃ v, e = .returned (.tuple #[v, .int .i64 er]) ∧ w'.ownsRow w.heap.size 35 2 v ps.length (pcells ps) ∧ Below w.heap.size w w'
theorem part_iff {n a b : Int} : Sl.partB n a b = true ↔ 0 ≤ a ∧ a ≤ b ∧ b ≤ n := by unfold Sl.partB; simp; omega
end Go.Proofs.YthaaapfnheocjaaDoor
