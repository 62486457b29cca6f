/- What Pairs and Fill of the document's own answers return. -/
import Derived.Test.YthaaapfnheocjaaGreatDoorM06Gc
import Derived.Test.YthaaapfnheocjaaGreatDoorM05Gc
import Derived.Test.YthaaapfnheocjaaGreatDoorTkGc
set_option linter.unusedVariables false
set_option linter.unusedSimpArgs false
namespace Go.Proofs.YthaaapfnheocjaaGreatDoor
open Go.RowKit
theorem wiped_keys (s:Sl) (a n:Nat):(s.wiped a n).keys.length=s.keys.length:=by
 induction n with
 | zero=>rfl
 | succ n ih=>show ((s.wiped a n).emptied (a+n)).keys.length=_;rw [emptied_keys,ih]
theorem wiped_fit {s:Sl} {B:Int} (h:s.Fit B) (a n:Nat) (hB:B+n<=1000000000):(s.wiped a n).Fit (B+n):=by
 induction n with
 | zero=>simpa [Sl.wiped] using h
 | succ n ih =>
  have:=(ih (by omega)).emptied (by omega) (a+n);rw [show B+((n+1:Nat):Int)=B+(n:Int)+1 from by omega];exact this
theorem laidIn_keys (s:Sl) (l:List Int) (ps:List (Int×Int)) (n:Nat):(s.laidIn l ps n).keys.length=s.keys.length:=by
 induction n with
 | zero=>rfl
 | succ n ih=>show ((s.laidIn l ps n).filledAt _ _).keys.length=_;rw [filledAt_keys,ih]
theorem laidIn_fit {s:Sl} {B:Int} (h:s.Fit B) (l:List Int) (ps:List (Int×Int)) (n:Nat) (hB:B+n<=1000000000) (h64:∀ k,In64 (ps.getD k (0,0)).1/\In64 (ps.getD k (0,0)).2):(s.laidIn l ps n).Fit (B+n):=by
 induction n with
 | zero=>simpa [Sl.laidIn] using h
 | succ n ih =>
  have:=(ih (by omega)).filledAt (by omega) (l.getD n 0).toNat (h64 n).1 (h64 n).2;rw [show B+((n+1:Nat):Int)=B+(n:Int)+1 from by omega];exact this
def POwn2 (ps:List (Int×Int)) (er:Int) (w:World) (e:Ending) (w':World):Prop :=
 ∃ v,e=.returned (.tuple #[v,.int .i64 er])/\w'.ownsRow w.heap.size 36 2 v ps.length (pcells ps)/\Below w.heap.size w w'
theorem part_iff {n a b:Int}:Sl.partB n a b=true↔0<=a/\a<=b/\b<=n:=by unfold Sl.partB;simp;omega
end Go.Proofs.YthaaapfnheocjaaGreatDoor
