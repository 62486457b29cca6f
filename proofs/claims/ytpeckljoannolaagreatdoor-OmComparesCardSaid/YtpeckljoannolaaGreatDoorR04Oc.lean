/- What the document's own answers of layer 4 return that make and move. -/
import Derived.Test.YtpeckljoannolaaGreatDoorM04Oc
import Derived.Deep.DeepCutAuto
import Derived.Test.YtpeckljoannolaaGreatDoorTkOc
set_option linter.unusedVariables false
set_option linter.unusedSimpArgs false
namespace Go.Proofs.YtpeckljoannolaaGreatDoor
open Go.RowKit
theorem empty_made (sg m:Nat):Sl.empty sg m=slMade sg ((m+63)/64) m (m/sg):=by
 unfold Sl.empty slMade
 have h1:(((m:Int)+63)/64).toNat=(m+63)/64:=by omega
 have h2:((m:Int)/(sg:Int)).toNat=m/sg:=by rw [show (m:Int)/(sg:Int)=((m/sg:Nat):Int) from by simp];exact Int.toNat_natCast _
 rw [h1,h2,Int.toNat_natCast]
theorem clearS_no {s:Sl} {i:Int} (h:s.atE i≠0):s.clearS i=Sl.none:=by unfold Sl.clearS;rw [if_neg h]
theorem at_parts {s:Sl} {i:Int} (h:s.atE i=0):s.mayB=true/\0<=i/\i < s.keys.length/\Oc.isB s.words i.toNat=true:=by
 unfold Sl.atE at h
 split at h
 ·rename_i h1
  split at h
  ·rename_i h2
   split at h
   ·rename_i h3
    exact⟨h1,(slot_iff.1 h2).1,(slot_iff.1 h2).2,h3⟩
   ·cases h
  ·cases h
 ·cases h
theorem wiped_keys (s:Sl) (a n:Nat):(s.wiped a n).keys.length=s.keys.length:=by
 induction n with
 | zero=>rfl
 | succ n ih=>show ((s.wiped a n).emptied (a+n)).keys.length=_;rw [emptied_keys,ih]
theorem wiped_fit {s:Sl} {B:Int} (h:s.Fit B) (a n:Nat) (hB:B+n<=1000000000):(s.wiped a n).Fit (B+n):=by
 induction n with
 | zero=>simpa [Sl.wiped] using h
 | succ n ih =>
  have:=(ih (by omega)).emptied (by omega) (a+n);rw [show B+((n+1:Nat):Int)=B+(n:Int)+1 from by omega];exact this
theorem laidIn_keys (s:Sl) (l:List Int) (ps:List (Int×Int)) (n:Nat):(s.laidIn l ps n).keys.length=s.keys.length:=by
 induction n with
 | zero=>rfl
 | succ n ih=>show ((s.laidIn l ps n).filledAt _ _).keys.length=_;rw [filledAt_keys,ih]
theorem laidIn_fit {s:Sl} {B:Int} (h:s.Fit B) (l:List Int) (ps:List (Int×Int)) (n:Nat) (hB:B+n<=1000000000) (h64:∀ k,In64 (ps.getD k (0,0)).1/\In64 (ps.getD k (0,0)).2):(s.laidIn l ps n).Fit (B+n):=by
 induction n with
 | zero=>simpa [Sl.laidIn] using h
 | succ n ih =>
  have:=(ih (by omega)).filledAt (by omega) (l.getD n 0).toNat (h64 n).1 (h64 n).2;rw [show B+((n+1:Nat):Int)=B+(n:Int)+1 from by omega];exact this
def POwn2 (ps:List (Int×Int)) (er:Int) (w:World) (e:Ending) (w':World):Prop :=
 ∃ v,e=.returned (.tuple #[v,.int .i64 er])/\w'.ownsRow w.heap.size 93 2 v ps.length (pcells ps)/\Below w.heap.size w w'
theorem part_iff {n a b:Int}:Sl.partB n a b=true↔0<=a/\a<=b/\b<=n:=by unfold Sl.partB;simp;omega
end Go.Proofs.YtpeckljoannolaaGreatDoor
