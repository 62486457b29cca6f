/- Plain facts for the law GapNames: the chapter's examples. -/
import Derived.Test.YthaaapfnheocjaaGreatDoorLaw09Gc
import Derived.Test.YthaaapfnheocjaaGreatDoorTkGc
set_option linter.unusedVariables false
set_option linter.unusedSimpArgs false
set_option maxRecDepth 100000
namespace Go.Proofs.YthaaapfnheocjaaGreatDoor.gapNames
open Go.RowKit
def eight:List (Int×Int):=(List.range 8).map fun i:Nat=>((i:Int),0)
def S:Sl:=Gp.newS ch9
def X:Sl:=Gp.loadS ch9 S eight
def Y:Sl:=Gp.takeS ch9 X 7
def Y1:Sl:={ Y with counts:=Y.counts.set 0 1 }
def noC:Cf:={ tag:=0,most:=0,seg:=0,least:=0,den:=0,ll:=0,rl:=0,rh:=0,lh:=0 }
theorem errs:ch9.chkE=0/\Gp.loadE ch9 S eight.length=0/\Gp.loadE ch9 S 9=9/\Gp.putE ch9 X 8=9/\Gp.putE ch9 S 1=2/\Gp.takeE ch9 S 0=2/\Gp.takeE ch9 X 7=0/\noC.chkE=50:=by decide +kernel
theorem vals:X.keys.length=16/\Y.keys.length=16/\X.laid=8/\X.keys=[0,0,1,0,2,0,3,0,4,0,5,0,6,0,7,0]/\Y.keys=[0,0,1,0,2,0,3,0,4,0,5,0,6,0,0,0]/\Y.counts.length=4/\Gp.chkE ch9 Y1=8/\Gp.chkE ch9 Sl.none=8:=by decide +kernel
end Go.Proofs.YthaaapfnheocjaaGreatDoor.gapNames
