/- The listed variable: where math/bits.deBruijn64tab reads as the rows list it, each of its cells is the table's. -/
import Derived.Test.YtfdpkmafemidjaaDoorRows
import Derived.Test.YtfdpkmafemidjaaDoorM09Sp
import Derived.ProofKit
import Derived.LaidMore
import Derived.OpenShut
import Derived.Stop.Joined
import Derived.Test.YtfdpkmafemidjaaDoorTkSp
set_option linter.unusedVariables false
set_option linter.unusedSimpArgs false
namespace Go.Proofs.YtfdpkmafemidjaaDoor
open Go.ChangeShapes Go.WideShapes Go.ChangeAt Go.WideMaps Go.WideElems Go.RowKit
def laidTab:List (String×DataW Unit):=[(Rows.spanTellsRow.named.headD default,Rows.laid_math_bits_deBruijn64tab)]
theorem gTab:Tryd.prog.globalNamed (Rows.spanTellsRow.named.headD default)=some 0:=by kernel_rfl
theorem tTab:(Tryd.prog.globals[0]?).map (·.type)=some 112:=by kernel_rfl
theorem c5:Tryd.prog.cellsOf 5=1:=by kernel_rfl
theorem door_met (os:Os) (args:Array Value):laidMetH Tryd.prog laidTab ((World.doorLaid Tryd.prog 400 os).forCall (fun _ _=>0) ⟨#[],args,[]⟩).memory :=
 laidMetH_of_parts3 (fuel:=8) (laidMet_of_run' 8 (by kernel_rfl) (by kernel_rfl)) (by kernel_rfl) (by kernel_rfl)
theorem datum_at:∀ j,j < 64->(Rows.laid_math_bits_deBruijn64tab:DataW Unit)=.agg (Lib.deBruijn64tab.map fun x:Nat=>.lit (.int .u8 (x:Int))):=by intro j _;rfl
theorem tab_of_laid {W:World} (h:laidMetH Tryd.prog laidTab W):Tab W:=by
 rw [MakeChecks.laidMetH_plain _ _ _ (by kernel_rfl)] at h;obtain⟨ps,⟨g0,t0,cs0,f0,p0,q0,hg0,ht0,hv0,hd0,_,_⟩,_,_⟩:=h;obtain rfl:=Option.some.inj (gTab.symm.trans hg0);obtain rfl:=Option.some.inj (tTab.symm.trans ht0);obtain⟨xs,m1,_,hx1,hlen,hn,hel⟩:=DataW.trod_array Tryd.underlying112 hd0
 simp only [Prod.mk.injEq] at hx1
 have hcell:∀ j,j < 64->W.cell? ⟨0,j,none⟩=some (.int .u8 (Lib.deBruijn64tab.getD j 0)):=by
  intro j hj;have h1:=hel j hj;rw [List.getElem?_eq_getElem (by omega)] at h1;obtain⟨z,hz,hxz,_⟩:=DataW.trod_int Tryd.underlying5 h1;rw [c5,Nat.mul_one] at hz
  have hcj:cs0[j]?=some (.int .u8 z):=by
   have h2:(cs0.toList.drop j)[0]?=some (.int .u8 z):=by
    have h3:=congrArg (fun l=>l[0]?) hz
    simpa [List.getElem?_take] using h3
   simpa using h2
  rw [World.var?_cell hg0 hv0 j,hcj];have hd:=hx1.1;rw [datum_at 0 (by decide)] at hd
  injection hd with hd
  have h4:=congrArg (fun l=>l[j]?) hd
  simp only [List.getElem?_map] at h4
  rw [List.getElem?_eq_getElem (show j < xs.length by omega)] at h4
  have hjt:j < Lib.deBruijn64tab.length:=by simpa [Lib.deBruijn64tab] using hj
  rw [List.getElem?_eq_getElem hjt,hxz] at h4
  simp only [Option.map_some,Option.some.injEq,DataW.lit.injEq,Lit.int.injEq,true_and] at h4
  rw [List.getD_eq_getElem?_getD,List.getElem?_eq_getElem hjt,Option.getD_some,h4]
 refine⟨?_,fun j hj=>hcell j (by simpa [Lib.deBruijn64tab] using hj)⟩;have:=hcell 0 (by decide)
 apply Nat.lt_of_not_le
 intro hle
 simp only [World.cell?] at this
 rw [Array.getElem?_eq_none hle] at this
 simp at this
end Go.Proofs.YtfdpkmafemidjaaDoor
