/- What the document's own answers of layer 1 on lists of numbers return: SameInts, Rises; rows of numbers of one's own. They only read. -/
import Derived.Test.YtfdpkmafemidjaaDoorM02Sp
import Derived.Test.YtfdpkmafemidjaaDoorM01Sp
import Derived.BigQuiet
import Derived.LoopTactic
import Derived.Test.YtfdpkmafemidjaaDoorTkSp
set_option linter.unusedVariables false
set_option linter.unusedSimpArgs false
set_option maxHeartbeats 400000
namespace Go.Proofs.YtfdpkmafemidjaaDoor
open Go.RowKit
theorem elemI:Elem Tryd.prog 24 3 (.int .i64 0) 1 8 :=
 ⟨Tryd.underlying24,info_parts (show (Tryd.prog.info? 3).map (fun i=>(i.zero,i.size,i.bytes))=some (some (.int .i64 0),1,8) by kernel_rfl),rfl,by decide⟩
theorem take_sameI (xs ys:List Int) (k:Nat) (h1:k < xs.length) (h2:k < ys.length) (h:xs.take k=ys.take k) (he:xs.getD k 0=ys.getD k 0):xs.take (k+1)=ys.take (k+1):=by
 rw [List.take_succ_eq_append_getElem h1,List.take_succ_eq_append_getElem h2,h]
 simp only [List.getD,List.getElem?_eq_getElem h1,List.getElem?_eq_getElem h2,Option.getD_some] at he
 rw [he]
theorem not_sameI (xs ys:List Int) (k:Nat) (he:¬ xs.getD k 0=ys.getD k 0):(xs==ys)=false:=by
 rw [beq_eq_false_iff_ne];rintro rfl;exact he rfl
def SameIJ (xs ys:List Int) (w:World) (i:Value) (wr:World):Prop:=∃ k q:Nat,k<=xs.length/\i=.int .i64 k/\wr=w.drewN q/\xs.take k=ys.take k
theorem rSameInts (a b:Option Addr) (ca cb:Nat) (xs ys:List Int) (w:World) (ha:Lst .i64 w a xs) (hb:Lst .i64 w b ys) (hn:xs.length<=2147483647) (hm:ys.length<=2147483647) :
  Calls Tryd.prog 45 #[.slice a xs.length ca,.slice b ys.length cb] w fun e w'=>e=.returned (.bool (xs==ys))/\Below w.heap.size w w':=by
 have HA:=aq ha;have HB:=aq hb;clear ha hb
 by_cases hne:xs.length=ys.length
 ·have k1:((xs.length:Int) != ys.length)=false:=by simp;omega
  have HNE:=aq hne;clear hne
  go_enter Tryd.func45,Tryd.ntmps45
  go_wp2
  go_loopw [5] (SameIJ xs ys w) (fun i _=>xs.length-(intOf i).toNat)
  case atStart=>exact⟨0,0,Nat.zero_le _,rfl,rfl,rfl⟩
  case round =>
   obtain⟨k,q,hk,rfl,rfl,ht⟩:=hrel;have HT:=aq ht;clear ht
   by_cases hlt:k < xs.length
   ·have hltb:k < ys.length:=by have:=HNE.out;omega
    obtain⟨b1,o1,rfl,_,c1⟩:=HA.out.cell hlt;obtain⟨b2,o2,rfl,_,c2⟩:=HB.out.cell hltb;obtain⟨x,hx⟩:∃ x,xs.getD k 0=x:=⟨_,rfl⟩;obtain⟨y,hy⟩:∃ y,ys.getD k 0=y:=⟨_,rfl⟩;rw [hx] at c1;rw [hy] at c2;have HX:=aq hx;have HY:=aq hy;clear hx hy
    by_cases he:x=y
    ·have k2:(x != y)=false:=by simp [he]
     have HE:=aq he;clear he;go_wp2
     go_quiet (fail)
     go_wp2
     go_roundw
     case rel=>exact⟨k+1,_,by omega,by go_num,rfl,take_sameI xs ys k hlt hltb HT.out (by rw [HX.out,HY.out,HE.out])⟩
     case measure=>simp [intOf];omega
    ·have k2:(x != y)=true:=by simp;omega
     have HE:=aq he;clear he;go_wp2
     go_quiet (fail)
     go_wp2;go_ret;rw [not_sameI xs ys k (by rw [HX.out,HY.out];exact HE.out)];exact⟨rfl,below_drewN (below_drewN (Below.refl _ _) _) _⟩
   ·go_wp2
    go_ret
    have e:xs=ys:=by
     have:=HT.out
     rwa [List.take_of_length_le (by omega),List.take_of_length_le (by have:=HNE.out;omega)] at this
    rw [e];exact⟨by simp,below_drewN (Below.refl _ _) _⟩
 ·have k1:((xs.length:Int) != ys.length)=true:=by simp;omega
  have H:=aq (show (xs==ys)=false by rw [beq_eq_false_iff_ne];rintro rfl;exact hne rfl);clear hne
  go_enter Tryd.func45,Tryd.ntmps45
  go_wp2;go_ret;rw [H.out];exact⟨rfl,Below.refl _ _⟩
def risesB (zs:List Int):Bool:=(List.range (zs.length-1)).all fun i=>decide (zs.getD i 0 < zs.getD (i+1) 0)
end Go.Proofs.YtfdpkmafemidjaaDoor
