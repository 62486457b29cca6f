/- What the document's own answers of layer 10 (package shelfmarkref10) return: Below, Rising, Check, Rank. They only read. -/
import Derived.Test.YtfdpkmafemidjaaDoorPlain10Sp
import Derived.Test.YtfdpkmafemidjaaDoorM04Sp
import Derived.Test.YtfdpkmafemidjaaDoorM03Sp
import Derived.Test.YtfdpkmafemidjaaDoorTkSp
set_option linter.unusedVariables false
set_option linter.unusedSimpArgs false
set_option maxHeartbeats 1000000
set_option maxRecDepth 100000
namespace Go.Proofs.YtfdpkmafemidjaaDoor
open Go.RowKit
namespace Sk
def RisesTo (ps:List (Int×Int)) (k:Nat):Prop:=∀ i j:Nat,i < j->j < k->(ps.getD i (0,0)).1 < (ps.getD j (0,0)).1
theorem rises_one (ps:List (Int×Int)):RisesTo ps 1:=fun i j h1 h2=>by omega
theorem RisesTo.next {ps:List (Int×Int)} {k:Nat} (h:RisesTo ps (k+1)) (hk:(ps.getD k (0,0)).1 < (ps.getD (k+1) (0,0)).1):RisesTo ps (k+1+1):=fun i j h1 h2=>by
 by_cases e:j < k+1
 ·exact h i j h1 e
 ·obtain rfl:j=k+1:=by omega
  by_cases e2:i=k
  ·subst e2;exact hk
  ·have:=h i k (by omega) (by omega);omega
def risesP (ps:List (Int×Int)):Bool:=decide ((ps.map fun p=>p.1).Pairwise (· < ·))
theorem rises_iff10 (ps:List (Int×Int)):(ps.map fun p=>p.1).Pairwise (· < ·)↔RisesTo ps ps.length:=by
 rw [List.pairwise_iff_getElem]
 constructor
 ·intro h i j h1 h2
  have:=h i j (by simp;omega) (by simp;omega) h1
  simpa [List.getD,List.getElem?_eq_getElem h2,List.getElem?_eq_getElem (show i < ps.length by omega)] using this
 ·intro h i j hi hj h1
  simp only [List.length_map] at hi hj
  have:=h i j h1 hj
  simpa [List.getD,List.getElem?_eq_getElem hi,List.getElem?_eq_getElem hj] using this
theorem risesP_yes {ps:List (Int×Int)} {k:Nat} (h:RisesTo ps k) (hk:ps.length<=k):risesP ps=true:=by
 unfold risesP;rw [decide_eq_true_eq,rises_iff10];exact fun i j h1 h2=>h i j h1 (by omega)
theorem risesP_no {ps:List (Int×Int)} {k:Nat} (h2:k+1 < ps.length) (hk:(ps.getD (k+1) (0,0)).1<=(ps.getD k (0,0)).1):risesP ps=false:=by
 unfold risesP;rw [decide_eq_false_iff_not,rises_iff10];intro h;have:=h k (k+1) (by omega) h2
 omega
theorem risesP_of (s:Sl):risesP (s.of 0 s.keys.length)=risesB s:=by
 unfold risesP risesB ks Sl.of all;rw [List.map_map]
 rfl
end Sk
def RisingJ (ps:List (Int×Int)) (w:World) (r i:Value) (wr:World):Prop:=∃ j:Nat,(j+1<=ps.length∨j=0)/\i=.int .i64 ((j:Int)+1)/\Sk.RisesTo ps (j+1)/\Below w.heap.size w wr
theorem r10Rising (a:Option Addr) (c:Nat) (ps:List (Int×Int)) (w:World) (hp:PLst w a ps) (hn:ps.length<=65536) :
  Calls Tryd.prog 85 #[.slice a ps.length c] w fun e w'=>e=.returned (.bool (Sk.risesP ps))/\Below w.heap.size w w':=by
 have HP:=aq hp;clear hp
 go_enter Tryd.func85,Tryd.ntmps85
 go_wp2
 go_loopw [2,3] (RisingJ ps w) (fun _ i _=>ps.length-(intOf i).toNat)
 case atStart=>exact⟨0,Or.inr rfl,rfl,Sk.rises_one ps,Below.refl _ _⟩
 case round =>
  obtain⟨j,hj,rfl,hr,hb⟩:=hrel
  by_cases hlt:j+1 < ps.length
  ·obtain⟨b1,o1,rfl,_,c1,_⟩:=(HP.out.below hb).pair (i:=j) (by omega)
   obtain⟨b2,o2,hA,_,c2,_⟩:=(HP.out.below hb).pair hlt
   injection hA with hA
   injection hA with e1 e2
   subst e1 e2;have HN:=aq (fun h=>hr.next h);have HNO:=aq (fun h=>Sk.risesP_no (ps:=ps) hlt h);obtain⟨x,hx⟩:∃ x,(ps.getD j (0,0)).1=x:=⟨_,rfl⟩;obtain⟨y,hy⟩:∃ y,(ps.getD (j+1) (0,0)).1=y:=⟨_,rfl⟩;rw [hx] at c1 HN HNO;rw [hy] at c2 HN HNO;clear hx hy hr
   have i0:(0:Int)<=(j:Int)+1:=by omega
   have i1:(j:Int)+1 < (ps.length:Int):=by omega
   have i2:(j:Int) < (ps.length:Int):=by omega
   by_cases hk:y<=x
   ·have E:=aq (HNO.out hk)
    have k1:decide (y<=x)=true:=by simp [hk]
    clear hk;go_wp2
    go_quiet (fail)
    go_wp2;go_ret;rw [E.out];exact⟨rfl,by first | exact hb | exact below_drewN hb _⟩
   ·have E:=aq (HN.out (by omega))
    have k1:decide (y<=x)=false:=by simp [hk]
    clear hk;go_wp2
    go_quiet (fail)
    go_wp2
    go_roundw
    case rel=>exact⟨j+1,Or.inl (by omega),by go_num,E.out,by first | exact hb | exact below_drewN hb _⟩
    case measure=>simp [intOf];omega
  ·have E:=aq (Sk.risesP_yes hr (by omega))
   have i1:¬ (j:Int)+1 < (ps.length:Int):=by omega
   go_wp2;go_ret;rw [E.out];exact⟨rfl,by first | exact hb | exact below_drewN hb _⟩
end Go.Proofs.YtfdpkmafemidjaaDoor
