/- What the document's own answers of layer 12 (package shelfmarkref12) return: the pair up to a key, from it on. They only read. -/
import Derived.Test.YtfdpkmafemidjaaDoorPlain12cSp
import Derived.Test.YtfdpkmafemidjaaDoorM04Sp
import Derived.Test.YtfdpkmafemidjaaDoorTkSp
set_option linter.unusedVariables false
set_option linter.unusedSimpArgs false
set_option maxHeartbeats 2000000
set_option maxRecDepth 100000
namespace Go.Proofs.YtfdpkmafemidjaaDoor
open Go.RowKit
def Sn.floR (ps:List (Int×Int)) (k:Int):Int×Int:=if (Sn.floP ps k).length=0 then (0,0) else Sn.lastP (Sn.floP ps k)
def Sn.ceiR (ps:List (Int×Int)) (k:Int):Int×Int:=if (Sn.ceiP ps k).length=0 then (0,0) else Sn.headP (Sn.ceiP ps k)
def FloJ (ps:List (Int×Int)) (k:Int) (W0:World) (i:Value) (wr:World):Prop:=∃ m:Nat,m<=ps.length/\i=.int .i64 ((m:Int)-1)/\wr=W0/\∀ j,m<=j->j < ps.length->k < (ps.getD j (0,0)).1
def CeiJ (ps:List (Int×Int)) (k:Int) (W0:World) (i:Value) (wr:World):Prop:=∃ m:Nat,m<=ps.length/\i=.int .i64 (m:Int)/\wr=W0/\∀ j,j < m->(ps.getD j (0,0)).1 < k
theorem r12FloorOf (A:Option Addr) (c:Nat) (ps:List (Int×Int)) (k:Int) (w:World) (hP:PLst w A ps) (hn:ps.length<=65536) :
  Calls Tryd.prog 40 #[.slice A ps.length c,.int .i64 k] w fun e w'=>e=.returned (.tuple #[pv (Sn.floR ps k),.bool (decide ((Sn.floP ps k).length≠0))])/\Below w.heap.size w w':=by
 have B0:=aq ((Below.refl w.heap.size w).alloc (Nat.le_refl _) (.cells #[.int .i64 0,.int .i64 0] 32));have PX:=aq (PBox.new w (0,0) 32);have HP:=aq (hP.below ((Below.refl _ _).alloc (Nat.le_refl _) (.cells #[.int .i64 0,.int .i64 0] 32)));clear hP
 go_enter Tryd.func40,Tryd.ntmps40
 go_upto_region 1 with (fail)
 obtain⟨W0,hW0⟩:∃ W0,W0=w.alloc (.cells #[.int .i64 0,.int .i64 0] 32):=⟨_,rfl⟩
 dsimp only at PX
 rw [<-hW0] at B0 PX HP ⊢;clear hW0;have d0:=PX.out.c0;have d1:=PX.out.c1;have fd0:=PX.out.f0;have fd1:=PX.out.f1
 dsimp only at d0 d1
 go_wp2
 go_loopw [6] (FloJ ps k W0) (fun i _=>(intOf i+1).toNat)
 case atStart=>exact⟨ps.length,Nat.le_refl _,by go_num,rfl,fun j h1 h2=>by omega⟩
 case round =>
  obtain⟨m,hm,rfl,rfl,hall⟩:=hrel;have HA:=aq hall;clear hall
  cases m with
  | zero =>
   have E:=aq (Sn.flo_none (ps:=ps) (k:=k) (fun j hj=>HA.out j (Nat.zero_le _) hj));have R:=aq (show Sn.floR ps k=(0,0) by unfold Sn.floR;rw [E.out];rfl)
   have k1:decide (((0:Nat):Int)-1 ≥ 0)=false:=by decide
   go_wp2;refine bodyPost_ret (v:=.tuple #[.agg #[.int .i64 0,.int .i64 0],.bool false]) (by simp [results,Tryd.results40,go_sem,d0,d1]) rfl ⟨by rw [R.out,E.out];rfl,?_⟩;exact (B0.out.setCell (by simp) _).setCell (by simp) _
  | succ m =>
   have hlt:m < ps.length:=by omega
   have e0:((m+1:Nat):Int)-1=(m:Int):=by omega
   rw [e0]
   have k1:decide ((m:Int) ≥ 0)=true:=by simp
   obtain⟨b1,o1,rfl,_,c1,c2⟩:=HP.out.pair hlt;obtain⟨⟨x1,x2⟩,hx⟩:∃ x,ps.getD m (0,0)=x:=⟨_,rfl⟩;rw [hx] at c1 c2;have HX:=aq hx;clear hx
   dsimp only at c1 c2
   by_cases hk:x1<=k
   ·have k2:decide (x1<=k)=true:=by simpa using hk
    have E:=aq (Sn.flo_found (ps:=ps) (k:=k) hlt (by rw [HX.out];exact hk) (fun j h1 h2=>HA.out j (by omega) h2));have R:=aq (show Sn.floR ps k=(x1,x2) by unfold Sn.floR;rw [if_neg E.out.2,E.out.1,HX.out]);have D:=aq (show decide ((Sn.floP ps k).length≠0)=true by simpa using E.out.2);clear hk;go_wp2;refine bodyPost_ret (v:=.tuple #[.agg #[.int .i64 x1,.int .i64 x2],.bool true]) (by simp [results,Tryd.results40,go_sem,d0,d1]) rfl ⟨by rw [R.out,D.out];rfl,?_⟩;exact (B0.out.setCell (by simp) _).setCell (by simp) _
   ·have k2:decide (x1<=k)=false:=by simpa using hk
    have hk2:k < x1:=by omega
    have HK:=aq hk2;clear hk hk2;go_wp2
    go_roundw
    case rel=>exact⟨m,by omega,by go_num,rfl,fun j h1 h2=>by
     by_cases e:j=m
     ·subst e;rw [HX.out];exact HK.out
     ·exact HA.out j (by omega) h2⟩
    case measure=>first | (simp [intOf];done) | (simp [intOf];omega)
theorem r12CeilingOf (A:Option Addr) (c:Nat) (ps:List (Int×Int)) (k:Int) (w:World) (hP:PLst w A ps) (hn:ps.length<=65536) :
  Calls Tryd.prog 42 #[.slice A ps.length c,.int .i64 k] w fun e w'=>e=.returned (.tuple #[pv (Sn.ceiR ps k),.bool (decide ((Sn.ceiP ps k).length≠0))])/\Below w.heap.size w w':=by
 have B0:=aq ((Below.refl w.heap.size w).alloc (Nat.le_refl _) (.cells #[.int .i64 0,.int .i64 0] 32));have PX:=aq (PBox.new w (0,0) 32);have HP:=aq (hP.below ((Below.refl _ _).alloc (Nat.le_refl _) (.cells #[.int .i64 0,.int .i64 0] 32)));clear hP
 go_enter Tryd.func42,Tryd.ntmps42
 go_upto_region 1 with (fail)
 obtain⟨W0,hW0⟩:∃ W0,W0=w.alloc (.cells #[.int .i64 0,.int .i64 0] 32):=⟨_,rfl⟩
 dsimp only at PX
 rw [<-hW0] at B0 PX HP ⊢;clear hW0;have d0:=PX.out.c0;have d1:=PX.out.c1;have fd0:=PX.out.f0;have fd1:=PX.out.f1
 dsimp only at d0 d1
 go_wp2
 go_loopw [6] (CeiJ ps k W0) (fun i _=>ps.length-(intOf i).toNat)
 case atStart=>exact⟨0,Nat.zero_le _,rfl,rfl,fun j h1=>by omega⟩
 case round =>
  obtain⟨m,hm,rfl,rfl,hall⟩:=hrel;have HA:=aq hall;clear hall
  by_cases hlt:m < ps.length
  ·obtain⟨b1,o1,rfl,_,c1,c2⟩:=HP.out.pair hlt
   obtain⟨⟨x1,x2⟩,hx⟩:∃ x,ps.getD m (0,0)=x:=⟨_,rfl⟩;rw [hx] at c1 c2;have HX:=aq hx;clear hx
   dsimp only at c1 c2
   by_cases hk:k<=x1
   ·have k2:decide (x1 ≥ k)=true:=by simpa using hk
    have E:=aq (Sn.cei_found (ps:=ps) (k:=k) hlt (by rw [HX.out];exact hk) (fun j h1=>HA.out j h1));have R:=aq (show Sn.ceiR ps k=(x1,x2) by unfold Sn.ceiR;rw [if_neg E.out.2,E.out.1,HX.out]);have D:=aq (show decide ((Sn.ceiP ps k).length≠0)=true by simpa using E.out.2);clear hk;go_wp2;refine bodyPost_ret (v:=.tuple #[.agg #[.int .i64 x1,.int .i64 x2],.bool true]) (by simp [results,Tryd.results42,go_sem,d0,d1]) rfl ⟨by rw [R.out,D.out];rfl,?_⟩;exact (B0.out.setCell (by simp) _).setCell (by simp) _
   ·have k2:decide (x1 ≥ k)=false:=by simpa using hk
    have hk2:x1 < k:=by omega
    have HK:=aq hk2;clear hk hk2;go_wp2
    go_roundw
    case rel=>exact⟨m+1,by omega,by go_num,rfl,fun j h1=>by
     by_cases e:j=m
     ·subst e;rw [HX.out];exact HK.out
     ·exact HA.out j (by omega)⟩
    case measure=>first | (simp [intOf];done) | (simp [intOf];omega)
  ·have E:=aq (Sn.cei_none (ps:=ps) (k:=k) (fun j hj=>HA.out j (by omega)))
   have R:=aq (show Sn.ceiR ps k=(0,0) by unfold Sn.ceiR;rw [E.out];rfl);go_wp2;refine bodyPost_ret (v:=.tuple #[.agg #[.int .i64 0,.int .i64 0],.bool false]) (by simp [results,Tryd.results42,go_sem,d0,d1]) rfl ⟨by rw [R.out,E.out];rfl,?_⟩;exact (B0.out.setCell (by simp) _).setCell (by simp) _
theorem r12told (p:Int×Int) (b:Bool) (w:World) :
  Calls Tryd.prog 41 #[pv p,.bool b] w fun e w'=>e=.returned (.tuple #[pv (if b then p else (0,0)),.int .i64 (if b then 0 else 6)])/\Below w.heap.size w w':=by
 have B0:=aq (((Below.refl w.heap.size w).alloc (Nat.le_refl _) (.cells #[.int .i64 p.1,.int .i64 p.2] 32)).alloc (by simp) (.cells #[.int .i64 0,.int .i64 0] 32));have PA:=aq ((PBox.new w p 32).below ((Below.refl _ _).alloc (Nat.le_refl _) (.cells #[.int .i64 0,.int .i64 0] 32)));have PX:=aq (PBox.new (w.alloc (.cells #[.int .i64 p.1,.int .i64 p.2] 32)) (0,0) 32);unfold pv
 cases b
 all_goals
  go_enter Tryd.func41,Tryd.ntmps41
  go_upto_region 1 with (fail)
  obtain⟨W0,hW0⟩:∃ W0,W0=(w.alloc (.cells #[.int .i64 p.1,.int .i64 p.2] 32)).alloc (.cells #[.int .i64 0,.int .i64 0] 32):=⟨_,rfl⟩
  dsimp only at PX
  rw [<-hW0] at B0 PX PA ⊢;clear hW0
  have d0:W0.cell? ⟨w.heap.size+1,0,none⟩=some (.int .i64 0):=by have:=PX.out.c0;simpa using this
  have d1:W0.cell? ⟨w.heap.size+1,1,none⟩=some (.int .i64 0):=by have:=PX.out.c1;simpa using this
  have fd0:W0.frozen? ⟨w.heap.size+1,0,none⟩=false:=by have:=PX.out.f0;simpa using this
  have fd1:W0.frozen? ⟨w.heap.size+1,1,none⟩=false:=by have:=PX.out.f1;simpa using this
  have a0:=PA.out.c0;have a1:=PA.out.c1;go_wp2
  first
  | (refine bodyPost_ret (v:=.tuple #[.agg #[.int .i64 0,.int .i64 0],.int .i64 6]) (by simp [results,Tryd.results41,go_sem,d0,d1]) rfl ⟨rfl,?_⟩;exact (B0.out.setCell (by simp) _).setCell (by simp) _)
  | (refine bodyPost_ret (v:=.tuple #[.agg #[.int .i64 p.1,.int .i64 p.2],.int .i64 0]) (by simp [results,Tryd.results41,go_sem,d0,d1]) rfl ⟨rfl,?_⟩;exact (B0.out.setCell (by simp) _).setCell (by simp) _)
theorem r12Fits (n:Int) (w:World):Calls Tryd.prog 46 #[.int .i64 n] w fun e w'=>e=.returned (.bool (decide (0<=n/\n<=1000)))/\w'=w:=by
 by_cases h1:0<=n
 ·by_cases h2:n<=1000
  ·have k1:decide (n ≥ 0)=true:=by simpa using h1
   have k2:decide (n<=1000)=true:=by simpa using h2
   have e:decide (0<=n/\n<=1000)=true:=by simp;omega
   rw [e];clear h1 h2 e
   go_enter Tryd.func46,Tryd.ntmps46
   go_wp2;go_ret;exact⟨rfl,rfl⟩
  ·have k1:decide (n ≥ 0)=true:=by simpa using h1
   have k2:decide (n<=1000)=false:=by simpa using h2
   have e:decide (0<=n/\n<=1000)=false:=by simp;omega
   rw [e];clear h1 h2 e
   go_enter Tryd.func46,Tryd.ntmps46
   go_wp2;go_ret;exact⟨rfl,rfl⟩
 ·have k1:decide (n ≥ 0)=false:=by simpa using h1
  have e:decide (0<=n/\n<=1000)=false:=by simp;omega
  rw [e];clear h1 e
  go_enter Tryd.func46,Tryd.ntmps46
  go_wp2;go_ret;exact⟨rfl,rfl⟩
end Go.Proofs.YtfdpkmafemidjaaDoor
