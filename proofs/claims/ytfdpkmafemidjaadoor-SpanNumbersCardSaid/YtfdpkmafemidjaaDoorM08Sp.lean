/- Lists that are written over, answers, and arguments that are opened. -/
import Derived.Test.YtfdpkmafemidjaaDoorM04Sp
import Derived.Test.YtfdpkmafemidjaaDoorM02Sp
import Derived.ProofKit
import Derived.OpenShut
import Derived.ChangeOld
import Derived.Below
import Derived.Deep.Fields
import Derived.Deep.Slices
import Derived.Lib.SmallJoins
import Derived.Test.YtfdpkmafemidjaaDoorM01Sp
import Derived.Test.YtfdpkmafemidjaaDoorTkSp
set_option linter.unusedVariables false
set_option linter.unusedSimpArgs false
namespace Go.Proofs.YtfdpkmafemidjaaDoor
open Go.RowKit
def Soft (k:IntKind) (w:World) (a:Option Addr) (n:Nat):Prop :=
 n=0∨∃ b off,a=some ⟨b,off,none⟩/\b < w.heap.size/\∀ i,i < n->(∃ z,w.cell? ⟨b,off+i,none⟩=some (.int k z))/\w.frozen? ⟨b,off+i,none⟩=false
theorem Soft.below {k:IntKind} {w w':World} {a:Option Addr} {n:Nat} (h:Soft k w a n) (hb:Below w.heap.size w w'):Soft k w' a n:=by
 rcases h with h0 | ⟨b,off,h1,h2,h3⟩
 ·exact Or.inl h0
 ·refine Or.inr ⟨b,off,h1,Nat.lt_of_lt_of_le h2 hb.size,fun i hi=>?_⟩
  obtain⟨⟨z,hz⟩,hf⟩:=h3 i hi;exact⟨⟨z,(hb.cell (p:=⟨b,off+i,none⟩) h2).trans hz⟩,(hb.frozen (p:=⟨b,off+i,none⟩) h2).trans hf⟩
theorem Soft.set {k k':IntKind} {w:World} {a:Option Addr} {n:Nat} (h:Soft k w a n) {p:Addr} {z:Int} (hp:w.cell? p=some (.int k' z)) (x:Int):Soft k (w.setCell p (.int k' x)) a n:=by
 rcases h with h0 | ⟨b,off,h1,h2,h3⟩
 ·exact Or.inl h0
 ·refine Or.inr ⟨b,off,h1,by rw [World.size_setCell];exact h2,fun i hi=>?_⟩
  obtain⟨⟨z2,hz⟩,hf⟩:=h3 i hi;refine⟨?_,by rw [World.frozen?_setCell];exact hf⟩
  by_cases e:p=⟨b,off+i,none⟩
  ·subst e
   rw [hz] at hp
   injection hp with hp
   injection hp with hk _
   subst hk;exact⟨x,World.cell?_setCell_same _ _ _ hz⟩
  ·exact⟨z2,by rw [World.cell?_setCell_other _ _ _ _ e];exact hz⟩
def From (B U:Nat) (a:Option Addr) (n:Nat):Prop:=n=0∨∀ p,a=some p->B<=p.block/\p.block < U
theorem Box.of_heap {w w':World} {g:Nat} {s:Sl} {a:Ads} (h:Box w g s a) (e:w'.heap[g]?=w.heap[g]?) (hs:w.heap.size<=w'.heap.size):Box w' g s a:=by
 have hc:∀ o,w'.cell? ⟨g,o,none⟩=w.cell? ⟨g,o,none⟩:=fun o=>World.cell?_of_block (w:=w) (a:=⟨g,o,none⟩) e;exact⟨Nat.lt_of_lt_of_le h.lt hs,(hc 0).trans h.c0,(hc 1).trans h.c1,(hc 2).trans h.c2,(hc 3).trans h.c3,(hc 4).trans h.c4,(hc 5).trans h.c5,fun o=>(World.frozen?_of_block (w:=w) (a:=⟨g,o,none⟩) e).trans (h.fz o)⟩
structure SoftS (W:World) (B U:Nat) (s:Sl) (a:Ads):Prop where
 w:Soft .u64 W a.w s.words.length
 k:Soft .i64 W a.k s.keys.length
 v:Soft .i64 W a.v s.vals.length
 c:Soft .i64 W a.c s.counts.length
 fw:From B U a.w s.words.length
 fk:From B U a.k s.keys.length
 fv:From B U a.v s.vals.length
 fc:From B U a.c s.counts.length
theorem SoftS.keep {w w':World} {B U:Nat} {s:Sl} {a:Ads} (h:SoftS w B U s a) (hk:∀ k a n,Soft k w a n->Soft k w' a n):SoftS w' B U s a:=⟨hk _ _ _ h.w,hk _ _ _ h.k,hk _ _ _ h.v,hk _ _ _ h.c,h.fw,h.fk,h.fv,h.fc⟩
theorem SoftS.below {w w':World} {B U:Nat} {s:Sl} {a:Ads} (h:SoftS w B U s a) (hb:Below w.heap.size w w'):SoftS w' B U s a:=h.keep (fun _ _ _ hs=>hs.below hb)
def Ans (s:Sl) (er:Int) (w:World) (e:Ending) (w':World):Prop:=∃ a,e=.returned (.tuple #[slv s a,.int .i64 er])/\Own w' w.heap.size s a/\Below w.heap.size w w'
theorem short_none:Sl.none.Short:=⟨Nat.zero_le _,Nat.zero_le _,Nat.zero_le _,Nat.zero_le _⟩
theorem Sl.Short.emptied {s:Sl} (h:s.Short) (i:Nat):(s.emptied i).Short:=by
 refine⟨?_,?_,?_,?_⟩
 ·show (Oc.putW s.words i false).length<=65536;rw [putW_len];exact h.words
 ·show (s.keys.set i 0).length<=65536;rw [List.length_set];exact h.keys
 ·show (s.vals.set i 0).length<=65536;rw [List.length_set];exact h.vals
 ·show (Sl.emptied s i).counts.length<=65536
  unfold Sl.emptied;dsimp only;split
  ·rw [List.length_set];exact h.counts
  ·exact h.counts
theorem Sl.Short.filledAt {s:Sl} (h:s.Short) (i:Nat) (p:Int×Int):(s.filledAt i p).Short:=by
 refine⟨?_,?_,?_,?_⟩
 ·show (Oc.putW s.words i true).length<=65536;rw [putW_len];exact h.words
 ·show (s.keys.set i p.1).length<=65536;rw [List.length_set];exact h.keys
 ·show (s.vals.set i p.2).length<=65536;rw [List.length_set];exact h.vals
 ·show (s.counts.set _ _).length<=65536;rw [List.length_set];exact h.counts
theorem short_lay {s:Sl} (h:s.Short) (i:Int) (p:Int×Int):(s.layS i p).Short:=by
 unfold Sl.layS;split
 ·exact (h.emptied _).filledAt _ _
 ·exact short_none
theorem same_self (s:Sl):s.sameB s=true:=by unfold Sl.sameB;simp
end Go.Proofs.YtfdpkmafemidjaaDoor
namespace Go.Proofs.YtfdpkmafemidjaaDoor
open Go.ChangeShapes Go.WideShapes Go.ChangeAt Go.RowKit Go.Deep
section
variable {H:Type} {enc:TypeId×Value->H} {P:Program} {w:World} {base:Nat} {spare:Nat->Bool} {held:Bool}
theorem open_fields {r:Reach} {b0:Nat} {t:TypeId} {fs:Array Field} {v:Value} {d:DataW H} {p:List MemPlace} (hs:P.underlying t=some (.struct fs)) (hone:oneCellFields P fs=true) (hC:P.cellsOf t=fs.size)
  (hv:Value.okWide P w r b0 t v) (h:DataW.Trod enc P w base spare held t v d p) :
  ∃ cs:Array Value,v=.agg cs/\cs.size=fs.size/\∀ (j:Nat) (f:Field),fs[j]?=some f->∃ (u:Value) (y:DataW H×List MemPlace) (n:Nat),cs[j]?=some u/\DataW.trod enc P w base spare held n f.type [u]=some y:=by
 obtain⟨cs,rfl,hsz⟩:=okWide_struct hs hv;obtain⟨fuel,hf⟩:=h;obtain⟨xs,n,_,hx,_,hlen,hg⟩:=DataW.trod_struct hs hf;refine⟨cs,rfl,hsz.trans hC,fun j f hj=>?_⟩;obtain⟨ho,hk⟩:=hone_of hone j f hj
 have hjl:j < cs.size:=by rw [hsz,hC];exact (Array.getElem?_eq_some_iff.1 hj).1
 have h1:=hg j f hj;rw [ho,hk] at h1
 have e:((Value.agg cs).cells.toList.drop j).take 1=[cs[j]]:=by
  simp only [Value.cells]
  rw [List.drop_eq_getElem_cons (by simpa using hjl)]
  simp
 rw [e] at h1
 have hjx:j < xs.length:=by rw [hlen];exact (Array.getElem?_eq_some_iff.1 hj).1
 rw [List.getElem?_eq_getElem hjx] at h1;exact⟨cs[j],xs[j],n,Array.getElem?_eq_getElem hjl,h1⟩
end
end Go.Proofs.YtfdpkmafemidjaaDoor
namespace Go.Proofs.YtfdpkmafemidjaaDoor
open Go.ChangeShapes Go.WideShapes Go.ChangeAt Go.RowKit Go.Deep
section
variable {H:Type} {enc:TypeId×Value->H} {P:Program} {w:World} {base:Nat} {spare:Nat->Bool} {held:Bool}
theorem open_row {k:IntKind} {t e:TypeId} {u:Value} {n:Nat} {y:DataW H×List MemPlace} (ht:P.underlying t=some (.slice e)) (he:P.underlying e=some (.int k)) (hce:P.cellsOf e=1) (h:DataW.trod enc P w base spare held n t [u]=some y) :
  ∃ (a:Option Addr) (cap:Nat) (zs:List Int),u=.slice a zs.length cap/\Lst k w a zs/\(∀ z∈zs,(Lit.int k z).wf=true)/\(a=none->zs.length=0/\cap=0)/\zs.length<=cap/\cap<=maxLen:=by
 rcases open_ints ht he hce h with⟨hcs,_⟩ | ⟨x,l,c,zs,hcs,_,hl,hm,hz,_,hcell,hwz⟩
 ·injection hcs with hcs _
  exact⟨none,0,[],hcs,Or.inl rfl,fun z hz=>by simp at hz,fun _=>⟨rfl,rfl⟩,Nat.le_refl _,Nat.zero_le _⟩
 ·injection hcs with hcs _
  have hzl:l<=zs.length:=by rw [hz];split<;>omega
  have hlen:(zs.take l).length=l:=by rw [List.length_take];omega
  refine⟨some x,c,zs.take l,by rw [hlen];exact hcs,?_,fun z hzm=>hwz z (List.mem_of_mem_take hzm),fun e=>(by cases e),by rw [hlen];exact hl,hm⟩
  by_cases h0:l=0
  ·left;rw [h0];rfl
  ·right
   obtain⟨b,off,rfl,hc⟩:=ints_at hcell (by omega)
   have hlt:b < w.heap.size:=by
    have h1:=hc 0 (by omega)
    rcases Nat.lt_or_ge b w.heap.size with h2 | h2
    ·exact h2
    ·simp [World.cell?,Array.getElem?_eq_none h2] at h1
   refine⟨b,off,rfl,hlt,fun i hi=>?_⟩;rw [hlen] at hi;rw [hc i (by omega)]
   congr 2
   simp [List.getD,hi]
theorem all64_of {zs:List Int} (h:∀ z∈zs,(Lit.int .i64 z).wf=true):All64 zs:=by
 intro i
 rcases Nat.lt_or_ge i zs.length with h1 | h1
 ·have hm:zs.getD i 0∈zs:=by
   simp only [List.getD,List.getElem?_eq_getElem h1,Option.getD_some];exact List.getElem_mem h1
  exact bounds_i64 (h _ hm)
 ·rw [show zs.getD i 0=0 from by simp [List.getD,List.getElem?_eq_none h1]]
  exact⟨by omega,by omega⟩
theorem bounds_u64 {n:Int} (h:(Lit.int .u64 n).wf=true):0<=n/\n < 18446744073709551616:=by
 simp [Lit.wf,IntKind.min,IntKind.max,IntKind.signed,IntKind.bits] at h
 omega
theorem nats_of {zs:List Int} (h:∀ z∈zs,(Lit.int .u64 z).wf=true):∃ ws:List Nat,zs=ints ws/\Wide ws:=by
 refine⟨zs.map Int.toNat,?_,?_⟩
 ·unfold ints
  rw [List.map_map]
  conv=>lhs;rw [<-List.map_id zs]
  apply List.map_congr_left
  intro z hz;have:=(bounds_u64 (h z hz)).1
  simp only [Function.comp_apply,id_eq]
  omega
 ·intro i
  rcases Nat.lt_or_ge i zs.length with h1 | h1
  ·have hm:zs.getD i 0∈zs:=by
    simp only [List.getD,List.getElem?_eq_getElem h1,Option.getD_some];exact List.getElem_mem h1
   have h2:=(bounds_u64 (h _ hm)).2;have h3:=(bounds_u64 (h _ hm)).1
   have e:(zs.map Int.toNat).getD i 0=(zs.getD i 0).toNat:=by simp [List.getD,List.getElem?_eq_getElem h1]
   rw [e]
   omega
  ·have e:(zs.map Int.toNat).getD i 0=0:=by simp [List.getD,List.getElem?_eq_none h1]
   rw [e]
   omega
theorem open_slots {r:Reach} {b0:Nat} {t tw tk tc:TypeId} {f0 f1 f2 f3 f4 f5:Field} {v:Value} {d:DataW H} {p:List MemPlace} (hs:P.underlying t=some (.struct #[f0,f1,f2,f3,f4,f5])) (hone:oneCellFields P #[f0,f1,f2,f3,f4,f5]=true) (hC:P.cellsOf t=6)
  (t0:P.underlying f0.type=some (.int .i64)) (t1:P.underlying f1.type=some (.slice tw)) (t2:P.underlying f2.type=some (.slice tk)) (t3:P.underlying f3.type=some (.slice tk)) (t4:P.underlying f4.type=some (.slice tc)) (t5:P.underlying f5.type=some (.int .u64))
  (ew:P.underlying tw=some (.int .u64)) (cw:P.cellsOf tw=1) (ek:P.underlying tk=some (.int .i64)) (ck:P.cellsOf tk=1) (ec:P.underlying tc=some (.int .i64)) (cc:P.cellsOf tc=1)
  (hv:Value.okWide P w r b0 t v) (h:DataW.Trod enc P w base spare held t v d p) :
  ∃ (s:Sl) (a:Ads),v=slv s a/\Held w s a/\s.Ok/\s.words.length<=maxLen/\s.keys.length<=maxLen/\s.vals.length<=maxLen/\s.counts.length<=maxLen:=by
 obtain⟨cs,rfl,hsz,hf⟩:=open_fields hs hone hC hv h;obtain⟨u0,y0,n0,g0,r0⟩:=hf 0 f0 rfl;obtain⟨u1,y1,n1,g1,r1⟩:=hf 1 f1 rfl;obtain⟨u2,y2,n2,g2,r2⟩:=hf 2 f2 rfl;obtain⟨u3,y3,n3,g3,r3⟩:=hf 3 f3 rfl;obtain⟨u4,y4,n4,g4,r4⟩:=hf 4 f4 rfl;obtain⟨u5,y5,n5,g5,r5⟩:=hf 5 f5 rfl
 have hcs:cs=#[u0,u1,u2,u3,u4,u5]:=by
  obtain⟨l⟩:=cs
  match l,hsz with
  | [c0,c1,c2,c3,c4,c5],_ =>
   simp at g0 g1 g2 g3 g4 g5
   subst g0 g1 g2 g3 g4 g5
   rfl
 subst hcs;obtain⟨z0,e0,_,w0⟩:=DataW.trod_int t0 r0;obtain⟨z5,e5,_,w5⟩:=DataW.trod_int t5 r5
 injection e0 with e0 _
 injection e5 with e5 _
 subst e0 e5;obtain⟨a1,c1,q1,rfl,l1,k1,m1,v1,x1⟩:=open_row t1 ew cw r1;obtain⟨a2,c2,q2,rfl,l2,k2,m2,v2,x2⟩:=open_row t2 ek ck r2;obtain⟨a3,c3,q3,rfl,l3,k3,m3,v3,x3⟩:=open_row t3 ek ck r3;obtain⟨a4,c4,q4,rfl,l4,k4,m4,v4,x4⟩:=open_row t4 ec cc r4;obtain⟨ws,rfl,hw⟩:=nats_of k1;rw [ints_length] at m1 v1;obtain⟨hu0,hu1⟩:=bounds_u64 w5;refine⟨⟨z0,ws,q2,q3,q4,z5.toNat⟩,⟨a1,a2,a3,a4,c1,c2,c3,c4⟩,?_,⟨l1,l2,l3,l4,⟨m1,m2,m3,m4,v1,v2,v3,v4⟩⟩,⟨bounds_i64 w0,hw,all64_of k2,all64_of k3,all64_of k4,by show z5.toNat < _;omega⟩,Nat.le_trans v1 x1,Nat.le_trans v2 x2,Nat.le_trans v3 x3,Nat.le_trans v4 x4⟩;unfold slv;rw [ints_length,show ((z5.toNat:Nat):Int)=z5 from by omega]
end
end Go.Proofs.YtfdpkmafemidjaaDoor
