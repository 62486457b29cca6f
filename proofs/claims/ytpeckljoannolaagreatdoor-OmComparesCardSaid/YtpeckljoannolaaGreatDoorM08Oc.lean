/- Lists that are written over, answers, and arguments that are opened. -/
import Derived.Test.YtpeckljoannolaaGreatDoorM04Oc
import Derived.Test.YtpeckljoannolaaGreatDoorProg
import Derived.Test.YtpeckljoannolaaGreatDoorM01Oc
import Derived.WalkKit
import Derived.WalkSpells
import Derived.WalkLawsBesides
import Derived.Lib.Hide
import Derived.ProofKit
import Derived.OpenShut
import Derived.ChangeOld
import Derived.Below
import Derived.Deep.Fields
import Derived.Deep.Slices
import Derived.Lib.SmallJoins
import Derived.Test.YtpeckljoannolaaGreatDoorTkOc
set_option linter.unusedVariables false
set_option linter.unusedSimpArgs false
namespace Go.Proofs.YtpeckljoannolaaGreatDoor
open Go.RowKit
def Soft (k:IntKind) (w:World) (a:Option Addr) (n:Nat):Prop :=
 n=0∨∃ b off,a=some ⟨b,off,none⟩/\b < w.heap.size/\∀ i,i < n->(∃ z,w.cell? ⟨b,off+i,none⟩=some (.int k z))/\w.frozen? ⟨b,off+i,none⟩=false
theorem Soft.below {k:IntKind} {w w':World} {a:Option Addr} {n:Nat} (h:Soft k w a n) (hb:Below w.heap.size w w'):Soft k w' a n:=by
 rcases h with h0 | ⟨b,off,h1,h2,h3⟩
 ·exact Or.inl h0
 ·refine Or.inr ⟨b,off,h1,Nat.lt_of_lt_of_le h2 hb.size,fun i hi=>?_⟩
  obtain⟨⟨z,hz⟩,hf⟩:=h3 i hi;exact⟨⟨z,(hb.cell (p:=⟨b,off+i,none⟩) h2).trans hz⟩,(hb.frozen (p:=⟨b,off+i,none⟩) h2).trans hf⟩
theorem Soft.set {k k':IntKind} {w:World} {a:Option Addr} {n:Nat} (h:Soft k w a n) {p:Addr} {z:Int} (hp:w.cell? p=some (.int k' z)) (x:Int):Soft k (w.setCell p (.int k' x)) a n:=by
 rcases h with h0 | ⟨b,off,h1,h2,h3⟩
 ·exact Or.inl h0
 ·refine Or.inr ⟨b,off,h1,by rw [World.size_setCell];exact h2,fun i hi=>?_⟩
  obtain⟨⟨z2,hz⟩,hf⟩:=h3 i hi;refine⟨?_,by rw [World.frozen?_setCell];exact hf⟩
  by_cases e:p=⟨b,off+i,none⟩
  ·subst e
   rw [hz] at hp
   injection hp with hp
   injection hp with hk _
   subst hk;exact⟨x,World.cell?_setCell_same _ _ _ hz⟩
  ·exact⟨z2,by rw [World.cell?_setCell_other _ _ _ _ e];exact hz⟩
def From (B U:Nat) (a:Option Addr) (n:Nat):Prop:=n=0∨∀ p,a=some p->B<=p.block/\p.block < U
theorem New.from {k:IntKind} {w:World} {B:Nat} {a:Option Addr} {zs:List Int} (h:New k w B a zs):From B w.heap.size a zs.length:=by
 rcases h with h0 | ⟨b,off,h1,hB,hU,_⟩
 ·left;rw [h0];rfl
 ·right;intro p hp;rw [h1] at hp;injection hp with hp;subst hp;exact⟨hB,hU⟩
theorem Box.of_heap {w w':World} {g:Nat} {s:Sl} {a:Ads} (h:Box w g s a) (e:w'.heap[g]?=w.heap[g]?) (hs:w.heap.size<=w'.heap.size):Box w' g s a:=by
 have hc:∀ o,w'.cell? ⟨g,o,none⟩=w.cell? ⟨g,o,none⟩:=fun o=>World.cell?_of_block (w:=w) (a:=⟨g,o,none⟩) e;exact⟨Nat.lt_of_lt_of_le h.lt hs,(hc 0).trans h.c0,(hc 1).trans h.c1,(hc 2).trans h.c2,(hc 3).trans h.c3,(hc 4).trans h.c4,(hc 5).trans h.c5,fun o=>(World.frozen?_of_block (w:=w) (a:=⟨g,o,none⟩) e).trans (h.fz o)⟩
structure SoftS (W:World) (B U:Nat) (s:Sl) (a:Ads):Prop where
 w:Soft .u64 W a.w s.words.length
 k:Soft .i64 W a.k s.keys.length
 v:Soft .i64 W a.v s.vals.length
 c:Soft .i64 W a.c s.counts.length
 fw:From B U a.w s.words.length
 fk:From B U a.k s.keys.length
 fv:From B U a.v s.vals.length
 fc:From B U a.c s.counts.length
theorem SoftS.keep {w w':World} {B U:Nat} {s:Sl} {a:Ads} (h:SoftS w B U s a) (hk:∀ k a n,Soft k w a n->Soft k w' a n):SoftS w' B U s a:=⟨hk _ _ _ h.w,hk _ _ _ h.k,hk _ _ _ h.v,hk _ _ _ h.c,h.fw,h.fk,h.fv,h.fc⟩
theorem SoftS.below {w w':World} {B U:Nat} {s:Sl} {a:Ads} (h:SoftS w B U s a) (hb:Below w.heap.size w w'):SoftS w' B U s a:=h.keep (fun _ _ _ hs=>hs.below hb)
def Ans (s:Sl) (er:Int) (w:World) (e:Ending) (w':World):Prop:=∃ a,e=.returned (.tuple #[slv s a,.int .i64 er])/\Own w' w.heap.size s a/\Below w.heap.size w w'
theorem short_none:Sl.none.Short:=⟨Nat.zero_le _,Nat.zero_le _,Nat.zero_le _,Nat.zero_le _⟩
theorem Sl.Short.emptied {s:Sl} (h:s.Short) (i:Nat):(s.emptied i).Short:=by
 refine⟨?_,?_,?_,?_⟩
 ·show (Oc.putW s.words i false).length<=65536;rw [putW_len];exact h.words
 ·show (s.keys.set i 0).length<=65536;rw [List.length_set];exact h.keys
 ·show (s.vals.set i 0).length<=65536;rw [List.length_set];exact h.vals
 ·show (Sl.emptied s i).counts.length<=65536
  unfold Sl.emptied;dsimp only;split
  ·rw [List.length_set];exact h.counts
  ·exact h.counts
theorem Sl.Short.filledAt {s:Sl} (h:s.Short) (i:Nat) (p:Int×Int):(s.filledAt i p).Short:=by
 refine⟨?_,?_,?_,?_⟩
 ·show (Oc.putW s.words i true).length<=65536;rw [putW_len];exact h.words
 ·show (s.keys.set i p.1).length<=65536;rw [List.length_set];exact h.keys
 ·show (s.vals.set i p.2).length<=65536;rw [List.length_set];exact h.vals
 ·show (s.counts.set _ _).length<=65536;rw [List.length_set];exact h.counts
theorem step_joinN {P:Program} {T E:TypeId} {z:Value} {size bytes:Nat} (hE:Elem P T E z size bytes) {w:World} {ops:Array Oper} {o:Oper} {act:Act} {K:Act->World->Prop} {Q:Exit->Act->World->Prop} {F:Prop} (hgd:o.guard=none) (s x:Operand)
  (ho:o.op=.call { callee:=.builtin .append,args:=#[s,x],argTypes:=#[T,T] })
  (base n:Nat) (v:Value) (ys:List Value) (hs:act.eval s=v) (hown:w.ownsRow base E size v n ys) (a:Option Addr) (m cap:Nat) (xs:List Value) (hx:act.eval x=.slice a m cap)
  (hl:Cells w a xs) (hlen:xs.length=m*size) (h1:∀ u∈xs,u.oneCell'=true) (hnil:a=none->m=0/\cap=0) (hbase:base<=w.heap.size) (h63:n+m<=maxLen) (hby:(n+m)*bytes<=140737488355328)
  (h:∀ v' w',w'.ownsRow base E size v' (n+m) (ys++xs)->Below base w w'->K (act.put o.dst v') w'):if Region.wanted o (yielded ops act.tmps)=true then Oper.wp P o act w K Q else F:=by
 have hw:Region.wanted o (yielded ops act.tmps)=true:=by simp [Region.wanted,hgd]
 rw [if_pos hw];obtain⟨i0,hi0,hz0,hz1,hz2⟩:=hE.info
 cases a with
 | none =>
  obtain⟨rfl,rfl⟩:=hnil rfl;have hxs:xs=[]:=List.eq_nil_of_length_eq_zero (by rw [hlen,Nat.zero_mul]);subst hxs;have hrun:=run_append_owned_none (P:=P) (w:=w) base T o.type E i0 size hE.und hi0 v n ys hown;have hK:=h v w (by rw [Nat.add_zero,List.append_nil];exact hown) (Below.refl _ _);unfold Oper.wp
  simp [execOp,ho,resolve,invoke,builtin,hs,hx,hrun,Result.andThen]
  exact hK
 | some ad =>
  have hnews:∀ j u,xs[j]?=some u->w.cell? (ad.add j)=some u:=by
   intro j u hu;have hj:j < xs.length:=(List.getElem?_eq_some_iff.1 hu).1
   rcases hl with h0 | ⟨b,off,e,hb,hc⟩
   ·subst h0;simp at hj
   ·injection e with e
    subst e;rw [add_at,hc j hj,hu]
  refine wp_append_own _ s x T ho base E i0 z size bytes hE.und hi0 hz0 hz1 hz2 hE.zero hE.pos v n ys hs hown ad m cap xs hx hlen hnews h1 h63 hby hbase ?_;intro v1 w1 hown1 hgrow1 _;exact h v1 w1 hown1 ((Below.refl _ _).grown hgrow1 hbase (fun g hg=>(World.ownsRow.lt hown g hg).1))
end Go.Proofs.YtpeckljoannolaaGreatDoor
namespace Go.Proofs.YtpeckljoannolaaGreatDoor
open Go.ChangeShapes Go.WideShapes Go.ChangeAt Go.RowKit Go.Deep
section
variable {H:Type} {enc:TypeId×Value->H} {P:Program} {w:World} {base:Nat} {spare:Nat->Bool} {held:Bool}
theorem open_row {k:IntKind} {t e:TypeId} {u:Value} {n:Nat} {y:DataW H×List MemPlace} (ht:P.underlying t=some (.slice e)) (he:P.underlying e=some (.int k)) (hce:P.cellsOf e=1) (h:DataW.trod enc P w base spare held n t [u]=some y) :
  ∃ (a:Option Addr) (cap:Nat) (zs:List Int),u=.slice a zs.length cap/\Lst k w a zs/\(∀ z∈zs,(Lit.int k z).wf=true)/\(a=none->zs.length=0/\cap=0)/\zs.length<=cap/\cap<=maxLen:=by
 rcases open_ints ht he hce h with⟨hcs,_⟩ | ⟨x,l,c,zs,hcs,_,hl,hm,hz,_,hcell,hwz⟩
 ·injection hcs with hcs _
  exact⟨none,0,[],hcs,Or.inl rfl,fun z hz=>by simp at hz,fun _=>⟨rfl,rfl⟩,Nat.le_refl _,Nat.zero_le _⟩
 ·injection hcs with hcs _
  have hzl:l<=zs.length:=by rw [hz];split<;>omega
  have hlen:(zs.take l).length=l:=by rw [List.length_take];omega
  refine⟨some x,c,zs.take l,by rw [hlen];exact hcs,?_,fun z hzm=>hwz z (List.mem_of_mem_take hzm),fun e=>(by cases e),by rw [hlen];exact hl,hm⟩
  by_cases h0:l=0
  ·left;rw [h0];rfl
  ·right
   obtain⟨b,off,rfl,hc⟩:=ints_at hcell (by omega)
   have hlt:b < w.heap.size:=by
    have h1:=hc 0 (by omega)
    rcases Nat.lt_or_ge b w.heap.size with h2 | h2
    ·exact h2
    ·simp [World.cell?,Array.getElem?_eq_none h2] at h1
   refine⟨b,off,rfl,hlt,fun i hi=>?_⟩;rw [hlen] at hi;rw [hc i (by omega)]
   congr 2
   simp [List.getD,hi]
theorem all64_of {zs:List Int} (h:∀ z∈zs,(Lit.int .i64 z).wf=true):All64 zs:=by
 intro i
 rcases Nat.lt_or_ge i zs.length with h1 | h1
 ·have hm:zs.getD i 0∈zs:=by
   simp only [List.getD,List.getElem?_eq_getElem h1,Option.getD_some];exact List.getElem_mem h1
  exact bounds_i64 (h _ hm)
 ·rw [show zs.getD i 0=0 from by simp [List.getD,List.getElem?_eq_none h1]]
  exact⟨by omega,by omega⟩
theorem bounds_u64 {n:Int} (h:(Lit.int .u64 n).wf=true):0<=n/\n < 18446744073709551616:=by
 simp [Lit.wf,IntKind.min,IntKind.max,IntKind.signed,IntKind.bits] at h
 omega
theorem nats_of {zs:List Int} (h:∀ z∈zs,(Lit.int .u64 z).wf=true):∃ ws:List Nat,zs=ints ws/\Wide ws:=by
 refine⟨zs.map Int.toNat,?_,?_⟩
 ·unfold ints
  rw [List.map_map]
  conv=>lhs;rw [<-List.map_id zs]
  apply List.map_congr_left
  intro z hz;have:=(bounds_u64 (h z hz)).1
  simp only [Function.comp_apply,id_eq]
  omega
 ·intro i
  rcases Nat.lt_or_ge i zs.length with h1 | h1
  ·have hm:zs.getD i 0∈zs:=by
    simp only [List.getD,List.getElem?_eq_getElem h1,Option.getD_some];exact List.getElem_mem h1
   have h2:=(bounds_u64 (h _ hm)).2;have h3:=(bounds_u64 (h _ hm)).1
   have e:(zs.map Int.toNat).getD i 0=(zs.getD i 0).toNat:=by simp [List.getD,List.getElem?_eq_getElem h1]
   rw [e]
   omega
  ·have e:(zs.map Int.toNat).getD i 0=0:=by simp [List.getD,List.getElem?_eq_none h1]
   rw [e]
   omega
end
end Go.Proofs.YtpeckljoannolaaGreatDoor
