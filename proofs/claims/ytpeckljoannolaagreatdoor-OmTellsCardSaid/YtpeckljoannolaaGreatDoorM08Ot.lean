/- Lists that are written over, answers, arguments that are opened, and what fits again. -/
import Derived.Test.YtpeckljoannolaaGreatDoorM04Ot
import Derived.Test.YtpeckljoannolaaGreatDoorR01Ot
import Derived.Test.YtpeckljoannolaaGreatDoorM11Ot
import Derived.Test.YtpeckljoannolaaGreatDoorR04Ot
import Derived.ProofKit
import Derived.OpenShut
import Derived.ChangeOld
import Derived.Below
import Derived.Deep.Fields
import Derived.Deep.Slices
import Derived.Lib.SmallJoins
import Derived.Test.YtpeckljoannolaaGreatDoorM01Ot
import Derived.Test.YtpeckljoannolaaGreatDoorTkOt
set_option linter.unusedVariables false
set_option linter.unusedSimpArgs false
namespace Go.Proofs.YtpeckljoannolaaGreatDoor
open Go.RowKit
def Soft (k:IntKind) (w:World) (a:Option Addr) (n:Nat):Prop :=
 n=0∨∃ b off,a=some ⟨b,off,none⟩/\b < w.heap.size/\∀ i,i < n->(∃ z,w.cell? ⟨b,off+i,none⟩=some (.int k z))/\w.frozen? ⟨b,off+i,none⟩=false
theorem New.soft {k:IntKind} {w:World} {B:Nat} {a:Option Addr} {zs:List Int} (h:New k w B a zs):Soft k w a zs.length:=by
 rcases h with h0 | ⟨b,off,h1,_,h2,h3⟩
 ·left;rw [h0];rfl
 ·exact Or.inr ⟨b,off,h1,h2,fun i hi=>⟨⟨_,(h3 i hi).1⟩,(h3 i hi).2⟩⟩
theorem Soft.below {k:IntKind} {w w':World} {a:Option Addr} {n:Nat} (h:Soft k w a n) (hb:Below w.heap.size w w'):Soft k w' a n:=by
 rcases h with h0 | ⟨b,off,h1,h2,h3⟩
 ·exact Or.inl h0
 ·refine Or.inr ⟨b,off,h1,Nat.lt_of_lt_of_le h2 hb.size,fun i hi=>?_⟩
  obtain⟨⟨z,hz⟩,hf⟩:=h3 i hi;exact⟨⟨z,(hb.cell (p:=⟨b,off+i,none⟩) h2).trans hz⟩,(hb.frozen (p:=⟨b,off+i,none⟩) h2).trans hf⟩
theorem Soft.set {k k':IntKind} {w:World} {a:Option Addr} {n:Nat} (h:Soft k w a n) {p:Addr} {z:Int} (hp:w.cell? p=some (.int k' z)) (x:Int):Soft k (w.setCell p (.int k' x)) a n:=by
 rcases h with h0 | ⟨b,off,h1,h2,h3⟩
 ·exact Or.inl h0
 ·refine Or.inr ⟨b,off,h1,by rw [World.size_setCell];exact h2,fun i hi=>?_⟩
  obtain⟨⟨z2,hz⟩,hf⟩:=h3 i hi;refine⟨?_,by rw [World.frozen?_setCell];exact hf⟩
  by_cases e:p=⟨b,off+i,none⟩
  ·subst e
   rw [hz] at hp
   injection hp with hp
   injection hp with hk _
   subst hk;exact⟨x,World.cell?_setCell_same _ _ _ hz⟩
  ·exact⟨z2,by rw [World.cell?_setCell_other _ _ _ _ e];exact hz⟩
def Spoilt (B U:Nat) (w w':World):Prop:=Below B w w'/\(∀ k a n,Soft k w a n->Soft k w' a n)/\∀ g,U<=g->g < w.heap.size->w'.heap[g]?=w.heap[g]?
def From (B U:Nat) (a:Option Addr) (n:Nat):Prop:=n=0∨∀ p,a=some p->B<=p.block/\p.block < U
theorem New.from {k:IntKind} {w:World} {B:Nat} {a:Option Addr} {zs:List Int} (h:New k w B a zs):From B w.heap.size a zs.length:=by
 rcases h with h0 | ⟨b,off,h1,hB,hU,_⟩
 ·left;rw [h0];rfl
 ·right;intro p hp;rw [h1] at hp;injection hp with hp;subst hp;exact⟨hB,hU⟩
theorem Box.of_heap {w w':World} {g:Nat} {s:Sl} {a:Ads} (h:Box w g s a) (e:w'.heap[g]?=w.heap[g]?) (hs:w.heap.size<=w'.heap.size):Box w' g s a:=by
 have hc:∀ o,w'.cell? ⟨g,o,none⟩=w.cell? ⟨g,o,none⟩:=fun o=>World.cell?_of_block (w:=w) (a:=⟨g,o,none⟩) e;exact⟨Nat.lt_of_lt_of_le h.lt hs,(hc 0).trans h.c0,(hc 1).trans h.c1,(hc 2).trans h.c2,(hc 3).trans h.c3,(hc 4).trans h.c4,(hc 5).trans h.c5,fun o=>(World.frozen?_of_block (w:=w) (a:=⟨g,o,none⟩) e).trans (h.fz o)⟩
structure SoftS (W:World) (B U:Nat) (s:Sl) (a:Ads):Prop where
 w:Soft .u64 W a.w s.words.length
 k:Soft .i64 W a.k s.keys.length
 v:Soft .i64 W a.v s.vals.length
 c:Soft .i64 W a.c s.counts.length
 fw:From B U a.w s.words.length
 fk:From B U a.k s.keys.length
 fv:From B U a.v s.vals.length
 fc:From B U a.c s.counts.length
theorem Own.soft {w:World} {B:Nat} {s:Sl} {a:Ads} (h:Own w B s a):SoftS w B w.heap.size s a:=by
 have h1:=h.words.soft;have h2:=h.words.from;rw [ints_length] at h1 h2;exact⟨h1,h.keys.soft,h.vals.soft,h.counts.soft,h2,h.keys.from,h.vals.from,h.counts.from⟩
theorem SoftS.keep {w w':World} {B U:Nat} {s:Sl} {a:Ads} (h:SoftS w B U s a) (hk:∀ k a n,Soft k w a n->Soft k w' a n):SoftS w' B U s a:=⟨hk _ _ _ h.w,hk _ _ _ h.k,hk _ _ _ h.v,hk _ _ _ h.c,h.fw,h.fk,h.fv,h.fc⟩
theorem SoftS.below {w w':World} {B U:Nat} {s:Sl} {a:Ads} (h:SoftS w B U s a) (hb:Below w.heap.size w w'):SoftS w' B U s a:=h.keep (fun _ _ _ hs=>hs.below hb)
def Ans (s:Sl) (er:Int) (w:World) (e:Ending) (w':World):Prop:=∃ a,e=.returned (.tuple #[slv s a,.int .i64 er])/\Own w' w.heap.size s a/\Below w.heap.size w w'
theorem short_none:Sl.none.Short:=⟨Nat.zero_le _,Nat.zero_le _,Nat.zero_le _,Nat.zero_le _⟩
theorem Sl.Short.emptied {s:Sl} (h:s.Short) (i:Nat):(s.emptied i).Short:=by
 refine⟨?_,?_,?_,?_⟩
 ·show (Oc.putW s.words i false).length<=65536;rw [putW_len];exact h.words
 ·show (s.keys.set i 0).length<=65536;rw [List.length_set];exact h.keys
 ·show (s.vals.set i 0).length<=65536;rw [List.length_set];exact h.vals
 ·show (Sl.emptied s i).counts.length<=65536
  unfold Sl.emptied;dsimp only;split
  ·rw [List.length_set];exact h.counts
  ·exact h.counts
theorem Sl.Short.filledAt {s:Sl} (h:s.Short) (i:Nat) (p:Int×Int):(s.filledAt i p).Short:=by
 refine⟨?_,?_,?_,?_⟩
 ·show (Oc.putW s.words i true).length<=65536;rw [putW_len];exact h.words
 ·show (s.keys.set i p.1).length<=65536;rw [List.length_set];exact h.keys
 ·show (s.vals.set i p.2).length<=65536;rw [List.length_set];exact h.vals
 ·show (s.counts.set _ _).length<=65536;rw [List.length_set];exact h.counts
theorem getD_zeros (n i:Nat):(List.replicate n (0:Int)).getD i 0=0:=by
 simp only [List.getD,List.getElem?_replicate]
 split<;>rfl
theorem getD_zerosN (n i:Nat):(List.replicate n (0:Nat)).getD i 0=0:=by
 simp only [List.getD,List.getElem?_replicate]
 split<;>rfl
theorem all64_zeros (n:Nat):All64 (List.replicate n 0):=fun i=>by rw [getD_zeros];exact⟨by omega,by omega⟩
theorem wide_zeros (n:Nat):Wide (List.replicate n 0):=fun i=>by rw [getD_zerosN];omega
theorem ok_none:Sl.none.Ok:=⟨⟨by show (-9223372036854775808:Int)<=0;omega,by show (0:Int)<=9223372036854775807;omega⟩,fun i=>by show ([]:List Nat).getD i 0 < _;simp,fun i=>by show In64 (([]:List Int).getD i 0);simp;exact⟨by omega,by omega⟩,fun i=>by show In64 (([]:List Int).getD i 0);simp;exact⟨by omega,by omega⟩,fun i=>by show In64 (([]:List Int).getD i 0);simp;exact⟨by omega,by omega⟩,by show (0:Nat) < _;omega⟩
theorem ok_new {seg many:Int} (hs:In64 seg):(Sl.newS seg many).Ok:=by
 unfold Sl.newS
 split
 ·exact⟨hs,wide_zeros _,all64_zeros _,all64_zeros _,all64_zeros _,by show (0:Nat) < _;omega⟩
 ·exact ok_none
theorem short_new {seg many:Int}:(Sl.newS seg many).Short:=by
 unfold Sl.newS
 split
 ·rename_i hf
  obtain⟨f1,f2,_,f4,f5,_,_⟩:=fits_yes hf
  have hq:many/seg<=65536:=by have:=Int.ediv_le_self (a:=many) seg (by omega);omega
  refine⟨?_,?_,?_,?_⟩
  ·show (List.replicate _ _).length<=_;rw [List.length_replicate];omega
  ·show (List.replicate _ _).length<=_;rw [List.length_replicate];omega
  ·show (List.replicate _ _).length<=_;rw [List.length_replicate];omega
  ·show (List.replicate _ _).length<=_;rw [List.length_replicate];omega
 ·exact short_none
theorem lay_parts {s:Sl} {i:Int} (h:s.layE i=0):s.mayB=true/\0<=i/\i < s.keys.length:=by
 unfold Sl.layE at h
 cases hm:s.mayB
 ·rw [hm] at h;simp at h
 ·cases hs:s.slotB i
  ·rw [hm,hs] at h;simp at h
  ·exact⟨rfl,(slot_iff.1 hs).1,(slot_iff.1 hs).2⟩
theorem move_parts {s:Sl} {i j:Int} (h:s.moveE i j=0):s.atE i=0/\s.slotB j=true/\(j=i∨Oc.isB s.words j.toNat=false):=by
 unfold Sl.moveE at h
 by_cases h1:s.atE i=0
 ·rw [if_pos h1] at h
  cases h2:s.slotB j
  ·rw [h2] at h;simp at h
  ·rw [h2,if_pos rfl] at h
   refine⟨h1,rfl,?_⟩
   by_cases h3:j=i
   ·exact Or.inl h3
   ·cases h4:Oc.isB s.words j.toNat
    ·exact Or.inr rfl
    ·rw [if_pos ⟨h3,h4⟩] at h;simp at h
 ·rw [if_neg h1] at h;exact absurd h h1
theorem chk_yes {s:Sl} (h:s.May):s.chk=0:=by unfold Sl.chk;rw [may_iff.2 h];rfl
theorem atE_may {s:Sl} (h:s.May) (i:Int):s.atE i=if 0<=i/\i < (s.keys.length:Int) then (if Oc.isB s.words i.toNat then 0 else 6) else 2:=by
 unfold Sl.atE;rw [may_iff.2 h,if_pos rfl]
 by_cases hs:s.slotB i=true
 ·rw [if_pos hs,if_pos (slot_iff.1 hs)]
 ·rw [if_neg hs,if_neg (fun e=>hs (slot_iff.2 e))]
structure There (s:Sl) (a b c:Int) (p:Int×Int):Prop where
 laid:(s.layS a p).atE a=0/\(s.layS a p).atV a=p
 chk1:(s.layS a p).chk=0
 led1:(s.layS a p).laid=(s.laid+1) % 18446744073709551616
 gone:((s.layS a p).clearS a).atE a=6
 chk2:((s.layS a p).clearS a).chk=0
 led2:((s.layS a p).clearS a).laid=(s.layS a p).laid
 stay1:c≠a->(s.layS a p).atE c=s.atE c/\(s.layS a p).atV c=s.atV c
 stay2:c≠a->((s.layS a p).clearS a).atE c=s.atE c/\((s.layS a p).clearS a).atV c=s.atV c
 moved:(s.layS a p).moveE a b=0->((s.layS a p).moveS a b).atE b=0/\((s.layS a p).moveS a b).atV b=p/\((s.layS a p).moveS a b).chk=0/\((s.layS a p).moveS a b).laid=((s.layS a p).laid+1) % 18446744073709551616/\(a≠b->((s.layS a p).moveS a b).atE a=6)/\(c≠a->c≠b->((s.layS a p).moveS a b).atE c=s.atE c/\((s.layS a p).moveS a b).atV c=s.atV c)
theorem at_same {s t:Sl} (hs:s.May) (ht:t.May) (hl:t.keys.length=s.keys.length) (c:Int) (h1:0<=c->Oc.isB t.words c.toNat=Oc.isB s.words c.toNat) (h2:0<=c->t.pairAt c.toNat=s.pairAt c.toNat):t.atE c=s.atE c/\t.atV c=s.atV c:=by
 have e:t.atE c=s.atE c:=by
  rw [atE_may ht,atE_may hs,hl]
  by_cases h:0<=c/\c < (s.keys.length:Int)
  ·rw [if_pos h,if_pos h,h1 h.1]
  ·rw [if_neg h,if_neg h]
 refine⟨e,?_⟩;unfold Sl.atV;rw [e]
 by_cases h:s.atE c=0
 ·rw [if_pos h,if_pos h]
  exact h2 (at_parts h).2.1
 ·rw [if_neg h,if_neg h]
theorem there {s:Sl} {a:Int} (b c:Int) (p:Int×Int) (hE:s.layE a=0):There s a b c p:=by
 obtain⟨hm,ha0,ha1⟩:=lay_parts hE;obtain⟨k,rfl⟩:∃ k:Nat,a=k:=⟨a.toNat,by omega⟩
 have hk:k < s.keys.length:=by omega
 have hM:=may_iff.1 hm
 have eL:s.layS k p=s.withP k p:=by unfold Sl.layS;rw [if_pos hE,Int.toNat_natCast]
 obtain⟨x,hx⟩:∃ x,x=s.withP k p:=⟨_,rfl⟩
 have xM:x.May:=by rw [hx];exact hM.withP p hk
 have xl:x.keys.length=s.keys.length:=by rw [hx];exact withP_keys s k p
 have xb:∀ j,Oc.isB x.words j=if j=k then true else Oc.isB s.words j:=fun j=>by rw [hx];exact withP_isB hM p hk j
 have xp:∀ j,j≠k->x.pairAt j=s.pairAt j:=fun j hj=>by rw [hx];exact withP_pair p hj
 have xs:x.pairAt k=p:=by rw [hx];exact withP_self hM p hk
 have xled:x.laid=(s.laid+1) % 18446744073709551616:=by rw [hx];rfl
 have xk:k < x.keys.length:=by omega
 have xe:x.atE k=0:=by rw [atE_may xM,if_pos ⟨by omega,by omega⟩,Int.toNat_natCast,xb,if_pos rfl];rfl
 have xv:x.atV k=p:=by unfold Sl.atV;rw [if_pos xe,Int.toNat_natCast,xs]
 have eC:x.clearS k=x.emptied k:=by unfold Sl.clearS;rw [if_pos xe,Int.toNat_natCast]
 have yM:=xM.emptied xk
 have yl:(x.emptied k).keys.length=s.keys.length:=by rw [emptied_keys,xl]
 rw [<-hx] at eL;refine⟨?_,?_,?_,?_,?_,?_,?_,?_,?_⟩
 ·rw [eL];exact⟨xe,xv⟩
 ·rw [eL];exact chk_yes xM
 ·rw [eL];exact xled
 ·rw [eL,eC,atE_may yM,if_pos ⟨by omega,by omega⟩,Int.toNat_natCast,emptied_off xM xk];rfl
 ·rw [eL,eC];exact chk_yes yM
 ·rw [eL,eC];rfl
 ·intro hc
  rw [eL];exact at_same hM xM xl c (fun h0=>by rw [xb,if_neg (by omega)]) (fun h0=>xp _ (by omega))
 ·intro hc
  rw [eL,eC];exact at_same hM yM yl c (fun h0=>by rw [emptied_isB xM xk,if_neg (by omega),xb,if_neg (by omega)]) (fun h0=>by rw [emptied_pair (by omega),xp _ (by omega)])
 ·intro hmv
  rw [eL] at hmv ⊢;obtain⟨_,hb,hor⟩:=move_parts hmv;obtain⟨hb0,hb1⟩:=slot_iff.1 hb;obtain⟨m,rfl⟩:∃ m:Nat,b=m:=⟨b.toNat,by omega⟩
  have eM:x.moveS k m=(x.emptied k).withP m p:=by unfold Sl.moveS;rw [if_pos hmv,Int.toNat_natCast,Int.toNat_natCast,xs]
  have hmk:m < (x.emptied k).keys.length:=by rw [emptied_keys];omega
  have zM:=yM.withP p hmk
  have zl:((x.emptied k).withP m p).keys.length=s.keys.length:=by rw [withP_keys,yl]
  have zb:=withP_isB yM p hmk
  have ze:((x.emptied k).withP m p).atE m=0:=by rw [atE_may zM,if_pos ⟨by omega,by omega⟩,Int.toNat_natCast,zb,if_pos rfl];rfl
  rw [eM];refine⟨ze,?_,chk_yes zM,rfl,?_,?_⟩
  ·unfold Sl.atV;rw [if_pos ze,Int.toNat_natCast,withP_self yM p hmk]
  ·intro hab
   have zk:Oc.isB ((x.emptied k).withP m p).words k=false:=by rw [zb,if_neg (show ¬ k=m by omega),emptied_off xM xk]
   rw [atE_may zM,if_pos ⟨by omega,by omega⟩,Int.toNat_natCast,zk];rfl
  ·intro hca hcb
   exact at_same hM zM zl c (fun h0=>by rw [zb,if_neg (by omega),emptied_isB xM xk,if_neg (by omega),xb,if_neg (by omega)]) (fun h0=>by rw [withP_pair p (by omega),emptied_pair (by omega),xp _ (by omega)])
end Go.Proofs.YtpeckljoannolaaGreatDoor
namespace Go.Proofs.YtpeckljoannolaaGreatDoor
open Go.ChangeShapes Go.WideShapes Go.ChangeAt Go.RowKit Go.Deep
section
variable {H:Type} {enc:TypeId×Value->H} {P:Program} {w:World} {base:Nat} {spare:Nat->Bool} {held:Bool}
theorem open_fields {r:Reach} {b0:Nat} {t:TypeId} {fs:Array Field} {v:Value} {d:DataW H} {p:List MemPlace} (hs:P.underlying t=some (.struct fs)) (hone:oneCellFields P fs=true) (hC:P.cellsOf t=fs.size)
  (hv:Value.okWide P w r b0 t v) (h:DataW.Trod enc P w base spare held t v d p) :
  ∃ cs:Array Value,v=.agg cs/\cs.size=fs.size/\∀ (j:Nat) (f:Field),fs[j]?=some f->∃ (u:Value) (y:DataW H×List MemPlace) (n:Nat),cs[j]?=some u/\DataW.trod enc P w base spare held n f.type [u]=some y:=by
 obtain⟨cs,rfl,hsz⟩:=okWide_struct hs hv;obtain⟨fuel,hf⟩:=h;obtain⟨xs,n,_,hx,_,hlen,hg⟩:=DataW.trod_struct hs hf;refine⟨cs,rfl,hsz.trans hC,fun j f hj=>?_⟩;obtain⟨ho,hk⟩:=hone_of hone j f hj
 have hjl:j < cs.size:=by rw [hsz,hC];exact (Array.getElem?_eq_some_iff.1 hj).1
 have h1:=hg j f hj;rw [ho,hk] at h1
 have e:((Value.agg cs).cells.toList.drop j).take 1=[cs[j]]:=by
  simp only [Value.cells]
  rw [List.drop_eq_getElem_cons (by simpa using hjl)]
  simp
 rw [e] at h1
 have hjx:j < xs.length:=by rw [hlen];exact (Array.getElem?_eq_some_iff.1 hj).1
 rw [List.getElem?_eq_getElem hjx] at h1;exact⟨cs[j],xs[j],n,Array.getElem?_eq_getElem hjl,h1⟩
end
end Go.Proofs.YtpeckljoannolaaGreatDoor
namespace Go.Proofs.YtpeckljoannolaaGreatDoor
open Go.ChangeShapes Go.WideShapes Go.ChangeAt Go.RowKit Go.Deep
section
variable {H:Type} {enc:TypeId×Value->H} {P:Program} {w:World} {base:Nat} {spare:Nat->Bool} {held:Bool}
theorem open_row {k:IntKind} {t e:TypeId} {u:Value} {n:Nat} {y:DataW H×List MemPlace} (ht:P.underlying t=some (.slice e)) (he:P.underlying e=some (.int k)) (hce:P.cellsOf e=1) (h:DataW.trod enc P w base spare held n t [u]=some y) :
  ∃ (a:Option Addr) (cap:Nat) (zs:List Int),u=.slice a zs.length cap/\Lst k w a zs/\(∀ z∈zs,(Lit.int k z).wf=true)/\(a=none->zs.length=0/\cap=0)/\zs.length<=cap/\cap<=maxLen:=by
 rcases open_ints ht he hce h with⟨hcs,_⟩ | ⟨x,l,c,zs,hcs,_,hl,hm,hz,_,hcell,hwz⟩
 ·injection hcs with hcs _
  exact⟨none,0,[],hcs,Or.inl rfl,fun z hz=>by simp at hz,fun _=>⟨rfl,rfl⟩,Nat.le_refl _,Nat.zero_le _⟩
 ·injection hcs with hcs _
  have hzl:l<=zs.length:=by rw [hz];split<;>omega
  have hlen:(zs.take l).length=l:=by rw [List.length_take];omega
  refine⟨some x,c,zs.take l,by rw [hlen];exact hcs,?_,fun z hzm=>hwz z (List.mem_of_mem_take hzm),fun e=>(by cases e),by rw [hlen];exact hl,hm⟩
  by_cases h0:l=0
  ·left;rw [h0];rfl
  ·right
   obtain⟨b,off,rfl,hc⟩:=ints_at hcell (by omega)
   have hlt:b < w.heap.size:=by
    have h1:=hc 0 (by omega)
    rcases Nat.lt_or_ge b w.heap.size with h2 | h2
    ·exact h2
    ·simp [World.cell?,Array.getElem?_eq_none h2] at h1
   refine⟨b,off,rfl,hlt,fun i hi=>?_⟩;rw [hlen] at hi;rw [hc i (by omega)]
   congr 2
   simp [List.getD,hi]
theorem all64_of {zs:List Int} (h:∀ z∈zs,(Lit.int .i64 z).wf=true):All64 zs:=by
 intro i
 rcases Nat.lt_or_ge i zs.length with h1 | h1
 ·have hm:zs.getD i 0∈zs:=by
   simp only [List.getD,List.getElem?_eq_getElem h1,Option.getD_some];exact List.getElem_mem h1
  exact bounds_i64 (h _ hm)
 ·rw [show zs.getD i 0=0 from by simp [List.getD,List.getElem?_eq_none h1]]
  exact⟨by omega,by omega⟩
theorem bounds_u64 {n:Int} (h:(Lit.int .u64 n).wf=true):0<=n/\n < 18446744073709551616:=by
 simp [Lit.wf,IntKind.min,IntKind.max,IntKind.signed,IntKind.bits] at h
 omega
theorem nats_of {zs:List Int} (h:∀ z∈zs,(Lit.int .u64 z).wf=true):∃ ws:List Nat,zs=ints ws/\Wide ws:=by
 refine⟨zs.map Int.toNat,?_,?_⟩
 ·unfold ints
  rw [List.map_map]
  conv=>lhs;rw [<-List.map_id zs]
  apply List.map_congr_left
  intro z hz;have:=(bounds_u64 (h z hz)).1
  simp only [Function.comp_apply,id_eq]
  omega
 ·intro i
  rcases Nat.lt_or_ge i zs.length with h1 | h1
  ·have hm:zs.getD i 0∈zs:=by
    simp only [List.getD,List.getElem?_eq_getElem h1,Option.getD_some];exact List.getElem_mem h1
   have h2:=(bounds_u64 (h _ hm)).2;have h3:=(bounds_u64 (h _ hm)).1
   have e:(zs.map Int.toNat).getD i 0=(zs.getD i 0).toNat:=by simp [List.getD,List.getElem?_eq_getElem h1]
   rw [e]
   omega
  ·have e:(zs.map Int.toNat).getD i 0=0:=by simp [List.getD,List.getElem?_eq_none h1]
   rw [e]
   omega
theorem open_pair {r:Reach} {b0:Nat} {t:TypeId} {f0 f1:Field} {v:Value} {d:DataW H} {p:List MemPlace} (hs:P.underlying t=some (.struct #[f0,f1])) (hone:oneCellFields P #[f0,f1]=true) (hC:P.cellsOf t=2)
  (t0:P.underlying f0.type=some (.int .i64)) (t1:P.underlying f1.type=some (.int .i64)) (hv:Value.okWide P w r b0 t v) (h:DataW.Trod enc P w base spare held t v d p) :
  ∃ x:Int×Int,v=pv x/\In64 x.1/\In64 x.2:=by
 obtain⟨cs,rfl,hsz,hf⟩:=open_fields hs hone hC hv h;obtain⟨u0,y0,n0,g0,r0⟩:=hf 0 f0 rfl;obtain⟨u1,y1,n1,g1,r1⟩:=hf 1 f1 rfl
 have hcs:cs=#[u0,u1]:=by
  obtain⟨l⟩:=cs
  match l,hsz with
  | [c0,c1],_ =>
   simp at g0 g1
   subst g0 g1
   rfl
 subst hcs;obtain⟨z0,e0,_,w0⟩:=DataW.trod_int t0 r0;obtain⟨z1,e1,_,w1⟩:=DataW.trod_int t1 r1
 injection e0 with e0 _
 injection e1 with e1 _
 subst e0 e1;exact⟨(z0,z1),rfl,bounds_i64 w0,bounds_i64 w1⟩
end
end Go.Proofs.YtpeckljoannolaaGreatDoor
