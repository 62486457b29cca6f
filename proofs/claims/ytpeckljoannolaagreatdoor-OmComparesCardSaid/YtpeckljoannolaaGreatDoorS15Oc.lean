/- Lists of keys as plain data, and what their checks answer. -/
import Derived.Test.YtpeckljoannolaaGreatDoorP09Oc
import Derived.Test.YtpeckljoannolaaGreatDoorFn14Oc
import Derived.Test.YtpeckljoannolaaGreatDoorP05Oc
import Derived.Test.YtpeckljoannolaaGreatDoorP07Oc
import Derived.Laws.Rows
import Derived.Laws.Tables
import Derived.BigFrame
import Derived.Test.YtpeckljoannolaaGreatDoorTkOc
set_option linter.unusedVariables false
set_option linter.unusedSimpArgs false
namespace Go.Proofs.YtpeckljoannolaaGreatDoor
open Go.RowKit
structure Od where
 cf:Cf
 sl:Sl
 tb:Ht
 moved:Nat
def Cf.nil:Cf:=⟨0,0,0,0,0,0,0,0,0⟩
def Od.zero:Od:=⟨Cf.nil,Sl.none,Ht.zero,0⟩
namespace Om
def pl (s:Sl):List Nat:=Oc.places s.words 0 s.keys.length
def key (s:Sl) (i:Nat):Int:=s.keys.getD i 0
def ks (s:Sl):List Int:=(pl s).map (key s)
def fineB (s:Sl) (t:Ht) (i:Nat):Bool:=decide (s.vals.getD i 0=0)&&decide (0<=key s i)&&decide (key s i < t.ats.length)&&decide (Hn.a t (key s i).toNat=i)
def linkB (s:Sl) (t:Ht):Bool:=decide (Hn.live t.ats=(pl s).length)&&(pl s).all (fineB s t)
def chkE (o:Od):Int:=if Gp.chkE o.cf o.sl=0 then (if Hn.mayB o.tb=true/\linkB o.sl o.tb=true then 0 else 8) else Gp.chkE o.cf o.sl
def hn (t:Ht) (n:Int):Int×Int:=(n,Hn.g t n.toNat)
def hands (o:Od):List (Int×Int):=(ks o.sl).map (hn o.tb)
def ix (h:Int×Int):List (Int×Int)->Nat
 | []=>0
 | x::l=>if x=h then 0 else ix h l+1
def inB (o:Od) (h:Int×Int):Bool:=decide (ix h (hands o) < (hands o).length)
def newV (c:Cf):Od:=if c.chkE=0 then ⟨c,Gp.newS c,Ht.zero,0⟩ else Od.zero
def listV (o:Od):List (Int×Int):=if chkE o=0 then hands o else []
def labE (o:Od) (h:Int×Int):Int:=if chkE o=0 then (if inB o h=true then 0 else 140) else chkE o
def labV (o:Od) (h:Int×Int):Int:=if labE o h=0 then Hn.a o.tb h.1.toNat else 0
def cmpE (o:Od) (h k:Int×Int):Int:=if chkE o=0 then (if inB o h=true/\inB o k=true then 0 else 140) else chkE o
def cmpV (o:Od) (h k:Int×Int):Int:=if cmpE o h k=0 then (if ix h (hands o) < ix k (hands o) then -1 else if ix k (hands o) < ix h (hands o) then 1 else 0) else 0
def settle (s:Sl) (but:Int):List Nat->List Int×Nat->List Int×Nat
 | [],r=>r
 | i::l,r=>settle s but l (r.1.set (key s i).toNat i,if r.1.getD (key s i).toNat 0≠i/\key s i≠but then (r.2+1) % 18446744073709551616 else r.2)
def settled (c:Cf) (s:Sl) (t:Ht) (m:Nat) (but:Int):Od:=⟨c,s,⟨t.gens,(settle s but (pl s) (t.ats,m)).1⟩,(settle s but (pl s) (t.ats,m)).2⟩
def inE (o:Od):Int:=if Gp.many o.sl=o.cf.most∨Hn.fullB o.tb=true then 9 else 0
def inO (o:Od) (k:Nat):Od:=settled o.cf (Gp.putS o.cf o.sl k ((Hn.free o.tb:Nat),0)) (Hn.given o.tb 0) o.moved (Hn.free o.tb:Nat)
def firE (o:Od):Int:=if chkE o=0 then inE o else chkE o
def firV (o:Od):Od:=if firE o=0 then inO o 0 else Od.zero
def firH (o:Od):Int×Int:=if firE o=0 then Hn.hnd o.tb else (0,0)
def besE (o:Od) (h:Int×Int):Int:=if chkE o=0 then (if inB o h=true then inE o else 140) else chkE o
def besV (o:Od) (h:Int×Int) (b:Nat):Od:=if besE o h=0 then inO o (ix h (hands o)+b) else Od.zero
def besH (o:Od) (h:Int×Int):Int×Int:=if besE o h=0 then Hn.hnd o.tb else (0,0)
def delE (o:Od) (h:Int×Int):Int:=labE o h
def outO (o:Od) (h:Int×Int):Od:=settled o.cf (Gp.takeS o.cf o.sl (ix h (hands o))) (Hn.back o.tb h.1.toNat) o.moved (-1)
def delV (o:Od) (h:Int×Int):Od:=if delE o h=0 then outO o h else Od.zero
end Om
structure Od.Ok (o:Od):Prop where
 sl:o.sl.Ok
 tb:o.tb.Ok
 moved:o.moved < 18446744073709551616
structure Od.Short (o:Od):Prop where
 sl:o.sl.Short
 tb:o.tb.Short
namespace Om
structure Fit (o:Od):Prop where
 gap:Gp.chkE o.cf o.sl=0
 may:Hn.May o.tb
 live:Hn.live o.tb.ats=(pl o.sl).length
 fine:∀ i,i∈pl o.sl->o.sl.vals.getD i 0=0/\0<=key o.sl i/\key o.sl i < o.tb.ats.length/\Hn.a o.tb (key o.sl i).toNat=i
theorem fine_iff {s:Sl} {t:Ht} {i:Nat}:fineB s t i=true↔s.vals.getD i 0=0/\0<=key s i/\key s i < t.ats.length/\Hn.a t (key s i).toNat=i:=by
 unfold fineB
 simp only [Bool.and_eq_true,decide_eq_true_eq,and_assoc]
theorem link_iff {s:Sl} {t:Ht}:linkB s t=true↔Hn.live t.ats=(pl s).length/\∀ i,i∈pl s->fineB s t i=true:=by
 unfold linkB
 simp only [Bool.and_eq_true,decide_eq_true_eq,List.all_eq_true]
theorem chk_gap {o:Od} (h:chkE o=0):Gp.chkE o.cf o.sl=0:=by
 unfold chkE at h
 split at h
 ·assumption
 ·assumption
theorem chk_fit {o:Od}:chkE o=0↔Fit o:=by
 constructor
 ·intro h
  have hg:=chk_gap h;unfold chkE at h;rw [if_pos hg] at h
  split at h
  ·rename_i hh
   obtain⟨h1,h2⟩:=link_iff.1 hh.2;exact⟨hg,(Hn.may_iff _).1 hh.1,h1,fun i hi=>fine_iff.1 (h2 i hi)⟩
  ·cases h
 ·intro h
  unfold chkE;rw [if_pos h.gap,if_pos ⟨(Hn.may_iff _).2 h.may,link_iff.2 ⟨h.live,fun i hi=>fine_iff.2 (h.fine i hi)⟩⟩]
/-! What is where. -/
theorem ix_le (h:Int×Int):∀ l,ix h l<=l.length
 | []=>Nat.le_refl _
 | x::l=>by
  have:=ix_le h l;unfold ix
  split
  ·simp
  ·simp;exact this
theorem ix_get {h:Int×Int}:∀ {l:List (Int×Int)},ix h l < l.length->l.getD (ix h l) (0,0)=h
 | [],hl=>by simp at hl
 | x::l,hl=>by
  by_cases e:x=h
  ·have:ix h (x::l)=0:=by unfold ix;rw [if_pos e]
   rw [this];exact e
  ·have h1:ix h (x::l)=ix h l+1:=by conv=>lhs;unfold ix;rw [if_neg e]
   rw [h1] at hl ⊢;exact ix_get (l:=l) (by simpa using hl)
theorem ix_mem {h:Int×Int}:∀ {l:List (Int×Int)},ix h l < l.length↔h∈l
 | []=>by simp [ix]
 | x::l=>by
  have ih:=ix_mem (h:=h) (l:=l)
  by_cases e:x=h
  ·have:ix h (x::l)=0:=by unfold ix;rw [if_pos e]
   rw [this];simp [e]
  ·have h1:ix h (x::l)=ix h l+1:=by conv=>lhs;unfold ix;rw [if_neg e]
   rw [h1,List.length_cons,Nat.add_lt_add_iff_right,ih,List.mem_cons];exact⟨Or.inr,fun h=>h.resolve_left (fun q=>e q.symm)⟩
theorem ix_nth:∀ {l:List (Int×Int)} {k:Nat},l.Nodup->k < l.length->ix (l.getD k (0,0)) l=k
 | [],k,_,hk=>by simp at hk
 | x::l,0,_,_=>by unfold ix;simp
 | x::l,k+1,hn,hk=>by
  have hk':k < l.length:=by simpa using hk
  have e:(x::l).getD (k+1) (0,0)=l.getD k (0,0):=rfl;rw [e]
  have hm:l.getD k (0,0)∈l:=by simp [List.getD,List.getElem?_eq_getElem hk']
  have hx:¬ x=l.getD k (0,0):=fun q=>(List.nodup_cons.1 hn).1 (q▸hm);unfold ix;rw [if_neg hx,ix_nth (List.nodup_cons.1 hn).2 hk']
theorem in_iff {o:Od} {h:Int×Int}:inB o h=true↔h∈hands o:=by
 unfold inB;rw [decide_eq_true_eq,ix_mem]
/-! The numbers, by the pairs. -/
theorem ks_all (s:Sl):ks s=(Gp.all s).map Prod.fst:=by
 unfold ks Gp.all Sl.of pl;rw [List.map_map]
 rfl
theorem ks_len (s:Sl):(ks s).length=(pl s).length:=by unfold ks;rw [List.length_map]
theorem hands_len (o:Od):(hands o).length=(pl o.sl).length:=by unfold hands;rw [List.length_map,ks_len]
theorem many_pl (s:Sl):Gp.many s=((pl s).length:Int):=by
 rw [<-Gp.all_len];unfold Gp.all Sl.of pl;rw [List.length_map]
theorem pl_nodup (s:Sl):(pl s).Nodup:=by
 unfold pl Oc.places;exact List.Nodup.sublist List.filter_sublist (List.nodup_range' (step:=1) (by omega))
theorem pl_sorted (s:Sl):(pl s).Pairwise (· < ·):=by
 unfold pl Oc.places;exact List.Pairwise.sublist List.filter_sublist (List.pairwise_lt_range' 1 (by omega))
theorem key_inj {o:Od} (F:Fit o) {i j:Nat} (hi:i∈pl o.sl) (hj:j∈pl o.sl) (e:key o.sl i=key o.sl j):i=j:=by
 have h1:=(F.fine i hi).2.2.2;have h2:=(F.fine j hj).2.2.2;rw [e] at h1;rw [h1] at h2
 omega
theorem map_nodup {α β:Type} {f:α->β}:∀ {l:List α},l.Nodup->(∀ x,x∈l->∀ y,y∈l->f x=f y->x=y)->(l.map f).Nodup
 | [],_,_=>List.nodup_nil
 | x::l,hn,hf=>by
  rw [List.map_cons,List.nodup_cons];refine⟨fun hm=>?_,map_nodup (List.nodup_cons.1 hn).2 (fun a ha b hb=>hf a (List.mem_cons_of_mem _ ha) b (List.mem_cons_of_mem _ hb))⟩;obtain⟨y,hy,e⟩:=List.mem_map.1 hm;have:=hf x (List.mem_cons_self ..) y (List.mem_cons_of_mem _ hy) e.symm;exact (List.nodup_cons.1 hn).1 (this▸hy)
theorem ks_nodup {o:Od} (F:Fit o):(ks o.sl).Nodup:=map_nodup (pl_nodup _) (fun i hi j hj e=>key_inj F hi hj e)
theorem hands_nodup {o:Od} (F:Fit o):(hands o).Nodup:=map_nodup (ks_nodup F) (fun a _ b _ e=>congrArg Prod.fst e)
theorem ks_fine {o:Od} (F:Fit o) {n:Int} (h:n∈ks o.sl):0<=n/\n < o.tb.gens.length/\0<=Hn.a o.tb n.toNat:=by
 unfold ks at h;obtain⟨i,hi,rfl⟩:=List.mem_map.1 h;obtain⟨_,h1,h2,h3⟩:=F.fine i hi;refine⟨h1,by have:=F.may.len;omega,by rw [h3];omega⟩
theorem nth_hand {o:Od} (F:Fit o) {k:Nat} (hk:k < (hands o).length) :
  (hands o).getD k (0,0)=hn o.tb (key o.sl ((pl o.sl).getD k 0))/\(pl o.sl).getD k 0∈pl o.sl/\Hn.a o.tb ((hands o).getD k (0,0)).1.toNat=((pl o.sl).getD k 0:Nat):=by
 have hk':k < (pl o.sl).length:=by rw [<-hands_len o];exact hk
 have hm:(pl o.sl).getD k 0∈pl o.sl:=by simp [List.getD,List.getElem?_eq_getElem hk']
 have e:(hands o).getD k (0,0)=hn o.tb (key o.sl ((pl o.sl).getD k 0)):=by
  unfold hands ks
  simp [List.getD,List.getElem?_map,List.getElem?_eq_getElem hk']
 refine⟨e,hm,?_⟩;rw [e];exact (F.fine _ hm).2.2.2
end Om
namespace Om
/-! Settling. -/
theorem settle_len (s:Sl) (but:Int):∀ (l:List Nat) (r:List Int×Nat),(settle s but l r).1.length=r.1.length
 | [],r=>rfl
 | i::l,r=>by
  show (settle s but l _).1.length=_
  rw [settle_len s but l];exact List.length_set
theorem settle_at (s:Sl) (but:Int):∀ (l:List Nat) (r:List Int×Nat) (n:Nat),(l.map (key s)).Nodup->(∀ i,i∈l->0<=key s i/\key s i < r.1.length) ->
  (∀ i,i∈l->key s i=(n:Int)->(settle s but l r).1.getD n 0=i)/\((∀ i,i∈l->¬ key s i=(n:Int))->(settle s but l r).1.getD n 0=r.1.getD n 0)
 | [],r,n,_,_=>⟨fun i h=>(by cases h),fun _=>rfl⟩
 | j::l,r,n,hn,hf=>by
  obtain⟨hj,hl⟩:=List.nodup_cons.1 hn;obtain⟨h0,h1⟩:=hf j (List.mem_cons_self ..)
  have ih:=settle_at s but l (r.1.set (key s j).toNat j,if r.1.getD (key s j).toNat 0≠j/\key s j≠but then (r.2+1) % 18446744073709551616 else r.2) n hl (fun i hi=>by
   have:=hf i (List.mem_cons_of_mem _ hi)
   exact⟨this.1,by show key s i < (r.1.set _ _).length;rw [List.length_set];exact this.2⟩)
  show (∀ i,i∈j::l->key s i=(n:Int)->(settle s but l _).1.getD n 0=i)/\((∀ i,i∈j::l->¬ key s i=(n:Int))->(settle s but l _).1.getD n 0=r.1.getD n 0)
  constructor
  ·intro i hi he
   rcases List.mem_cons.1 hi with rfl | hi
   ·rw [ih.2 (fun q hq e=>hj (by rw [he,<-e];exact List.mem_map.2 ⟨q,hq,rfl⟩))]
    show (r.1.set (key s i).toNat i).getD n 0=i
    rw [he,Int.toNat_natCast]
    simp only [List.getD,List.getElem?_set,if_true]
    rw [if_pos (by omega)]
    rfl
   ·exact ih.1 i hi he
  ·intro h
   rw [ih.2 (fun i hi=>h i (List.mem_cons_of_mem _ hi))]
   show (r.1.set (key s j).toNat j).getD n 0=r.1.getD n 0
   have:=h j (List.mem_cons_self ..)
   simp only [List.getD,List.getElem?_set]
   rw [if_neg (by omega)]
theorem live_keep:∀ (zs:List Int) (i:Nat) (p:Int),i < zs.length->0<=zs.getD i 0->0<=p->Hn.live (zs.set i p)=Hn.live zs
 | [],i,p,h,_,_=>by simp at h
 | z::zs,0,p,_,h2,h3=>by
  have:0<=z:=by simpa using h2
  simp [Hn.live,this,h3]
 | z::zs,i+1,p,h1,h2,h3=>by
  have:=live_keep zs i p (by simpa using h1) (by simpa using h2) h3;unfold Hn.live at this ⊢;rw [List.set_cons_succ,List.filter_cons,List.filter_cons]
  split<;>simp [this]
theorem live_free:∀ (zs:List Int) (i:Nat),i < zs.length->0<=zs.getD i 0->Hn.live zs=Hn.live (zs.set i (-1))+1
 | [],i,h,_=>by simp at h
 | z::zs,0,_,h2=>by
  have:0<=z:=by simpa using h2
  simp [Hn.live,this]
 | z::zs,i+1,h1,h2=>by
  have:=live_free zs i (by simpa using h1) (by simpa using h2);unfold Hn.live at this ⊢;rw [List.set_cons_succ,List.filter_cons,List.filter_cons]
  split<;>simp [this]
theorem settle_live (s:Sl) (but:Int):∀ (l:List Nat) (r:List Int×Nat),(∀ i,i∈l->0<=key s i/\key s i < r.1.length/\0<=r.1.getD (key s i).toNat 0)->Hn.live (settle s but l r).1=Hn.live r.1
 | [],r,_=>rfl
 | j::l,r,hf=>by
  obtain⟨h0,h1,h2⟩:=hf j (List.mem_cons_self ..)
  show Hn.live (settle s but l _).1=_
  rw [settle_live s but l _ (fun i hi=>?_)]
  ·exact live_keep _ _ _ (by omega) h2 (by omega)
  ·obtain⟨q0,q1,q2⟩:=hf i (List.mem_cons_of_mem _ hi)
   refine⟨q0,by show key s i < (r.1.set _ _).length;rw [List.length_set];exact q1,?_⟩
   show 0<=(r.1.set (key s j).toNat j).getD (key s i).toNat 0
   simp only [List.getD,List.getElem?_set]
   split
   ·split
    ·simp
    ·simp
   ·exact q2
def turned (s:Sl) (zs:List Int) (but:Int) (l:List Nat):Nat:=(l.filter fun i=>decide (zs.getD (key s i).toNat 0≠i)&&decide (key s i≠but)).length
theorem settled_fit {c:Cf} {s:Sl} {t:Ht} {m:Nat} {but:Int} (hg:Gp.chkE c s=0) (hm:Hn.May t) (hk:(ks s).Nodup) (hl:Hn.live t.ats=(pl s).length)
  (hf:∀ i,i∈pl s->s.vals.getD i 0=0/\0<=key s i/\key s i < t.ats.length/\0<=Hn.a t (key s i).toNat):Fit (settled c s t m but):=by
 have A:=fun n=>settle_at s but (pl s) (t.ats,m) n hk (fun i hi=>⟨(hf i hi).2.1,(hf i hi).2.2.1⟩);have L:(settle s but (pl s) (t.ats,m)).1.length=t.ats.length:=settle_len s but (pl s) (t.ats,m);refine⟨hg,⟨?_,hm.most,fun n hn=>?_⟩,?_,fun i hi=>?_⟩
 ·show (settle s but (pl s) (t.ats,m)).1.length=t.gens.length
  rw [L];exact hm.len
 ·have h1:=hm.fine n hn
  show 0<=Hn.g t n/\Hn.g t n<=2147483647/\-1<=(settle s but (pl s) (t.ats,m)).1.getD n 0/\((settle s but (pl s) (t.ats,m)).1.getD n 0 < 0∨Hn.g t n≠2147483647)
  by_cases he:∃ i,i∈pl s/\key s i=(n:Int)
  ·obtain⟨i,hi,e⟩:=he
   rw [(A n).1 i hi e];have h2:=(hf i hi).2.2.2;rw [e,Int.toNat_natCast] at h2;exact⟨h1.1,h1.2.1,by omega,Or.inr (h1.2.2.2.resolve_left (by omega))⟩
  ·rw [(A n).2 (fun i hi e=>he ⟨i,hi,e⟩)]
   exact h1
 ·show Hn.live (settle s but (pl s) (t.ats,m)).1=(pl s).length
  rw [settle_live s but (pl s) (t.ats,m) (fun i hi=>⟨(hf i hi).2.1,(hf i hi).2.2.1,(hf i hi).2.2.2⟩)];exact hl
 ·obtain⟨h1,h2,h3,_⟩:=hf i hi
  refine⟨h1,h2,by show key s i < ((settle s but (pl s) (t.ats,m)).1.length:Int);rw [L];exact h3,?_⟩;exact (A (key s i).toNat).1 i hi (by omega)
theorem settled_hands (c:Cf) (s:Sl) (t:Ht) (m:Nat) (but:Int):hands (settled c s t m but)=(ks s).map (hn t):=rfl
end Om
namespace Om
theorem all_fine {s:Sl} {t:Ht} (h:∀ q,q∈Gp.all s->q.2=0/\0<=q.1/\q.1 < t.ats.length/\0<=Hn.a t q.1.toNat) :
  ∀ i,i∈pl s->s.vals.getD i 0=0/\0<=key s i/\key s i < t.ats.length/\0<=Hn.a t (key s i).toNat:=fun i hi =>
 h (s.pairAt i) (by unfold Gp.all Sl.of;exact List.mem_map.2 ⟨i,hi,rfl⟩)
theorem fit_all {o:Od} (F:Fit o):∀ q,q∈Gp.all o.sl->q.2=0/\0<=q.1/\q.1 < o.tb.ats.length/\0<=Hn.a o.tb q.1.toNat:=fun q hq=>by
 unfold Gp.all Sl.of at hq;obtain⟨i,hi,rfl⟩:=List.mem_map.1 hq;obtain⟨h1,h2,h3,h4⟩:=F.fine i hi;exact⟨h1,h2,h3,by show 0<=Hn.a o.tb (key o.sl i).toNat;rw [h4];omega⟩
theorem free_new {o:Od} (F:Fit o):¬ ((Hn.free o.tb:Nat):Int)∈ks o.sl:=fun h=>by
 obtain⟨_,h1,h2⟩:=ks_fine F h;rw [Int.toNat_natCast] at h2;have:=((Hn.free_iff o.tb _).1 (Hn.free_at (by omega))).1
 omega
theorem hnd_hn (t:Ht):Hn.hnd t=hn t (Hn.free t:Nat):=by unfold Hn.hnd hn;rw [Int.toNat_natCast]
theorem in_no {o:Od} (h:inE o=0):¬ Gp.many o.sl=o.cf.most/\Hn.fullB o.tb=false:=by
 unfold inE at h
 split at h
 ·cases h
 ·rename_i hh
  exact⟨fun e=>hh (Or.inl e),by cases hf:Hn.fullB o.tb;rfl;exact absurd (Or.inr hf) hh⟩
theorem in_put {o:Od} (F:Fit o) (h:inE o=0) {k:Nat} (hk:k<=(hands o).length):Gp.putE o.cf o.sl k=0:=by
 unfold Gp.putE;rw [if_pos F.gap,if_pos ⟨by omega,by rw [many_pl,<-hands_len o];omega⟩,if_neg (in_no h).1]
theorem put_pairs {c:Cf} {s:Sl} (hok:s.Ok) {k:Nat} {p:Int×Int} (h:Gp.putE c s k=0):Gp.all (Gp.putS c s k p)=Ly.among (Gp.all s) k p:=by
 obtain⟨hc,h0,h1,hne⟩:=Gp.put_ok h;obtain⟨H,O⟩:=Gp.own_of hc;rw [Gp.put_s h,(Gp.put_all O hok.laid hok.seg h0 h1 hne p).got.2,Int.toNat_natCast]
theorem take_pairs {c:Cf} {s:Sl} (hok:s.Ok) {k:Nat} (h:Gp.takeE c s k=0):Gp.all (Gp.takeS c s k)=(Gp.all s).take k++(Gp.all s).drop (k+1):=by
 obtain⟨hc,h0,h1⟩:=Gp.take_ok h;obtain⟨H,O⟩:=Gp.own_of hc;rw [Gp.take_s h,Int.toNat_natCast,(Gp.take_all O hok.laid hok.seg h1).all]
theorem mem_among {l:List (Int×Int)} {k:Nat} {p q:Int×Int} (h:q∈Ly.among l k p):q=p∨q∈l:=by
 unfold Ly.among at h
 rcases List.mem_append.1 h with h | h
 ·exact Or.inr (List.mem_of_mem_take h)
 ·rcases List.mem_cons.1 h with h | h
  ·exact Or.inl h
  ·exact Or.inr (List.mem_of_mem_drop h)
theorem nodup_among {α:Type} {l:List α} {x:α} (h:l.Nodup) (hx:¬ x∈l) (k:Nat):(l.take k++x::l.drop k).Nodup:=by
 have h2:(l.take k++l.drop k).Nodup:=by rw [List.take_append_drop];exact h
 obtain⟨a,b,c⟩:=List.nodup_append.1 h2;refine List.nodup_append.2 ⟨a,List.nodup_cons.2 ⟨fun e=>hx (List.mem_of_mem_drop e),b⟩,fun y hy z hz=>?_⟩
 rcases List.mem_cons.1 hz with rfl | hz
 ·rintro rfl;exact hx (List.mem_of_mem_take hy)
 ·exact c y hy z hz
structure In (o:Od) (k:Nat):Prop where
 fit:Fit (inO o k)
 hands:hands (inO o k)=(Om.hands o).take k++Hn.hnd o.tb::(Om.hands o).drop k
 new:¬ Hn.hnd o.tb∈Om.hands o
theorem given_len {t:Ht} (hM:Hn.May t):Hn.free t < (Hn.given t 0).ats.length:=by
 have h1:=Hn.free_le t;have h2:=hM.len;unfold Hn.given
 split
 ·rw [List.length_set];omega
 ·simp;omega
theorem in_ok {o:Od} (F:Fit o) (hok:o.Ok) (hi:inE o=0) {k:Nat} (hk:k<=(hands o).length):In o k:=by
 have hp:=in_put F hi hk;obtain⟨_,hf⟩:=in_no hi;have ha:=put_pairs (p:=(((Hn.free o.tb:Nat):Int),0)) hok.sl hp
 have hks:ks (Gp.putS o.cf o.sl k ((Hn.free o.tb:Nat),0))=(ks o.sl).take k++((Hn.free o.tb:Nat):Int)::(ks o.sl).drop k:=by
  rw [ks_all,ha,ks_all];unfold Ly.among;rw [List.map_append,List.map_cons,List.map_take,List.map_drop]
 have hnw:=free_new F;have gl:=Hn.given_lens F.may 0;refine⟨?_,?_,?_⟩
 ·refine settled_fit (Gp.put_chk hok.sl hp) (Hn.may_given F.may hf (by omega)) (by rw [hks];exact nodup_among (ks_nodup F) hnw k) ?_ (all_fine fun q hq=>?_)
  ·rw [Hn.live_given F.may (by omega),F.live,<-ks_len,<-ks_len,hks]
   simp only [List.length_append,List.length_cons,List.length_take,List.length_drop]
   rw [hands_len,<-ks_len] at hk
   omega
  ·rw [ha] at hq
   rcases mem_among hq with rfl | hq
   ·refine⟨rfl,by show (0:Int)<=((Hn.free o.tb:Nat):Int);omega,by have:=given_len F.may;show ((Hn.free o.tb:Nat):Int) < _;omega,?_⟩
    show 0<=Hn.a (Hn.given o.tb 0) ((Hn.free o.tb:Nat):Int).toNat
    rw [Int.toNat_natCast,Hn.given_a F.may,if_pos rfl]
    omega
   ·obtain⟨h1,h2,h3,h4⟩:=fit_all F q hq
    refine⟨h1,h2,by have:=F.may.len;omega,?_⟩;rw [Hn.given_a F.may]
    split
    ·omega
    ·exact h4
 ·show (ks (Gp.putS o.cf o.sl k ((Hn.free o.tb:Nat),0))).map (hn (Hn.given o.tb 0))=_
  have eh:hn (Hn.given o.tb 0)=hn o.tb:=by funext n;unfold hn;rw [Hn.given_g]
  rw [hks,eh,hnd_hn];unfold hands;rw [List.map_append,List.map_cons,List.map_take,List.map_drop]
 ·rw [hnd_hn]
  intro h;unfold hands at h;obtain⟨n,hn1,e⟩:=List.mem_map.1 h;have:=congrArg Prod.fst e;exact hnw (by rw [<-show n=((Hn.free o.tb:Nat):Int) from this];exact hn1)
theorem hand_is {o:Od} (F:Fit o) {h:Int×Int} (hi:ix h (hands o) < (hands o).length) :
  Hn.isB o.tb h=true/\h.1=key o.sl ((pl o.sl).getD (ix h (hands o)) 0)/\Hn.a o.tb h.1.toNat=((pl o.sl).getD (ix h (hands o)) 0:Nat):=by
 obtain⟨h1,h2,h3⟩:=nth_hand F hi;rw [ix_get hi] at h1 h3;have e:h.1=key o.sl ((pl o.sl).getD (ix h (hands o)) 0):=congrArg Prod.fst h1;obtain⟨_,f2,f3,_⟩:=F.fine _ h2;refine⟨(Hn.is_iff o.tb h).2 ⟨by rw [e];exact f2,by have:=F.may.len;rw [e];omega,by rw [h3];omega,?_⟩,e,h3⟩;have e2:h.2=Hn.g o.tb (key o.sl ((pl o.sl).getD (ix h (hands o)) 0)).toNat:=congrArg Prod.snd h1;rw [e,<-e2]
theorem drop_get {α:Type} {l:List α} {k:Nat} (h:k < l.length):l.drop k=l[k]::l.drop (k+1):=List.drop_eq_getElem_cons h
structure Out (o:Od) (h:Int×Int):Prop where
 fit:Fit (outO o h)
 hands:hands (outO o h)=(Om.hands o).take (ix h (Om.hands o))++(Om.hands o).drop (ix h (Om.hands o)+1)
 gone:¬ h∈Om.hands (outO o h)
theorem out_ok {o:Od} (F:Fit o) (hok:o.Ok) {h:Int×Int} (hi:ix h (hands o) < (hands o).length):Out o h:=by
 obtain⟨his,hkey,hat⟩:=hand_is F hi;obtain⟨k,hk⟩:∃ k,ix h (hands o)=k:=⟨_,rfl⟩;obtain⟨i0,i1,i2,i3⟩:=(Hn.is_iff o.tb h).1 his;have hl:=F.may.len
 have hkl:k < (ks o.sl).length:=by rw [ks_len,<-hands_len o];omega
 have ht:Gp.takeE o.cf o.sl k=0:=by
  unfold Gp.takeE;rw [if_pos F.gap,if_pos ⟨by omega,by rw [many_pl,<-ks_len];omega⟩]
 have ha:=take_pairs hok.sl ht
 have hks:ks (Gp.takeS o.cf o.sl k)=(ks o.sl).take k++(ks o.sl).drop (k+1):=by
  rw [ks_all,ha,ks_all,List.map_append,List.map_take,List.map_drop]
 have hkk:(ks o.sl)[k]=h.1:=by
  rw [hkey,hk]
  have hkp:k < (pl o.sl).length:=by rw [<-ks_len];exact hkl
  rw [show (pl o.sl).getD k 0=(pl o.sl)[k] by simp [List.getD,List.getElem?_eq_getElem hkp]];unfold ks;exact List.getElem_map _
 have hnd:(ks o.sl).Nodup:=ks_nodup F
 have hnot:¬ h.1∈ks (Gp.takeS o.cf o.sl k)/\(ks (Gp.takeS o.cf o.sl k)).Nodup:=by
  have e:ks o.sl=(ks o.sl).take k++h.1::(ks o.sl).drop (k+1):=by
   rw [<-hkk,<-drop_get hkl,List.take_append_drop]
  rw [e] at hnd;obtain⟨a,b,c⟩:=List.nodup_append.1 hnd;obtain⟨b1,b2⟩:=List.nodup_cons.1 b;rw [hks];refine⟨fun hm=>?_,List.nodup_append.2 ⟨a,b2,fun y hy z hz=>c y hy z (List.mem_cons_of_mem _ hz)⟩⟩
  rcases List.mem_append.1 hm with hm | hm
  ·exact c _ hm _ (List.mem_cons_self ..) rfl
  ·exact b1 hm
 have hmem:∀ n,n∈ks (Gp.takeS o.cf o.sl k)->n∈ks o.sl:=fun n hn=>by
  rw [hks] at hn
  rcases List.mem_append.1 hn with hn | hn
  ·exact List.mem_of_mem_take hn
  ·exact List.mem_of_mem_drop hn
 have hne:∀ n,n∈ks (Gp.takeS o.cf o.sl k)->¬ n.toNat=h.1.toNat:=fun n hn e=>hnot.1 (by
  have:=(ks_fine F (hmem n hn)).1;rw [show h.1=n by omega]
  exact hn)
 have eh:(ks (Gp.takeS o.cf o.sl k)).map (hn (Hn.back o.tb h.1.toNat))=(Om.hands o).take k++(Om.hands o).drop (k+1):=by
  rw [List.map_congr_left (g:=hn o.tb) (fun n hn1=>by
   unfold hn
   rw [Hn.back_g,if_neg (fun q=>hne n hn1 q.1)])]
  rw [hks];unfold hands;rw [List.map_append,List.map_take,List.map_drop]
 have hbl:(Hn.back o.tb h.1.toNat).ats.length=o.tb.ats.length:=List.length_set
 have hO:outO o h=settled o.cf (Gp.takeS o.cf o.sl k) (Hn.back o.tb h.1.toNat) o.moved (-1):=by unfold outO;rw [hk]
 refine⟨?_,?_,?_⟩
 ·rw [hO]
  refine settled_fit (Gp.take_chk hok.sl ht) (Hn.may_back F.may his) hnot.2 ?_ (all_fine fun q hq=>?_)
  ·have h1:=live_free o.tb.ats h.1.toNat (by omega) i2
   have h2:=F.live;rw [<-ks_len] at h2 ⊢
   show Hn.live (o.tb.ats.set h.1.toNat (-1))=_
   rw [hks]
   simp only [List.length_append,List.length_take,List.length_drop]
   omega
  ·have hq1:q.1∈ks (Gp.takeS o.cf o.sl k):=by rw [ks_all];exact List.mem_map.2 ⟨q,hq,rfl⟩
   have hq2:q∈Gp.all o.sl:=by
    rw [ha] at hq
    rcases List.mem_append.1 hq with hq | hq
    ·exact List.mem_of_mem_take hq
    ·exact List.mem_of_mem_drop hq
   obtain⟨h1,h2,h3,h4⟩:=fit_all F q hq2;refine⟨h1,h2,by rw [hbl];exact h3,?_⟩;rw [Hn.back_a,if_neg (fun e=>hne _ hq1 e.1)];exact h4
 ·rw [hO,settled_hands,eh,hk]
 ·rw [hO,settled_hands]
  intro hm;obtain⟨n,hn1,e⟩:=List.mem_map.1 hm;have:=congrArg Prod.fst e;exact hnot.1 (by rw [<-show n=h.1 from this];exact hn1)
/-! Labels, and how two stand. -/
theorem lab_nth {o:Od} (F:Fit o) {k:Nat} (hk:k < (hands o).length):labE o ((hands o).getD k (0,0))=0/\labV o ((hands o).getD k (0,0))=((pl o.sl).getD k 0:Nat):=by
 have e:labE o ((hands o).getD k (0,0))=0:=by
  unfold labE inB;rw [if_pos (chk_fit.2 F),ix_nth (hands_nodup F) hk,if_pos (decide_eq_true hk)]
 refine⟨e,?_⟩;unfold labV;rw [if_pos e];exact (nth_hand F hk).2.2
theorem cmp_nth {o:Od} (F:Fit o) {j k:Nat} (hj:j < (hands o).length) (hk:k < (hands o).length) :
  cmpE o ((hands o).getD j (0,0)) ((hands o).getD k (0,0))=0/\cmpV o ((hands o).getD j (0,0)) ((hands o).getD k (0,0))=if j < k then -1 else if k < j then 1 else 0:=by
 have h1:=ix_nth (hands_nodup F) hj;have h2:=ix_nth (hands_nodup F) hk
 have e:cmpE o ((hands o).getD j (0,0)) ((hands o).getD k (0,0))=0:=by
  unfold cmpE inB;rw [if_pos (chk_fit.2 F),h1,h2,if_pos ⟨decide_eq_true hj,decide_eq_true hk⟩]
 refine⟨e,?_⟩;unfold cmpV;rw [if_pos e,h1,h2]
theorem pl_lt {s:Sl} {j k:Nat} (hk:k < (pl s).length) (h:j < k):(pl s).getD j 0 < (pl s).getD k 0:=by
 have:=(List.pairwise_iff_getElem.1 (pl_sorted s)) j k (by omega) hk h;rw [List.getD_eq_getElem?_getD,List.getD_eq_getElem?_getD,List.getElem?_eq_getElem (by omega),List.getElem?_eq_getElem hk];exact this
end Om
def odCells (o:Od) (a:Ads) (A:HAds):Array Value :=
 #[.int .u8 o.cf.tag,.int .i64 o.cf.most,.int .i64 o.cf.seg,.int .i64 o.cf.least,.int .i64 o.cf.den,.int .i64 o.cf.ll,.int .i64 o.cf.rl,.int .i64 o.cf.rh,.int .i64 o.cf.lh,
  .int .i64 o.sl.seg,.slice a.w o.sl.words.length a.cw,.slice a.k o.sl.keys.length a.ck,.slice a.v o.sl.vals.length a.cv,.slice a.c o.sl.counts.length a.cc,.int .u64 (o.sl.laid:Int),
  .slice A.g o.tb.gens.length A.cg,.slice A.a o.tb.ats.length A.ca,.int .u64 (o.moved:Int)]
def odv (o:Od) (a:Ads) (A:HAds):Value:=.agg (odCells o a A)
structure OHeld (w:World) (o:Od) (a:Ads) (A:HAds):Prop where
 sl:Held w o.sl a
 tb:HHeld w o.tb A
theorem OHeld.below {w w':World} {o:Od} {a:Ads} {A:HAds} (h:OHeld w o a A) (hb:Below w.heap.size w w'):OHeld w' o a A:=⟨h.sl.below hb,h.tb.below hb⟩
structure Od.In (o:Od):Prop where
 cf:o.cf.In
 ok:o.Ok
 short:o.Short
def OBox (w:World) (b:Nat) (o:Od) (a:Ads) (A:HAds):Prop:=∃ T,w.heap[b]?=some (.cells (odCells o a A) T (0,0))
theorem OBox.lt {w:World} {b:Nat} {o:Od} {a:Ads} {A:HAds} (h:OBox w b o a A):b < w.heap.size:=by
 obtain⟨T,h⟩:=h;exact (Array.getElem?_eq_some_iff.1 h).1
theorem OBox.below {w w':World} {b:Nat} {o:Od} {a:Ads} {A:HAds} (h:OBox w b o a A) (hb:Below w.heap.size w w'):OBox w' b o a A:=by
 have hl:=h.lt;obtain⟨T,h⟩:=h;exact⟨T,(hb.block b hl).trans h⟩
theorem OBox.low {w w':World} {n b:Nat} {o:Od} {a:Ads} {A:HAds} (h:OBox w b o a A) (hn:b < n) (hb:Below n w w'):OBox w' b o a A:=by
 obtain⟨T,h⟩:=h;exact⟨T,(hb.block b hn).trans h⟩
theorem OBox.new (w:World) (o:Od) (a:Ads) (A:HAds) (T:TypeId):OBox (w.alloc (.cells (odCells o a A) T)) w.heap.size o a A:=⟨T,by show (w.heap.push _)[w.heap.size]?=_;exact Array.getElem?_push_size⟩
structure OCells (w:World) (b:Nat) (o:Od) (a:Ads) (A:HAds):Prop where
 c0:w.cell? ⟨b,0,none⟩=some (.int .u8 o.cf.tag)
 c1:w.cell? ⟨b,1,none⟩=some (.int .i64 o.cf.most)
 c2:w.cell? ⟨b,2,none⟩=some (.int .i64 o.cf.seg)
 c3:w.cell? ⟨b,3,none⟩=some (.int .i64 o.cf.least)
 c4:w.cell? ⟨b,4,none⟩=some (.int .i64 o.cf.den)
 c5:w.cell? ⟨b,5,none⟩=some (.int .i64 o.cf.ll)
 c6:w.cell? ⟨b,6,none⟩=some (.int .i64 o.cf.rl)
 c7:w.cell? ⟨b,7,none⟩=some (.int .i64 o.cf.rh)
 c8:w.cell? ⟨b,8,none⟩=some (.int .i64 o.cf.lh)
 c9:w.cell? ⟨b,9,none⟩=some (.int .i64 o.sl.seg)
 c10:w.cell? ⟨b,10,none⟩=some (.slice a.w o.sl.words.length a.cw)
 c11:w.cell? ⟨b,11,none⟩=some (.slice a.k o.sl.keys.length a.ck)
 c12:w.cell? ⟨b,12,none⟩=some (.slice a.v o.sl.vals.length a.cv)
 c13:w.cell? ⟨b,13,none⟩=some (.slice a.c o.sl.counts.length a.cc)
 c14:w.cell? ⟨b,14,none⟩=some (.int .u64 (o.sl.laid:Int))
 c15:w.cell? ⟨b,15,none⟩=some (.slice A.g o.tb.gens.length A.cg)
 c16:w.cell? ⟨b,16,none⟩=some (.slice A.a o.tb.ats.length A.ca)
 c17:w.cell? ⟨b,17,none⟩=some (.int .u64 (o.moved:Int))
theorem OBox.cells {w:World} {b:Nat} {o:Od} {a:Ads} {A:HAds} (h:OBox w b o a A):OCells w b o a A:=by
 obtain⟨T,h⟩:=h
 have e:∀ i,w.cell? ⟨b,i,none⟩=(odCells o a A)[i]?:=fun i=>by simp [World.cell?,h]
 exact⟨e 0,e 1,e 2,e 3,e 4,e 5,e 6,e 7,e 8,e 9,e 10,e 11,e 12,e 13,e 14,e 15,e 16,e 17⟩
theorem OBox.free {w:World} {b:Nat} {o:Od} {a:Ads} {A:HAds} (h:OBox w b o a A) (i:Nat):w.frozen? ⟨b,i,none⟩=false:=by
 obtain⟨T,h⟩:=h
 simp [World.frozen?,h]
theorem OBox.other {w:World} {b:Nat} {o:Od} {a:Ads} {A:HAds} (h:OBox w b o a A) {p:Addr} (hp:p.block≠b) (u:Value):OBox (w.setCell p u) b o a A:=by
 obtain⟨T,h⟩:=h;exact⟨T,(Below.heap_setCell w p u b (fun e=>hp e.symm)).trans h⟩
theorem heap_set {w:World} {b i:Nat} {cs:Array Value} {T:TypeId} (h:w.heap[b]?=some (.cells cs T (0,0))) (v:Value):(w.setCell ⟨b,i,none⟩ v).heap[b]?=some (.cells (cs.setIfInBounds i v) T (0,0)):=by
 show (w.heap.modify b _)[b]?=_
 rw [Array.getElem?_modify,if_pos rfl,h]
 rfl
namespace Om
theorem nodup_le {α:Type} [BEq α] [LawfulBEq α]:∀ {l m:List α},l.Nodup->(∀ x,x∈l->x∈m)->l.length<=m.length
 | [],m,_,_=>Nat.zero_le _
 | x::l,m,hn,hs=>by
  obtain⟨h1,h2⟩:=List.nodup_cons.1 hn;have hm:=hs x (List.mem_cons_self ..)
  have:=nodup_le (l:=l) (m:=m.erase x) h2 (fun y hy=>by
   have hne:y≠x:=fun e=>h1 (e▸hy)
   exact (List.mem_erase_of_ne hne).2 (hs y (List.mem_cons_of_mem _ hy)))
  rw [List.length_erase_of_mem hm] at this;have:0 < m.length:=List.length_pos_of_mem hm
  simp only [List.length_cons]
  omega
theorem all_in {α:Type} [BEq α] [LawfulBEq α] {l m:List α} (hn:l.Nodup) (hs:∀ x,x∈l->x∈m) (hl:m.length<=l.length) {x:α} (hx:x∈m):x∈l:=by
 by_cases h:x∈l
 ·exact h
 ·have:=nodup_le (l:=x::l) (m:=m) (List.nodup_cons.2 ⟨h,hn⟩) (fun y hy=>by
   rcases List.mem_cons.1 hy with rfl | hy
   ·exact hx
   ·exact hs y hy)
  simp only [List.length_cons] at this
  omega
theorem range_getD (zs:List Int):(List.range zs.length).map (fun i=>zs.getD i 0)=zs:=by
 apply List.ext_getElem
 ·simp
 ·intro i h1 h2
  simp [List.getD,List.getElem?_eq_getElem h2]
theorem live_range (zs:List Int):Hn.live zs=((List.range zs.length).filter fun i=>decide (0<=zs.getD i 0)).length:=by
 unfold Hn.live
 conv=>lhs;rw [<-range_getD zs]
 rw [List.filter_map,List.length_map]
 rfl
theorem live_ks {o:Od} (F:Fit o) {n:Nat} (hn:n < o.tb.ats.length) (h:0<=Hn.a o.tb n):(n:Int)∈ks o.sl:=by
 have e:=live_range o.tb.ats;rw [F.live,<-ks_len] at e;have hk:∀ m,m∈ks o.sl->0<=m:=fun m hm=>(ks_fine F hm).1;have hnd:((ks o.sl).map Int.toNat).Nodup:=map_nodup (ks_nodup F) (fun a ha b hb q=>by have:=hk a ha;have:=hk b hb;omega)
 have:=all_in (m:=(List.range o.tb.ats.length).filter fun i=>decide (0<=o.tb.ats.getD i 0)) hnd (fun x hx=>by
  obtain⟨m,hm,rfl⟩:=List.mem_map.1 hx;obtain⟨h0,h1,h2⟩:=ks_fine F hm;have hl:=F.may.len
  refine List.mem_filter.2 ⟨List.mem_range.2 (by omega),decide_eq_true h2⟩) (by rw [List.length_map];omega) (x:=n) (List.mem_filter.2 ⟨List.mem_range.2 hn,decide_eq_true h⟩)
 obtain⟨m,hm,q⟩:=List.mem_map.1 this;have:=hk m hm;rw [show (n:Int)=m by omega];exact hm
theorem is_in {o:Od} (F:Fit o) (h:Int×Int):Hn.isB o.tb h=inB o h:=by
 rw [Bool.eq_iff_iff,in_iff];have hl:=F.may.len
 constructor
 ·intro hi
  obtain⟨i0,i1,i2,i3⟩:=(Hn.is_iff o.tb h).1 hi;have:=live_ks F (n:=h.1.toNat) (by omega) i2;rw [show ((h.1.toNat:Nat):Int)=h.1 by omega] at this;unfold hands;refine List.mem_map.2 ⟨h.1,this,?_⟩;unfold hn;rw [i3]
 ·intro hi
  exact (hand_is F (ix_mem.2 hi)).1
theorem lab_find {o:Od} (F:Fit o) (h:Int×Int):labE o h=Hn.findE o.tb h/\labV o h=Hn.findV o.tb h:=by
 have e:labE o h=Hn.findE o.tb h:=by
  unfold labE Hn.findE;rw [if_pos (chk_fit.2 F),if_pos (Hn.chk_may.2 F.may),is_in F]
 refine⟨e,?_⟩;unfold labV Hn.findV;rw [e]
theorem lab_bad {o:Od} (h:¬ chkE o=0) (x:Int×Int):labE o x=chkE o/\labV o x=0:=by
 have e:labE o x=chkE o:=by unfold labE;rw [if_neg h]
 exact⟨e,by unfold labV;rw [e,if_neg h]⟩
theorem lab_yes {o:Od} {h:Int×Int} (e:labE o h=0):Fit o/\ix h (hands o) < (hands o).length:=by
 unfold labE at e
 by_cases hc:chkE o=0
 ·rw [if_pos hc] at e
  refine⟨chk_fit.1 hc,?_⟩
  cases hi:inB o h
  ·rw [hi,if_neg (by simp)] at e;cases e
  ·unfold inB at hi;exact of_decide_eq_true hi
 ·rw [if_neg hc] at e;exact absurd e hc
theorem places_nth (ws:List Nat) (n:Nat) {k:Nat} (hk:k < (Oc.places ws 0 n).length):(Oc.places ws 0 ((Oc.places ws 0 n).getD k 0)).length=k:=by
 obtain⟨x,hx⟩:∃ x,(Oc.places ws 0 n).getD k 0=x:=⟨_,rfl⟩
 have hm:x∈Oc.places ws 0 n:=by rw [<-hx];simp [List.getD,List.getElem?_eq_getElem hk]
 obtain⟨⟨_,h1⟩,h2⟩:=Oc.mem_places.1 hm;have hs:=Oc.places_split ws 0 x n (Nat.zero_le _) (by omega)
 have e2:Oc.places ws x n=x::Oc.places ws (x+1) n:=by
  rw [Oc.places_split ws x (x+1) n (by omega) (by omega),Oc.places_snoc ws x x (Nat.le_refl _),h2,Oc.places_self]
  rfl
 have nd:(Oc.places ws 0 n).Nodup:=by
  unfold Oc.places;exact List.Nodup.sublist List.filter_sublist (List.nodup_range' (step:=1) (by omega))
 rw [hx]
 have hl:(Oc.places ws 0 x).length < (Oc.places ws 0 n).length:=by rw [hs,e2];simp
 have g1:(Oc.places ws 0 n)[(Oc.places ws 0 x).length]?=some x:=by rw [hs,e2];simp
 have g2:(Oc.places ws 0 n)[k]?=some x:=by
  rw [List.getElem?_eq_getElem hk];rw [<-hx]
  simp [List.getD,List.getElem?_eq_getElem hk]
 exact (List.getElem?_inj hl nd).1 (g1.trans g2.symm)
theorem rank_ix {o:Od} (F:Fit o) {h:Int×Int} (hi:ix h (hands o) < (hands o).length) :
  ∃ x:Nat,Hn.a o.tb h.1.toNat=(x:Int)/\x < o.sl.keys.length/\(Oc.places o.sl.words 0 x).length=ix h (hands o):=by
 obtain⟨_,_,h3⟩:=hand_is F hi
 have hl:ix h (hands o) < (pl o.sl).length:=by rw [<-hands_len o];exact hi
 refine⟨_,h3,?_,places_nth o.sl.words o.sl.keys.length hl⟩
 have hm:(pl o.sl).getD (ix h (hands o)) 0∈pl o.sl:=by simp [List.getD,List.getElem?_eq_getElem hl]
 exact (Oc.mem_places.1 hm).1.2
theorem cmp_lab {o:Od} {h k:Int×Int} (e:labE o h=0) (e2:labE o k=0):cmpE o h k=0/\cmpV o h k=if labV o h < labV o k then -1 else if labV o k < labV o h then 1 else 0:=by
 obtain⟨F,hi⟩:=lab_yes e;obtain⟨_,hk⟩:=lab_yes e2
 have ce:cmpE o h k=0:=by
  unfold cmpE inB;rw [if_pos (chk_fit.2 F),if_pos ⟨decide_eq_true hi,decide_eq_true hk⟩]
 refine⟨ce,?_⟩
 have v1:labV o h=((pl o.sl).getD (ix h (hands o)) 0:Nat):=by unfold labV;rw [if_pos e];exact (hand_is F hi).2.2
 have v2:labV o k=((pl o.sl).getD (ix k (hands o)) 0:Nat):=by unfold labV;rw [if_pos e2];exact (hand_is F hk).2.2
 unfold cmpV;rw [if_pos ce,v1,v2];rw [hands_len] at hi hk
 rcases Nat.lt_trichotomy (ix h (hands o)) (ix k (hands o)) with q | q | q
 ·have:=pl_lt hk q
  rw [if_pos q,if_pos (by omega)]
 ·rw [q]
  simp
 ·have:=pl_lt hi q
  rw [if_neg (by omega),if_pos q,if_neg (by omega),if_pos (by omega)]
theorem cmp_no {o:Od} {h k:Int×Int} (c:chkE o=0) (e:¬ (labE o h=0/\labE o k=0)):cmpE o h k=140/\cmpV o h k=0:=by
 have ce:cmpE o h k=140:=by
  unfold cmpE;rw [if_pos c];unfold labE at e;rw [if_pos c,if_pos c] at e
  cases h1:inB o h
  ·rw [if_neg (by simp)]
  ·cases h2:inB o k
   ·rw [if_neg (by simp)]
   ·rw [h1,h2] at e;exact absurd ⟨rfl,rfl⟩ e
 exact⟨ce,by unfold cmpV;rw [ce,if_neg (by omega)]⟩
/-! What is answered is within 64 bits, and short. -/
theorem settle_ok (s:Sl) (but:Int):∀ (l:List Nat) (r:List Int×Nat),(∀ i,i∈l->i<=65536)->All64 r.1->r.2 < 18446744073709551616->All64 (settle s but l r).1/\(settle s but l r).2 < 18446744073709551616
 | [],r,_,h1,h2=>⟨h1,h2⟩
 | i::l,r,hl,h1,h2=>by
  have hi:=hl i (List.mem_cons_self ..);refine settle_ok s but l _ (fun j hj=>hl j (List.mem_cons_of_mem _ hj)) (all64_setH h1 _ ⟨by omega,by omega⟩) ?_
  show (if _ then _ else _) < _
  split
  ·exact Nat.mod_lt _ (by decide)
  ·exact h2
theorem settled_in {c:Cf} {s:Sl} {t:Ht} {m:Nat} (hc:c.In) (hs:Fine s) (ht:t.Ok) (ht2:t.Short) (hm:m < 18446744073709551616) (but:Int):(settled c s t m but).In:=by
 have hp:∀ i,i∈pl s->i<=65536:=fun i hi=>by
  have:=(Oc.mem_places.1 hi).1.2;have:=hs.short.keys
  omega
 obtain⟨h1,h2⟩:=settle_ok s but (pl s) (t.ats,m) hp ht.ats hm;exact⟨hc,⟨hs.ok,⟨ht.gens,h1⟩,h2⟩,⟨hs.short,⟨ht2.gens,by show (settle s but (pl s) (t.ats,m)).1.length<=_;rw [settle_len];exact ht2.ats⟩⟩⟩
theorem nil_in:Cf.nil.In:=by
 constructor<;>first | decide | (constructor<;>decide)
theorem zero_in:Od.zero.In:=⟨nil_in,⟨ok_none,Ht.Ok.zero,by show (0:Nat) < _;decide⟩,⟨short_none,Ht.Short.zero⟩⟩
theorem inO_in {o:Od} (hin:o.In) (F:Fit o) (hi:inE o=0) (k:Nat):(inO o k).In:=by
 obtain⟨_,hf⟩:=in_no hi;have hfr:=Hn.free_le o.tb;have:=F.may.most;exact settled_in hin.cf (Gp.put_fine hin.ok.sl hin.short.sl k ⟨by show (-9223372036854775808:Int)<=((Hn.free o.tb:Nat):Int);omega,by show ((Hn.free o.tb:Nat):Int)<=9223372036854775807;omega⟩ ⟨by show (-9223372036854775808:Int)<=0;omega,by show (0:Int)<=9223372036854775807;omega⟩) (hin.ok.tb.given ⟨by omega,by omega⟩) (hin.short.tb.given F.may hf (by omega)) hin.ok.moved _
theorem outO_in {o:Od} (hin:o.In) (F:Fit o) {h:Int×Int} (hi:ix h (hands o) < (hands o).length):(outO o h).In:=by
 obtain⟨his,_,_⟩:=hand_is F hi;obtain⟨i0,i1,i2,i3⟩:=(Hn.is_iff o.tb h).1 his;have hg:=(F.may.fine h.1.toNat (by omega)).2.1;exact settled_in hin.cf (Gp.take_fine hin.ok.sl hin.short.sl _) (hin.ok.tb.back hg) ⟨by show (o.tb.gens.set _ _).length<=_;rw [List.length_set];exact hin.short.tb.gens,by show (o.tb.ats.set _ _).length<=_;rw [List.length_set];exact hin.short.tb.ats⟩ hin.ok.moved _
theorem fir_yes {o:Od} (e:firE o=0):Fit o/\inE o=0:=by
 unfold firE at e
 by_cases hc:chkE o=0
 ·rw [if_pos hc] at e;exact⟨chk_fit.1 hc,e⟩
 ·rw [if_neg hc] at e;exact absurd e hc
theorem bes_yes {o:Od} {h:Int×Int} (e:besE o h=0):Fit o/\ix h (hands o) < (hands o).length/\inE o=0:=by
 unfold besE at e
 by_cases hc:chkE o=0
 ·rw [if_pos hc] at e
  cases hi:inB o h
  ·rw [hi,if_neg (by simp)] at e;cases e
  ·rw [hi,if_pos rfl] at e
   unfold inB at hi;exact⟨chk_fit.1 hc,of_decide_eq_true hi,e⟩
 ·rw [if_neg hc] at e;exact absurd e hc
theorem firV_in {o:Od} (hin:o.In):(firV o).In:=by
 unfold firV
 split
 ·rename_i e;exact inO_in hin (fir_yes e).1 (fir_yes e).2 0
 ·exact zero_in
theorem besV_in {o:Od} (hin:o.In) (h:Int×Int) (b:Nat):(besV o h b).In:=by
 unfold besV
 split
 ·rename_i e;exact inO_in hin (bes_yes e).1 (bes_yes e).2.2 _
 ·exact zero_in
theorem delV_in {o:Od} (hin:o.In) (h:Int×Int):(delV o h).In:=by
 unfold delV
 split
 ·rename_i e;exact outO_in hin (lab_yes e).1 (lab_yes e).2
 ·exact zero_in
theorem newV_in {c:Cf} (hc:c.In):(newV c).In:=by
 unfold newV
 split
 ·exact⟨hc,⟨Gp.new_fine.ok,Ht.Ok.zero,by show (0:Nat) < _;decide⟩,⟨Gp.new_fine.short,Ht.Short.zero⟩⟩
 ·exact zero_in
theorem hnd_in64 {o:Od} (hin:o.In) (F:Fit o):In64 (Hn.hnd o.tb).1/\In64 (Hn.hnd o.tb).2:=by
 have hfr:=Hn.free_le o.tb;have:=F.may.most;refine⟨⟨?_,?_⟩,hin.ok.tb.gens _⟩
 ·show (-9223372036854775808:Int)<=((Hn.free o.tb:Nat):Int);omega
 ·show ((Hn.free o.tb:Nat):Int)<=9223372036854775807;omega
end Om
theorem elemH:Elem Tryz.prog 52 39 (.agg #[.int .i64 0,.int .i64 0]) 2 16 :=
 ⟨Tryz.underlying52,info_parts (show (Tryz.prog.info? 39).map (fun i=>(i.zero,i.size,i.bytes))=some (some (.agg #[.int .i64 0,.int .i64 0]),2,16) by kernel_rfl),rfl,by decide⟩
theorem infoO:(Tryz.prog.info? 33).map (·.size)=some 18:=by kernel_rfl
theorem load_whole {P:Program} {ρ:Operand->Value} {q:Oper} {ty:TypeId} {x:Operand} (ho:q.op=.load ty x) {w:World} {g:Nat} (hx:ρ x=.pointer (some ⟨g,0,none⟩)) {o:Od} {a:Ads} {A:HAds} (hb:OBox w g o a A) (d:TypeDesc)
  (hu:P.underlying ty=some d) (hd:(match d with | .struct _ | .array _ _=>true | _=>false)=true) (hi:(P.info? ty).map (·.size)=some 18):(execOp ρ q).run P w=.ok (.value (.agg (odCells o a A))) w:=by
 obtain⟨T,hb⟩:=hb;unfold execOp
 simp only [ho,hx,Instr.loadAt,Instr.sureAddr,Sem.run_bind,Sem.run_pure,Result.andThen_ok,run_loadVar_row w g T ty (odCells o a A) (0,0) d hb hu hd hi]
theorem wpList_load_od {ops:Array Oper} {rest:List Oper} {q:Oper} {act:Act} {w:World} {Q:Exit->Act->World->Prop} (hgd:q.guard=none) (x:Operand) (ho:q.op=.load 33 x)
  (g:Nat) (hx:act.eval x=.pointer (some ⟨g,0,none⟩)) {o:Od} {a:Ads} {A:HAds} (hb:OBox w g o a A)
  (h:wpList Tryz.prog ops Q rest (act.put q.dst (.agg (odCells o a A))) w):wpList Tryz.prog ops Q (q::rest) act w:=by
 obtain⟨T,hb⟩:=hb;exact wpList_load_row hgd _ x ho g hx T _ _ _ hb Tryz.underlying33 rfl infoO h
theorem wpList_load_odg {ops:Array Oper} {rest:List Oper} {q:Oper} {act:Act} {w:World} {Q:Exit->Act->World->Prop} (hw:Region.wanted q (yielded ops act.tmps)=true) (x:Operand) (ho:q.op=.load 33 x)
  (g:Nat) (hx:act.eval x=.pointer (some ⟨g,0,none⟩)) {o:Od} {a:Ads} {A:HAds} (hb:OBox w g o a A)
  (h:wpList Tryz.prog ops Q rest (act.put q.dst (.agg (odCells o a A))) w):wpList Tryz.prog ops Q (q::rest) act w:=by
 obtain⟨T,hb⟩:=hb;exact BigFrame.wpList_want hw fun _ hK=>wp_load_row _ x ho g hx T _ _ _ hb Tryz.underlying33 rfl infoO (hK _ _ h)
theorem odCells_one (o:Od) (a:Ads) (A:HAds):(odCells o a A).all (·.oneCell')=true:=by simp [odCells,Value.oneCell']
structure Laid1 (w:World) (g:Nat) (w':World):Prop where
 os:w'.os=w.os
 tape:w'.tape=w.tape
 output:w'.output=w.output
 size:w'.heap.size=w.heap.size
 off:∀ k,k≠g->w'.heap[k]?=w.heap[k]?
theorem Laid1.row (w:World) (g:Nat) (cs:Array Value):Laid1 w g (w.setRow g cs):=⟨rfl,rfl,rfl,setRow_size w g cs,fun k hk=>setRow_other w g k cs hk⟩
theorem Laid1.cell (w:World) (p:Addr) (v:Value):Laid1 w p.block (w.setCell p v):=⟨rfl,rfl,rfl,World.size_setCell w p v,fun k hk=>Below.heap_setCell w p v k hk⟩
theorem Laid1.trans {w v u:World} {g:Nat} (h:Laid1 w g v) (k:Laid1 v g u):Laid1 w g u:=⟨k.os.trans h.os,k.tape.trans h.tape,k.output.trans h.output,k.size.trans h.size,fun i hi=>(k.off i hi).trans (h.off i hi)⟩
theorem Laid1.below {B g:Nat} {v w w':World} (h:Laid1 w g w') (hb:Below B v w) (hg:B<=g):Below B v w':=⟨h.os.trans hb.os,h.tape.trans hb.tape,h.output.trans hb.output,by rw [h.size];exact hb.size,fun k hk=>(h.off k (by omega)).trans (hb.block k hk)⟩
theorem Laid1.cells {w w':World} {g:Nat} (h:Laid1 w g w') {p:Addr} (hp:p.block≠g):w'.cell? p=w.cell? p:=World.cell?_of_block (h.off p.block hp)
theorem Laid1.frozen {w w':World} {g:Nat} (h:Laid1 w g w') {p:Addr} (hp:p.block≠g):w'.frozen? p=w.frozen? p:=World.frozen?_of_block (h.off p.block hp)
theorem Laid1.new {w w':World} {g:Nat} (h:Laid1 w g w') {k:IntKind} {B:Nat} {a:Option Addr} {zs:List Int} (hn:New k w B a zs) (hg:∀ p,a=some p->p.block≠g):New k w' B a zs:=by
 rcases hn with h0 | ⟨b,off,h1,hB,h2,h3⟩
 ·exact Or.inl h0
 ·have hne:=hg _ h1
  exact Or.inr ⟨b,off,h1,hB,by rw [h.size];exact h2,fun i hi=>⟨(h.cells (p:=⟨b,off+i,none⟩) hne).trans (h3 i hi).1,(h.frozen (p:=⟨b,off+i,none⟩) hne).trans (h3 i hi).2⟩⟩
theorem Laid1.newB {w w':World} {g:Nat} (h:Laid1 w g w') {k:IntKind} {B:Nat} {a:Option Addr} {zs:List Int} (hn:New k w B a zs) (hg:g < B):New k w' B a zs:=by
 rcases hn with h0 | ⟨b,off,h1,hB,h2,h3⟩
 ·exact Or.inl h0
 ·have hne:b≠g:=by omega
  exact Or.inr ⟨b,off,h1,hB,by rw [h.size];exact h2,fun i hi=>⟨(h.cells (p:=⟨b,off+i,none⟩) hne).trans (h3 i hi).1,(h.frozen (p:=⟨b,off+i,none⟩) hne).trans (h3 i hi).2⟩⟩
theorem Laid1.obox {w w':World} {g b:Nat} (h:Laid1 w g w') {o:Od} {a:Ads} {A:HAds} (hb:OBox w b o a A) (hg:b≠g):OBox w' b o a A:=by
 obtain⟨T,hb⟩:=hb;exact⟨T,(h.off b hg).trans hb⟩
theorem Laid1.pbox {w w':World} {g b:Nat} (h:Laid1 w g w') {p:Int×Int} (hb:PBox w b p) (hg:b≠g):PBox w' b p :=
 ⟨by rw [h.size];exact hb.lt,(h.cells (p:=⟨b,0,none⟩) hg).trans hb.c0,(h.cells (p:=⟨b,1,none⟩) hg).trans hb.c1,(h.frozen (p:=⟨b,0,none⟩) hg).trans hb.f0,(h.frozen (p:=⟨b,1,none⟩) hg).trans hb.f1⟩
structure OOwn (w:World) (B:Nat) (o:Od) (a:Ads) (A:HAds):Prop where
 sl:Own w B o.sl a
 tb:HOwn w B o.tb A
theorem OOwn.held {w:World} {B:Nat} {o:Od} {a:Ads} {A:HAds} (h:OOwn w B o a A):OHeld w o a A:=⟨h.sl.held,h.tb.held⟩
theorem OOwn.below {w w':World} {B:Nat} {o:Od} {a:Ads} {A:HAds} (h:OOwn w B o a A) (hb:Below w.heap.size w w'):OOwn w' B o a A:=⟨h.sl.below hb,h.tb.below hb⟩
theorem OOwn.lower {w:World} {B B':Nat} {o:Od} {a:Ads} {A:HAds} (h:OOwn w B o a A) (hB:B'<=B):OOwn w B' o a A:=⟨h.sl.lower hB,h.tb.lower hB⟩
theorem OOwn.laid {w w':World} {g B:Nat} {o:Od} {a:Ads} {A:HAds} (h:OOwn w B o a A) (hl:Laid1 w g w') (hg:g < B):OOwn w' B o a A :=
 ⟨⟨hl.newB h.sl.words hg,hl.newB h.sl.keys hg,hl.newB h.sl.vals hg,hl.newB h.sl.counts hg,h.sl.caps⟩,⟨hl.newB h.tb.gens hg,hl.newB h.tb.ats hg,h.tb.caps,h.tb.sep⟩⟩
theorem oown_zero (w:World) (B:Nat):OOwn w B Od.zero adsNone hNone:=⟨⟨Or.inl rfl,Or.inl rfl,Or.inl rfl,Or.inl rfl,⟨fun _=>⟨rfl,rfl⟩,fun _=>⟨rfl,rfl⟩,fun _=>⟨rfl,rfl⟩,fun _=>⟨rfl,rfl⟩,Nat.le_refl _,Nat.le_refl _,Nat.le_refl _,Nat.le_refl _⟩⟩,own_zero w B⟩
def OAns (o:Od) (er:Int) (w:World) (e:Ending) (w':World):Prop:=∃ a A,e=.returned (.tuple #[odv o a A,.int .i64 er])/\OOwn w' w.heap.size o a A/\Below w.heap.size w w'
def OAns3 (o:Od) (h:Int×Int) (er:Int) (w:World) (e:Ending) (w':World):Prop:=∃ a A,e=.returned (.tuple #[odv o a A,pv h,.int .i64 er])/\OOwn w' w.heap.size o a A/\Below w.heap.size w w'
theorem wpList_store_od {ops:Array Oper} {rest:List Oper} {q:Oper} {act:Act} {w:World} {Q:Exit->Act->World->Prop} (hgd:q.guard=none) (x y:Operand) (ho:q.op=.store 33 x y)
  (g:Nat) (hx:act.eval x=.pointer (some ⟨g,0,none⟩)) (o:Od) (a:Ads) (A:HAds) (hy:act.eval y=.agg (odCells o a A)) {o0:Od} {a0:Ads} {A0:HAds} (hb:OBox w g o0 a0 A0)
  (h:∀ w',OBox w' g o a A->Laid1 w g w'->wpList Tryz.prog ops Q rest (act.put q.dst undef) w'):wpList Tryz.prog ops Q (q::rest) act w:=by
 obtain⟨T,hb⟩:=hb;exact wpList_store_row hgd _ x y ho g _ hx hy T _ hb infoO rfl (odCells_one o a A) (h _ ⟨T,setRow_heap w g _ _ T (0,0) hb⟩ (Laid1.row w g _))
theorem step_store_od {ops:Array Oper} {q:Oper} {act:Act} {w:World} {K:Act->World->Prop} {Q:Exit->Act->World->Prop} {FF:Prop} (hgd:q.guard=none) (x y:Operand) (ho:q.op=.store 33 x y)
  (g:Nat) (hx:act.eval x=.pointer (some ⟨g,0,none⟩)) (o:Od) (a:Ads) (A:HAds) (hy:act.eval y=.agg (odCells o a A)) {o0:Od} {a0:Ads} {A0:HAds} (hb:OBox w g o0 a0 A0)
  (h:∀ w',OBox w' g o a A->Laid1 w g w'->K (act.put q.dst undef) w'):if Region.wanted q (yielded ops act.tmps)=true then Oper.wp Tryz.prog q act w K Q else FF:=by
 have hw:Region.wanted q (yielded ops act.tmps)=true:=by simp [Region.wanted,hgd]
 rw [if_pos hw];obtain⟨T,hb⟩:=hb;exact wp_store_row _ x y ho g _ hx hy T _ hb infoO rfl (odCells_one o a A) (h _ ⟨T,setRow_heap w g _ _ T (0,0) hb⟩ (Laid1.row w g _))
theorem wpList_build_od {ops:Array Oper} {rest:List Oper} {q:Oper} {act:Act} {w:World} {Q:Exit->Act->World->Prop} (hg:q.guard=none) (t:TypeId) (parts:Array (Nat×Operand)) (ho:q.op=.build t parts)
  (o:Od) (a:Ads) (A:HAds) (hf:Tryz.prog.built t (parts.map fun (i,x)=>(i,act.eval x)).toList=some (odCells o a A))
  (h:wpList Tryz.prog ops Q rest (act.put q.dst (.agg (odCells o a A))) w):wpList Tryz.prog ops Q (q::rest) act w :=
 wpList_build hg t parts ho (by rw [hf];rfl) (by rw [hf];exact h)
theorem load_od {w:World} {g:Nat} {o:Od} {a:Ads} {A:HAds} (hb:OBox w g o a A):(loadVar 33 ⟨g,0,none⟩).run Tryz.prog w=.ok (.agg (odCells o a A)) w:=by
 obtain⟨T,hb⟩:=hb;exact run_loadVar_row w g T _ _ _ _ hb Tryz.underlying33 rfl infoO
theorem results_ode {fn:Func} {p r:Tmp} (h:fn.results=#[.cell p 33,.tmp r]) (tmps:Array Value) (w:World) (g:Nat) {o:Od} {a:Ads} {A:HAds} (er:Value) (hp:tmps.getD p undef=.pointer (some ⟨g,0,none⟩)) (hr:tmps.getD r undef=er) (hb:OBox w g o a A) :
  (results fn tmps).run Tryz.prog w=.ok (.tuple #[odv o a A,er]) w:=by
 have hp':tmps[p]?.getD undef=.pointer (some ⟨g,0,none⟩):=by simpa using hp
 have hr':tmps[r]?.getD undef=er:=by simpa using hr
 simp [results,h,hp',hr',asAddr,load_od hb,odv]
theorem load_hn {w:World} {g:Nat} {x:Int×Int} (hb:PBox w g x):(loadVar 39 ⟨g,0,none⟩).run Tryz.prog w=.ok (pv x) w:=by
 obtain⟨_,c0,c1,_,_⟩:=hb
 simp [go_sem,pv,c0,c1]
theorem results_odh {fn:Func} {p r q:Tmp} (h:fn.results=#[.cell p 33,.cell q 39,.tmp r]) (tmps:Array Value) (w:World) (g k:Nat) {o:Od} {a:Ads} {A:HAds} {x:Int×Int} (er:Value) (hp:tmps.getD p undef=.pointer (some ⟨g,0,none⟩)) (hq:tmps.getD q undef=.pointer (some ⟨k,0,none⟩)) (hr:tmps.getD r undef=er) (hb:OBox w g o a A) (hx:PBox w k x) :
  (results fn tmps).run Tryz.prog w=.ok (.tuple #[odv o a A,pv x,er]) w:=by
 have hp':tmps[p]?.getD undef=.pointer (some ⟨g,0,none⟩):=by simpa using hp
 have hq':tmps[q]?.getD undef=.pointer (some ⟨k,0,none⟩):=by simpa using hq
 have hr':tmps[r]?.getD undef=er:=by simpa using hr
 simp [results,h,hp',hq',hr',asAddr,load_od hb,load_hn hx,odv]
theorem built_under (o:Od) (a:Ads) (A:HAds):Tryz.prog.built 77 [(0,.agg (odCells o a A))]=some (odCells o a A):=by kernel_rfl
theorem wpList_build_under {ops:Array Oper} {rest:List Oper} {q:Oper} {act:Act} {w:World} {Q:Exit->Act->World->Prop} (hg:q.guard=none) (x:Operand) (ho:q.op=.build 77 #[(0,x)])
  (o:Od) (a:Ads) (A:HAds) (hx:act.eval x=.agg (odCells o a A))
  (h:wpList Tryz.prog ops Q rest (act.put q.dst (.agg (odCells o a A))) w):wpList Tryz.prog ops Q (q::rest) act w:=by
 have e:(#[(0,x)].map fun (i,x)=>(i,act.eval x)).toList=[((0:Nat),Value.agg (odCells o a A))]:=by simp [hx]
 exact wpList_build_od hg _ _ ho o a A (by rw [e];exact built_under o a A) h
end Go.Proofs.YtpeckljoannolaaGreatDoor
