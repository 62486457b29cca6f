/- Lists of keys as plain data, and what their checks answer. -/
import Derived.Test.YtpeckljoannolaaGreatDoorP09Ot
import Derived.Test.YtpeckljoannolaaGreatDoorS4aOt
import Derived.Test.YtpeckljoannolaaGreatDoorP05Ot
import Derived.Test.YtpeckljoannolaaGreatDoorP07Ot
import Derived.Laws.Rows
import Derived.Laws.Tables
import Derived.BigFrame
import Derived.Test.YtpeckljoannolaaGreatDoorTkOt
set_option linter.unusedVariables false
set_option linter.unusedSimpArgs false
set_option maxHeartbeats 4000000
set_option maxRecDepth 100000
namespace Go.Proofs.YtpeckljoannolaaGreatDoor
open Go.RowKit
structure Od where
 cf:Cf
 sl:Sl
 tb:Ht
 moved:Nat
def Cf.nil:Cf:=⟨0,0,0,0,0,0,0,0,0⟩
def Od.zero:Od:=⟨Cf.nil,Sl.none,Ht.zero,0⟩
namespace Om
def pl (s:Sl):List Nat:=Oc.places s.words 0 s.keys.length
def key (s:Sl) (i:Nat):Int:=s.keys.getD i 0
def ks (s:Sl):List Int:=(pl s).map (key s)
def fineB (s:Sl) (t:Ht) (i:Nat):Bool:=decide (s.vals.getD i 0=0)&&decide (0<=key s i)&&decide (key s i < t.ats.length)&&decide (Hn.a t (key s i).toNat=i)
def linkB (s:Sl) (t:Ht):Bool:=decide (Hn.live t.ats=(pl s).length)&&(pl s).all (fineB s t)
def chkE (o:Od):Int:=if Gp.chkE o.cf o.sl=0 then (if Hn.mayB o.tb=true/\linkB o.sl o.tb=true then 0 else 8) else Gp.chkE o.cf o.sl
def hn (t:Ht) (n:Int):Int×Int:=(n,Hn.g t n.toNat)
def hands (o:Od):List (Int×Int):=(ks o.sl).map (hn o.tb)
def ix (h:Int×Int):List (Int×Int)->Nat
 | []=>0
 | x::l=>if x=h then 0 else ix h l+1
def inB (o:Od) (h:Int×Int):Bool:=decide (ix h (hands o) < (hands o).length)
def newV (c:Cf):Od:=if c.chkE=0 then ⟨c,Gp.newS c,Ht.zero,0⟩ else Od.zero
def listV (o:Od):List (Int×Int):=if chkE o=0 then hands o else []
def labE (o:Od) (h:Int×Int):Int:=if chkE o=0 then (if inB o h=true then 0 else 140) else chkE o
def labV (o:Od) (h:Int×Int):Int:=if labE o h=0 then Hn.a o.tb h.1.toNat else 0
def cmpE (o:Od) (h k:Int×Int):Int:=if chkE o=0 then (if inB o h=true/\inB o k=true then 0 else 140) else chkE o
def cmpV (o:Od) (h k:Int×Int):Int:=if cmpE o h k=0 then (if ix h (hands o) < ix k (hands o) then -1 else if ix k (hands o) < ix h (hands o) then 1 else 0) else 0
def settle (s:Sl) (but:Int):List Nat->List Int×Nat->List Int×Nat
 | [],r=>r
 | i::l,r=>settle s but l (r.1.set (key s i).toNat i,if r.1.getD (key s i).toNat 0≠i/\key s i≠but then (r.2+1) % 18446744073709551616 else r.2)
def settled (c:Cf) (s:Sl) (t:Ht) (m:Nat) (but:Int):Od:=⟨c,s,⟨t.gens,(settle s but (pl s) (t.ats,m)).1⟩,(settle s but (pl s) (t.ats,m)).2⟩
def inE (o:Od):Int:=if Gp.many o.sl=o.cf.most∨Hn.fullB o.tb=true then 9 else 0
def inO (o:Od) (k:Nat):Od:=settled o.cf (Gp.putS o.cf o.sl k ((Hn.free o.tb:Nat),0)) (Hn.given o.tb 0) o.moved (Hn.free o.tb:Nat)
def cfB (c d:Cf):Bool:=c.tag==d.tag&&c.most==d.most&&c.seg==d.seg&&c.least==d.least&&c.den==d.den&&c.ll==d.ll&&c.rl==d.rl&&c.rh==d.rh&&c.lh==d.lh
def sameB (o p:Od):Bool:=cfB o.cf p.cf&&(o.moved==p.moved)&&o.sl.sameB p.sl&&Hn.sameB o.tb p.tb
end Om
structure Od.Ok (o:Od):Prop where
 sl:o.sl.Ok
 tb:o.tb.Ok
 moved:o.moved < 18446744073709551616
structure Od.Short (o:Od):Prop where
 sl:o.sl.Short
 tb:o.tb.Short
namespace Om
structure Fit (o:Od):Prop where
 gap:Gp.chkE o.cf o.sl=0
 may:Hn.May o.tb
 live:Hn.live o.tb.ats=(pl o.sl).length
 fine:∀ i,i∈pl o.sl->o.sl.vals.getD i 0=0/\0<=key o.sl i/\key o.sl i < o.tb.ats.length/\Hn.a o.tb (key o.sl i).toNat=i
theorem fine_iff {s:Sl} {t:Ht} {i:Nat}:fineB s t i=true↔s.vals.getD i 0=0/\0<=key s i/\key s i < t.ats.length/\Hn.a t (key s i).toNat=i:=by
 unfold fineB
 simp only [Bool.and_eq_true,decide_eq_true_eq,and_assoc]
theorem link_iff {s:Sl} {t:Ht}:linkB s t=true↔Hn.live t.ats=(pl s).length/\∀ i,i∈pl s->fineB s t i=true:=by
 unfold linkB
 simp only [Bool.and_eq_true,decide_eq_true_eq,List.all_eq_true]
theorem chk_gap {o:Od} (h:chkE o=0):Gp.chkE o.cf o.sl=0:=by
 unfold chkE at h
 split at h
 ·assumption
 ·assumption
theorem chk_fit {o:Od}:chkE o=0↔Fit o:=by
 constructor
 ·intro h
  have hg:=chk_gap h;unfold chkE at h;rw [if_pos hg] at h
  split at h
  ·rename_i hh
   obtain⟨h1,h2⟩:=link_iff.1 hh.2;exact⟨hg,(Hn.may_iff _).1 hh.1,h1,fun i hi=>fine_iff.1 (h2 i hi)⟩
  ·cases h
 ·intro h
  unfold chkE;rw [if_pos h.gap,if_pos ⟨(Hn.may_iff _).2 h.may,link_iff.2 ⟨h.live,fun i hi=>fine_iff.2 (h.fine i hi)⟩⟩]
/-! What is where. -/
theorem ix_le (h:Int×Int):∀ l,ix h l<=l.length
 | []=>Nat.le_refl _
 | x::l=>by
  have:=ix_le h l;unfold ix
  split
  ·simp
  ·simp;exact this
theorem ix_get {h:Int×Int}:∀ {l:List (Int×Int)},ix h l < l.length->l.getD (ix h l) (0,0)=h
 | [],hl=>by simp at hl
 | x::l,hl=>by
  by_cases e:x=h
  ·have:ix h (x::l)=0:=by unfold ix;rw [if_pos e]
   rw [this];exact e
  ·have h1:ix h (x::l)=ix h l+1:=by conv=>lhs;unfold ix;rw [if_neg e]
   rw [h1] at hl ⊢;exact ix_get (l:=l) (by simpa using hl)
theorem ix_mem {h:Int×Int}:∀ {l:List (Int×Int)},ix h l < l.length↔h∈l
 | []=>by simp [ix]
 | x::l=>by
  have ih:=ix_mem (h:=h) (l:=l)
  by_cases e:x=h
  ·have:ix h (x::l)=0:=by unfold ix;rw [if_pos e]
   rw [this];simp [e]
  ·have h1:ix h (x::l)=ix h l+1:=by conv=>lhs;unfold ix;rw [if_neg e]
   rw [h1,List.length_cons,Nat.add_lt_add_iff_right,ih,List.mem_cons];exact⟨Or.inr,fun h=>h.resolve_left (fun q=>e q.symm)⟩
theorem in_iff {o:Od} {h:Int×Int}:inB o h=true↔h∈hands o:=by
 unfold inB;rw [decide_eq_true_eq,ix_mem]
/-! The numbers, by the pairs. -/
theorem ks_len (s:Sl):(ks s).length=(pl s).length:=by unfold ks;rw [List.length_map]
theorem hands_len (o:Od):(hands o).length=(pl o.sl).length:=by unfold hands;rw [List.length_map,ks_len]
theorem pl_nodup (s:Sl):(pl s).Nodup:=by
 unfold pl Oc.places;exact List.Nodup.sublist List.filter_sublist (List.nodup_range' (step:=1) (by omega))
theorem pl_sorted (s:Sl):(pl s).Pairwise (· < ·):=by
 unfold pl Oc.places;exact List.Pairwise.sublist List.filter_sublist (List.pairwise_lt_range' 1 (by omega))
theorem key_inj {o:Od} (F:Fit o) {i j:Nat} (hi:i∈pl o.sl) (hj:j∈pl o.sl) (e:key o.sl i=key o.sl j):i=j:=by
 have h1:=(F.fine i hi).2.2.2;have h2:=(F.fine j hj).2.2.2;rw [e] at h1;rw [h1] at h2
 omega
theorem map_nodup {α β:Type} {f:α->β}:∀ {l:List α},l.Nodup->(∀ x,x∈l->∀ y,y∈l->f x=f y->x=y)->(l.map f).Nodup
 | [],_,_=>List.nodup_nil
 | x::l,hn,hf=>by
  rw [List.map_cons,List.nodup_cons];refine⟨fun hm=>?_,map_nodup (List.nodup_cons.1 hn).2 (fun a ha b hb=>hf a (List.mem_cons_of_mem _ ha) b (List.mem_cons_of_mem _ hb))⟩;obtain⟨y,hy,e⟩:=List.mem_map.1 hm;have:=hf x (List.mem_cons_self ..) y (List.mem_cons_of_mem _ hy) e.symm;exact (List.nodup_cons.1 hn).1 (this▸hy)
theorem ks_nodup {o:Od} (F:Fit o):(ks o.sl).Nodup:=map_nodup (pl_nodup _) (fun i hi j hj e=>key_inj F hi hj e)
theorem ks_fine {o:Od} (F:Fit o) {n:Int} (h:n∈ks o.sl):0<=n/\n < o.tb.gens.length/\0<=Hn.a o.tb n.toNat:=by
 unfold ks at h;obtain⟨i,hi,rfl⟩:=List.mem_map.1 h;obtain⟨_,h1,h2,h3⟩:=F.fine i hi;refine⟨h1,by have:=F.may.len;omega,by rw [h3];omega⟩
theorem nth_hand {o:Od} (F:Fit o) {k:Nat} (hk:k < (hands o).length) :
  (hands o).getD k (0,0)=hn o.tb (key o.sl ((pl o.sl).getD k 0))/\(pl o.sl).getD k 0∈pl o.sl/\Hn.a o.tb ((hands o).getD k (0,0)).1.toNat=((pl o.sl).getD k 0:Nat):=by
 have hk':k < (pl o.sl).length:=by rw [<-hands_len o];exact hk
 have hm:(pl o.sl).getD k 0∈pl o.sl:=by simp [List.getD,List.getElem?_eq_getElem hk']
 have e:(hands o).getD k (0,0)=hn o.tb (key o.sl ((pl o.sl).getD k 0)):=by
  unfold hands ks
  simp [List.getD,List.getElem?_map,List.getElem?_eq_getElem hk']
 refine⟨e,hm,?_⟩;rw [e];exact (F.fine _ hm).2.2.2
end Om
namespace Om
/-! Settling. -/
def turned (s:Sl) (zs:List Int) (but:Int) (l:List Nat):Nat:=(l.filter fun i=>decide (zs.getD (key s i).toNat 0≠i)&&decide (key s i≠but)).length
end Om
namespace Om
structure In (o:Od) (k:Nat):Prop where
 fit:Fit (inO o k)
 hands:hands (inO o k)=(Om.hands o).take k++Hn.hnd o.tb::(Om.hands o).drop k
 new:¬ Hn.hnd o.tb∈Om.hands o
theorem hand_is {o:Od} (F:Fit o) {h:Int×Int} (hi:ix h (hands o) < (hands o).length) :
  Hn.isB o.tb h=true/\h.1=key o.sl ((pl o.sl).getD (ix h (hands o)) 0)/\Hn.a o.tb h.1.toNat=((pl o.sl).getD (ix h (hands o)) 0:Nat):=by
 obtain⟨h1,h2,h3⟩:=nth_hand F hi;rw [ix_get hi] at h1 h3;have e:h.1=key o.sl ((pl o.sl).getD (ix h (hands o)) 0):=congrArg Prod.fst h1;obtain⟨_,f2,f3,_⟩:=F.fine _ h2;refine⟨(Hn.is_iff o.tb h).2 ⟨by rw [e];exact f2,by have:=F.may.len;rw [e];omega,by rw [h3];omega,?_⟩,e,h3⟩;have e2:h.2=Hn.g o.tb (key o.sl ((pl o.sl).getD (ix h (hands o)) 0)).toNat:=congrArg Prod.snd h1;rw [e,<-e2]
/-! Labels, and how two stand. -/
theorem pl_lt {s:Sl} {j k:Nat} (hk:k < (pl s).length) (h:j < k):(pl s).getD j 0 < (pl s).getD k 0:=by
 have:=(List.pairwise_iff_getElem.1 (pl_sorted s)) j k (by omega) hk h;rw [List.getD_eq_getElem?_getD,List.getD_eq_getElem?_getD,List.getElem?_eq_getElem (by omega),List.getElem?_eq_getElem hk];exact this
end Om
def odCells (o:Od) (a:Ads) (A:HAds):Array Value :=
 #[.int .u8 o.cf.tag,.int .i64 o.cf.most,.int .i64 o.cf.seg,.int .i64 o.cf.least,.int .i64 o.cf.den,.int .i64 o.cf.ll,.int .i64 o.cf.rl,.int .i64 o.cf.rh,.int .i64 o.cf.lh,
  .int .i64 o.sl.seg,.slice a.w o.sl.words.length a.cw,.slice a.k o.sl.keys.length a.ck,.slice a.v o.sl.vals.length a.cv,.slice a.c o.sl.counts.length a.cc,.int .u64 (o.sl.laid:Int),
  .slice A.g o.tb.gens.length A.cg,.slice A.a o.tb.ats.length A.ca,.int .u64 (o.moved:Int)]
def odv (o:Od) (a:Ads) (A:HAds):Value:=.agg (odCells o a A)
structure OHeld (w:World) (o:Od) (a:Ads) (A:HAds):Prop where
 sl:Held w o.sl a
 tb:HHeld w o.tb A
theorem OHeld.below {w w':World} {o:Od} {a:Ads} {A:HAds} (h:OHeld w o a A) (hb:Below w.heap.size w w'):OHeld w' o a A:=⟨h.sl.below hb,h.tb.below hb⟩
structure Od.In (o:Od):Prop where
 cf:o.cf.In
 ok:o.Ok
 short:o.Short
def OBox (w:World) (b:Nat) (o:Od) (a:Ads) (A:HAds):Prop:=∃ T,w.heap[b]?=some (.cells (odCells o a A) T (0,0))
theorem OBox.lt {w:World} {b:Nat} {o:Od} {a:Ads} {A:HAds} (h:OBox w b o a A):b < w.heap.size:=by
 obtain⟨T,h⟩:=h;exact (Array.getElem?_eq_some_iff.1 h).1
theorem OBox.below {w w':World} {b:Nat} {o:Od} {a:Ads} {A:HAds} (h:OBox w b o a A) (hb:Below w.heap.size w w'):OBox w' b o a A:=by
 have hl:=h.lt;obtain⟨T,h⟩:=h;exact⟨T,(hb.block b hl).trans h⟩
theorem OBox.low {w w':World} {n b:Nat} {o:Od} {a:Ads} {A:HAds} (h:OBox w b o a A) (hn:b < n) (hb:Below n w w'):OBox w' b o a A:=by
 obtain⟨T,h⟩:=h;exact⟨T,(hb.block b hn).trans h⟩
theorem OBox.new (w:World) (o:Od) (a:Ads) (A:HAds) (T:TypeId):OBox (w.alloc (.cells (odCells o a A) T)) w.heap.size o a A:=⟨T,by show (w.heap.push _)[w.heap.size]?=_;exact Array.getElem?_push_size⟩
structure OCells (w:World) (b:Nat) (o:Od) (a:Ads) (A:HAds):Prop where
 c0:w.cell? ⟨b,0,none⟩=some (.int .u8 o.cf.tag)
 c1:w.cell? ⟨b,1,none⟩=some (.int .i64 o.cf.most)
 c2:w.cell? ⟨b,2,none⟩=some (.int .i64 o.cf.seg)
 c3:w.cell? ⟨b,3,none⟩=some (.int .i64 o.cf.least)
 c4:w.cell? ⟨b,4,none⟩=some (.int .i64 o.cf.den)
 c5:w.cell? ⟨b,5,none⟩=some (.int .i64 o.cf.ll)
 c6:w.cell? ⟨b,6,none⟩=some (.int .i64 o.cf.rl)
 c7:w.cell? ⟨b,7,none⟩=some (.int .i64 o.cf.rh)
 c8:w.cell? ⟨b,8,none⟩=some (.int .i64 o.cf.lh)
 c9:w.cell? ⟨b,9,none⟩=some (.int .i64 o.sl.seg)
 c10:w.cell? ⟨b,10,none⟩=some (.slice a.w o.sl.words.length a.cw)
 c11:w.cell? ⟨b,11,none⟩=some (.slice a.k o.sl.keys.length a.ck)
 c12:w.cell? ⟨b,12,none⟩=some (.slice a.v o.sl.vals.length a.cv)
 c13:w.cell? ⟨b,13,none⟩=some (.slice a.c o.sl.counts.length a.cc)
 c14:w.cell? ⟨b,14,none⟩=some (.int .u64 (o.sl.laid:Int))
 c15:w.cell? ⟨b,15,none⟩=some (.slice A.g o.tb.gens.length A.cg)
 c16:w.cell? ⟨b,16,none⟩=some (.slice A.a o.tb.ats.length A.ca)
 c17:w.cell? ⟨b,17,none⟩=some (.int .u64 (o.moved:Int))
theorem OBox.cells {w:World} {b:Nat} {o:Od} {a:Ads} {A:HAds} (h:OBox w b o a A):OCells w b o a A:=by
 obtain⟨T,h⟩:=h
 have e:∀ i,w.cell? ⟨b,i,none⟩=(odCells o a A)[i]?:=fun i=>by simp [World.cell?,h]
 exact⟨e 0,e 1,e 2,e 3,e 4,e 5,e 6,e 7,e 8,e 9,e 10,e 11,e 12,e 13,e 14,e 15,e 16,e 17⟩
theorem OBox.free {w:World} {b:Nat} {o:Od} {a:Ads} {A:HAds} (h:OBox w b o a A) (i:Nat):w.frozen? ⟨b,i,none⟩=false:=by
 obtain⟨T,h⟩:=h
 simp [World.frozen?,h]
theorem OBox.other {w:World} {b:Nat} {o:Od} {a:Ads} {A:HAds} (h:OBox w b o a A) {p:Addr} (hp:p.block≠b) (u:Value):OBox (w.setCell p u) b o a A:=by
 obtain⟨T,h⟩:=h;exact⟨T,(Below.heap_setCell w p u b (fun e=>hp e.symm)).trans h⟩
theorem heap_set {w:World} {b i:Nat} {cs:Array Value} {T:TypeId} (h:w.heap[b]?=some (.cells cs T (0,0))) (v:Value):(w.setCell ⟨b,i,none⟩ v).heap[b]?=some (.cells (cs.setIfInBounds i v) T (0,0)):=by
 show (w.heap.modify b _)[b]?=_
 rw [Array.getElem?_modify,if_pos rfl,h]
 rfl
namespace Om
theorem nodup_le {α:Type} [BEq α] [LawfulBEq α]:∀ {l m:List α},l.Nodup->(∀ x,x∈l->x∈m)->l.length<=m.length
 | [],m,_,_=>Nat.zero_le _
 | x::l,m,hn,hs=>by
  obtain⟨h1,h2⟩:=List.nodup_cons.1 hn;have hm:=hs x (List.mem_cons_self ..)
  have:=nodup_le (l:=l) (m:=m.erase x) h2 (fun y hy=>by
   have hne:y≠x:=fun e=>h1 (e▸hy)
   exact (List.mem_erase_of_ne hne).2 (hs y (List.mem_cons_of_mem _ hy)))
  rw [List.length_erase_of_mem hm] at this;have:0 < m.length:=List.length_pos_of_mem hm
  simp only [List.length_cons]
  omega
theorem all_in {α:Type} [BEq α] [LawfulBEq α] {l m:List α} (hn:l.Nodup) (hs:∀ x,x∈l->x∈m) (hl:m.length<=l.length) {x:α} (hx:x∈m):x∈l:=by
 by_cases h:x∈l
 ·exact h
 ·have:=nodup_le (l:=x::l) (m:=m) (List.nodup_cons.2 ⟨h,hn⟩) (fun y hy=>by
   rcases List.mem_cons.1 hy with rfl | hy
   ·exact hx
   ·exact hs y hy)
  simp only [List.length_cons] at this
  omega
theorem range_getD (zs:List Int):(List.range zs.length).map (fun i=>zs.getD i 0)=zs:=by
 apply List.ext_getElem
 ·simp
 ·intro i h1 h2
  simp [List.getD,List.getElem?_eq_getElem h2]
theorem live_range (zs:List Int):Hn.live zs=((List.range zs.length).filter fun i=>decide (0<=zs.getD i 0)).length:=by
 unfold Hn.live
 conv=>lhs;rw [<-range_getD zs]
 rw [List.filter_map,List.length_map]
 rfl
theorem live_ks {o:Od} (F:Fit o) {n:Nat} (hn:n < o.tb.ats.length) (h:0<=Hn.a o.tb n):(n:Int)∈ks o.sl:=by
 have e:=live_range o.tb.ats;rw [F.live,<-ks_len] at e;have hk:∀ m,m∈ks o.sl->0<=m:=fun m hm=>(ks_fine F hm).1;have hnd:((ks o.sl).map Int.toNat).Nodup:=map_nodup (ks_nodup F) (fun a ha b hb q=>by have:=hk a ha;have:=hk b hb;omega)
 have:=all_in (m:=(List.range o.tb.ats.length).filter fun i=>decide (0<=o.tb.ats.getD i 0)) hnd (fun x hx=>by
  obtain⟨m,hm,rfl⟩:=List.mem_map.1 hx;obtain⟨h0,h1,h2⟩:=ks_fine F hm;have hl:=F.may.len
  refine List.mem_filter.2 ⟨List.mem_range.2 (by omega),decide_eq_true h2⟩) (by rw [List.length_map];omega) (x:=n) (List.mem_filter.2 ⟨List.mem_range.2 hn,decide_eq_true h⟩)
 obtain⟨m,hm,q⟩:=List.mem_map.1 this;have:=hk m hm;rw [show (n:Int)=m by omega];exact hm
theorem is_in {o:Od} (F:Fit o) (h:Int×Int):Hn.isB o.tb h=inB o h:=by
 rw [Bool.eq_iff_iff,in_iff];have hl:=F.may.len
 constructor
 ·intro hi
  obtain⟨i0,i1,i2,i3⟩:=(Hn.is_iff o.tb h).1 hi;have:=live_ks F (n:=h.1.toNat) (by omega) i2;rw [show ((h.1.toNat:Nat):Int)=h.1 by omega] at this;unfold hands;refine List.mem_map.2 ⟨h.1,this,?_⟩;unfold hn;rw [i3]
 ·intro hi
  exact (hand_is F (ix_mem.2 hi)).1
theorem lab_find {o:Od} (F:Fit o) (h:Int×Int):labE o h=Hn.findE o.tb h/\labV o h=Hn.findV o.tb h:=by
 have e:labE o h=Hn.findE o.tb h:=by
  unfold labE Hn.findE;rw [if_pos (chk_fit.2 F),if_pos (Hn.chk_may.2 F.may),is_in F]
 refine⟨e,?_⟩;unfold labV Hn.findV;rw [e]
theorem lab_bad {o:Od} (h:¬ chkE o=0) (x:Int×Int):labE o x=chkE o/\labV o x=0:=by
 have e:labE o x=chkE o:=by unfold labE;rw [if_neg h]
 exact⟨e,by unfold labV;rw [e,if_neg h]⟩
theorem lab_yes {o:Od} {h:Int×Int} (e:labE o h=0):Fit o/\ix h (hands o) < (hands o).length:=by
 unfold labE at e
 by_cases hc:chkE o=0
 ·rw [if_pos hc] at e
  refine⟨chk_fit.1 hc,?_⟩
  cases hi:inB o h
  ·rw [hi,if_neg (by simp)] at e;cases e
  ·unfold inB at hi;exact of_decide_eq_true hi
 ·rw [if_neg hc] at e;exact absurd e hc
theorem cmp_lab {o:Od} {h k:Int×Int} (e:labE o h=0) (e2:labE o k=0):cmpE o h k=0/\cmpV o h k=if labV o h < labV o k then -1 else if labV o k < labV o h then 1 else 0:=by
 obtain⟨F,hi⟩:=lab_yes e;obtain⟨_,hk⟩:=lab_yes e2
 have ce:cmpE o h k=0:=by
  unfold cmpE inB;rw [if_pos (chk_fit.2 F),if_pos ⟨decide_eq_true hi,decide_eq_true hk⟩]
 refine⟨ce,?_⟩
 have v1:labV o h=((pl o.sl).getD (ix h (hands o)) 0:Nat):=by unfold labV;rw [if_pos e];exact (hand_is F hi).2.2
 have v2:labV o k=((pl o.sl).getD (ix k (hands o)) 0:Nat):=by unfold labV;rw [if_pos e2];exact (hand_is F hk).2.2
 unfold cmpV;rw [if_pos ce,v1,v2];rw [hands_len] at hi hk
 rcases Nat.lt_trichotomy (ix h (hands o)) (ix k (hands o)) with q | q | q
 ·have:=pl_lt hk q
  rw [if_pos q,if_pos (by omega)]
 ·rw [q]
  simp
 ·have:=pl_lt hi q
  rw [if_neg (by omega),if_pos q,if_neg (by omega),if_pos (by omega)]
theorem cmp_no {o:Od} {h k:Int×Int} (c:chkE o=0) (e:¬ (labE o h=0/\labE o k=0)):cmpE o h k=140/\cmpV o h k=0:=by
 have ce:cmpE o h k=140:=by
  unfold cmpE;rw [if_pos c];unfold labE at e;rw [if_pos c,if_pos c] at e
  cases h1:inB o h
  ·rw [if_neg (by simp)]
  ·cases h2:inB o k
   ·rw [if_neg (by simp)]
   ·rw [h1,h2] at e;exact absurd ⟨rfl,rfl⟩ e
 exact⟨ce,by unfold cmpV;rw [ce,if_neg (by omega)]⟩
/-! What is answered is within 64 bits, and short. -/
end Om
theorem elemH:Elem Tryz.prog 52 39 (.agg #[.int .i64 0,.int .i64 0]) 2 16 :=
 ⟨Tryz.underlying52,info_parts (show (Tryz.prog.info? 39).map (fun i=>(i.zero,i.size,i.bytes))=some (some (.agg #[.int .i64 0,.int .i64 0]),2,16) by kernel_rfl),rfl,by decide⟩
theorem infoO:(Tryz.prog.info? 33).map (·.size)=some 18:=by kernel_rfl
theorem load_whole {P:Program} {ρ:Operand->Value} {q:Oper} {ty:TypeId} {x:Operand} (ho:q.op=.load ty x) {w:World} {g:Nat} (hx:ρ x=.pointer (some ⟨g,0,none⟩)) {o:Od} {a:Ads} {A:HAds} (hb:OBox w g o a A) (d:TypeDesc)
  (hu:P.underlying ty=some d) (hd:(match d with | .struct _ | .array _ _=>true | _=>false)=true) (hi:(P.info? ty).map (·.size)=some 18):(execOp ρ q).run P w=.ok (.value (.agg (odCells o a A))) w:=by
 obtain⟨T,hb⟩:=hb;unfold execOp
 simp only [ho,hx,Instr.loadAt,Instr.sureAddr,Sem.run_bind,Sem.run_pure,Result.andThen_ok,run_loadVar_row w g T ty (odCells o a A) (0,0) d hb hu hd hi]
theorem wpList_load_od {ops:Array Oper} {rest:List Oper} {q:Oper} {act:Act} {w:World} {Q:Exit->Act->World->Prop} (hgd:q.guard=none) (x:Operand) (ho:q.op=.load 33 x)
  (g:Nat) (hx:act.eval x=.pointer (some ⟨g,0,none⟩)) {o:Od} {a:Ads} {A:HAds} (hb:OBox w g o a A)
  (h:wpList Tryz.prog ops Q rest (act.put q.dst (.agg (odCells o a A))) w):wpList Tryz.prog ops Q (q::rest) act w:=by
 obtain⟨T,hb⟩:=hb;exact wpList_load_row hgd _ x ho g hx T _ _ _ hb Tryz.underlying33 rfl infoO h
theorem wpList_load_odg {ops:Array Oper} {rest:List Oper} {q:Oper} {act:Act} {w:World} {Q:Exit->Act->World->Prop} (hw:Region.wanted q (yielded ops act.tmps)=true) (x:Operand) (ho:q.op=.load 33 x)
  (g:Nat) (hx:act.eval x=.pointer (some ⟨g,0,none⟩)) {o:Od} {a:Ads} {A:HAds} (hb:OBox w g o a A)
  (h:wpList Tryz.prog ops Q rest (act.put q.dst (.agg (odCells o a A))) w):wpList Tryz.prog ops Q (q::rest) act w:=by
 obtain⟨T,hb⟩:=hb;exact BigFrame.wpList_want hw fun _ hK=>wp_load_row _ x ho g hx T _ _ _ hb Tryz.underlying33 rfl infoO (hK _ _ h)
theorem odCells_one (o:Od) (a:Ads) (A:HAds):(odCells o a A).all (·.oneCell')=true:=by simp [odCells,Value.oneCell']
structure Laid1 (w:World) (g:Nat) (w':World):Prop where
 os:w'.os=w.os
 tape:w'.tape=w.tape
 output:w'.output=w.output
 size:w'.heap.size=w.heap.size
 off:∀ k,k≠g->w'.heap[k]?=w.heap[k]?
theorem Laid1.row (w:World) (g:Nat) (cs:Array Value):Laid1 w g (w.setRow g cs):=⟨rfl,rfl,rfl,setRow_size w g cs,fun k hk=>setRow_other w g k cs hk⟩
theorem Laid1.cell (w:World) (p:Addr) (v:Value):Laid1 w p.block (w.setCell p v):=⟨rfl,rfl,rfl,World.size_setCell w p v,fun k hk=>Below.heap_setCell w p v k hk⟩
theorem Laid1.trans {w v u:World} {g:Nat} (h:Laid1 w g v) (k:Laid1 v g u):Laid1 w g u:=⟨k.os.trans h.os,k.tape.trans h.tape,k.output.trans h.output,k.size.trans h.size,fun i hi=>(k.off i hi).trans (h.off i hi)⟩
theorem Laid1.below {B g:Nat} {v w w':World} (h:Laid1 w g w') (hb:Below B v w) (hg:B<=g):Below B v w':=⟨h.os.trans hb.os,h.tape.trans hb.tape,h.output.trans hb.output,by rw [h.size];exact hb.size,fun k hk=>(h.off k (by omega)).trans (hb.block k hk)⟩
theorem Laid1.cells {w w':World} {g:Nat} (h:Laid1 w g w') {p:Addr} (hp:p.block≠g):w'.cell? p=w.cell? p:=World.cell?_of_block (h.off p.block hp)
theorem Laid1.frozen {w w':World} {g:Nat} (h:Laid1 w g w') {p:Addr} (hp:p.block≠g):w'.frozen? p=w.frozen? p:=World.frozen?_of_block (h.off p.block hp)
theorem Laid1.new {w w':World} {g:Nat} (h:Laid1 w g w') {k:IntKind} {B:Nat} {a:Option Addr} {zs:List Int} (hn:New k w B a zs) (hg:∀ p,a=some p->p.block≠g):New k w' B a zs:=by
 rcases hn with h0 | ⟨b,off,h1,hB,h2,h3⟩
 ·exact Or.inl h0
 ·have hne:=hg _ h1
  exact Or.inr ⟨b,off,h1,hB,by rw [h.size];exact h2,fun i hi=>⟨(h.cells (p:=⟨b,off+i,none⟩) hne).trans (h3 i hi).1,(h.frozen (p:=⟨b,off+i,none⟩) hne).trans (h3 i hi).2⟩⟩
theorem Laid1.newB {w w':World} {g:Nat} (h:Laid1 w g w') {k:IntKind} {B:Nat} {a:Option Addr} {zs:List Int} (hn:New k w B a zs) (hg:g < B):New k w' B a zs:=by
 rcases hn with h0 | ⟨b,off,h1,hB,h2,h3⟩
 ·exact Or.inl h0
 ·have hne:b≠g:=by omega
  exact Or.inr ⟨b,off,h1,hB,by rw [h.size];exact h2,fun i hi=>⟨(h.cells (p:=⟨b,off+i,none⟩) hne).trans (h3 i hi).1,(h.frozen (p:=⟨b,off+i,none⟩) hne).trans (h3 i hi).2⟩⟩
theorem Laid1.obox {w w':World} {g b:Nat} (h:Laid1 w g w') {o:Od} {a:Ads} {A:HAds} (hb:OBox w b o a A) (hg:b≠g):OBox w' b o a A:=by
 obtain⟨T,hb⟩:=hb;exact⟨T,(h.off b hg).trans hb⟩
structure OOwn (w:World) (B:Nat) (o:Od) (a:Ads) (A:HAds):Prop where
 sl:Own w B o.sl a
 tb:HOwn w B o.tb A
theorem OOwn.held {w:World} {B:Nat} {o:Od} {a:Ads} {A:HAds} (h:OOwn w B o a A):OHeld w o a A:=⟨h.sl.held,h.tb.held⟩
theorem OOwn.below {w w':World} {B:Nat} {o:Od} {a:Ads} {A:HAds} (h:OOwn w B o a A) (hb:Below w.heap.size w w'):OOwn w' B o a A:=⟨h.sl.below hb,h.tb.below hb⟩
theorem OOwn.lower {w:World} {B B':Nat} {o:Od} {a:Ads} {A:HAds} (h:OOwn w B o a A) (hB:B'<=B):OOwn w B' o a A:=⟨h.sl.lower hB,h.tb.lower hB⟩
theorem OOwn.laid {w w':World} {g B:Nat} {o:Od} {a:Ads} {A:HAds} (h:OOwn w B o a A) (hl:Laid1 w g w') (hg:g < B):OOwn w' B o a A :=
 ⟨⟨hl.newB h.sl.words hg,hl.newB h.sl.keys hg,hl.newB h.sl.vals hg,hl.newB h.sl.counts hg,h.sl.caps⟩,⟨hl.newB h.tb.gens hg,hl.newB h.tb.ats hg,h.tb.caps,h.tb.sep⟩⟩
theorem oown_zero (w:World) (B:Nat):OOwn w B Od.zero adsNone hNone:=⟨⟨Or.inl rfl,Or.inl rfl,Or.inl rfl,Or.inl rfl,⟨fun _=>⟨rfl,rfl⟩,fun _=>⟨rfl,rfl⟩,fun _=>⟨rfl,rfl⟩,fun _=>⟨rfl,rfl⟩,Nat.le_refl _,Nat.le_refl _,Nat.le_refl _,Nat.le_refl _⟩⟩,own_zero w B⟩
def OPost (o:Od) (w:World) (e:Ending) (w':World):Prop:=∃ a A,e=.returned (odv o a A)/\OOwn w' w.heap.size o a A/\Below w.heap.size w w'
def OAns (o:Od) (er:Int) (w:World) (e:Ending) (w':World):Prop:=∃ a A,e=.returned (.tuple #[odv o a A,.int .i64 er])/\OOwn w' w.heap.size o a A/\Below w.heap.size w w'
theorem wpList_store_od {ops:Array Oper} {rest:List Oper} {q:Oper} {act:Act} {w:World} {Q:Exit->Act->World->Prop} (hgd:q.guard=none) (x y:Operand) (ho:q.op=.store 33 x y)
  (g:Nat) (hx:act.eval x=.pointer (some ⟨g,0,none⟩)) (o:Od) (a:Ads) (A:HAds) (hy:act.eval y=.agg (odCells o a A)) {o0:Od} {a0:Ads} {A0:HAds} (hb:OBox w g o0 a0 A0)
  (h:∀ w',OBox w' g o a A->Laid1 w g w'->wpList Tryz.prog ops Q rest (act.put q.dst undef) w'):wpList Tryz.prog ops Q (q::rest) act w:=by
 obtain⟨T,hb⟩:=hb;exact wpList_store_row hgd _ x y ho g _ hx hy T _ hb infoO rfl (odCells_one o a A) (h _ ⟨T,setRow_heap w g _ _ T (0,0) hb⟩ (Laid1.row w g _))
theorem step_store_od {ops:Array Oper} {q:Oper} {act:Act} {w:World} {K:Act->World->Prop} {Q:Exit->Act->World->Prop} {FF:Prop} (hgd:q.guard=none) (x y:Operand) (ho:q.op=.store 33 x y)
  (g:Nat) (hx:act.eval x=.pointer (some ⟨g,0,none⟩)) (o:Od) (a:Ads) (A:HAds) (hy:act.eval y=.agg (odCells o a A)) {o0:Od} {a0:Ads} {A0:HAds} (hb:OBox w g o0 a0 A0)
  (h:∀ w',OBox w' g o a A->Laid1 w g w'->K (act.put q.dst undef) w'):if Region.wanted q (yielded ops act.tmps)=true then Oper.wp Tryz.prog q act w K Q else FF:=by
 have hw:Region.wanted q (yielded ops act.tmps)=true:=by simp [Region.wanted,hgd]
 rw [if_pos hw];obtain⟨T,hb⟩:=hb;exact wp_store_row _ x y ho g _ hx hy T _ hb infoO rfl (odCells_one o a A) (h _ ⟨T,setRow_heap w g _ _ T (0,0) hb⟩ (Laid1.row w g _))
theorem load_od {w:World} {g:Nat} {o:Od} {a:Ads} {A:HAds} (hb:OBox w g o a A):(loadVar 33 ⟨g,0,none⟩).run Tryz.prog w=.ok (.agg (odCells o a A)) w:=by
 obtain⟨T,hb⟩:=hb;exact run_loadVar_row w g T _ _ _ _ hb Tryz.underlying33 rfl infoO
theorem results_od {fn:Func} {p:Tmp} (h:fn.results=#[.cell p 33]) (tmps:Array Value) (w:World) (g:Nat) {o:Od} {a:Ads} {A:HAds} (hp:tmps.getD p undef=.pointer (some ⟨g,0,none⟩)) (hb:OBox w g o a A) :
  (results fn tmps).run Tryz.prog w=.ok (odv o a A) w:=by
 have hp':tmps[p]?.getD undef=.pointer (some ⟨g,0,none⟩):=by simpa using hp
 simp [results,h,hp',asAddr,load_od hb,odv]
theorem results_ode {fn:Func} {p r:Tmp} (h:fn.results=#[.cell p 33,.tmp r]) (tmps:Array Value) (w:World) (g:Nat) {o:Od} {a:Ads} {A:HAds} (er:Value) (hp:tmps.getD p undef=.pointer (some ⟨g,0,none⟩)) (hr:tmps.getD r undef=er) (hb:OBox w g o a A) :
  (results fn tmps).run Tryz.prog w=.ok (.tuple #[odv o a A,er]) w:=by
 have hp':tmps[p]?.getD undef=.pointer (some ⟨g,0,none⟩):=by simpa using hp
 have hr':tmps[r]?.getD undef=er:=by simpa using hr
 simp [results,h,hp',hr',asAddr,load_od hb,odv]
theorem eq_conf (d:Nat) (c e:Cf) (w:World):Sem.run Tryz.prog (Op.equalIn (d+2) 23 (.agg #[.int .u8 c.tag,.int .i64 c.most,.int .i64 c.seg,.int .i64 c.least,.int .i64 c.den,.int .i64 c.ll,.int .i64 c.rl,.int .i64 c.rh,.int .i64 c.lh]) (.agg #[.int .u8 e.tag,.int .i64 e.most,.int .i64 e.seg,.int .i64 e.least,.int .i64 e.den,.int .i64 e.ll,.int .i64 e.rl,.int .i64 e.rh,.int .i64 e.lh])) w=.ok (Om.cfB c e) w:=by
 have p0:Sem.run Tryz.prog (part 5 #[.int .u8 c.tag,.int .i64 c.most,.int .i64 c.seg,.int .i64 c.least,.int .i64 c.den,.int .i64 c.ll,.int .i64 c.rl,.int .i64 c.rh,.int .i64 c.lh] 0) w=.ok (.int .u8 c.tag) w:=by first | rfl | kernel_rfl | simp [go_sem]
 have r0:Sem.run Tryz.prog (part 5 #[.int .u8 e.tag,.int .i64 e.most,.int .i64 e.seg,.int .i64 e.least,.int .i64 e.den,.int .i64 e.ll,.int .i64 e.rl,.int .i64 e.rh,.int .i64 e.lh] 0) w=.ok (.int .u8 e.tag) w:=by first | rfl | kernel_rfl | simp [go_sem]
 have q0:=run_equalIn_int (P:=Tryz.prog) w d 5 .u8 .u8 c.tag e.tag Tryz.underlying5
 have p1:Sem.run Tryz.prog (part 3 #[.int .u8 c.tag,.int .i64 c.most,.int .i64 c.seg,.int .i64 c.least,.int .i64 c.den,.int .i64 c.ll,.int .i64 c.rl,.int .i64 c.rh,.int .i64 c.lh] 1) w=.ok (.int .i64 c.most) w:=by first | rfl | kernel_rfl | simp [go_sem]
 have r1:Sem.run Tryz.prog (part 3 #[.int .u8 e.tag,.int .i64 e.most,.int .i64 e.seg,.int .i64 e.least,.int .i64 e.den,.int .i64 e.ll,.int .i64 e.rl,.int .i64 e.rh,.int .i64 e.lh] 1) w=.ok (.int .i64 e.most) w:=by first | rfl | kernel_rfl | simp [go_sem]
 have q1:=run_equalIn_int (P:=Tryz.prog) w d 3 .i64 .i64 c.most e.most Tryz.underlying3
 have p2:Sem.run Tryz.prog (part 3 #[.int .u8 c.tag,.int .i64 c.most,.int .i64 c.seg,.int .i64 c.least,.int .i64 c.den,.int .i64 c.ll,.int .i64 c.rl,.int .i64 c.rh,.int .i64 c.lh] 2) w=.ok (.int .i64 c.seg) w:=by first | rfl | kernel_rfl | simp [go_sem]
 have r2:Sem.run Tryz.prog (part 3 #[.int .u8 e.tag,.int .i64 e.most,.int .i64 e.seg,.int .i64 e.least,.int .i64 e.den,.int .i64 e.ll,.int .i64 e.rl,.int .i64 e.rh,.int .i64 e.lh] 2) w=.ok (.int .i64 e.seg) w:=by first | rfl | kernel_rfl | simp [go_sem]
 have q2:=run_equalIn_int (P:=Tryz.prog) w d 3 .i64 .i64 c.seg e.seg Tryz.underlying3
 have p3:Sem.run Tryz.prog (part 3 #[.int .u8 c.tag,.int .i64 c.most,.int .i64 c.seg,.int .i64 c.least,.int .i64 c.den,.int .i64 c.ll,.int .i64 c.rl,.int .i64 c.rh,.int .i64 c.lh] 3) w=.ok (.int .i64 c.least) w:=by first | rfl | kernel_rfl | simp [go_sem]
 have r3:Sem.run Tryz.prog (part 3 #[.int .u8 e.tag,.int .i64 e.most,.int .i64 e.seg,.int .i64 e.least,.int .i64 e.den,.int .i64 e.ll,.int .i64 e.rl,.int .i64 e.rh,.int .i64 e.lh] 3) w=.ok (.int .i64 e.least) w:=by first | rfl | kernel_rfl | simp [go_sem]
 have q3:=run_equalIn_int (P:=Tryz.prog) w d 3 .i64 .i64 c.least e.least Tryz.underlying3
 have p4:Sem.run Tryz.prog (part 3 #[.int .u8 c.tag,.int .i64 c.most,.int .i64 c.seg,.int .i64 c.least,.int .i64 c.den,.int .i64 c.ll,.int .i64 c.rl,.int .i64 c.rh,.int .i64 c.lh] 4) w=.ok (.int .i64 c.den) w:=by first | rfl | kernel_rfl | simp [go_sem]
 have r4:Sem.run Tryz.prog (part 3 #[.int .u8 e.tag,.int .i64 e.most,.int .i64 e.seg,.int .i64 e.least,.int .i64 e.den,.int .i64 e.ll,.int .i64 e.rl,.int .i64 e.rh,.int .i64 e.lh] 4) w=.ok (.int .i64 e.den) w:=by first | rfl | kernel_rfl | simp [go_sem]
 have q4:=run_equalIn_int (P:=Tryz.prog) w d 3 .i64 .i64 c.den e.den Tryz.underlying3
 have p5:Sem.run Tryz.prog (part 3 #[.int .u8 c.tag,.int .i64 c.most,.int .i64 c.seg,.int .i64 c.least,.int .i64 c.den,.int .i64 c.ll,.int .i64 c.rl,.int .i64 c.rh,.int .i64 c.lh] 5) w=.ok (.int .i64 c.ll) w:=by first | rfl | kernel_rfl | simp [go_sem]
 have r5:Sem.run Tryz.prog (part 3 #[.int .u8 e.tag,.int .i64 e.most,.int .i64 e.seg,.int .i64 e.least,.int .i64 e.den,.int .i64 e.ll,.int .i64 e.rl,.int .i64 e.rh,.int .i64 e.lh] 5) w=.ok (.int .i64 e.ll) w:=by first | rfl | kernel_rfl | simp [go_sem]
 have q5:=run_equalIn_int (P:=Tryz.prog) w d 3 .i64 .i64 c.ll e.ll Tryz.underlying3
 have p6:Sem.run Tryz.prog (part 3 #[.int .u8 c.tag,.int .i64 c.most,.int .i64 c.seg,.int .i64 c.least,.int .i64 c.den,.int .i64 c.ll,.int .i64 c.rl,.int .i64 c.rh,.int .i64 c.lh] 6) w=.ok (.int .i64 c.rl) w:=by first | rfl | kernel_rfl | simp [go_sem]
 have r6:Sem.run Tryz.prog (part 3 #[.int .u8 e.tag,.int .i64 e.most,.int .i64 e.seg,.int .i64 e.least,.int .i64 e.den,.int .i64 e.ll,.int .i64 e.rl,.int .i64 e.rh,.int .i64 e.lh] 6) w=.ok (.int .i64 e.rl) w:=by first | rfl | kernel_rfl | simp [go_sem]
 have q6:=run_equalIn_int (P:=Tryz.prog) w d 3 .i64 .i64 c.rl e.rl Tryz.underlying3
 have p7:Sem.run Tryz.prog (part 3 #[.int .u8 c.tag,.int .i64 c.most,.int .i64 c.seg,.int .i64 c.least,.int .i64 c.den,.int .i64 c.ll,.int .i64 c.rl,.int .i64 c.rh,.int .i64 c.lh] 7) w=.ok (.int .i64 c.rh) w:=by first | rfl | kernel_rfl | simp [go_sem]
 have r7:Sem.run Tryz.prog (part 3 #[.int .u8 e.tag,.int .i64 e.most,.int .i64 e.seg,.int .i64 e.least,.int .i64 e.den,.int .i64 e.ll,.int .i64 e.rl,.int .i64 e.rh,.int .i64 e.lh] 7) w=.ok (.int .i64 e.rh) w:=by first | rfl | kernel_rfl | simp [go_sem]
 have q7:=run_equalIn_int (P:=Tryz.prog) w d 3 .i64 .i64 c.rh e.rh Tryz.underlying3
 have p8:Sem.run Tryz.prog (part 3 #[.int .u8 c.tag,.int .i64 c.most,.int .i64 c.seg,.int .i64 c.least,.int .i64 c.den,.int .i64 c.ll,.int .i64 c.rl,.int .i64 c.rh,.int .i64 c.lh] 8) w=.ok (.int .i64 c.lh) w:=by first | rfl | kernel_rfl | simp [go_sem]
 have r8:Sem.run Tryz.prog (part 3 #[.int .u8 e.tag,.int .i64 e.most,.int .i64 e.seg,.int .i64 e.least,.int .i64 e.den,.int .i64 e.ll,.int .i64 e.rl,.int .i64 e.rh,.int .i64 e.lh] 8) w=.ok (.int .i64 e.lh) w:=by first | rfl | kernel_rfl | simp [go_sem]
 have q8:=run_equalIn_int (P:=Tryz.prog) w d 3 .i64 .i64 c.lh e.lh Tryz.underlying3
 have hst:Tryz.prog.stoodInHeld 23=false:=by kernel_rfl
 have hp:Sem.run Tryz.prog program w=.ok Tryz.prog w:=rfl;unfold Om.cfB;rw [Op.equalIn]
 simp only [Sem.run_bind,run_underlying Tryz.underlying23,Result.andThen_ok,hp,hst]
 generalize (c.tag==e.tag)=b0 at q0 ⊢;generalize (c.most==e.most)=b1 at q1 ⊢;generalize (c.seg==e.seg)=b2 at q2 ⊢;generalize (c.least==e.least)=b3 at q3 ⊢;generalize (c.den==e.den)=b4 at q4 ⊢;generalize (c.ll==e.ll)=b5 at q5 ⊢;generalize (c.rl==e.rl)=b6 at q6 ⊢;generalize (c.rh==e.rh)=b7 at q7 ⊢;generalize (c.lh==e.lh)=b8 at q8 ⊢
 cases b0
 ·simp [Sem.run_bind,p0,r0,q0,p1,r1,q1,p2,r2,q2,p3,r3,q3,p4,r4,q4,p5,r5,q5,p6,r6,q6,p7,r7,q7,p8,r8,q8,Result.andThen]
 cases b1
 ·simp [Sem.run_bind,p0,r0,q0,p1,r1,q1,p2,r2,q2,p3,r3,q3,p4,r4,q4,p5,r5,q5,p6,r6,q6,p7,r7,q7,p8,r8,q8,Result.andThen]
 cases b2
 ·simp [Sem.run_bind,p0,r0,q0,p1,r1,q1,p2,r2,q2,p3,r3,q3,p4,r4,q4,p5,r5,q5,p6,r6,q6,p7,r7,q7,p8,r8,q8,Result.andThen]
 cases b3
 ·simp [Sem.run_bind,p0,r0,q0,p1,r1,q1,p2,r2,q2,p3,r3,q3,p4,r4,q4,p5,r5,q5,p6,r6,q6,p7,r7,q7,p8,r8,q8,Result.andThen]
 cases b4
 ·simp [Sem.run_bind,p0,r0,q0,p1,r1,q1,p2,r2,q2,p3,r3,q3,p4,r4,q4,p5,r5,q5,p6,r6,q6,p7,r7,q7,p8,r8,q8,Result.andThen]
 cases b5
 ·simp [Sem.run_bind,p0,r0,q0,p1,r1,q1,p2,r2,q2,p3,r3,q3,p4,r4,q4,p5,r5,q5,p6,r6,q6,p7,r7,q7,p8,r8,q8,Result.andThen]
 cases b6
 ·simp [Sem.run_bind,p0,r0,q0,p1,r1,q1,p2,r2,q2,p3,r3,q3,p4,r4,q4,p5,r5,q5,p6,r6,q6,p7,r7,q7,p8,r8,q8,Result.andThen]
 cases b7
 ·simp [Sem.run_bind,p0,r0,q0,p1,r1,q1,p2,r2,q2,p3,r3,q3,p4,r4,q4,p5,r5,q5,p6,r6,q6,p7,r7,q7,p8,r8,q8,Result.andThen]
 cases b8<;>simp [Sem.run_bind,p0,r0,q0,p1,r1,q1,p2,r2,q2,p3,r3,q3,p4,r4,q4,p5,r5,q5,p6,r6,q6,p7,r7,q7,p8,r8,q8,Result.andThen]
namespace Om
theorem in_pl {s:Sl} {i:Nat}:i∈pl s↔i < s.keys.length/\Oc.isB s.words i=true:=by
 unfold pl;rw [Oc.mem_places]
 constructor
 ·rintro⟨⟨_,h1⟩,h2⟩;exact⟨h1,h2⟩
 ·rintro⟨h1,h2⟩;exact⟨⟨Nat.zero_le _,h1⟩,h2⟩
end Om
end Go.Proofs.YtpeckljoannolaaGreatDoor
