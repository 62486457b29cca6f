/- The plain functions of layer 12 (span), and facts of them: floors, ceilings, numbers and runs of keys. No program is named here. -/
import Derived.Test.YtfdpkmafemidjaaDoorPlain10Sp
import Derived.Test.YtfdpkmafemidjaaDoorTkSp
set_option linter.unusedVariables false
set_option linter.unusedSimpArgs false
namespace Go.Proofs.YtfdpkmafemidjaaDoor
namespace Sn
theorem getD_el {α:Type} (l:List α) (d:α) {i:Nat} (h:i < l.length):l.getD i d=l[i]:=by
 rw [List.getD,List.getElem?_eq_getElem h,Option.getD_some]
def upto (s:Sl) (k:Int):List Nat:=(Sk.all s).filter fun i=>decide (Sk.key s i<=k)
def lst (l:List Nat):Nat:=l.getD (l.length-1) 0
def floorE (s:Sl) (k:Int):Int:=if Sk.chkE s=0 then (if (upto s k).length=0 then 6 else 0) else Sk.chkE s
def floorI (s:Sl) (k:Int):Int:=if floorE s k=0 then ((lst (upto s k):Nat):Int) else 0
def floorV (s:Sl) (k:Int):Int×Int:=if floorE s k=0 then s.pairAt (lst (upto s k)) else (0,0)
def ceilV (s:Sl) (k:Int):Int×Int:=if Sk.nextE s k=0 then s.pairAt ((Sk.high s k).getD 0 0) else (0,0)
def endE (s:Sl):Int:=if Sk.chkE s=0 then (if (Sk.all s).length=0 then 6 else 0) else Sk.chkE s
def minV (s:Sl):Int×Int:=if endE s=0 then s.pairAt ((Sk.all s).getD 0 0) else (0,0)
def maxV (s:Sl):Int×Int:=if endE s=0 then s.pairAt (lst (Sk.all s)) else (0,0)
def selE (s:Sl) (k:Int):Int:=if Sk.chkE s=0 then (if 0<=k/\k < (Sk.all s).length then 0 else 290) else Sk.chkE s
def selV (s:Sl) (k:Int):Int×Int:=if selE s k=0 then s.pairAt ((Sk.all s).getD k.toNat 0) else (0,0)
def mid (s:Sl) (a b:Int):List Nat:=(Sk.all s).filter fun i=>decide (a<=Sk.key s i)&&decide (Sk.key s i<=b)
def run (s:Sl) (a b:Int):List (Int×Int):=(mid s a b).map s.pairAt
def scanE (s:Sl) (n:Int):Int:=if Sk.chkE s=0 then (if 0<=n/\n<=1000 then 0 else 2) else Sk.chkE s
def scanV (s:Sl) (a b n:Int):List (Int×Int):=if scanE s n=0 then (run s a b).take n.toNat else []
theorem memF {α:Type} {p:α->Bool} {l:List α} {x:α} (h:x∈l.filter p):x∈l:=(List.mem_filter.1 h).1
theorem pair_key (s:Sl) (i:Nat):(s.pairAt i).1=Sk.key s i:=rfl
theorem all_le (s:Sl):(Sk.all s).length<=s.keys.length:=by
 have:=Oc.places_length_le s.words 0 s.keys.length;unfold Sk.all
 omega
theorem all_mem {s:Sl} {i:Nat} (h:i∈Sk.all s):i < s.keys.length/\Oc.isB s.words i=true :=
 have:=Oc.mem_places.1 h
 ⟨this.1.2,this.2⟩
theorem all_rise {s:Sl} (hr:Sk.risesB s=true) {i j:Nat} (hij:i < j) (hj:j < (Sk.all s).length):Sk.key s ((Sk.all s).getD i 0) < Sk.key s ((Sk.all s).getD j 0):=by
 have h:=Sk.rises_all hr;unfold Sk.ks at h
 have hi:i < (Sk.all s).length:=by omega
 have:=List.pairwise_iff_getElem.1 h i j (by simpa using hi) (by simpa using hj) hij
 simp only [List.getElem_map] at this
 rw [getD_el _ _ hi,getD_el _ _ hj];exact this
theorem cut {s:Sl} (hr:Sk.risesB s=true) (k:Int):Sk.all s=Sk.low s k++Sk.high s k:=by
 obtain⟨r,P⟩:=Sk.part_of k hr;rw [P.lows,P.highs];unfold Sk.all;exact Oc.places_split s.words 0 r s.keys.length (Nat.zero_le _) P.le
theorem high_mem {s:Sl} {k:Int} {i:Nat} (h:i∈Sk.high s k):k<=Sk.key s i:=by
 have:=(List.mem_filter.1 h).2
 simpa using this
theorem low_mem {s:Sl} {k:Int} {i:Nat} (h:i∈Sk.low s k):Sk.key s i < k:=by
 have:=(List.mem_filter.1 h).2
 simpa using this
theorem upto_not {s:Sl} {k:Int} (h:∀ i∈Sk.all s,Sk.key s i≠k):upto s k=Sk.low s k:=by
 unfold upto Sk.low;refine List.filter_congr fun i hi=>?_;rw [decide_eq_decide];have:=h i hi
 omega
theorem upto_is {s:Sl} (hr:Sk.risesB s=true) {k:Int} {x:Nat} {t:List Nat} (h:Sk.high s k=x::t) (hk:Sk.key s x=k):upto s k=Sk.low s k++[x]:=by
 have hc:=cut hr k;rw [h] at hc;have hp:=Sk.rises_all hr;unfold Sk.ks at hp;rw [hc,List.map_append,List.pairwise_append,List.map_cons,List.pairwise_cons] at hp;unfold upto;rw [hc,List.filter_append,List.filter_cons]
 have e1:(Sk.low s k).filter (fun i=>decide (Sk.key s i<=k))=Sk.low s k:=List.filter_eq_self.2 fun i hi=>by
  have:=low_mem hi
  simp;omega
 have e2:t.filter (fun i=>decide (Sk.key s i<=k))=[]:=List.filter_eq_nil_iff.2 fun i hi=>by
  have:=hp.2.1.1 (Sk.key s i) (List.mem_map.2 ⟨i,hi,rfl⟩)
  simp;omega
 rw [e1,e2,if_pos (by simp [hk])]
theorem lst_snoc (l:List Nat) (x:Nat):lst (l++[x])=x:=by unfold lst;simp
theorem lst_mem {l:List Nat} (h:l.length≠0):lst l∈l:=by
 unfold lst;rw [getD_el _ _ (by omega)];exact List.getElem_mem _
theorem head_mem {l:List Nat} (h:l.length≠0):l.getD 0 0∈l:=by
 rw [getD_el _ _ (by omega)];exact List.getElem_mem _
inductive FindIs (s:Sl) (k:Int):Prop
 | there (x:Nat) (he:Sk.findE s k=0) (hv:Sk.findV s k=x) (hf:floorE s k=0) (hi:floorI s k=x)
 | not (he:Sk.findE s k=6) (hf:floorE s k=Sk.lastE s k) (hi:floorI s k=Sk.lastV s k)
 | bad (he:Sk.findE s k=Sk.chkE s) (h6:Sk.chkE s≠6) (h0:Sk.chkE s≠0) (hv:Sk.findV s k=0) (hf:floorE s k=Sk.chkE s) (hi:floorI s k=0)
theorem find_is (s:Sl) (k:Int):FindIs s k:=by
 by_cases hc:Sk.chkE s=0
 ·obtain⟨hm,hr⟩:=Sk.chk_zero.1 hc
  have none:(∀ i∈Sk.all s,Sk.key s i≠k)->Sk.findE s k=6->FindIs s k:=fun hn he=>by
   have hu:=upto_not hn
   have hf:floorE s k=Sk.lastE s k:=by unfold floorE Sk.lastE;rw [hu]
   refine .not he hf ?_;unfold floorI Sk.lastV;rw [hf,hu]
   rfl
  cases hh:Sk.high s k with
  | nil =>
   have hn:Sk.nextE s k=6:=by unfold Sk.nextE;rw [if_pos hc,hh];rfl
   refine none (fun i hi he=>?_) ?_
   ·have:i∈Sk.high s k:=List.mem_filter.2 ⟨hi,by simp;omega⟩
    rw [hh] at this
    cases this
   ·unfold Sk.findE;rw [hn];rfl
  | cons x t =>
   have hn:Sk.nextE s k=0:=by unfold Sk.nextE;rw [if_pos hc,hh];rfl
   have hv:Sk.nextV s k=x:=by unfold Sk.nextV;rw [if_pos hn,hh];rfl
   have hfe:Sk.findE s k=if Sk.key s x=k then 0 else 6:=by unfold Sk.findE;rw [if_pos hn,hv,Int.toNat_natCast]
   by_cases hk:Sk.key s x=k
   ·rw [if_pos hk] at hfe
    have hu:=upto_is hr hh hk
    have hf:floorE s k=0:=by unfold floorE;rw [if_pos hc,hu];simp
    refine .there x hfe ?_ hf ?_
    ·unfold Sk.findV;rw [if_pos hfe,hv]
    ·unfold floorI;rw [if_pos hf,hu,lst_snoc]
   ·rw [if_neg hk] at hfe
    refine none (fun i hi he=>?_) hfe;have hx:k<=Sk.key s x:=high_mem (by rw [hh];simp);have:i∈Sk.high s k:=List.mem_filter.2 ⟨hi,by simp;omega⟩;have hp:=Sk.rises_all hr;unfold Sk.ks at hp;rw [cut hr k,hh,List.map_append,List.pairwise_append,List.map_cons,List.pairwise_cons] at hp;rw [hh] at this
    rcases List.mem_cons.1 this with e | e
    ·subst e;exact hk he
    ·have:=hp.2.1.1 (Sk.key s i) (List.mem_map.2 ⟨i,e,rfl⟩)
     omega
 ·have hn:Sk.nextE s k=Sk.chkE s:=by unfold Sk.nextE;rw [if_neg hc]
  have he:Sk.findE s k=Sk.chkE s:=by unfold Sk.findE;rw [if_neg (by rw [hn];exact hc),hn]
  have hf:floorE s k=Sk.chkE s:=by unfold floorE;rw [if_neg hc]
  refine .bad he ?_ hc ?_ hf ?_
  ·rcases Sk.chk_mem s with h | h | h<;>omega
  ·unfold Sk.findV;rw [if_neg (by rw [he];exact hc)]
  ·unfold floorI;rw [if_neg (by rw [hf];exact hc)]
theorem floor_at {s:Sl} {k:Int} (h:floorE s k=0):∃ x:Nat,floorI s k=x/\x < s.keys.length/\floorV s k=s.pairAt x:=by
 have hc:Sk.chkE s=0:=by
  by_cases hc:Sk.chkE s=0
  ·exact hc
  ·unfold floorE at h;rw [if_neg hc] at h;exact absurd h hc
 have hl:(upto s k).length≠0:=by
  intro h0;unfold floorE at h;rw [if_pos hc,if_pos h0] at h
  omega
 refine⟨lst (upto s k),?_,?_,?_⟩
 ·unfold floorI;rw [if_pos h]
 ·exact (all_mem (memF (lst_mem hl))).1
 ·unfold floorV;rw [if_pos h]
theorem ceil_at {s:Sl} {k:Int} (h:Sk.nextE s k=0):∃ x:Nat,Sk.nextV s k=x/\x < s.keys.length/\ceilV s k=s.pairAt x:=by
 have hc:Sk.chkE s=0:=by
  by_cases hc:Sk.chkE s=0
  ·exact hc
  ·unfold Sk.nextE at h;rw [if_neg hc] at h;exact absurd h hc
 have hl:(Sk.high s k).length≠0:=by
  intro h0;unfold Sk.nextE at h;rw [if_pos hc,if_pos h0] at h
  omega
 refine⟨(Sk.high s k).getD 0 0,?_,?_,?_⟩
 ·unfold Sk.nextV;rw [if_pos h]
 ·exact (all_mem (memF (head_mem hl))).1
 ·unfold ceilV;rw [if_pos h]
theorem min_is {s:Sl} (hk:∀ i,In64 (Sk.key s i)):Sk.nextE s (-9223372036854775808)=endE s/\ceilV s (-9223372036854775808)=minV s:=by
 have hh:Sk.high s (-9223372036854775808)=Sk.all s:=by
  unfold Sk.high
  exact List.filter_eq_self.2 fun i _=>by have:=(hk i).1;simpa using this
 have he:Sk.nextE s (-9223372036854775808)=endE s:=by unfold Sk.nextE endE;rw [hh]
 refine⟨he,?_⟩;unfold ceilV minV;rw [he,hh]
theorem max_is {s:Sl} (hk:∀ i,In64 (Sk.key s i)):floorE s 9223372036854775807=endE s/\floorV s 9223372036854775807=maxV s:=by
 have hh:upto s 9223372036854775807=Sk.all s:=by
  unfold upto
  exact List.filter_eq_self.2 fun i _=>by have:=(hk i).2;simp;omega
 have he:floorE s 9223372036854775807=endE s:=by unfold floorE endE;rw [hh]
 refine⟨he,?_⟩;unfold floorV maxV;rw [he,hh]
theorem nth_is {s:Sl} (hc:Sk.chkE s=0) (k:Int) :
  (Oc.nthE s.words s.keys.length k=0/\selE s k=0/\∃ x:Nat,Oc.nthV s.words s.keys.length k=x/\x < s.keys.length/\selV s k=s.pairAt x)∨(Oc.nthE s.words s.keys.length k≠0/\selE s k=290/\selV s k=(0,0)):=by
 have hw:=(Sk.chk_zero.1 hc).1.chkW
 have hE:Oc.nthE s.words s.keys.length k=if k < 0∨((Sk.all s).length:Int)<=k then 6 else 0:=by
  unfold Oc.nthE;rw [if_pos hw,Int.toNat_natCast]
  rfl
 by_cases hk:0<=k/\k < (Sk.all s).length
 ·have h0:Oc.nthE s.words s.keys.length k=0:=by rw [hE,if_neg (by omega)]
  have hs:selE s k=0:=by unfold selE;rw [if_pos hc,if_pos hk]
  refine Or.inl ⟨h0,hs,(Sk.all s).getD k.toNat 0,?_,?_,?_⟩
  ·unfold Oc.nthV
   rw [if_pos h0,Int.toNat_natCast]
   rfl
  ·have:k.toNat < (Sk.all s).length:=by omega
   rw [getD_el _ _ this];exact (all_mem (List.getElem_mem _)).1
  ·unfold selV;rw [if_pos hs]
 ·have h0:Oc.nthE s.words s.keys.length k=6:=by rw [hE,if_pos (by omega)]
  have hs:selE s k=290:=by unfold selE;rw [if_pos hc,if_neg hk]
  refine Or.inr ⟨by rw [h0];decide,hs,?_⟩;unfold selV;rw [if_neg (by rw [hs];decide)]
theorem mid_high (s:Sl) (a b:Int):mid s a b=(Sk.high s a).filter fun i=>decide (Sk.key s i<=b):=by
 unfold mid Sk.high;rw [List.filter_filter];refine List.filter_congr fun i _=>?_;rw [Bool.and_comm]
theorem up_front {s:Sl} {l pre t:List Nat} {x:Nat} {b:Int} (hp:(l.map (Sk.key s)).Pairwise (· < ·)) (hl:l=pre++x::t) (hb:b < Sk.key s x) (hpre:∀ i∈pre,Sk.key s i<=b):l.filter (fun i=>decide (Sk.key s i<=b))=pre:=by
 subst hl;rw [List.map_append,List.pairwise_append,List.map_cons,List.pairwise_cons] at hp;rw [List.filter_append,List.filter_cons,if_neg (by simp;omega)]
 rw [List.filter_eq_self.2 fun i hi=>by simpa using hpre i hi,List.filter_eq_nil_iff.2 fun i hi=>by
  have:=hp.2.1.1 (Sk.key s i) (List.mem_map.2 ⟨i,hi,rfl⟩)
  simp;omega,List.append_nil]
theorem up_all {s:Sl} {l:List Nat} {b:Int} (h:∀ i∈l,Sk.key s i<=b):l.filter (fun i=>decide (Sk.key s i<=b))=l :=
 List.filter_eq_self.2 fun i hi=>by simpa using h i hi
theorem high_rise {s:Sl} (hr:Sk.risesB s=true) (k:Int):((Sk.high s k).map (Sk.key s)).Pairwise (· < ·):=by
 have hp:=Sk.rises_all hr;unfold Sk.ks at hp;rw [cut hr k,List.map_append,List.pairwise_append] at hp;exact hp.2.1
structure Way (s:Sl) (a b:Int) (n:Nat) (pre:List Nat):Prop where
 front:pre <+: Sk.high s a
 few:pre.length<=n
 up:∀ i∈pre,Sk.key s i<=b
theorem Way.start (s:Sl) (a b:Int) (n:Nat):Way s a b n []:=⟨List.nil_prefix,Nat.zero_le _,fun i h=>by cases h⟩
theorem Way.next {s:Sl} {a b:Int} {n:Nat} {pre:List Nat} {x:Nat} (h:Way s a b n pre) (hp:pre++[x] <+: Sk.high s a) (hn:pre.length≠n) (hx:Sk.key s x<=b):Way s a b n (pre++[x]) :=
 ⟨hp,by have:=h.few;simp;omega,fun i hi=>by
  rcases List.mem_append.1 hi with h1 | h1
  ·exact h.up i h1
  ·simp at h1;subst h1;exact hx⟩
theorem Way.took {s:Sl} {a b:Int} {n:Nat} {pre:List Nat} (h:(mid s a b).take n=pre):(run s a b).take n=pre.map s.pairAt:=by
 unfold Sn.run;rw [<-List.map_take,h]
theorem Way.all {s:Sl} {a b:Int} {n:Nat} (h:Way s a b n (Sk.high s a)):(run s a b).take n=(Sk.high s a).map s.pairAt:=by
 refine Way.took ?_;rw [mid_high,up_all h.up];exact List.take_of_length_le h.few
theorem Way.full {s:Sl} {a b:Int} {n:Nat} {pre:List Nat} (hr:Sk.risesB s=true) (h:Way s a b n pre) (hn:pre.length=n):(run s a b).take n=pre.map s.pairAt:=by
 refine Way.took ?_;obtain⟨t,ht⟩:=h.front;rw [mid_high,<-ht,List.filter_append,up_all h.up,<-hn]
 simp
theorem Way.past {s:Sl} {a b:Int} {n:Nat} {pre:List Nat} {x:Nat} (hr:Sk.risesB s=true) (h:Way s a b n pre) (hp:pre++[x] <+: Sk.high s a) (hx:b < Sk.key s x):(run s a b).take n=pre.map s.pairAt:=by
 refine Way.took ?_;obtain⟨t,ht⟩:=hp;rw [mid_high,up_front (high_rise hr a) (pre:=pre) (x:=x) (t:=t) (by rw [<-ht];simp) hx h.up];exact List.take_of_length_le h.few
end Sn
end Go.Proofs.YtfdpkmafemidjaaDoor
