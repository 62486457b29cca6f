/- More facts of layer 12 (span): the pair of a number and its neighbours; what lies between a floor and a ceiling; scans of two halves. No program is named here. -/
import Derived.Test.YtfdpkmafemidjaaDoorPlain12Sp
import Derived.Test.YtfdpkmafemidjaaDoorTkSp
set_option linter.unusedVariables false
set_option linter.unusedSimpArgs false
namespace Go.Proofs.YtfdpkmafemidjaaDoor
namespace Sn
theorem part_at (l:List Nat) (n:Nat) (h:n < l.length):l=l.take n++l.getD n 0::l.drop (n+1):=by
 rw [getD_el _ _ h]
 conv=>lhs;rw [<-List.take_append_drop n l,List.drop_eq_getElem_cons h]
theorem getD_app (l m:List Nat) (i:Nat):(l++m).getD (l.length+i) 0=m.getD i 0:=by
 simp [List.getD_eq_getElem?_getD,List.getElem?_append_right]
theorem getD_front (l m:List Nat) {i:Nat} (h:i < l.length):(l++m).getD i 0=l.getD i 0:=by
 simp [List.getD_eq_getElem?_getD,List.getElem?_append_left h]
structure Num (s:Sl) (n x:Nat):Prop where
 low:Sk.low s (Sk.key s x)=(Sk.all s).take n
 high:Sk.high s (Sk.key s x)=x::(Sk.all s).drop (n+1)
 upto:upto s (Sk.key s x)=(Sk.all s).take n++[x]
theorem num {s:Sl} (hr:Sk.risesB s=true) {n:Nat} (hn:n < (Sk.all s).length):Num s n ((Sk.all s).getD n 0):=by
 have hp:=Sk.rises_all hr;unfold Sk.ks at hp;have e:=part_at (Sk.all s) n hn;obtain⟨x,hx⟩:∃ x,x=(Sk.all s).getD n 0:=⟨_,rfl⟩;rw [<-hx] at e ⊢;obtain⟨A,hA⟩:∃ A,A=(Sk.all s).take n:=⟨_,rfl⟩;obtain⟨B,hB⟩:∃ B,B=(Sk.all s).drop (n+1):=⟨_,rfl⟩;rw [<-hA,<-hB] at e;rw [e,List.map_append,List.pairwise_append,List.map_cons,List.pairwise_cons] at hp;have a1:∀ i∈A,Sk.key s i < Sk.key s x:=fun i hi=>hp.2.2 _ (List.mem_map.2 ⟨i,hi,rfl⟩) _ (by simp);have b1:∀ i∈B,Sk.key s x < Sk.key s i:=fun i hi=>hp.2.1.1 _ (List.mem_map.2 ⟨i,hi,rfl⟩)
 have h1:Sk.low s (Sk.key s x)=A:=by
  unfold Sk.low;rw [e,List.filter_append,List.filter_cons,if_neg (by simp),List.filter_eq_self.2 fun i hi=>by simpa using a1 i hi,List.filter_eq_nil_iff.2 fun i hi=>by have:=b1 i hi;simp;omega,List.append_nil]
 have h2:Sk.high s (Sk.key s x)=x::B:=by
  unfold Sk.high;rw [e,List.filter_append,List.filter_cons,if_pos (by simp),List.filter_eq_nil_iff.2 fun i hi=>by have:=a1 i hi;simp;omega,List.filter_eq_self.2 fun i hi=>by have:=b1 i hi;simp;omega,List.nil_append]
 refine⟨by rw [h1,hA],by rw [h2,hB],?_⟩;rw [upto_is hr h2 rfl,h1,hA]
theorem sel_cases {s:Sl} {k:Int} (h:selE s k=0):Sk.chkE s=0/\∃ n:Nat,k=n/\n < (Sk.all s).length/\selV s k=s.pairAt ((Sk.all s).getD n 0):=by
 have hc:Sk.chkE s=0:=by
  by_cases hc:Sk.chkE s=0
  ·exact hc
  ·unfold selE at h;rw [if_neg hc] at h;exact absurd h hc
 have hk:0<=k/\k < (Sk.all s).length:=by
  by_cases hk:0<=k/\k < (Sk.all s).length
  ·exact hk
  ·unfold selE at h;rw [if_pos hc,if_neg hk] at h;omega
 refine⟨hc,k.toNat,by omega,by omega,?_⟩;unfold selV;rw [if_pos h]
theorem sel_not {s:Sl} {k:Int} (h:selE s k≠0):selV s k=(0,0):=by unfold selV;rw [if_neg h]
structure Numbers (s:Sl) (k:Int):Prop where
 chk:Sk.chkE s=0
 rank:Sk.rankV s (selV s k).1=k
 fE:floorE s (selV s k).1=0
 fV:floorV s (selV s k).1=selV s k
 cE:Sk.nextE s (selV s k).1=0
 cV:ceilV s (selV s k).1=selV s k
 ends:endE s=0
 min:decide (minV s=selV s k)=decide (k=0)
 max:decide (maxV s=selV s k)=decide (selE s (k+1)≠0)
theorem numbers {s:Sl} {k:Int} (h:selE s k=0):Numbers s k:=by
 obtain⟨hc,n,rfl,hn,hv⟩:=sel_cases h;have hr:=(Sk.chk_zero.1 hc).2;have N:=num hr hn
 have hlen:((Sk.all s).take n).length=n:=by rw [List.length_take];omega
 have hends:endE s=0:=by unfold endE;rw [if_pos hc,if_neg (by omega)]
 have hfE:floorE s (Sk.key s ((Sk.all s).getD n 0))=0:=by unfold floorE;rw [if_pos hc,N.upto];simp
 have hcE:Sk.nextE s (Sk.key s ((Sk.all s).getD n 0))=0:=by unfold Sk.nextE;rw [if_pos hc,N.high];rfl
 have ne:∀ i j,i < j->j < (Sk.all s).length->s.pairAt ((Sk.all s).getD i 0)≠s.pairAt ((Sk.all s).getD j 0):=fun i j h1 h2 e=>by
  have:=all_rise hr h1 h2;have e2:=congrArg Prod.fst e;rw [pair_key,pair_key] at e2
  omega
 refine⟨hc,?_,?_,?_,?_,?_,hends,?_,?_⟩
 ·rw [hv,pair_key];unfold Sk.rankV;rw [if_pos hc,N.low,hlen]
 ·rw [hv,pair_key];exact hfE
 ·rw [hv,pair_key];unfold floorV;rw [if_pos hfE,N.upto,lst_snoc]
 ·rw [hv,pair_key];exact hcE
 ·rw [hv,pair_key];unfold ceilV;rw [if_pos hcE,N.high];rfl
 ·rw [hv,decide_eq_decide]
  unfold minV;rw [if_pos hends]
  constructor
  ·intro e
   by_cases h0:n=0
   ·omega
   ·exact absurd e (ne 0 n (by omega) hn)
  ·intro e
   have:n=0:=by omega
   subst this
   rfl
 ·rw [hv,decide_eq_decide]
  unfold maxV lst;rw [if_pos hends]
  have hE:selE s ((n:Int)+1)=if n+1 < (Sk.all s).length then 0 else 290:=by
   unfold selE;rw [if_pos hc]
   by_cases h1:n+1 < (Sk.all s).length
   ·rw [if_pos h1,if_pos (by omega)]
   ·rw [if_neg h1,if_neg (by omega)]
  rw [hE]
  constructor
  ·intro e
   by_cases h1:n+1 < (Sk.all s).length
   ·exact absurd e.symm (ne n _ (by omega) (by omega))
   ·rw [if_neg h1];decide
  ·intro e
   by_cases h1:n+1 < (Sk.all s).length
   ·rw [if_pos h1] at e;exact absurd rfl e
   ·have:(Sk.all s).length-1=n:=by omega
    rw [this]
theorem ends_by {s:Sl} {k:Int} (h:selE s k=0):((k=0/\minV s=selV s k)∨(k≠0/\(minV s).1≠(selV s k).1))/\((selE s (k+1)≠0/\maxV s=selV s k)∨(selE s (k+1)=0/\(maxV s).1≠(selV s k).1)):=by
 have N:=numbers h;obtain⟨hc,n,rfl,hn,hv⟩:=sel_cases h;have hr:=(Sk.chk_zero.1 hc).2
 constructor
 ·by_cases h0:(n:Int)=0
  ·exact Or.inl ⟨h0,by have:=N.min;rw [decide_eq_decide] at this;exact this.2 h0⟩
  ·refine Or.inr ⟨h0,?_⟩
   rw [hv];unfold minV;rw [if_pos N.ends,pair_key,pair_key];have:=all_rise hr (show 0 < n by omega) hn
   omega
 ·by_cases h1:selE s ((n:Int)+1)=0
  ·refine Or.inr ⟨h1,?_⟩
   obtain⟨_,m,hm,hl,_⟩:=sel_cases h1;rw [hv];unfold maxV lst;rw [if_pos N.ends,pair_key,pair_key];have:=all_rise hr (show n < (Sk.all s).length-1 by omega) (by omega)
   omega
  ·exact Or.inl ⟨h1,by have:=N.max;rw [decide_eq_decide] at this;exact this.2 h1⟩
theorem sel_few {s:Sl} {k:Int} (h:selE s k=0):0<=k/\k < s.keys.length:=by
 obtain⟨_,n,rfl,hn,_⟩:=sel_cases h;have:=all_le s
 omega
inductive Between (s:Sl) (k:Int):Prop
 | there (fE:floorE s k=0) (cE:Sk.nextE s k=0) (e:floorV s k=ceilV s k) (key:(floorV s k).1=k)
 | not (f:decide (floorE s k=0)=decide (selE s (Sk.rankV s k-1)=0)) (c:decide (Sk.nextE s k=0)=decide (selE s (Sk.rankV s k)=0)) (fV:floorV s k=selV s (Sk.rankV s k-1)) (cV:ceilV s k=selV s (Sk.rankV s k))
   (below:floorE s k=0->(floorV s k).1 < k) (above:Sk.nextE s k=0->k < (ceilV s k).1)
theorem between {s:Sl} {k:Int} (hc:Sk.chkE s=0):Between s k:=by
 have hr:=(Sk.chk_zero.1 hc).2
 have R:Sk.rankV s k=((Sk.low s k).length:Int):=by unfold Sk.rankV;rw [if_pos hc]
 have C:=cut hr k
 by_cases hk:∃ x t,Sk.high s k=x::t/\Sk.key s x=k
 ·obtain⟨x,t,hh,hx⟩:=hk
  have hu:=upto_is hr hh hx
  have hf:floorE s k=0:=by unfold floorE;rw [if_pos hc,hu];simp
  have hn:Sk.nextE s k=0:=by unfold Sk.nextE;rw [if_pos hc,hh];rfl
  have v1:floorV s k=s.pairAt x:=by unfold floorV;rw [if_pos hf,hu,lst_snoc]
  have v2:ceilV s k=s.pairAt x:=by unfold ceilV;rw [if_pos hn,hh];rfl
  exact .there hf hn (by rw [v1,v2]) (by rw [v1,pair_key,hx])
 ·have hne:∀ i∈Sk.all s,Sk.key s i≠k:=by
   intro i hi e;have hm:i∈Sk.high s k:=List.mem_filter.2 ⟨hi,by simp;omega⟩
   cases hh:Sk.high s k with
   | nil=>rw [hh] at hm;cases hm
   | cons x t =>
    refine hk ⟨x,t,hh,?_⟩;have hx:k<=Sk.key s x:=high_mem (by rw [hh];simp);rw [hh] at hm
    rcases List.mem_cons.1 hm with e2 | e2
    ·subst e2;exact e
    ·have hp:=high_rise hr k
     rw [hh,List.map_cons,List.pairwise_cons] at hp;have:=hp.1 (Sk.key s i) (List.mem_map.2 ⟨i,e2,rfl⟩)
     omega
  have hu:=upto_not hne
  have L:(Sk.all s).length=(Sk.low s k).length+(Sk.high s k).length:=by rw [C,List.length_append]
  have fE:floorE s k=if (Sk.low s k).length=0 then 6 else 0:=by unfold floorE;rw [if_pos hc,hu]
  have nE:Sk.nextE s k=if (Sk.high s k).length=0 then 6 else 0:=by unfold Sk.nextE;rw [if_pos hc]
  have s1:selE s (Sk.rankV s k-1)=if (Sk.low s k).length=0 then 290 else 0:=by
   unfold selE;rw [if_pos hc,R]
   by_cases h0:(Sk.low s k).length=0
   ·rw [if_pos h0,if_neg (by omega)]
   ·rw [if_neg h0,if_pos (by omega)]
  have s2:selE s (Sk.rankV s k)=if (Sk.high s k).length=0 then 290 else 0:=by
   unfold selE;rw [if_pos hc,R]
   by_cases h0:(Sk.high s k).length=0
   ·rw [if_pos h0,if_neg (by omega)]
   ·rw [if_neg h0,if_pos (by omega)]
  have fV:floorV s k=selV s (Sk.rankV s k-1):=by
   unfold floorV selV;rw [fE,s1]
   by_cases h0:(Sk.low s k).length=0
   ·rw [if_pos h0,if_pos h0];rfl
   ·rw [if_neg h0,if_neg h0,if_pos rfl,if_pos rfl,hu,R]
    have:(((Sk.low s k).length:Int)-1).toNat=(Sk.low s k).length-1:=by omega
    rw [this,C,getD_front _ _ (by omega)]
    rfl
  have cV:ceilV s k=selV s (Sk.rankV s k):=by
   unfold ceilV selV;rw [nE,s2]
   by_cases h0:(Sk.high s k).length=0
   ·rw [if_pos h0,if_pos h0];rfl
   ·rw [if_neg h0,if_neg h0,if_pos rfl,if_pos rfl,R,Int.toNat_natCast]
    have:=getD_app (Sk.low s k) (Sk.high s k) 0;rw [Nat.add_zero,<-C] at this;rw [this]
  refine .not ?_ ?_ fV cV ?_ ?_
  ·rw [fE,s1];by_cases h0:(Sk.low s k).length=0<;>simp [h0]
  ·rw [nE,s2];by_cases h0:(Sk.high s k).length=0<;>simp [h0]
  ·intro h
   have h0:(Sk.low s k).length≠0:=fun h0=>by rw [fE,if_pos h0] at h;omega
   unfold floorV;rw [if_pos h,hu,pair_key];exact low_mem (lst_mem h0)
  ·intro h
   have h0:(Sk.high s k).length≠0:=fun h0=>by rw [nE,if_pos h0] at h;omega
   unfold ceilV;rw [if_pos h,pair_key];have hm:=head_mem h0;have:=high_mem hm;have:=hne _ (memF hm)
   omega
theorem halves {s:Sl} (hr:Sk.risesB s=true) {a m b:Int} (h1:a<=m) (h2:m < b):run s a m++run s (m+1) b=run s a b:=by
 unfold run;rw [<-List.map_append]
 congr 1
 unfold mid
 conv=>rhs;rw [cut hr (m+1),List.filter_append]
 congr 1
 ·unfold Sk.low
  rw [List.filter_filter];refine List.filter_congr fun i _=>?_;rw [Bool.eq_iff_iff]
  simp
  omega
 ·unfold Sk.high
  rw [List.filter_filter];refine List.filter_congr fun i _=>?_;rw [Bool.eq_iff_iff]
  simp
  omega
theorem mid_front {s:Sl} (hr:Sk.risesB s=true) (a b:Int):∃ t,Sk.high s a=mid s a b++t/\∀ i∈t,b < Sk.key s i:=by
 have hp:=high_rise hr a;rw [mid_high];generalize Sk.high s a=l at hp
 induction l with
 | nil=>exact⟨[],rfl,fun i h=>by cases h⟩
 | cons x t ih =>
  rw [List.map_cons,List.pairwise_cons] at hp
  by_cases hx:Sk.key s x<=b
  ·obtain⟨u,h1,h2⟩:=ih hp.2
   refine⟨u,?_,h2⟩;rw [List.filter_cons,if_pos (by simpa using hx),List.cons_append,<-h1]
  ·refine⟨x::t,?_,fun i hi=>?_⟩
   ·rw [List.filter_cons,if_neg (by simpa using hx),List.filter_eq_nil_iff.2 fun i hi=>by
     have:=hp.1 (Sk.key s i) (List.mem_map.2 ⟨i,hi,rfl⟩)
     simp;omega]
    rfl
   ·rcases List.mem_cons.1 hi with e | e
    ·subst e;omega
    ·have:=hp.1 (Sk.key s i) (List.mem_map.2 ⟨i,e,rfl⟩)
     omega
structure Scan (s:Sl) (a b:Int):Prop where
 few:(run s a b).length<=(Sk.all s).length
 rank:Sk.rankV s a+(run s a b).length<=(Sk.all s).length
 pos:0<=Sk.rankV s a
 at_:∀ i:Nat,i < (run s a b).length->selE s (Sk.rankV s a+i)=0/\selV s (Sk.rankV s a+i)=(run s a b).getD i (0,0)/\a<=(selV s (Sk.rankV s a+i)).1/\(selV s (Sk.rankV s a+i)).1<=b
 past:selE s (Sk.rankV s a+(run s a b).length)=0->b < (selV s (Sk.rankV s a+(run s a b).length)).1
theorem scan {s:Sl} (hc:Sk.chkE s=0) (a b:Int):Scan s a b:=by
 have hr:=(Sk.chk_zero.1 hc).2
 have R:Sk.rankV s a=((Sk.low s a).length:Int):=by unfold Sk.rankV;rw [if_pos hc]
 obtain⟨t,ht,hb⟩:=mid_front hr a b;have C:=cut hr a;rw [ht] at C
 have hl:(run s a b).length=(mid s a b).length:=by unfold run;rw [List.length_map]
 have L:(Sk.all s).length=(Sk.low s a).length+((mid s a b).length+t.length):=by rw [C,List.length_append,List.length_append]
 have sel:∀ i:Nat,i < (mid s a b).length+t.length->selE s (Sk.rankV s a+i)=0/\selV s (Sk.rankV s a+i)=s.pairAt ((mid s a b++t).getD i 0):=fun i hi=>by
  have hE:selE s (Sk.rankV s a+i)=0:=by unfold selE;rw [if_pos hc,R,if_pos (by omega)]
  refine⟨hE,?_⟩;unfold selV;rw [if_pos hE,R]
  have:(((Sk.low s a).length:Int)+i).toNat=(Sk.low s a).length+i:=by omega
  rw [this,C,getD_app]
 refine⟨by omega,by omega,by omega,fun i hi=>?_,fun h=>?_⟩
 ·rw [hl] at hi
  obtain⟨e1,e2⟩:=sel i (by omega);rw [getD_front _ _ hi] at e2
  have hm:(mid s a b).getD i 0∈mid s a b:=by rw [getD_el _ _ hi];exact List.getElem_mem _
  have hk:=(List.mem_filter.1 hm).2
  simp only [Bool.and_eq_true,decide_eq_true_eq] at hk
  refine⟨e1,?_,?_,?_⟩
  ·rw [e2]
   unfold run;rw [getD_el _ _ hi,getD_el _ _ (by rw [List.length_map];exact hi),List.getElem_map]
  ·rw [e2,pair_key];exact hk.1
  ·rw [e2,pair_key];exact hk.2
 ·rw [hl] at h ⊢
  by_cases h0:t.length=0
  ·unfold selE at h
   rw [if_pos hc,if_neg (by omega)] at h
   omega
  ·obtain⟨e1,e2⟩:=sel (mid s a b).length (by omega)
   have:=getD_app (mid s a b) t 0;rw [Nat.add_zero] at this;rw [e2,this,pair_key];exact hb _ (head_mem h0)
theorem scan_all {s:Sl} (hc:Sk.chkE s=0) (hs:s.keys.length<=1000) (a b:Int):scanE s 1000=0/\scanV s a b 1000=run s a b:=by
 have h:scanE s 1000=0:=by unfold scanE;rw [if_pos hc,if_pos (by omega)]
 refine⟨h,?_⟩;unfold scanV;rw [if_pos h];refine List.take_of_length_le ?_;have:=(scan hc a b).few;have:=all_le s
 show _<=(1000:Nat)
 omega
end Sn
end Go.Proofs.YtfdpkmafemidjaaDoor
