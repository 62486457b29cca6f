/- Floors, ceilings and runs of a list of pairs, as the document's own answers of layer 12 read them; and what they are of an array's pairs. No program is named here. -/
import Derived.Test.YtfdpkmafemidjaaDoorPlain12Sp
import Derived.Test.YtfdpkmafemidjaaDoorTkSp
set_option linter.unusedVariables false
set_option linter.unusedSimpArgs false
namespace Go.Proofs.YtfdpkmafemidjaaDoor
namespace Sn
def floP (ps:List (Int×Int)) (k:Int):List (Int×Int):=ps.filter fun p=>decide (p.1<=k)
def ceiP (ps:List (Int×Int)) (k:Int):List (Int×Int):=ps.filter fun p=>decide (k<=p.1)
def runP (ps:List (Int×Int)) (a b:Int):List (Int×Int):=ps.filter fun p=>decide (a<=p.1)&&decide (p.1<=b)
def lastP (l:List (Int×Int)):Int×Int:=l.getD (l.length-1) (0,0)
def headP (l:List (Int×Int)):Int×Int:=l.getD 0 (0,0)
theorem part_atP (l:List (Int×Int)) (n:Nat) (h:n < l.length):l=l.take n++l.getD n (0,0)::l.drop (n+1):=by
 rw [getD_el _ _ h]
 conv=>lhs;rw [<-List.take_append_drop n l,List.drop_eq_getElem_cons h]
theorem mem_drop {l:List (Int×Int)} {n:Nat} {p:Int×Int} (h:p∈l.drop n):∃ j,n<=j/\j < l.length/\p=l.getD j (0,0):=by
 obtain⟨i,hi,he⟩:=List.getElem_of_mem h;rw [List.length_drop] at hi;refine⟨n+i,by omega,by omega,?_⟩;rw [getD_el _ _ (by omega),<-he,List.getElem_drop]
theorem mem_take {l:List (Int×Int)} {n:Nat} {p:Int×Int} (h:p∈l.take n):∃ j,j < n/\j < l.length/\p=l.getD j (0,0):=by
 obtain⟨i,hi,he⟩:=List.getElem_of_mem h;rw [List.length_take] at hi;refine⟨i,by omega,by omega,?_⟩;rw [getD_el _ _ (by omega),<-he,List.getElem_take]
theorem flo_found {ps:List (Int×Int)} {k:Int} {i:Nat} (hi:i < ps.length) (hle:(ps.getD i (0,0)).1<=k) (h:∀ j,i < j->j < ps.length->k < (ps.getD j (0,0)).1):lastP (floP ps k)=ps.getD i (0,0)/\(floP ps k).length≠0:=by
 have e:floP ps k=floP (ps.take i) k++[ps.getD i (0,0)]:=by
  unfold floP
  conv=>lhs;rw [part_atP ps i hi]
  rw [List.filter_append,List.filter_cons,if_pos (by simpa using hle),List.filter_eq_nil_iff.2 (show ∀ p∈ps.drop (i+1),¬ decide (p.1<=k)=true from fun p hp=>by
   obtain⟨j,h1,h2,rfl⟩:=mem_drop hp;have:=h j (by omega) h2
   rw [decide_eq_true_eq];omega)]
 rw [e];unfold lastP
 simp
theorem flo_none {ps:List (Int×Int)} {k:Int} (h:∀ j,j < ps.length->k < (ps.getD j (0,0)).1):floP ps k=[] :=
 List.filter_eq_nil_iff.2 fun p hp=>by
  obtain⟨j,_,h2,rfl⟩:=mem_drop (n:=0) (show p∈ps.drop 0 from hp);have:=h j h2;rw [decide_eq_true_eq];omega
theorem cei_found {ps:List (Int×Int)} {k:Int} {i:Nat} (hi:i < ps.length) (hle:k<=(ps.getD i (0,0)).1) (h:∀ j,j < i->(ps.getD j (0,0)).1 < k):headP (ceiP ps k)=ps.getD i (0,0)/\(ceiP ps k).length≠0:=by
 have e:ceiP ps k=ps.getD i (0,0)::ceiP (ps.drop (i+1)) k:=by
  unfold ceiP
  conv=>lhs;rw [part_atP ps i hi]
  rw [List.filter_append,List.filter_cons,if_pos (by simpa using hle),List.filter_eq_nil_iff.2 fun p hp=>by
   obtain⟨j,h1,h2,rfl⟩:=mem_take hp;have:=h j h1
   rw [decide_eq_true_eq];omega,List.nil_append]
 rw [e];unfold headP
 simp
theorem cei_none {ps:List (Int×Int)} {k:Int} (h:∀ j,j < ps.length->(ps.getD j (0,0)).1 < k):ceiP ps k=[] :=
 List.filter_eq_nil_iff.2 fun p hp=>by
  obtain⟨j,_,h2,rfl⟩:=mem_drop (n:=0) (show p∈ps.drop 0 from hp);have:=h j h2;rw [decide_eq_true_eq];omega
theorem run_step {ps:List (Int×Int)} {a b:Int} {i n:Nat} (hi:i < ps.length) :
  (¬ (a<=(ps.getD i (0,0)).1/\(ps.getD i (0,0)).1<=b)->(runP (ps.take (i+1)) a b).take n=(runP (ps.take i) a b).take n) /\
  (a<=(ps.getD i (0,0)).1/\(ps.getD i (0,0)).1<=b->((runP (ps.take i) a b).take n).length < n->(runP (ps.take (i+1)) a b).take n=(runP (ps.take i) a b).take n++[ps.getD i (0,0)]) /\
  (¬ ((runP (ps.take i) a b).take n).length < n->(runP (ps.take (i+1)) a b).take n=(runP (ps.take i) a b).take n):=by
 have e:ps.take (i+1)=ps.take i++[ps.getD i (0,0)]:=by rw [List.take_succ_eq_append_getElem hi,getD_el _ _ hi]
 have e2:runP (ps.take (i+1)) a b=runP (ps.take i) a b++[ps.getD i (0,0)].filter (fun p=>decide (a<=p.1)&&decide (p.1<=b)):=by
  rw [e];unfold runP;rw [List.filter_append]
 refine⟨fun h=>?_,fun h hn=>?_,fun hn=>?_⟩
 ·rw [e2,List.filter_cons,if_neg (by simpa using h)]
  simp
 ·rw [e2,List.filter_cons,if_pos (by simpa using h),List.filter_nil]
  rw [List.length_take] at hn;rw [List.take_of_length_le (l:=runP (ps.take i) a b++[ps.getD i (0,0)]) (by rw [List.length_append,List.length_singleton];omega),List.take_of_length_le (l:=runP (ps.take i) a b) (by omega)]
 ·rw [List.length_take] at hn
  rw [e2,List.take_append_of_le_length (by omega)]
def pairs (s:Sl):List (Int×Int):=(Sk.all s).map s.pairAt
theorem pairs_len (s:Sl):(pairs s).length=(Sk.all s).length:=List.length_map _
theorem flo_is (s:Sl) (k:Int):floP (pairs s) k=(upto s k).map s.pairAt:=by
 unfold floP pairs upto;rw [List.filter_map]
 rfl
theorem cei_is (s:Sl) (k:Int):ceiP (pairs s) k=(Sk.high s k).map s.pairAt:=by
 unfold ceiP pairs Sk.high;rw [List.filter_map]
 rfl
theorem run_is (s:Sl) (a b:Int):runP (pairs s) a b=run s a b:=by
 unfold runP pairs run mid;rw [List.filter_map]
 rfl
theorem last_is (s:Sl) {l:List Nat} (h:l.length≠0):lastP (l.map s.pairAt)=s.pairAt (lst l):=by
 unfold lastP lst;rw [List.length_map,getD_el _ _ (by rw [List.length_map];omega),List.getElem_map,getD_el _ _ (by omega)]
theorem at_is (s:Sl) {l:List Nat} {i:Nat} (h:i < l.length):(l.map s.pairAt).getD i (0,0)=s.pairAt (l.getD i 0):=by
 rw [getD_el _ _ (by rw [List.length_map];omega),List.getElem_map,getD_el _ _ (by omega)]
theorem floor_by {s:Sl} (hc:Sk.chkE s=0) (k:Int) :
  floorE s k=(if (floP (pairs s) k).length=0 then 6 else 0)/\floorV s k=(if (floP (pairs s) k).length=0 then (0,0) else lastP (floP (pairs s) k)):=by
 have e:floorE s k=(if (floP (pairs s) k).length=0 then 6 else 0):=by unfold floorE;rw [if_pos hc,flo_is,List.length_map]
 refine⟨e,?_⟩;unfold floorV;rw [e,flo_is,List.length_map]
 by_cases h:(upto s k).length=0
 ·rw [if_pos h,if_pos h];rfl
 ·rw [if_neg h,if_neg h,if_pos rfl,last_is s h]
theorem ceil_by {s:Sl} (hc:Sk.chkE s=0) (k:Int) :
  Sk.nextE s k=(if (ceiP (pairs s) k).length=0 then 6 else 0)/\ceilV s k=(if (ceiP (pairs s) k).length=0 then (0,0) else headP (ceiP (pairs s) k)):=by
 have e:Sk.nextE s k=(if (ceiP (pairs s) k).length=0 then 6 else 0):=by unfold Sk.nextE;rw [if_pos hc,cei_is,List.length_map]
 refine⟨e,?_⟩;unfold ceilV headP;rw [e,cei_is,List.length_map]
 by_cases h:(Sk.high s k).length=0
 ·rw [if_pos h,if_pos h];rfl
 ·rw [if_neg h,if_neg h,if_pos rfl,at_is s (by omega)]
theorem end_by {s:Sl} (hc:Sk.chkE s=0) :
  endE s=(if (pairs s).length=0 then 6 else 0)/\minV s=(if (pairs s).length=0 then (0,0) else (pairs s).getD 0 (0,0))/\maxV s=(if (pairs s).length=0 then (0,0) else (pairs s).getD ((pairs s).length-1) (0,0)):=by
 have e:endE s=(if (pairs s).length=0 then 6 else 0):=by unfold endE;rw [if_pos hc,pairs_len]
 refine⟨e,?_,?_⟩
 ·unfold minV
  rw [e,pairs_len]
  by_cases h:(Sk.all s).length=0
  ·rw [if_pos h,if_pos h];rfl
  ·rw [if_neg h,if_neg h,if_pos rfl]
   unfold pairs;rw [at_is s (by omega)]
 ·unfold maxV lst
  rw [e,pairs_len]
  by_cases h:(Sk.all s).length=0
  ·rw [if_pos h,if_pos h];rfl
  ·rw [if_neg h,if_neg h,if_pos rfl]
   unfold pairs;rw [at_is s (by omega)]
theorem sel_by {s:Sl} (hc:Sk.chkE s=0) (k:Int) :
  (k < 0/\selE s k=290/\selV s k=(0,0))∨(0<=k/\((pairs s).length:Int)<=k/\selE s k=290/\selV s k=(0,0))∨∃ n:Nat,k=n/\n < (pairs s).length/\selE s k=0/\selV s k=(pairs s).getD n (0,0):=by
 rw [pairs_len]
 by_cases hk:0<=k/\k < (Sk.all s).length
 ·have hE:selE s k=0:=by unfold selE;rw [if_pos hc,if_pos hk]
  refine Or.inr (Or.inr ⟨k.toNat,by omega,by omega,hE,?_⟩);unfold selV pairs;rw [if_pos hE,at_is s (by omega)]
 ·have hE:selE s k=290:=by unfold selE;rw [if_pos hc,if_neg hk]
  have hV:selV s k=(0,0):=by unfold selV;rw [if_neg (by rw [hE];decide)]
  by_cases h0:k < 0
  ·exact Or.inl ⟨h0,hE,hV⟩
  ·exact Or.inr (Or.inl ⟨by omega,by omega,hE,hV⟩)
end Sn
end Go.Proofs.YtfdpkmafemidjaaDoor
