/- The plain functions of layer 10 (seek), and facts of them: keys that rise, a slot that parts them. No program is named here. -/
import Derived.Test.YtfdpkmafemidjaaDoorM11Sp
import Derived.Test.YtfdpkmafemidjaaDoorTkSp
set_option linter.unusedVariables false
set_option linter.unusedSimpArgs false
namespace Go.Proofs.YtfdpkmafemidjaaDoor
namespace Sk
def key (s:Sl) (i:Nat):Int:=s.keys.getD i 0
def all (s:Sl):List Nat:=Oc.places s.words 0 s.keys.length
def ks (s:Sl):List Int:=(all s).map (key s)
def risesB (s:Sl):Bool:=decide ((ks s).Pairwise (· < ·))
def chkE (s:Sl):Int:=if s.mayB then (if risesB s then 0 else 130) else 8
def low (s:Sl) (k:Int):List Nat:=(all s).filter fun i=>decide (key s i < k)
def high (s:Sl) (k:Int):List Nat:=(all s).filter fun i=>decide (k<=key s i)
def rankV (s:Sl) (k:Int):Int:=if chkE s=0 then ((low s k).length:Int) else 0
def nextE (s:Sl) (k:Int):Int:=if chkE s=0 then (if (high s k).length=0 then 6 else 0) else chkE s
def nextV (s:Sl) (k:Int):Int:=if nextE s k=0 then (((high s k).getD 0 0:Nat):Int) else 0
def lastE (s:Sl) (k:Int):Int:=if chkE s=0 then (if (low s k).length=0 then 6 else 0) else chkE s
def lastV (s:Sl) (k:Int):Int:=if lastE s k=0 then (((low s k).getD ((low s k).length-1) 0:Nat):Int) else 0
def findE (s:Sl) (k:Int):Int:=if nextE s k=0 then (if key s (nextV s k).toNat=k then 0 else 6) else nextE s k
def findV (s:Sl) (k:Int):Int:=if findE s k=0 then nextV s k else 0
theorem chk_zero {s:Sl}:chkE s=0↔s.May/\risesB s=true:=by
 unfold chkE;rw [<-may_iff]
 cases s.mayB<;>cases risesB s<;>simp
theorem chk_mem (s:Sl):chkE s=0∨chkE s=8∨chkE s=130:=by
 unfold chkE
 cases s.mayB<;>cases risesB s<;>simp
structure First (ws:List Nat) (a b x:Nat) (r:List Nat):Prop where
 ge:a<=x
 lt:x < b
 is:Oc.isB ws x=true
 none:Oc.places ws a x=[]
 rest:Oc.places ws (x+1) b=r
theorem first {ws:List Nat} {a b x:Nat} {r:List Nat} (h:Oc.places ws a b=x::r):First ws a b x r:=by
 have hm:x∈Oc.places ws a b:=by rw [h];simp
 obtain⟨⟨h1,h2⟩,h3⟩:=Oc.mem_places.1 hm;have h4:=places_at ws h1 h2;rw [h3,if_pos rfl,h] at h4
 have h5:Oc.places ws a x=[]:=by
  cases hp:Oc.places ws a x with
  | nil=>rfl
  | cons y t =>
   rw [hp] at h4
   injection h4 with e1 e2
   have:y∈Oc.places ws a x:=by rw [hp];simp
   have:=(Oc.mem_places.1 this).1.2
   omega
 rw [h5] at h4;exact⟨h1,h2,h3,h5,by simpa using h4.symm⟩
theorem last {ws:List Nat} {a b y:Nat} {l:List Nat} (h:Oc.places ws a b=l++[y]):a<=y/\y < b/\Oc.isB ws y=true/\Oc.places ws a y=l:=by
 have hm:y∈Oc.places ws a b:=by rw [h];simp
 obtain⟨⟨h1,h2⟩,h3⟩:=Oc.mem_places.1 hm;have h4:=places_at ws h1 h2;rw [h3,if_pos rfl,h] at h4
 have h5:Oc.places ws (y+1) b=[]:=by
  cases hp:Oc.places ws (y+1) b with
  | nil=>rfl
  | cons z t =>
   have hs:=places_sorted ws a b
   have hz:z∈Oc.places ws (y+1) b:=by rw [hp];simp
   have hz1:=(Oc.mem_places.1 hz).1.1
   have hz2:z∈l++[y]:=by rw [h4,hp];simp
   rw [h,List.pairwise_append] at hs
   rcases List.mem_append.1 hz2 with h6 | h6
   ·have:=hs.2.2 z h6 y (by simp);omega
   ·simp at h6;omega
 rw [h5,List.append_nil] at h4;exact⟨h1,h2,h3,(List.append_inj_left' h4 rfl).symm⟩
theorem next_cases {ws:List Nat} {n p:Nat} (hc:Oc.chk ws n=0) (hp:p<=n) :
  (Oc.places ws p n=[]/\Oc.nextE ws n p=6/\Oc.nextV ws n p=0)∨∃ x r,Oc.places ws p n=x::r/\Oc.nextE ws n p=0/\Oc.nextV ws n p=(x:Int):=by
 have hE:Oc.nextE ws n p=if (Oc.places ws p n).length=0 then 6 else 0:=by
  unfold Oc.nextE;rw [if_pos hc,if_neg (by omega),Int.toNat_natCast,Int.toNat_natCast]
 cases hl:Oc.places ws p n with
 | nil =>
  left
  rw [hl] at hE;refine⟨rfl,hE,?_⟩;unfold Oc.nextV;rw [hE]
  rfl
 | cons x r =>
  right
  rw [hl] at hE
  have h0:Oc.nextE ws n p=0:=by rw [hE];simp
  refine⟨x,r,rfl,h0,?_⟩;unfold Oc.nextV;rw [if_pos h0,Int.toNat_natCast,Int.toNat_natCast,hl]
  rfl
structure Upto (s:Sl) (x:Nat):Prop where
 lt:x < s.keys.length
 is:Oc.isB s.words x=true
 up:((Oc.places s.words 0 (x+1)).map (key s)).Pairwise (· < ·)
theorem upto_first {s:Sl} {x:Nat} {r:List Nat} (h:Oc.places s.words 0 s.keys.length=x::r):Upto s x:=by
 have F:=first h;refine⟨F.lt,F.is,?_⟩;rw [Oc.places_snoc s.words 0 x (Nat.zero_le _),F.is,if_pos rfl,F.none]
 simp
theorem Upto.top {s:Sl} {x:Nat} (U:Upto s x) {z:Int} (hz:z∈(Oc.places s.words 0 (x+1)).map (key s)):z<=key s x:=by
 have hu:=U.up;rw [Oc.places_snoc s.words 0 x (Nat.zero_le _),U.is,if_pos rfl,List.map_append] at hz hu;rw [List.pairwise_append] at hu
 rcases List.mem_append.1 hz with h | h
 ·have:=hu.2.2 z h (key s x) (by simp);omega
 ·simp at h;omega
theorem Upto.step {s:Sl} {x y:Nat} {r:List Nat} (U:Upto s x) (h:Oc.places s.words (x+1) s.keys.length=y::r):Oc.places s.words 0 (y+1)=Oc.places s.words 0 (x+1)++[y]:=by
 have F:=first h;have:=F.ge;rw [Oc.places_split s.words 0 (x+1) (y+1) (by omega) (by omega),Oc.places_snoc s.words (x+1) y F.ge,F.is,if_pos rfl,F.none]
 rfl
theorem Upto.next {s:Sl} {x y:Nat} {r:List Nat} (U:Upto s x) (h:Oc.places s.words (x+1) s.keys.length=y::r) (hk:key s x < key s y):Upto s y:=by
 have F:=first h;refine⟨F.lt,F.is,?_⟩;rw [U.step h,List.map_append,List.pairwise_append];refine⟨U.up,by simp,fun a ha b hb=>?_⟩;have:=U.top ha
 simp at hb
 omega
theorem rises_all {s:Sl} (h:risesB s=true):(ks s).Pairwise (· < ·):=by unfold risesB at h;simpa using h
theorem rises_at {s:Sl} (h:risesB s=true) {i j:Nat} (hij:i < j) (hj:j < s.keys.length) (hi:Oc.isB s.words i=true) (hb:Oc.isB s.words j=true):key s i < key s j:=by
 have hr:=rises_all h;unfold ks all at hr;rw [places_at s.words (Nat.zero_le j) hj,hb,if_pos rfl,List.map_append,List.pairwise_append] at hr;exact hr.2.2 (key s i) (List.mem_map.2 ⟨i,Oc.mem_places.2 ⟨⟨Nat.zero_le _,hij⟩,hi⟩,rfl⟩) (key s j) (by simp)
theorem Upto.fall {s:Sl} {x y:Nat} {r:List Nat} (U:Upto s x) (h:Oc.places s.words (x+1) s.keys.length=y::r) (hk:key s y<=key s x):risesB s=false:=by
 have F:=first h;have:=F.ge
 cases hr:risesB s
 ·rfl
 ·have:=rises_at hr (show x < y by omega) F.lt U.is F.is
  omega
theorem Upto.done {s:Sl} {x:Nat} (U:Upto s x) (h:Oc.places s.words (x+1) s.keys.length=[]):risesB s=true:=by
 have:=U.lt
 have e:all s=Oc.places s.words 0 (x+1):=by
  unfold all;rw [Oc.places_split s.words 0 (x+1) s.keys.length (by omega) (by omega),h,List.append_nil]
 unfold risesB ks;rw [e]
 simpa using U.up
theorem rises_none {s:Sl} (h:Oc.places s.words 0 s.keys.length=[]):risesB s=true:=by
 unfold risesB ks all;rw [h]
 simp
def St (s:Sl) (v e:Int):Prop:=(∃ x:Nat,v=x/\e=0/\Upto s x)∨(e=6/\risesB s=true)
theorem st_start {s:Sl} (hm:s.May):St s (Oc.nextV s.words s.keys.length 0) (Oc.nextE s.words s.keys.length 0):=by
 rcases next_cases hm.chkW (Nat.zero_le s.keys.length) with⟨hp,hE,hV⟩ | ⟨x,r,hp,hE,hV⟩
 ·exact Or.inr ⟨hE,rises_none hp⟩
 ·exact Or.inl ⟨x,hV,hE,upto_first hp⟩
theorem Upto.go {s:Sl} {x:Nat} (U:Upto s x) (hm:s.May) :
  (Oc.nextE s.words s.keys.length ((x:Int)+1)=6/\Oc.nextV s.words s.keys.length ((x:Int)+1)=0/\risesB s=true) ∨
  ∃ y:Nat,Oc.nextE s.words s.keys.length ((x:Int)+1)=0/\Oc.nextV s.words s.keys.length ((x:Int)+1)=(y:Int)/\x < y/\y < s.keys.length/\((key s y<=key s x/\risesB s=false)∨(¬ key s y<=key s x/\Upto s y)):=by
 have h1:=U.lt
 rcases next_cases hm.chkW (show x+1<=s.keys.length by omega) with⟨hp,hE,hV⟩ | ⟨y,r,hp,hE,hV⟩
 ·exact Or.inl ⟨hE,hV,U.done hp⟩
 ·have F:=first hp
  have:=F.ge;refine Or.inr ⟨y,hE,hV,by omega,F.lt,?_⟩
  by_cases hk:key s y<=key s x
  ·exact Or.inl ⟨hk,U.fall hp hk⟩
  ·exact Or.inr ⟨hk,U.next hp (by omega)⟩
structure Part (s:Sl) (k:Int) (r:Nat):Prop where
 le:r<=s.keys.length
 low:∀ i,i < r->Oc.isB s.words i=true->key s i < k
 high:∀ i,r<=i->i < s.keys.length->Oc.isB s.words i=true->k<=key s i
theorem Part.lows {s:Sl} {k:Int} {r:Nat} (h:Part s k r):Sk.low s k=Oc.places s.words 0 r:=by
 unfold Sk.low all
 have e1:(Oc.places s.words 0 r).filter (fun i=>decide (key s i < k))=Oc.places s.words 0 r:=List.filter_eq_self.2 fun i hi=>by
  have:=Oc.mem_places.1 hi
  simpa using h.low i this.1.2 this.2
 have e2:(Oc.places s.words r s.keys.length).filter (fun i=>decide (key s i < k))=[]:=List.filter_eq_nil_iff.2 fun i hi=>by
  have:=Oc.mem_places.1 hi;have:=h.high i this.1.1 this.1.2 this.2
  simp;omega
 rw [Oc.places_split s.words 0 r s.keys.length (Nat.zero_le _) h.le,List.filter_append,e1,e2,List.append_nil]
theorem Part.highs {s:Sl} {k:Int} {r:Nat} (h:Part s k r):Sk.high s k=Oc.places s.words r s.keys.length:=by
 unfold Sk.high all
 have e1:(Oc.places s.words 0 r).filter (fun i=>decide (k<=key s i))=[]:=List.filter_eq_nil_iff.2 fun i hi=>by
  have:=Oc.mem_places.1 hi;have:=h.low i this.1.2 this.2
  simp;omega
 have e2:(Oc.places s.words r s.keys.length).filter (fun i=>decide (k<=key s i))=Oc.places s.words r s.keys.length:=List.filter_eq_self.2 fun i hi=>by
  have:=Oc.mem_places.1 hi
  simpa using h.high i this.1.1 this.1.2 this.2
 rw [Oc.places_split s.words 0 r s.keys.length (Nat.zero_le _) h.le,List.filter_append,e1,e2,List.nil_append]
theorem Part.rank {s:Sl} {k:Int} {r:Nat} (h:Part s k r) (hc:chkE s=0):Oc.countV s.words s.keys.length 0 r=rankV s k/\Oc.countE s.words s.keys.length 0 r=0:=by
 have hw:=(chk_zero.1 hc).1.chkW;have hl:=h.le
 have hE:Oc.countE s.words s.keys.length 0 r=0:=by unfold Oc.countE;rw [if_pos hw,if_neg (by omega)]
 refine⟨?_,hE⟩;unfold Oc.countV rankV;rw [if_pos hE,if_pos hc,h.lows]
 rfl
theorem Part.next {s:Sl} {k:Int} {r:Nat} (h:Part s k r) (hc:chkE s=0):Oc.nextV s.words s.keys.length r=nextV s k/\Oc.nextE s.words s.keys.length r=nextE s k:=by
 have hw:=(chk_zero.1 hc).1.chkW;have hl:=h.le
 have hE:Oc.nextE s.words s.keys.length r=nextE s k:=by
  unfold Oc.nextE nextE;rw [if_pos hw,if_pos hc,if_neg (by omega),h.highs]
  rfl
 refine⟨?_,hE⟩;unfold Oc.nextV nextV;rw [hE,h.highs]
 rfl
theorem Part.last {s:Sl} {k:Int} {r:Nat} (h:Part s k r) (hc:chkE s=0):Oc.lastV s.words s.keys.length r=lastV s k/\Oc.lastE s.words s.keys.length r=lastE s k:=by
 have hw:=(chk_zero.1 hc).1.chkW;have hl:=h.le
 have hE:Oc.lastE s.words s.keys.length r=lastE s k:=by
  unfold Oc.lastE lastE;rw [if_pos hw,if_pos hc,if_neg (by omega),h.lows]
  rfl
 refine⟨?_,hE⟩;unfold Oc.lastV lastV;rw [hE,h.lows]
 rfl
structure Half (s:Sl) (k:Int) (a b:Nat):Prop where
 le:a<=b
 top:b<=s.keys.length
 low:∀ i,i < a->Oc.isB s.words i=true->key s i < k
 high:∀ i,b<=i->i < s.keys.length->Oc.isB s.words i=true->k<=key s i
theorem half_start (s:Sl) (k:Int):Half s k 0 s.keys.length:=⟨Nat.zero_le _,Nat.le_refl _,fun i h=>absurd h (Nat.not_lt_zero _),fun i h1 h2=>by omega⟩
theorem Half.up {s:Sl} {k:Int} {a b m x:Nat} {r:List Nat} (H:Half s k a b) (hr:risesB s=true) (h1:a<=m) (h2:m < b) (hp:Oc.places s.words m s.keys.length=x::r) (hk:key s x < k):m<=x/\Half s k (x+1) b:=by
 have F:=first hp
 have hxb:x < b:=by
  apply Nat.lt_of_not_le
  intro hle;have:=H.high x hle F.lt F.is
  omega
 refine⟨F.ge,hxb,H.top,fun i hi hb=>?_,H.high⟩
 by_cases e:i=x
 ·subst e;exact hk
 ·have:=rises_at hr (show i < x by omega) F.lt hb F.is
  omega
theorem Half.down {s:Sl} {k:Int} {a b m x:Nat} {r:List Nat} (H:Half s k a b) (hr:risesB s=true) (h1:a<=m) (h2:m < b) (hp:Oc.places s.words m s.keys.length=x::r) (hk:k<=key s x):Half s k a m:=by
 have F:=first hp;refine⟨h1,by have:=H.top;omega,H.low,fun i hi hn hb=>?_⟩
 by_cases e:i=x
 ·subst e;exact hk
 ·by_cases e2:i < x
  ·have:i∈Oc.places s.words m x:=Oc.mem_places.2 ⟨⟨hi,e2⟩,hb⟩
   rw [F.none] at this
   cases this
  ·have:=rises_at hr (show x < i by omega) hn F.is hb
   omega
theorem Half.none {s:Sl} {k:Int} {a b m:Nat} (H:Half s k a b) (h1:a<=m) (h2:m < b) (hp:Oc.places s.words m s.keys.length=[]):Half s k a m:=by
 refine⟨h1,by have:=H.top;omega,H.low,fun i hi hn hb=>?_⟩;have:i∈Oc.places s.words m s.keys.length:=Oc.mem_places.2 ⟨⟨hi,hn⟩,hb⟩;rw [hp] at this
 cases this
theorem Half.go {s:Sl} {k:Int} {a b m:Nat} (H:Half s k a b) (hm:s.May) (hr:risesB s=true) (h1:a<=m) (h2:m < b) :
  (Oc.nextE s.words s.keys.length m=6/\Half s k a m) ∨
  ∃ x:Nat,Oc.nextE s.words s.keys.length m=0/\Oc.nextV s.words s.keys.length m=(x:Int)/\x < s.keys.length/\((key s x < k/\m<=x/\Half s k (x+1) b)∨(¬ key s x < k/\Half s k a m)):=by
 have ht:=H.top
 rcases next_cases hm.chkW (show m<=s.keys.length by omega) with⟨hp,hE,hV⟩ | ⟨x,r,hp,hE,hV⟩
 ·exact Or.inl ⟨hE,H.none h1 h2 hp⟩
 ·refine Or.inr ⟨x,hE,hV,(first hp).lt,?_⟩
  by_cases hk:key s x < k
  ·exact Or.inl ⟨hk,H.up hr h1 h2 hp hk⟩
  ·exact Or.inr ⟨hk,H.down hr h1 h2 hp (by omega)⟩
theorem Half.done {s:Sl} {k:Int} {a b:Nat} (H:Half s k a b) (h:¬ a < b):Part s k a:=by
 have:=H.le;have:=H.top;exact⟨by omega,H.low,fun i hi=>H.high i (by omega)⟩
theorem part_of {s:Sl} (k:Int) (hr:risesB s=true):∃ r,Part s k r:=by
 cases hh:Sk.high s k with
 | nil =>
  refine⟨s.keys.length,Nat.le_refl _,fun i hi hb=>?_,fun i h1 h2=>by omega⟩
  by_cases e:key s i < k
  ·exact e
  ·have:i∈Sk.high s k:=List.mem_filter.2 ⟨Oc.mem_places.2 ⟨⟨Nat.zero_le _,hi⟩,hb⟩,by simp;omega⟩
   rw [hh] at this
   cases this
 | cons x t =>
  have hx:x∈Sk.high s k:=by rw [hh];simp
  obtain⟨m1,m2⟩:=List.mem_filter.1 hx;obtain⟨⟨_,n1⟩,n2⟩:=Oc.mem_places.1 m1
  simp only [decide_eq_true_eq] at m2
  have hs:(Sk.high s k).Pairwise (· < ·):=(places_sorted s.words 0 s.keys.length).filter _;rw [hh,List.pairwise_cons] at hs;refine⟨x,by omega,fun i hi hb=>?_,fun i h1 h2 hb=>?_⟩
  ·by_cases e:key s i < k
   ·exact e
   ·have:i∈Sk.high s k:=List.mem_filter.2 ⟨Oc.mem_places.2 ⟨⟨Nat.zero_le _,by omega⟩,hb⟩,by simp;omega⟩
    rw [hh] at this
    rcases List.mem_cons.1 this with e2 | e2
    ·omega
    ·have:=hs.1 i e2;omega
  ·by_cases e:i=x
   ·subst e;exact m2
   ·have:=rises_at hr (show x < i by omega) h2 n2 hb
    omega
structure NextAt (s:Sl) (k:Int) (x:Nat):Prop where
 e:nextE s k=0
 v:nextV s k=x
 lt:x < s.keys.length
 is:Oc.isB s.words x=true
 key:k<=key s x
 ahead:Oc.places s.words 0 x=low s k
theorem next_at {s:Sl} {k:Int} (hc:chkE s=0) (h:(high s k).length≠0):∃ x,NextAt s k x:=by
 obtain⟨hm,hr⟩:=chk_zero.1 hc;obtain⟨r,P⟩:=part_of k hr
 have he:nextE s k=0:=by unfold nextE;rw [if_pos hc,if_neg h]
 rw [P.highs] at h
 cases hp:Oc.places s.words r s.keys.length with
 | nil=>rw [hp] at h;exact absurd rfl h
 | cons x t =>
  have F:=first hp;refine⟨x,he,?_,F.lt,F.is,P.high x F.ge F.lt F.is,?_⟩
  ·unfold nextV
   rw [if_pos he,P.highs,hp]
   rfl
  ·rw [P.lows,Oc.places_split s.words 0 r x (Nat.zero_le _) F.ge,F.none,List.append_nil]
theorem at_is {s:Sl} (hm:s.May) {x:Nat} (h:x < s.keys.length) (hb:Oc.isB s.words x=true):s.atE x=0/\s.atV x=s.pairAt x:=by
 have he:s.atE x=0:=by
  unfold Sl.atE Sl.slotB;rw [may_iff.2 hm,Int.toNat_natCast,hb]
  simp
  omega
 refine⟨he,?_⟩;unfold Sl.atV;rw [if_pos he,Int.toNat_natCast]
theorem low_le (s:Sl) (k:Int):(low s k).length<=s.keys.length:=by
 unfold low;refine Nat.le_trans (List.length_filter_le _ _) ?_;have:=Oc.places_length_le s.words 0 s.keys.length;unfold all
 omega
end Sk
end Go.Proofs.YtfdpkmafemidjaaDoor
