/- Plain facts of gapped arrays, and a law of ranges over functions. -/
import Derived.Test.YtpeckljoannolaaGreatDoorM04Ot
import Derived.Test.YtpeckljoannolaaGreatDoorR04Ot
import Derived.Test.YtpeckljoannolaaGreatDoorM10Ot
import Derived.Test.YtpeckljoannolaaGreatDoorM01Ot
import Derived.Test.YtpeckljoannolaaGreatDoorTkOt
set_option linter.unusedVariables false
set_option linter.unusedSimpArgs false
namespace Go.Proofs.YtpeckljoannolaaGreatDoor
open Go.RowKit
theorem isB_over {ws:List Nat} {i:Nat} (h:64*ws.length<=i):Oc.isB ws i=false:=by
 unfold Oc.isB;rw [show ws.getD (i/64) 0=0 from by simp [List.getD,List.getElem?_eq_none (show ws.length<=i/64 by omega)]]
 simp
theorem mayW_iff {ws:List Nat} {n:Nat}:Oc.mayB ws n=true↔ws.length=(n+63)/64/\∀ i,n<=i->Oc.isB ws i=false:=by
 unfold Oc.mayB Oc.clearB;rw [Bool.and_eq_true,beq_iff_eq,List.isEmpty_iff]
 constructor
 ·rintro⟨h1,h2⟩
  refine⟨h1,fun i hi=>?_⟩
  by_cases hlt:i < 64*ws.length
  ·cases hb:Oc.isB ws i
   ·rfl
   ·have:i∈Oc.places ws n (64*ws.length):=Oc.mem_places.2 ⟨⟨hi,hlt⟩,hb⟩
    rw [h2] at this;cases this
  ·exact isB_over (by omega)
 ·rintro⟨h1,h2⟩
  refine⟨h1,?_⟩;rw [List.eq_nil_iff_forall_not_mem];intro i hi;have:=Oc.mem_places.1 hi;rw [h2 i this.1.1] at this;exact absurd this.2 (by simp)
structure Sl.May (s:Sl):Prop where
 fits:Sl.fitsB s.seg s.keys.length=true
 vals:s.vals.length=s.keys.length
 wlen:s.words.length=(s.keys.length+63)/64
 over:∀ i,s.keys.length<=i->Oc.isB s.words i=false
 clen:(s.counts.length:Int)=(s.keys.length:Int)/s.seg
 zero:∀ i,Oc.isB s.words i=false->s.keys.getD i 0=0/\s.vals.getD i 0=0
 count:∀ j,j < s.counts.length->s.counts.getD j 0=s.countOf j
theorem getD_over {zs:List Int} {i:Nat} (h:zs.length<=i):zs.getD i 0=0:=by simp [List.getD,List.getElem?_eq_none h]
theorem may_iff {s:Sl}:s.mayB=true↔s.May:=by
 constructor
 ·intro h
  obtain⟨hf,hz,hc⟩:=may_parts h;obtain⟨f1,f2,f3,f4⟩:=form_yes hf;obtain⟨w1,w2⟩:=mayW_iff.1 f3;refine⟨f1,f2,w1,w2,f4,fun i hi=>?_,fun j hj=>?_⟩
  ·by_cases hlt:i < s.keys.length
   ·unfold Sl.zerosB at hz;rw [List.all_eq_true] at hz
    have:=hz i (by simpa using hlt);unfold Sl.zeroAt at this;rw [hi] at this
    simpa using this
   ·exact⟨getD_over (by omega),getD_over (by omega)⟩
  ·unfold Sl.countsB at hc;rw [List.all_eq_true] at hc
   have:=hc j (by simpa using hj);unfold Sl.countAt at this
   simpa using this
 ·rintro⟨f1,f2,w1,w2,f4,hz,hc⟩
  have h1:s.formB=true:=by
   rw [form_parts,f1,mayW_iff.2 ⟨w1,w2⟩];simp [f2,f4]
  have h2:s.zerosB s.keys.length=true:=by
   unfold Sl.zerosB;rw [List.all_eq_true];intro i _;unfold Sl.zeroAt
   cases hb:Oc.isB s.words i
   ·have:=hz i hb;rw [this.1,this.2];rfl
   ·rfl
  have h3:s.countsB s.counts.length=true:=by
   unfold Sl.countsB;rw [List.all_eq_true];intro j hj;unfold Sl.countAt;rw [hc j (by simpa using hj)]
   simp
  unfold Sl.mayB;rw [h1,h2,h3];rfl
namespace Sl.May
variable {s:Sl}
theorem seg1 (h:s.May):4<=s.seg:=(fits_yes h.fits).1
theorem seg2 (h:s.May):s.seg<=64:=(fits_yes h.fits).2.1
theorem many (h:s.May):1<=s.keys.length/\s.keys.length<=65536:=by have:=fits_yes h.fits;omega
theorem chkW (h:s.May):Oc.chk s.words s.keys.length=0:=by
 unfold Oc.chk Oc.badN;have:=h.many;rw [show (decide ((s.keys.length:Int) < 0)||decide ((65536:Int) < s.keys.length))=false from by simp;omega,Int.toNat_natCast,mayW_iff.2 ⟨h.wlen,h.over⟩]
 rfl
theorem whole (h:s.May):s.counts.length*s.seg.toNat=s.keys.length:=by
 have h1:=h.seg1;have h2:=fits_yes h.fits;have h3:=Int.ediv_mul_cancel (a:=(s.keys.length:Int)) (b:=s.seg) (Int.dvd_of_emod_eq_zero h2.2.2.2.2.2.1);rw [<-h.clen] at h3
 have:((s.counts.length*s.seg.toNat:Nat):Int)=s.keys.length:=by
  rw [Int.natCast_mul,Int.toNat_of_nonneg (by omega)];exact h3
 omega
theorem slot_word (h:s.May) {i:Nat} (hi:i < s.keys.length):i/64 < s.words.length:=by have:=h.wlen;omega
end Sl.May
theorem putW_isB (ws:List Nat) (s i:Nat) (v:Bool) (hs:s/64 < ws.length):Oc.isB (Oc.putW ws s v) i=if i=s then v else Oc.isB ws i:=by
 unfold Oc.isB Oc.putW
 by_cases e:s/64=i/64
 ·rw [show (ws.set (s/64) (Oc.putN (ws.getD (s/64) 0) (s % 64) v)).getD (i/64) 0=Oc.putN (ws.getD (s/64) 0) (s % 64) v from by rw [<-e];simp [List.getD,hs]]
  rw [Oc.putN_bit,<-e]
  by_cases e2:i=s
  ·subst e2;simp
  ·rw [if_neg e2,if_neg (by omega)]
 ·rw [show (ws.set (s/64) (Oc.putN (ws.getD (s/64) 0) (s % 64) v)).getD (i/64) 0=ws.getD (i/64) 0 from by simp [List.getD,List.getElem?_set,e]]
  rw [if_neg (by intro h;subst h;exact e rfl)]
theorem places_congr {ws ws':List Nat} {a b:Nat} (h:∀ i,a<=i->i < b->Oc.isB ws i=Oc.isB ws' i):Oc.places ws a b=Oc.places ws' a b:=by
 unfold Oc.places;refine List.filter_congr (fun i hi=>?_);rw [List.mem_range'_1] at hi;exact h i hi.1 (by omega)
theorem places_at (ws:List Nat) {a b s:Nat} (h1:a<=s) (h2:s < b):Oc.places ws a b=Oc.places ws a s++((if Oc.isB ws s then [s] else [])++Oc.places ws (s+1) b):=by
 rw [Oc.places_split ws a s b h1 (by omega),Oc.places_split ws s (s+1) b (by omega) h2,Oc.places_snoc ws s s (Nat.le_refl _),Oc.places_self]
 cases Oc.isB ws s<;>simp
theorem places_put_out (ws:List Nat) {a b s:Nat} (v:Bool) (hs:s/64 < ws.length) (h:s < a∨b<=s):Oc.places (Oc.putW ws s v) a b=Oc.places ws a b :=
 places_congr fun i h1 h2=>by rw [putW_isB ws s i v hs,if_neg (by omega)]
theorem places_put_in (ws:List Nat) {a b s:Nat} (v:Bool) (hs:s/64 < ws.length) (h1:a<=s) (h2:s < b):Oc.places (Oc.putW ws s v) a b=Oc.places ws a s++((if v then [s] else [])++Oc.places ws (s+1) b):=by
 rw [places_at _ h1 h2,putW_isB ws s s v hs,if_pos rfl,places_put_out ws v hs (Or.inr (Nat.le_refl _)),places_put_out ws v hs (Or.inl (by omega))]
theorem seg_in {q i j:Nat} (hq:0 < q):i/q=j↔j*q<=i/\i < (j+1)*q:=by
 rw [<-Nat.le_div_iff_mul_le hq,<-Nat.div_lt_iff_lt_mul hq];omega
theorem count_put (s t:Sl) (i j:Nat) (v:Bool) (hq:0 < s.seg.toNat) (hseg:t.seg=s.seg) (hw:t.words=Oc.putW s.words i v) (hs:i/64 < s.words.length) :
  t.countOf j=s.countOf j+(if s.segOf i=j then (if v then 1 else 0)-(if Oc.isB s.words i then 1 else 0) else 0):=by
 unfold Sl.countOf Sl.segOf;rw [hseg,hw]
 by_cases e:i/s.seg.toNat=j
 ·obtain⟨h1,h2⟩:=(seg_in hq).1 e
  rw [places_put_in _ v hs h1 h2,places_at s.words h1 h2,if_pos e]
  simp only [List.length_append]
  cases v<;>cases Oc.isB s.words i<;>simp<;>omega
 ·rw [if_neg e,places_put_out _ v hs,Int.add_zero]
  apply Classical.byContradiction
  intro hn;exact e ((seg_in hq).2 (by omega))
theorem getD_set_self {zs:List Int} {i:Nat} (x:Int) (h:i < zs.length):(zs.set i x).getD i 0=x:=by simp [List.getD,h]
theorem getD_set_ne {zs:List Int} {i j:Nat} (x:Int) (h:i≠j):(zs.set i x).getD j 0=zs.getD j 0:=by simp [List.getD,List.getElem?_set,h]
theorem emptied_isB {s:Sl} (h:s.May) {i:Nat} (hi:i < s.keys.length) (j:Nat):Oc.isB (s.emptied i).words j=if j=i then false else Oc.isB s.words j:=putW_isB _ _ _ _ (h.slot_word hi)
theorem filledAt_isB {s:Sl} (h:s.May) {i:Nat} (p:Int×Int) (hi:i < s.keys.length) (j:Nat):Oc.isB (s.filledAt i p).words j=if j=i then true else Oc.isB s.words j:=putW_isB _ _ _ _ (h.slot_word hi)
theorem Sl.May.emptied {s:Sl} (h:s.May) {i:Nat} (hi:i < s.keys.length):(s.emptied i).May:=by
 have hq:0 < s.seg.toNat:=by have:=h.seg1;omega
 have hcl:(s.emptied i).counts.length=s.counts.length:=by unfold Sl.emptied;dsimp only;split<;>simp
 refine⟨?_,?_,?_,fun j hj=>?_,?_,fun j hj=>?_,fun j hj=>?_⟩
 ·show Sl.fitsB s.seg (s.keys.set i 0).length=true
  rw [List.length_set];exact h.fits
 ·show (s.vals.set i 0).length=(s.keys.set i 0).length
  rw [List.length_set,List.length_set];exact h.vals
 ·show (Oc.putW s.words i false).length=((s.keys.set i 0).length+63)/64
  rw [List.length_set,putW_len];exact h.wlen
 ·rw [emptied_keys] at hj
  rw [emptied_isB h hi];split
  ·rfl
  ·exact h.over j hj
 ·rw [hcl]
  show (s.counts.length:Int)=((s.keys.set i 0).length:Int)/s.seg
  rw [List.length_set];exact h.clen
 ·show (s.keys.set i 0).getD j 0=0/\(s.vals.set i 0).getD j 0=0
  rw [emptied_isB h hi] at hj
  by_cases e:j=i
  ·subst e
   rw [getD_set_self _ hi,getD_set_self _ (by rw [h.vals];exact hi)];exact⟨rfl,rfl⟩
  ·rw [if_neg e] at hj
   rw [getD_set_ne _ (Ne.symm e),getD_set_ne _ (Ne.symm e)];exact h.zero j hj
 ·rw [hcl] at hj
  rw [count_put s (s.emptied i) i j false hq rfl rfl (h.slot_word hi),<-h.count j hj];unfold Sl.emptied;dsimp only
  cases hb:Oc.isB s.words i
  ·simp
  ·by_cases e:s.segOf i=j
   ·subst e;simp only [if_true,if_false];rw [getD_set_self _ hj];simp;omega
   ·rw [if_neg e];simp only [if_true];rw [getD_set_ne _ e];omega
theorem Sl.May.filledAt {s:Sl} (h:s.May) {i:Nat} (p:Int×Int) (hi:i < s.keys.length) (hb:Oc.isB s.words i=false):(s.filledAt i p).May:=by
 have hq:0 < s.seg.toNat:=by have:=h.seg1;omega
 have hcl:(s.filledAt i p).counts.length=s.counts.length:=List.length_set ..;refine⟨?_,?_,?_,fun j hj=>?_,?_,fun j hj=>?_,fun j hj=>?_⟩
 ·show Sl.fitsB s.seg (s.keys.set i p.1).length=true
  rw [List.length_set];exact h.fits
 ·show (s.vals.set i p.2).length=(s.keys.set i p.1).length
  rw [List.length_set,List.length_set];exact h.vals
 ·show (Oc.putW s.words i true).length=((s.keys.set i p.1).length+63)/64
  rw [List.length_set,putW_len];exact h.wlen
 ·rw [filledAt_keys] at hj
  rw [filledAt_isB h p hi,if_neg (by omega)];exact h.over j hj
 ·rw [hcl]
  show (s.counts.length:Int)=((s.keys.set i p.1).length:Int)/s.seg
  rw [List.length_set];exact h.clen
 ·show (s.keys.set i p.1).getD j 0=0/\(s.vals.set i p.2).getD j 0=0
  rw [filledAt_isB h p hi] at hj
  by_cases e:j=i
  ·rw [if_pos e] at hj;cases hj
  ·rw [if_neg e] at hj
   rw [getD_set_ne _ (Ne.symm e),getD_set_ne _ (Ne.symm e)];exact h.zero j hj
 ·rw [hcl] at hj
  rw [count_put s (s.filledAt i p) i j true hq rfl rfl (h.slot_word hi),<-h.count j hj,hb]
  show (s.counts.set (s.segOf i) _).getD j 0=_
  by_cases e:s.segOf i=j
  ·subst e;rw [getD_set_self _ hj];simp
  ·rw [if_neg e,getD_set_ne _ e];omega
theorem emptied_off {s:Sl} (h:s.May) {i:Nat} (hi:i < s.keys.length):Oc.isB (s.emptied i).words i=false:=by rw [emptied_isB h hi,if_pos rfl]
theorem Sl.May.withP {s:Sl} (h:s.May) {i:Nat} (p:Int×Int) (hi:i < s.keys.length):(s.withP i p).May :=
 (h.emptied hi).filledAt p (by rw [emptied_keys];exact hi) (emptied_off h hi)
theorem withP_keys (s:Sl) (i:Nat) (p:Int×Int):(s.withP i p).keys.length=s.keys.length:=by unfold Sl.withP;rw [filledAt_keys,emptied_keys]
theorem withP_isB {s:Sl} (h:s.May) {i:Nat} (p:Int×Int) (hi:i < s.keys.length) (j:Nat):Oc.isB (s.withP i p).words j=if j=i then true else Oc.isB s.words j:=by
 unfold Sl.withP;rw [filledAt_isB (h.emptied hi) p (by rw [emptied_keys];exact hi),emptied_isB h hi]
 split<;>rfl
theorem emptied_pair {s:Sl} {i j:Nat} (e:j≠i):(s.emptied i).pairAt j=s.pairAt j:=by
 unfold Sl.pairAt
 show ((s.keys.set i 0).getD j 0,(s.vals.set i 0).getD j 0)=_
 rw [getD_set_ne _ (Ne.symm e),getD_set_ne _ (Ne.symm e)]
theorem filledAt_pair {s:Sl} {i j:Nat} (p:Int×Int) (e:j≠i):(s.filledAt i p).pairAt j=s.pairAt j:=by
 unfold Sl.pairAt
 show ((s.keys.set i p.1).getD j 0,(s.vals.set i p.2).getD j 0)=_
 rw [getD_set_ne _ (Ne.symm e),getD_set_ne _ (Ne.symm e)]
theorem filledAt_self {s:Sl} (h:s.May) {i:Nat} (p:Int×Int) (hi:i < s.keys.length):(s.filledAt i p).pairAt i=p:=by
 unfold Sl.pairAt
 show ((s.keys.set i p.1).getD i 0,(s.vals.set i p.2).getD i 0)=_
 rw [getD_set_self _ hi,getD_set_self _ (by rw [h.vals];exact hi)]
theorem withP_pair {s:Sl} {i j:Nat} (p:Int×Int) (e:j≠i):(s.withP i p).pairAt j=s.pairAt j:=by unfold Sl.withP;rw [filledAt_pair p e,emptied_pair e]
theorem withP_self {s:Sl} (h:s.May) {i:Nat} (p:Int×Int) (hi:i < s.keys.length):(s.withP i p).pairAt i=p:=filledAt_self (h.emptied hi) p (by rw [emptied_keys];exact hi)
theorem sorted_ext:∀ {xs ys:List Nat},xs.Pairwise (· < ·)->ys.Pairwise (· < ·)->(∀ x,x∈xs↔x∈ys)->xs=ys
 | [],[],_,_,_=>rfl
 | [],y::ys,_,_,h=>by have:=(h y).2 (by simp);simp at this
 | x::xs,[],_,_,h=>by have:=(h x).1 (by simp);simp at this
 | x::xs,y::ys,hx,hy,h=>by
  obtain⟨hx1,hx2⟩:=List.pairwise_cons.1 hx;obtain⟨hy1,hy2⟩:=List.pairwise_cons.1 hy
  have e:x=y:=by
   rcases List.mem_cons.1 ((h x).1 (by simp)) with e | e
   ·exact e
   ·rcases List.mem_cons.1 ((h y).2 (by simp)) with e' | e'
    ·exact e'.symm
    ·have:=hx1 _ e';have:=hy1 _ e;omega
  subst e
  congr 1
  refine sorted_ext hx2 hy2 fun z=>⟨fun hz=>?_,fun hz=>?_⟩
  ·rcases List.mem_cons.1 ((h z).1 (by simp [hz])) with e | e
   ·have:=hx1 _ hz;omega
   ·exact e
  ·rcases List.mem_cons.1 ((h z).2 (by simp [hz])) with e | e
   ·have:=hy1 _ hz;omega
   ·exact e
theorem places_sorted (ws:List Nat) (a b:Nat):(Oc.places ws a b).Pairwise (· < ·):=List.Pairwise.filter _ (List.pairwise_lt_range' ..)
theorem wiped_seg (s:Sl) (a:Nat):∀ k,(s.wiped a k).seg=s.seg/\(s.wiped a k).laid=s.laid
 | 0=>⟨rfl,rfl⟩
 | k+1=>wiped_seg s a k
theorem wiped_may {s:Sl} (h:s.May) (a:Nat):∀ k,a+k<=s.keys.length->(s.wiped a k).May/\∀ j,Oc.isB (s.wiped a k).words j=(Oc.isB s.words j&&!(decide (a<=j)&&decide (j < a+k)))
 | 0,_=>⟨h,fun j=>by
   show Oc.isB s.words j=_
   have:(decide (a<=j)&&decide (j < a+0))=false:=by rw [Bool.and_eq_false_iff];simp only [decide_eq_false_iff_not];omega
   rw [this];simp⟩
 | k+1,hk=>by
  obtain⟨h1,h2⟩:=wiped_may h a k (by omega)
  have hi:a+k < (s.wiped a k).keys.length:=by rw [wiped_keys];omega
  refine⟨h1.emptied hi,fun j=>?_⟩
  show Oc.isB ((s.wiped a k).emptied (a+k)).words j=_
  rw [emptied_isB h1 hi,h2]
  by_cases e:j=a+k
  ·rw [if_pos e]
   have:(decide (a<=j)&&decide (j < a+(k+1)))=true:=by simp;omega
   rw [this];simp
  ·rw [if_neg e]
   have:decide (j < a+(k+1))=decide (j < a+k):=by rw [decide_eq_decide];omega
   rw [this]
theorem wiped_pair (s:Sl) (a j:Nat):∀ k,j < a∨a+k<=j->(s.wiped a k).pairAt j=s.pairAt j
 | 0,_=>rfl
 | k+1,h=>by
  show ((s.wiped a k).emptied (a+k)).pairAt j=_
  rw [emptied_pair (by omega),wiped_pair s a j k (by omega)]
structure Rising (l:List Int) (a b:Nat):Prop where
 inn:∀ k,k < l.length->(a:Int)<=l.getD k 0/\l.getD k 0 < b
 up:∀ i j,i < j->j < l.length->l.getD i 0 < l.getD j 0
theorem laidIn_laid (s:Sl) (l:List Int) (ps:List (Int×Int)) (hs:s.laid < 18446744073709551616):∀ k,(s.laidIn l ps k).laid=(s.laid+k) % 18446744073709551616
 | 0=>by show s.laid=_;omega
 | k+1=>by
  show ((s.laidIn l ps k).laid+1) % 18446744073709551616=_
  rw [laidIn_laid s l ps hs k];omega
theorem laidIn_seg (s:Sl) (l:List Int) (ps:List (Int×Int)):∀ k,(s.laidIn l ps k).seg=s.seg
 | 0=>rfl
 | k+1=>laidIn_seg s l ps k
structure LaidIn (t:Sl) (l:List Int) (ps:List (Int×Int)) (k:Nat):Prop where
 may:(t.laidIn l ps k).May
 isB:∀ j,Oc.isB (t.laidIn l ps k).words j=true↔Oc.isB t.words j=true∨∃ i,i < k/\l.getD i 0=(j:Int)
 pair:∀ i,i < k->(t.laidIn l ps k).pairAt (l.getD i 0).toNat=ps.getD i (0,0)
 other:∀ j:Nat,(∀ i,i < k->l.getD i 0≠(j:Int))->(t.laidIn l ps k).pairAt j=t.pairAt j
 off:∀ i,k<=i->i < l.length->Oc.isB (t.laidIn l ps k).words (l.getD i 0).toNat=false
theorem laidIn_all {t:Sl} (h:t.May) {l:List Int} (ps:List (Int×Int)) {a b:Nat} (hr:Rising l a b) (hb:b<=t.keys.length) (hoff:∀ j,a<=j->j < b->Oc.isB t.words j=false):∀ k,k<=l.length->LaidIn t l ps k
 | 0,_=>⟨h,fun j=>⟨fun e=>Or.inl e,fun e=>by
   rcases e with e | ⟨i,hi,_⟩
   ·exact e
   ·omega⟩,fun i hi=>by omega,fun j _=>rfl,fun i _ hi=>by have:=hr.inn i hi;exact hoff _ (by omega) (by omega)⟩
 | k+1,hk=>by
  have H:=laidIn_all h ps hr hb hoff k (by omega);have hin:=hr.inn k (by omega)
  have hlt:(l.getD k 0).toNat < (t.laidIn l ps k).keys.length:=by rw [laidIn_keys];omega
  have ho:=H.off k (Nat.le_refl _) (by omega);refine⟨H.may.filledAt _ hlt ho,fun j=>?_,fun i hi=>?_,fun j hj=>?_,fun i h1 h2=>?_⟩
  ·show Oc.isB ((t.laidIn l ps k).filledAt (l.getD k 0).toNat (ps.getD k (0,0))).words j=true↔_
   rw [filledAt_isB H.may _ hlt]
   by_cases e:j=(l.getD k 0).toNat
   ·rw [if_pos e]
    exact⟨fun _=>Or.inr ⟨k,by omega,by omega⟩,fun _=>rfl⟩
   ·rw [if_neg e,H.isB]
    constructor
    ·rintro (e1 | ⟨i,hi,e1⟩)
     ·exact Or.inl e1
     ·exact Or.inr ⟨i,by omega,e1⟩
    ·rintro (e1 | ⟨i,hi,e1⟩)
     ·exact Or.inl e1
     ·by_cases e2:i=k
      ·subst e2;omega
      ·exact Or.inr ⟨i,by omega,e1⟩
  ·show ((t.laidIn l ps k).filledAt (l.getD k 0).toNat (ps.getD k (0,0))).pairAt (l.getD i 0).toNat=_
   by_cases e:i=k
   ·subst e;exact filledAt_self H.may _ hlt
   ·have h1:=hr.up i k (by omega) (by omega)
    have h2:=hr.inn i (by omega);rw [filledAt_pair _ (by omega),H.pair i (by omega)]
  ·show ((t.laidIn l ps k).filledAt (l.getD k 0).toNat (ps.getD k (0,0))).pairAt j=_
   have:=hj k (by omega);rw [filledAt_pair _ (by omega),H.other j (fun i hi=>hj i (by omega))]
  ·show Oc.isB ((t.laidIn l ps k).filledAt (l.getD k 0).toNat (ps.getD k (0,0))).words _=false
   have h3:=hr.up k i (by omega) h2;rw [filledAt_isB H.may _ hlt,if_neg (by omega),H.off i (by omega) h2]
structure FilledOk (s:Sl) (a b:Nat) (l:List Int) (ps:List (Int×Int)):Prop where
 may:(s.filled a b l ps).May
 keys:(s.filled a b l ps).keys.length=s.keys.length
 inn:(s.filled a b l ps).of a b=ps
 low:(s.filled a b l ps).of 0 a=s.of 0 a
 high:(s.filled a b l ps).of b s.keys.length=s.of b s.keys.length
 at_:∀ k,k < l.length->Oc.isB (s.filled a b l ps).words (l.getD k 0).toNat=true/\(s.filled a b l ps).pairAt (l.getD k 0).toNat=ps.getD k (0,0)
 laid:(s.filled a b l ps).laid=(s.laid+ps.length) % 18446744073709551616
theorem filled_ok {s:Sl} (h:s.May) (hl:s.laid < 18446744073709551616) {a b:Nat} {l:List Int} {ps:List (Int×Int)} (hr:Rising l a b) (hab:a<=b) (hb:b<=s.keys.length) (hlen:l.length=ps.length):FilledOk s a b l ps:=by
 have ef:s.filled a b l ps=(s.wiped a (b-a)).laidIn l ps ps.length:=by unfold Sl.filled;rw [Int.toNat_natCast,show ((b:Int)-(a:Int)).toNat=b-a from by omega]
 obtain⟨h1,h2⟩:=wiped_may h a (b-a) (by omega);have hk1:(s.wiped a (b-a)).keys.length=s.keys.length:=wiped_keys _ _ _;have H:=laidIn_all h1 ps hr (by rw [hk1];exact hb) (fun j e1 e2=>by rw [h2,show (decide (a<=j)&&decide (j < a+(b-a)))=true from by simp;omega];simp) ps.length (by omega)
 have hkeys:(s.filled a b l ps).keys.length=s.keys.length:=by rw [ef,laidIn_keys,hk1]
 have hsame:∀ j,j < a∨b<=j->Oc.isB (s.filled a b l ps).words j=Oc.isB s.words j/\(s.filled a b l ps).pairAt j=s.pairAt j:=by
  intro j hj
  have hn:∀ i,i < ps.length->l.getD i 0≠(j:Int):=fun i hi e=>by have:=hr.inn i (by omega);omega
  constructor
  ·rw [Bool.eq_iff_iff,ef,H.isB,h2,show (decide (a<=j)&&decide (j < a+(b-a)))=false from by simp;omega]
   simp only [Bool.not_false,Bool.and_true]
   exact⟨fun e=>e.resolve_right (fun ⟨i,hi,e⟩=>hn i hi e),Or.inl⟩
  ·rw [ef,H.other j hn,wiped_pair s a j (b-a) (by omega)]
 have hof:∀ c d,(∀ j,c<=j->j < d->j < a∨b<=j)->(s.filled a b l ps).of c d=s.of c d:=by
  intro c d hcd;unfold Sl.of;rw [places_congr (fun i e1 e2=>(hsame i (hcd i e1 e2)).1)];refine List.map_congr_left fun j hj=>?_;have:=(Oc.mem_places.1 hj).1;exact (hsame j (hcd j this.1 this.2)).2
 refine⟨?_,hkeys,?_,hof 0 a (fun j _ e=>Or.inl e),hof b _ (fun j e _=>Or.inr e),fun k hk=>⟨?_,?_⟩,?_⟩
 ·rw [ef];exact H.may
 ·have hp:Oc.places (s.filled a b l ps).words a b=l.map Int.toNat:=by
   refine sorted_ext (places_sorted _ _ _) ?_ fun x=>?_
   ·rw [List.pairwise_map,List.pairwise_iff_getElem]
    intro i j hi hj hij;have e1:=hr.up i j hij hj;have e2:=hr.inn i hi;rw [show l.getD i 0=l[i] from by simp [List.getD,hi]] at e1 e2;rw [show l.getD j 0=l[j] from by simp [List.getD,hj]] at e1
    omega
   ·rw [Oc.mem_places,ef,H.isB,h2]
    constructor
    ·rintro⟨⟨e1,e2⟩,e3⟩
     rw [show (decide (a<=x)&&decide (x < a+(b-a)))=true from by simp;omega] at e3
     rcases e3 with e3 | ⟨i,hi,e⟩
     ·simp at e3
     ·refine List.mem_map.2 ⟨l.getD i 0,by simp [List.getD,show i < l.length by omega],by rw [e];simp⟩
    ·intro hx
     obtain⟨z,hz,rfl⟩:=List.mem_map.1 hx;obtain⟨i,hi,rfl⟩:=List.getElem_of_mem hz;have e2:=hr.inn i hi;rw [show l.getD i 0=l[i] from by simp [List.getD,hi]] at e2;exact⟨⟨by omega,by omega⟩,Or.inr ⟨i,by omega,by simp [List.getD,hi];omega⟩⟩
  unfold Sl.of;rw [hp,List.map_map];refine List.ext_getElem (by simp [hlen]) fun i e1 e2=>?_;rw [List.length_map] at e1;have:=H.pair i (by omega);rw [<-ef,show l.getD i 0=l[i] from by simp [List.getD,e1],show ps.getD i (0,0)=ps[i] from by simp [List.getD,e2]] at this
  simpa using this
 ·rw [ef,H.isB]
  have:=hr.inn k hk;exact Or.inr ⟨k,by omega,by omega⟩
 ·rw [ef];exact H.pair k (by omega)
 ·rw [ef,laidIn_laid _ _ _ (by rw [(wiped_seg s a _).2];exact hl),(wiped_seg s a _).2]
def sumTo (l:List Int):Nat->Int
 | 0=>0
 | k+1=>sumTo l k+l.getD k 0
theorem sum_counts {s:Sl} (h:s.May):∀ k,k<=s.counts.length->sumTo s.counts k=((Oc.places s.words 0 (k*s.seg.toNat)).length:Int)
 | 0,_=>by rw [Nat.zero_mul,Oc.places_self];rfl
 | k+1,hk=>by
  show sumTo s.counts k+s.counts.getD k 0=_
  rw [sum_counts h k (by omega),h.count k (by omega),Oc.places_split s.words 0 (k*s.seg.toNat) ((k+1)*s.seg.toNat) (by omega) (Nat.mul_le_mul_right _ (by omega)),List.length_append];unfold Sl.countOf
  omega
end Go.Proofs.YtpeckljoannolaaGreatDoor
namespace Go.Proofs.YtpeckljoannolaaGreatDoor
open Go.RowKit Go.Shelf
structure Kept (Z:Nat->Prop) (A B:World):Prop where
 size:A.heap.size<=B.heap.size
 block:∀ k,Z k->B.heap[k]?=A.heap[k]?
theorem Kept.refl (Z:Nat->Prop) (A:World):Kept Z A A:=⟨Nat.le_refl _,fun _ _=>rfl⟩
theorem Kept.trans {Z:Nat->Prop} {A B C:World} (h:Kept Z A B) (k:Kept Z B C):Kept Z A C:=⟨Nat.le_trans h.size k.size,fun i hi=>(k.block i hi).trans (h.block i hi)⟩
theorem Kept.of_below {Z:Nat->Prop} {n:Nat} {A B:World} (h:Below n A B) (hz:∀ k,Z k->k < n):Kept Z A B:=⟨h.size,fun k hk=>h.block k (hz k hk)⟩
theorem Kept.setCell {Z:Nat->Prop} {A B:World} (h:Kept Z A B) {p:Addr} (hp:¬ Z p.block) (v:Value):Kept Z A (B.setCell p v) :=
 ⟨by rw [World.size_setCell];exact h.size,fun k hk=>(Below.heap_setCell B p v k (fun e=>hp (e▸hk))).trans (h.block k hk)⟩
theorem Kept.cell {Z:Nat->Prop} {A B:World} (h:Kept Z A B) {p:Addr} (hp:Z p.block):B.cell? p=A.cell? p:=World.cell?_of_block (h.block _ hp)
theorem Kept.frozen {Z:Nat->Prop} {A B:World} (h:Kept Z A B) {p:Addr} (hp:Z p.block):B.frozen? p=A.frozen? p:=World.frozen?_of_block (h.block _ hp)
theorem Kept.lst {Z:Nat->Prop} {A B:World} (h:Kept Z A B) {k:IntKind} {a:Option Addr} {zs:List Int} (hl:Lst k A a zs) (ha:∀ p,a=some p->Z p.block):Lst k B a zs:=by
 rcases hl with h0 | ⟨b,off,h1,h2,h3⟩
 ·exact Or.inl h0
 ·exact Or.inr ⟨b,off,h1,Nat.lt_of_lt_of_le h2 h.size,fun i hi=>(h.cell (p:=⟨b,off+i,none⟩) (ha ⟨b,off,none⟩ h1)).trans (h3 i hi)⟩
theorem Kept.boxed {Z:Nat->Prop} {A B:World} (h:Kept Z A B) {b:Nat} {t:TypeId} {v:Value} (hb:Boxed A b t v) (hz:Z b):Boxed B b t v:=(h.block b hz).trans hb
theorem Kept.box {Z:Nat->Prop} {A B:World} (h:Kept Z A B) {g:Nat} {s:Sl} {a:Ads} (hb:Box A g s a) (hz:Z g):Box B g s a :=
 have hc:∀ o,B.cell? ⟨g,o,none⟩=A.cell? ⟨g,o,none⟩:=fun o=>h.cell (p:=⟨g,o,none⟩) hz
 ⟨Nat.lt_of_lt_of_le hb.lt h.size,(hc 0).trans hb.c0,(hc 1).trans hb.c1,(hc 2).trans hb.c2,(hc 3).trans hb.c3,(hc 4).trans hb.c4,(hc 5).trans hb.c5,fun o=>(h.frozen (p:=⟨g,o,none⟩) hz).trans (hb.fz o)⟩
theorem keptK_b {Z:Nat->Prop} {w:World} (hz:∀ k,Z k->k < w.heap.size) (W:World) (l:Nat) (o o':Obj) (hl:w.heap.size<=l) (h:W.heap[l]?=some o) (_:o.isCells=false) (_:o.isWalk=false):Kept Z W (W.putObj l o') :=
 ⟨by simp,fun k hk=>World.putObj_heap_other (fun e=>by have:=hz k hk;omega)⟩
def SeqP (P:Program) (gf:Nat) (lb:Array Value) (Z:Nat->Prop) (L:List Nat) (w:World):Prop :=
 ∀ (l:Nat) (J Jx:List Nat->World->Prop) (W:World),Below w.heap.size w W->AbidesFrom W.heap.size J->AbidesFrom W.heap.size Jx ->
  (∀ (pre:List Nat) (x:Nat) (W1:World),J pre W1->pre++[x] <+: L->YieldAt Fence.wide 7 P l #[.int .i64 (x:Int)] W1 fun e W'=>(e=.returned (.bool true)/\J (pre++[x]) W'/\Kept Z W1 W')∨(e=.returned (.bool false)/\Jx (pre++[x]) W')) ->
  J [] W->CallsIn Fence.wide 8 P gf (#[.func (.yield l) #[] #[]]++lb) W fun e W'=>(∃ v,e=.returned v)/\(J L W'∨∃ pre,pre <+: L/\Jx pre W')
abbrev RoundPost (Z:Nat->Prop) (I:List Nat->World->Prop) (Ix:Code->List Nat->World->Prop) (xs:List Nat) (W:World):Exit->Act->World->Prop:=ownPostK (Kept Z) I Ix xs W
structure AtLoop (B:Nat) (r:Loop) (W:World):Prop where
 loop:W.heap[B+1]?=some (.loop r)
 mark:W.heap[B]?=some (.deferred (some []))
theorem AtLoop.put {B:Nat} {r:Loop} {W:World} (h:AtLoop B r W) (r':Loop):AtLoop B r' (W.putObj (B+1) (.loop r')) :=
 ⟨World.putObj_heap_same (Array.getElem?_eq_some_iff.1 h.loop).1,(World.putObj_heap_other (by omega)).trans h.mark⟩
theorem AtLoop.keeps {B:Nat} {r:Loop} {A W:World} (h:AtLoop B r A) (hk:KeepsOthers A W):AtLoop B r W:=⟨hk.same _ _ h.loop rfl,hk.same _ _ h.mark rfl⟩
theorem AtLoop.grown {B:Nat} {r:Loop} {A W:World} {row:Option Nat} {n:Nat} (h:AtLoop B r A) (hn:B+1 < n) (hg:A.grownBy W row) (hr:∀ q,row=some q->n<=q/\∃ o:Obj,A.heap[q]?=some o/\o.isWalk=true):AtLoop B r W:=by
 have hne:∀ k,k<=B+1->some k≠row:=fun k hk e=>by have:=(hr k e.symm).1;omega
 exact⟨(hg.block _ (Array.getElem?_eq_some_iff.1 h.loop).1 (hne _ (Nat.le_refl _))).trans h.loop,(hg.block _ (Array.getElem?_eq_some_iff.1 h.mark).1 (hne _ (by omega))).trans h.mark⟩
theorem own_abides {I:List Nat->World->Prop} {B n:Nat} (h:OwnFrom B I) (hn:B<=n) {s:List Nat} {A W:World} {row:Option Nat} (hs:I s A) (hg:A.grownBy W row) (hr:∀ q,row=some q->n<=q/\∃ o:Obj,A.heap[q]?=some o/\o.isWalk=true):I s W :=
 h s A W row hs hg fun q e=>by obtain⟨h1,o,h2,h3⟩:=hr q e;exact⟨by omega,o,h2,Obj.not_cells_of_walk h3⟩
theorem wpIn_rangeP {P:Program} {g:Operand} {p:Tmp} {assign body:Code} {Q:Exit->Act->World->Prop} {a:Act} {w:World}
  {gf:Nat} {lb:Array Value} (hg:a.eval g=.func (.func gf) #[] lb) (eg:∀ args w,(callFunc gf args).run P w=.ok (.enter gf args) w)
  {Z:Nat->Prop} {L:List Nat} (hseq:SeqP P gf lb Z L w) (hz:∀ k,Z k->k < w.heap.size)
  (I:List Nat->World->Prop) (Ix:Code->List Nat->World->Prop) (hI:OwnFrom w.heap.size I) (hIx:∀ c,OwnFrom w.heap.size (Ix c)) (h0:I [] w) (a₁:Nat->Act)
  (hassign:∀ (l:Nat) (x:Nat) (W:World) (K:Act->World->Prop),K (a₁ x) W ->
   assign.wpIn (Fence.wide.inRound l) 7 P (Exit.then K (fun _ _ _=>False)) { tmps:=((#[p]:Array Tmp).zip #[Value.int .i64 (x:Int)]).foldl (fun t (p,v)=>t.setIfInBounds p v) a.tmps,defers:=[] } W)
  (hbody:∀ (l:Nat) (pre:List Nat) (x:Nat) (W:World),I pre W->pre++[x] <+: L->body.wpIn (Fence.wide.inRound l) 7 P (RoundPost Z I Ix (pre++[x]) W) (a₁ x) W)
  (hdone:∀ (D:Nat) (W:World),w.heap.size<=D->I L W->W.heap[D]?=some (.deferred (some []))->Q .normal { a with defers:={ target:=.collected D,args:=#[] }::a.defers } W)
  (hstop:∀ (D:Nat) (c:Code) (pre:List Nat) (W:World),w.heap.size<=D->pre <+: L->Ix c pre W->W.heap[D]?=some (.deferred (some []))->c.wpIn Fence.wide 9 P Q { a with defers:={ target:=.collected D,args:=#[] }::a.defers } W) :
  (Code.rangeFunc g #[p] assign body).wpIn Fence.wide 9 P Q a w:=by
 refine wpIn_rangeFunc fun fn hfn=>?_;obtain⟨B,hB⟩:∃ B,B=w.heap.size:=⟨_,rfl⟩;obtain⟨R,hR⟩:∃ R:LoopState->Option Code->Loop,R=fun st pe=>{ state:=st,pending:=pe,fn,tmps:=a.tmps,params:=#[p],assign,body,defers:=B }:=⟨_,rfl⟩;obtain⟨V,hV⟩:∃ V,V=(w.alloc (.deferred (some []))).alloc (.loop (R .ready none)):=⟨_,rfl⟩
 have sV:V.heap.size=B+2:=by rw [hV,hB];simp
 have bV:Below w.heap.size w V:=by rw [hV];exact ((Below.refl _ _).alloc (Nat.le_refl _) _).alloc (by simp) _
 have LV:AtLoop B (R .ready none) V:=by
  rw [hV,hB];refine⟨?_,(Below.heap_alloc _ _ _ (by simp)).trans (World.alloc_heap_new w _)⟩;have:=World.alloc_heap_new (w.alloc (.deferred (some []))) (.loop (R .ready none))
  rwa [World.size_alloc] at this
 have IV:I [] V:=by rw [hV];exact hI.alloc _ (hI.alloc _ h0)
 have put:∀ {s W} (r r':Loop),AtLoop B r W->I s W->I s (W.putObj (B+1) (.loop r')):=fun r r' h hs=>hI.putObj _ hs (by omega) h.loop rfl;have putx:∀ {c s W} (r r':Loop),AtLoop B r W->Ix c s W->Ix c s (W.putObj (B+1) (.loop r')):=fun r r' h hs=>(hIx _).putObj _ hs (by omega) h.loop rfl;have kp:∀ {W} (r r':Loop),AtLoop B r W->Kept Z W (W.putObj (B+1) (.loop r')):=fun r r' h=>keptK_b hz _ _ _ _ (by omega) h.loop rfl rfl
 have enter:(Instr.enterLoop fn a.tmps #[p] assign body Fence.wide.round).run P w=.ok (B+1,[{ target:=.collected B,args:=#[] }]) V:=by
  rw [hV,hR,hB];exact run_enterLoop_outer _ _ _ _ _
 refine⟨B+1,[{ target:=.collected B,args:=#[] }],V,{ target:=.fn (.func gf) lb,args:=#[.func (.yield (B+1)) #[] #[]] },V,gf,#[.func (.yield (B+1)) #[] #[]]++lb,V,enter,?_,fun _ _=>trivial,?_,fun _=>by decide,?_⟩
 ·simp only [resolve,hg];simp [go_sem]
 ·simp [invoke,go_sem,eg]
 refine (hseq (B+1) (fun s W=>I s W/\AtLoop B (R .ready none) W) (fun s W=>∃ c,Ix c s W/\AtLoop B (R .done (some c)) W) V bV
  (fun s A W row hs hg' hr=>⟨own_abides hI (by omega) hs.1 hg' hr,hs.2.grown (by omega) hg' hr⟩)
  (fun s A W row ⟨c,hc,hl⟩ hg' hr=>⟨c,own_abides (hIx c) (by omega) hc hg' hr,hl.grown (by omega) hg' hr⟩) ?_ ⟨IV,LV⟩).mono ?_
 ·rintro pre x W ⟨hi,hl⟩ hpre
  have hy:=run_yield (P:=P) (args:=#[.int .i64 (x:Int)]) hl.loop (by rw [hR];rfl);have hbusy:=hl.put (R .busy none);rw [hR] at hy;refine⟨fn,_,assign,body,hy,roundIn_of_wpIn hfn ?_⟩;have hbegin:=run_beginRound (P:=P) hl.loop (by rw [hR])
  have e1:({ R .ready none with state:=.busy }:Loop)=R .busy none:=by rw [hR]
  rw [e1] at hbegin;refine hassign _ x W _ ?_;refine⟨_,hbegin,?_⟩;refine wpIn_mono (hbody _ pre x _ (put _ _ hl hi) hpre) ?_
  have stop:∀ (jump:Option Code) (W3:World),KeepsOthers (W.putObj (B+1) (.loop (R .busy none))) W3->(Instr.endRound (B+1) jump).run P W3=.ok (.bool jump.isNone) (W3.putObj (B+1) (.loop (R (if jump.isNone then .ready else .done) jump))):=fun jump W3 hk=>by
   have:=run_endRound (P:=P) jump (hbusy.keeps hk).loop;rw [hR] at this ⊢;exact this
  intro ex a3 W3 hp
  cases ex with
  | normal=>exact⟨_,_,stop none W3 hp.1,.inl ⟨rfl,⟨put _ _ (hbusy.keeps hp.1) hp.2.2,(hbusy.keeps hp.1).put _⟩,((kp _ _ hl).trans hp.2.1).trans (kp _ _ (hbusy.keeps hp.1))⟩⟩
  | ret=>exact⟨_,_,stop (some .ret) W3 hp.1,.inr ⟨rfl,_,putx _ _ (hbusy.keeps hp.1) hp.2,(hbusy.keeps hp.1).put _⟩⟩
  | exit id=>exact⟨_,_,stop (some (.exit id)) W3 hp.1,.inr ⟨rfl,_,putx _ _ (hbusy.keeps hp.1) hp.2,(hbusy.keeps hp.1).put _⟩⟩
  | goto t=>exact⟨_,_,stop (some (.goto t)) W3 hp.1,.inr ⟨rfl,_,putx _ _ (hbusy.keeps hp.1) hp.2,(hbusy.keeps hp.1).put _⟩⟩
  | panic ch=>exact hp.elim
  | outgrown=>exact hp.elim
 ·rintro e W2 ⟨⟨v,rfl⟩,(⟨hi,hl⟩ | ⟨pre,hp,c,hi,hl⟩)⟩
  ·have q:=run_endLoop (P:=P) hl.loop (by rw [hR];simp)
   exact⟨none,_,q.trans (by rw [hR]),hdone B _ (by omega) (put _ _ hl hi) (hl.put _).mark⟩
  ·have q:=run_endLoop (P:=P) hl.loop (by rw [hR];simp)
   exact⟨some c,_,q.trans (by rw [hR]),hstop B c pre _ (by omega) hp (putx _ _ hl hi) (hl.put _).mark⟩
theorem wp_rangeP {P:Program} {g:Operand} {p:Tmp} {assign body:Code} {Q:Exit->Act->World->Prop} {a:Act} {w:World}
  {gf:Nat} {lb:Array Value} (hg:a.eval g=.func (.func gf) #[] lb) (eg:∀ args w,(callFunc gf args).run P w=.ok (.enter gf args) w)
  {Z:Nat->Prop} {L:List Nat} (hseq:SeqP P gf lb Z L w) (hz:∀ k,Z k->k < w.heap.size)
  (I:List Nat->World->Prop) (Ix:Code->List Nat->World->Prop) (hI:OwnFrom w.heap.size I) (hIx:∀ c,OwnFrom w.heap.size (Ix c)) (h0:I [] w) (a₁:Nat->Act)
  (hassign:∀ (l:Nat) (x:Nat) (W:World) (K:Act->World->Prop),K (a₁ x) W ->
   assign.wpIn (Fence.wide.inRound l) 7 P (Exit.then K (fun _ _ _=>False)) { tmps:=((#[p]:Array Tmp).zip #[Value.int .i64 (x:Int)]).foldl (fun t (p,v)=>t.setIfInBounds p v) a.tmps,defers:=[] } W)
  (hbody:∀ (l:Nat) (pre:List Nat) (x:Nat) (W:World),I pre W->pre++[x] <+: L->body.wpIn (Fence.wide.inRound l) 7 P (RoundPost Z I Ix (pre++[x]) W) (a₁ x) W)
  (hdone:∀ (D:Nat) (W:World),w.heap.size<=D->I L W->W.heap[D]?=some (.deferred (some []))->Q .normal { a with defers:={ target:=.collected D,args:=#[] }::a.defers } W)
  (hstop:∀ (D:Nat) (c:Code) (pre:List Nat) (W:World),w.heap.size<=D->pre <+: L->Ix c pre W->W.heap[D]?=some (.deferred (some []))->c.wp P Q { a with defers:={ target:=.collected D,args:=#[] }::a.defers } W) :
  (Code.rangeFunc g #[p] assign body).wp P Q a w :=
 wpIn_wide.1 (wpIn_rangeP hg eg hseq hz I Ix hI hIx h0 a₁ hassign hbody hdone (fun D c pre W h1 h2 h3 h4=>wpIn_wide.2 (hstop D c pre W h1 h2 h3 h4)))
structure Over (A B:World):Prop where
 size:A.heap.size<=B.heap.size
 cells:∀ (k:Nat) (o:Obj),A.heap[k]?=some o->o.isCells=true->B.heap[k]?=some o
theorem Over.of_grown {A B:World} {row:Option Nat} {n:Nat} (hg:A.grownBy B row) (hr:∀ r,row=some r->n<=r/\∃ o:Obj,A.heap[r]?=some o/\o.isCells=false):Over A B :=
 ⟨hg.size,fun k o hk ho=>(hg.block k (Array.getElem?_eq_some_iff.1 hk).1 (fun e=>by
  obtain⟨_,o',h1,h2⟩:=hr k e.symm
  rw [hk] at h1;cases h1;rw [ho] at h2;cases h2)).trans hk⟩
theorem Over.block {A B:World} (h:Over A B) {p:Addr} {v:Value} (hc:A.cell? p=some v):B.heap[p.block]?=A.heap[p.block]?:=by
 obtain⟨o,h1,h2⟩:=cells_of_cell hc;rw [h1,h.cells _ o h1 h2]
theorem Over.cell {A B:World} (h:Over A B) {p:Addr} {v:Value} (hc:A.cell? p=some v):B.cell? p=some v:=(World.cell?_of_block (h.block hc)).trans hc
theorem Over.lst {A B:World} (h:Over A B) {k:IntKind} {a:Option Addr} {zs:List Int} (hl:Lst k A a zs):Lst k B a zs:=by
 rcases hl with h0 | ⟨b,off,h1,h2,h3⟩
 ·exact Or.inl h0
 ·exact Or.inr ⟨b,off,h1,Nat.lt_of_lt_of_le h2 h.size,fun i hi=>h.cell (h3 i hi)⟩
theorem Over.new {A B:World} (h:Over A B) {k:IntKind} {n:Nat} {a:Option Addr} {zs:List Int} (hl:New k A n a zs):New k B n a zs:=by
 rcases hl with h0 | ⟨b,off,h1,hn,h2,h3⟩
 ·exact Or.inl h0
 ·exact Or.inr ⟨b,off,h1,hn,Nat.lt_of_lt_of_le h2 h.size,fun i hi=>⟨h.cell (h3 i hi).1,(World.frozen?_of_block (h.block (h3 i hi).1)).trans (h3 i hi).2⟩⟩
theorem Over.box {A B:World} (h:Over A B) {g:Nat} {s:Sl} {a:Ads} (hb:Box A g s a):Box B g s a :=
 ⟨Nat.lt_of_lt_of_le hb.lt h.size,h.cell hb.c0,h.cell hb.c1,h.cell hb.c2,h.cell hb.c3,h.cell hb.c4,h.cell hb.c5,fun o=>(World.frozen?_of_block (a:=⟨g,o,none⟩) (h.block (p:=⟨g,0,none⟩) hb.c0)).trans (hb.fz o)⟩
theorem Over.own {A B:World} (h:Over A B) {n:Nat} {s:Sl} {a:Ads} (ho:Own A n s a):Own B n s a:=⟨h.new ho.words,h.new ho.keys,h.new ho.vals,h.new ho.counts,ho.caps⟩
theorem Over.boxed {A B:World} (h:Over A B) {b:Nat} {t:TypeId} {v:Value} (hb:Boxed A b t v):Boxed B b t v:=h.cells b _ hb rfl
theorem Over.ownsRow {A B:World} (h:Over A B) {base:Nat} {e:TypeId} {size:Nat} {v:Value} {n:Nat} {xs:List Value} (ho:A.ownsRow base e size v n xs):B.ownsRow base e size v n xs:=by
 refine⟨ho.1,?_⟩
 rcases ho.2 with h2 | ⟨g,c,cur,hv,hg,hh,r⟩
 ·exact Or.inl h2
 ·exact Or.inr ⟨g,c,cur,hv,hg,h.cells g _ hh rfl,r⟩
end Go.Proofs.YtpeckljoannolaaGreatDoor
