/- Plain facts of packed arrays. -/
import Derived.Test.YtpeckljoannolaaGreatDoorP08Oc
import Derived.Test.YtpeckljoannolaaGreatDoorS5bOc
import Derived.Test.YtpeckljoannolaaGreatDoorP06Oc
import Derived.Test.YtpeckljoannolaaGreatDoorM23Oc
import Derived.Test.YtpeckljoannolaaGreatDoorTkOc
set_option linter.unusedVariables false
set_option linter.unusedSimpArgs false
namespace Go.Proofs.YtpeckljoannolaaGreatDoor
open Go.RowKit
namespace Gp
theorem cnt_nn (s:Sl) (a b:Int):0<=cnt s a b:=by unfold cnt;omega
theorem cnt_nat (s:Sl) (a b:Nat):cnt s a b=((Oc.places s.words a b).length:Int):=by unfold cnt;rw [Int.toNat_natCast,Int.toNat_natCast]
theorem cnt_le (s:Sl) {a b:Int} (h0:0<=a) (h:a<=b):cnt s a b<=b-a:=by
 unfold cnt
 have:=Oc.places_length_le s.words a.toNat b.toNat
 omega
theorem cnt_add (s:Sl) {a b d:Int} (h0:0<=a) (h1:a<=b) (h2:b<=d):cnt s a d=cnt s a b+cnt s b d:=by
 unfold cnt;rw [Oc.places_split s.words a.toNat b.toNat d.toNat (by omega) (by omega),List.length_append]
 omega
def Off (s t:Sl) (a b:Int):Prop:=∀ j:Nat,(j:Int) < a∨b<=j->Oc.isB t.words j=Oc.isB s.words j
theorem Off.cnt {s t:Sl} {a b:Int} (h:Off s t a b) {x y:Int} (hxy:y<=a∨b<=x) (h0:0<=x):cnt t x y=cnt s x y:=by
 unfold Gp.cnt;rw [places_congr (ws:=t.words) (ws':=s.words) (fun i h1 h2=>h i (by omega))]
theorem Off.over {s t:Sl} {a b:Int} (h:Off s t a b) {x y:Int} (h0:0<=x) (h1:x<=a) (h2:a<=b) (h3:b<=y):Gp.cnt t x y=Gp.cnt s x y-Gp.cnt s a b+Gp.cnt t a b:=by
 rw [cnt_add t h0 h1 (by omega),cnt_add t (a:=a) (b:=b) (by omega) h2 h3,cnt_add s h0 h1 (by omega),cnt_add s (a:=a) (b:=b) (by omega) h2 h3,h.cnt (Or.inl (Int.le_refl a)) h0,h.cnt (Or.inr (Int.le_refl b)) (by omega)]
 omega
theorem off_spread {s:Sl} (hs:s.May) (hl:s.laid < 18446744073709551616) (hk:s.keys.length<=65536) {a b:Nat} (ps:List (Int×Int)) (hn:a+ps.length<=b) (hb:b<=s.keys.length):Off s (Ly.spreadS s a b ps) a b:=by
 have L:=Ly.laid hs hl hk ps hn hb;intro j hj;exact (L.bits.out j (by omega)).1
theorem many_mono {c:Cf} {size h m n:Int} (hd:0<=c.den) (hh:0<=c.high size) (hmn:m<=n) (hn:c.manyB size h n=true):c.manyB size h m=true:=by
 unfold Cf.manyB at hn ⊢
 split at hn
 ·rename_i h0
  rw [if_pos h0];rw [decide_eq_true_eq] at hn ⊢;have:=Int.mul_le_mul_of_nonneg_right hmn hd
  omega
 ·rename_i h0
  rw [if_neg h0];rw [decide_eq_true_eq] at hn ⊢;have h1:=Int.mul_le_mul_of_nonneg_right hmn hh;have h2:=Int.mul_le_mul_of_nonneg_right h1 hd
  omega
theorem few_mono {c:Cf} {size h m n:Int} (hd:0<=c.den) (hh:0<=c.high size) (hmn:m<=n) (hm:c.fewB size h m=true):c.fewB size h n=true:=by
 unfold Cf.fewB at hm ⊢;rw [Bool.or_eq_true,decide_eq_true_eq] at hm ⊢
 rcases hm with hm | hm
 ·exact Or.inl hm
 ·right
  have h1:=Int.mul_le_mul_of_nonneg_right (show m+1<=n+1 by omega) hh;have h2:=Int.mul_le_mul_of_nonneg_right h1 hd
  omega
structure Cap (c:Cf) (n:Nat) (H:Nat):Prop where
 may:c.May
 is:c.Is n
 fit:Wn.Fit c.seg n H
 high:c.high n=H
theorem fits_cap {c:Cf} {z:Int} (hm:c.May) (hi:c.Is z):Sl.fitsB c.seg z=true:=by
 have SB:=hm.size_bd hi;have hs:=hm.sizes;obtain⟨x,hx,_⟩:=pow_of hs.segp;obtain⟨y,hy,_⟩:=pow_of hi.pow;have hxy:x<=y:=two_le (by rw [<-hx,<-hy];exact SB.1)
 have e:z=c.seg*2^(y-x):=by rw [hy,hx,<-Int.pow_add,show x+(y-x)=y from by omega]
 have h4:=hs.seg1;unfold Sl.fitsB
 simp only [Bool.and_eq_true,decide_eq_true_eq]
 refine⟨⟨⟨⟨⟨⟨hs.seg1,hs.seg2⟩,hs.segp⟩,by omega⟩,by omega⟩,?_⟩,?_⟩
 ·rw [e];exact Int.mul_emod_right _ _
 ·rw [e,Int.mul_ediv_cancel_left _ (by omega)];exact powB_two _
theorem cap_of {c:Cf} {n:Nat} (hm:c.May) (hi:c.Is n):∃ H,Cap c n H:=by
 obtain⟨H,f⟩:=Wn.fit_of (fits_cap hm hi);exact⟨H,hm,hi,f,f.hH⟩
namespace Cap
variable {c:Cf} {n:Nat} {H:Nat}
theorem den (K:Cap c n H):0<=c.den:=by have:=K.may.sizes.den1;omega
theorem nn (K:Cap c n H):0<=c.high n:=by rw [K.high];omega
theorem tall (K:Cap c n H):(c.high n).toNat=H:=by rw [K.high];simp
theorem wpos (K:Cap c n H) (h:Int):4<=c.wide h:=Wn.wd_pos K.fit.g1 h
theorem top (K:Cap c n H):c.wide H=n:=K.fit.top
theorem wide_up (c:Cf) {h g:Nat} (hg:h<=g):c.wide g=c.wide h*2^(g-h):=by
 unfold Cf.wide;rw [Int.toNat_natCast,Int.toNat_natCast,Int.mul_assoc,<-Int.pow_add,show h+(g-h)=g from by omega]
theorem wide_le (K:Cap c n H) {h:Nat} (hh:h<=H):c.wide h<=n:=K.fit.wd_le hh
theorem ok (K:Cap c n H) {h:Nat} (hh:h<=H) {m:Int} (h0:0<=m) (h1:m<=c.wide h):c.Ok n h m:=⟨K.may,K.is,by omega,by rw [K.high];omega,h0,h1⟩
theorem full (K:Cap c n H) {h:Nat} (hh:h<=H) {m:Int} (h0:0<=m) (h1:m<=c.wide h):c.fullV n h m=c.manyB n h m/\c.sparseV n h m=c.fewB n h m:=by
 have:=(Cf.ok_iff c n h m).2 (K.ok hh h0 h1);unfold Cf.fullV Cf.sparseV;rw [this];exact⟨rfl,rfl⟩
end Cap
def Right (c:Cf) (s:Sl) (h k:Nat):Prop:=rightB c s h k=true
theorem right_iff {c:Cf} {s:Sl} {h k:Nat}:Right c s h k↔c.manyB s.keys.length h (cnt s ((k:Int)*c.wide h) ((k:Int)*c.wide h+c.wide h))=true/\c.fewB s.keys.length h (cnt s ((k:Int)*c.wide h) ((k:Int)*c.wide h+c.wide h))=true:=by
 unfold Right rightB;rw [Bool.and_eq_true]
def Dense (c:Cf) (s:Sl) (H:Nat):Prop:=∀ h k:Nat,h<=H->(k:Int)*c.wide h+c.wide h<=s.keys.length->Right c s h k
theorem dense_iff {c:Cf} {s:Sl} {H:Nat} (K:Cap c s.keys.length H):denseB c s (tall c s+1)=true↔Dense c s H:=by
 unfold denseB rowB tall;rw [K.tall]
 simp only [List.all_eq_true,List.mem_range]
 have e:∀ h k:Nat,h<=H->(k < rowN c s h↔(k:Int)*c.wide h+c.wide h<=s.keys.length):=fun h k hh=>by
  have hw:=K.wpos h;unfold rowN;have h1:0<=(s.keys.length:Int)/c.wide h:=Int.ediv_nonneg (by omega) (by omega);have h2:=Int.le_ediv_iff_mul_le (a:=(k:Int)+1) (b:=(s.keys.length:Int)) (c:=c.wide h) (by omega);rw [Int.add_mul,Int.one_mul] at h2
  omega
 constructor
 ·intro h9 h k hh hk
  exact h9 h (by omega) k ((e h k hh).2 hk)
 ·intro h9 h hh k hk
  exact h9 h k (by omega) ((e h k (by omega)).1 hk)
theorem dense_turn {c:Cf} {s t:Sl} {H:Nat} (K:Cap c s.keys.length H) (hk:t.keys.length=s.keys.length) (D:Dense c s H) {g q:Nat} (hg:g<=H) (hq:(q:Int)*c.wide g+c.wide g<=s.keys.length)
  (off:Off s t ((q:Int)*c.wide g) ((q:Int)*c.wide g+c.wide g))
  (inn:∀ h k:Nat,h<=g->(q:Int)*c.wide g<=(k:Int)*c.wide h->(k:Int)*c.wide h+c.wide h<=(q:Int)*c.wide g+c.wide g->Right c t h k)
  (out:∀ h k:Nat,g < h->h<=H->(k:Int)*c.wide h<=(q:Int)*c.wide g->(q:Int)*c.wide g+c.wide g<=(k:Int)*c.wide h+c.wide h->Right c t h k):Dense c t H:=by
 intro h k hh hkn;rw [hk] at hkn
 have far:(k:Int)*c.wide h+c.wide h<=(q:Int)*c.wide g∨(q:Int)*c.wide g+c.wide g<=(k:Int)*c.wide h->Right c t h k:=fun hf=>by
  have:=right_iff.1 (D h k hh hkn);rw [right_iff,hk,off.cnt hf (Int.mul_nonneg (by omega) (by have:=K.wpos h;omega))];exact this
 have w1:=K.wpos h;have w2:=K.wpos g
 by_cases hle:h<=g
 ·have e:=Cap.wide_up c hle
  obtain⟨P,hP⟩:∃ P:Int,P=2^(g-h):=⟨_,rfl⟩
  have P1:1<=P:=by rw [hP];exact Fr.pow_pos _
  rw [<-hP] at e
  have e1:(q:Int)*c.wide g=(q*P)*c.wide h:=by rw [e,Int.mul_comm (c.wide h) P,Int.mul_assoc]
  have e2:(q:Int)*c.wide g+c.wide g=(q*P+P)*c.wide h:=by rw [Int.add_mul,<-e1,Int.mul_comm P,<-e]
  by_cases h1:(k:Int)+1<=q*P
  ·refine far (Or.inl ?_)
   have:=Int.mul_le_mul_of_nonneg_right h1 (show 0<=c.wide h by omega);rw [Int.add_mul,Int.one_mul] at this
   omega
  ·by_cases h2:q*P+P<=(k:Int)
   ·refine far (Or.inr ?_)
    have:=Int.mul_le_mul_of_nonneg_right h2 (show 0<=c.wide h by omega)
    omega
   ·refine inn h k hle ?_ ?_
    ·have:=Int.mul_le_mul_of_nonneg_right (show q*P<=(k:Int) by omega) (show 0<=c.wide h by omega)
     omega
    ·have:=Int.mul_le_mul_of_nonneg_right (show (k:Int)+1<=q*P+P by omega) (show 0<=c.wide h by omega)
     rw [Int.add_mul (k:Int),Int.one_mul] at this
     omega
 ·have e:=Cap.wide_up c (show g<=h by omega)
  obtain⟨P,hP⟩:∃ P:Int,P=2^(h-g):=⟨_,rfl⟩
  have P1:1<=P:=by rw [hP];exact Fr.pow_pos _
  rw [<-hP] at e
  have e1:(k:Int)*c.wide h=(k*P)*c.wide g:=by rw [e,Int.mul_comm (c.wide g) P,Int.mul_assoc]
  have e2:(k:Int)*c.wide h+c.wide h=(k*P+P)*c.wide g:=by rw [Int.add_mul,<-e1,Int.mul_comm P,<-e]
  have e3:(q:Int)*c.wide g+c.wide g=(q+1)*c.wide g:=by rw [Int.add_mul,Int.one_mul]
  by_cases h1:k*P+P<=(q:Int)
  ·refine far (Or.inl ?_)
   have:=Int.mul_le_mul_of_nonneg_right h1 (show 0<=c.wide g by omega)
   omega
  ·by_cases h2:(q:Int)+1<=k*P
   ·refine far (Or.inr ?_)
    have:=Int.mul_le_mul_of_nonneg_right h2 (show 0<=c.wide g by omega)
    omega
   ·refine out h k (by omega) hh ?_ ?_
    ·have:=Int.mul_le_mul_of_nonneg_right (show k*P<=(q:Int) by omega) (show 0<=c.wide g by omega)
     omega
    ·have:=Int.mul_le_mul_of_nonneg_right (show (q:Int)+1<=k*P+P by omega) (show 0<=c.wide g by omega)
     omega
theorem spread_inn {c:Cf} {s:Sl} {n H:Nat} (K:Cap c n H) (hs:s.May) (hl:s.laid < 18446744073709551616) (hn:s.keys.length=n) {g q:Nat} (hg:g<=H) {a b:Nat} (ha:(a:Int)=q*c.wide g) (hb:(b:Int)=q*c.wide g+c.wide g) (hbn:b<=n)
  (ps:List (Int×Int)) (hps:(ps.length:Int)<=c.wide g) (hfull:c.manyB n g ps.length=true) (hfew:c.fewB n g ps.length=true) :
  ∀ h k:Nat,h<=g->(a:Int)<=(k:Int)*c.wide h->(k:Int)*c.wide h+c.wide h<=b->Right c (Ly.spreadS s a b ps) h k:=by
 intro h k hh h1 h2;have L:=Ly.laid hs hl (by have:=hs.many;omega) (a:=a) (b:=b) ps (by omega) (by omega);rw [right_iff,L.keys,hn];obtain⟨m,hm⟩:∃ m:Int,m=ps.length:=⟨_,rfl⟩;rw [<-hm] at hfull hfew hps
 have m0:0<=m:=by omega
 have e:=Cap.wide_up c hh;have S:=Cf.shares (K.ok hg m0 hps) (h:=h) (by omega) (by omega);rw [show ((g:Int)-(h:Int)).toNat=g-h from by omega] at S;obtain⟨P,hP⟩:∃ P:Int,P=2^(g-h):=⟨_,rfl⟩
 have P1:1<=P:=by rw [hP];exact Fr.pow_pos _
 rw [<-hP] at e S;have w1:=K.wpos h;obtain⟨W,hW⟩:∃ W,W=c.wide h:=⟨_,rfl⟩;obtain⟨G,hG⟩:∃ G,G=c.wide g:=⟨_,rfl⟩;rw [<-hW] at h1 h2 e w1 ⊢;rw [<-hG] at e ha hb hps
 have eG:P*W=(b:Int)-a:=by rw [Int.mul_comm];omega
 have ea:(a:Int)=(q*P)*W:=by rw [ha,e,Int.mul_comm W P,Int.mul_assoc]
 obtain⟨j,hj⟩:∃ j:Int,j=(k:Int)-q*P:=⟨_,rfl⟩
 have ek:(k:Int)*W=a+j*W:=by rw [hj,Int.sub_mul,<-ea];omega
 have j0:0<=j:=by
  have:(q*P)*W<=(k:Int)*W:=by omega
  have:=Int.le_of_mul_le_mul_right this (by omega)
  omega
 have j1:j < P:=by
  have h3:((k:Int)+1)*W<=(q*P+P)*W:=by rw [Int.add_mul,Int.one_mul,Int.add_mul (q*P),<-ea,eG];omega
  have:=Int.le_of_mul_le_mul_right h3 (by omega)
  omega
 have hdiv:((b:Int)-a)/P=W:=by rw [<-eG];exact Int.mul_ediv_cancel_left _ (by omega)
 have hB:Sp.partB m a b P j=true:=by
  unfold Sp.partB Sp.mayB
  simp only [Bool.and_eq_true,decide_eq_true_eq]
  have:=hs.many;exact⟨⟨⟨⟨by omega,by omega⟩,by omega⟩,m0,by omega⟩,⟨by omega,by rw [<-eG];exact Int.mul_emod_right _ _⟩,j0,j1⟩
 have SC:=Sp.share_closed hB;rw [(Sp.part_yes hB).1,hdiv] at SC;have st:=Sp.cd_step (n:=m) (p:=P) (k:=j) (by omega) m0;obtain⟨r1,r2⟩:=ofs_rising (n:=ps.length) (a:=a) (b:=b) (by omega) (by have:=hs.many;omega)
 have e5:(j+1)*W=j*W+W:=by rw [Int.add_mul,Int.one_mul]
 have jw:0<=j*W:=Int.mul_nonneg j0 (by omega);obtain⟨x,hx⟩:∃ x:Nat,(x:Int)=(k:Int)*W:=⟨((k:Int)*W).toNat,by omega⟩;obtain⟨y,hy⟩:∃ y:Nat,(y:Int)=(k:Int)*W+W:=⟨((k:Int)*W+W).toNat,by omega⟩;have F:=filled_places hs r1 (p:=x) (q:=y) (by omega) (by omega) (r2.trans rfl) (by omega) (by omega)
 have C:cnt (Ly.spreadS s a b ps) ((k:Int)*W) ((k:Int)*W+W)=Sp.cd ((j+1)*m) P-Sp.cd (j*m) P:=by
  rw [<-hx,show (x:Int)+W=y from by omega,cnt_nat,<-SC];refine F.trans ?_;rw [hm,show (a:Int)+j*W=x from by omega,show (a:Int)+(j+1)*W=y from by omega]
 rw [C];have S1:=(K.full hg m0 (by omega)).1;have S2:=(K.full hg m0 (by omega)).2;have F1:=S.2.2.1 (by rw [S1];exact hfull);have F2:=S.2.2.2 (by rw [S2];exact hfew);unfold Cf.fullV at F1;unfold Cf.sparseV at F2;rw [Bool.and_eq_true] at F1 F2;exact⟨many_mono K.den K.nn st.2 F1.2,few_mono K.den K.nn st.1 F2.2⟩
end Gp
namespace Gp
theorem topF_spec (p:Nat->Bool):∀ n:Nat,(topF p n=-1∨∃ k:Nat,topF p n=k/\k < n/\p k=true)/\∀ h:Nat,topF p n < h->h < n->p h=false
 | 0=>⟨Or.inl rfl,fun h _ h2=>by omega⟩
 | n+1=>by
  obtain⟨h1,h2⟩:=topF_spec p n;unfold topF
  cases hp:p n
  ·simp only [Bool.false_eq_true,if_false]
   refine⟨h1.imp id fun ⟨k,a,b,d⟩=>⟨k,a,by omega,d⟩,fun h a b=>?_⟩
   by_cases e:h=n
   ·rw [e];exact hp
   ·exact h2 h a (by omega)
  ·simp only [if_true]
   exact⟨Or.inr ⟨n,rfl,by omega,hp⟩,fun h a b=>by omega⟩
structure Own (c:Cf) (s:Sl) (H:Nat):Prop where
 cap:Cap c s.keys.length H
 may:s.May
 seg:s.seg=c.seg
 most:many s<=c.most
 dense:Dense c s H
theorem own_of {c:Cf} {s:Sl} (h:chkE c s=0):∃ H,Own c s H:=by
 unfold chkE at h
 split at h
 ·rename_i hm
  split at h
  ·rename_i ho
   unfold ownB at ho
   simp only [Bool.and_eq_true,decide_eq_true_eq,beq_iff_eq] at ho
   obtain⟨⟨⟨⟨h1,h2⟩,h3⟩,h4⟩,h5⟩:=ho;obtain⟨H,K⟩:=cap_of ((Cf.may_iff c).1 hm) ((Cf.is_iff c _).1 h3);exact⟨H,K,may_iff.1 h1,h2,h4,(dense_iff K).1 h5⟩
  ·omega
 ·omega
theorem own_chk {c:Cf} {s:Sl} {H:Nat} (O:Own c s H):chkE c s=0:=by
 unfold chkE;rw [if_pos ((Cf.may_iff c).2 O.cap.may),if_pos];unfold ownB
 simp only [Bool.and_eq_true,decide_eq_true_eq,beq_iff_eq]
 exact⟨⟨⟨⟨may_iff.2 O.may,O.seg⟩,(Cf.is_iff c _).2 O.cap.is⟩,O.most⟩,(dense_iff O.cap).2 O.dense⟩
theorem all_len (s:Sl):((all s).length:Int)=many s:=by
 unfold all many Sl.of;rw [List.length_map,<-cnt_nat]
 rfl
theorem of_cnt (s:Sl) (a b:Nat):((s.of a b).length:Int)=cnt s a b:=by unfold Sl.of;rw [List.length_map,cnt_nat]
theorem place_in {s:Sl} {k:Nat} (h:(k:Int) < many s):place s k < s.keys.length/\Oc.isB s.words (place s k)=true:=by
 unfold many at h;rw [show (0:Int)=((0:Nat):Int) from rfl,cnt_nat] at h;have:=Oc.mem_places.1 (Oc.mem_get (xs:=Oc.places s.words 0 s.keys.length) (k:=k) (by omega));exact⟨this.1.2,this.2⟩
theorem home_in {s:Sl} {k:Int} (hs:s.May) (h0:0<=k) (h1:k<=many s):home s k < s.keys.length:=by
 unfold home
 split
 ·have:=hs.many;omega
 ·exact (place_in (by have:=cnt_nn s 0 s.keys.length;unfold many at h1 ⊢;unfold many at *;omega)).1
theorem many_le {s:Sl}:many s<=s.keys.length:=by
 have:=cnt_le s (a:=0) (b:=s.keys.length) (by omega) (by omega);unfold many
 omega
theorem many_room {c:Cf} {n H:Nat} (K:Cap c n H) {h:Nat} (hh:h<=H) {m:Int} (hm:c.manyB n h m=true):m<=c.wide h:=by
 have hd:=K.may.dens;have d1:=K.may.sizes.den1;have w4:=K.wpos h;have r1:=hd.rh1 K.may.sizes;have r2:=hd.rhlh;have r3:=hd.lhd;unfold Cf.manyB at hm
 split at hm
 ·rw [decide_eq_true_eq] at hm
  have h1:c.wide h*c.rh<=c.wide h*c.den:=Int.mul_le_mul_of_nonneg_left (by omega) (by omega);exact Int.le_of_mul_le_mul_right (a:=c.den) (by omega) (by omega)
 ·rename_i h0
  rw [decide_eq_true_eq] at hm;rw [K.high] at hm h0;have e1:c.lh*((H:Int)-h)+c.rh*h<=c.den*((H:Int)-h)+c.den*h:=Int.add_le_add (Int.mul_le_mul_of_nonneg_right (by omega) (by omega)) (Int.mul_le_mul_of_nonneg_right (by omega) (by omega))
  have e2:c.den*((H:Int)-h)+c.den*h=(H:Int)*c.den:=by rw [<-Int.mul_add,show (H:Int)-h+h=H from by omega,Int.mul_comm]
  have e3:=Int.mul_le_mul_of_nonneg_left e1 (show 0<=c.wide h by omega);rw [e2,<-Int.mul_assoc] at e3
  have e4:m*(H:Int)*c.den<=c.wide h*(H:Int)*c.den:=by omega
  have e5:=Int.le_of_mul_le_mul_right e4 (by omega);exact Int.le_of_mul_le_mul_right e5 (by omega)
theorem win_of {c:Cf} {n H:Nat} (K:Cap c n H) {h:Nat} (hh:h<=H) {a:Nat} (ha:a < n) :
  ∃ q:Nat,lo c h a=(q:Int)*c.wide h/\hi c h a=(q:Int)*c.wide h+c.wide h/\lo c h a<=a/\(a:Int) < hi c h a/\hi c h a<=n/\0<=lo c h a:=by
 have A:=K.fit.around hh (a:=(a:Int)) (by omega) (by omega);have w4:=K.wpos h;have e:c.wide h=Wn.wd c.seg h:=rfl;refine⟨((a:Int)/Wn.wd c.seg h).toNat,?_,?_,A.a1,A.a2,A.a3,A.a0⟩
 ·rw [Int.toNat_of_nonneg (Int.ediv_nonneg (by omega) (by omega))];rfl
 ·rw [Int.toNat_of_nonneg (Int.ediv_nonneg (by omega) (by omega))];rfl
theorem win_num {c:Cf} {h k a:Nat} (hw:4<=c.wide h) (h1:(k:Int)*c.wide h<=a) (h2:(a:Int) < (k:Int)*c.wide h+c.wide h):lo c h a=(k:Int)*c.wide h/\hi c h a=(k:Int)*c.wide h+c.wide h:=by
 have e:c.wide h=Wn.wd c.seg h:=rfl
 have:(a:Int)/Wn.wd c.seg h=k:=by
  rw [<-e];exact Int.le_antisymm (by have:=Int.ediv_lt_of_lt_mul (a:=(a:Int)) (b:=(k:Int)+1) (c:=c.wide h) (by omega) (by rw [Int.add_mul,Int.one_mul];omega);omega) ((Int.le_ediv_iff_mul_le (by omega)).2 h1)
 unfold hi Gp.lo Wn.hi Wn.lo;rw [this];exact⟨rfl,rfl⟩
theorem wide_own {c:Cf} {s:Sl} (hm:c.May) (hseg:s.seg=c.seg) (h64:In64 s.seg) (hl:s.laid < 18446744073709551616) {z:Int} (hz:c.Is z) (ps:List (Int×Int)) (hn:(ps.length:Int)<=c.most) (hle:(ps.length:Int)<=z)
  (hfull:c.manyB z (c.high z) ps.length=true) (hfew:c.fewB z (c.high z) ps.length=true) :
  (∃ H,Own c (Ly.wide s z ps) H)/\all (Ly.wide s z ps)=ps/\(Ly.wide s z ps).laid=(s.laid+ps.length) % 18446744073709551616/\((Ly.wide s z ps).keys.length:Int)=z:=by
 have SB:=hm.size_bd hz;have g4:=hm.sizes.seg1;obtain⟨n,rfl⟩:∃ n:Nat,z=n:=⟨z.toNat,by omega⟩;obtain⟨H,K⟩:=cap_of hm hz;have BA:=base_bare (s:=s) (m:=n) (by rw [hseg];exact fits_cap hm hz) h64 hl
 have hlb:(Ly.base s n).laid < 18446744073709551616:=by rw [BA.laid];exact hl
 have L:=Ly.laid BA.may hlb BA.short.keys (a:=0) (b:=n) ps (by omega) (by rw [BA.keys];exact Nat.le_refl _);have e:Ly.wide s n ps=Ly.spreadS (Ly.base s n) ((0:Nat):Int) n ps:=rfl;rw [e]
 have hk:(Ly.spreadS (Ly.base s n) ((0:Nat):Int) n ps).keys.length=n:=by rw [L.keys,BA.keys]
 have ha:all (Ly.spreadS (Ly.base s n) ((0:Nat):Int) n ps)=ps:=by unfold all;rw [hk];exact L.inn
 have hT:=K.top;rw [K.high] at hfull hfew;have I:=spread_inn K BA.may hlb BA.keys (g:=H) (q:=0) (Nat.le_refl _) (a:=0) (b:=n) (by simp) (by rw [hT];simp) (Nat.le_refl _) ps (by rw [hT];exact hle) hfull hfew;refine⟨⟨H,?_,may_iff.1 L.may,?_,?_,?_⟩,ha,?_,?_⟩
 ·rw [hk];exact K
 ·exact (L.bits.seg.trans BA.seg).trans hseg
 ·rw [<-all_len,ha];exact hn
 ·intro h k hh hkn
  rw [hk] at hkn;exact I h k hh (by have:=Int.mul_nonneg (show (0:Int)<=k by omega) (show 0<=c.wide h by have:=K.wpos h;omega);omega) hkn
 ·rw [L.laid,BA.laid]
 ·rw [hk]
theorem takes_right {c:Cf} (hm:c.May) {m:Int} (h0:0<=m) (h1:m<=c.most):c.Is (c.takes m)/\m<=c.takes m/\c.manyB (c.takes m) (c.high (c.takes m)) m=true/\c.fewB (c.takes m) (c.high (c.takes m)) m=true:=by
 obtain⟨hi,K,hf⟩:=Cf.cap_is hm h0 h1;have hs:=hm.sizes;have hd:=hm.dens;have SB:=hm.size_bd hi;have W:=Cf.wide_of hs.segp hi.pow SB.1;have n1:=K.n1;rw [W] at n1;have hf2:=hf;unfold Cf.fullV at hf2;rw [Bool.and_eq_true] at hf2;refine⟨hi,n1,hf2.2,?_⟩
 by_cases hne:c.takes m=c.least
 ·unfold Cf.fewB
  rw [hne]
  simp
 ·have hsv:c.sparseV (c.takes m) (c.high (c.takes m)) m=true:=by
   rw [Cf.sparse_all K hne,decide_eq_true_eq];have g1:=hs.seg1;have g2:=hs.least1;have d1:=hs.den1;have r1:=hd.rhd;have r2:=hd.rld
   rcases Cf.dbl_half 20 (m*c.den) c.rh c.least with e | ⟨t,e,h2,h3⟩ | e
   ·exact absurd e hne
   ·have ht:c.takes m=2*t:=e
    rw [ht];have a1:t*(4*c.rl)<=t*c.rh:=Int.mul_le_mul_of_nonneg_left (by omega) (by omega);have a2:t*(4*c.rl)=4*(t*c.rl):=Int.mul_left_comm _ _ _;have a5:2*t*c.rl=2*(t*c.rl):=Int.mul_assoc _ _ _;have a6:=Int.mul_nonneg h0 (show 0<=c.den by omega);have a3:t*c.rh=c.rh*t:=Int.mul_comm _ _
    have a4:(m+1)*c.den=m*c.den+c.den:=by rw [Int.add_mul,Int.one_mul]
    omega
   ·omega
  unfold Cf.sparseV at hsv;rw [Bool.and_eq_true] at hsv;exact hsv.2
theorem halve_right {c:Cf} (hm:c.May) {m:Int} (h0:0<=m):∀ (f:Nat) (z:Int),c.Is z->m<=z->c.manyB z (c.high z) m=true->z<=c.least*2^f ->
  c.Is (halve c m f z)/\m<=halve c m f z/\c.manyB (halve c m f z) (c.high (halve c m f z)) m=true/\c.fewB (halve c m f z) (c.high (halve c m f z)) m=true:=by
 intro f
 induction f with
 | zero =>
  intro z hi hz hf hle;rw [Int.pow_zero,Int.mul_one] at hle;have:=hi.lo
  have e:z=c.least:=by omega
  refine⟨hi,hz,hf,?_⟩
  show c.fewB z (c.high z) m=true
  unfold Cf.fewB;rw [e]
  simp
 | succ f ih =>
  intro z hi hz hf hle;unfold halve
  cases hw:c.fewB z (c.high z) m
  ·simp only [Bool.false_eq_true,if_false]
   have K:=hm.all_ok hi h0 hz;have hok:=(Cf.ok_iff _ _ _ _).2 K
   have hsv:c.sparseV z (c.high z) m=false:=by unfold Cf.sparseV;rw [hok,hw];rfl
   obtain⟨t1,t2,t3⟩:=Cf.turns_down K hsv;have t3':=t3;unfold Cf.fullV at t3';rw [Bool.and_eq_true] at t3';have K2:=(Cf.ok_iff _ _ _ _).1 t3'.1;have SB:=hm.size_bd hi;have g4:=hm.sizes.seg1;have SB2:=hm.size_bd K2.is;have HT:=Cf.high_twice hm.sizes.segp K2.is.pow SB2.1
   have hne:¬ z=c.least:=by
    intro e;rw [Cf.sparse_least K e] at hsv
    cases hsv
   have e2:2*(z/2)=z:=(pow_half hi.pow (by omega)).2;rw [e2] at HT
   have e3:c.high (z/2)=c.high z-1:=by omega
   have hW:=Cf.wide_of hm.sizes.segp K2.is.pow SB2.1;have n1:=K2.n1;rw [<-e3,hW] at n1;refine ih (z/2) K2.is n1 (by rw [e3];exact t3'.2) ?_;rw [Int.pow_succ,Int.mul_comm (2^f) 2,<-Int.mul_assoc,Int.mul_comm c.least 2,Int.mul_assoc] at hle
   omega
  ·simp only [if_true]
   exact⟨hi,hz,hf,hw⟩
end Gp
namespace Gp
structure Mid (c:Cf) (s t:Sl) (a b:Nat) (ps:List (Int×Int)):Prop where
 keys:t.keys.length=s.keys.length
 all:all t=s.of 0 a++ps++s.of b s.keys.length
 laid:t.laid=(s.laid+ps.length) % 18446744073709551616
 cnt:cnt t a b=ps.length
theorem mid_of {c:Cf} {s:Sl} (hs:s.May) (hl:s.laid < 18446744073709551616) {a b:Nat} (ps:List (Int×Int)) (hn:a+ps.length<=b) (hb:b<=s.keys.length):Mid c s (Ly.spreadS s a b ps) a b ps:=by
 have L:=Ly.laid hs hl (by have:=hs.many;omega) ps hn hb;refine⟨L.keys,?_,L.laid,?_⟩
 ·unfold Gp.all
  rw [L.keys];exact Ly.of_whole L (by omega) hb
 ·rw [<-of_cnt,L.inn]
theorem put_mid {c:Cf} {s:Sl} {H:Nat} (O:Own c s H) (hl:s.laid < 18446744073709551616) {x:Nat} (hx:x < s.keys.length) {g:Nat} (hg:g<=H) (hfull:∀ h:Nat,g<=h->h<=H->c.manyB s.keys.length h (cnt s (lo c h x) (hi c h x)+1)=true) (hne:many s < c.most)
  {a b:Nat} (ha:(a:Int)=lo c g x) (hb:(b:Int)=hi c g x) (ps:List (Int×Int)) (hps:(ps.length:Int)=cnt s a b+1):Own c (Ly.spreadS s a b ps) H/\Mid c s (Ly.spreadS s a b ps) a b ps:=by
 have K:=O.cap;obtain⟨q,w1,w2,w3,w4,w5,w6⟩:=win_of K hg hx;have hr:=many_room K hg (hfull g (Nat.le_refl _) hg);rw [<-ha,<-hb] at hr
 have hab:(b:Int)=a+c.wide g:=by omega
 have hfit:a+ps.length<=b:=by omega
 have hbn:b<=s.keys.length:=by omega
 have M:=mid_of (c:=c) O.may hl ps hfit hbn;have off:=off_spread O.may hl (by have:=O.may.many;omega) ps hfit hbn;have D:=O.dense;have hdq:=right_iff.1 (D g q hg (by omega));rw [<-w2,<-w1,<-ha,<-hb] at hdq;have hF:=hfull g (Nat.le_refl _) hg;rw [<-ha,<-hb,<-hps] at hF;have hW:=few_mono K.den K.nn (n:=(ps.length:Int)) (by omega) hdq.2;have I:=spread_inn K O.may hl rfl hg (q:=q) (a:=a) (b:=b) (by omega) (by omega) hbn ps (by omega) hF hW;refine⟨⟨by rw [M.keys];exact K,?_,?_,?_,?_⟩,M⟩
 ·exact may_iff.1 (Ly.laid O.may hl (by have:=O.may.many;omega) ps hfit hbn).may
 ·exact ((Ly.laid O.may hl (by have:=O.may.many;omega) ps hfit hbn).bits.seg).trans O.seg
 ·have e:=off.over (x:=0) (y:=s.keys.length) (by omega) (by omega) (by omega) (by omega)
  unfold many at hne ⊢;rw [M.keys,e,M.cnt]
  omega
 ·refine dense_turn K M.keys D hg (q:=q) (by omega) (by rw [<-w2,<-w1,<-ha,<-hb];exact off) (fun h k h1 h2 h3=>I h k h1 (by omega) (by omega)) (fun h k h1 h2 h3 h4=>?_)
  have ww:=K.wpos h;obtain⟨e1,e2⟩:=win_num (c:=c) (h:=h) (k:=k) (a:=x) ww (by omega) (by omega)
  have hin:(k:Int)*c.wide h+c.wide h<=s.keys.length:=by
   obtain⟨_,_,_,_,_,v5,_⟩:=win_of K h2 hx
   omega
  have e:=off.over (x:=(k:Int)*c.wide h) (y:=(k:Int)*c.wide h+c.wide h) (Int.mul_nonneg (by omega) (by omega)) (by omega) (by omega) (by omega);have R:=right_iff.1 (D h k h2 hin);rw [right_iff,M.keys,e,M.cnt];have hF2:=hfull h (by omega) h2;rw [e1,e2] at hF2;refine⟨?_,few_mono K.den K.nn (by omega) R.2⟩;rw [show cnt s ((k:Int)*c.wide h) ((k:Int)*c.wide h+c.wide h)-cnt s a b+ps.length=cnt s ((k:Int)*c.wide h) ((k:Int)*c.wide h+c.wide h)+1 from by omega];exact hF2
end Gp
namespace Gp
theorem place_cnt {s:Sl} {k:Nat} (h:(k:Int) < many s):cnt s 0 (place s k)=k:=by
 have P:=place_in h;unfold many at h;rw [show (0:Int)=((0:Nat):Int) from rfl,cnt_nat] at h ⊢;obtain⟨x,hx⟩:∃ x,x=place s k:=⟨_,rfl⟩;rw [<-hx] at P ⊢
 have hk:(Oc.places s.words 0 s.keys.length)[k]?=some x:=by
  have hlt:k < (Oc.places s.words 0 s.keys.length).length:=by omega
  rw [List.getElem?_eq_getElem hlt,hx];unfold place;rw [List.getD_eq_getElem?_getD,List.getElem?_eq_getElem hlt]
  rfl
 have e:=places_at s.words (a:=0) (b:=s.keys.length) (s:=x) (Nat.zero_le _) P.1;rw [P.2,if_pos rfl] at e
 have hm:(Oc.places s.words 0 s.keys.length)[(Oc.places s.words 0 x).length]?=some x:=by
  rw [e,List.getElem?_append_right (Nat.le_refl _),Nat.sub_self]
  rfl
 have so:=places_sorted s.words 0 s.keys.length;rw [List.pairwise_iff_getElem] at so;obtain⟨i1,j1⟩:=List.getElem?_eq_some_iff.1 hk;obtain⟨i2,j2⟩:=List.getElem?_eq_some_iff.1 hm
 rcases Nat.lt_trichotomy k (Oc.places s.words 0 x).length with h1 | h1 | h1
 ·have:=so k _ i1 i2 h1;omega
 ·omega
 ·have:=so _ k i2 i1 h1;omega
theorem cnt_one {s:Sl} {x:Nat} (h:Oc.isB s.words x=true):cnt s x ((x:Int)+1)=1:=by
 rw [show (x:Int)+1=((x+1:Nat):Int) from by omega,cnt_nat];have:=places_at s.words (a:=x) (b:=x+1) (s:=x) (Nat.le_refl _) (by omega);rw [h,if_pos rfl,Oc.places_self,Oc.places_self] at this;rw [this]
 rfl
theorem home_cnt {s:Sl} {k:Int} (hs:s.May) (h0:0<=k) (h1:k<=many s) {a b:Int} (a0:0<=a) (ha:a<=home s k) (hb:(home s k:Int) < b) (hbn:b<=s.keys.length):cnt s 0 a<=k/\k<=cnt s 0 b:=by
 unfold home at ha hb
 by_cases hz:many s=0
 ·have m1:=cnt_add s (a:=0) (b:=a) (d:=s.keys.length) (by omega) (by omega) (by omega)
  have m2:=cnt_nn s a s.keys.length;have m3:=cnt_nn s 0 b;have m4:=cnt_nn s 0 a;unfold many at hz h1
  omega
 ·rw [if_neg hz] at ha hb
  have hlt:(((k-1).toNat:Nat):Int) < many s:=by have:0<=many s:=cnt_nn _ _ _;omega
  obtain⟨p1,p2⟩:=place_in hlt;have pc:=place_cnt hlt;obtain⟨x,hx⟩:∃ x,x=place s (k-1).toNat:=⟨_,rfl⟩;rw [<-hx] at ha hb p1 p2 pc;have c1:=cnt_add s (a:=0) (b:=a) (d:=x) (by omega) (by omega) (by omega);have c2:=cnt_nn s a x;have c3:=cnt_add s (a:=0) (b:=x) (d:=b) (by omega) (by omega) (by omega);have c4:=cnt_add s (a:=x) (b:=(x:Int)+1) (d:=b) (by omega) (by omega) (by omega);have c5:=cnt_nn s ((x:Int)+1) b;have c6:=cnt_one p2
  omega
theorem among_mid (A B C:List (Int×Int)) (p:Int×Int) {j:Nat} (h:j<=B.length):A++Ly.among B j p++C=Ly.among (A++B++C) (A.length+j) p:=by
 unfold Ly.among;rw [List.append_assoc A B C,List.take_length_add_append,List.drop_length_add_append,List.take_append_of_le_length h,List.drop_append_of_le_length h]
 simp
theorem over_spec {c:Cf} {s:Sl} {H:Nat} (K:Cap c s.keys.length H) (x:Nat):∃ g:Nat,over c s x=(g:Int)-1/\g<=H+1/\∀ h:Nat,g<=h->h<=H->c.manyB s.keys.length h (cnt s (lo c h x) (hi c h x)+1)=true:=by
 obtain⟨h1,h2⟩:=topF_spec (overP c s x) (tall c s+1)
 have ht:tall c s=H:=by unfold tall;exact K.tall
 rw [ht] at h1 h2
 have f:∀ h:Nat,over c s x < h->h<=H->c.manyB s.keys.length h (cnt s (lo c h x) (hi c h x)+1)=true:=fun h a b=>by
  have:=h2 h (by unfold over at a;rw [ht] at a;exact a) (by omega);unfold overP at this
  simpa using this
 rcases h1 with e | ⟨k,e,k1,_⟩
 ·exact⟨0,by unfold over;rw [ht,e];rfl,by omega,fun h _ b=>f h (by unfold over;rw [ht,e];omega) b⟩
 ·exact⟨k+1,by unfold over;rw [ht,e];omega,by omega,fun h a b=>f h (by unfold over;rw [ht,e];omega) b⟩
structure Put (c:Cf) (s:Sl) (k:Int) (p:Int×Int) (H:Nat):Prop where
 got:(∃ H',Own c (addS c s k p) H')/\all (addS c s k p)=Ly.among (all s) k.toNat p
 cost:(over c s (home s k)=c.high s.keys.length/\(addS c s k p).laid=(s.laid+(many s+1).toNat) % 18446744073709551616/\((addS c s k p).keys.length:Int)=c.takes (many s+1)) ∨
  ∃ g:Nat,g<=H/\over c s (home s k)=(g:Int)-1/\(addS c s k p).keys.length=s.keys.length/\(addS c s k p).laid=(s.laid+(cnt s (lo c g (home s k)) (hi c g (home s k))+1).toNat) % 18446744073709551616/\cnt (addS c s k p) (lo c g (home s k)) (hi c g (home s k))=cnt s (lo c g (home s k)) (hi c g (home s k))+1
theorem put_all {c:Cf} {s:Sl} {H:Nat} (O:Own c s H) (hl:s.laid < 18446744073709551616) (h64:In64 s.seg) {k:Int} (h0:0<=k) (h1:k<=many s) (hne:¬ many s=c.most) (p:Int×Int):Put c s k p H:=by
 have K:=O.cap;have hx:=home_in O.may h0 h1;obtain⟨g,e1,e2,e3⟩:=over_spec K (home s k)
 have hlt:many s < c.most:=by have:=O.most;omega
 have al:=all_len s;have mn:0<=many s:=cnt_nn _ _ _;have aml:=Ly.among_length (all s) k.toNat p
 by_cases hg:g=H+1
 ·have eH:over c s (home s k)=c.high s.keys.length:=by rw [e1,K.high];omega
  have ea:addS c s k p=Ly.wide s (c.takes (many s+1)) (Ly.among (all s) k.toNat p):=by unfold addS;rw [if_pos eH]
  obtain⟨t1,t2,t3,t4⟩:=takes_right K.may (m:=many s+1) (by omega) (by omega)
  have e9:((Ly.among (all s) k.toNat p).length:Int)=many s+1:=by omega
  have W:=wide_own K.may O.seg h64 hl t1 (Ly.among (all s) k.toNat p) (by omega) (by omega) (by rw [e9];exact t3) (by rw [e9];exact t4);refine⟨?_,Or.inl ⟨eH,?_,?_⟩⟩
  ·rw [ea];exact⟨W.1,W.2.1⟩
  ·rw [ea,W.2.2.1];congr 2;omega
  ·rw [ea];exact W.2.2.2
 ·have hgH:g<=H:=by omega
  have nH:¬ over c s (home s k)=c.high s.keys.length:=by rw [e1,K.high];omega
  obtain⟨q,w1,w2,w3,w4,w5,w6⟩:=win_of K hgH hx;obtain⟨a,ha⟩:∃ a:Nat,(a:Int)=lo c g (home s k):=⟨(lo c g (home s k)).toNat,by omega⟩;obtain⟨b,hb⟩:∃ b:Nat,(b:Int)=hi c g (home s k):=⟨(hi c g (home s k)).toNat,by omega⟩;obtain⟨q1,q2⟩:=home_cnt O.may h0 h1 w6 w3 w4 w5;rw [<-ha] at q1;rw [<-hb] at q2
  have ea:addS c s k p=Ly.spreadS s a b (Ly.among (s.of a b) (k-cnt s 0 a).toNat p):=by
   unfold addS;rw [if_neg nH,e1,show (g:Int)-1+1=g from by omega,<-ha,<-hb,Int.toNat_natCast,Int.toNat_natCast]
  have hlen:((Ly.among (s.of a b) (k-cnt s 0 a).toNat p).length:Int)=cnt s a b+1:=by
   rw [Ly.among_length];have:=of_cnt s a b
   omega
  obtain⟨W,M⟩:=put_mid O hl hx hgH e3 hlt ha hb _ hlen;rw [<-ea] at W M;refine⟨⟨⟨H,W⟩,?_⟩,Or.inr ⟨g,hgH,e1,M.keys,?_,?_⟩⟩
  ·have hsp:=cnt_add s (a:=0) (b:=(a:Int)) (d:=b) (by omega) (by omega) (by omega)
   have o1:=of_cnt s 0 a;have o2:=of_cnt s a b
   have hj:(k-cnt s 0 a).toNat<=(s.of a b).length:=by omega
   rw [M.all,among_mid _ _ _ p hj,<-Ly.of_whole_self s (by omega) (by omega)];unfold all
   congr 1
   have o3:((s.of 0 a).length:Int)=cnt s 0 a:=o1
   omega
  ·rw [M.laid,<-ha,<-hb]
   congr 2
   omega
  ·rw [<-ha,<-hb,M.cnt];exact hlen
theorem put_ok {c:Cf} {s:Sl} {k:Int} (h:putE c s k=0):chkE c s=0/\0<=k/\k<=many s/\¬ many s=c.most:=by
 unfold putE at h
 split at h
 ·rename_i hc
  split at h
  ·rename_i hk
   split at h
   ·omega
   ·rename_i hm
    exact⟨hc,hk.1,hk.2,hm⟩
  ·omega
 ·rename_i hc;exact absurd h hc
theorem put_s {c:Cf} {s:Sl} {k:Int} {p:Int×Int} (h:putE c s k=0):putS c s k p=addS c s k p:=by unfold putS;rw [if_pos h]
theorem put_none {c:Cf} {s:Sl} {k:Int} {p:Int×Int} (h:¬ putE c s k=0):putS c s k p=Sl.none:=by unfold putS;rw [if_neg h]
end Gp
namespace Gp
structure Clr (s:Sl) (x k:Nat):Prop where
 may:(s.emptied x).May
 keys:(s.emptied x).keys.length=s.keys.length
 off:Off s (s.emptied x) x ((x:Int)+1)
 none:cnt (s.emptied x) x ((x:Int)+1)=0
 one:cnt s x ((x:Int)+1)=1
 all:Gp.all (s.emptied x)=(Gp.all s).take k++(Gp.all s).drop (k+1)
theorem clr_of {s:Sl} (hs:s.May) {k:Nat} (h:(k:Int) < many s):Clr s (place s k) k:=by
 obtain⟨p1,p2⟩:=place_in h;have pc:=place_cnt h;obtain⟨x,hx⟩:∃ x,x=place s k:=⟨_,rfl⟩;rw [<-hx] at p1 p2 pc ⊢;have hk:=emptied_keys s x;have hb:=emptied_isB hs p1;refine⟨hs.emptied p1,hk,fun j hj=>?_,?_,cnt_one p2,?_⟩
 ·rw [hb,if_neg (by omega)]
 ·rw [show (x:Int)+1=((x+1:Nat):Int) from by omega,cnt_nat]
  have:=places_at (s.emptied x).words (a:=x) (b:=x+1) (s:=x) (Nat.le_refl _) (by omega);rw [hb,if_pos rfl,Oc.places_self,Oc.places_self] at this;rw [this]
  rfl
 ·have e1:Gp.all s=s.of 0 x++([s.pairAt x]++s.of (x+1) s.keys.length):=by
   unfold Gp.all Sl.of;rw [places_at s.words (a:=0) (b:=s.keys.length) (s:=x) (Nat.zero_le _) p1,p2,if_pos rfl,List.map_append,List.map_append]
   rfl
  have e2:Gp.all (s.emptied x)=s.of 0 x++s.of (x+1) s.keys.length:=by
   unfold Gp.all Sl.of;rw [hk,places_at (s.emptied x).words (a:=0) (b:=s.keys.length) (s:=x) (Nat.zero_le _) p1,hb,if_pos rfl,if_neg (by decide),List.nil_append,List.map_append]
   congr 1
   ·rw [places_congr (ws:=(s.emptied x).words) (ws':=s.words) (fun i h1 h2=>by rw [hb,if_neg (by omega)])]
    exact List.map_congr_left fun i hi=>emptied_pair (by have:=(Oc.mem_places.1 hi).1;omega)
   ·rw [places_congr (ws:=(s.emptied x).words) (ws':=s.words) (fun i h1 h2=>by rw [hb,if_neg (by omega)])]
    exact List.map_congr_left fun i hi=>emptied_pair (by have:=(Oc.mem_places.1 hi).1;omega)
  have e3:(s.of 0 x).length=k:=by have:=of_cnt s 0 x;have e:((0:Nat):Int)=0:=rfl;rw [e] at this;omega
  rw [e2,e1,<-e3,List.take_left']
  ·congr 1
   rw [<-List.append_assoc,List.drop_left']
   simp
  ·rfl
theorem under_spec {c:Cf} {t:Sl} {H:Nat} (K:Cap c t.keys.length H) (x:Nat):∃ g:Nat,under c t x=(g:Int)-1/\g<=H+1/\(g=0∨underP c t x (g-1)=true)/\∀ h:Nat,g<=h->h<=H->c.fewB t.keys.length h (cnt t (lo c h x) (hi c h x))=true:=by
 obtain⟨h1,h2⟩:=topF_spec (underP c t x) (tall c t+1)
 have ht:tall c t=H:=by unfold tall;exact K.tall
 rw [ht] at h1 h2
 have f:∀ h:Nat,under c t x < h->h<=H->c.fewB t.keys.length h (cnt t (lo c h x) (hi c h x))=true:=fun h a b=>by
  have:=h2 h (by unfold under at a;rw [ht] at a;exact a) (by omega);unfold underP at this
  simpa using this
 rcases h1 with e | ⟨k,e,k1,k2⟩
 ·exact⟨0,by unfold under;rw [ht,e];rfl,by omega,Or.inl rfl,fun h _ b=>f h (by unfold under;rw [ht,e];omega) b⟩
 ·exact⟨k+1,by unfold under;rw [ht,e];omega,by omega,Or.inr k2,fun h a b=>f h (by unfold under;rw [ht,e];omega) b⟩
structure Gone (c:Cf) (s:Sl) (x k H:Nat):Prop where
 own:∃ H',Own c (goneS c (s.emptied x) x) H'
 all:Gp.all (goneS c (s.emptied x) x)=(Gp.all s).take k++(Gp.all s).drop (k+1)
 cost:(under c (s.emptied x) x < 0/\goneS c (s.emptied x) x=s.emptied x) ∨
  (under c (s.emptied x) x=c.high s.keys.length/\(goneS c (s.emptied x) x).laid=(s.laid+(many s-1).toNat) % 18446744073709551616/\2*((goneS c (s.emptied x) x).keys.length:Int)<=s.keys.length) ∨
  ∃ g:Nat,0 < g/\g<=H/\under c (s.emptied x) x=(g:Int)-1/\(goneS c (s.emptied x) x).keys.length=s.keys.length/\(goneS c (s.emptied x) x).laid=(s.laid+(cnt (s.emptied x) (lo c g x) (hi c g x)).toNat) % 18446744073709551616/\cnt (goneS c (s.emptied x) x) (lo c g x) (hi c g x)=cnt (s.emptied x) (lo c g x) (hi c g x)
theorem halve_le (c:Cf) (m:Int):∀ (f:Nat) (z:Int),0<=z->halve c m f z<=z
 | 0,z,_=>Int.le_refl _
 | f+1,z,h=>by
  unfold halve
  split
  ·exact Int.le_refl _
  ·have:=halve_le c m f (z/2) (by omega);omega
theorem take_all {c:Cf} {s:Sl} {H:Nat} (O:Own c s H) (hl:s.laid < 18446744073709551616) (h64:In64 s.seg) {k:Nat} (hk:(k:Int) < many s):Gone c s (place s k) k H:=by
 have K:=O.cap;obtain⟨p1,p2⟩:=place_in hk;have C:=clr_of O.may hk;obtain⟨x,hx⟩:∃ x,x=place s k:=⟨_,rfl⟩;rw [<-hx] at p1 p2 C ⊢;clear hx;have lt:(s.emptied x).laid=s.laid:=rfl;have sg:(s.emptied x).seg=s.seg:=rfl;obtain⟨t,ht⟩:∃ t,t=s.emptied x:=⟨_,rfl⟩
 have KT:Cap c t.keys.length H:=by rw [ht,C.keys];exact K
 obtain⟨g,e1,e2,e4,e3⟩:=under_spec KT x;rw [ht] at e1 e3 e4;rw [C.keys] at e3
 have mt:many (s.emptied x)=many s-1:=by
  have:=C.off.over (x:=0) (y:=s.keys.length) (by omega) (by omega) (by omega) (by omega);unfold many;rw [C.keys,this,C.none,C.one]
  omega
 -- what is left of a window around the slot
 have less:∀ y z:Int,0<=y->y<=x->(x:Int) < z->cnt (s.emptied x) y z=cnt s y z-1:=fun y z h1 h2 h3=>by
  rw [C.off.over h1 h2 (by omega) (by omega),C.none,C.one];omega
 have D:=O.dense
 have fullx:∀ h:Nat,h<=H->c.manyB s.keys.length h (cnt (s.emptied x) (lo c h x) (hi c h x))=true:=fun h hh=>by
  obtain⟨q,w1,w2,w3,w4,w5,w6⟩:=win_of K hh p1;have R:=right_iff.1 (D h q hh (by omega));rw [<-w2,<-w1] at R;exact many_mono K.den K.nn (by rw [less _ _ w6 w3 w4];omega) R.1
 by_cases h0:g=0
 ·subst h0
  have eu:under c (s.emptied x) x < 0:=by rw [e1];omega
  have eg:goneS c (s.emptied x) x=s.emptied x:=by unfold goneS;rw [if_pos eu]
  rw [show Gone c s x k H↔Gone c s x k H from Iff.rfl];refine⟨?_,?_,Or.inl ⟨eu,eg⟩⟩
  ·rw [eg]
   refine⟨H,⟨by rw [C.keys];exact K,C.may,O.seg,by rw [mt];have:=O.most;omega,?_⟩⟩;obtain⟨q,w1,w2,w3,w4,w5,w6⟩:=win_of K (Nat.zero_le H) p1;have off:Off s (s.emptied x) (lo c (0:Nat) x) (hi c (0:Nat) x):=fun j hj=>C.off j (by omega);refine dense_turn K C.keys D (Nat.zero_le H) (q:=q) (by omega) (by rw [<-w2,<-w1];exact off) (fun h k' h1 h2 h3=>?_) (fun h k' h1 h2 h3 h4=>?_)
   ·obtain rfl:h=0:=by omega
    obtain⟨v1,v2⟩:=win_num (c:=c) (h:=0) (k:=k') (a:=x) (K.wpos _) (by omega) (by omega);rw [right_iff,C.keys,<-v2,<-v1];exact⟨fullx 0 (Nat.zero_le H),e3 0 (Nat.zero_le _) (Nat.zero_le _)⟩
   ·obtain⟨v1,v2⟩:=win_num (c:=c) (h:=h) (k:=k') (a:=x) (K.wpos _) (by omega) (by omega)
    rw [right_iff,C.keys,<-v2,<-v1];exact⟨fullx h h2,e3 h (Nat.zero_le _) h2⟩
  ·rw [eg];exact C.all
 ·have nu:¬ under c (s.emptied x) x < 0:=by rw [e1];omega
  by_cases hg:g=H+1
  ·have eH:under c (s.emptied x) x=c.high (s.emptied x).keys.length:=by rw [e1,C.keys,K.high];omega
   have eg:goneS c (s.emptied x) x=Ly.wide (s.emptied x) (halve c (many (s.emptied x)) 20 (s.emptied x).keys.length) (Gp.all (s.emptied x)):=by unfold goneS;rw [if_neg nu,if_pos eH]
   have al:=all_len (s.emptied x);have m0:0<=many (s.emptied x):=cnt_nn _ _ _
   have ml:many (s.emptied x)<=s.keys.length:=by have:=many_le (s:=s.emptied x);rw [C.keys] at this;exact this
   have hw:lo c H x=0/\hi c H x=s.keys.length:=by
    obtain⟨q,w1,w2,w3,w4,w5,w6⟩:=win_of K (Nat.le_refl H) p1;have hT:=K.top
    have:(q:Int)*c.wide H=0:=by
     have h1:0<=(q:Int)*c.wide H:=by omega
     omega
    omega
   have F:=fullx H (Nat.le_refl H);rw [hw.1,hw.2] at F
   have F2:c.manyB s.keys.length (c.high s.keys.length) (many (s.emptied x))=true:=by rw [K.high];unfold many;rw [C.keys];exact F
   have SB:=K.may.size_bd K.is;have g4:=K.may.sizes.seg1;have l1:=K.may.sizes.least1;obtain⟨t1,t2,t3,t4⟩:=halve_right K.may m0 20 s.keys.length K.is ml F2 (by rw [show (2:Int)^20=1048576 from by decide];omega);have W:=wide_own (s:=s.emptied x) K.may (sg.trans O.seg) (by rw [sg];exact h64) (by rw [lt];exact hl) t1 (Gp.all (s.emptied x)) (by rw [al,mt];have:=O.most;omega) (by rw [al];exact t2) (by rw [al];exact t3) (by rw [al];exact t4);rw [<-C.keys,<-eg] at W;refine⟨W.1,by rw [W.2.1];exact C.all,Or.inr (Or.inl ⟨by rw [eH,C.keys],?_,?_⟩)⟩
   ·rw [W.2.2.1,lt];congr 2;omega
   ·rw [W.2.2.2]
    have u9:=e4.resolve_left h0;rw [show g-1=H from by omega] at u9;unfold underP at u9;rw [hw.1,hw.2,C.keys] at u9
    have u8:c.fewB s.keys.length (c.high s.keys.length) (many (s.emptied x))=false:=by
     rw [K.high];unfold many;rw [C.keys];simpa using u9
    have:halve c (many (s.emptied x)) 20 (s.emptied x).keys.length=halve c (many (s.emptied x)) 19 (((s.emptied x).keys.length:Int)/2):=by
     rw [C.keys]
     show (if _ then _ else _)=_
     rw [u8]
     rfl
    rw [this];have:=halve_le c (many (s.emptied x)) 19 (((s.emptied x).keys.length:Int)/2) (by omega);rw [C.keys] at this ⊢
    omega
  ·have hgH:g<=H:=by omega
   have nH:¬ under c (s.emptied x) x=c.high (s.emptied x).keys.length:=by rw [e1,C.keys,K.high];omega
   obtain⟨q,w1,w2,w3,w4,w5,w6⟩:=win_of K hgH p1;obtain⟨a,ha⟩:∃ a:Nat,(a:Int)=lo c g x:=⟨(lo c g x).toNat,by omega⟩;obtain⟨b,hb⟩:∃ b:Nat,(b:Int)=hi c g x:=⟨(hi c g x).toNat,by omega⟩
   have eg:goneS c (s.emptied x) x=Ly.spreadS (s.emptied x) a b ((s.emptied x).of a b):=by
    unfold goneS;rw [if_neg nu,if_neg nH,e1,show (g:Int)-1+1=g from by omega,<-ha,<-hb,Int.toNat_natCast,Int.toNat_natCast]
   obtain⟨ps,hps⟩:∃ ps,ps=(s.emptied x).of a b:=⟨_,rfl⟩
   have hlen:(ps.length:Int)=cnt (s.emptied x) a b:=by rw [hps];exact of_cnt _ a b
   have hbn:b<=s.keys.length:=by omega
   have hfit:a+ps.length<=b:=by rw [hps];exact Ly.of_room _ (by omega)
   have hle:(s.emptied x).laid < 18446744073709551616:=by rw [lt];exact hl
   have M:=mid_of (c:=c) C.may hle ps hfit (by rw [C.keys];exact hbn);have off1:=off_spread C.may hle (by rw [C.keys];have:=O.may.many;omega) ps hfit (by rw [C.keys];exact hbn);have off:Off s (Ly.spreadS (s.emptied x) a b ps) a b:=fun j hj=>(off1 j hj).trans (C.off j (by omega))
   have hab:(b:Int)=a+c.wide g:=by omega
   have hF:=fullx g hgH;have hW:=e3 g (Nat.le_refl _) hgH;rw [<-ha,<-hb,<-hlen] at hF hW;have I:=spread_inn K C.may hle C.keys hgH (q:=q) (a:=a) (b:=b) (by omega) (by omega) hbn ps (by omega) hF hW;have hk2:(Ly.spreadS (s.emptied x) a b ps).keys.length=s.keys.length:=M.keys.trans C.keys;rw [<-hps] at eg
   have al2:Gp.all (Ly.spreadS (s.emptied x) a b ps)=Gp.all (s.emptied x):=by
    rw [M.all,hps,<-Ly.of_whole_self (s.emptied x) (by omega) (by rw [C.keys];exact hbn)]
    rfl
   refine⟨⟨H,?_⟩,by rw [eg,al2];exact C.all,Or.inr (Or.inr ⟨g,by omega,hgH,e1,by rw [eg];exact hk2,?_,?_⟩)⟩
   ·rw [eg]
    refine⟨by rw [hk2];exact K,?_,?_,?_,?_⟩
    ·exact may_iff.1 (Ly.laid C.may hle (by rw [C.keys];have:=O.may.many;omega) ps hfit (by rw [C.keys];exact hbn)).may
    ·exact ((Ly.laid C.may hle (by rw [C.keys];have:=O.may.many;omega) ps hfit (by rw [C.keys];exact hbn)).bits.seg).trans (sg.trans O.seg)
    ·rw [<-all_len,al2,all_len,mt];have:=O.most;omega
    ·refine dense_turn K hk2 D hgH (q:=q) (by omega) (by rw [<-w2,<-w1,<-ha,<-hb];exact off) (fun h k' h1 h2 h3=>I h k' h1 (by omega) (by omega)) (fun h k' h1 h2 h3 h4=>?_)
     obtain⟨v1,v2⟩:=win_num (c:=c) (h:=h) (k:=k') (a:=x) (K.wpos h) (by omega) (by omega);have ee:=off1.over (x:=(k':Int)*c.wide h) (y:=(k':Int)*c.wide h+c.wide h) (Int.mul_nonneg (by omega) (by have:=K.wpos h;omega)) (by omega) (by omega) (by omega);rw [right_iff,hk2,ee,M.cnt,hlen,show cnt (s.emptied x) ((k':Int)*c.wide h) ((k':Int)*c.wide h+c.wide h)-cnt (s.emptied x) a b+cnt (s.emptied x) a b=cnt (s.emptied x) ((k':Int)*c.wide h) ((k':Int)*c.wide h+c.wide h) from by omega,<-v2,<-v1];exact⟨fullx h h2,e3 h (by omega) h2⟩
   ·rw [eg,M.laid,lt,<-ha,<-hb]
    congr 2
    omega
   ·rw [eg,<-ha,<-hb,M.cnt];exact hlen
theorem take_ok {c:Cf} {s:Sl} {k:Int} (h:takeE c s k=0):chkE c s=0/\0<=k/\k < many s:=by
 unfold takeE at h
 split at h
 ·rename_i hc
  split at h
  ·rename_i hk;exact⟨hc,hk⟩
  ·omega
 ·rename_i hc;exact absurd h hc
theorem take_s {c:Cf} {s:Sl} {k:Int} (h:takeE c s k=0):takeS c s k=goneS c (s.emptied (place s k.toNat)) (place s k.toNat):=by unfold takeS;rw [if_pos h]
theorem take_none {c:Cf} {s:Sl} {k:Int} (h:¬ takeE c s k=0):takeS c s k=Sl.none:=by unfold takeS;rw [if_neg h]
end Gp
theorem wide_fine {s:Sl} (hok:s.Ok) {z:Int} (hf:Sl.fitsB s.seg z=true) (ps:List (Int×Int)) (hn:ps.length<=65536) (h64:In64P ps):Fine (Ly.wide s z ps):=by
 obtain⟨f1,f2,f3,f4,f5,f6,f7⟩:=fits_yes hf;obtain⟨m,rfl⟩:∃ m:Nat,z=m:=⟨z.toNat,by omega⟩;have BA:=base_bare hf hok.seg hok.laid;exact spread_fine (may_fit (may_iff.2 BA.may) BA.ok BA.short) 0 m (by omega) ps hn h64
theorem emptied_fine {s:Sl} (hm:s.mayB=true) (hok:s.Ok) (hs:s.Short) (x:Nat):Fine (s.emptied x):=by
 have F:=(may_fit hm hok hs).emptied (by omega) x;exact⟨F.ok,F.short⟩
namespace Gp
theorem many_small {c:Cf} {s:Sl} {H:Nat} (O:Own c s H):many s<=16384:=by have:=O.most;have:=O.cap.may.sizes.most2;omega
theorem add_fine {c:Cf} {s:Sl} {H:Nat} (O:Own c s H) (hok:s.Ok) (hs:s.Short) {k:Int} (h0:0<=k) (h1:k<=many s) (hne:¬ many s=c.most) {p:Int×Int} (p1:In64 p.1) (p2:In64 p.2):Fine (addS c s k p):=by
 have K:=O.cap;have al:=all_len s;have ms:=many_small O;have aml:=Ly.among_length (all s) k.toNat p;have mn:0<=many s:=cnt_nn _ _ _
 by_cases hH:over c s (home s k)=c.high s.keys.length
 ·have ea:addS c s k p=Ly.wide s (c.takes (many s+1)) (Ly.among (all s) k.toNat p):=by unfold addS;rw [if_pos hH]
  rw [ea];obtain⟨t1,_⟩:=takes_right K.may (m:=many s+1) (by omega) (by have:=O.most;omega);exact wide_fine hok (by rw [O.seg];exact fits_cap K.may t1) _ (by omega) (Ly.among_in64 (of_in64 hok _ _) _ p1 p2)
 ·obtain⟨g,e1,e2,e3⟩:=over_spec K (home s k)
  have hx:=home_in O.may h0 h1
  have hgH:g<=H:=by
   rcases Nat.lt_or_ge H g with h | h
   ·exact absurd (by rw [e1,K.high];omega) hH
   ·exact h
  obtain⟨q,w1,w2,w3,w4,w5,w6⟩:=win_of K hgH hx;obtain⟨a,ha⟩:∃ a:Nat,(a:Int)=lo c g (home s k):=⟨(lo c g (home s k)).toNat,by omega⟩;obtain⟨b,hb⟩:∃ b:Nat,(b:Int)=hi c g (home s k):=⟨(hi c g (home s k)).toNat,by omega⟩
  have ea:addS c s k p=Ly.spreadS s a b (Ly.among (s.of a b) (k-cnt s 0 a).toNat p):=by
   unfold addS;rw [if_neg hH,e1,show (g:Int)-1+1=g from by omega,<-ha,<-hb,Int.toNat_natCast,Int.toNat_natCast]
  rw [ea];have:=hs.keys;have:=Ly.of_len s a b;have:=Ly.among_length (s.of a b) (k-cnt s 0 a).toNat p;have hr:=many_room K hgH (e3 g (Nat.le_refl _) hgH);rw [<-ha,<-hb] at hr;have:=of_cnt s a b;exact spread_fine (may_fit (may_iff.2 O.may) hok hs) a b (by omega) _ (by omega) (Ly.among_in64 (of_in64 hok _ _) _ p1 p2)
theorem gone_fine {c:Cf} {s:Sl} {H:Nat} (O:Own c s H) (hok:s.Ok) (hs:s.Short) {k:Nat} (hk:(k:Int) < many s):Fine (goneS c (s.emptied (place s k)) (place s k)):=by
 have K:=O.cap;obtain⟨p1,p2⟩:=place_in hk;have C:=clr_of O.may hk;obtain⟨x,hx⟩:∃ x,x=place s k:=⟨_,rfl⟩;rw [<-hx] at p1 p2 C ⊢;have F:=emptied_fine (may_iff.2 O.may) hok hs x
 by_cases h0:under c (s.emptied x) x < 0
 ·have e:goneS c (s.emptied x) x=s.emptied x:=by unfold goneS;rw [if_pos h0]
  rw [e];exact F
 ·have al:=all_len (s.emptied x)
  have ml:many (s.emptied x)<=(s.emptied x).keys.length:=many_le;have ms:=hs.keys;rw [C.keys] at ml
  by_cases hH:under c (s.emptied x) x=c.high (s.emptied x).keys.length
  ·have e:goneS c (s.emptied x) x=Ly.wide (s.emptied x) (halve c (many (s.emptied x)) 20 (s.emptied x).keys.length) (all (s.emptied x)):=by unfold goneS;rw [if_neg h0,if_pos hH]
   obtain⟨⟨H',O'⟩,_⟩:=take_all O hok.laid hok.seg hk;rw [<-hx,e] at O';rw [e]
   have hz:c.Is (halve c (many (s.emptied x)) 20 (s.emptied x).keys.length):=by
    have SB:=K.may.size_bd K.is;have g4:=K.may.sizes.seg1;have l1:=K.may.sizes.least1;have m0:0<=many (s.emptied x):=cnt_nn _ _ _
    have mt:many (s.emptied x)<=many s:=by
     have:=C.off.over (x:=0) (y:=s.keys.length) (by omega) (by omega) (by omega) (by omega);unfold many;rw [C.keys,this,C.none,C.one]
     omega
    have F2:c.manyB s.keys.length (c.high s.keys.length) (many (s.emptied x))=true:=by
     have hT:=K.top;have R:=right_iff.1 (O.dense H 0 (Nat.le_refl H) (by rw [hT];simp));rw [hT] at R;rw [K.high];exact many_mono K.den K.nn mt (by have:=R.1;simpa [many] using this)
    rw [C.keys];exact (halve_right K.may m0 20 s.keys.length K.is ml F2 (by rw [show (2:Int)^20=1048576 from by decide];omega)).1
   exact wide_fine F.ok (by rw [show (s.emptied x).seg=s.seg from rfl,O.seg];exact fits_cap K.may hz) _ (by omega) (of_in64 F.ok _ _)
  ·have KT:Cap c (s.emptied x).keys.length H:=by rw [C.keys];exact K
   obtain⟨g,e1,e2,e4,e3⟩:=under_spec KT x
   have hgH:g<=H:=by
    rcases Nat.lt_or_ge H g with h | h
    ·exact absurd (by rw [e1,C.keys,K.high];omega) hH
    ·exact h
   obtain⟨q,w1,w2,w3,w4,w5,w6⟩:=win_of K hgH p1;obtain⟨a,ha⟩:∃ a:Nat,(a:Int)=lo c g x:=⟨(lo c g x).toNat,by omega⟩;obtain⟨b,hb⟩:∃ b:Nat,(b:Int)=hi c g x:=⟨(hi c g x).toNat,by omega⟩
   have eg:goneS c (s.emptied x) x=Ly.spreadS (s.emptied x) a b ((s.emptied x).of a b):=by
    unfold goneS;rw [if_neg h0,if_neg hH,e1,show (g:Int)-1+1=g from by omega,<-ha,<-hb,Int.toNat_natCast,Int.toNat_natCast]
   rw [eg];have:=Ly.of_len (s.emptied x) a b;exact spread_fine (may_fit (may_iff.2 C.may) F.ok F.short) a b (by omega) _ (by omega) (of_in64 F.ok _ _)
theorem put_fine {c:Cf} {s:Sl} (hok:s.Ok) (hs:s.Short) (k:Int) {p:Int×Int} (p1:In64 p.1) (p2:In64 p.2):Fine (putS c s k p):=by
 by_cases h:putE c s k=0
 ·obtain⟨a,b,d,e⟩:=put_ok h
  obtain⟨H,O⟩:=own_of a;rw [put_s h];exact add_fine O hok hs b d e p1 p2
 ·rw [put_none h];exact fine_none
theorem take_fine {c:Cf} {s:Sl} (hok:s.Ok) (hs:s.Short) (k:Int):Fine (takeS c s k):=by
 by_cases h:takeE c s k=0
 ·obtain⟨a,b,d⟩:=take_ok h
  obtain⟨H,O⟩:=own_of a;rw [take_s h];exact gone_fine O hok hs (by omega)
 ·rw [take_none h];exact fine_none
theorem new_fine {c:Cf}:Fine (newS c):=by
 unfold newS
 split
 ·rename_i hm
  have M:=(Cf.may_iff c).1 hm;have hs:=M.sizes;have hi:c.Is c.least:=⟨hs.leastp,Int.le_refl _,Cf.takes_ge c hs _⟩;have hf:=fits_cap M hi
  have e:Sl.newS c.seg c.least=Sl.empty c.seg c.least:=by unfold Sl.newS;rw [if_pos hf]
  rw [<-e];exact⟨ok_new ⟨by have:=hs.seg1;omega,by have:=hs.seg2;omega⟩,short_new⟩
 ·exact fine_none
theorem put_chk {c:Cf} {s:Sl} (hok:s.Ok) {k:Int} {p:Int×Int} (h:putE c s k=0):chkE c (putS c s k p)=0:=by
 obtain⟨a,b,d,e⟩:=put_ok h;obtain⟨H,O⟩:=own_of a;rw [put_s h];obtain⟨⟨⟨H',O'⟩,_⟩,_⟩:=put_all O hok.laid hok.seg b d e p;exact own_chk O'
theorem take_chk {c:Cf} {s:Sl} (hok:s.Ok) {k:Int} (h:takeE c s k=0):chkE c (takeS c s k)=0:=by
 obtain⟨a,b,d⟩:=take_ok h;obtain⟨H,O⟩:=own_of a;rw [take_s h];obtain⟨⟨H',O'⟩,_⟩:=take_all O hok.laid hok.seg (k:=k.toNat) (by omega);exact own_chk O'
end Gp
end Go.Proofs.YtpeckljoannolaaGreatDoor
