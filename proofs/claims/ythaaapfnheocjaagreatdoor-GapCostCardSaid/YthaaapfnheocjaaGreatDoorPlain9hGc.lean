/- Layer 9, plain: what one put, and one take, lays, as the law GapCost asks it. -/
import Derived.Test.YthaaapfnheocjaaGreatDoorPart09Gc
import Derived.Test.YthaaapfnheocjaaGreatDoorP09Gc
import Derived.Test.YthaaapfnheocjaaGreatDoorTkGc
set_option linter.unusedVariables false
set_option linter.unusedSimpArgs false
namespace Go.Proofs.YthaaapfnheocjaaGreatDoor
open Go.RowKit
namespace Gp
structure Cost (s X:Sl) (f t:Int) (b:Bool) (n:Int):Prop where
 v:Oc.countV X.words X.keys.length (if b then f else 0) (if b then t else X.keys.length)=n
 e:Oc.countE X.words X.keys.length (if b then f else 0) (if b then t else X.keys.length)=0
 n0:0<=n
 n1:n<=65536
 laid:(X.laid:Int)=((s.laid:Int)+n) % 18446744073709551616
 size:b=true↔X.keys.length=s.keys.length
theorem count_all {X:Sl} (hm:X.May):Oc.countV X.words X.keys.length 0 X.keys.length=many X/\Oc.countE X.words X.keys.length 0 X.keys.length=0:=by
 have e:Oc.countE X.words X.keys.length 0 X.keys.length=0:=by unfold Oc.countE;rw [if_pos hm.chkW,if_neg (by omega)]
 refine⟨?_,e⟩;unfold Oc.countV;rw [if_pos e]
 rfl
theorem count_part {X:Sl} (hm:X.May) {a b:Int} (h0:0<=a) (h1:a<=b) (h2:b<=X.keys.length):Oc.countV X.words X.keys.length a b=cnt X a b/\Oc.countE X.words X.keys.length a b=0:=by
 have e:Oc.countE X.words X.keys.length a b=0:=by unfold Oc.countE;rw [if_pos hm.chkW,if_neg (by omega)]
 refine⟨?_,e⟩;unfold Oc.countV;rw [if_pos e]
 rfl
theorem over_top {c:Cf} {s:Sl} {H:Nat} (K:Cap c s.keys.length H) {x:Nat} (hx:x < s.keys.length) (h:over c s x=(H:Int)):c.manyB s.keys.length H (many s+1)=false:=by
 have ht:tall c s=H:=by unfold tall;exact K.tall
 unfold over at h;rw [ht] at h
 rcases (topF_spec (overP c s x) (H+1)).1 with e | ⟨k,e,k1,k2⟩
 ·rw [e] at h;omega
 ·obtain rfl:k=H:=by omega
  obtain⟨q,w1,w2,w3,w4,w5,w6⟩:=win_of K (Nat.le_refl k) hx;have htop:=K.top
  have hq:q=0:=by
   rcases Nat.eq_zero_or_pos q with h9 | h9
   ·exact h9
   ·exfalso
    have:(1:Int)*c.wide k<=(q:Int)*c.wide k:=Int.mul_le_mul_of_nonneg_right (by omega) (by omega)
    omega
  subst hq;unfold overP at k2
  have e1:lo c k x=0:=by omega
  have e2:hi c k x=s.keys.length:=by omega
  rw [e1,e2] at k2;unfold many
  simpa using k2
theorem put_cost {c:Cf} {s:Sl} (hok:s.Ok) (hs:s.Short) {k:Int} {p:Int×Int} (h:putE c s k=0) :
  ∃ (H x:Nat) (f t:Int) (b:Bool) (n:Int),Cap c s.keys.length H/\s.May/\x < s.keys.length/\Oc.nthV s.words s.keys.length (max (k-1) 0)=x/\partR c H x (over c s x) 1=(f,t,b)/\Cost s (putS c s k p) f t b n:=by
 obtain⟨hc,h0,h1,hne⟩:=put_ok h;obtain⟨H,O⟩:=own_of hc;have P:=put_all O hok.laid hok.seg h0 h1 hne p;rw [put_s h];have K:=O.cap;have hx:=home_in O.may h0 h1;have hsl:=slot_home O.may h0 h1;unfold slotV at hsl;obtain⟨⟨H',O'⟩,hall⟩:=P.got;have al:=all_len s;have al2:=all_len (addS c s k p);have aml:=Ly.among_length (all s) k.toNat p;have mn:0<=many s:=cnt_nn _ _ _;have ml:=many_le (s:=s);have sm:=many_small O;have l2:=hs.keys
 have hm1:many (addS c s k p)=many s+1:=by rw [<-al2,hall,aml];omega
 refine⟨H,home s k,?_⟩
 rcases P.cost with⟨c1,c2,c3⟩ | ⟨g,c1,c2,c3,c4,c5⟩
 ·rw [K.high] at c1
  obtain⟨v,e⟩:=count_all O'.may;refine⟨0,0,false,many s+1,K,O.may,hx,hsl,by rw [c1];exact part_top c H _ 1,?_⟩;refine⟨by rw [<-hm1];exact v,e,by omega,by omega,by rw [c2];omega,?_⟩
  constructor
  ·intro h9;cases h9
  ·intro h9
   exfalso
   have hov:=over_top K hx c1
   have hlt:many s < c.most:=by have:=O.most;omega
   obtain⟨t1,t2,t3,t4⟩:=takes_right K.may (m:=many s+1) (by omega) (by omega);rw [<-c3,h9,K.high] at t3;rw [hov] at t3
   cases t3
 ·obtain⟨q,w1,w2,w3,w4,w5,w6⟩:=win_of K c1 hx
  have hk:(addS c s k p).keys.length=s.keys.length:=c3;obtain⟨v,e⟩:=count_part O'.may (a:=lo c g (home s k)) (b:=hi c g (home s k)) (by omega) (by omega) (by omega);have cn:0<=cnt s (lo c g (home s k)) (hi c g (home s k)):=cnt_nn _ _ _;have cl:=cnt_le s (a:=lo c g (home s k)) (b:=hi c g (home s k)) (by omega) (by omega);have cl2:=cnt_le (addS c s k p) (a:=lo c g (home s k)) (b:=hi c g (home s k)) (by omega) (by omega);refine⟨lo c g (home s k),hi c g (home s k),true,cnt s (lo c g (home s k)) (hi c g (home s k))+1,K,O.may,hx,hsl,?_,?_⟩
  ·unfold partR
   rw [if_neg (by omega),if_neg (by omega),c2,show (g:Int)-1+1=g from by omega]
  ·exact⟨by rw [if_pos rfl,if_pos rfl,v,c5],by rw [if_pos rfl,if_pos rfl];exact e,by omega,by omega,by rw [c4];omega,by simp [hk]⟩
theorem take_cost {c:Cf} {s:Sl} (hok:s.Ok) (hs:s.Short) {k:Int} (h:takeE c s k=0) :
  ∃ (H x:Nat) (f t:Int) (b:Bool) (n:Int),Cap c (s.emptied x).keys.length H/\(s.emptied x).May/\x < (s.emptied x).keys.length/\(s.emptied x).keys.length=s.keys.length/\s.mayB=true /\
   Oc.nthV s.words s.keys.length k=x/\Oc.nthE s.words s.keys.length k=0/\s.atE x=0/\s.clearS x=s.emptied x/\partR c H x (under c (s.emptied x) x) 0=(f,t,b)/\Cost s (takeS c s k) f t b n:=by
 obtain⟨hc,h0,h1⟩:=take_ok h;obtain⟨H,O⟩:=own_of hc;obtain⟨m,rfl⟩:∃ m:Nat,k=m:=⟨k.toNat,by omega⟩;have G:=take_all O hok.laid hok.seg h1;rw [take_s h,Int.toNat_natCast];have K:=O.cap;obtain⟨p1,p2⟩:=place_in h1;have C:=clr_of O.may h1;have al:=all_len s;have mn:0<=many s:=cnt_nn _ _ _;have ml:=many_le (s:=s);have sm:=many_small O;have l2:=hs.keys;have hll:((Oc.places s.words 0 s.keys.length).length:Int)=many s:=rfl
 have nE:Oc.nthE s.words s.keys.length (m:Int)=0:=by
  unfold Oc.nthE;rw [if_pos O.may.chkW,Int.toNat_natCast,if_neg (by omega)]
 have nV:Oc.nthV s.words s.keys.length (m:Int)=((place s m:Nat):Int):=by
  unfold Oc.nthV;rw [if_pos nE,Int.toNat_natCast,Int.toNat_natCast]
  rfl
 have aE:s.atE (place s m:Nat)=0:=by
  unfold Sl.atE Sl.slotB;rw [may_iff.2 O.may,Int.toNat_natCast,p2]
  simp
  omega
 have cS:s.clearS (place s m:Nat)=s.emptied (place s m):=by unfold Sl.clearS;rw [if_pos aE,Int.toNat_natCast]
 obtain⟨x,hx⟩:∃ x,x=place s m:=⟨_,rfl⟩;rw [<-hx] at G p1 p2 C nV aE cS ⊢;obtain⟨⟨H',O'⟩,hall,hcost⟩:=G
 have KT:Cap c (s.emptied x).keys.length H:=by rw [C.keys];exact K
 have al2:=all_len (goneS c (s.emptied x) x)
 have hm1:many (goneS c (s.emptied x) x)=many s-1:=by
  rw [<-al2,hall,List.length_append,List.length_take,List.length_drop]
  omega
 refine⟨H,x,?_⟩
 rcases hcost with⟨c1,c2⟩ | ⟨c1,c2,c3⟩ | ⟨g,c0,c1,c2,c3,c4,c5⟩
 ·obtain⟨g,e1,e2,e3,e4⟩:=under_spec KT x
  have hu:under c (s.emptied x) x=-1:=by omega
  have OM:(s.emptied x).May:=C.may;obtain⟨v,e⟩:=count_part OM (a:=(x:Int)) (b:=(x:Int)) (by omega) (Int.le_refl _) (by rw [C.keys];omega);refine⟨x,x,true,0,KT,C.may,by rw [C.keys];exact p1,C.keys,may_iff.2 O.may,nV,nE,aE,cS,by rw [hu];exact part_none_take c H x,?_⟩;rw [c2];have hl:=hok.laid;have el:(s.emptied x).laid=s.laid:=rfl;exact⟨by rw [if_pos rfl,if_pos rfl,v,cnt_self],by rw [if_pos rfl,if_pos rfl];exact e,by omega,by omega,by rw [el];omega,by simp [C.keys]⟩
 ·obtain⟨v,e⟩:=count_all O'.may
  rw [K.high] at c1;refine⟨0,0,false,many s-1,KT,C.may,by rw [C.keys];exact p1,C.keys,may_iff.2 O.may,nV,nE,aE,cS,by rw [c1];exact part_top c H x 0,?_⟩;refine⟨by rw [<-hm1];exact v,e,by omega,by omega,by rw [c2];omega,?_⟩
  constructor
  ·intro h9;cases h9
  ·intro h9;exfalso;rw [h9] at c3;omega
 ·obtain⟨q,w1,w2,w3,w4,w5,w6⟩:=win_of K c1 p1
  obtain⟨v,e⟩:=count_part O'.may (a:=lo c g x) (b:=hi c g x) (by omega) (by omega) (by omega);have cn:0<=cnt (s.emptied x) (lo c g x) (hi c g x):=cnt_nn _ _ _;have cl:=cnt_le (s.emptied x) (a:=lo c g x) (b:=hi c g x) (by omega) (by omega);refine⟨lo c g x,hi c g x,true,cnt (s.emptied x) (lo c g x) (hi c g x),KT,C.may,by rw [C.keys];exact p1,C.keys,may_iff.2 O.may,nV,nE,aE,cS,?_,?_⟩
  ·unfold partR
   rw [if_neg (by omega),if_neg (by omega),c2,show (g:Int)-1+1=g from by omega]
  ·exact⟨by rw [if_pos rfl,if_pos rfl,v,c5],by rw [if_pos rfl,if_pos rfl];exact e,by omega,by omega,by rw [c4];omega,by simp [c3]⟩
end Gp
end Go.Proofs.YthaaapfnheocjaaGreatDoor
