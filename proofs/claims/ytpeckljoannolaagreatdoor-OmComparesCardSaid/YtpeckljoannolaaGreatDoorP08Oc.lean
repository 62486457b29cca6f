/- Plain facts of parts that are spread. -/
import Derived.Test.YtpeckljoannolaaGreatDoorR04Oc
import Derived.Test.YtpeckljoannolaaGreatDoorRefW01Oc
import Derived.Test.YtpeckljoannolaaGreatDoorP06Oc
import Derived.Deep.RegionHeld3
import Derived.Test.YtpeckljoannolaaGreatDoorM11Oc
import Derived.Test.YtpeckljoannolaaGreatDoorM23Oc
import Derived.Test.YtpeckljoannolaaGreatDoorM08Oc
import Derived.Test.YtpeckljoannolaaGreatDoorTkOc
set_option linter.unusedVariables false
set_option linter.unusedSimpArgs false
namespace Go.Proofs.YtpeckljoannolaaGreatDoor
open Go.RowKit
theorem prow_list {ps:List (Int×Int)} {base:Nat} {w:World} {v:Value} (h:w.ownsRow base 93 2 v ps.length (pcells ps)):∃ A c,v=.slice A ps.length c/\PLst w A ps:=by
 obtain⟨A,c,h1,h2,_⟩:=own_cells h;exact⟨A,c,h1,h2⟩
def In64P (ps:List (Int×Int)):Prop:=∀ k,In64 (ps.getD k (0,0)).1/\In64 (ps.getD k (0,0)).2
theorem of_in64 {s:Sl} (h:s.Ok) (a b:Nat):In64P (s.of a b):=by
 intro k;unfold Sl.of;rw [List.getD_eq_getElem?_getD,List.getElem?_map]
 cases (Oc.places s.words a b)[k]? with
 | none=>exact⟨⟨by show (-9223372036854775808:Int)<=0;omega,by show (0:Int)<=9223372036854775807;omega⟩,⟨by show (-9223372036854775808:Int)<=0;omega,by show (0:Int)<=9223372036854775807;omega⟩⟩
 | some j=>exact⟨h.keys j,h.vals j⟩
theorem spread_may {n lo hi:Nat} (h1:lo+n<=hi) (h2:hi<=65536):Sp.mayB n lo hi=true:=by
 unfold Sp.mayB;rw [decide_eq_true (show (0:Int)<=(lo:Int) by omega),decide_eq_true (show (lo:Int)<=(hi:Int) by omega),decide_eq_true (show (hi:Int)<=65536 by omega),decide_eq_true (show (0:Int)<=(n:Int) by omega),decide_eq_true (show (n:Int)<=(hi:Int)-(lo:Int) by omega)]
 rfl
namespace Ly
theorem even_no {s:Sl} {a b:Int} (h:s.pairsE a b≠0):evenS s a b=Sl.none:=by unfold evenS;rw [if_neg h]
theorem pairs_parts {s:Sl} {a b:Int} (h:s.pairsE a b=0):s.mayB=true/\∃ x y:Nat,a=x/\b=y/\x<=y/\y<=s.keys.length:=by
 unfold Sl.pairsE at h
 cases hm:s.mayB
 ·rw [hm] at h;simp at h
 ·cases hp:Sl.partB s.keys.length a b
  ·rw [hm,hp] at h;simp at h
  ·obtain⟨p1,p2,p3⟩:=part_iff.1 hp
   exact⟨rfl,a.toNat,b.toNat,by omega,by omega,by omega,by omega⟩
theorem of_len (s:Sl) (x y:Nat):(s.of x y).length<=y-x:=by
 unfold Sl.of;rw [List.length_map];exact Oc.places_length_le s.words x y
theorem pairsV_ok {s:Sl} {x y:Nat} (h:s.pairsE x y=0):s.pairsV x y=s.of x y:=by unfold Sl.pairsV;rw [if_pos h,Int.toNat_natCast,Int.toNat_natCast]
theorem even_ok {s:Sl} {x y:Nat} (h:s.pairsE x y=0):evenS s x y=spreadS s x y (s.of x y):=by unfold evenS;rw [if_pos h,Int.toNat_natCast,Int.toNat_natCast]
theorem pairsV_no {s:Sl} {a b:Int} (h:s.pairsE a b≠0):s.pairsV a b=[]:=by unfold Sl.pairsV;rw [if_neg h]
end Ly
theorem pcells_take (ps:List (Int×Int)) (k:Nat):pcells (ps.take k)=(pcells ps).take (k*2):=by
 induction ps generalizing k with
 | nil=>simp [pcells]
 | cons p r ih =>
  cases k with
  | zero=>simp [pcells]
  | succ k =>
   have e:pcells (p::r)=Value.int .i64 p.1::Value.int .i64 p.2::pcells r:=rfl;have e2:pcells ((p::r).take (k+1))=Value.int .i64 p.1::Value.int .i64 p.2::pcells (r.take k):=rfl;rw [e2,ih,e,show (k+1)*2=k*2+1+1 from by omega,List.take_succ_cons,List.take_succ_cons]
theorem pcells_drop (ps:List (Int×Int)) (k:Nat):pcells (ps.drop k)=(pcells ps).drop (k*2):=by
 induction ps generalizing k with
 | nil=>simp [pcells]
 | cons p r ih =>
  cases k with
  | zero=>simp
  | succ k =>
   have e:pcells (p::r)=Value.int .i64 p.1::Value.int .i64 p.2::pcells r:=rfl;rw [List.drop_succ_cons,ih,e,show (k+1)*2=k*2+1+1 from by omega,List.drop_succ_cons,List.drop_succ_cons]
theorem cells_take {w:World} {a:Option Addr} {xs:List Value} (h:Cells w a xs) (k:Nat):Cells w a (xs.take k):=by
 rcases h with rfl | ⟨b,off,h1,h2,h3⟩
 ·exact Or.inl (by simp)
 ·exact Or.inr ⟨b,off,h1,h2,fun i hi=>by
   rw [List.length_take] at hi
   rw [h3 i (by omega),List.getElem?_take,if_pos (by omega)]⟩
theorem cells_drop {w:World} {b off:Nat} {xs:List Value} (h:Cells w (some ⟨b,off,none⟩) xs) (k:Nat):Cells w (some ⟨b,off+k,none⟩) (xs.drop k):=by
 rcases h with rfl | ⟨b2,off2,h1,h2,h3⟩
 ·exact Or.inl (by simp)
 ·injection h1 with h1
  injection h1 with e1 e2
  subst e1 e2
  exact Or.inr ⟨b,off+k,rfl,h2,fun i hi=>by
   rw [List.length_drop] at hi
   rw [show off+k+i=off+(k+i) from by omega,h3 (k+i) (by omega),List.getElem?_drop]⟩
theorem plst_take {w:World} {a:Option Addr} {ps:List (Int×Int)} (h:PLst w a ps) (k:Nat):PLst w a (ps.take k):=by
 unfold PLst;rw [pcells_take];exact cells_take h _
theorem plst_drop {w:World} {b off:Nat} {ps:List (Int×Int)} (h:PLst w (some ⟨b,off,none⟩) ps) (k:Nat):PLst w (some ⟨b,off+k*2,none⟩) (ps.drop k):=by
 unfold PLst;rw [pcells_drop];exact cells_drop h _
namespace Ly
theorem with_no {s:Sl} {a b k:Int} {p:Int×Int} (h:withE s a b k≠0):withS s a b k p=Sl.none:=by unfold withS;rw [if_neg h]
theorem with_e {s:Sl} {x y:Nat} (h:s.pairsE x y=0) (k:Int):withE s x y k=if ((s.of x y).length:Int)=(y:Int)-(x:Int) then 9 else if 0<=k/\k<=((s.of x y).length:Int) then 0 else 2:=by
 unfold withE;rw [if_pos h,Int.toNat_natCast,Int.toNat_natCast]
theorem with_s {s:Sl} {x y k:Nat} {p:Int×Int} (h:withE s x y k=0):withS s x y k p=spreadS s x y (among (s.of x y) k p):=by
 unfold withS;rw [if_pos h,Int.toNat_natCast,Int.toNat_natCast,Int.toNat_natCast]
theorem with_bad {s:Sl} {a b:Int} (h:s.pairsE a b≠0) (k:Int):withE s a b k=s.pairsE a b:=by unfold withE;rw [if_neg h]
theorem among_in64 {l:List (Int×Int)} (h:In64P l) (k:Nat) {p:Int×Int} (h1:In64 p.1) (h2:In64 p.2):In64P (among l k p):=by
 have hm:∀ q∈l,In64 q.1/\In64 q.2:=by
  intro q hq;obtain⟨i,hi,rfl⟩:=List.getElem_of_mem hq;have:=h i
  simpa [List.getD,hi] using this
 intro j;rw [List.getD_eq_getElem?_getD]
 cases hj:(among l k p)[j]? with
 | none=>exact⟨⟨by show (-9223372036854775808:Int)<=0;omega,by show (0:Int)<=9223372036854775807;omega⟩,⟨by show (-9223372036854775808:Int)<=0;omega,by show (0:Int)<=9223372036854775807;omega⟩⟩
 | some q =>
  have hq:q∈among l k p:=List.mem_of_getElem? hj;unfold among at hq
  rcases List.mem_append.1 hq with h3 | h3
  ·exact hm q (List.mem_of_mem_take h3)
  ·rcases List.mem_cons.1 h3 with h4 | h4
   ·subst h4;exact⟨h1,h2⟩
   ·exact hm q (List.mem_of_mem_drop h4)
end Ly
theorem prow_cases {ps:List (Int×Int)} {base:Nat} {w:World} {v:Value} (h:w.ownsRow base 93 2 v ps.length (pcells ps)):(v=.slice none 0 0/\ps=[])∨∃ g c,v=.slice (some ⟨g,0,none⟩) ps.length c/\PLst w (some ⟨g,0,none⟩) ps/\ps.length<=c:=by
 obtain⟨A,c,h1,h2,_⟩:=own_cells h
 rcases h.2 with⟨hv,h0⟩ | ⟨g,c',cur,hv,hg,hh,hn,_⟩
 ·exact Or.inl ⟨hv,List.eq_nil_of_length_eq_zero h0⟩
 ·rw [hv] at h1
  injection h1 with e1 e2 e3
  subst e1;exact Or.inr ⟨g,c',hv,h2,hn⟩
theorem ofs_rising {n:Nat} {a b:Nat} (h1:a+n<=b) (h2:b<=65536):Rising (Sp.ofs n a b) a b/\(Sp.ofs n a b).length=n:=by
 have hm:Sp.mayB n a b=true:=by
  unfold Sp.mayB;rw [decide_eq_true (show (0:Int)<=(a:Int) by omega),decide_eq_true (show (a:Int)<=(b:Int) by omega),decide_eq_true (show (b:Int)<=65536 by omega),decide_eq_true (show (0:Int)<=(n:Int) by omega),decide_eq_true (show (n:Int)<=(b:Int)-(a:Int) by omega)]
  rfl
 have hl:(Sp.ofs n a b).length=n:=by rw [Sp.ofs_length,Int.toNat_natCast]
 refine⟨⟨fun k hk=>?_,fun i j hij hj=>?_⟩,hl⟩
 ·rw [hl] at hk
  have hk2:k < (n:Int).toNat:=by rw [Int.toNat_natCast];exact hk
  rw [Sp.ofs_at hk2];have:=Sp.plc_bd hm hk2
  omega
 ·rw [hl] at hj
  have up:∀ d:Nat,i+(d+1) < n->Sp.plc n a b i < Sp.plc n a b (i+(d+1)):=by
   intro d
   induction d with
   | zero =>
    intro h;have h3:=(Sp.plc_step (n:=(n:Int)) (f:=(a:Int)) (t:=(b:Int)) (by omega) (by omega) i).1;have h4:=Sp.one_le_step (n:=(n:Int)) (f:=(a:Int)) (t:=(b:Int)) (by omega) (by omega)
    show Sp.plc n a b i < Sp.plc n a b (i+1)
    omega
   | succ d ih =>
    intro h;have h0:=ih (by omega);have h3:=(Sp.plc_step (n:=(n:Int)) (f:=(a:Int)) (t:=(b:Int)) (by omega) (by omega) (i+(d+1))).1;have h4:=Sp.one_le_step (n:=(n:Int)) (f:=(a:Int)) (t:=(b:Int)) (by omega) (by omega)
    show Sp.plc n a b i < Sp.plc n a b (i+(d+1)+1)
    omega
  rw [Sp.ofs_at (by rw [Int.toNat_natCast];omega),Sp.ofs_at (by rw [Int.toNat_natCast];omega)];have:=up (j-i-1) (by omega)
  rwa [show i+(j-i-1+1)=j from by omega] at this
structure FilledBits (s:Sl) (a b:Nat) (l:List Int) (ps:List (Int×Int)):Prop where
 inn:∀ j,a<=j->j < b->(Oc.isB (s.filled a b l ps).words j=true↔∃ i,i < l.length/\l.getD i 0=(j:Int))
 out:∀ j,j < a∨b<=j->Oc.isB (s.filled a b l ps).words j=Oc.isB s.words j/\(s.filled a b l ps).pairAt j=s.pairAt j
 seg:(s.filled a b l ps).seg=s.seg
theorem filled_bits {s:Sl} (h:s.May) {a b:Nat} {l:List Int} {ps:List (Int×Int)} (hr:Rising l a b) (hab:a<=b) (hb:b<=s.keys.length) (hlen:l.length=ps.length):FilledBits s a b l ps:=by
 have ef:s.filled a b l ps=(s.wiped a (b-a)).laidIn l ps ps.length:=by unfold Sl.filled;rw [Int.toNat_natCast,show ((b:Int)-(a:Int)).toNat=b-a from by omega]
 obtain⟨h1,h2⟩:=wiped_may h a (b-a) (by omega);have hk1:(s.wiped a (b-a)).keys.length=s.keys.length:=wiped_keys _ _ _;have H:=laidIn_all h1 ps hr (by rw [hk1];exact hb) (fun j e1 e2=>by rw [h2,show (decide (a<=j)&&decide (j < a+(b-a)))=true from by simp;omega];simp) ps.length (by omega);refine⟨fun j e1 e2=>?_,fun j hj=>?_,?_⟩
 ·rw [ef,H.isB,h2,show (decide (a<=j)&&decide (j < a+(b-a)))=true from by simp;omega]
  simp only [Bool.not_true,Bool.and_false,Bool.false_eq_true,false_or]
  rw [hlen]
 ·have hn:∀ i,i < ps.length->l.getD i 0≠(j:Int):=fun i hi e=>by have:=hr.inn i (by omega);omega
  constructor
  ·rw [Bool.eq_iff_iff,ef,H.isB,h2,show (decide (a<=j)&&decide (j < a+(b-a)))=false from by simp;omega]
   simp only [Bool.not_false,Bool.and_true]
   exact⟨fun e=>e.resolve_right (fun ⟨i,hi,e⟩=>hn i hi e),Or.inl⟩
  ·rw [ef,H.other j hn,wiped_pair s a j (b-a) (by omega)]
 ·rw [ef,laidIn_seg,(wiped_seg s a _).1]
theorem filled_places {s:Sl} (h:s.May) {a b:Nat} {l:List Int} {ps:List (Int×Int)} (hr:Rising l a b) (hab:a<=b) (hb:b<=s.keys.length) (hlen:l.length=ps.length) {p q:Nat} (hp:a<=p) (hq:q<=b) :
  ((Oc.places (s.filled a b l ps).words p q).length:Int)=Sp.cnt l p q:=by
 have F:=filled_bits h hr hab hb hlen
 have e:Oc.places (s.filled a b l ps).words p q=(l.filter (Sp.inB p q)).map Int.toNat:=by
  refine sorted_ext (places_sorted _ _ _) ?_ fun x=>?_
  ·rw [List.pairwise_map]
   refine List.Pairwise.filter _ ?_ |>.imp_of_mem ?_ (R:=fun (x y:Int)=>x < y)
   ·rw [List.pairwise_iff_getElem]
    intro i j hi hj hij;have e1:=hr.up i j hij hj;rw [show l.getD i 0=l[i] from by simp [List.getD,hi],show l.getD j 0=l[j] from by simp [List.getD,hj]] at e1;exact e1
   ·intro x y hx _ hxy
    obtain⟨hx1,_⟩:=List.mem_filter.1 hx;obtain⟨i,hi,rfl⟩:=List.getElem_of_mem hx1;have e2:=hr.inn i hi;rw [show l.getD i 0=l[i] from by simp [List.getD,hi]] at e2
    omega
  ·rw [Oc.mem_places]
   constructor
   ·rintro⟨⟨e1,e2⟩,e3⟩
    obtain⟨i,hi,he⟩:=(F.inn x (by omega) (by omega)).1 e3
    have hm:l.getD i 0∈l:=by rw [show l.getD i 0=l[i] from by simp [List.getD,hi]];exact List.getElem_mem hi
    refine List.mem_map.2 ⟨l.getD i 0,List.mem_filter.2 ⟨hm,?_⟩,by rw [he];simp⟩;rw [he];unfold Sp.inB;rw [decide_eq_true (show (p:Int)<=(x:Int) by omega),decide_eq_true (show (x:Int) < (q:Int) by omega)]
    rfl
   ·intro hx
    obtain⟨z,hz,rfl⟩:=List.mem_map.1 hx;obtain⟨hz1,hz2⟩:=List.mem_filter.1 hz;obtain⟨i,hi,rfl⟩:=List.getElem_of_mem hz1;have e2:=hr.inn i hi;rw [show l.getD i 0=l[i] from by simp [List.getD,hi]] at e2;unfold Sp.inB at hz2
    simp only [Bool.and_eq_true,decide_eq_true_eq] at hz2
    refine⟨⟨by omega,by omega⟩,(F.inn _ (by omega) (by omega)).2 ⟨i,hi,?_⟩⟩;rw [show l.getD i 0=l[i] from by simp [List.getD,hi]]
    omega
 rw [e,List.length_map];unfold Sp.cnt;rw [List.countP_eq_length_filter]
theorem isB_zeros (n i:Nat):Oc.isB (List.replicate n 0) i=false:=by
 unfold Oc.isB;rw [getD_zerosN]
 simp
structure Bare (s:Sl) (t:Sl) (m:Nat):Prop where
 may:t.May
 keys:t.keys.length=m
 seg:t.seg=s.seg
 laid:t.laid=s.laid
 off:∀ i,Oc.isB t.words i=false
 ok:t.Ok
 short:t.Short
theorem base_bare {s:Sl} {m:Nat} (hf:Sl.fitsB s.seg m=true) (hs:In64 s.seg) (hl:s.laid < 18446744073709551616):Bare s (Ly.base s m) m:=by
 obtain⟨f1,f2,f3,f4,f5,f6,f7⟩:=fits_yes hf
 have hq:(m:Int)/s.seg<=65536:=by have:=Int.ediv_le_self (a:=(m:Int)) s.seg (by omega);omega
 have hq0:0<=(m:Int)/s.seg:=Int.ediv_nonneg (by omega) (by omega)
 have hk:(Ly.base s m).keys.length=m:=by show (List.replicate _ _).length=m;rw [List.length_replicate,Int.toNat_natCast]
 have hoff:∀ i,Oc.isB (Ly.base s m).words i=false:=fun i=>isB_zeros _ i;refine⟨⟨?_,?_,?_,fun i _=>hoff i,?_,fun i _=>⟨getD_zeros _ _,getD_zeros _ _⟩,fun j hj=>?_⟩,hk,rfl,rfl,hoff,?_,?_⟩
 ·rw [hk];exact hf
 ·show (List.replicate _ _).length=(List.replicate _ _).length
  simp only [List.length_replicate]
 ·rw [hk]
  show (List.replicate _ _).length=_
  rw [List.length_replicate]
  omega
 ·rw [hk]
  show ((List.replicate _ _).length:Int)=_
  rw [List.length_replicate];exact Int.toNat_of_nonneg hq0
 ·have e:Oc.places (Ly.base s m).words (j*(Ly.base s m).seg.toNat) ((j+1)*(Ly.base s m).seg.toNat)=[]:=by
   rw [List.eq_nil_iff_forall_not_mem];intro x hx;have:=(Oc.mem_places.1 hx).2;rw [hoff] at this
   cases this
  unfold Sl.countOf;rw [e];exact getD_zeros _ _
 ·exact⟨hs,wide_zeros _,all64_zeros _,all64_zeros _,all64_zeros _,hl⟩
 ·refine⟨?_,?_,?_,?_⟩
  ·show (List.replicate _ _).length<=_;rw [List.length_replicate];omega
  ·show (List.replicate _ _).length<=_;rw [List.length_replicate];omega
  ·show (List.replicate _ _).length<=_;rw [List.length_replicate];omega
  ·show (List.replicate _ _).length<=_;rw [List.length_replicate];omega
namespace Ly
theorem into_no {s:Sl} {size:Int} {l:List (Int×Int)} (h:intoE s size l.length≠0):intoS s size l=Sl.none:=by unfold intoS;rw [if_neg h]
theorem into_may {s:Sl} (h:s.mayB=true) (size:Int) (n:Nat):intoE s size n=if Sl.fitsB s.seg size&&decide ((n:Int)<=size) then 0 else 2:=by unfold intoE intoB;rw [if_pos h]
theorem into_bad {s:Sl} (h:s.mayB=false) (size:Int) (n:Nat):intoE s size n=8:=by unfold intoE;rw [h];rfl
end Ly
structure Fine (s:Sl):Prop where
 ok:s.Ok
 short:s.Short
theorem fine_none:Fine Sl.none:=⟨ok_none,short_none⟩
theorem spread_fine {s:Sl} (h:s.Fit 64) (a b:Nat) (hb:b<=65536) (ps:List (Int×Int)) (hn:ps.length<=65536) (h64:In64P ps):Fine (Ly.spreadS s a b ps):=by
 have e:Ly.spreadS s a b ps=(s.wiped a ((b:Int)-(a:Int)).toNat).laidIn (Sp.ofs ps.length a b) ps ps.length:=by
  unfold Ly.spreadS Sl.filled;rw [Int.toNat_natCast]
 have h1:=wiped_fit h a ((b:Int)-(a:Int)).toNat (by omega);have h2:=laidIn_fit h1 (Sp.ofs ps.length a b) ps ps.length (by omega) h64;rw [e];exact⟨h2.ok,h2.short⟩
namespace Ly
theorem pairs_mk {s:Sl} (hm:s.mayB=true) {x y:Nat} (h1:x<=y) (h2:y<=s.keys.length):s.pairsE x y=0/\s.pairsV x y=s.of x y:=by
 have h:s.pairsE x y=0:=by unfold Sl.pairsE;rw [if_pos hm,if_pos (part_iff.2 ⟨by omega,by omega,by omega⟩)]
 exact⟨h,pairsV_ok h⟩
structure Laid (s:Sl) (a b:Nat) (ps:List (Int×Int)):Prop where
 may:(spreadS s a b ps).mayB=true
 keys:(spreadS s a b ps).keys.length=s.keys.length
 inn:(spreadS s a b ps).of a b=ps
 low:(spreadS s a b ps).of 0 a=s.of 0 a
 high:(spreadS s a b ps).of b s.keys.length=s.of b s.keys.length
 laid:(spreadS s a b ps).laid=(s.laid+ps.length) % 18446744073709551616
 bits:FilledBits s a b (Sp.ofs ps.length a b) ps
 at_:∀ k,k < ps.length->(spreadS s a b ps).pairAt ((Sp.ofs ps.length a b).getD k 0).toNat=ps.getD k (0,0)
theorem laid {s:Sl} (hm:s.May) (hl:s.laid < 18446744073709551616) (hk:s.keys.length<=65536) {a b:Nat} (ps:List (Int×Int)) (hn:a+ps.length<=b) (hb:b<=s.keys.length):Laid s a b ps:=by
 obtain⟨r1,r2⟩:=ofs_rising (n:=ps.length) (a:=a) (b:=b) hn (by omega);have F:=filled_ok hm hl r1 (by omega) hb r2;exact⟨may_iff.2 F.may,F.keys,F.inn,F.low,F.high,F.laid,filled_bits hm r1 (by omega) hb r2,fun k hk2=>(F.at_ k (by omega)).2⟩
theorem of_room (s:Sl) {a b:Nat} (h:a<=b):a+(s.of a b).length<=b:=by have:=of_len s a b;omega
theorem even_laid {s:Sl} (hok:s.Ok) (hs:s.Short) {a b:Nat} (he:s.pairsE a b=0):a<=b/\b<=s.keys.length/\s.mayB=true/\evenS s a b=spreadS s a b (s.of a b)/\Laid s a b (s.of a b):=by
 obtain⟨hm,x,y,e1,e2,h1,h2⟩:=pairs_parts he
 obtain rfl:a=x:=by omega
 obtain rfl:b=y:=by omega
 exact⟨h1,h2,hm,even_ok he,laid (may_iff.1 hm) hok.laid hs.keys _ (of_room s h1) h2⟩
theorem of_whole {s:Sl} {a b:Nat} {ps:List (Int×Int)} (L:Laid s a b ps) (h1:a<=b) (h2:b<=s.keys.length):(spreadS s a b ps).of 0 s.keys.length=s.of 0 a++ps++s.of b s.keys.length:=by
 rw [of_split _ 0 a s.keys.length (by omega) (by omega),of_split _ a b s.keys.length (by omega) (by omega),L.low,L.inn,L.high,List.append_assoc]
theorem of_whole_self (s:Sl) {a b:Nat} (h1:a<=b) (h2:b<=s.keys.length):s.of 0 s.keys.length=s.of 0 a++s.of a b++s.of b s.keys.length:=by
 rw [of_split _ 0 a s.keys.length (by omega) (by omega),of_split _ a b s.keys.length (by omega) (by omega),List.append_assoc]
theorem shares {s:Sl} (hok:s.Ok) (hs:s.Short) {t0 t1 p k:Int} (he:s.pairsE t0 t1=0) (hp:Sp.partB (s.pairsV t0 t1).length t0 t1 p k=true) :
  Oc.countE (evenS s t0 t1).words (evenS s t0 t1).keys.length (t0+k*((t1-t0)/p)) (t0+(k+1)*((t1-t0)/p))=0 /\
  Oc.countV (evenS s t0 t1).words (evenS s t0 t1).keys.length (t0+k*((t1-t0)/p)) (t0+(k+1)*((t1-t0)/p))=Sp.shareV (s.pairsV t0 t1).length t0 t1 p k:=by
 obtain⟨hm,a,b,rfl,rfl,h1,h2⟩:=pairs_parts he;obtain⟨_,_,_,ex,L⟩:=even_laid hok hs he;rw [pairsV_ok he] at hp ⊢;rw [ex];obtain⟨sv,_⟩:=Sp.part_yes hp;obtain⟨_,p1,_,p3,p4⟩:=Sp.part_in hp;obtain⟨w1,w2⟩:=Sp.part_w hp;obtain⟨W,hW⟩:∃ W,W=((b:Int)-(a:Int))/p:=⟨_,rfl⟩;rw [<-hW] at w1 w2 sv ⊢;have b1:0<=k*W:=Int.mul_nonneg p3 w2
 have b2:(k+1)*W=k*W+W:=by rw [Int.add_mul,Int.one_mul]
 have b3:(k+1)*W<=p*W:=Int.mul_le_mul_of_nonneg_right (show k+1<=p by omega) w2;rw [w1] at b3;have hk:=hs.keys;obtain⟨P,hP⟩:∃ P:Nat,(a:Int)+k*W=P:=⟨((a:Int)+k*W).toNat,by omega⟩;obtain⟨Q,hQ⟩:∃ Q:Nat,(a:Int)+(k+1)*W=Q:=⟨((a:Int)+(k+1)*W).toNat,by omega⟩;rw [hP,hQ] at sv ⊢;have mX:=may_iff.1 L.may
 have hc:Oc.chk (spreadS s a b (s.of a b)).words (((spreadS s a b (s.of a b)).keys.length:Nat):Int)=0:=by
  unfold Oc.chk;rw [show Oc.badN (((spreadS s a b (s.of a b)).keys.length:Nat):Int)=false from by unfold Oc.badN;rw [L.keys,Bool.or_eq_false_iff,decide_eq_false_iff_not,decide_eq_false_iff_not];omega,Int.toNat_natCast,mayW_iff.2 ⟨mX.wlen,mX.over⟩]
  rfl
 have hE:Oc.countE (spreadS s a b (s.of a b)).words (((spreadS s a b (s.of a b)).keys.length:Nat):Int) P Q=0:=by
  unfold Oc.countE;rw [if_pos hc,if_neg];rw [L.keys]
  omega
 refine⟨hE,?_⟩;unfold Oc.countV;rw [if_pos hE,Int.toNat_natCast,Int.toNat_natCast,sv];obtain⟨r1,r2⟩:=ofs_rising (n:=(s.of a b).length) (a:=a) (b:=b) (of_room s h1) (by omega);exact filled_places (may_iff.1 hm) r1 h1 h2 r2 (p:=P) (q:=Q) (by omega) (by omega)
end Ly
end Go.Proofs.YtpeckljoannolaaGreatDoor
