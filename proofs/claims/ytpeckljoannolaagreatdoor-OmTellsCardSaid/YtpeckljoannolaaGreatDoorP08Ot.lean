/- Plain facts of parts that are spread. -/
import Derived.Test.YtpeckljoannolaaGreatDoorM11Ot
import Derived.Test.YtpeckljoannolaaGreatDoorP06Ot
import Derived.Test.YtpeckljoannolaaGreatDoorR04Ot
import Derived.Test.YtpeckljoannolaaGreatDoorR01Ot
import Derived.Deep.RegionHeld3
import Derived.Test.YtpeckljoannolaaGreatDoorM08Ot
import Derived.Test.YtpeckljoannolaaGreatDoorTkOt
set_option linter.unusedVariables false
set_option linter.unusedSimpArgs false
namespace Go.Proofs.YtpeckljoannolaaGreatDoor
open Go.RowKit
theorem ofs_rising {n:Nat} {a b:Nat} (h1:a+n<=b) (h2:b<=65536):Rising (Sp.ofs n a b) a b/\(Sp.ofs n a b).length=n:=by
 have hm:Sp.mayB n a b=true:=by
  unfold Sp.mayB;rw [decide_eq_true (show (0:Int)<=(a:Int) by omega),decide_eq_true (show (a:Int)<=(b:Int) by omega),decide_eq_true (show (b:Int)<=65536 by omega),decide_eq_true (show (0:Int)<=(n:Int) by omega),decide_eq_true (show (n:Int)<=(b:Int)-(a:Int) by omega)]
  rfl
 have hl:(Sp.ofs n a b).length=n:=by rw [Sp.ofs_length,Int.toNat_natCast]
 refine⟨⟨fun k hk=>?_,fun i j hij hj=>?_⟩,hl⟩
 ·rw [hl] at hk
  have hk2:k < (n:Int).toNat:=by rw [Int.toNat_natCast];exact hk
  rw [Sp.ofs_at hk2];have:=Sp.plc_bd hm hk2
  omega
 ·rw [hl] at hj
  have up:∀ d:Nat,i+(d+1) < n->Sp.plc n a b i < Sp.plc n a b (i+(d+1)):=by
   intro d
   induction d with
   | zero =>
    intro h;have h3:=(Sp.plc_step (n:=(n:Int)) (f:=(a:Int)) (t:=(b:Int)) (by omega) (by omega) i).1;have h4:=Sp.one_le_step (n:=(n:Int)) (f:=(a:Int)) (t:=(b:Int)) (by omega) (by omega)
    show Sp.plc n a b i < Sp.plc n a b (i+1)
    omega
   | succ d ih =>
    intro h;have h0:=ih (by omega);have h3:=(Sp.plc_step (n:=(n:Int)) (f:=(a:Int)) (t:=(b:Int)) (by omega) (by omega) (i+(d+1))).1;have h4:=Sp.one_le_step (n:=(n:Int)) (f:=(a:Int)) (t:=(b:Int)) (by omega) (by omega)
    show Sp.plc n a b i < Sp.plc n a b (i+(d+1)+1)
    omega
  rw [Sp.ofs_at (by rw [Int.toNat_natCast];omega),Sp.ofs_at (by rw [Int.toNat_natCast];omega)];have:=up (j-i-1) (by omega)
  rwa [show i+(j-i-1+1)=j from by omega] at this
structure FilledBits (s:Sl) (a b:Nat) (l:List Int) (ps:List (Int×Int)):Prop where
 inn:∀ j,a<=j->j < b->(Oc.isB (s.filled a b l ps).words j=true↔∃ i,i < l.length/\l.getD i 0=(j:Int))
 out:∀ j,j < a∨b<=j->Oc.isB (s.filled a b l ps).words j=Oc.isB s.words j/\(s.filled a b l ps).pairAt j=s.pairAt j
 seg:(s.filled a b l ps).seg=s.seg
theorem filled_bits {s:Sl} (h:s.May) {a b:Nat} {l:List Int} {ps:List (Int×Int)} (hr:Rising l a b) (hab:a<=b) (hb:b<=s.keys.length) (hlen:l.length=ps.length):FilledBits s a b l ps:=by
 have ef:s.filled a b l ps=(s.wiped a (b-a)).laidIn l ps ps.length:=by unfold Sl.filled;rw [Int.toNat_natCast,show ((b:Int)-(a:Int)).toNat=b-a from by omega]
 obtain⟨h1,h2⟩:=wiped_may h a (b-a) (by omega);have hk1:(s.wiped a (b-a)).keys.length=s.keys.length:=wiped_keys _ _ _;have H:=laidIn_all h1 ps hr (by rw [hk1];exact hb) (fun j e1 e2=>by rw [h2,show (decide (a<=j)&&decide (j < a+(b-a)))=true from by simp;omega];simp) ps.length (by omega);refine⟨fun j e1 e2=>?_,fun j hj=>?_,?_⟩
 ·rw [ef,H.isB,h2,show (decide (a<=j)&&decide (j < a+(b-a)))=true from by simp;omega]
  simp only [Bool.not_true,Bool.and_false,Bool.false_eq_true,false_or]
  rw [hlen]
 ·have hn:∀ i,i < ps.length->l.getD i 0≠(j:Int):=fun i hi e=>by have:=hr.inn i (by omega);omega
  constructor
  ·rw [Bool.eq_iff_iff,ef,H.isB,h2,show (decide (a<=j)&&decide (j < a+(b-a)))=false from by simp;omega]
   simp only [Bool.not_false,Bool.and_true]
   exact⟨fun e=>e.resolve_right (fun ⟨i,hi,e⟩=>hn i hi e),Or.inl⟩
  ·rw [ef,H.other j hn,wiped_pair s a j (b-a) (by omega)]
 ·rw [ef,laidIn_seg,(wiped_seg s a _).1]
structure Fine (s:Sl):Prop where
 ok:s.Ok
 short:s.Short
theorem fine_none:Fine Sl.none:=⟨ok_none,short_none⟩
namespace Ly
structure Laid (s:Sl) (a b:Nat) (ps:List (Int×Int)):Prop where
 may:(spreadS s a b ps).mayB=true
 keys:(spreadS s a b ps).keys.length=s.keys.length
 inn:(spreadS s a b ps).of a b=ps
 low:(spreadS s a b ps).of 0 a=s.of 0 a
 high:(spreadS s a b ps).of b s.keys.length=s.of b s.keys.length
 laid:(spreadS s a b ps).laid=(s.laid+ps.length) % 18446744073709551616
 bits:FilledBits s a b (Sp.ofs ps.length a b) ps
 at_:∀ k,k < ps.length->(spreadS s a b ps).pairAt ((Sp.ofs ps.length a b).getD k 0).toNat=ps.getD k (0,0)
theorem laid {s:Sl} (hm:s.May) (hl:s.laid < 18446744073709551616) (hk:s.keys.length<=65536) {a b:Nat} (ps:List (Int×Int)) (hn:a+ps.length<=b) (hb:b<=s.keys.length):Laid s a b ps:=by
 obtain⟨r1,r2⟩:=ofs_rising (n:=ps.length) (a:=a) (b:=b) hn (by omega);have F:=filled_ok hm hl r1 (by omega) hb r2;exact⟨may_iff.2 F.may,F.keys,F.inn,F.low,F.high,F.laid,filled_bits hm r1 (by omega) hb r2,fun k hk2=>(F.at_ k (by omega)).2⟩
end Ly
end Go.Proofs.YtpeckljoannolaaGreatDoor
