/- Plain functions of layers 6 to 9. -/
import Derived.Test.YtpeckljoannolaaGreatDoorM01Ot
import Derived.Test.YtpeckljoannolaaGreatDoorP05Ot
import Derived.Test.YtpeckljoannolaaGreatDoorTkOt
set_option linter.unusedVariables false
set_option linter.unusedSimpArgs false
namespace Go.Proofs.YtpeckljoannolaaGreatDoor
namespace Sp
def mayB (n f t:Int):Bool:=decide (0<=f)&&decide (f<=t)&&decide (t<=65536)&&(decide (0<=n)&&decide (n<=t-f))
def plc (n f t:Int) (i:Nat):Int:=f+(i:Int)*(t-f)/n
def ofs (n f t:Int):List Int:=(List.range n.toNat).map (plc n f t)
def inB (a b x:Int):Bool:=decide (a<=x)&&decide (x < b)
def cnt (l:List Int) (a b:Int):Int:=((l.countP (inB a b):Nat):Int)
def cd (x p:Int):Int:=(x+p-1)/p
def ahead (n f t a:Int):Int:=if t-f=0 then 0 else cd ((a-f)*n) (t-f)
theorem mul_add_ediv {p a b:Int} (hp:0 < p):(p*a+b)/p=a+b/p:=by
 rw [Int.add_comm,Int.add_mul_ediv_left _ _ (by omega),Int.add_comm]
theorem may_in {n f t:Int} (h:mayB n f t=true):0<=f/\f<=t/\t<=65536/\0<=n/\n<=t-f:=by
 unfold mayB at h
 simp only [Bool.and_eq_true,decide_eq_true_eq] at h
 exact⟨h.1.1.1,h.1.1.2,h.1.2,h.2.1,h.2.2⟩
theorem ofs_length (n f t:Int):(ofs n f t).length=n.toNat:=by unfold ofs;simp
theorem ofs_at {n f t:Int} {i:Nat} (h:i < n.toNat):(ofs n f t).getD i 0=plc n f t i:=by unfold ofs;simp [List.getD,h]
theorem plc_step {n f t:Int} (hn:0 < n) (hw:0<=t-f) (i:Nat):(t-f)/n<=plc n f t (i+1)-plc n f t i/\plc n f t (i+1)-plc n f t i<=cd (t-f) n:=by
 unfold plc cd;obtain⟨w,hw'⟩:∃ w,w=t-f:=⟨_,rfl⟩;rw [<-hw'] at hw ⊢;rw [show (((i+1:Nat):Int))*w=(i:Int)*w+w from by rw [Int.natCast_add,Int.add_mul];simp];obtain⟨x,hx⟩:∃ x,x=(i:Int)*w:=⟨_,rfl⟩;rw [<-hx];have e1:=Int.mul_ediv_add_emod x n;have e2:=Int.emod_nonneg x (show n≠0 by omega);have e3:=Int.emod_lt_of_pos x hn;have e4:=Int.mul_ediv_add_emod w n;have e5:=Int.emod_nonneg w (show n≠0 by omega);have e6:=Int.emod_lt_of_pos w hn
 have f1:x+w=n*(x/n+w/n)+(x % n+w % n):=by rw [Int.mul_add];omega
 have f2:w+n-1=n*(w/n)+(w % n+(n-1)):=by omega
 obtain⟨q,hq⟩:∃ q,q=x/n:=⟨_,rfl⟩;obtain⟨r,hr⟩:∃ r,r=w/n:=⟨_,rfl⟩;obtain⟨s,hs⟩:∃ s,s=x % n:=⟨_,rfl⟩;obtain⟨u,hu⟩:∃ u,u=w % n:=⟨_,rfl⟩;rw [<-hq,<-hr,<-hs,<-hu] at f1;rw [<-hr,<-hu] at f2;rw [<-hs] at e2 e3;rw [<-hu] at e5 e6;rw [f1,f2,<-hq,<-hr,mul_add_ediv hn,mul_add_ediv hn];have g0:0<=(s+u)/n:=Int.ediv_nonneg (by omega) (by omega);refine⟨by omega,?_⟩
 by_cases hu0:u=0
 ·have:(s+u)/n=0:=Int.ediv_eq_zero_of_lt (by omega) (by omega)
  have g1:0<=(u+(n-1))/n:=Int.ediv_nonneg (by omega) (by omega)
  omega
 ·have g1:1<=(u+(n-1))/n:=by rw [Int.le_ediv_iff_mul_le hn];omega
  have g2:(s+u)/n < 2:=by rw [Int.ediv_lt_iff_lt_mul hn];omega
  omega
theorem one_le_step {n f t:Int} (hn:0 < n) (hw:n<=t-f):1<=(t-f)/n:=by rw [Int.le_ediv_iff_mul_le hn];omega
theorem plc_bd {n f t:Int} (hm:mayB n f t=true) {i:Nat} (hi:i < n.toNat):f<=plc n f t i/\plc n f t i < t:=by
 obtain⟨m1,m2,m3,m4,m5⟩:=may_in hm
 have hn:0 < n:=by omega
 unfold plc;have h0:0<=(i:Int)*(t-f):=Int.mul_nonneg (by omega) (by omega);have h1:0<=(i:Int)*(t-f)/n:=Int.ediv_nonneg h0 (by omega)
 have h2:(i:Int)*(t-f)/n < t-f:=by
  rw [Int.ediv_lt_iff_lt_mul hn,Int.mul_comm (t-f) n];exact Int.mul_lt_mul_of_pos_right (by omega) (by omega)
 omega
end Sp
end Go.Proofs.YtpeckljoannolaaGreatDoor
namespace Go.Proofs.YtpeckljoannolaaGreatDoor
namespace Ly
def spreadS (s:Sl) (a b:Int) (l:List (Int×Int)):Sl:=s.filled a b (Sp.ofs l.length a b) l
def among (l:List (Int×Int)) (k:Nat) (p:Int×Int):List (Int×Int):=l.take k++p::l.drop k
def base (s:Sl) (size:Int):Sl:={ Sl.empty s.seg size with laid:=s.laid }
def wide (s:Sl) (size:Int) (l:List (Int×Int)):Sl:=spreadS (base s size) 0 size l
end Ly
end Go.Proofs.YtpeckljoannolaaGreatDoor
namespace Go.Proofs.YtpeckljoannolaaGreatDoor
namespace Wn
def high (g s:Int):Int:=Fr.lg (s/g)
def wd (g h:Int):Int:=g*2^h.toNat
def lo (g h a:Int):Int:=a/wd g h*wd g h
def hi (g h a:Int):Int:=lo g h a+wd g h
def inB (g s h a:Int):Bool:=decide (0<=h)&&decide (h<=high g s)&&(decide (0<=a)&&decide (a < s))
def askB (g s h a:Int):Bool:=Sl.fitsB g s&&inB g s h a
def askE (g s h a:Int):Int:=if askB g s h a then 0 else 2
def highV (g s:Int):Int:=if Sl.fitsB g s then high g s else 0
def highE (g s:Int):Int:=if Sl.fitsB g s then 0 else 2
def loV (g s h a:Int):Int:=if askB g s h a then lo g h a else 0
def hiV (g s h a:Int):Int:=if askB g s h a then hi g h a else 0
def path (g s a:Int):List (Int×Int):=if askB g s 0 a then (List.range ((high g s).toNat+1)).map fun k:Nat=>(lo g k a,hi g k a) else []
def row (g s h:Int):List (Int×Int):=if askB g s h 0 then (List.range (s/wd g h).toNat).map fun k:Nat=>((k:Int)*wd g h,(k:Int)*wd g h+wd g h) else []
theorem p2_pos (k:Nat):(1:Int)<=2^k:=Fr.pow_pos k
structure Fit (g s:Int) (H:Nat):Prop where
 g1:4<=g
 g2:g<=64
 s0:s=g*2^H
 s1:s<=65536
 hH:high g s=H
 h14:H<=14
theorem fit_of {g s:Int} (h:Sl.fitsB g s=true):∃ H,Fit g s H:=by
 unfold Sl.fitsB at h
 simp only [Bool.and_eq_true,decide_eq_true_eq] at h
 obtain⟨⟨⟨⟨⟨⟨h1,h2⟩,h3⟩,h4⟩,h5⟩,h6⟩,h7⟩:=h;have hp:=(Fr.powB_true h7).1;have h8:=Fr.powB_pow (s/g) hp;rw [h7] at h8
 have h9:(2:Int)^(Fr.lg (s/g)).toNat=s/g:=by simpa using h8.symm
 have hs:s=g*2^(Fr.lg (s/g)).toNat:=by
  rw [h9];have:=Int.mul_ediv_add_emod s g
  omega
 have h0:=Fr.lg_nonneg (s/g);refine⟨(Fr.lg (s/g)).toNat,h1,h2,hs,h5,?_,?_⟩
 ·unfold high;omega
 ·rcases Nat.lt_or_ge 14 (Fr.lg (s/g)).toNat with h10 | h10
  ·exfalso
   have e1:2^15<=2^(Fr.lg (s/g)).toNat:=Nat.pow_le_pow_right (by decide) h10
   have e2:((2^(Fr.lg (s/g)).toNat:Nat):Int)=2^(Fr.lg (s/g)).toNat:=by simp
   have e3:(32768:Int)<=2^(Fr.lg (s/g)).toNat:=by omega
   have:=Int.mul_le_mul h1 e3 (by omega) (by omega)
   omega
  ·exact h10
theorem wd_nat (g:Int) (h:Nat):wd g h=g*2^h:=by unfold wd;rw [Int.toNat_natCast]
theorem wd_pos {g:Int} (hg:4<=g) (h:Int):4<=wd g h:=by
 unfold wd;have:=Int.mul_le_mul hg (p2_pos h.toNat) (by omega) (by omega)
 omega
theorem Fit.top {g s:Int} {H:Nat} (f:Fit g s H):wd g H=s:=by rw [wd_nat,<-f.s0]
theorem Fit.dvd {g s:Int} {H:Nat} (f:Fit g s H) {h:Nat} (hh:h<=H):∃ m:Int,s=wd g h*m/\1<=m:=by
 refine⟨2^(H-h),?_,p2_pos _⟩;rw [f.s0,wd_nat,Int.mul_assoc,<-Int.pow_add,show h+(H-h)=H from by omega]
theorem Fit.wd_le {g s:Int} {H:Nat} (f:Fit g s H) {h:Nat} (hh:h<=H):wd g h<=s:=by
 obtain⟨m,e,hm⟩:=f.dvd hh;have:=wd_pos f.g1 h;have h2:=Int.mul_le_mul_of_nonneg_left hm (show 0<=wd g h by omega)
 omega
theorem lo_le {w a:Int} (hw:0 < w):a/w*w<=a/\a < a/w*w+w:=by
 have h1:=Int.mul_ediv_add_emod a w;have h2:=Int.emod_nonneg a (show w≠0 by omega);have h3:=Int.emod_lt_of_pos a hw;rw [Int.mul_comm] at h1
 omega
end Wn
end Go.Proofs.YtpeckljoannolaaGreatDoor
namespace Go.Proofs.YtpeckljoannolaaGreatDoor
namespace Gp
def cnt (s:Sl) (a b:Int):Int:=((Oc.places s.words a.toNat b.toNat).length:Int)
def many (s:Sl):Int:=cnt s 0 s.keys.length
def tall (c:Cf) (s:Sl):Nat:=(c.high s.keys.length).toNat
def rightB (c:Cf) (s:Sl) (h k:Nat):Bool :=
 c.manyB s.keys.length h (cnt s ((k:Int)*c.wide h) ((k:Int)*c.wide h+c.wide h))&&c.fewB s.keys.length h (cnt s ((k:Int)*c.wide h) ((k:Int)*c.wide h+c.wide h))
def rowB (c:Cf) (s:Sl) (h:Nat) (n:Nat):Bool:=(List.range n).all (rightB c s h)
def rowN (c:Cf) (s:Sl) (h:Nat):Nat:=((s.keys.length:Int)/c.wide h).toNat
def denseB (c:Cf) (s:Sl) (n:Nat):Bool:=(List.range n).all fun h=>rowB c s h (rowN c s h)
def ownB (c:Cf) (s:Sl):Bool:=s.mayB&&(s.seg==c.seg)&&c.isB s.keys.length&&decide (many s<=c.most)&&denseB c s (tall c s+1)
def chkE (c:Cf) (s:Sl):Int:=if c.mayB then (if ownB c s then 0 else 8) else 50
def newS (c:Cf):Sl:=if c.mayB then Sl.empty c.seg c.least else Sl.none
def place (s:Sl) (k:Nat):Nat:=(Oc.places s.words 0 s.keys.length).getD k 0
def home (s:Sl) (k:Int):Nat:=if many s=0 then 0 else place s (k-1).toNat
def topF (p:Nat->Bool):Nat->Int
 | 0=>-1
 | h+1=>if p h then (h:Int) else topF p h
def lo (c:Cf) (h:Int) (a:Nat):Int:=Wn.lo c.seg h a
def hi (c:Cf) (h:Int) (a:Nat):Int:=Wn.hi c.seg h a
def overP (c:Cf) (s:Sl) (a:Nat) (h:Nat):Bool:=!c.manyB s.keys.length h (cnt s (lo c h a) (hi c h a)+1)
def over (c:Cf) (s:Sl) (a:Nat):Int:=topF (overP c s a) (tall c s+1)
def all (s:Sl):List (Int×Int):=s.of 0 s.keys.length
def addS (c:Cf) (s:Sl) (k:Int) (p:Int×Int):Sl :=
 if over c s (home s k)=c.high s.keys.length then Ly.wide s (c.takes (many s+1)) (Ly.among (all s) k.toNat p)
 else Ly.spreadS s (lo c (over c s (home s k)+1) (home s k)) (hi c (over c s (home s k)+1) (home s k))
  (Ly.among (s.of (lo c (over c s (home s k)+1) (home s k)).toNat (hi c (over c s (home s k)+1) (home s k)).toNat) (k-cnt s 0 (lo c (over c s (home s k)+1) (home s k))).toNat p)
def putE (c:Cf) (s:Sl) (k:Int):Int:=if chkE c s=0 then (if 0<=k/\k<=many s then (if many s=c.most then 9 else 0) else 2) else chkE c s
def putS (c:Cf) (s:Sl) (k:Int) (p:Int×Int):Sl:=if putE c s k=0 then addS c s k p else Sl.none
def underP (c:Cf) (s:Sl) (a:Nat) (h:Nat):Bool:=!c.fewB s.keys.length h (cnt s (lo c h a) (hi c h a))
def under (c:Cf) (s:Sl) (a:Nat):Int:=topF (underP c s a) (tall c s+1)
end Gp
end Go.Proofs.YtpeckljoannolaaGreatDoor
namespace Go.Proofs.YtpeckljoannolaaGreatDoor
open Go.RowKit
namespace Wn
theorem in_iff {w a:Int} (hw:0 < w) (k:Int):(k*w<=a/\a < k*w+w)↔a/w=k:=by
 constructor
 ·rintro⟨h1,h2⟩
  have h3:k<=a/w:=(Int.le_ediv_iff_mul_le hw).2 h1;have h4:a/w < k+1:=(Int.ediv_lt_iff_lt_mul hw).2 (by rw [Int.add_mul,Int.one_mul];exact h2)
  omega
 ·intro e
  have q:=lo_le (w:=w) (a:=a) hw;rw [e] at q;exact q
theorem Fit.row_of {g s:Int} {H:Nat} (f:Fit g s H) {h:Nat} (hh:h<=H) (hk:askB g s h 0=true) :
  ∃ n:Nat,1<=n/\(n:Int)*wd g h=s/\row g s h=(List.range n).map fun k:Nat=>((k:Int)*wd g h,(k:Int)*wd g h+wd g h):=by
 obtain⟨m,hm,hm1⟩:=f.dvd hh;have hw:=wd_pos f.g1 (h:Int);refine⟨m.toNat,by omega,?_,?_⟩
 ·rw [Int.toNat_of_nonneg (by omega),hm,Int.mul_comm]
 ·unfold row
  have e:s/wd g h=m:=by rw [hm];exact Int.mul_ediv_cancel_left _ (by omega)
  rw [hk,if_pos rfl,e]
end Wn
end Go.Proofs.YtpeckljoannolaaGreatDoor
