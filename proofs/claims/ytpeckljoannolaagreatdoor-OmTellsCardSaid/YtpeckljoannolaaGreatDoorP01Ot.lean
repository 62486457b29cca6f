/- Fractions: floats that hold whole numbers, and what package frac returns. -/
import Derived.Test.YtpeckljoannolaaGreatDoorRows
import Derived.Test.YtpeckljoannolaaGreatDoorM01Ot
import Derived.WalkKit
import Derived.WalkSpells
import Derived.WalkLawsBesides
import Derived.Lib.Hide
import Derived.WalkMore
import Derived.ScopeJumps
import Ieee.Arith
import GoSem.Op.Unary
import Derived.Laws.ComplexArith
import Derived.Shelf.Bits.Mul64
import Derived.Test.YtpeckljoannolaaGreatDoorTkOt
set_option linter.unusedVariables false
set_option linter.unusedSimpArgs false
set_option maxHeartbeats 400000
namespace Go.Proofs.YtpeckljoannolaaGreatDoor
open Go.RowKit
theorem fPower (n:Int) (w:World) (h2:n<=9223372036854775807):Calls Tryz.prog 162 #[.int .i64 n] w fun e w'=>e=.returned (.bool (Fr.powB n))/\w=w':=by
 by_cases hn:n < 1
 ·have H:=aq (Fr.powB_not (n:=n) (by omega))
  go_enter Tryz.func162,Tryz.ntmps162
  go_wp2;go_ret;rw [H.out];exact⟨rfl,rfl⟩
 ·have H:=aq (Fr.powB_and n (by omega) h2)
  go_enter Tryz.func162,Tryz.ntmps162
  go_wp2;go_ret;rw [H.out];exact⟨rfl,rfl⟩
def DownJ (w:World) (n:Int) (a':Act) (w':World):Prop :=
 w=w'/\∃ (x:Int) (j:Nat) (u5 u6 u7 u8 u9 u10 u11 u12 u13:Value),a'={ tmps:=#[.int .i64 x,undef,.int .i64 0,.int .i64 0,.int .i64 j,u5,u6,u7,u8,u9,u10,u11,u12,u13],defers:=[] }/\1<=x/\x<=9223372036854775807/\Fr.lg x+j=Fr.lg n
def DownM (a':Act) (_:World):Nat:=(intOf (a'.tmps.getD 0 undef)).toNat
theorem fDown (n:Int) (w:World) (h2:n<=9223372036854775807):Calls Tryz.prog 202 #[.int .i64 n] w fun e w'=>e=.returned (.tuple #[.int .i64 (Fr.downV n),.int .i64 (Fr.downE n)])/\w=w':=by
 by_cases hn:n < 1
 ·have H2:=aq (Fr.down_no hn)
  go_enter Tryz.func202,Tryz.ntmps202
  go_wp2
  go_step3
  go_wp2;rw [Exit.noGoto_ret];go_ret2;rw [H2.out.1,H2.out.2];exact⟨rfl,rfl⟩
 ·have H2:=aq (Fr.down_yes (n:=n) (by omega))
  have hb:=Fr.lg_le n h2
  go_enter Tryz.func202,Tryz.ntmps202
  go_wp2;refine wp_scope_jumps 0 (DownJ w n) DownM rfl ?_ ?_
  ·go_wp2
   go_step3
   go_wp2
   ·go_step3
    refine⟨rfl,rfl,n/2,1,_,_,_,_,_,_,_,_,_,rfl,by omega,by omega,?_⟩;rw [Fr.lg_half n (by omega)];rfl
   ·simp only [Exit.jump]
    go_ret2
    have hx0:n=1:=by omega
    rw [H2.out.1,H2.out.2,hx0,Fr.lg_one];exact⟨rfl,rfl⟩
  ·rintro a' w' ⟨rfl,x,j,u5,u6,u7,u8,u9,u10,u11,u12,u13,rfl,hx1,hx2,hj⟩
   have hx:=Fr.lg_nonneg x
   have hj2:(j:Int)<=62:=by omega
   have HJ:=aq hj;clear hj;go_wp2
   ·go_step3
    refine⟨rfl,⟨rfl,x/2,j+1,_,_,_,_,_,_,_,_,_,rfl,by omega,by omega,?_⟩,?_⟩
    ·have:=HJ.out
     have:=Fr.lg_half x (by omega)
     omega
    ·simp [DownM,intOf];omega
   ·simp only [Exit.jump]
    go_ret2
    have hx0:x=1:=by omega
    have:=HJ.out;rw [hx0,Fr.lg_one] at this;rw [H2.out.1,H2.out.2,<-this]
    simp
end Go.Proofs.YtpeckljoannolaaGreatDoor
namespace Go.Proofs.YtpeckljoannolaaGreatDoor
namespace Flt
open Ieee
theorem log2_mul_pow (n k:Nat) (h:n≠0):(n*2^k).log2=n.log2+k:=by
 have h1:n*2^k≠0:=Nat.mul_ne_zero h (Nat.pos_iff_ne_zero.1 (Nat.two_pow_pos k));rw [Nat.log2_eq_iff h1];have a:=(Nat.log2_eq_iff h (k:=n.log2)).1 rfl
 constructor
 ·rw [Nat.pow_add];exact Nat.mul_le_mul_right _ a.1
 ·rw [show n.log2+k+1=(n.log2+1)+k from by omega,Nat.pow_add]
  exact Nat.mul_lt_mul_of_pos_right a.2 (Nat.two_pow_pos k)
theorem cut_exact (s:Bool) (n d:Nat) (h:d<=n.log2+2) (q:Nat) (e:n=q*2^d):Toward.even.cut s n d=q:=by
 have hp:0 < 2^d:=Nat.two_pow_pos d;unfold Toward.cut
 simp only [Nat.min_eq_left h,Nat.one_shiftLeft]
 have h1:n/2^d=q:=by rw [e];exact Nat.mul_div_cancel _ hp
 have h2:n % 2^d=0:=by rw [e];exact Nat.mul_mod_left _ _
 simp [h1,h2]
theorem kept_exact (s:Bool) (N k L:Nat) (hN:N≠0) (hL:N.log2=L) (h52:L<=52) :
  Toward.even.cut s ((N*2^k) <<< (-(k:Int)-((L:Int)-52)).toNat) (((L:Int)-52) - -(k:Int)).toNat=N*2^(52-L):=by
 by_cases h:k+L<=52
 ·have e1:(-(k:Int)-((L:Int)-52)).toNat=52-L-k:=by omega
  have e2:(((L:Int)-52) - -(k:Int)).toNat=0:=by omega
  rw [e1,e2];refine cut_exact s _ 0 (Nat.zero_le _) _ ?_;rw [Nat.shiftLeft_eq,Nat.mul_assoc,<-Nat.pow_add,Nat.pow_zero,Nat.mul_one]
  congr 2;omega
 ·have e1:(-(k:Int)-((L:Int)-52)).toNat=0:=by omega
  have e2:(((L:Int)-52) - -(k:Int)).toNat=k+L-52:=by omega
  rw [e1,e2];refine cut_exact s _ _ ?_ _ ?_
  ·rw [Nat.shiftLeft_zero,log2_mul_pow _ _ hN,hL];omega
  ·rw [Nat.shiftLeft_zero,Nat.mul_assoc,<-Nat.pow_add]
   congr 2;omega
theorem dbl_least:double.leastPlace=-1074:=by decide
theorem dbl_binade:double.binade=4503599627370496:=by decide
theorem dbl_inf:double.infRung=9218868437227405312:=by decide
theorem dbl_sign:double.signWeight=9223372036854775808:=by decide
theorem dbl_frac:double.fractionBits=52:=rfl
def Is (b:Nat) (s:Bool) (N:Nat):Prop:=∃ k:Nat,double.read b=.number s (N*2^k) (-(k:Int))
theorem zero_is {b:Nat} {s:Bool} (k:Nat) (h:double.read b=.number s 0 (-(k:Int))):Is b s 0:=⟨k,by rw [Nat.zero_mul];exact h⟩
theorem write_is (s:Bool) (N k:Nat) (h:N < 9007199254740992):Is (double.nearest s (N*2^k) (-(k:Int))) s N:=by
 by_cases h0:N=0
 ·subst h0
  rw [Nat.zero_mul];refine zero_is 1074 ?_
  cases s<;>simp [Format.nearest,Format.word,Format.read,dbl_least,dbl_binade,dbl_sign]
 ·have hm:N*2^k≠0:=Nat.mul_ne_zero h0 (Nat.pos_iff_ne_zero.1 (Nat.two_pow_pos k))
  have hL:=(Nat.log2_eq_iff h0 (k:=N.log2)).1 rfl
  have h52:N.log2<=52:=by
   have:N.log2 < 53:=(Nat.log2_lt h0).2 (by simpa using h)
   omega
  refine⟨52-N.log2,?_⟩;unfold Format.nearest;rw [if_neg hm,log2_mul_pow _ _ h0,dbl_least,dbl_frac,dbl_binade,dbl_inf];generalize hg:N.log2=L at *
  have e1:max (-(k:Int)+((L+k:Nat):Int)-((52:Nat):Int)) (-1074)=(L:Int)-52:=by omega
  simp only [e1]
  rw [kept_exact s N k L h0 hg h52]
  have e2:((L:Int)-52 - -1074).toNat=L+1022:=by omega
  rw [e2]
  have hlo:4503599627370496<=N*2^(52-L):=by
   have:2^L*2^(52-L)<=N*2^(52-L):=Nat.mul_le_mul_right _ hL.1;rw [<-Nat.pow_add,show L+(52-L)=52 from by omega] at this;exact this
  have hhi:N*2^(52-L) < 9007199254740992:=by
   have:N*2^(52-L) < 2^(L+1)*2^(52-L):=Nat.mul_lt_mul_of_pos_right hL.2 (Nat.two_pow_pos _);rw [<-Nat.pow_add,show L+1+(52-L)=53 from by omega] at this;exact this
  generalize N*2^(52-L)=K at *
  have e3:min ((L+1022)*4503599627370496+K) 9218868437227405312=(L+1022)*4503599627370496+K:=by omega
  rw [e3]
  have hr:(L+1022)*4503599627370496+K < 9218868437227405312:=by omega
  unfold Format.read Format.word;rw [dbl_sign,dbl_binade,dbl_inf,dbl_least]
  have e4:(if s=true then 9223372036854775808+((L+1022)*4503599627370496+K) else (L+1022)*4503599627370496+K) % 9223372036854775808=(L+1022)*4503599627370496+K:=by
   cases s<;>simp<;>omega
  have e5:((if s=true then 9223372036854775808+((L+1022)*4503599627370496+K) else (L+1022)*4503599627370496+K)/9223372036854775808 % 2==1)=s:=by
   cases s
   ·have:((L+1022)*4503599627370496+K)/9223372036854775808=0:=by omega
    simp [this]
   ·have:(9223372036854775808+((L+1022)*4503599627370496+K))/9223372036854775808=1:=by omega
    simp [this]
  simp only [e4,e5]
  rw [if_neg (by omega),if_pos hr]
  have e6:4503599627370496+((L+1022)*4503599627370496+K) % 4503599627370496=K:=by omega
  have e7:(-1074:Int)+((((L+1022)*4503599627370496+K)/4503599627370496-1:Nat):Int)=-((52-L:Nat):Int):=by omega
  rw [e6,e7]
def IsZ (b:Nat) (z:Int):Prop:=∃ s N,Is b s N/\(if s then -(N:Int) else (N:Int))=z
theorem ofInt_isZ (z:Int) (h:z.natAbs < 9007199254740992):IsZ (double.nearest (decide (z < 0)) z.natAbs 0) z:=by
 refine⟨decide (z < 0),z.natAbs,?_,?_⟩
 ·have:=write_is (decide (z < 0)) z.natAbs 0 h
  simpa using this
 ·by_cases hz:z < 0<;>simp [hz]<;>omega
theorem mul_isZ {x y:Nat} {a b:Int} (hx:IsZ x a) (hy:IsZ y b) (h:(a*b).natAbs < 9007199254740992):∃ r,double.mul x y=some r/\IsZ r (a*b):=by
 obtain⟨s,N,⟨k,hk⟩,rfl⟩:=hx;obtain⟨t,M,⟨j,hj⟩,rfl⟩:=hy;refine⟨_,by rw [Format.mul,hk,hj];rfl,(s ^^ t),N*M,?_,?_⟩
 ·have e:N*2^k*(M*2^j)=N*M*2^(k+j):=by rw [Nat.pow_add,Nat.mul_mul_mul_comm]
  have e2:(-(k:Int)+-(j:Int))=-((k+j:Nat):Int):=by omega
  show Is (double.write (.number (s ^^ t) (N*2^k*(M*2^j)) (-(k:Int)+-(j:Int)))) _ _
  rw [e,e2];refine write_is _ _ _ ?_
  revert h
  cases s<;>cases t<;>simp [Int.natAbs_mul]
 ·cases s<;>cases t<;>simp [Int.neg_mul,Int.mul_neg]
theorem signed_is (s:Bool) (N k K:Nat) (h:k<=K):signed s (N*2^k) (-(k:Int) - -(K:Int)).toNat=(if s then -(N:Int) else N)*2^K:=by
 have e:(-(k:Int) - -(K:Int)).toNat=K-k:=by omega
 rw [e];unfold signed;rw [Nat.shiftLeft_eq,Nat.mul_assoc,<-Nat.pow_add,show k+(K-k)=K from by omega]
 cases s<;>simp [Int.neg_mul]
theorem sum_isZ {d1 d2:Datum} {s t:Bool} {N M k j:Nat} (h1:d1=.number s (N*2^k) (-(k:Int))) (h2:d2=.number t (M*2^j) (-(j:Int)))
  (h:((if s then -(N:Int) else N)+(if t then -(M:Int) else M)).natAbs < 9007199254740992) :
  ∃ r,(d1.sum d2).map double.write=some r/\IsZ r ((if s then -(N:Int) else N)+(if t then -(M:Int) else M)):=by
 subst h1 h2;refine⟨_,rfl,?_⟩
 have eb:min (-(k:Int)) (-(j:Int))=-((max k j:Nat):Int):=by omega
 rw [eb,signed_is s N k _ (by omega),signed_is t M j _ (by omega),<-Int.add_mul];generalize (if s then -(N:Int) else N)+(if t then -(M:Int) else M)=z at *
 have en:(z*2^(max k j)).natAbs=z.natAbs*2^(max k j):=by simp [Int.natAbs_mul,Int.natAbs_pow]
 rw [en];refine⟨_,z.natAbs,write_is _ _ _ h,?_⟩;have hp:(0:Int) < 2^(max k j):=Int.pow_pos (by decide)
 by_cases hz:z=0
 ·subst hz;simp
 ·have hne:z*2^(max k j)≠0:=Int.mul_ne_zero hz (by omega)
  rw [if_neg hne]
  by_cases hn:z < 0
  ·have:z*2^(max k j) < 0:=Int.mul_neg_of_neg_of_pos hn hp
   simp [this];omega
  ·have:¬ z*2^(max k j) < 0:=by
    have:=Int.mul_nonneg (a:=z) (b:=2^(max k j)) (by omega) (by omega)
    omega
   simp [this];omega
theorem add_isZ {x y:Nat} {a b:Int} (hx:IsZ x a) (hy:IsZ y b) (h:(a+b).natAbs < 9007199254740992):∃ r,double.add x y=some r/\IsZ r (a+b):=by
 obtain⟨s,N,⟨k,hk⟩,rfl⟩:=hx;obtain⟨t,M,⟨j,hj⟩,rfl⟩:=hy;exact sum_isZ hk hj h
theorem sub_isZ {x y:Nat} {a b:Int} (hx:IsZ x a) (hy:IsZ y b) (h:(a-b).natAbs < 9007199254740992):∃ r,double.sub x y=some r/\IsZ r (a-b):=by
 obtain⟨s,N,⟨k,hk⟩,rfl⟩:=hx;obtain⟨t,M,⟨j,hj⟩,rfl⟩:=hy
 have e:(if s then -(N:Int) else N)-(if t then -(M:Int) else M)=(if s then -(N:Int) else N)+(if (!t) then -(M:Int) else M):=by
  cases t<;>simp<;>omega
 rw [e] at h ⊢;exact sum_isZ hk (by rw [hj];rfl) h
theorem order_isZ {x y:Nat} {a b:Int} (hx:IsZ x a) (hy:IsZ y b):double.order x y=some (compare a b):=by
 obtain⟨s,N,⟨k,hk⟩,rfl⟩:=hx;obtain⟨t,M,⟨j,hj⟩,rfl⟩:=hy;unfold Format.order;rw [hk,hj]
 show some _=some _
 have eb:min (-(k:Int)) (-(j:Int))=-((max k j:Nat):Int):=by omega
 rw [eb,signed_is s N k _ (by omega),signed_is t M j _ (by omega)];generalize (if s then -(N:Int) else N)=z;generalize (if t then -(M:Int) else M)=u;have hp:(0:Int) < 2^(max k j):=Int.pow_pos (by decide)
 congr 1
 show compareOfLessAndEq _ _=compareOfLessAndEq _ _
 unfold compareOfLessAndEq;have h1:(z*2^(max k j) < u*2^(max k j))↔z < u:=Int.mul_lt_mul_right hp;have h2:(z*2^(max k j)=u*2^(max k j))↔z=u:=Int.mul_eq_mul_right_iff (by omega)
 simp only [h1,h2]
theorem zero_isZ:IsZ 0 0:=⟨false,0,zero_is 1074 (by rfl),rfl⟩
def body (neg:Bool) (rung:Nat):Datum :=
 if rung < 4503599627370496 then .number neg rung (-1074)
 else if rung < 9218868437227405312 then .number neg (4503599627370496+rung % 4503599627370496) (-1074+((rung/4503599627370496-1:Nat):Int))
 else if rung=9218868437227405312 then .infinity neg
 else .nan neg (rung-9218868437227405312)
theorem read_body (b:Nat):double.read b=body (b/9223372036854775808 % 2==1) (b % 9223372036854775808):=by
 unfold Format.read body;rw [dbl_sign,dbl_binade,dbl_inf,dbl_least]
theorem body_opp (neg:Bool) (r:Nat):body (!neg) r=(body neg r).opposite:=by
 unfold body
 split
 ·rfl
 ·split
  ·rfl
  ·split<;>rfl
theorem neg_read (b:Nat):double.read (Go.Op.negFloat .f64 b)=(double.read b).opposite:=by
 rw [read_body,read_body,<-body_opp]
 show body ((b ^^^ 2^63)/2^63 % 2==1) ((b ^^^ 2^63) % 2^63)=body (!(b/2^63 % 2==1)) (b % 2^63)
 have e1:(b ^^^ 2^63) % 2^63=b % 2^63:=by rw [Nat.xor_mod_two_pow];simp
 have e2:(b ^^^ 2^63)/2^63=b/2^63 ^^^ 1:=by rw [Nat.xor_div_two_pow]
 have e3:((b/2^63 ^^^ 1) % 2==1)=!(b/2^63 % 2==1):=by
  have:=Nat.xor_mod_two_pow (a:=b/2^63) (b:=1) (n:=1)
  have h2:b/2^63 % 2=0∨b/2^63 % 2=1:=by omega
  simp only [Nat.pow_one] at this
  rw [this]
  rcases h2 with h | h<;>rw [h]<;>rfl
 rw [e1,e2,e3]
theorem neg_isZ {b:Nat} {z:Int} (h:IsZ b z):IsZ (Go.Op.negFloat .f64 b) (-z):=by
 obtain⟨s,N,⟨k,hk⟩,rfl⟩:=h;refine⟨!s,N,⟨k,by rw [neg_read,hk];rfl⟩,?_⟩
 cases s<;>simp
end Flt
end Go.Proofs.YtpeckljoannolaaGreatDoor
namespace Go.Proofs.YtpeckljoannolaaGreatDoor
open Go.RowKit
theorem all_take (zs:List Int) (k:Nat) (n:Int) (h:k < zs.length) (hn:zs.getD k 0=n):(zs.take (k+1)).all Fr.smallB=((zs.take k).all Fr.smallB&&Fr.smallB n):=by
 rw [List.take_succ_eq_append_getElem h]
 simp only [List.getD,List.getElem?_eq_getElem h,Option.getD_some] at hn
 simp [hn]
theorem all_bad (zs:List Int) (k:Nat) (n:Int) (h:k < zs.length) (hn:zs.getD k 0=n) (hb:Fr.smallB n=false):zs.all Fr.smallB=false:=by
 simp only [List.getD,List.getElem?_eq_getElem h,Option.getD_some] at hn
 rw [List.all_eq_false];exact⟨n,hn▸List.getElem_mem h,by simp [hb]⟩
theorem fSmall (bk off len cap:Nat) (zs:List Int) (w:World) (hz:zs.length=len) (hbig:len<=1000) (hc:∀ j,j < len->w.cell? ⟨bk,off+j,none⟩=some (.int .i64 (zs.getD j 0))) :
  Calls Tryz.prog 226 #[.slice (some ⟨bk,off,none⟩) len cap] w fun e w'=>e=.returned (.bool (zs.all Fr.smallB))/\w=w':=by
 have HC:=aq hc;have HZ:=aq hz;clear hc hz
 go_enter Tryz.func226,Tryz.ntmps226
 go_wp2
 go_loop [7] (fun i=>∃ k:Nat,k<=len/\i=.int .i64 k/\Hid ((zs.take k).all Fr.smallB=true)) (fun i=>len-(intOf i).toNat)
 case atStart=>exact⟨0,Nat.zero_le _,rfl,aq rfl⟩
 case round =>
  obtain⟨k,hk,rfl,HA⟩:=hrel
  by_cases hlt:k < len
  ·obtain⟨n,hn⟩:∃ n,zs.getD k 0=n:=⟨_,rfl⟩
   have hcell:=HC.out k hlt;rw [hn] at hcell;have HN:=aq hn;clear hn
   by_cases h1:-67108864 < n
   ·by_cases h2:n < 67108864
    ·go_wp2
     go_round
     case rel=>exact⟨k+1,by omega,by go_num,aq (by rw [all_take zs k n (by have:=HZ.out;omega) HN.out,HA.out,Fr.small_mk h1 h2];rfl)⟩
     case measure=>simp [intOf];omega
    ·go_wp2
     go_ret;rw [all_bad zs k n (by have:=HZ.out;omega) HN.out (Fr.small_not (by omega))];exact⟨rfl,rfl⟩
   ·go_wp2
    go_ret;rw [all_bad zs k n (by have:=HZ.out;omega) HN.out (Fr.small_not (by omega))];exact⟨rfl,rfl⟩
  ·go_wp2
   go_ret;have:=HA.out;rw [List.take_of_length_le (by have:=HZ.out;omega)] at this;rw [this];exact⟨rfl,rfl⟩
theorem fNaN (x:Nat) (w:World) (h:FloatKind.f64.format.order x x=some .eq):Calls Tryz.prog 240 #[.float .f64 x] w fun e w'=>e=.returned (.bool false)/\w=w':=by
 go_enter Tryz.func240,Tryz.ntmps240
 go_wp2;go_ret;exact⟨rfl,rfl⟩
theorem fCompare (x:Nat) (z:Int) (w:World) (h:Flt.IsZ x z):Calls Tryz.prog 228 #[.float .f64 x,.float .f64 0] w fun e w'=>e=.returned (.int .i64 (Fr.sgn z))/\w=w':=by
 have hx:FloatKind.f64.format.order x x=some .eq:=by
  rw [show FloatKind.f64.format=Ieee.double from rfl,Flt.order_isZ h h];simp
 have h0:FloatKind.f64.format.order 0 0=some .eq:=by
  rw [show FloatKind.f64.format=Ieee.double from rfl,Flt.order_isZ Flt.zero_isZ Flt.zero_isZ];simp
 have hxo:FloatKind.f64.format.order x 0=some (compare z 0):=by
  rw [show FloatKind.f64.format=Ieee.double from rfl,Flt.order_isZ h Flt.zero_isZ]
 have HX:=aq hx;have H0:=aq h0;clear hx h0 h
 rcases Int.lt_trichotomy z 0 with hz | hz | hz
 ·have H:=aq (show Fr.sgn z=-1 by simp [Fr.sgn,hz])
  rw [show compare z 0=.lt from by rw [Int.compare_eq_lt];exact hz] at hxo
  go_enter Tryz.func228,Tryz.ntmps228
  go_wp2_with (go_at_call 240;refine (fNaN _ _ (by first | exact HX.out | exact H0.out)).mono ?_;rintro e w' ⟨rfl,rfl⟩)
  go_ret;rw [H.out];exact⟨rfl,rfl⟩
 ·subst hz
  rw [show compare (0:Int) 0=.eq from by decide] at hxo
  go_enter Tryz.func228,Tryz.ntmps228
  go_wp2_with (go_at_call 240;refine (fNaN _ _ (by first | exact HX.out | exact H0.out)).mono ?_;rintro e w' ⟨rfl,rfl⟩)
  go_ret;exact⟨rfl,rfl⟩
 ·have H:=aq (show Fr.sgn z=1 by unfold Fr.sgn;rw [if_neg (by omega),if_pos hz])
  rw [show compare z 0=.gt from by rw [Int.compare_eq_gt];exact hz] at hxo
  go_enter Tryz.func228,Tryz.ntmps228
  go_wp2_with (go_at_call 240;refine (fNaN _ _ (by first | exact HX.out | exact H0.out)).mono ?_;rintro e w' ⟨rfl,rfl⟩)
  go_ret;rw [H.out];exact⟨rfl,rfl⟩
theorem fTurned (x y:Nat) (w:World):Calls Tryz.prog 227 #[.complex .f64 x y] w fun e w'=>e=.returned (.complex .f64 x (Op.negFloat .f64 y))/\w=w':=by
 have hneg:∀ w:World,Sem.run Tryz.prog (Op.unary .neg (.float .f64 y)) w=.ok (.float .f64 (Op.negFloat .f64 y)) w:=fun _=>rfl
 go_enter Tryz.func227,Tryz.ntmps227
 go_wp2;go_ret;exact⟨rfl,rfl⟩
theorem cmul_isZ {x y u v:Nat} {a b c d:Int} (hx:Flt.IsZ x a) (hy:Flt.IsZ y b) (hu:Flt.IsZ u c) (hv:Flt.IsZ v d)
  (a1:-67108864 < a) (a2:a < 67108864) (b1:-67108864 < b) (b2:b < 67108864) (c1:-67108864 < c) (c2:c < 67108864) (d1:-67108864 < d) (d2:d < 67108864) :
  ∃ re im,cMulBits x y u v=some (re,im)/\Flt.IsZ im (a*d+b*c):=by
 have h1:=Fr.mul_small a1 a2 c1 c2;have h2:=Fr.mul_small b1 b2 d1 d2;have h3:=Fr.mul_small a1 a2 d1 d2;have h4:=Fr.mul_small b1 b2 c1 c2;obtain⟨ac,e1,z1⟩:=Flt.mul_isZ hx hu (by omega);obtain⟨bd,e2,z2⟩:=Flt.mul_isZ hy hv (by omega);obtain⟨re,e3,_⟩:=Flt.sub_isZ z1 z2 (by omega);obtain⟨ad,e4,z4⟩:=Flt.mul_isZ hx hv (by omega);obtain⟨bc,e5,z5⟩:=Flt.mul_isZ hy hu (by omega);obtain⟨im,e6,z6⟩:=Flt.add_isZ z4 z5 (by omega);refine⟨re,im,?_,z6⟩;unfold cMulBits floatBits
 simp only [show FloatKind.f64.format=Ieee.double from rfl,e1,e2,e3,e4,e5,e6,Option.bind_some]
theorem cells4 (w:World) (a b c d:Int) (t:TypeId):∀ j,j < 4->(w.alloc (.cells #[.int .i64 a,.int .i64 b,.int .i64 c,.int .i64 d] t)).cell? ⟨w.heap.size,0+j,none⟩=some (.int .i64 ([a,b,c,d].getD j 0)):=by
 intro j hj
 match j,hj with
 | 0,_=>simp
 | 1,_=>simp
 | 2,_=>simp
 | 3,_=>simp
theorem all4 (a b c d:Int):[a,b,c,d].all Fr.smallB=Fr.small4 a b c d:=by
 simp [Fr.small4,Bool.and_assoc]
theorem fCross_no (a b c d:Int) (w:World) (h:Fr.small4 a b c d=false):Calls Tryz.prog 201 #[.int .i64 a,.int .i64 b,.int .i64 c,.int .i64 d] w fun e w'=>e=.returned (.tuple #[.int .i64 0,.int .i64 10])/\Below w.heap.size w w':=by
 go_enter Tryz.func201,Tryz.ntmps201
 go_wp2_with (go_at_call 226;refine (fSmall w.heap.size 0 4 4 [a,b,c,d] _ rfl (by omega) (cells4 w a b c d _)).mono ?_;rw [all4,h];rintro e w' ⟨rfl,rfl⟩)
 go_ret2;exact⟨rfl,(Below.refl _ _).alloc (Nat.le_refl _) _⟩
theorem fCross_yes (a b c d:Int) (w:World) (h:Fr.small4 a b c d=true):Calls Tryz.prog 201 #[.int .i64 a,.int .i64 b,.int .i64 c,.int .i64 d] w fun e w'=>e=.returned (.tuple #[.int .i64 (Fr.sgn (a*d-b*c)),.int .i64 0])/\Below w.heap.size w w':=by
 have hs:((-67108864 < a/\a < 67108864)/\(-67108864 < b/\b < 67108864))/\(-67108864 < c/\c < 67108864)/\(-67108864 < d/\d < 67108864):=by
  simp only [Fr.small4,Bool.and_eq_true] at h
  exact⟨⟨Fr.small_true h.1.1.1,Fr.small_true h.1.1.2⟩,Fr.small_true h.1.2,Fr.small_true h.2⟩
 obtain⟨re,im,hm,hz⟩:=cmul_isZ (Flt.ofInt_isZ a (by omega)) (Flt.neg_isZ (Flt.ofInt_isZ b (by omega))) (Flt.ofInt_isZ c (by omega)) (Flt.ofInt_isZ d (by omega)) hs.1.1.1 hs.1.1.2 (by omega) (by omega) hs.2.1.1 hs.2.1.2 hs.2.2.1 hs.2.2.2;have hmul:∀ w:World,Sem.run Tryz.prog (binOp .mul 237 (.complex .f64 (floatOfInt .f64 a) (Op.negFloat .f64 (floatOfInt .f64 b))) (.complex .f64 (floatOfInt .f64 c) (floatOfInt .f64 d))) w=.ok (.complex .f64 re im) w:=fun w=>run_complex_mul w _ _ _ _ _ _ _ hm
 have e:a*d+-b*c=a*d-b*c:=by rw [Int.neg_mul];omega
 rw [e] at hz;clear hs hm e;have HZ:=aq hz;clear hz
 go_enter Tryz.func201,Tryz.ntmps201
 go_wp2_with (first | (go_at_call 226;refine (fSmall w.heap.size 0 4 4 [a,b,c,d] _ rfl (by omega) (cells4 w a b c d _)).mono ?_;rw [all4,h];rintro e w' ⟨rfl,rfl⟩) | (go_at_call 227;refine (fTurned _ _ _).mono ?_;rintro e w' ⟨rfl,rfl⟩) | (go_at_call 228;refine (fCompare im _ _ HZ.out).mono ?_;rintro e w' ⟨rfl,rfl⟩))
 go_ret2;exact⟨rfl,(Below.refl _ _).alloc (Nat.le_refl _) _⟩
theorem crossE_no' {a b c d:Int} (h:Fr.small4 a b c d=false):Fr.crossE a b c d=10/\Fr.crossV a b c d=0:=by simp [Fr.crossE,Fr.crossV,h]
theorem crossE_yes' {a b c d:Int} (h:Fr.small4 a b c d=true):Fr.crossE a b c d=0/\Fr.crossV a b c d=Fr.sgn (a*d-b*c):=by simp [Fr.crossE,Fr.crossV,h]
theorem fCross (a b c d:Int) (w:World):Calls Tryz.prog 201 #[.int .i64 a,.int .i64 b,.int .i64 c,.int .i64 d] w fun e w'=>e=.returned (.tuple #[.int .i64 (Fr.crossV a b c d),.int .i64 (Fr.crossE a b c d)])/\Below w.heap.size w w':=by
 cases h:Fr.small4 a b c d
 ·rw [(crossE_no' h).1,(crossE_no' h).2]
  exact fCross_no a b c d w h
 ·rw [(crossE_yes' h).1,(crossE_yes' h).2]
  exact fCross_yes a b c d w h
theorem fBet_bad (a b k n:Int) (w:World) (h:Fr.betBad k n=true):Calls Tryz.prog 217 #[.int .i64 a,.int .i64 b,.int .i64 k,.int .i64 n] w fun e w'=>e=.returned (.tuple #[.int .i64 0,.int .i64 2])/\Below w.heap.size w w':=by
 by_cases h1:n < 1
 ·clear h
  go_enter Tryz.func217,Tryz.ntmps217
  go_wp2;go_ret2;exact⟨rfl,Below.refl _ _⟩
 ·by_cases h2:k < 0
  ·clear h
   go_enter Tryz.func217,Tryz.ntmps217
   go_wp2;go_ret2;exact⟨rfl,Below.refl _ _⟩
  ·have h3:n < k:=by
    simp only [Fr.betBad,Bool.or_eq_true,decide_eq_true_eq] at h;omega
   clear h
   go_enter Tryz.func217,Tryz.ntmps217
   go_wp2;go_ret2;exact⟨rfl,Below.refl _ _⟩
theorem fBet_no (a b k n:Int) (w:World) (h1:1<=n) (h2:0<=k) (h3:k<=n) (h:Fr.small4 a b k n=false):Calls Tryz.prog 217 #[.int .i64 a,.int .i64 b,.int .i64 k,.int .i64 n] w fun e w'=>e=.returned (.tuple #[.int .i64 0,.int .i64 10])/\Below w.heap.size w w':=by
 go_enter Tryz.func217,Tryz.ntmps217
 go_wp2_with (go_at_call 226;refine (fSmall w.heap.size 0 4 4 [a,b,k,n] _ rfl (by omega) (cells4 w a b k n _)).mono ?_;rw [all4,h];rintro e w' ⟨rfl,rfl⟩)
 go_ret2;exact⟨rfl,(Below.refl _ _).alloc (Nat.le_refl _) _⟩
theorem fBet_yes (a b k n:Int) (w:World) (h1:1<=n) (h2:0<=k) (h3:k<=n) (h:Fr.small4 a b k n=true):Calls Tryz.prog 217 #[.int .i64 a,.int .i64 b,.int .i64 k,.int .i64 n] w fun e w'=>e=.returned (.tuple #[.int .i64 (a*(n-k)+b*k),.int .i64 0])/\Below w.heap.size w w':=by
 have hs:((-67108864 < a/\a < 67108864)/\(-67108864 < b/\b < 67108864))/\(-67108864 < k/\k < 67108864)/\(-67108864 < n/\n < 67108864):=by
  simp only [Fr.small4,Bool.and_eq_true] at h
  exact⟨⟨Fr.small_true h.1.1.1,Fr.small_true h.1.1.2⟩,Fr.small_true h.1.2,Fr.small_true h.2⟩
 have g3:=Fr.mul_small hs.1.1.1 hs.1.1.2 (b:=n-k) (by omega) (by omega);have g4:=Fr.mul_small hs.1.2.1 hs.1.2.2 hs.2.1.1 hs.2.1.2
 go_enter Tryz.func217,Tryz.ntmps217
 go_wp2_with (go_at_call 226;refine (fSmall w.heap.size 0 4 4 [a,b,k,n] _ rfl (by omega) (cells4 w a b k n _)).mono ?_;rw [all4,h];rintro e w' ⟨rfl,rfl⟩)
 go_ret2;exact⟨rfl,(Below.refl _ _).alloc (Nat.le_refl _) _⟩
theorem fBetween (a b k n:Int) (w:World):Calls Tryz.prog 217 #[.int .i64 a,.int .i64 b,.int .i64 k,.int .i64 n] w fun e w'=>e=.returned (.tuple #[.int .i64 (Fr.betV a b k n),.int .i64 (Fr.betE a b k n)])/\Below w.heap.size w w':=by
 cases h:Fr.betBad k n
 ·have hh:1<=n/\0<=k/\k<=n:=by
   simp only [Fr.betBad,Bool.or_eq_false_iff,decide_eq_false_iff_not] at h;omega
  cases hs:Fr.small4 a b k n
  ·rw [(Fr.bet_no h hs).1,(Fr.bet_no h hs).2]
   exact fBet_no a b k n w hh.1 hh.2.1 hh.2.2 hs
  ·rw [(Fr.bet_yes h hs).1,(Fr.bet_yes h hs).2]
   exact fBet_yes a b k n w hh.1 hh.2.1 hh.2.2 hs
 ·rw [(Fr.bet_bad h).1,(Fr.bet_bad h).2]
  exact fBet_bad a b k n w h
end Go.Proofs.YtpeckljoannolaaGreatDoor
