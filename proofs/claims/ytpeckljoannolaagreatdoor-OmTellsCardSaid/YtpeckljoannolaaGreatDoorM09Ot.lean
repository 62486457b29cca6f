/- What Check and Has of package occ return. -/
import Derived.RowKit
import Derived.Test.YtpeckljoannolaaGreatDoorM01Ot
import Derived.Lib.TrailingZeros
import Derived.Test.YtpeckljoannolaaGreatDoorR01Ot
import Derived.Laws.BitsAllLaws
import Derived.Shelf.Spec.TrailingZeros
import Derived.Deep.RegionWith
import Derived.Deep.QuietTactic
import Derived.BigQuiet
import Derived.WalkSmall
import Derived.Below
import Derived.RangeFuncBox
import Derived.Test.YtpeckljoannolaaGreatDoorTkOt
set_option linter.unusedVariables false
set_option linter.unusedSimpArgs false
set_option maxHeartbeats 1000000
namespace Go.Proofs.YtpeckljoannolaaGreatDoor
namespace Oc
def bitsN (n x:Nat):List Nat:=(List.range' 0 n).filter x.testBit
def bitsOf (x:Nat):List Nat:=bitsN 64 x
theorem and_split (k a b M c:Nat) (hb:b < 2^k) (hc:c < 2^k):(2^k*a+b) &&& (2^k*M+c)=2^k*(a &&& M)+(b &&& c):=by
 apply Nat.eq_of_testBit_eq
 intro i;rw [Nat.testBit_and,Nat.testBit_two_pow_mul_add _ hb,Nat.testBit_two_pow_mul_add _ hc,Nat.testBit_two_pow_mul_add _ (Nat.and_lt_two_pow _ hc)]
 split<;>simp [Nat.testBit_and]
def S1 (x m:Nat):Nat:=(x/2 &&& m)+(x &&& m)
def S2 (x m:Nat):Nat:=(x/4 &&& m)+(x &&& m)
def S3 (x m:Nat):Nat:=(x/16+x) &&& m
def m5:Nat->Nat | 0=>0 | n+1=>256*m5 n+85
def m3:Nat->Nat | 0=>0 | n+1=>256*m3 n+51
def mF:Nat->Nat | 0=>0 | n+1=>256*mF n+15
theorem and85 (t u:Nat) (h:u < 128):(128*t+u) &&& 85=u &&& 85:=by
 have:=and_split 7 t u 0 85 h (by decide)
 simpa using this
theorem and51 (t u:Nat) (h:u < 64):(64*t+u) &&& 51=u &&& 51:=by
 have:=and_split 6 t u 0 51 h (by decide)
 simpa using this
theorem and15 (t u:Nat):(16*t+u) &&& 15=u &&& 15:=by
 have h1:=Nat.and_two_pow_sub_one_eq_mod (16*t+u) 4;have h2:=Nat.and_two_pow_sub_one_eq_mod u 4;have e:2^4-1=15:=rfl;rw [e] at h1 h2;rw [h1,h2]
 omega
theorem S1_step (a b M:Nat) (h:b < 256):S1 (256*a+b) (256*M+85)=256*S1 a M+S1 b 85:=by
 unfold S1
 have e1:(256*a+b)/2=2^8*(a/2)+(128*(a % 2)+b/2):=by omega
 have h1:=and_split 8 (a/2) (128*(a % 2)+b/2) M 85 (by omega) (by decide);have h2:=and_split 8 a b M 85 (by omega) (by decide);rw [and85 _ _ (by omega)] at h1;rw [e1]
 simp only [show (2:Nat)^8=256 from rfl] at h1 h2 ⊢
 rw [h1,h2]
 omega
theorem S2_step (a b M:Nat) (h:b < 256):S2 (256*a+b) (256*M+51)=256*S2 a M+S2 b 51:=by
 unfold S2
 have e1:(256*a+b)/4=2^8*(a/4)+(64*(a % 4)+b/4):=by omega
 have h1:=and_split 8 (a/4) (64*(a % 4)+b/4) M 51 (by omega) (by decide);have h2:=and_split 8 a b M 51 (by omega) (by decide);rw [and51 _ _ (by omega)] at h1;rw [e1]
 simp only [show (2:Nat)^8=256 from rfl] at h1 h2 ⊢
 rw [h1,h2]
 omega
theorem S3_step (a b M:Nat) (h:b<=68) (ha:a % 16<=4):S3 (256*a+b) (256*M+15)=256*S3 a M+S3 b 15:=by
 unfold S3
 have e1:(256*a+b)/16+(256*a+b)=2^8*(a/16+a)+(16*(a % 16)+(b/16+b)):=by omega
 have h1:=and_split 8 (a/16+a) (16*(a % 16)+(b/16+b)) M 15 (by omega) (by decide);rw [and15] at h1;rw [e1]
 simp only [show (2:Nat)^8=256 from rfl] at h1 ⊢
 rw [h1]
theorem byte_le:∀ b,b < 256->S1 b 85 < 256/\S2 (S1 b 85) 51<=68/\S2 (S1 b 85) 51 % 16<=4/\S3 (S2 (S1 b 85) 51) 15=(bitsN 8 b).length/\(bitsN 8 b).length<=8:=by decide +kernel
def G:Nat->Nat->Nat | 0,_=>0 | n+1,x=>256*G n (x/256)+(bitsN 8 (x % 256)).length
theorem low16:∀ (n x:Nat),x < 256^n->S2 (S1 x (m5 n)) (m3 n) % 16<=4
 | 0,x,h=>by have:x=0:=by simpa using h
             subst this;decide
 | n+1,x,h=>by
  have hx:x=256*(x/256)+x % 256:=by omega
  obtain⟨h1,_,h3,_,_⟩:=byte_le (x % 256) (by omega);rw [hx,m5,m3,S1_step _ _ _ (by omega),S2_step _ _ _ h1]
  omega
theorem swar:∀ (n x:Nat),x < 256^n->S3 (S2 (S1 x (m5 n)) (m3 n)) (mF n)=G n x
 | 0,x,h=>by have:x=0:=by simpa using h
             subst this;rfl
 | n+1,x,h=>by
  have hx:x=256*(x/256)+x % 256:=by omega
  have hq:x/256 < 256^n:=by rw [Nat.pow_succ] at h;omega
  obtain⟨h1,h2,h3,h4,_⟩:=byte_le (x % 256) (by omega)
  have e:S3 (S2 (S1 (256*(x/256)+x % 256) (m5 (n+1))) (m3 (n+1))) (mF (n+1))=G (n+1) x:=by
   rw [m5,m3,mF,S1_step _ _ _ (by omega),S2_step _ _ _ h1,S3_step _ _ _ h2 (low16 n _ hq),swar n _ hq,h4];rfl
  rwa [← hx] at e
theorem bitsN_split (n x:Nat):(bitsN (8+n) x).length=(bitsN 8 (x % 256)).length+(bitsN n (x/256)).length:=by
 unfold bitsN
 have e:List.range' 0 (8+n)=List.range' 0 8++(List.range' 0 n).map (8+·):=by
  rw [List.map_add_range',<-List.range'_append_1]
 rw [e,List.filter_append,List.length_append,List.filter_map,List.length_map]
 congr 1
 ·congr 1
  apply List.filter_congr
  intro j hj
  have hj8:j < 8:=by simpa using hj
  have:=Nat.testBit_mod_two_pow x 8 j
  simp only [show (2:Nat)^8=256 from rfl,hj8,decide_true,Bool.true_and] at this
  exact this.symm
 ·congr 1
  apply List.filter_congr
  intro j _;have:(x/2^8).testBit j=x.testBit (j+8):=Nat.testBit_div_two_pow _ _
  simp only [show (2:Nat)^8=256 from rfl] at this
  rw [this,Function.comp,Nat.add_comm]
theorem masks:m5 8=6148914691236517205/\m3 8=3689348814741910323/\mF 8=1085102592571150095:=by decide
theorem eight (x:Nat):∃ p0 p1 p2 p3 p4 p5 p6 p7:Nat,(p0<=8/\p1<=8/\p2<=8/\p3<=8/\p4<=8/\p5<=8/\p6<=8/\p7<=8) /\
  G 8 x=p0+256*(p1+256*(p2+256*(p3+256*(p4+256*(p5+256*(p6+256*p7))))))/\(bitsOf x).length=p0+p1+p2+p3+p4+p5+p6+p7:=by
 have hp:∀ y,(bitsN 8 (y % 256)).length<=8:=fun y=>(byte_le (y % 256) (by omega)).2.2.2.2;refine⟨_,_,_,_,_,_,_,_,⟨hp x,hp (x/256),hp (x/256/256),hp (x/256/256/256),hp (x/256/256/256/256),hp (x/256/256/256/256/256),hp (x/256/256/256/256/256/256),hp (x/256/256/256/256/256/256/256)⟩,?_,?_⟩
 ·simp only [G];omega
 ·have e0:(bitsN 0 (x/256/256/256/256/256/256/256/256)).length=0:=rfl
  have s:=bitsN_split;have c1:=s 56 x;have c2:=s 48 (x/256);have c3:=s 40 (x/256/256);have c4:=s 32 (x/256/256/256);have c5:=s 24 (x/256/256/256/256);have c6:=s 16 (x/256/256/256/256/256);have c7:=s 8 (x/256/256/256/256/256/256);have c8:=s 0 (x/256/256/256/256/256/256/256)
  simp only [Nat.reduceAdd] at c1 c2 c3 c4 c5 c6 c7 c8
  unfold bitsOf
  omega
def ones (y:Nat):Nat:=let y4:=y+y/256;let y5:=y4+y4/65536;let y6:=y5+y5/4294967296;y6 % 128
theorem ones_eq (x:Nat):ones (G 8 x)=(bitsOf x).length/\G 8 x < 4611686018427387904/\(bitsOf x).length<=64:=by
 obtain⟨p0,p1,p2,p3,p4,p5,p6,p7,⟨h0,h1,h2,h3,h4,h5,h6,h7⟩,hG,hL⟩:=eight x;rw [hG,hL];refine⟨?_,by omega,by omega⟩
 simp only [ones]
 have a4:∀ y,y=p0+256*(p1+256*(p2+256*(p3+256*(p4+256*(p5+256*(p6+256*p7))))))->y+y/256=(p0+p1)+256*((p1+p2)+256*((p2+p3)+256*((p3+p4)+256*((p4+p5)+256*((p5+p6)+256*((p6+p7)+256*p7)))))):=by intro y hy;omega
 rw [a4 _ rfl]
 have a5:∀ y,y=(p0+p1)+256*((p1+p2)+256*((p2+p3)+256*((p3+p4)+256*((p4+p5)+256*((p5+p6)+256*((p6+p7)+256*p7))))))->∃ r s,y+y/65536=(p0+p1+p2+p3)+256*r+4294967296*((p4+p5+p6+p7)+256*s)/\r < 16777216/2:=by
  intro y hy;refine⟨(p1+p2+p3+p4)+256*((p2+p3+p4+p5)+256*(p3+p4+p5+p6)),(p5+p6+p7)+256*((p6+p7)+256*p7),by omega,by omega⟩
 obtain⟨r,s,hr,hlt⟩:=a5 _ rfl;rw [hr];clear a4 a5 hr hG hL
 have hA:p0+p1+p2+p3<=32:=by omega
 have hB:p4+p5+p6+p7<=32:=by omega
 rw [show p0+p1+p2+p3+p4+p5+p6+p7=(p0+p1+p2+p3)+(p4+p5+p6+p7) from by omega];generalize p0+p1+p2+p3=A at *;generalize p4+p5+p6+p7=B at *
 have e:(A+256*r+4294967296*(B+256*s))/4294967296=B+256*s:=by omega
 rw [e]
 omega
end Oc
end Go.Proofs.YtpeckljoannolaaGreatDoor
namespace Go.Proofs.YtpeckljoannolaaGreatDoor
namespace Oc
theorem bitsN_zero (n:Nat):bitsN n 0=[]:=by simp [bitsN]
theorem bitsOf_split (x k:Nat) (hk:k < 64):bitsOf x=(List.range' 0 k).filter x.testBit++([k].filter x.testBit++(List.range' (k+1) (63-k)).filter x.testBit):=by
 unfold bitsOf bitsN;rw [<-List.filter_append,<-List.filter_append]
 congr 1
 have e1:=List.range'_append (s:=0) (m:=k) (n:=64-k) (step:=1);have e2:=List.range'_append (s:=k) (m:=1) (n:=63-k) (step:=1);rw [show k+(64-k)=64 from by omega] at e1;rw [show 1+(63-k)=64-k from by omega] at e2;rw [<-e1,show 0+1*k=k from by omega,<-e2]
 simp
theorem bitsOf_head {x y k:Nat} (hk:k < 64) (hb:x.testBit k=true) (hl:∀ j,j < k->x.testBit j=false) (hy:∀ j,y.testBit j=(x.testBit j&&!(decide (j=k)))):bitsOf x=k::bitsOf y:=by
 rw [bitsOf_split x k hk,bitsOf_split y k hk]
 have a1:(List.range' 0 k).filter x.testBit=[]:=by
  rw [List.filter_eq_nil_iff];intro j hj;have:j < k:=by simpa using hj
  simp [hl j this]
 have a2:(List.range' 0 k).filter y.testBit=[]:=by
  rw [List.filter_eq_nil_iff];intro j hj;have:j < k:=by simpa using hj
  simp [hy,hl j this]
 have a3:(List.range' (k+1) (63-k)).filter y.testBit=(List.range' (k+1) (63-k)).filter x.testBit:=by
  apply List.filter_congr;intro j hj
  have:k+1<=j:=by rw [List.mem_range'_1] at hj;omega
  rw [hy];have:¬ j=k:=by omega
  simp [this]
 rw [a1,a2,a3]
 simp [hb,hy]
theorem odd_bit (k m j:Nat):(2^k*(2*m+1)).testBit j=if j < k+1 then decide (k=j) else m.testBit (j-(k+1)):=by
 have e:2^k*(2*m+1)=2^(k+1)*m+2^k:=by rw [Nat.pow_succ,Nat.mul_add,Nat.mul_one,<-Nat.mul_assoc]
 rw [e,Nat.testBit_two_pow_mul_add _ (Nat.pow_lt_pow_right (by decide) (by omega))]
 split
 ·rw [Nat.testBit_two_pow]
 ·rfl
theorem odd_pred_bit (k m j:Nat):(2^k*(2*m+1)-1).testBit j=if j < k+1 then decide (j < k) else m.testBit (j-(k+1)):=by
 have hp:=Nat.two_pow_pos k
 have e:2^k*(2*m+1)-1=2^(k+1)*m+(2^k-1):=by
  rw [Nat.pow_succ,Nat.mul_add,Nat.mul_one,<-Nat.mul_assoc,Nat.mul_comm (2^k) 2]
  omega
 have hlt:2^k-1 < 2^(k+1):=by rw [Nat.pow_succ];omega
 rw [e,Nat.testBit_two_pow_mul_add _ hlt]
 split
 ·rw [Nat.testBit_two_pow_sub_one]
 ·rfl
theorem up_round {x:Nat} (h0:x≠0) (h:x < 18446744073709551616):Lib.ctz 64 x < 64/\bitsOf x=Lib.ctz 64 x::bitsOf (x &&& (x-1))/\(x &&& (x-1)) < x:=by
 obtain⟨m,hm,hk⟩:=Lib.ctzFrom_spec 64 x (by omega) h
 have e:Lib.ctz 64 x=Lib.ctzFrom 64 x:=by simp [Lib.ctz,h0]
 rw [e];generalize Lib.ctzFrom 64 x=k at *;refine⟨hk,?_,?_⟩
 ·apply bitsOf_head hk
  ·rw [hm,odd_bit];simp
  ·intro j hj;rw [hm,odd_bit,if_pos (by omega)];simp;omega
  ·intro j
   rw [Nat.testBit_and]
   conv=>lhs;rw [hm]
   conv=>rhs;rw [hm]
   rw [odd_bit,odd_pred_bit]
   by_cases hj:j < k+1
   ·rw [if_pos hj,if_pos hj]
    by_cases hjk:k=j
    ·subst hjk;simp
    ·have:¬ j=k:=fun h=>hjk h.symm
     simp [hjk]
   ·rw [if_neg hj,if_neg hj]
    have:¬ j=k:=by omega
    simp [this]
 ·have:=Nat.and_le_right (n:=x) (m:=x-1)
  omega
theorem andNot_bit {x y:Nat} (hy:y < 18446744073709551616) (hx:x < 18446744073709551616) (j:Nat):(x &&& (18446744073709551615-y)).testBit j=(x.testBit j&&!y.testBit j):=by
 have:=Nat.testBit_two_pow_sub_succ (n:=64) (x:=y) hy j;rw [show (2:Nat)^64-(y+1)=18446744073709551615-y from by omega] at this;rw [Nat.testBit_and,this]
 by_cases hj:j < 64
 ·simp [hj]
 ·have:x.testBit j=false:=Nat.testBit_lt_two_pow (Nat.lt_of_lt_of_le hx (show 2^64<=2^j from Nat.pow_le_pow_right (by decide) (by omega)))
  simp [this]
def low (c:Int):Nat:=2^(min c.toNat 64)-1
theorem low_lt (c:Int):low c < 18446744073709551616:=by
 unfold low;have:2^(min c.toNat 64)<=2^64:=Nat.pow_le_pow_right (by decide) (by omega);have h2:(2:Nat)^64=18446744073709551616:=rfl;have:=Nat.two_pow_pos (min c.toNat 64)
 omega
def cut (x i:Nat) (a b:Int):Nat:=(x &&& low (b-64*i)) &&& (18446744073709551615-low (a-64*i))
theorem cut_lt {x:Nat} (i:Nat) (a b:Int) (h:x < 18446744073709551616):cut x i a b < 18446744073709551616:=by
 unfold cut;exact Nat.lt_of_le_of_lt Nat.and_le_left (Nat.lt_of_le_of_lt Nat.and_le_left h)
theorem cut_bit {x:Nat} (i a b:Nat) {j:Nat} (hx:x < 18446744073709551616) (hj:j < 64):(cut x i a b).testBit j=(x.testBit j&&(decide (a<=64*i+j)&&decide (64*i+j < b))):=by
 unfold cut;rw [andNot_bit (low_lt _) (Nat.lt_of_le_of_lt Nat.and_le_left hx),Nat.testBit_and];unfold low;rw [Nat.testBit_two_pow_sub_one,Nat.testBit_two_pow_sub_one,Bool.and_assoc]
 congr 1
 rw [Bool.eq_iff_iff]
 simp
 omega
def wordAt (ws:List Nat) (i:Nat) (a b:Int):Nat:=cut (ws.getD i 0) i a b
theorem filter_range (ws:List Nat) (c d lo hi:Nat):(List.range' c d).filter (fun s=>isB ws s&&(decide (lo<=s)&&decide (s < hi)))=places ws (max lo c) (min hi (c+d)):=by
 by_cases h:max lo c<=min hi (c+d)
 ·have hc:c<=max lo c:=Nat.le_max_right _ _
  have hd:min hi (c+d)<=c+d:=Nat.min_le_right _ _;have hlo:∀ s,max lo c<=s->lo<=s:=fun s hs=>Nat.le_trans (Nat.le_max_left _ _) hs
  have e:List.range' c d=List.range' c (max lo c-c)++(List.range' (max lo c) (min hi (c+d)-max lo c)++List.range' (min hi (c+d)) (c+d-min hi (c+d))):=by
   have e1:=List.range'_append (s:=max lo c) (m:=min hi (c+d)-max lo c) (n:=c+d-min hi (c+d)) (step:=1);rw [show max lo c+1*(min hi (c+d)-max lo c)=min hi (c+d) from by omega] at e1;have e2:=List.range'_append (s:=c) (m:=max lo c-c) (n:=min hi (c+d)-max lo c+(c+d-min hi (c+d))) (step:=1);rw [show c+1*(max lo c-c)=max lo c from by omega,show max lo c-c+(min hi (c+d)-max lo c+(c+d-min hi (c+d)))=d from by omega] at e2;rw [e1,e2]
  rw [e,List.filter_append,List.filter_append]
  have f1:(List.range' c (max lo c-c)).filter (fun s=>isB ws s&&(decide (lo<=s)&&decide (s < hi)))=[]:=by
   rw [List.filter_eq_nil_iff];intro s hs;rw [List.mem_range'_1] at hs
   have:¬ lo<=s:=by omega
   simp [this]
  have f3:(List.range' (min hi (c+d)) (c+d-min hi (c+d))).filter (fun s=>isB ws s&&(decide (lo<=s)&&decide (s < hi)))=[]:=by
   rw [List.filter_eq_nil_iff];intro s hs;rw [List.mem_range'_1] at hs
   have:¬ s < hi:=by omega
   simp [this]
  rw [f1,f3,List.nil_append,List.append_nil];unfold places
  apply List.filter_congr
  intro s hs;rw [List.mem_range'_1] at hs;have h1:lo<=s:=hlo s (by omega)
  have h2:s < hi:=by omega
  simp [h1,h2]
 ·rw [places_ge _ _ _ (by omega),List.filter_eq_nil_iff]
  intro s hs;rw [List.mem_range'_1] at hs
  by_cases h1:lo<=s
  ·have:¬ s < hi:=by omega
   simp [this]
  ·simp [h1]
theorem cut_places {ws:List Nat} (i a b:Nat) (hw:ws.getD i 0 < 18446744073709551616):(bitsOf (cut (ws.getD i 0) i a b)).map (64*i+·)=places ws (max a (64*i)) (min b (64*i+64)):=by
 rw [<-filter_range]
 have e:List.range' (64*i) 64=(List.range' 0 64).map (64*i+·):=by rw [List.map_add_range',Nat.add_zero]
 rw [e,List.filter_map]
 congr 1
 unfold bitsOf bitsN
 apply List.filter_congr
 intro j hj
 have hj:j < 64:=by simpa using hj
 rw [cut_bit i a b hw hj]
 have q:isB ws (64*i+j)=(ws.getD i 0).testBit j:=by
  unfold isB;rw [show (64*i+j)/64=i from by omega,show (64*i+j) % 64=j from by omega]
 simp only [Function.comp,q]
theorem up_step {ws:List Nat} (i a b:Nat) (hw:ws.getD i 0 < 18446744073709551616) :
  places ws a (min b (64*(i+1)))=places ws a (min b (64*i))++(bitsOf (cut (ws.getD i 0) i a b)).map (64*i+·):=by
 rw [cut_places i a b hw]
 by_cases h1:a<=64*i
 ·rw [Nat.max_eq_right h1]
  by_cases h2:64*i<=b
  ·rw [Nat.min_eq_right h2,show 64*(i+1)=64*i+64 from by omega]
   exact places_split ws a (64*i) _ h1 (by omega)
  ·rw [places_ge ws (64*i) _ (by omega),List.append_nil,Nat.min_eq_left (by omega),Nat.min_eq_left (by omega)]
 ·rw [Nat.max_eq_left (by omega),places_ge ws a (min b (64*i)) (by omega),List.nil_append,show 64*(i+1)=64*i+64 from by omega]
theorem cut_zero {x:Nat} (h:x < 18446744073709551616):(x != 0)=!(bitsOf x).isEmpty:=by
 by_cases h0:x=0
 ·subst h0;simp [bitsOf,bitsN]
 ·rw [(up_round h0 h).2.1]
  simp [h0]
end Oc
end Go.Proofs.YtpeckljoannolaaGreatDoor
namespace Go.Proofs.YtpeckljoannolaaGreatDoor
open Go.RowKit
theorem oWordsOf (n:Int) (w:World) (h0:0<=n) (h1:n<=4194304):Calls Tryz.prog 122 #[.int .i64 n] w fun e w'=>e=.returned (.int .i64 ((n+63)/64))/\w=w':=by
 go_enter Tryz.func122,Tryz.ntmps122
 go_wp2;go_ret;exact⟨by go_num,rfl⟩
theorem wrap_low (c:Int):IntKind.u64.wrap (IntKind.u64.wrap (2^min c.toNat 64)-1)=(Oc.low c:Int):=by
 rw [IntKind.wrap_u64,IntKind.wrap_u64];unfold Oc.low;have hp:=Nat.two_pow_pos (min c.toNat 64)
 have hc:((2:Int)^min c.toNat 64)=((2^min c.toNat 64:Nat):Int):=by simp
 rw [hc]
 rcases Nat.lt_or_ge (min c.toNat 64) 64 with h | h
 ·have:2^min c.toNat 64 < 2^64:=Nat.pow_lt_pow_right (by decide) h
  have h2:(2:Nat)^64=18446744073709551616:=rfl;generalize 2^min c.toNat 64=y at *
  omega
 ·have:min c.toNat 64=64:=by omega
  rw [this]
  decide
theorem oLow (c:Int) (w:World):Calls Tryz.prog 174 #[.int .i64 c] w fun e w'=>e=.returned (.int .u64 (Oc.low c:Int))/\w=w':=by
 have H:=aq (wrap_low c)
 go_enter Tryz.func174,Tryz.ntmps174
 go_wp2
 ·go_ret
  have:Oc.low c=0:=by unfold Oc.low;rw [show c.toNat=0 from by omega];rfl
  rw [this];exact⟨rfl,rfl⟩
 ·go_ret
  rw [H.out];exact⟨rfl,rfl⟩
theorem ones_keys (x:Nat) (hx:x < 18446744073709551616):∃ y1 y2 y3 y4 y5 y6:Nat,
  IntKind.u64.wrap (bits BinOp.and IntKind.u64 ((x:Int)/2) 6148914691236517205+bits BinOp.and IntKind.u64 (x:Int) 6148914691236517205)=(y1:Int) /\
  IntKind.u64.wrap (bits BinOp.and IntKind.u64 ((y1:Int)/4) 3689348814741910323+bits BinOp.and IntKind.u64 (y1:Int) 3689348814741910323)=(y2:Int) /\
  bits BinOp.and IntKind.u64 (IntKind.u64.wrap ((y2:Int)/16+(y2:Int))) 1085102592571150095=(y3:Int) /\
  IntKind.u64.wrap ((y3:Int)+(y3:Int)/256)=(y4:Int)/\IntKind.u64.wrap ((y4:Int)+(y4:Int)/65536)=(y5:Int)/\IntKind.u64.wrap ((y5:Int)+(y5:Int)/4294967296)=(y6:Int) /\
  y6 % 128=(Oc.bitsOf x).length/\y6 < 9223372036854775808/\(Oc.bitsOf x).length<=64:=by
 obtain⟨e5,e3,eF⟩:=Oc.masks
 have and_eq:∀ a m:Nat,a < 18446744073709551616->m < 18446744073709551616->bits .and .u64 (a:Int) (m:Int)=((a &&& m:Nat):Int):=bits_and_u64_nat
 have hand:∀ a m:Nat,(a &&& m)<=m:=fun a m=>Nat.and_le_right;have sw:=Oc.swar 8 x (by simpa using hx);rw [e5,e3,eF] at sw;obtain⟨o1,o2,o3⟩:=Oc.ones_eq x
 have w1:Oc.S1 x 6148914691236517205 < 18446744073709551616:=by
  unfold Oc.S1;have:=hand (x/2) 6148914691236517205;have:=hand x 6148914691236517205;omega
 have w2:Oc.S2 (Oc.S1 x 6148914691236517205) 3689348814741910323 < 9223372036854775808:=by
  unfold Oc.S2;have:=hand (Oc.S1 x 6148914691236517205/4) 3689348814741910323;have:=hand (Oc.S1 x 6148914691236517205) 3689348814741910323;omega
 have g4:Oc.G 8 x+Oc.G 8 x/256 < 5000000000000000000:=by omega
 have key1:∀ z:Nat,(z:Int)/2=((z/2:Nat):Int):=fun z=>by omega
 have key2:∀ z:Nat,(z:Int)/4=((z/4:Nat):Int):=fun z=>by omega
 refine⟨Oc.S1 x 6148914691236517205,Oc.S2 (Oc.S1 x 6148914691236517205) 3689348814741910323,Oc.G 8 x,Oc.G 8 x+Oc.G 8 x/256,(Oc.G 8 x+Oc.G 8 x/256)+(Oc.G 8 x+Oc.G 8 x/256)/65536,
  ((Oc.G 8 x+Oc.G 8 x/256)+(Oc.G 8 x+Oc.G 8 x/256)/65536)+((Oc.G 8 x+Oc.G 8 x/256)+(Oc.G 8 x+Oc.G 8 x/256)/65536)/4294967296,?_,?_,?_,?_,?_,?_,o1,?_,o3⟩
 ·have a1:=and_eq (x/2) 6148914691236517205 (by omega) (by decide)
  have a2:=and_eq x 6148914691236517205 hx (by decide);rw [key1];refine (congrArg IntKind.u64.wrap (congr (congrArg HAdd.hAdd a1) a2)).trans ?_;rw [IntKind.wrap_u64];unfold Oc.S1 at w1 ⊢
  omega
 ·generalize Oc.S1 x 6148914691236517205=y at *
  have a1:=and_eq (y/4) 3689348814741910323 (by omega) (by decide);have a2:=and_eq y 3689348814741910323 w1 (by decide);rw [key2];refine (congrArg IntKind.u64.wrap (congr (congrArg HAdd.hAdd a1) a2)).trans ?_;rw [IntKind.wrap_u64];unfold Oc.S2 at w2 ⊢
  omega
 ·generalize Oc.S2 (Oc.S1 x 6148914691236517205) 3689348814741910323=y at *
  have e:IntKind.u64.wrap ((y:Int)/16+(y:Int))=((y/16+y:Nat):Int):=by rw [IntKind.wrap_u64];omega
  rw [e];refine (and_eq (y/16+y) 1085102592571150095 (by omega) (by decide)).trans ?_;rw [<-sw];rfl
 ·generalize Oc.G 8 x=y at *
  rw [IntKind.wrap_u64];omega
 ·generalize Oc.G 8 x+Oc.G 8 x/256=y at *
  rw [IntKind.wrap_u64];omega
 ·generalize Oc.G 8 x+Oc.G 8 x/256=y at *
  rw [IntKind.wrap_u64];omega
 ·generalize Oc.G 8 x+Oc.G 8 x/256=y at *
  omega
theorem and127 (y:Nat) (hy:y < 9223372036854775808):bits .and .i64 (wrap64 (y:Int)) 127=((y % 128:Nat):Int):=by
 have e:wrap64 (y:Int)=(y:Int):=IntWalk.wrap64_in _ (by omega);rw [e]
 have h1:(BitVec.ofInt 64 (y:Int)).toNat=y:=by
  rw [BitVec.ofInt_natCast,BitVec.toNat_ofNat];exact Nat.mod_eq_of_lt (by omega)
 have h2:(BitVec.ofInt 64 (127:Int)).toNat=127:=by decide
 show IntKind.i64.wrap ((BitVec.ofInt 64 (y:Int) &&& BitVec.ofInt 64 (127:Int)).toNat:Int)=_
 rw [BitVec.toNat_and,h1,h2];have h3:=Nat.and_two_pow_sub_one_eq_mod y 7;rw [show 2^7-1=127 from rfl,show 2^7=128 from rfl] at h3;rw [h3]
 have hm:y % 128 < 128:=by omega
 generalize y % 128=z at *;exact IntWalk.i64_in _ (by omega)
theorem oOnes (x:Nat) (w:World) (hx:x < 18446744073709551616):Calls Tryz.prog 123 #[.int .u64 (x:Int)] w fun e w'=>e=.returned (.int .i64 ((Oc.bitsOf x).length:Int))/\w=w':=by
 obtain⟨y1,y2,y3,y4,y5,y6,k1,k2,k3,k4,k5,k6,k7,k8,k9⟩:=ones_keys x hx;have k10:=and127 y6 k8;rw [k7] at k10;have K:=aq (And.intro k1 (And.intro k2 (And.intro k3 (And.intro k4 (And.intro k5 (And.intro k6 k10))))));clear k1 k2 k3 k4 k5 k6 k7 k9 k10
 go_enter Tryz.func123,Tryz.ntmps123
 go_wp2;go_ret;obtain⟨k1,k2,k3,k4,k5,k6,k10⟩:=K.out;rw [k1,k2,k3,k4,k5,k6];rw [k10];exact⟨rfl,rfl⟩
theorem oTz_core (x k idx:Nat) (w:World) (hx0:((x:Int)==0)=false)
  (key:IntKind.u64.wrap (bits BinOp.and IntKind.u64 (x:Int) (IntKind.u64.wrap (-(x:Int)))*285870213051353865)/288230376151711744=(idx:Int))
  (hi:idx < 64) (hk:k < 64) (hcell:w.cell? ⟨0,idx,none⟩=some (.int .u8 k)) :
  Calls Tryz.prog 184 #[.int .u64 x] w fun e w'=>e=.returned (.int .i64 k)/\w=w':=by
 go_enter Tryz.func184,Tryz.ntmps184
 go_wp2_with (simp only [key])
 go_ret;exact⟨rfl,rfl⟩
theorem oTz_zero (w:World):Calls Tryz.prog 184 #[.int .u64 0] w fun e w'=>e=.returned (.int .i64 64)/\w=w':=by
 go_enter Tryz.func184,Tryz.ntmps184
 go_wp2;go_ret;exact⟨rfl,rfl⟩
def Tab (w:World):Prop:=0 < w.heap.size/\TabAt 0 Lib.deBruijn64tab w
theorem Tab.below {w w':World} (h:Tab w) (hb:Below w.heap.size w w'):Tab w' :=
 ⟨Nat.lt_of_lt_of_le h.1 hb.size,fun j hj=>(hb.cell (p:=⟨0,j,none⟩) h.1).trans (h.2 j hj)⟩
theorem Tab.keeps {w w':World} {n:Nat} (h:Tab w) (hn:0 < n) (hb:Below n w w'):Tab w' :=
 ⟨Nat.lt_of_lt_of_le h.1 hb.size,fun j hj=>(hb.cell (p:=⟨0,j,none⟩) hn).trans (h.2 j hj)⟩
theorem oTz (x:Nat) (w:World) (hx:x < 18446744073709551616) (hT:Tab w):Calls Tryz.prog 184 #[.int .u64 x] w fun e w'=>e=.returned (.int .i64 (Lib.ctz 64 x))/\w=w':=by
 by_cases hx0:x=0
 ·subst hx0
  exact oTz_zero w
 ·obtain⟨hlow,hk⟩:=Lib.lowest_bit 64 x hx0 hx
  obtain⟨hi,htab⟩:=Lib.deBruijn64_at _ hk;have hcell:=hT.2 _ hi;rw [htab] at hcell;exact oTz_core x _ _ w (by simp;omega) (tz64_key x _ hx hx0 hlow) hi hk hcell
theorem boxed_below {w w':World} {n b:Nat} {t:TypeId} {v:Value} (h:Boxed w b t v) (hn:b < n) (hb:Below n w w'):Boxed w' b t v:=(hb.block b hn).trans h
structure Part (w:World) (b1 b2 b3:Nat) (a:Option Addr) (len cap:Nat) (p q:Int):Prop where
 x1:Boxed w b1 24 (.slice a len cap)
 x2:Boxed w b2 3 (.int .i64 q)
 x3:Boxed w b3 3 (.int .i64 p)
theorem Part.below {w w':World} {b1 b2 b3 len cap:Nat} {a:Option Addr} {p q:Int} (h:Part w b1 b2 b3 a len cap p q) (hb:Below w.heap.size w w'):Part w' b1 b2 b3 a len cap p q :=
 ⟨boxed_below h.x1 h.x1.lt hb,boxed_below h.x2 h.x2.lt hb,boxed_below h.x3 h.x3.lt hb⟩
def PartPost (a:Option Addr) (len cap:Nat) (p q:Int) (w:World) (e:Ending) (w':World):Prop :=
 ∃ b1 b2 b3,e=.returned (.func (.func 173) #[] #[.pointer (some ⟨b1,0,none⟩),.pointer (some ⟨b2,0,none⟩),.pointer (some ⟨b3,0,none⟩)])/\Part w' b1 b2 b3 a len cap p q/\Below w.heap.size w w'
theorem oPart (a:Option Addr) (len cap:Nat) (p q:Int) (w:World):Calls Tryz.prog 121 #[.slice a len cap,.int .i64 p,.int .i64 q] w (PartPost a len cap p q w):=by
 go_enter Tryz.func121,Tryz.ntmps121
 go_wp2;go_ret;refine⟨_,_,_,rfl,?_,?_⟩
 ·exact⟨((Boxed.new w _ _).alloc _).alloc _,by have:=Boxed.new ((w.alloc (.cells #[.slice a len cap] 24)).alloc (.cells #[.int .i64 p] 3)) 3 (.int .i64 q);rwa [World.size_alloc,World.size_alloc] at this,
   by have:=(Boxed.new (w.alloc (.cells #[.slice a len cap] 24)) 3 (.int .i64 p)).alloc (.cells #[.int .i64 q] 3);rwa [World.size_alloc] at this⟩
 ·exact (((Below.refl _ _).alloc (Nat.le_refl _) _).alloc (by simp) _).alloc (by simp;omega) _
theorem cut_key (x i:Nat) (p q:Int) (hx:x < 18446744073709551616):bits .andNot .u64 (bits .and .u64 (x:Int) (Oc.low (q-(i:Int)*64):Int)) (Oc.low (p-(i:Int)*64):Int)=(Oc.cut x i p q:Int):=by
 rw [bits_and_u64_nat x _ hx (Oc.low_lt _),u64_andNot_nat _ _ (Nat.lt_of_le_of_lt Nat.and_le_left hx) (Oc.low_lt _),Int.mul_comm (i:Int) 64]
 rfl
theorem oWord (a:Option Addr) (cap:Nat) (ws:List Nat) (p q:Int) (i b1 b2 b3:Nat) (w:World) (hP:Part w b1 b2 b3 a ws.length cap p q) (hl:Lst .u64 w a (ints ws)) (hw:Wide ws) (hi:i < ws.length) (hn:ws.length<=65536)
  (hp:0<=p) (hp1:p<=4194304) (hq:0<=q) (hq1:q<=4194304) :
  Calls Tryz.prog 173 #[.int .i64 (i:Int),.pointer (some ⟨b1,0,none⟩),.pointer (some ⟨b2,0,none⟩),.pointer (some ⟨b3,0,none⟩)] w fun e w'=>e=.returned (.int .u64 (Oc.cut (ws.getD i 0) i p q:Int))/\Below w.heap.size w w':=by
 obtain⟨b,off,rfl,_,hc⟩:=hl.word hi;have hx:=hw i;have c1:=hP.x1.cell;have c2:=hP.x2.cell;have c3:=hP.x3.cell;clear hl hw hP;have H:=aq (cut_key (ws.getD i 0) i p q hx);generalize ws.getD i 0=x at *;generalize ws.length=n at *
 go_enter Tryz.func173,Tryz.ntmps173
 go_wp2
 go_quiet ((go_at_call 174;exact Calls.quiet_of_same ((oLow _ _).mono fun _ _ h=>⟨h.1,h.2.symm⟩)))
 go_wp2;go_ret;rw [H.out];exact⟨rfl,below_drewN (Below.refl _ _) nq⟩
theorem oWord' (a:Option Addr) (cap:Nat) (ws:List Nat) (p q i:Int) (k b1 b2 b3:Nat) (w:World) (hP:Part w b1 b2 b3 a ws.length cap p q) (hl:Lst .u64 w a (ints ws)) (hw:Wide ws) (hk:i=k) (hi:k < ws.length) (hn:ws.length<=65536)
  (hp:0<=p) (hp1:p<=4194304) (hq:0<=q) (hq1:q<=4194304) :
  Calls Tryz.prog 173 #[.int .i64 i,.pointer (some ⟨b1,0,none⟩),.pointer (some ⟨b2,0,none⟩),.pointer (some ⟨b3,0,none⟩)] w fun e w'=>e=.returned (.int .u64 (Oc.wordAt ws k p q:Int))/\Below w.heap.size w w':=by
 subst hk;exact oWord a cap ws p q k b1 b2 b3 w hP hl hw hi hn hp hp1 hq hq1
theorem check_word {ws:List Nat} {n:Nat} (hw:Wide ws) (h0:0 < n) (hlen:ws.length=(n+63)/64) :
  (((Oc.wordAt ws (ws.length-1) (n:Int) ((ws.length:Int)*64):Nat):Int) != 0)=!Oc.clearB ws n:=by
 unfold Oc.wordAt
 have e:(ws.length:Int)*64=((64*ws.length:Nat):Int):=by omega
 rw [e];have h1:=Oc.cut_zero (Oc.cut_lt (ws.length-1) (n:Int) ((64*ws.length:Nat):Int) (hw (ws.length-1)));have h2:=Oc.cut_places (ws:=ws) (ws.length-1) n (64*ws.length) (hw _);rw [Nat.max_eq_left (by omega),Nat.min_eq_left (by omega)] at h2
 have h3:(((Oc.cut (ws.getD (ws.length-1) 0) (ws.length-1) (n:Int) ((64*ws.length:Nat):Int):Nat):Int) != 0)=(Oc.cut (ws.getD (ws.length-1) 0) (ws.length-1) (n:Int) ((64*ws.length:Nat):Int) != 0):=by
  rw [Bool.eq_iff_iff];simp
 rw [h3,h1];unfold Oc.clearB;rw [<-h2,List.isEmpty_map]
theorem oCheck (a:Option Addr) (cap:Nat) (ws:List Nat) (n:Int) (w:World) (hl:Lst .u64 w a (ints ws)) (hw:Wide ws) (hn:ws.length<=65536) :
  Calls Tryz.prog 120 #[.slice a ws.length cap,.int .i64 n] w fun e w'=>e=.returned (.int .i64 (Oc.chk ws n))/\Below w.heap.size w w':=by
 have HL:=aq hl;have HW:=aq hw;clear hl hw
 by_cases h1:n < 0
 ·have H:=aq (show Oc.chk ws n=2 by simp [Oc.chk,Oc.badN,h1])
  go_enter Tryz.func120,Tryz.ntmps120
  go_wp2;go_ret;rw [H.out];exact⟨rfl,Below.refl _ _⟩
 by_cases h2:65536 < n
 ·have H:=aq (show Oc.chk ws n=2 by simp [Oc.chk,Oc.badN,h2])
  go_enter Tryz.func120,Tryz.ntmps120
  go_wp2;go_ret;rw [H.out];exact⟨rfl,Below.refl _ _⟩
 obtain⟨m,rfl⟩:=Int.eq_ofNat_of_zero_le (show 0<=n by omega)
 have h3:Oc.badN (m:Int)=false:=by simp [Oc.badN];omega
 by_cases h4:ws.length=(m+63)/64
 ·by_cases h0:m=0
  ·subst h0
   have hnil:ws=[]:=List.eq_nil_of_length_eq_zero (by omega);subst hnil;have H:=aq (show Oc.chk [] ((0:Nat):Int)=0 by decide);clear h3 h4
   go_enter Tryz.func120,Tryz.ntmps120
   go_wp2_with (go_at_call 122;refine (oWordsOf _ _ (by omega) (by omega)).mono ?_;rintro e w' ⟨rfl,rfl⟩)
   go_ret;rw [H.out];exact⟨rfl,Below.refl _ _⟩
  ·have k1:((ws.length:Int) != ((m:Int)+63)/64)=false:=by simp;omega
   have k0:0 < (m:Int):=by omega
   have KW:=check_word HW.out (show 0 < m by omega) h4
   have hpos:0 < ws.length:=by omega
   cases h5:Oc.clearB ws m
   ·have H:=aq (show Oc.chk ws (m:Int)=8 by simp [Oc.chk,h3,Oc.mayB,h5])
    rw [h5] at KW
    simp only [Bool.not_false] at KW
    have H4:=aq h4;clear h3 h4 h5
    go_enter Tryz.func120,Tryz.ntmps120
    go_wp2_with (first | (go_at_call 122;refine (oWordsOf _ _ (by omega) (by omega)).mono ?_;rintro e w' ⟨rfl,rfl⟩) | (go_at_call 121;refine (oPart a ws.length cap _ _ _).mono ?_;rintro e w1 ⟨b1,b2,b3,rfl,hP,hb1⟩) | (go_at_call 173;refine (oWord' a cap ws _ _ _ (ws.length-1) b1 b2 b3 _ hP (HL.out.below hb1) HW.out (by omega) (by omega) hn (by omega) (by omega) (by omega) (by omega)).mono ?_;rintro e w2 ⟨rfl,hb2⟩))
    go_ret;rw [H.out];exact⟨rfl,hb1.trans (hb2.mono hb1.size)⟩
   ·have H:=aq (show Oc.chk ws (m:Int)=0 by simp [Oc.chk,h3,Oc.mayB,h5];omega)
    rw [h5] at KW
    simp only [Bool.not_true] at KW
    have H4:=aq h4;clear h3 h4 h5
    go_enter Tryz.func120,Tryz.ntmps120
    go_wp2_with (first | (go_at_call 122;refine (oWordsOf _ _ (by omega) (by omega)).mono ?_;rintro e w' ⟨rfl,rfl⟩) | (go_at_call 121;refine (oPart a ws.length cap _ _ _).mono ?_;rintro e w1 ⟨b1,b2,b3,rfl,hP,hb1⟩) | (go_at_call 173;refine (oWord' a cap ws _ _ _ (ws.length-1) b1 b2 b3 _ hP (HL.out.below hb1) HW.out (by omega) (by omega) hn (by omega) (by omega) (by omega) (by omega)).mono ?_;rintro e w2 ⟨rfl,hb2⟩))
    go_ret;rw [H.out];exact⟨rfl,hb1.trans (hb2.mono hb1.size)⟩
 ·have H:=aq (show Oc.chk ws (m:Int)=8 by simp [Oc.chk,h3,Oc.mayB,h4])
  have k1:((ws.length:Int) != ((m:Int)+63)/64)=true:=by simp;omega
  clear h3 h4
  go_enter Tryz.func120,Tryz.ntmps120
  go_wp2_with (go_at_call 122;refine (oWordsOf _ _ (by omega) (by omega)).mono ?_;rintro e w' ⟨rfl,rfl⟩)
  go_ret;rw [H.out];exact⟨rfl,Below.refl _ _⟩
def Oc.placeE (ws:List Nat) (n s:Int):Int:=if Oc.chk ws n=0 then (if s < 0∨n < s then 2 else 0) else Oc.chk ws n
theorem oPlace (a:Option Addr) (cap:Nat) (ws:List Nat) (n s:Int) (w:World) (hl:Lst .u64 w a (ints ws)) (hw:Wide ws) (hn:ws.length<=65536) :
  Calls Tryz.prog 136 #[.slice a ws.length cap,.int .i64 n,.int .i64 s] w fun e w'=>e=.returned (.int .i64 (Oc.placeE ws n s))/\Below w.heap.size w w':=by
 have HL:=aq hl;have HW:=aq hw;clear hl hw
 by_cases hc:Oc.chk ws n=0
 ·by_cases h1:s < 0
  ·have H:=aq (show Oc.placeE ws n s=2 by simp [Oc.placeE,hc,h1])
   go_enter Tryz.func136,Tryz.ntmps136
   go_wp2_with (go_at_call 120;refine (oCheck a cap ws _ _ HL.out HW.out hn).mono ?_;rintro e w1 ⟨rfl,hb1⟩;rw [hc])
   go_ret;rw [H.out];exact⟨rfl,hb1⟩
  by_cases h2:n < s
  ·have H:=aq (show Oc.placeE ws n s=2 by simp [Oc.placeE,hc,h2])
   go_enter Tryz.func136,Tryz.ntmps136
   go_wp2_with (go_at_call 120;refine (oCheck a cap ws _ _ HL.out HW.out hn).mono ?_;rintro e w1 ⟨rfl,hb1⟩;rw [hc])
   go_ret;rw [H.out];exact⟨rfl,hb1⟩
  ·have H:=aq (show Oc.placeE ws n s=0 by simp [Oc.placeE,hc,h1,h2])
   go_enter Tryz.func136,Tryz.ntmps136
   go_wp2_with (go_at_call 120;refine (oCheck a cap ws _ _ HL.out HW.out hn).mono ?_;rintro e w1 ⟨rfl,hb1⟩;rw [hc])
   go_ret;rw [H.out];exact⟨rfl,hb1⟩
 ·have H:=aq (show Oc.placeE ws n s=Oc.chk ws n by simp [Oc.placeE,hc])
  have k1:(Oc.chk ws n != 0)=true:=by simp [hc]
  clear hc
  go_enter Tryz.func136,Tryz.ntmps136
  go_wp2_with (go_at_call 120;refine (oCheck a cap ws _ _ HL.out HW.out hn).mono ?_;rintro e w1 ⟨rfl,hb1⟩)
  go_ret;rw [H.out];exact⟨rfl,hb1⟩
end Go.Proofs.YtpeckljoannolaaGreatDoor
