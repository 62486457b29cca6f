/- What the document's own answers of layers 1 and 2 return. -/
import Derived.Test.YtfdpkmafemidjaaDoorProg
import Derived.Test.YtfdpkmafemidjaaDoorM01Sp
import Derived.WalkKit
import Derived.WalkSpells
import Derived.WalkLawsBesides
import Derived.Lib.Hide
import Derived.Deep.QuietTactic
import Derived.BigQuiet
import Derived.WalkSmall
import Derived.Test.YtfdpkmafemidjaaDoorTkSp
set_option linter.unusedVariables false
set_option linter.unusedSimpArgs false
set_option maxHeartbeats 1000000
namespace Go.Proofs.YtfdpkmafemidjaaDoor
open Go.RowKit
theorem rLog (n:Int) (w:World) (h1:1<=n) (h2:n<=9223372036854775807):Calls Tryd.prog 102 #[.int .i64 n] w fun e w'=>e=.returned (.int .i64 (Fr.lg n))/\w=w':=by
 have hb:=Fr.lg_le n h2
 go_enter Tryd.func102,Tryd.ntmps102
 go_wp2
 go_loop [0,3] (fun m k=>∃ x:Int,∃ j:Nat,1<=x/\x<=9223372036854775807/\m=.int .i64 x/\k=.int .i64 j/\Fr.lg x+j=Fr.lg n) (fun m _=>(intOf m).toNat)
 case atStart=>exact⟨n,0,h1,h2,rfl,rfl,by simp⟩
 case round =>
  obtain⟨x,j,hx1,hx2,rfl,rfl,hj⟩:=hrel;have hx:=Fr.lg_nonneg x
  have hj2:(j:Int)<=62:=by omega
  have HJ:=aq hj;clear hj
  by_cases hlt:1 < x
  ·go_wp2
   go_round
   case rel=>exact⟨x/2,j+1,by omega,by omega,rfl,by go_num,by have:=HJ.out;have:=Fr.lg_half x (by omega);omega⟩
   case measure=>simp [intOf];omega
  ·have hx0:x=1:=by omega
   go_wp2;go_ret;have:=HJ.out;rw [hx0,Fr.lg_one] at this;refine⟨?_,rfl⟩;rw [<-this];simp
theorem rPow (k:Int) (w:World) (h1:0<=k) (h2:k<=62):Calls Tryd.prog 101 #[.int .i64 k] w fun e w'=>e=.returned (.int .i64 (2^k.toNat))/\w=w':=by
 go_enter Tryd.func101,Tryd.ntmps101
 go_wp2
 go_loop [3,4] (fun m i=>∃ j:Nat,(j:Int)<=k/\i=.int .i64 j/\m=.int .i64 (2^j)) (fun _ i=>(k-intOf i).toNat)
 case atStart=>exact⟨0,by omega,rfl,rfl⟩
 case round =>
  obtain⟨j,hj,rfl,rfl⟩:=hrel
  by_cases hlt:(j:Int) < k
  ·have hb:=Fr.pow_le62 (j+1) (by omega)
   have hc:=Fr.pow_pos j;have HS:=aq (Fr.pow_succ j);rw [HS.out] at hb;go_wp2
   go_round
   case rel=>exact⟨j+1,by omega,by go_num,by rw [HS.out]⟩
   case measure=>simp [intOf];omega
  ·have hx:k.toNat=j:=by omega
   have HX:=aq hx;clear hx;go_wp2;go_ret;rw [HX.out];exact⟨rfl,rfl⟩
theorem rPower (n:Int) (w:World) (h2:n<=9223372036854775807):Calls Tryd.prog 98 #[.int .i64 n] w fun e w'=>e=.returned (.bool (Fr.powB n))/\w=w':=by
 by_cases hn:n < 1
 ·have H:=aq (Fr.powB_not (n:=n) (by omega))
  go_enter Tryd.func98,Tryd.ntmps98
  go_wp2;go_ret;rw [H.out];exact⟨rfl,rfl⟩
 ·have H:=aq (Fr.powB_pow n (by omega))
  have hb:=Fr.lg_le n h2;have hc:=Fr.lg_nonneg n
  go_enter Tryd.func98,Tryd.ntmps98
  go_wp2_with (first | (go_at_call 102;refine (rLog _ _ (by omega) (by omega)).mono ?_;rintro e w' ⟨rfl,rfl⟩) | (go_at_call 101;refine (rPow _ _ (by omega) (by omega)).mono ?_;rintro e w' ⟨rfl,rfl⟩))
  go_ret;rw [H.out];exact⟨rfl,rfl⟩
theorem shr_cast (x j:Nat):(x:Int)/2^j=((x/2^j:Nat):Int):=by
 rw [Int.natCast_ediv,Int.natCast_pow];rfl
theorem shr_bit (x j:Nat):((((x:Int)/2^j).tmod 2==1))=x.testBit j:=by
 rw [shr_cast,Int.tmod_eq_emod_of_nonneg (Int.natCast_nonneg _),Nat.testBit_eq_decide_div_mod_eq,Bool.eq_iff_iff,beq_iff_eq,decide_eq_true_eq]
 omega
theorem r2bit (x:Nat) (j:Int) (w:World) (hx:x < 18446744073709551616) (h0:0<=j) (hj:j < 64):Calls Tryd.prog 99 #[.int .u64 (x:Int),.int .i64 j] w fun e w'=>e=.returned (.bool (x.testBit j.toNat))/\w=w':=by
 obtain⟨j,rfl⟩:=Int.eq_ofNat_of_zero_le h0;have H:=aq (shr_bit x j);rw [Int.toNat_natCast]
 go_enter Tryd.func99,Tryd.ntmps99
 go_wp2;rw [H.out];go_ret;exact⟨rfl,rfl⟩
theorem r2Is (a:Option Addr) (cap:Nat) (ws:List Nat) (s:Int) (w:World) (hl:Lst .u64 w a (ints ws)) (hw:Wide ws) (hn:ws.length<=65536) (h0:0<=s) (h1:s < 64*ws.length) :
  Calls Tryd.prog 93 #[.slice a ws.length cap,.int .i64 s] w fun e w'=>e=.returned (.bool (Oc.isB ws s.toNat))/\w=w':=by
 obtain⟨s,rfl⟩:=Int.eq_ofNat_of_zero_le h0;rw [Int.toNat_natCast];obtain⟨b,off,rfl,_,hc⟩:=hl.word (i:=s/64) (by omega);have H:=aq (show Oc.isB ws s=(ws.getD (s/64) 0).testBit (s % 64) from rfl);have hx:=hw (s/64);clear hl hw h0;generalize ws.getD (s/64) 0=x at *;generalize ws.length=n at *
 have hlt:s/64 < n:=by omega
 go_enter Tryd.func93,Tryd.ntmps93
 go_wp2_with (go_at_call 99;refine (r2bit _ _ _ hx (by omega) (by omega)).mono ?_;rintro e w' ⟨rfl,rfl⟩)
 go_ret;rw [H.out];exact⟨rfl,rfl⟩
def MayJ (ws:List Nat) (n:Nat) (i:Value):Prop:=∃ k:Nat,n<=k/\i=.int .i64 k/\k<=64*ws.length+n/\Oc.places ws n k=[]
theorem r2May (a:Option Addr) (cap:Nat) (ws:List Nat) (n:Nat) (w:World) (hl:Lst .u64 w a (ints ws)) (hw:Wide ws) (hn:ws.length<=65536) (hb:n<=65536) :
  Calls Tryd.prog 92 #[.slice a ws.length cap,.int .i64 (n:Int)] w fun e w'=>e=.returned (.bool (Oc.mayB ws n))/\w=w':=by
 by_cases hne:ws.length=(n+63)/64
 ·have H:=aq (show Oc.mayB ws n=Oc.clearB ws n by simp [Oc.mayB,hne])
  have k1:((ws.length:Int) != ((n:Int)+63)/64)=false:=by simp;omega
  have HL:=aq hl;have HW:=aq hw;have HNE:=aq hne;clear hl hw hne
  go_enter Tryd.func92,Tryd.ntmps92
  go_wp2
  go_loop [5] (MayJ ws n) (fun i=>64*ws.length-(intOf i).toNat)
  case atStart=>exact⟨n,Nat.le_refl _,rfl,by omega,Oc.places_self _ _⟩
  case round =>
   obtain⟨k,hk1,rfl,hk2,hk3⟩:=hrel;have HK:=aq hk3;clear hk3
   by_cases hlt:k < 64*ws.length
   ·cases hi:Oc.isB ws k
    ·go_wp2_with (go_at_call 93;refine (r2Is a cap ws _ _ HL.out HW.out hn (by omega) (by omega)).mono ?_;rintro e w' ⟨rfl,rfl⟩;rw [Int.toNat_natCast,hi])
     go_round
     case rel=>exact⟨k+1,by omega,by go_num,by omega,by rw [Oc.places_snoc ws n k hk1,hi,HK.out];rfl⟩
     case measure=>simp [intOf];omega
    ·have H2:=aq (Oc.clear_not hk1 hlt hi)
     go_wp2_with (go_at_call 93;refine (r2Is a cap ws _ _ HL.out HW.out hn (by omega) (by omega)).mono ?_;rintro e w' ⟨rfl,rfl⟩;rw [Int.toNat_natCast,hi])
     go_ret;rw [H.out,H2.out];exact⟨rfl,rfl⟩
   ·go_wp2
    go_ret
    have hc:Oc.clearB ws n=true:=by
     unfold Oc.clearB
     by_cases hle:n<=64*ws.length
     ·have:=Oc.places_split ws n (64*ws.length) k hle (by omega)
      rw [HK.out] at this;rw [(List.append_eq_nil_iff.1 this.symm).1];rfl
     ·rw [Oc.places_ge _ _ _ (by omega)];rfl
    rw [H.out,hc];exact⟨rfl,rfl⟩
 ·have H:=aq (show Oc.mayB ws n=false by simp [Oc.mayB,hne])
  have k1:((ws.length:Int) != ((n:Int)+63)/64)=true:=by simp;omega
  clear hl hw hne
  go_enter Tryd.func92,Tryd.ntmps92
  go_wp2;go_ret;rw [H.out];exact⟨rfl,rfl⟩
theorem take_same (xs ys:List Nat) (k:Nat) (h1:k < xs.length) (h2:k < ys.length) (h:xs.take k=ys.take k) (he:xs.getD k 0=ys.getD k 0):xs.take (k+1)=ys.take (k+1):=by
 rw [List.take_succ_eq_append_getElem h1,List.take_succ_eq_append_getElem h2,h]
 simp only [List.getD,List.getElem?_eq_getElem h1,List.getElem?_eq_getElem h2,Option.getD_some] at he
 rw [he]
theorem not_same (xs ys:List Nat) (k:Nat) (he:¬ xs.getD k 0=ys.getD k 0):(xs==ys)=false:=by
 rw [beq_eq_false_iff_ne];rintro rfl;exact he rfl
def SameJ (xs ys:List Nat) (w:World) (i:Value) (wr:World):Prop:=∃ k q:Nat,k<=xs.length/\i=.int .i64 k/\wr=w.drewN q/\xs.take k=ys.take k
theorem r2Same (a b:Option Addr) (ca cb:Nat) (xs ys:List Nat) (w:World) (ha:Lst .u64 w a (ints xs)) (hb:Lst .u64 w b (ints ys)) (hn:xs.length<=65536) (hm:ys.length<=65536) :
  Calls Tryd.prog 43 #[.slice a xs.length ca,.slice b ys.length cb] w fun e w'=>e=.returned (.bool (xs==ys))/\Below w.heap.size w w':=by
 have HA:=aq ha;have HB:=aq hb;clear ha hb
 by_cases hne:xs.length=ys.length
 ·have k1:((xs.length:Int) != ys.length)=false:=by simp;omega
  have HNE:=aq hne;clear hne
  go_enter Tryd.func43,Tryd.ntmps43
  go_wp2
  go_loopw [5] (SameJ xs ys w) (fun i _=>xs.length-(intOf i).toNat)
  case atStart=>exact⟨0,0,Nat.zero_le _,rfl,rfl,rfl⟩
  case round =>
   obtain⟨k,q,hk,rfl,rfl,ht⟩:=hrel;have HT:=aq ht;clear ht
   by_cases hlt:k < xs.length
   ·have hltb:k < ys.length:=by have:=HNE.out;omega
    obtain⟨b1,o1,rfl,_,c1⟩:=HA.out.word hlt;obtain⟨b2,o2,rfl,_,c2⟩:=HB.out.word hltb;obtain⟨x,hx⟩:∃ x,xs.getD k 0=x:=⟨_,rfl⟩;obtain⟨y,hy⟩:∃ y,ys.getD k 0=y:=⟨_,rfl⟩;rw [hx] at c1;rw [hy] at c2;have HX:=aq hx;have HY:=aq hy;clear hx hy
    by_cases he:x=y
    ·have k2:((x:Int) != (y:Int))=false:=by simp [he]
     have HE:=aq he;clear he;go_wp2
     go_quiet (fail)
     go_wp2
     go_roundw
     case rel=>exact⟨k+1,_,by omega,by go_num,rfl,take_same xs ys k hlt hltb HT.out (by rw [HX.out,HY.out,HE.out])⟩
     case measure=>simp [intOf];omega
    ·have k2:((x:Int) != (y:Int))=true:=by simp;omega
     have HE:=aq he;clear he;go_wp2
     go_quiet (fail)
     go_wp2;go_ret;rw [not_same xs ys k (by rw [HX.out,HY.out];exact HE.out)];exact⟨rfl,below_drewN (below_drewN (Below.refl _ _) _) _⟩
   ·go_wp2
    go_ret
    have e:xs=ys:=by
     have:=HT.out
     rwa [List.take_of_length_le (by omega),List.take_of_length_le (by have:=HNE.out;omega)] at this
    rw [e];exact⟨by simp,below_drewN (Below.refl _ _) _⟩
 ·have k1:((xs.length:Int) != ys.length)=true:=by simp;omega
  have H:=aq (show (xs==ys)=false by rw [beq_eq_false_iff_ne];rintro rfl;exact hne rfl);clear hne
  go_enter Tryd.func43,Tryd.ntmps43
  go_wp2;go_ret;rw [H.out];exact⟨rfl,Below.refl _ _⟩
theorem intInfo:(Tryd.prog.info? 3).map (fun i=>(i.zero,i.size,i.bytes))=some (some (.int .i64 0),1,8):=by kernel_rfl
def PlacesJ (ws:List Nat) (lo hi:Nat) (w:World) (v i:Value) (wr:World):Prop :=
 ∃ k:Nat,lo<=k/\(k<=hi∨k=lo)/\i=.int .i64 k/\wr.ownsRow w.heap.size 3 1 v (Oc.places ws lo k).length ((Oc.places ws lo k).map fun s:Nat=>Value.int .i64 (s:Int))/\Below w.heap.size w wr
theorem r2Places (a:Option Addr) (cap:Nat) (ws:List Nat) (lo hi:Nat) (w:World) (hl:Lst .u64 w a (ints ws)) (hw:Wide ws) (hn:ws.length<=65536) (hh:hi<=64*ws.length) (hlo:lo<=4194304) :
  Calls Tryd.prog 86 #[.slice a ws.length cap,.int .i64 (lo:Int),.int .i64 (hi:Int)] w fun e w'=>∃ v,e=.returned v/\w'.ownsRow w.heap.size 3 1 v (Oc.places ws lo hi).length ((Oc.places ws lo hi).map fun s:Nat=>Value.int .i64 (s:Int))/\Below w.heap.size w w':=by
 have HL:=aq hl;have HW:=aq hw;clear hl hw;obtain⟨i0,hi0,hz0,hz1,hz2⟩:=info_parts intInfo;have I0:=aq hi0;have Z0:=aq hz0;have Z1:=aq hz1;have Z2:=aq hz2;clear hi0 hz0 hz1 hz2
 go_enter Tryd.func86,Tryd.ntmps86
 go_wp2
 go_loopw [7,8] (PlacesJ ws lo hi w) (fun _ i _=>hi-(intOf i).toNat)
 case atStart=>exact⟨lo,Nat.le_refl _,Or.inr rfl,rfl,by rw [Oc.places_self];exact World.ownsRow_nil _ _ _ _,Below.refl _ _⟩
 case round =>
  obtain⟨k,hk1,hk2,rfl,hown,hbel⟩:=hrel
  have hkb:k<=4194304:=by omega
  have hpl:=Oc.places_length_le ws lo k
  by_cases hlt:k < hi
  ·have HL2:=aq (HL.out.below hbel)
   cases hi2:Oc.isB ws k
   ·have HS:=aq (show Oc.places ws lo (k+1)=Oc.places ws lo k by rw [Oc.places_snoc ws lo k hk1,hi2];rfl)
    go_wp2_with (go_at_call 93;refine (r2Is a cap ws _ _ HL2.out HW.out hn (by omega) (by omega)).mono ?_;rintro e w' ⟨rfl,rfl⟩;rw [Int.toNat_natCast,hi2])
    go_roundw
    case rel=>exact⟨k+1,by omega,Or.inl (by omega),by go_num,by rw [HS.out];exact hown,hbel⟩
    case measure=>simp [intOf];omega
   ·have HS:=aq (show Oc.places ws lo (k+1)=Oc.places ws lo k++[k] by rw [Oc.places_snoc ws lo k hk1,hi2];rfl)
    go_wp2_with (first | (go_at_call 93;refine (r2Is a cap ws _ _ HL2.out HW.out hn (by omega) (by omega)).mono ?_;rintro e w' ⟨rfl,rfl⟩;rw [Int.toNat_natCast,hi2]) | (at_builtin;refine wpList_append_own _ rfl _ _ 24 rfl w.heap.size 3 i0 (.int .i64 0) 1 8 Tryd.underlying24 I0.out Z0.out Z1.out Z2.out rfl (by decide) _ _ _ rfl (hown.alloc _) ⟨wr.heap.size,0,none⟩ 1 1 [.int .i64 (k:Int)] rfl rfl ?c1 ?c2 ?c3 ?c4 ?c5 ?_))
    case c1 =>
     intro j u hj
     match j,hj with
     | 0,hj=>simp at hj;subst hj;simp [Addr.add]
    case c2=>intro u hu;simp at hu;subst hu;rfl
    case c3=>unfold maxLen;omega
    case c4=>omega
    case c5=>have:=hbel.size;simp;omega
    intro v' w1 hown' hgrow _;have R:Below w.heap.size w w1:=(hbel.alloc hbel.size _).grown hgrow (by have:=hbel.size;simp;omega) (fun g hg=>(World.ownsRow.lt hown g hg).1)
    have R2:w1.ownsRow w.heap.size 3 1 v' (Oc.places ws lo (k+1)).length ((Oc.places ws lo (k+1)).map fun s:Nat=>Value.int .i64 (s:Int)):=by
     rw [HS.out];simpa using hown'
    clear hown' hgrow hown hbel;go_wp2
    go_roundw
    case rel=>exact⟨k+1,by omega,Or.inl (by omega),by go_num,R2,R⟩
    case measure=>simp [intOf];omega
  ·have e:Oc.places ws lo k=Oc.places ws lo hi:=by
    rcases hk2 with h | h
    ·rw [show k=hi from by omega]
    ·rw [h,Oc.places_self,Oc.places_ge _ _ _ (by omega)]
   rw [e] at hown;clear e;go_wp2;go_ret;exact⟨_,rfl,hown,hbel⟩
def vals (ws:List Nat):List Value:=ws.map fun x:Nat=>Value.int .u64 (x:Int)
end Go.Proofs.YtfdpkmafemidjaaDoor
