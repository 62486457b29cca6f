/- What the document's own answers of layers 1, 2 and 4 return that only read. -/
import Derived.Test.YtpeckljoannolaaGreatDoorProg
import Derived.Test.YtpeckljoannolaaGreatDoorM01Ot
import Derived.WalkKit
import Derived.WalkSpells
import Derived.WalkLawsBesides
import Derived.Lib.Hide
import Derived.BigQuiet
import Derived.LoopTactic
import Derived.Deep.QuietTactic
import Derived.WalkSmall
import Derived.Deep.RegionHeld3
import Derived.StillTailTactics
import Derived.Test.YtpeckljoannolaaGreatDoorTkOt
set_option linter.unusedVariables false
set_option linter.unusedSimpArgs false
set_option maxHeartbeats 2000000
namespace Go.Proofs.YtpeckljoannolaaGreatDoor
open Go.RowKit
theorem rLog (n:Int) (w:World) (h1:1<=n) (h2:n<=9223372036854775807):Calls Tryz.prog 182 #[.int .i64 n] w fun e w'=>e=.returned (.int .i64 (Fr.lg n))/\w=w':=by
 have hb:=Fr.lg_le n h2
 go_enter Tryz.func182,Tryz.ntmps182
 go_wp2
 go_loop [0,3] (fun m k=>∃ x:Int,∃ j:Nat,1<=x/\x<=9223372036854775807/\m=.int .i64 x/\k=.int .i64 j/\Fr.lg x+j=Fr.lg n) (fun m _=>(intOf m).toNat)
 case atStart=>exact⟨n,0,h1,h2,rfl,rfl,by simp⟩
 case round =>
  obtain⟨x,j,hx1,hx2,rfl,rfl,hj⟩:=hrel;have hx:=Fr.lg_nonneg x
  have hj2:(j:Int)<=62:=by omega
  have HJ:=aq hj;clear hj
  by_cases hlt:1 < x
  ·go_wp2
   go_round
   case rel=>exact⟨x/2,j+1,by omega,by omega,rfl,by go_num,by have:=HJ.out;have:=Fr.lg_half x (by omega);omega⟩
   case measure=>simp [intOf];omega
  ·have hx0:x=1:=by omega
   go_wp2;go_ret;have:=HJ.out;rw [hx0,Fr.lg_one] at this;refine⟨?_,rfl⟩;rw [<-this];simp
theorem rPow (k:Int) (w:World) (h1:0<=k) (h2:k<=62):Calls Tryz.prog 190 #[.int .i64 k] w fun e w'=>e=.returned (.int .i64 (2^k.toNat))/\w=w':=by
 go_enter Tryz.func190,Tryz.ntmps190
 go_wp2
 go_loop [3,4] (fun m i=>∃ j:Nat,(j:Int)<=k/\i=.int .i64 j/\m=.int .i64 (2^j)) (fun _ i=>(k-intOf i).toNat)
 case atStart=>exact⟨0,by omega,rfl,rfl⟩
 case round =>
  obtain⟨j,hj,rfl,rfl⟩:=hrel
  by_cases hlt:(j:Int) < k
  ·have hb:=Fr.pow_le62 (j+1) (by omega)
   have hc:=Fr.pow_pos j;have HS:=aq (Fr.pow_succ j);rw [HS.out] at hb;go_wp2
   go_round
   case rel=>exact⟨j+1,by omega,by go_num,by rw [HS.out]⟩
   case measure=>simp [intOf];omega
  ·have hx:k.toNat=j:=by omega
   have HX:=aq hx;clear hx;go_wp2;go_ret;rw [HX.out];exact⟨rfl,rfl⟩
theorem rPower (n:Int) (w:World) (h2:n<=9223372036854775807):Calls Tryz.prog 181 #[.int .i64 n] w fun e w'=>e=.returned (.bool (Fr.powB n))/\w=w':=by
 by_cases hn:n < 1
 ·have H:=aq (Fr.powB_not (n:=n) (by omega))
  go_enter Tryz.func181,Tryz.ntmps181
  go_wp2;go_ret;rw [H.out];exact⟨rfl,rfl⟩
 ·have H:=aq (Fr.powB_pow n (by omega))
  have hb:=Fr.lg_le n h2;have hc:=Fr.lg_nonneg n
  go_enter Tryz.func181,Tryz.ntmps181
  go_wp2_with (first | (go_at_call 182;refine (rLog _ _ (by omega) (by omega)).mono ?_;rintro e w' ⟨rfl,rfl⟩) | (go_at_call 190;refine (rPow _ _ (by omega) (by omega)).mono ?_;rintro e w' ⟨rfl,rfl⟩))
  go_ret;rw [H.out];exact⟨rfl,rfl⟩
theorem elemI:Elem Tryz.prog 26 3 (.int .i64 0) 1 8 :=
 ⟨Tryz.underlying26,info_parts (show (Tryz.prog.info? 3).map (fun i=>(i.zero,i.size,i.bytes))=some (some (.int .i64 0),1,8) by kernel_rfl),rfl,by decide⟩
theorem take_sameI (xs ys:List Int) (k:Nat) (h1:k < xs.length) (h2:k < ys.length) (h:xs.take k=ys.take k) (he:xs.getD k 0=ys.getD k 0):xs.take (k+1)=ys.take (k+1):=by
 rw [List.take_succ_eq_append_getElem h1,List.take_succ_eq_append_getElem h2,h]
 simp only [List.getD,List.getElem?_eq_getElem h1,List.getElem?_eq_getElem h2,Option.getD_some] at he
 rw [he]
theorem not_sameI (xs ys:List Int) (k:Nat) (he:¬ xs.getD k 0=ys.getD k 0):(xs==ys)=false:=by
 rw [beq_eq_false_iff_ne];rintro rfl;exact he rfl
def SameIJ (xs ys:List Int) (w:World) (i:Value) (wr:World):Prop:=∃ k q:Nat,k<=xs.length/\i=.int .i64 k/\wr=w.drewN q/\xs.take k=ys.take k
theorem rSameInts (a b:Option Addr) (ca cb:Nat) (xs ys:List Int) (w:World) (ha:Lst .i64 w a xs) (hb:Lst .i64 w b ys) (hn:xs.length<=2147483647) (hm:ys.length<=2147483647) :
  Calls Tryz.prog 99 #[.slice a xs.length ca,.slice b ys.length cb] w fun e w'=>e=.returned (.bool (xs==ys))/\Below w.heap.size w w':=by
 have HA:=aq ha;have HB:=aq hb;clear ha hb
 by_cases hne:xs.length=ys.length
 ·have k1:((xs.length:Int) != ys.length)=false:=by simp;omega
  have HNE:=aq hne;clear hne
  go_enter Tryz.func99,Tryz.ntmps99
  go_wp2
  go_loopw [5] (SameIJ xs ys w) (fun i _=>xs.length-(intOf i).toNat)
  case atStart=>exact⟨0,0,Nat.zero_le _,rfl,rfl,rfl⟩
  case round =>
   obtain⟨k,q,hk,rfl,rfl,ht⟩:=hrel;have HT:=aq ht;clear ht
   by_cases hlt:k < xs.length
   ·have hltb:k < ys.length:=by have:=HNE.out;omega
    obtain⟨b1,o1,rfl,_,c1⟩:=HA.out.cell hlt;obtain⟨b2,o2,rfl,_,c2⟩:=HB.out.cell hltb;obtain⟨x,hx⟩:∃ x,xs.getD k 0=x:=⟨_,rfl⟩;obtain⟨y,hy⟩:∃ y,ys.getD k 0=y:=⟨_,rfl⟩;rw [hx] at c1;rw [hy] at c2;have HX:=aq hx;have HY:=aq hy;clear hx hy
    by_cases he:x=y
    ·have k2:(x != y)=false:=by simp [he]
     have HE:=aq he;clear he;go_wp2
     go_quiet (fail)
     go_wp2
     go_roundw
     case rel=>exact⟨k+1,_,by omega,by go_num,rfl,take_sameI xs ys k hlt hltb HT.out (by rw [HX.out,HY.out,HE.out])⟩
     case measure=>simp [intOf];omega
    ·have k2:(x != y)=true:=by simp;omega
     have HE:=aq he;clear he;go_wp2
     go_quiet (fail)
     go_wp2;go_ret;rw [not_sameI xs ys k (by rw [HX.out,HY.out];exact HE.out)];exact⟨rfl,below_drewN (below_drewN (Below.refl _ _) _) _⟩
   ·go_wp2
    go_ret
    have e:xs=ys:=by
     have:=HT.out
     rwa [List.take_of_length_le (by omega),List.take_of_length_le (by have:=HNE.out;omega)] at this
    rw [e];exact⟨by simp,below_drewN (Below.refl _ _) _⟩
 ·have k1:((xs.length:Int) != ys.length)=true:=by simp;omega
  have H:=aq (show (xs==ys)=false by rw [beq_eq_false_iff_ne];rintro rfl;exact hne rfl);clear hne
  go_enter Tryz.func99,Tryz.ntmps99
  go_wp2;go_ret;rw [H.out];exact⟨rfl,Below.refl _ _⟩
theorem shr_cast (x j:Nat):(x:Int)/2^j=((x/2^j:Nat):Int):=by
 rw [Int.natCast_ediv,Int.natCast_pow];rfl
theorem shr_bit (x j:Nat):((((x:Int)/2^j).tmod 2==1))=x.testBit j:=by
 rw [shr_cast,Int.tmod_eq_emod_of_nonneg (Int.natCast_nonneg _),Nat.testBit_eq_decide_div_mod_eq,Bool.eq_iff_iff,beq_iff_eq,decide_eq_true_eq]
 omega
theorem r2bit (x:Nat) (j:Int) (w:World) (hx:x < 18446744073709551616) (h0:0<=j) (hj:j < 64):Calls Tryz.prog 219 #[.int .u64 (x:Int),.int .i64 j] w fun e w'=>e=.returned (.bool (x.testBit j.toNat))/\w=w':=by
 obtain⟨j,rfl⟩:=Int.eq_ofNat_of_zero_le h0;have H:=aq (shr_bit x j);rw [Int.toNat_natCast]
 go_enter Tryz.func219,Tryz.ntmps219
 go_wp2;rw [H.out];go_ret;exact⟨rfl,rfl⟩
theorem r2Is (a:Option Addr) (cap:Nat) (ws:List Nat) (s:Int) (w:World) (hl:Lst .u64 w a (ints ws)) (hw:Wide ws) (hn:ws.length<=65536) (h0:0<=s) (h1:s < 64*ws.length) :
  Calls Tryz.prog 185 #[.slice a ws.length cap,.int .i64 s] w fun e w'=>e=.returned (.bool (Oc.isB ws s.toNat))/\w=w':=by
 obtain⟨s,rfl⟩:=Int.eq_ofNat_of_zero_le h0;rw [Int.toNat_natCast];obtain⟨b,off,rfl,_,hc⟩:=hl.word (i:=s/64) (by omega);have H:=aq (show Oc.isB ws s=(ws.getD (s/64) 0).testBit (s % 64) from rfl);have hx:=hw (s/64);clear hl hw h0;generalize ws.getD (s/64) 0=x at *;generalize ws.length=n at *
 have hlt:s/64 < n:=by omega
 go_enter Tryz.func185,Tryz.ntmps185
 go_wp2_with (go_at_call 219;refine (r2bit _ _ _ hx (by omega) (by omega)).mono ?_;rintro e w' ⟨rfl,rfl⟩)
 go_ret;rw [H.out];exact⟨rfl,rfl⟩
def MayJ (ws:List Nat) (n:Nat) (i:Value):Prop:=∃ k:Nat,n<=k/\i=.int .i64 k/\k<=64*ws.length+n/\Oc.places ws n k=[]
theorem r2May (a:Option Addr) (cap:Nat) (ws:List Nat) (n:Nat) (w:World) (hl:Lst .u64 w a (ints ws)) (hw:Wide ws) (hn:ws.length<=65536) (hb:n<=65536) :
  Calls Tryz.prog 187 #[.slice a ws.length cap,.int .i64 (n:Int)] w fun e w'=>e=.returned (.bool (Oc.mayB ws n))/\w=w':=by
 by_cases hne:ws.length=(n+63)/64
 ·have H:=aq (show Oc.mayB ws n=Oc.clearB ws n by simp [Oc.mayB,hne])
  have k1:((ws.length:Int) != ((n:Int)+63)/64)=false:=by simp;omega
  have HL:=aq hl;have HW:=aq hw;have HNE:=aq hne;clear hl hw hne
  go_enter Tryz.func187,Tryz.ntmps187
  go_wp2
  go_loop [5] (MayJ ws n) (fun i=>64*ws.length-(intOf i).toNat)
  case atStart=>exact⟨n,Nat.le_refl _,rfl,by omega,Oc.places_self _ _⟩
  case round =>
   obtain⟨k,hk1,rfl,hk2,hk3⟩:=hrel;have HK:=aq hk3;clear hk3
   by_cases hlt:k < 64*ws.length
   ·cases hi:Oc.isB ws k
    ·go_wp2_with (go_at_call 185;refine (r2Is a cap ws _ _ HL.out HW.out hn (by omega) (by omega)).mono ?_;rintro e w' ⟨rfl,rfl⟩;rw [Int.toNat_natCast,hi])
     go_round
     case rel=>exact⟨k+1,by omega,by go_num,by omega,by rw [Oc.places_snoc ws n k hk1,hi,HK.out];rfl⟩
     case measure=>simp [intOf];omega
    ·have H2:=aq (Oc.clear_not hk1 hlt hi)
     go_wp2_with (go_at_call 185;refine (r2Is a cap ws _ _ HL.out HW.out hn (by omega) (by omega)).mono ?_;rintro e w' ⟨rfl,rfl⟩;rw [Int.toNat_natCast,hi])
     go_ret;rw [H.out,H2.out];exact⟨rfl,rfl⟩
   ·go_wp2
    go_ret
    have hc:Oc.clearB ws n=true:=by
     unfold Oc.clearB
     by_cases hle:n<=64*ws.length
     ·have:=Oc.places_split ws n (64*ws.length) k hle (by omega)
      rw [HK.out] at this;rw [(List.append_eq_nil_iff.1 this.symm).1];rfl
     ·rw [Oc.places_ge _ _ _ (by omega)];rfl
    rw [H.out,hc];exact⟨rfl,rfl⟩
 ·have H:=aq (show Oc.mayB ws n=false by simp [Oc.mayB,hne])
  have k1:((ws.length:Int) != ((n:Int)+63)/64)=true:=by simp;omega
  clear hl hw hne
  go_enter Tryz.func187,Tryz.ntmps187
  go_wp2;go_ret;rw [H.out];exact⟨rfl,rfl⟩
theorem take_same (xs ys:List Nat) (k:Nat) (h1:k < xs.length) (h2:k < ys.length) (h:xs.take k=ys.take k) (he:xs.getD k 0=ys.getD k 0):xs.take (k+1)=ys.take (k+1):=by
 rw [List.take_succ_eq_append_getElem h1,List.take_succ_eq_append_getElem h2,h]
 simp only [List.getD,List.getElem?_eq_getElem h1,List.getElem?_eq_getElem h2,Option.getD_some] at he
 rw [he]
theorem not_same (xs ys:List Nat) (k:Nat) (he:¬ xs.getD k 0=ys.getD k 0):(xs==ys)=false:=by
 rw [beq_eq_false_iff_ne];rintro rfl;exact he rfl
def SameJ (xs ys:List Nat) (w:World) (i:Value) (wr:World):Prop:=∃ k q:Nat,k<=xs.length/\i=.int .i64 k/\wr=w.drewN q/\xs.take k=ys.take k
theorem r2Same (a b:Option Addr) (ca cb:Nat) (xs ys:List Nat) (w:World) (ha:Lst .u64 w a (ints xs)) (hb:Lst .u64 w b (ints ys)) (hn:xs.length<=65536) (hm:ys.length<=65536) :
  Calls Tryz.prog 97 #[.slice a xs.length ca,.slice b ys.length cb] w fun e w'=>e=.returned (.bool (xs==ys))/\Below w.heap.size w w':=by
 have HA:=aq ha;have HB:=aq hb;clear ha hb
 by_cases hne:xs.length=ys.length
 ·have k1:((xs.length:Int) != ys.length)=false:=by simp;omega
  have HNE:=aq hne;clear hne
  go_enter Tryz.func97,Tryz.ntmps97
  go_wp2
  go_loopw [5] (SameJ xs ys w) (fun i _=>xs.length-(intOf i).toNat)
  case atStart=>exact⟨0,0,Nat.zero_le _,rfl,rfl,rfl⟩
  case round =>
   obtain⟨k,q,hk,rfl,rfl,ht⟩:=hrel;have HT:=aq ht;clear ht
   by_cases hlt:k < xs.length
   ·have hltb:k < ys.length:=by have:=HNE.out;omega
    obtain⟨b1,o1,rfl,_,c1⟩:=HA.out.word hlt;obtain⟨b2,o2,rfl,_,c2⟩:=HB.out.word hltb;obtain⟨x,hx⟩:∃ x,xs.getD k 0=x:=⟨_,rfl⟩;obtain⟨y,hy⟩:∃ y,ys.getD k 0=y:=⟨_,rfl⟩;rw [hx] at c1;rw [hy] at c2;have HX:=aq hx;have HY:=aq hy;clear hx hy
    by_cases he:x=y
    ·have k2:((x:Int) != (y:Int))=false:=by simp [he]
     have HE:=aq he;clear he;go_wp2
     go_quiet (fail)
     go_wp2
     go_roundw
     case rel=>exact⟨k+1,_,by omega,by go_num,rfl,take_same xs ys k hlt hltb HT.out (by rw [HX.out,HY.out,HE.out])⟩
     case measure=>simp [intOf];omega
    ·have k2:((x:Int) != (y:Int))=true:=by simp;omega
     have HE:=aq he;clear he;go_wp2
     go_quiet (fail)
     go_wp2;go_ret;rw [not_same xs ys k (by rw [HX.out,HY.out];exact HE.out)];exact⟨rfl,below_drewN (below_drewN (Below.refl _ _) _) _⟩
   ·go_wp2
    go_ret
    have e:xs=ys:=by
     have:=HT.out
     rwa [List.take_of_length_le (by omega),List.take_of_length_le (by have:=HNE.out;omega)] at this
    rw [e];exact⟨by simp,below_drewN (Below.refl _ _) _⟩
 ·have k1:((xs.length:Int) != ys.length)=true:=by simp;omega
  have H:=aq (show (xs==ys)=false by rw [beq_eq_false_iff_ne];rintro rfl;exact hne rfl);clear hne
  go_enter Tryz.func97,Tryz.ntmps97
  go_wp2;go_ret;rw [H.out];exact⟨rfl,Below.refl _ _⟩
theorem intInfo:(Tryz.prog.info? 3).map (fun i=>(i.zero,i.size,i.bytes))=some (some (.int .i64 0),1,8):=by kernel_rfl
def PlacesJ (ws:List Nat) (lo hi:Nat) (w:World) (v i:Value) (wr:World):Prop :=
 ∃ k:Nat,lo<=k/\(k<=hi∨k=lo)/\i=.int .i64 k/\wr.ownsRow w.heap.size 3 1 v (Oc.places ws lo k).length ((Oc.places ws lo k).map fun s:Nat=>Value.int .i64 (s:Int))/\Below w.heap.size w wr
theorem r2Places (a:Option Addr) (cap:Nat) (ws:List Nat) (lo hi:Nat) (w:World) (hl:Lst .u64 w a (ints ws)) (hw:Wide ws) (hn:ws.length<=65536) (hh:hi<=64*ws.length) (hlo:lo<=4194304) :
  Calls Tryz.prog 138 #[.slice a ws.length cap,.int .i64 (lo:Int),.int .i64 (hi:Int)] w fun e w'=>∃ v,e=.returned v/\w'.ownsRow w.heap.size 3 1 v (Oc.places ws lo hi).length ((Oc.places ws lo hi).map fun s:Nat=>Value.int .i64 (s:Int))/\Below w.heap.size w w':=by
 have HL:=aq hl;have HW:=aq hw;clear hl hw;obtain⟨i0,hi0,hz0,hz1,hz2⟩:=info_parts intInfo;have I0:=aq hi0;have Z0:=aq hz0;have Z1:=aq hz1;have Z2:=aq hz2;clear hi0 hz0 hz1 hz2
 go_enter Tryz.func138,Tryz.ntmps138
 go_wp2
 go_loopw [7,8] (PlacesJ ws lo hi w) (fun _ i _=>hi-(intOf i).toNat)
 case atStart=>exact⟨lo,Nat.le_refl _,Or.inr rfl,rfl,by rw [Oc.places_self];exact World.ownsRow_nil _ _ _ _,Below.refl _ _⟩
 case round =>
  obtain⟨k,hk1,hk2,rfl,hown,hbel⟩:=hrel
  have hkb:k<=4194304:=by omega
  have hpl:=Oc.places_length_le ws lo k
  by_cases hlt:k < hi
  ·have HL2:=aq (HL.out.below hbel)
   cases hi2:Oc.isB ws k
   ·have HS:=aq (show Oc.places ws lo (k+1)=Oc.places ws lo k by rw [Oc.places_snoc ws lo k hk1,hi2];rfl)
    go_wp2_with (go_at_call 185;refine (r2Is a cap ws _ _ HL2.out HW.out hn (by omega) (by omega)).mono ?_;rintro e w' ⟨rfl,rfl⟩;rw [Int.toNat_natCast,hi2])
    go_roundw
    case rel=>exact⟨k+1,by omega,Or.inl (by omega),by go_num,by rw [HS.out];exact hown,hbel⟩
    case measure=>simp [intOf];omega
   ·have HS:=aq (show Oc.places ws lo (k+1)=Oc.places ws lo k++[k] by rw [Oc.places_snoc ws lo k hk1,hi2];rfl)
    go_wp2_with (first | (go_at_call 185;refine (r2Is a cap ws _ _ HL2.out HW.out hn (by omega) (by omega)).mono ?_;rintro e w' ⟨rfl,rfl⟩;rw [Int.toNat_natCast,hi2]) | (at_builtin;refine wpList_append_own _ rfl _ _ 26 rfl w.heap.size 3 i0 (.int .i64 0) 1 8 Tryz.underlying26 I0.out Z0.out Z1.out Z2.out rfl (by decide) _ _ _ rfl (hown.alloc _) ⟨wr.heap.size,0,none⟩ 1 1 [.int .i64 (k:Int)] rfl rfl ?c1 ?c2 ?c3 ?c4 ?c5 ?_))
    case c1 =>
     intro j u hj
     match j,hj with
     | 0,hj=>simp at hj;subst hj;simp [Addr.add]
    case c2=>intro u hu;simp at hu;subst hu;rfl
    case c3=>unfold maxLen;omega
    case c4=>omega
    case c5=>have:=hbel.size;simp;omega
    intro v' w1 hown' hgrow _;have R:Below w.heap.size w w1:=(hbel.alloc hbel.size _).grown hgrow (by have:=hbel.size;simp;omega) (fun g hg=>(World.ownsRow.lt hown g hg).1)
    have R2:w1.ownsRow w.heap.size 3 1 v' (Oc.places ws lo (k+1)).length ((Oc.places ws lo (k+1)).map fun s:Nat=>Value.int .i64 (s:Int)):=by
     rw [HS.out];simpa using hown'
    clear hown' hgrow hown hbel;go_wp2
    go_roundw
    case rel=>exact⟨k+1,by omega,Or.inl (by omega),by go_num,R2,R⟩
    case measure=>simp [intOf];omega
  ·have e:Oc.places ws lo k=Oc.places ws lo hi:=by
    rcases hk2 with h | h
    ·rw [show k=hi from by omega]
    ·rw [h,Oc.places_self,Oc.places_ge _ _ _ (by omega)]
   rw [e] at hown;clear e;go_wp2;go_ret;exact⟨_,rfl,hown,hbel⟩
def vals (ws:List Nat):List Value:=ws.map fun x:Nat=>Value.int .u64 (x:Int)
theorem r4Is (s:Sl) (a:Ads) (i:Int) (w:World) (h:Held w s a) (hok:s.Ok) (hs:s.Short) (h0:0<=i) (h1:i < 64*s.words.length) :
  Calls Tryz.prog 198 #[slv s a,.int .i64 i] w fun e w'=>e=.returned (.bool (Oc.isB s.words i.toNat))/\Below w.heap.size w w':=by
 have HH:=aq h.alloc;have HW:=aq hok.words;have hn:=hs.words;clear h hok hs;unfold slv
 go_enter Tryz.func198,Tryz.ntmps198
 go_wp2_with fail
 refine (r2Is _ _ _ _ _ (HH.out _).words HW.out hn h0 h1).mono ?_;rintro e w' ⟨rfl,rfl⟩;go_wp2;go_ret;exact⟨rfl,(Below.refl _ _).alloc (Nat.le_refl _) _⟩
theorem fitsB_parts (seg many:Int):Sl.fitsB seg many=(decide (4<=seg)&&decide (seg<=64)&&Fr.powB seg&&decide (1<=many)&&decide (many<=65536)&&decide (many % seg=0)&&Fr.powB (many/seg)):=rfl
theorem r4Fits (seg many:Int) (w:World) (h2:many<=9223372036854775807) (h1:seg<=9223372036854775807) :
  Calls Tryz.prog 186 #[.int .i64 seg,.int .i64 many] w fun e w'=>e=.returned (.bool (Sl.fitsB seg many))/\w=w':=by
 have HF:=aq (fitsB_parts seg many)
 by_cases c1:seg < 4
 ·have H:=aq (show Sl.fitsB seg many=false by rw [HF.out,show decide (4<=seg)=false from by simp;omega];rfl)
  go_enter Tryz.func186,Tryz.ntmps186
  go_wp2;go_ret;rw [H.out];exact⟨rfl,rfl⟩
 by_cases c2:64 < seg
 ·have H:=aq (show Sl.fitsB seg many=false by rw [HF.out,show decide (seg<=64)=false from by simp;omega,Bool.and_false];rfl)
  go_enter Tryz.func186,Tryz.ntmps186
  go_wp2;go_ret;rw [H.out];exact⟨rfl,rfl⟩
 have HP:=aq (rPower seg w (by omega))
 cases hp:Fr.powB seg
 ·have H:=aq (show Sl.fitsB seg many=false by rw [HF.out,hp,Bool.and_false];rfl)
  have hp':=aq hp;clear hp
  go_enter Tryz.func186,Tryz.ntmps186
  go_wp2_with (go_at_call 181;refine HP.out.mono ?_;rintro e w' ⟨rfl,rfl⟩;rw [hp'.out])
  go_ret;rw [H.out];exact⟨rfl,rfl⟩
 by_cases c3:many < 1
 ·have H:=aq (show Sl.fitsB seg many=false by rw [HF.out,show decide (1<=many)=false from by simp;omega,Bool.and_false];rfl)
  have hp':=aq hp;clear hp
  go_enter Tryz.func186,Tryz.ntmps186
  go_wp2_with (go_at_call 181;refine HP.out.mono ?_;rintro e w' ⟨rfl,rfl⟩;rw [hp'.out])
  go_ret;rw [H.out];exact⟨rfl,rfl⟩
 by_cases c4:65536 < many
 ·have H:=aq (show Sl.fitsB seg many=false by rw [HF.out,show decide (many<=65536)=false from by simp;omega,Bool.and_false];rfl)
  have hp':=aq hp;clear hp
  go_enter Tryz.func186,Tryz.ntmps186
  go_wp2_with (go_at_call 181;refine HP.out.mono ?_;rintro e w' ⟨rfl,rfl⟩;rw [hp'.out])
  go_ret;rw [H.out];exact⟨rfl,rfl⟩
 have hp':=aq hp
 have HX:=aq (show Sl.fitsB seg many=(decide (many % seg=0)&&Fr.powB (many/seg)) by
  rw [HF.out,hp,show decide (4<=seg)=true from by simp;omega,show decide (seg<=64)=true from by simp;omega,show decide (1<=many)=true from by simp;omega,show decide (many<=65536)=true from by simp;omega];simp)
 have k0:¬ seg=0:=by omega
 have hq:many/seg<=65536:=by have:=Int.ediv_le_self (a:=many) seg (by omega);omega
 have hq0:0<=many/seg:=Int.ediv_nonneg (a:=many) (b:=seg) (by omega) (by omega)
 by_cases c5:many % seg=0
 ·have H:=aq (show Sl.fitsB seg many=Fr.powB (many/seg) by rw [HX.out,decide_eq_true c5,Bool.true_and])
  have k1:(many % seg==0)=true:=by simp [c5]
  clear hp c5
  go_enter Tryz.func186,Tryz.ntmps186
  go_wp2_with (go_at_call 181;first | ((with_reducible refine HP.out.mono ?_);rintro e w' ⟨rfl,rfl⟩;rw [hp'.out]) | (refine (rPower (many/seg) _ (by omega)).mono ?_;rintro e w' ⟨rfl,rfl⟩))
  go_ret;rw [H.out];exact⟨rfl,rfl⟩
 ·have H:=aq (show Sl.fitsB seg many=false by rw [HX.out,decide_eq_false c5,Bool.false_and])
  have k1:(many % seg==0)=false:=by simp [c5]
  clear hp c5
  go_enter Tryz.func186,Tryz.ntmps186
  go_wp2_with (go_at_call 181;first | ((with_reducible refine HP.out.mono ?_);rintro e w' ⟨rfl,rfl⟩;rw [hp'.out]) | (refine (rPower (many/seg) _ (by omega)).mono ?_;rintro e w' ⟨rfl,rfl⟩))
  go_ret;rw [H.out];exact⟨rfl,rfl⟩
theorem r4Great (s:Sl) (a:Ads) (n:Int) (w:World) :
  Calls Tryz.prog 49 #[slv s a,.int .i64 n] w fun e w'=>e=.returned (.bool (s.greatB n))/\Below w.heap.size w w':=by
 have H:=aq (show s.greatB n=(decide (n < (s.keys.length:Int))||decide (n < (s.vals.length:Int))||decide (n < (s.words.length:Int))||decide (n < (s.counts.length:Int))) from rfl);unfold slv
 by_cases h1:n < (s.keys.length:Int)
 all_goals by_cases h2:n < (s.vals.length:Int)
 all_goals by_cases h3:n < (s.words.length:Int)
 all_goals by_cases h4:n < (s.counts.length:Int)
 all_goals
  have H2:=aq (H.out.trans (by simp only [h1,h2,h3,h4,decide_true,decide_false,Bool.true_or,Bool.or_true,Bool.false_or,Bool.or_false];rfl))
  go_enter Tryz.func49,Tryz.ntmps49
  go_wp2;go_ret;rw [H2.out];exact⟨rfl,(Below.refl _ _).alloc (Nat.le_refl _) _⟩
theorem r4SameKeys (a b:Option Addr) (ca cb:Nat) (xs ys:List Int) (w:World) (ha:Lst .i64 w a xs) (hb:Lst .i64 w b ys) (hn:xs.length<=2147483647) (hm:ys.length<=2147483647) :
  Calls Tryz.prog 98 #[.slice a xs.length ca,.slice b ys.length cb] w fun e w'=>e=.returned (.bool (xs==ys))/\Below w.heap.size w w':=by
 have HA:=aq ha;have HB:=aq hb;clear ha hb
 by_cases hne:xs.length=ys.length
 ·have k1:((xs.length:Int) != ys.length)=false:=by simp;omega
  have HNE:=aq hne;clear hne
  go_enter Tryz.func98,Tryz.ntmps98
  go_wp2
  go_loopw [5] (SameIJ xs ys w) (fun i _=>xs.length-(intOf i).toNat)
  case atStart=>exact⟨0,0,Nat.zero_le _,rfl,rfl,rfl⟩
  case round =>
   obtain⟨k,q,hk,rfl,rfl,ht⟩:=hrel;have HT:=aq ht;clear ht
   by_cases hlt:k < xs.length
   ·have hltb:k < ys.length:=by have:=HNE.out;omega
    obtain⟨b1,o1,rfl,_,c1⟩:=HA.out.cell hlt;obtain⟨b2,o2,rfl,_,c2⟩:=HB.out.cell hltb;obtain⟨x,hx⟩:∃ x,xs.getD k 0=x:=⟨_,rfl⟩;obtain⟨y,hy⟩:∃ y,ys.getD k 0=y:=⟨_,rfl⟩;rw [hx] at c1;rw [hy] at c2;have HX:=aq hx;have HY:=aq hy;clear hx hy
    by_cases he:x=y
    ·have k2:(x != y)=false:=by simp [he]
     have HE:=aq he;clear he;go_wp2
     go_quiet (fail)
     go_wp2
     go_roundw
     case rel=>exact⟨k+1,_,by omega,by go_num,rfl,take_sameI xs ys k hlt hltb HT.out (by rw [HX.out,HY.out,HE.out])⟩
     case measure=>simp [intOf];omega
    ·have k2:(x != y)=true:=by simp;omega
     have HE:=aq he;clear he;go_wp2
     go_quiet (fail)
     go_wp2;go_ret;rw [not_sameI xs ys k (by rw [HX.out,HY.out];exact HE.out)];exact⟨rfl,below_drewN (below_drewN (Below.refl _ _) _) _⟩
   ·go_wp2
    go_ret
    have e:xs=ys:=by
     have:=HT.out
     rwa [List.take_of_length_le (by omega),List.take_of_length_le (by have:=HNE.out;omega)] at this
    rw [e];exact⟨by simp,below_drewN (Below.refl _ _) _⟩
 ·have k1:((xs.length:Int) != ys.length)=true:=by simp;omega
  have H:=aq (show (xs==ys)=false by rw [beq_eq_false_iff_ne];rintro rfl;exact hne rfl);clear hne
  go_enter Tryz.func98,Tryz.ntmps98
  go_wp2;go_ret;rw [H.out];exact⟨rfl,Below.refl _ _⟩
theorem beq_nat_int (x y:Nat):((x:Int)==(y:Int))=(x==y):=by
 rw [Bool.eq_iff_iff,beq_iff_eq,beq_iff_eq];omega
theorem same_of {s t:Sl} {b1 b2 b3 b4 b5 b6:Bool} (h1:(s.seg==t.seg)=b1) (h2:(s.laid==t.laid)=b2) (h3:(s.words==t.words)=b3) (h4:(s.keys==t.keys)=b4) (h5:(s.vals==t.vals)=b5) (h6:(s.counts==t.counts)=b6):s.sameB t=(b1&&b2&&b3&&b4&&b5&&b6):=by
 unfold Sl.sameB;rw [h1,h2,h3,h4,h5,h6]
theorem r4Same (s t:Sl) (a b:Ads) (w:World) (hs:Held w s a) (ht:Held w t b) (ls:s.Short) (lt:t.Short) :
  Calls Tryz.prog 62 #[slv s a,slv t b] w fun e w'=>e=.returned (.bool (s.sameB t))/\Below w.heap.size w w':=by
 have HS:=aq hs;have HT:=aq ht;have q1:=ls.words;have q2:=ls.keys;have q3:=ls.vals;have q4:=ls.counts;have q5:=lt.words;have q6:=lt.keys;have q7:=lt.vals;have q8:=lt.counts;clear hs ht ls lt;unfold slv;have HL:=aq (beq_nat_int s.laid t.laid);have HF:=aq (fun (b1 b2 b3 b4 b5 b6:Bool)=>@same_of s t b1 b2 b3 b4 b5 b6);have b0:∀ o o':Obj,Below w.heap.size w ((w.alloc o).alloc o'):=fun o o'=>((Below.refl _ _).alloc (Nat.le_refl _) o).alloc (by simp) o';have B0:=aq b0;clear b0
 cases h1:(s.seg==t.seg)
 ·go_enter Tryz.func62,Tryz.ntmps62
  go_wp2;go_ret;refine⟨?_,B0.out _ _⟩;rw [HF.out _ _ _ _ _ _ h1 rfl rfl rfl rfl rfl];rfl
 cases h2:((s.laid:Int)==(t.laid:Int))
 ·go_enter Tryz.func62,Tryz.ntmps62
  go_wp2;go_ret;refine⟨?_,B0.out _ _⟩;rw [HF.out _ _ _ _ _ _ h1 (HL.out.symm.trans h2) rfl rfl rfl rfl];rfl
 have g1:=aq h1;have g2:=aq (HL.out.symm.trans h2)
 go_enter Tryz.func62,Tryz.ntmps62
 go_wp2_with fail
 refine (r2Same _ _ _ _ _ _ _ (HS.out.below (B0.out _ _)).words (HT.out.below (B0.out _ _)).words q1 q5).mono ?_;rintro e w1 ⟨rfl,hb⟩;have B1:=aq ((B0.out _ _).trans (hb.mono (B0.out _ _).size));obtain⟨hc1,hf1⟩:=bcell hb
 have z1:w.heap.size+1 < w1.heap.size:=by have:=hb.size;simp at this;omega
 have y1:w.heap.size < w1.heap.size:=by omega
 clear hb
 cases h3:(s.words==t.words)
 ·go_wp2
  go_ret;refine⟨?_,B1.out⟩;rw [HF.out _ _ _ _ _ _ g1.out g2.out h3 rfl rfl rfl];rfl
 have g3:=aq h3;clear h3
 go_wp2_with fail
 refine (r4SameKeys _ _ _ _ _ _ _ (HS.out.below B1.out).keys (HT.out.below B1.out).keys (by omega) (by omega)).mono ?_;rintro e w2 ⟨rfl,hb⟩;have B2:=aq (B1.out.trans (hb.mono B1.out.size));obtain⟨hc2,hf2⟩:=bcell hb
 have z2:w.heap.size+1 < w2.heap.size:=by have:=hb.size;omega
 have y2:w.heap.size < w2.heap.size:=by omega
 clear hb
 cases h4:(s.keys==t.keys)
 ·go_wp2
  go_ret;refine⟨?_,B2.out⟩;rw [HF.out _ _ _ _ _ _ g1.out g2.out g3.out h4 rfl rfl];rfl
 have g4:=aq h4;clear h4
 go_wp2_with fail
 refine (r4SameKeys _ _ _ _ _ _ _ (HS.out.below B2.out).vals (HT.out.below B2.out).vals (by omega) (by omega)).mono ?_;rintro e w3 ⟨rfl,hb⟩;have B3:=aq (B2.out.trans (hb.mono B2.out.size));obtain⟨hc3,hf3⟩:=bcell hb
 have z3:w.heap.size+1 < w3.heap.size:=by have:=hb.size;omega
 have y3:w.heap.size < w3.heap.size:=by omega
 clear hb
 cases h5:(s.vals==t.vals)
 ·go_wp2
  go_ret;refine⟨?_,B3.out⟩;rw [HF.out _ _ _ _ _ _ g1.out g2.out g3.out g4.out h5 rfl];rfl
 have g5:=aq h5;clear h5
 go_wp2_with fail
 refine (rSameInts _ _ _ _ _ _ _ (HS.out.below B3.out).counts (HT.out.below B3.out).counts (by omega) (by omega)).mono ?_;rintro e w4 ⟨rfl,hb⟩;have B4:=aq (B3.out.trans (hb.mono B3.out.size));obtain⟨hc4,hf4⟩:=bcell hb
 have z4:w.heap.size+1 < w4.heap.size:=by have:=hb.size;omega
 have y4:w.heap.size < w4.heap.size:=by omega
 clear hb
 cases h6:(s.counts==t.counts)
 all_goals
  go_wp2;go_ret;refine⟨?_,B4.out⟩;rw [HF.out _ _ _ _ _ _ g1.out g2.out g3.out g4.out g5.out h6];rfl
theorem form_parts (s:Sl):s.formB=(Sl.fitsB s.seg s.keys.length&&s.vals.length==s.keys.length&&Oc.mayB s.words s.keys.length&&decide ((s.counts.length:Int)=(s.keys.length:Int)/s.seg)):=rfl
theorem may_form {s:Sl} (h:s.formB=false):s.mayB=false:=by unfold Sl.mayB;rw [h];rfl
theorem r4May_no (s:Sl) (a:Ads) (w:World) (h:Held w s a) (hok:s.Ok) (hs:s.Short) (hno:s.formB=false) :
  Calls Tryz.prog 139 #[slv s a] w fun e w'=>e=.returned (.bool s.mayB)/\Below w.heap.size w w':=by
 have HF:=aq (form_parts s);have HM:=aq (may_form hno);have HNo:=aq hno;have HH:=aq h.alloc;have HW:=aq hok.words;have l1:=hs.words;have l2:=hs.keys;have l3:=hs.vals;have l4:=hs.counts;have hseg:=hok.seg.2;have CF:=aq (fun W=>r4Fits s.seg (s.keys.length:Int) W (by omega) hseg);have CM:=aq (fun o n=>r2May a.w a.cw s.words s.keys.length ((w.alloc o).drewN n) ((HH.out o).words.drewN n) HW.out l1 l2);clear h hok hs hno hseg;unfold slv
 cases c1:Sl.fitsB s.seg s.keys.length
 ·have C1:=aq c1
  clear c1
  go_enter Tryz.func139,Tryz.ntmps139
  go_wp2
  go_quiet ((go_at_call 186;exact Calls.quiet_of_same ((CF.out _).mono fun _ _ x=>⟨x.1.trans (by rw [C1.out]),x.2.symm⟩)))
  go_wp2;go_ret;rw [HM.out];exact⟨rfl,below_drewN ((Below.refl _ _).alloc (Nat.le_refl _) _) _⟩
 ·have C1:=aq c1
  clear c1
  by_cases c2:s.vals.length=s.keys.length
  case neg =>
   have k2:((s.vals.length:Int) != (s.keys.length:Int))=true:=by simp;omega
   clear c2
   go_enter Tryz.func139,Tryz.ntmps139
   go_wp2
   go_quiet ((go_at_call 186;exact Calls.quiet_of_same ((CF.out _).mono fun _ _ x=>⟨x.1.trans (by rw [C1.out]),x.2.symm⟩)))
   go_wp2;go_ret;rw [HM.out];exact⟨rfl,below_drewN ((Below.refl _ _).alloc (Nat.le_refl _) _) _⟩
  case pos =>
   have k2:((s.vals.length:Int) != (s.keys.length:Int))=false:=by simp;omega
   have C2:=aq c2;clear c2
   cases c3:Oc.mayB s.words s.keys.length
   ·have C3:=aq c3
    clear c3
    go_enter Tryz.func139,Tryz.ntmps139
    go_wp2
    go_quiet ((first | (go_at_call 186;exact Calls.quiet_of_same ((CF.out _).mono fun _ _ x=>⟨x.1.trans (by rw [C1.out]),x.2.symm⟩)) | (go_at_call 187;exact Calls.quiet_of_same ((CM.out _ _).mono fun _ _ x=>⟨x.1.trans (by rw [C3.out]),x.2.symm⟩))))
    go_wp2;go_ret;rw [HM.out];exact⟨rfl,below_drewN ((Below.refl _ _).alloc (Nat.le_refl _) _) _⟩
   ·have C3:=aq c3
    clear c3
    have hseg4:4<=s.seg:=by
     have:=C1.out;rw [fitsB_parts] at this
     simp only [Bool.and_eq_true,decide_eq_true_eq] at this
     exact this.1.1.1.1.1.1
    have k0:¬ s.seg=0:=by omega
    have k1:(0:Int)<=s.seg:=by omega
    have k4:((s.counts.length:Int) != (s.keys.length:Int)/s.seg)=true:=by
     rw [bne_iff_ne];intro e;have h1:=HNo.out;rw [HF.out,C1.out,C3.out,C2.out,e] at h1
     simp at h1
    have g9:IntKind.i64.wrap ((s.keys.length:Int)/s.seg)=(s.keys.length:Int)/s.seg:=by
     have h1:=Int.ediv_le_self (a:=(s.keys.length:Int)) s.seg (by omega);have h2:=Int.ediv_nonneg (a:=(s.keys.length:Int)) (b:=s.seg) (by omega) (by omega);exact IntWalk.i64_in _ (by omega)
    have g8:(s.keys.length:Int).tdiv s.seg=(s.keys.length:Int)/s.seg:=Int.tdiv_eq_ediv_of_nonneg (by omega)
    go_enter Tryz.func139,Tryz.ntmps139
    go_wp2
    go_quiet ((first | (go_at_call 186;exact Calls.quiet_of_same ((CF.out _).mono fun _ _ x=>⟨x.1.trans (by rw [C1.out]),x.2.symm⟩)) | (go_at_call 187;exact Calls.quiet_of_same ((CM.out _ _).mono fun _ _ x=>⟨x.1.trans (by rw [C3.out]),x.2.symm⟩))))
    go_wp2;go_ret;rw [HM.out];exact⟨rfl,below_drewN ((Below.refl _ _).alloc (Nat.le_refl _) _) _⟩
theorem zeros_snoc (s:Sl) (k:Nat):s.zerosB (k+1)=(s.zerosB k&&s.zeroAt k):=by unfold Sl.zerosB;rw [List.range_succ,List.all_append];simp
theorem counts_snoc (s:Sl) (k:Nat):s.countsB (k+1)=(s.countsB k&&s.countAt k):=by unfold Sl.countsB;rw [List.range_succ,List.all_append];simp
theorem all_range_false {p:Nat->Bool} {n k:Nat} (hk:k < n) (h:p k=false):(List.range n).all p=false:=by
 rw [List.all_eq_false];exact⟨k,by simpa using hk,by simp [h]⟩
theorem form_yes {s:Sl} (h:s.formB=true):Sl.fitsB s.seg s.keys.length=true/\s.vals.length=s.keys.length/\Oc.mayB s.words s.keys.length=true/\(s.counts.length:Int)=(s.keys.length:Int)/s.seg:=by
 rw [form_parts] at h
 simp only [Bool.and_eq_true,decide_eq_true_eq,beq_iff_eq] at h
 exact⟨h.1.1.1,h.1.1.2,h.1.2,h.2⟩
theorem fits_yes {seg many:Int} (h:Sl.fitsB seg many=true):4<=seg/\seg<=64/\Fr.powB seg=true/\1<=many/\many<=65536/\many % seg=0/\Fr.powB (many/seg)=true:=by
 rw [fitsB_parts] at h
 simp only [Bool.and_eq_true,decide_eq_true_eq] at h
 exact⟨h.1.1.1.1.1.1,h.1.1.1.1.1.2,h.1.1.1.1.2,h.1.1.1.2,h.1.1.2,h.1.2,h.2⟩
theorem mayW_len {ws:List Nat} {n:Nat} (h:Oc.mayB ws n=true):ws.length=(n+63)/64:=by
 unfold Oc.mayB at h
 simp only [Bool.and_eq_true,beq_iff_eq] at h
 exact h.1
def MayJ1 (s:Sl) (a:Ads) (w:World) (i:Value) (wr:World):Prop:=∃ k:Nat,k<=s.keys.length/\i=.int .i64 k/\s.zerosB k=true/\Below w.heap.size w wr/\Box wr w.heap.size s a
def MayJ2 (s:Sl) (a:Ads) (w:World) (i:Value) (wr:World):Prop:=∃ k:Nat,k<=s.counts.length/\i=.int .i64 k/\s.countsB k=true/\Below w.heap.size w wr/\Box wr w.heap.size s a
theorem r4May_form (s:Sl) (a:Ads) (w:World) (h:Held w s a) (hok:s.Ok) (hs:s.Short) (hyes:s.formB=true) :
  Calls Tryz.prog 139 #[slv s a] w fun e w'=>e=.returned (.bool s.mayB)/\Below w.heap.size w w':=by
 obtain⟨f1,f2,f3,f4⟩:=form_yes hyes;obtain⟨g1,g2,_,g4,g5,g6,_⟩:=fits_yes f1;have HM:=aq (show s.mayB=(s.zerosB s.keys.length&&s.countsB s.counts.length) by unfold Sl.mayB;rw [hyes];rfl);have HH:=aq h;have HW:=aq hok.words;have l1:=hs.words;have l2:=hs.keys;have l3:=hs.vals;have l4:=hs.counts;have HB:=aq (Box.new w s a 29);have CF:=aq (fun W=>r4Fits s.seg (s.keys.length:Int) W (by omega) (by omega));have CM:=aq (fun o n=>r2May a.w a.cw s.words s.keys.length ((w.alloc o).drewN n) ((h.alloc o).words.drewN n) HW.out l1 l2);have C1:=aq f1
 have k2:((s.vals.length:Int) != (s.keys.length:Int))=false:=by simp;omega
 have C2:=aq f2;have C3:=aq f3;have C5:=aq (mayW_len f3)
 have k4:((s.counts.length:Int) != (s.keys.length:Int)/s.seg)=false:=by rw [bne_eq_false_iff_eq];exact f4
 have C4:=aq f4
 have k0:¬ s.seg=0:=by omega
 have k1:(0:Int)<=s.seg:=by omega
 have g9:IntKind.i64.wrap ((s.keys.length:Int)/s.seg)=(s.keys.length:Int)/s.seg:=by
  have h1:=Int.ediv_le_self (a:=(s.keys.length:Int)) s.seg (by omega);have h2:=Int.ediv_nonneg (a:=(s.keys.length:Int)) (b:=s.seg) (by omega) (by omega);exact IntWalk.i64_in _ (by omega)
 have g8:(s.keys.length:Int).tdiv s.seg=(s.keys.length:Int)/s.seg:=Int.tdiv_eq_ediv_of_nonneg (by omega);have G6:=aq g6;clear h hok hs hyes f1 f2 f3 f4 g6;unfold slv
 go_enter Tryz.func139,Tryz.ntmps139
 go_wp2
 go_quiet ((first | (go_at_call 186;exact Calls.quiet_of_same ((CF.out _).mono fun _ _ x=>⟨x.1.trans (by rw [C1.out]),x.2.symm⟩)) | (go_at_call 187;exact Calls.quiet_of_same ((CM.out _ _).mono fun _ _ x=>⟨x.1.trans (by rw [C3.out]),x.2.symm⟩))))
 clear k4 k2 g9 g8;go_wp2
 go_loopw [4] (MayJ1 s a w) (fun i _=>s.keys.length-(intOf i).toNat)
 case atStart=>exact⟨0,Nat.zero_le _,rfl,rfl,below_drewN ((Below.refl _ _).alloc (Nat.le_refl _) _) _,HB.out.below (below_drewN (Below.refl _ _) _)⟩
 case round =>
  obtain⟨k,hk,rfl,hz,hbr,hbx⟩:=hrel;have HZ:=aq hz;have HBr:=aq hbr;have HBx:=aq hbx;clear hz hbr hbx
  by_cases hlt:k < s.keys.length
  ·have c1:=HBx.out.c1
   have c2:=HBx.out.c2;have c3:=HBx.out.c3;obtain⟨bk,ok,hak,_,ck⟩:=(HH.out.below HBr.out).keys.cell hlt;obtain⟨bv,ov,hav,_,cv⟩:=(HH.out.below HBr.out).vals.cell (by have:=C2.out;omega:k < s.vals.length);obtain⟨x,hx⟩:∃ x,s.keys.getD k 0=x:=⟨_,rfl⟩;obtain⟨y,hy⟩:∃ y,s.vals.getD k 0=y:=⟨_,rfl⟩;rw [hx] at ck;rw [hy] at cv;rw [hak] at c2;rw [hav] at c3;have HZA:=aq (show s.zeroAt k=(Oc.isB s.words k||(x==0&&y==0)) by unfold Sl.zeroAt;rw [hx,hy])
   have i0:(0:Int)<=(k:Int):=by omega
   have i1:(k:Int) < (s.keys.length:Int):=by omega
   have i2:(k:Int) < (s.vals.length:Int):=by have:=C2.out;omega
   have j2:k < s.vals.length:=by omega
   have j3:k < 64*s.words.length:=by have:=C5.out;omega
   clear hx hy hak hav;have CI:=aq (r2Is a.w a.cw s.words (k:Int) wr (HH.out.below HBr.out).words HW.out l1 (by omega) (by omega))
   cases hi:Oc.isB s.words k
   ·by_cases hx0:x=0
    ·by_cases hy0:y=0
     ·have e1:(x != 0)=false:=by simp [hx0]
      have e2:(y != 0)=false:=by simp [hy0]
      have HZ2:=aq (show s.zerosB (k+1)=true by rw [zeros_snoc,HZ.out,HZA.out,hi,hx0,hy0];rfl);have Hi:=aq hi;clear hi hx0 hy0
      go_wp2_with fail
      refine CI.out.mono ?_;rintro e w' ⟨rfl,rfl⟩;rw [Int.toNat_natCast,Hi.out];go_wp2
      go_roundw
      case rel=>exact⟨k+1,by omega,by go_num,HZ2.out,HBr.out,HBx.out⟩
      case measure=>simp [intOf];omega
     ·have e1:(x != 0)=false:=by simp [hx0]
      have e2:(y != 0)=true:=by simp [hy0]
      have HZ2:=aq (show s.zerosB s.keys.length=false from all_range_false hlt (by rw [HZA.out,hi,hx0];simp [hy0]));have Hi:=aq hi;clear hi hx0 hy0
      go_wp2_with fail
      refine CI.out.mono ?_;rintro e w' ⟨rfl,rfl⟩;rw [Int.toNat_natCast,Hi.out];go_wp2;go_ret;rw [HM.out,HZ2.out];exact⟨rfl,HBr.out⟩
    ·have e1:(x != 0)=true:=by simp [hx0]
     have HZ2:=aq (show s.zerosB s.keys.length=false from all_range_false hlt (by rw [HZA.out,hi];simp [hx0]));have Hi:=aq hi;clear hi hx0
     go_wp2_with fail
     refine CI.out.mono ?_;rintro e w' ⟨rfl,rfl⟩;rw [Int.toNat_natCast,Hi.out];go_wp2;go_ret;rw [HM.out,HZ2.out];exact⟨rfl,HBr.out⟩
   ·have HZ2:=aq (show s.zerosB (k+1)=true by rw [zeros_snoc,HZ.out,HZA.out,hi];rfl)
    have Hi:=aq hi;clear hi
    go_wp2_with fail
    refine CI.out.mono ?_;rintro e w' ⟨rfl,rfl⟩;rw [Int.toNat_natCast,Hi.out];go_wp2
    go_roundw
    case rel=>exact⟨k+1,by omega,by go_num,HZ2.out,HBr.out,HBx.out⟩
    case measure=>simp [intOf];omega
  ·obtain rfl:k=s.keys.length:=by omega
   go_wp2
   go_loopw [5] (MayJ2 s a w) (fun i _=>s.counts.length-(intOf i).toNat)
   case atStart=>exact⟨0,Nat.zero_le _,rfl,rfl,HBr.out,HBx.out⟩
   case round =>
    obtain⟨j,hj,rfl,hz2,hbr2,hbx2⟩:=hrel;clear HBr HBx;have HZ2:=aq hz2;have HBr:=aq hbr2;have HBx:=aq hbx2;clear hz2 hbr2 hbx2;have c0:=HBx.out.c0;have c1:=HBx.out.c1;have c4:=HBx.out.c4
    by_cases hlt2:j < s.counts.length
    ·obtain⟨bc,oc,hac,hbc,cc⟩:=(HH.out.below HBr.out).counts.cell hlt2
     obtain⟨x,hx⟩:∃ x,s.counts.getD j 0=x:=⟨_,rfl⟩;rw [hx] at cc;rw [hac] at c4;obtain⟨g,hg⟩:∃ g:Nat,g=s.seg.toNat:=⟨_,rfl⟩
     have hsg:s.seg=(g:Int):=by omega
     have hCA:s.countAt j=(x==((Oc.places s.words (j*g) ((j+1)*g)).length:Int)):=by unfold Sl.countAt Sl.countOf;rw [hx,hg]
     have hle:(j+1)*g<=s.keys.length:=by
      have h6:=Int.ediv_mul_cancel (a:=(s.keys.length:Int)) (b:=s.seg) (Int.dvd_of_emod_eq_zero G6.out);rw [<-C4.out,hsg] at h6
      have h7:s.counts.length*g=s.keys.length:=by exact_mod_cast h6
      rw [<-h7];exact Nat.mul_le_mul_right _ hlt2
     obtain⟨lo,hlo⟩:∃ lo,lo=j*g:=⟨_,rfl⟩;obtain⟨hi,hhi⟩:∃ hi,hi=(j+1)*g:=⟨_,rfl⟩
     have hlh:lo<=hi:=by rw [hlo,hhi];exact Nat.mul_le_mul_right _ (by omega)
     have e1:IntKind.i64.wrap ((j:Int)*s.seg)=(lo:Int):=by
      rw [hsg,hlo,show (j:Int)*(g:Int)=((j*g:Nat):Int) from by simp];exact IntWalk.i64_in _ (by omega)
     have e2:IntKind.i64.wrap (((j:Int)+1)*s.seg)=(hi:Int):=by
      rw [hsg,hhi,show ((j:Int)+1)*(g:Int)=(((j+1)*g:Nat):Int) from by simp];exact IntWalk.i64_in _ (by omega)
     have e3:IntKind.i64.wrap ((j:Int)+1)=(j:Int)+1:=IntWalk.i64_in _ (by omega);rw [<-hlo,<-hhi] at hCA;rw [<-hhi] at hle
     have hw64:hi<=64*s.words.length:=by have:=C5.out;omega
     have HCA:=aq hCA;have HSg:=aq hsg;have HAC:=aq hac
     have i0:(0:Int)<=(j:Int):=by omega
     have i1:(j:Int) < (s.counts.length:Int):=by omega
     have HLw:=aq (HH.out.below HBr.out).words;have hwr:=HBx.out.lt;clear hx hCA hsg hlo hhi hg hac;have hb0:∀ w2,Below (wr.drewN 1).heap.size (wr.drewN 1) w2->Below wr.heap.size wr w2:=fun w2 hb=>(below_drewN (Below.refl _ _) 1).trans hb;have HB0:=aq hb0;clear hb0
     cases hq:(x==((Oc.places s.words lo hi).length:Int))
     ·have e5:(x != ((Oc.places s.words lo hi).length:Int))=true:=by rw [bne,hq];rfl
      have HQ:=aq (show s.countsB s.counts.length=false from all_range_false hlt2 (by rw [HCA.out,hq]));clear hq;go_wp2
      go_region_held3 (fun w'=>w'.cell? ⟨w.heap.size,4,none⟩=some (.slice (some ⟨bc,oc,none⟩) s.counts.length a.cc)/\w'.cell? ⟨w.heap.size,1,none⟩=some (.slice a.w s.words.length a.cw)/\w'.cell? ⟨w.heap.size,0,none⟩=some (.int .i64 s.seg)/\w'.cell? ⟨bc,oc+j,none⟩=some (.int .i64 x)) (first | exact⟨c4,c1,c0,cc⟩ | exact⟨(hb.cell (p:=⟨w.heap.size,4,none⟩) hwr).trans c4,(hb.cell (p:=⟨w.heap.size,1,none⟩) hwr).trans c1,(hb.cell (p:=⟨w.heap.size,0,none⟩) hwr).trans c0,(hb.cell (p:=⟨bc,oc+j,none⟩) hbc).trans cc⟩)
       (first | (go_at_call 138;refine (r2Places _ _ _ lo hi _ (HLw.out.drewN 1) HW.out l1 hw64 (by omega)).mono ?_;rintro e w2 ⟨v,rfl,hown,hb⟩;obtain⟨A,c,rfl,_⟩:=own_cells hown;clear hown))
      go_wp2;go_ret;rw [HM.out,HQ.out,Bool.and_false];have hz:=HBr.out.size;exact⟨rfl,HBr.out.trans ((HB0.out _ hb).mono hz)⟩
     ·have e5:(x != ((Oc.places s.words lo hi).length:Int))=false:=by rw [bne,hq];rfl
      have HQ:=aq (show s.countsB (j+1)=true by rw [counts_snoc,HZ2.out,HCA.out,hq];rfl);clear hq;go_wp2
      go_region_held3 (fun w'=>w'.cell? ⟨w.heap.size,4,none⟩=some (.slice (some ⟨bc,oc,none⟩) s.counts.length a.cc)/\w'.cell? ⟨w.heap.size,1,none⟩=some (.slice a.w s.words.length a.cw)/\w'.cell? ⟨w.heap.size,0,none⟩=some (.int .i64 s.seg)/\w'.cell? ⟨bc,oc+j,none⟩=some (.int .i64 x)) (first | exact⟨c4,c1,c0,cc⟩ | exact⟨(hb.cell (p:=⟨w.heap.size,4,none⟩) hwr).trans c4,(hb.cell (p:=⟨w.heap.size,1,none⟩) hwr).trans c1,(hb.cell (p:=⟨w.heap.size,0,none⟩) hwr).trans c0,(hb.cell (p:=⟨bc,oc+j,none⟩) hbc).trans cc⟩)
       (first | (go_at_call 138;refine (r2Places _ _ _ lo hi _ (HLw.out.drewN 1) HW.out l1 hw64 (by omega)).mono ?_;rintro e w2 ⟨v,rfl,hown,hb⟩;obtain⟨A,c,rfl,_⟩:=own_cells hown;clear hown))
      go_wp2
      go_roundw
      case rel=>exact⟨j+1,by omega,by go_num,HQ.out,HBr.out.trans ((HB0.out _ hb).mono HBr.out.size),HBx.out.below (HB0.out _ hb)⟩
      case measure=>simp [intOf];omega
    ·obtain rfl:j=s.counts.length:=by omega
     go_wp2;go_ret;rw [HM.out,HZ.out,HZ2.out];exact⟨rfl,HBr.out⟩
theorem r4May (s:Sl) (a:Ads) (w:World) (h:Held w s a) (hok:s.Ok) (hs:s.Short) :
  Calls Tryz.prog 139 #[slv s a] w fun e w'=>e=.returned (.bool s.mayB)/\Below w.heap.size w w':=by
 cases hf:s.formB
 ·exact r4May_no s a w h hok hs hf
 ·exact r4May_form s a w h hok hs hf
theorem slot_iff {s:Sl} {i:Int}:s.slotB i=true↔0<=i/\i < s.keys.length:=by unfold Sl.slotB;simp
theorem take_sameP (xs ys:List (Int×Int)) (k:Nat) (h1:k < xs.length) (h2:k < ys.length) (h:xs.take k=ys.take k) (he:xs.getD k (0,0)=ys.getD k (0,0)):xs.take (k+1)=ys.take (k+1):=by
 rw [List.take_succ_eq_append_getElem h1,List.take_succ_eq_append_getElem h2,h]
 simp only [List.getD,List.getElem?_eq_getElem h1,List.getElem?_eq_getElem h2,Option.getD_some] at he
 rw [he]
theorem not_sameP (xs ys:List (Int×Int)) (k:Nat) (he:¬ xs.getD k (0,0)=ys.getD k (0,0)):(xs==ys)=false:=by
 rw [beq_eq_false_iff_ne];rintro rfl;exact he rfl
def SamePJ (xs ys:List (Int×Int)) (w:World) (i:Value) (wr:World):Prop:=∃ k q:Nat,k<=xs.length/\i=.int .i64 k/\wr=w.drewN q/\xs.take k=ys.take k
end Go.Proofs.YtpeckljoannolaaGreatDoor
