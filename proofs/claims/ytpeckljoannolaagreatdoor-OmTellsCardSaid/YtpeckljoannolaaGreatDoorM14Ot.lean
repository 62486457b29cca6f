/- What Check, At, Same and Twin of package slots return. -/
import Derived.Test.YtpeckljoannolaaGreatDoorM13Ot
import Derived.Test.YtpeckljoannolaaGreatDoorM08Ot
import Derived.Test.YtpeckljoannolaaGreatDoorR04Ot
import Derived.Test.YtpeckljoannolaaGreatDoorTkOt
set_option linter.unusedVariables false
set_option linter.unusedSimpArgs false
set_option maxHeartbeats 8000000
set_option maxRecDepth 100000
namespace Go.Proofs.YtpeckljoannolaaGreatDoor
open Go.RowKit
theorem chk_word {ws:List Nat} {n:Nat} (h1:n<=65536):Oc.chk ws n=if Oc.mayB ws n then 0 else 8:=by
 unfold Oc.chk Oc.badN;rw [show (decide ((n:Int) < 0)||decide ((65536:Int) < n))=false from by simp;omega,Int.toNat_natCast]
 rfl
theorem sCheck (s:Sl) (a:Ads) (w:World) (h:Held w s a) (hok:s.Ok) (hs:s.Short) (hT:Tab w) :
  Calls Tryz.prog 81 #[slv s a] w fun e w'=>e=.returned (.int .i64 s.chk)/\Below w.heap.size w w':=by
 have l2:=hs.keys;have CM:=aq (fun W=>sMayHave s.seg s.keys.length W hok.seg ⟨by omega,by omega⟩);have CO:=aq (fun o=>oCheck a.w a.cw s.words s.keys.length (w.alloc o) (h.alloc o).words hok.words hs.words);have CC:=aq (fun W h1 h2 h3=>sCounts s a W (h.below h1) hok hs h2 h3);have CG:=aq (fun W h1 h2 h3 h4=>sGaps s a W (h.below h1) hok hs h2 h3 h4 (hT.below h1));have HB:=aq (fun o=>(Below.refl w.heap.size w).alloc (Nat.le_refl _) o);have BX:=aq (Box.new w s a 29);have HM:=aq (show s.mayB=(Sl.fitsB s.seg s.keys.length&&s.vals.length==s.keys.length&&Oc.mayB s.words s.keys.length&&decide ((s.counts.length:Int)=(s.keys.length:Int)/s.seg)&&s.zerosB s.keys.length&&s.countsB s.counts.length) from rfl);have HK:=aq (show s.chk=if s.mayB then 0 else 8 from rfl);clear h hok hs hT;unfold slv at CC CG ⊢
 by_cases f1:Sl.fitsB s.seg s.keys.length=true
 ·have HF1:=aq f1
  have hn1:=(fits_yes f1).2.2.2.1
  by_cases f2:s.vals.length=s.keys.length
  ·have HF2:=aq f2
   have k2:((s.vals.length:Int) != (s.keys.length:Int))=false:=by simp [f2]
   have HW:=aq (chk_word (ws:=s.words) (n:=s.keys.length) (by omega))
   cases f3:Oc.mayB s.words s.keys.length
   ·have E:=aq (show s.chk=8 by rw [HK.out,HM.out,f3];simp)
    have k3:(Oc.chk s.words s.keys.length != 0)=true:=by rw [HW.out,f3];rfl
    clear f1 f2 f3
    go_enter Tryz.func81,Tryz.ntmps81
    go_wp2_with fail
    refine (CM.out _).mono ?_;rintro e w1 ⟨rfl,rfl⟩;rw [HF1.out]
    go_wp2_with fail
    refine (CO.out _).mono ?_;rintro e w1 ⟨rfl,hb⟩;go_wp2;go_ret;rw [E.out];exact⟨rfl,(HB.out _).trans (hb.mono (by simp))⟩
   ·have k3:(Oc.chk s.words s.keys.length != 0)=false:=by rw [HW.out,f3];rfl
    have HC:=aq (show Oc.chk s.words s.keys.length=0 by rw [HW.out,f3];rfl)
    cases f4:(decide ((s.counts.length:Int)=(s.keys.length:Int)/s.seg)&&s.countsB s.counts.length)
    ·have E:=aq (show s.chk=8 by
      rw [HK.out,HM.out];rw [Bool.and_eq_false_iff] at f4
      rcases f4 with f4 | f4
      ·rw [f4];simp
      ·rw [f4];simp)
     have F4:=aq f4;clear f1 f2 f3 f4
     go_enter Tryz.func81,Tryz.ntmps81
     go_wp2_with fail
     refine (CM.out _).mono ?_;rintro e w1 ⟨rfl,rfl⟩;rw [HF1.out]
     go_wp2_with fail
     refine (CO.out _).mono ?_;rintro e w1 ⟨rfl,hb⟩;have B1:=aq ((HB.out _).trans (hb.mono (by simp)));obtain⟨_,c0,c1,c2,c3,c4,c5,_⟩:=BX.out.below hb;clear hb
     go_wp2_with fail
     refine (CC.out _ B1.out HF1.out HC.out).mono ?_;rintro e w2 ⟨rfl,hb⟩;rw [F4.out];have B2:=aq (B1.out.trans (hb.mono B1.out.size));go_wp2;go_ret;rw [E.out];exact⟨rfl,B2.out⟩
    ·have F4:=aq f4
     have HZ:=aq (show s.chk=if s.zerosB s.keys.length then 0 else 8 by
      rw [HK.out,HM.out];rw [Bool.and_eq_true] at f4;rw [HF1.out,f3,f4.1,f4.2,HF2.out]
      simp)
     clear f1 f2 f3 f4;obtain⟨z,hz⟩:∃ z,z=s.zerosB s.keys.length:=⟨_,rfl⟩;rw [<-hz] at HZ CG;clear hz
     cases z
     all_goals
      go_enter Tryz.func81,Tryz.ntmps81
      go_wp2_with fail
      refine (CM.out _).mono ?_;rintro e w1 ⟨rfl,rfl⟩;rw [HF1.out]
      go_wp2_with fail
      refine (CO.out _).mono ?_;rintro e w1 ⟨rfl,hb⟩;have B1:=aq ((HB.out _).trans (hb.mono (by simp)));have BX1:=aq (BX.out.below hb);obtain⟨_,c0,c1,c2,c3,c4,c5,_⟩:=BX1.out;clear hb
      go_wp2_with fail
      refine (CC.out _ B1.out HF1.out HC.out).mono ?_;rintro e w2 ⟨rfl,hb⟩;rw [F4.out];have B2:=aq (B1.out.trans (hb.mono B1.out.size));clear c0 c1 c2 c3 c4 c5;obtain⟨_,c0,c1,c2,c3,c4,c5,_⟩:=BX1.out.below hb;clear hb
      go_wp2_with fail
      refine (CG.out _ B2.out HF2.out (by omega) HC.out).mono ?_;rintro e w3 ⟨rfl,hb⟩;have B3:=aq (B2.out.trans (hb.mono B2.out.size));go_wp2;go_ret;rw [HZ.out];exact⟨rfl,B3.out⟩
  ·have k2:((s.vals.length:Int) != (s.keys.length:Int))=true:=by simp;omega
   have E:=aq (show s.chk=8 by rw [HK.out,HM.out,show (s.vals.length==s.keys.length)=false from by simp [f2]];simp);clear f1 f2
   go_enter Tryz.func81,Tryz.ntmps81
   go_wp2_with fail
   refine (CM.out _).mono ?_;rintro e w1 ⟨rfl,rfl⟩;rw [HF1.out];go_wp2;go_ret;rw [E.out];exact⟨rfl,HB.out _⟩
 ·have f1':Sl.fitsB s.seg s.keys.length=false:=by simpa using f1
  have E:=aq (show s.chk=8 by rw [HK.out,HM.out,f1'];rfl);have HF1:=aq f1';clear f1 f1'
  go_enter Tryz.func81,Tryz.ntmps81
  go_wp2_with fail
  refine (CM.out _).mono ?_;rintro e w1 ⟨rfl,rfl⟩;rw [HF1.out];go_wp2;go_ret;rw [E.out];exact⟨rfl,HB.out _⟩
def ClonedPost (k:IntKind) (zs:List Int) (w:World) (e:Ending) (w':World):Prop :=
 ∃ A c,e=.returned (.slice A zs.length c)/\New k w' w.heap.size A zs/\(A=none->zs.length=0/\c=0)/\zs.length<=c/\(∀ p,A=some p->w.heap.size<=p.block/\p.block < w'.heap.size)/\Below w.heap.size w w'
theorem sCloneW (a:Option Addr) (cap:Nat) (zs:List Int) (w:World) (hl:Lst .u64 w a zs) (hn:zs.length<=65536) (hnil:a=none->zs.length=0/\cap=0) :
  Calls Tryz.prog 78 #[.slice a zs.length cap] w (ClonedPost .u64 zs w):=by
 have HL:=aq hl
 cases a with
 | none =>
  obtain⟨h0,h1⟩:=hnil rfl;subst h1;have hz:zs=[]:=List.eq_nil_of_length_eq_zero h0;subst hz;clear hl hnil
  have heq:∀ w',Sem.run Tryz.prog (binOp BinOp.eql 24 (Value.slice none 0 0) (Value.slice none 0 0)) w'=.ok (.bool true) w':=fun _=>by kernel_rfl
  go_enter Tryz.func78,Tryz.ntmps78
  go_wp2;go_ret;exact⟨none,0,rfl,Or.inl rfl,fun _=>⟨rfl,rfl⟩,Nat.le_refl _,fun p hp=>(by cases hp),Below.refl _ _⟩
 | some ad =>
  obtain⟨n,hzn⟩:∃ n,n=zs.length:=⟨_,rfl⟩;have HN:=aq hzn;rw [<-hzn] at hn ⊢;clear hl hnil hzn
  have heq:∀ w',Sem.run Tryz.prog (binOp BinOp.eql 24 (Value.slice (some ad) n cap) (Value.slice none 0 0)) w'=.ok (.bool false) w':=fun _=>by kernel_rfl
  go_enter Tryz.func78,Tryz.ntmps78
  go_wp2_with (at_builtin;refine wpList_copy elemW rfl (.tmp 5) (.tmp 6) rfl w rfl (some ad) n cap (zs.map (Value.int .u64)) rfl rfl (Cells.of_lst HL.out) (by rw [List.length_map,HN.out,Nat.mul_one]) (one_of _ _) (fun h=>by cases h) (by unfold maxLen;omega) (by omega) ?_;intro A c w1 hown _ hb;obtain⟨N0,q0,q1,r⟩:=own_where hown;have NN:=aq N0;have QQ:=aq (And.intro q0 (And.intro q1 r));have BB:=aq hb;clear hown N0 q0 q1 r hb)
  go_ret;exact⟨A,c,by rw [HN.out];rfl,NN.out,fun h=>(by rw [<-HN.out];exact QQ.out.1 h),by rw [<-HN.out];exact QQ.out.2.1,QQ.out.2.2,BB.out⟩
theorem sCloneK (a:Option Addr) (cap:Nat) (zs:List Int) (w:World) (hl:Lst .i64 w a zs) (hn:zs.length<=65536) (hnil:a=none->zs.length=0/\cap=0) :
  Calls Tryz.prog 79 #[.slice a zs.length cap] w (ClonedPost .i64 zs w):=by
 have HL:=aq hl
 cases a with
 | none =>
  obtain⟨h0,h1⟩:=hnil rfl;subst h1;have hz:zs=[]:=List.eq_nil_of_length_eq_zero h0;subst hz;clear hl hnil
  have heq:∀ w',Sem.run Tryz.prog (binOp BinOp.eql 25 (Value.slice none 0 0) (Value.slice none 0 0)) w'=.ok (.bool true) w':=fun _=>by kernel_rfl
  go_enter Tryz.func79,Tryz.ntmps79
  go_wp2;go_ret;exact⟨none,0,rfl,Or.inl rfl,fun _=>⟨rfl,rfl⟩,Nat.le_refl _,fun p hp=>(by cases hp),Below.refl _ _⟩
 | some ad =>
  obtain⟨n,hzn⟩:∃ n,n=zs.length:=⟨_,rfl⟩;have HN:=aq hzn;rw [<-hzn] at hn ⊢;clear hl hnil hzn
  have heq:∀ w',Sem.run Tryz.prog (binOp BinOp.eql 25 (Value.slice (some ad) n cap) (Value.slice none 0 0)) w'=.ok (.bool false) w':=fun _=>by kernel_rfl
  go_enter Tryz.func79,Tryz.ntmps79
  go_wp2_with (at_builtin;refine wpList_copy elemK rfl (.tmp 5) (.tmp 6) rfl w rfl (some ad) n cap (zs.map (Value.int .i64)) rfl rfl (Cells.of_lst HL.out) (by rw [List.length_map,HN.out,Nat.mul_one]) (one_of _ _) (fun h=>by cases h) (by unfold maxLen;omega) (by omega) ?_;intro A c w1 hown _ hb;obtain⟨N0,q0,q1,r⟩:=own_where hown;have NN:=aq N0;have QQ:=aq (And.intro q0 (And.intro q1 r));have BB:=aq hb;clear hown N0 q0 q1 r hb)
  go_ret;exact⟨A,c,by rw [HN.out];rfl,NN.out,fun h=>(by rw [<-HN.out];exact QQ.out.1 h),by rw [<-HN.out];exact QQ.out.2.1,QQ.out.2.2,BB.out⟩
theorem sCloneI (a:Option Addr) (cap:Nat) (zs:List Int) (w:World) (hl:Lst .i64 w a zs) (hn:zs.length<=65536) (hnil:a=none->zs.length=0/\cap=0) :
  Calls Tryz.prog 80 #[.slice a zs.length cap] w (ClonedPost .i64 zs w):=by
 have HL:=aq hl
 cases a with
 | none =>
  obtain⟨h0,h1⟩:=hnil rfl;subst h1;have hz:zs=[]:=List.eq_nil_of_length_eq_zero h0;subst hz;clear hl hnil
  have heq:∀ w',Sem.run Tryz.prog (binOp BinOp.eql 26 (Value.slice none 0 0) (Value.slice none 0 0)) w'=.ok (.bool true) w':=fun _=>by kernel_rfl
  go_enter Tryz.func80,Tryz.ntmps80
  go_wp2;go_ret;exact⟨none,0,rfl,Or.inl rfl,fun _=>⟨rfl,rfl⟩,Nat.le_refl _,fun p hp=>(by cases hp),Below.refl _ _⟩
 | some ad =>
  obtain⟨n,hzn⟩:∃ n,n=zs.length:=⟨_,rfl⟩;have HN:=aq hzn;rw [<-hzn] at hn ⊢;clear hl hnil hzn
  have heq:∀ w',Sem.run Tryz.prog (binOp BinOp.eql 26 (Value.slice (some ad) n cap) (Value.slice none 0 0)) w'=.ok (.bool false) w':=fun _=>by kernel_rfl
  go_enter Tryz.func80,Tryz.ntmps80
  go_wp2_with (at_builtin;refine wpList_copy elemI rfl (.tmp 5) (.tmp 6) rfl w rfl (some ad) n cap (zs.map (Value.int .i64)) rfl rfl (Cells.of_lst HL.out) (by rw [List.length_map,HN.out,Nat.mul_one]) (one_of _ _) (fun h=>by cases h) (by unfold maxLen;omega) (by omega) ?_;intro A c w1 hown _ hb;obtain⟨N0,q0,q1,r⟩:=own_where hown;have NN:=aq N0;have QQ:=aq (And.intro q0 (And.intro q1 r));have BB:=aq hb;clear hown N0 q0 q1 r hb)
  go_ret;exact⟨A,c,by rw [HN.out];rfl,NN.out,fun h=>(by rw [<-HN.out];exact QQ.out.1 h),by rw [<-HN.out];exact QQ.out.2.1,QQ.out.2.2,BB.out⟩
theorem sEqualK (a b:Option Addr) (ca cb:Nat) (xs ys:List Int) (w:World) (ha:Lst .i64 w a xs) (hb:Lst .i64 w b ys) (hn:xs.length<=65536) (hm:ys.length<=65536) :
  Calls Tryz.prog 95 #[.slice a xs.length ca,.slice b ys.length cb] w fun e w'=>e=.returned (.bool (xs==ys))/\Below w.heap.size w w':=by
 have HA:=aq ha;have HB:=aq hb;clear ha hb
 by_cases hne:xs.length=ys.length
 ·have k1:((xs.length:Int) != ys.length)=false:=by simp;omega
  have HNE:=aq hne;clear hne
  go_enter Tryz.func95,Tryz.ntmps95
  go_wp2
  go_loopw [13] (SameIJ xs ys w) (fun i _=>xs.length-(intOf i).toNat)
  case atStart=>exact⟨0,0,Nat.zero_le _,rfl,rfl,rfl⟩
  case round =>
   obtain⟨k,q,hk,rfl,rfl,ht⟩:=hrel;have HT:=aq ht;clear ht
   by_cases hlt:k < xs.length
   ·have hltb:k < ys.length:=by have:=HNE.out;omega
    obtain⟨b1,o1,rfl,_,c1⟩:=HA.out.cell hlt;obtain⟨b2,o2,rfl,_,c2⟩:=HB.out.cell hltb;obtain⟨x,hx⟩:∃ x,xs.getD k 0=x:=⟨_,rfl⟩;obtain⟨y,hy⟩:∃ y,ys.getD k 0=y:=⟨_,rfl⟩;rw [hx] at c1;rw [hy] at c2;have HX:=aq hx;have HY:=aq hy;clear hx hy
    by_cases he:x=y
    ·have k2:(x != y)=false:=by simp [he]
     have HE:=aq he;clear he;go_wp2
     go_quiet (fail)
     go_wp2
     go_roundw
     case rel=>exact⟨k+1,_,by omega,by go_num,rfl,take_sameI xs ys k hlt hltb HT.out (by rw [HX.out,HY.out,HE.out])⟩
     case measure=>simp [intOf];omega
    ·have k2:(x != y)=true:=by simp [he]
     have HE:=aq he;clear he;go_wp2
     go_quiet (fail)
     go_wp2;go_ret;rw [not_sameI xs ys k (by rw [HX.out,HY.out];exact HE.out)];exact⟨rfl,below_drewN (below_drewN (Below.refl _ _) _) _⟩
   ·go_wp2
    go_ret
    have e:xs=ys:=by
     have:=HT.out
     rwa [List.take_of_length_le (by omega),List.take_of_length_le (by have:=HNE.out;omega)] at this
    rw [e];exact⟨by simp,below_drewN (Below.refl _ _) _⟩
 ·have k1:((xs.length:Int) != ys.length)=true:=by simp;omega
  have H:=aq (show (xs==ys)=false by rw [beq_eq_false_iff_ne];rintro rfl;exact hne rfl);clear hne
  go_enter Tryz.func95,Tryz.ntmps95
  go_wp2;go_ret;rw [H.out];exact⟨rfl,Below.refl _ _⟩
theorem sEqualI (a b:Option Addr) (ca cb:Nat) (xs ys:List Int) (w:World) (ha:Lst .i64 w a xs) (hb:Lst .i64 w b ys) (hn:xs.length<=65536) (hm:ys.length<=65536) :
  Calls Tryz.prog 96 #[.slice a xs.length ca,.slice b ys.length cb] w fun e w'=>e=.returned (.bool (xs==ys))/\Below w.heap.size w w':=by
 have HA:=aq ha;have HB:=aq hb;clear ha hb
 by_cases hne:xs.length=ys.length
 ·have k1:((xs.length:Int) != ys.length)=false:=by simp;omega
  have HNE:=aq hne;clear hne
  go_enter Tryz.func96,Tryz.ntmps96
  go_wp2
  go_loopw [13] (SameIJ xs ys w) (fun i _=>xs.length-(intOf i).toNat)
  case atStart=>exact⟨0,0,Nat.zero_le _,rfl,rfl,rfl⟩
  case round =>
   obtain⟨k,q,hk,rfl,rfl,ht⟩:=hrel;have HT:=aq ht;clear ht
   by_cases hlt:k < xs.length
   ·have hltb:k < ys.length:=by have:=HNE.out;omega
    obtain⟨b1,o1,rfl,_,c1⟩:=HA.out.cell hlt;obtain⟨b2,o2,rfl,_,c2⟩:=HB.out.cell hltb;obtain⟨x,hx⟩:∃ x,xs.getD k 0=x:=⟨_,rfl⟩;obtain⟨y,hy⟩:∃ y,ys.getD k 0=y:=⟨_,rfl⟩;rw [hx] at c1;rw [hy] at c2;have HX:=aq hx;have HY:=aq hy;clear hx hy
    by_cases he:x=y
    ·have k2:(x != y)=false:=by simp [he]
     have HE:=aq he;clear he;go_wp2
     go_quiet (fail)
     go_wp2
     go_roundw
     case rel=>exact⟨k+1,_,by omega,by go_num,rfl,take_sameI xs ys k hlt hltb HT.out (by rw [HX.out,HY.out,HE.out])⟩
     case measure=>simp [intOf];omega
    ·have k2:(x != y)=true:=by simp [he]
     have HE:=aq he;clear he;go_wp2
     go_quiet (fail)
     go_wp2;go_ret;rw [not_sameI xs ys k (by rw [HX.out,HY.out];exact HE.out)];exact⟨rfl,below_drewN (below_drewN (Below.refl _ _) _) _⟩
   ·go_wp2
    go_ret
    have e:xs=ys:=by
     have:=HT.out
     rwa [List.take_of_length_le (by omega),List.take_of_length_le (by have:=HNE.out;omega)] at this
    rw [e];exact⟨by simp,below_drewN (Below.refl _ _) _⟩
 ·have k1:((xs.length:Int) != ys.length)=true:=by simp;omega
  have H:=aq (show (xs==ys)=false by rw [beq_eq_false_iff_ne];rintro rfl;exact hne rfl);clear hne
  go_enter Tryz.func96,Tryz.ntmps96
  go_wp2;go_ret;rw [H.out];exact⟨rfl,Below.refl _ _⟩
theorem sSame (s t:Sl) (a b:Ads) (w:World) (hs:Held w s a) (ht:Held w t b) (ls:s.Short) (lt:t.Short) :
  Calls Tryz.prog 60 #[slv s a,slv t b] w fun e w'=>e=.returned (.bool (s.sameB t))/\Below w.heap.size w w':=by
 have HS:=aq hs;have HT:=aq ht;have q1:=ls.words;have q2:=ls.keys;have q3:=ls.vals;have q4:=ls.counts;have q5:=lt.words;have q6:=lt.keys;have q7:=lt.vals;have q8:=lt.counts;clear hs ht ls lt;unfold slv;have HL:=aq (beq_nat_int s.laid t.laid);have HF:=aq (fun (b1 b2 b3 b4 b5 b6:Bool)=>@same_of s t b1 b2 b3 b4 b5 b6);have b0:∀ o o':Obj,Below w.heap.size w ((w.alloc o).alloc o'):=fun o o'=>((Below.refl _ _).alloc (Nat.le_refl _) o).alloc (by simp) o';have B0:=aq b0;clear b0
 cases h1:(s.seg==t.seg)
 ·go_enter Tryz.func60,Tryz.ntmps60
  go_wp2;go_ret;refine⟨?_,B0.out _ _⟩;rw [HF.out _ _ _ _ _ _ h1 rfl rfl rfl rfl rfl];rfl
 cases h2:((s.laid:Int)==(t.laid:Int))
 ·go_enter Tryz.func60,Tryz.ntmps60
  go_wp2;go_ret;refine⟨?_,B0.out _ _⟩;rw [HF.out _ _ _ _ _ _ h1 (HL.out.symm.trans h2) rfl rfl rfl rfl];rfl
 have g1:=aq h1;have g2:=aq (HL.out.symm.trans h2)
 go_enter Tryz.func60,Tryz.ntmps60
 go_wp2_with fail
 refine (oSame _ _ _ _ _ _ _ (HS.out.below (B0.out _ _)).words (HT.out.below (B0.out _ _)).words q1 q5).mono ?_;rintro e w1 ⟨rfl,hb⟩;have B1:=aq ((B0.out _ _).trans (hb.mono (B0.out _ _).size));obtain⟨hc1,hf1⟩:=bcell hb
 have z1:w.heap.size+1 < w1.heap.size:=by have:=hb.size;simp at this;omega
 have y1:w.heap.size < w1.heap.size:=by omega
 clear hb
 cases h3:(s.words==t.words)
 ·go_wp2
  go_ret;refine⟨?_,B1.out⟩;rw [HF.out _ _ _ _ _ _ g1.out g2.out h3 rfl rfl rfl];rfl
 have g3:=aq h3;clear h3
 go_wp2_with fail
 refine (sEqualK _ _ _ _ _ _ _ (HS.out.below B1.out).keys (HT.out.below B1.out).keys (by omega) (by omega)).mono ?_;rintro e w2 ⟨rfl,hb⟩;have B2:=aq (B1.out.trans (hb.mono B1.out.size));obtain⟨hc2,hf2⟩:=bcell hb
 have z2:w.heap.size+1 < w2.heap.size:=by have:=hb.size;omega
 have y2:w.heap.size < w2.heap.size:=by omega
 clear hb
 cases h4:(s.keys==t.keys)
 ·go_wp2
  go_ret;refine⟨?_,B2.out⟩;rw [HF.out _ _ _ _ _ _ g1.out g2.out g3.out h4 rfl rfl];rfl
 have g4:=aq h4;clear h4
 go_wp2_with fail
 refine (sEqualK _ _ _ _ _ _ _ (HS.out.below B2.out).vals (HT.out.below B2.out).vals (by omega) (by omega)).mono ?_;rintro e w3 ⟨rfl,hb⟩;have B3:=aq (B2.out.trans (hb.mono B2.out.size));obtain⟨hc3,hf3⟩:=bcell hb
 have z3:w.heap.size+1 < w3.heap.size:=by have:=hb.size;omega
 have y3:w.heap.size < w3.heap.size:=by omega
 clear hb
 cases h5:(s.vals==t.vals)
 ·go_wp2
  go_ret;refine⟨?_,B3.out⟩;rw [HF.out _ _ _ _ _ _ g1.out g2.out g3.out g4.out h5 rfl];rfl
 have g5:=aq h5;clear h5
 go_wp2_with fail
 refine (sEqualI _ _ _ _ _ _ _ (HS.out.below B3.out).counts (HT.out.below B3.out).counts (by omega) (by omega)).mono ?_;rintro e w4 ⟨rfl,hb⟩;have B4:=aq (B3.out.trans (hb.mono B3.out.size));obtain⟨hc4,hf4⟩:=bcell hb
 have z4:w.heap.size+1 < w4.heap.size:=by have:=hb.size;omega
 have y4:w.heap.size < w4.heap.size:=by omega
 clear hb
 cases h6:(s.counts==t.counts)
 all_goals
  go_wp2;go_ret;refine⟨?_,B4.out⟩;rw [HF.out _ _ _ _ _ _ g1.out g2.out g3.out g4.out g5.out h6];rfl
def ClonedN (k:IntKind) (zs:List Int) (n:Nat) (w:World) (e:Ending) (w':World):Prop :=
 ∃ A c,e=.returned (.slice A n c)/\New k w' w.heap.size A zs/\(A=none->n=0/\c=0)/\n<=c/\(∀ p,A=some p->w.heap.size<=p.block/\p.block < w'.heap.size)/\Below w.heap.size w w'
def TwinS (g:Nat) (s:Sl) (a:Ads) (W:World):Prop:=W.cell? ⟨g,0,none⟩=some (.int .i64 s.seg)/\W.cell? ⟨g,1,none⟩=some (.slice a.w s.words.length a.cw)/\W.cell? ⟨g,2,none⟩=some (.slice a.k s.keys.length a.ck)/\W.cell? ⟨g,3,none⟩=some (.slice a.v s.vals.length a.cv)/\W.cell? ⟨g,4,none⟩=some (.slice a.c s.counts.length a.cc)/\W.cell? ⟨g,5,none⟩=some (.int .u64 (s.laid:Int))
theorem twinS_of {g:Nat} {s:Sl} {a:Ads} {W:World} (h:Box W g s a):TwinS g s a W:=h.cellAt
theorem apart_by {A B:Option Addr} {l h l' h':Nat} (h1:∀ p,A=some p->l<=p.block/\p.block < h) (h2:∀ p,B=some p->l'<=p.block/\p.block < h') (hd:h<=l'∨h'<=l):Apart A B:=fun p q hp hq e=>by
 have:=h1 p hp;have:=h2 q hq
 omega
theorem twin_fin {w W:World} {r:Nat} {s:Sl} {AW AK AV AC:Option Addr} {cW cK cV cC lW hW lK hK lV hV lC hC:Nat}
  (NW:New .u64 W lW AW (ints s.words)) (NK:New .i64 W lK AK s.keys) (NV:New .i64 W lV AV s.vals) (NC:New .i64 W lC AC s.counts)
  (qW:AW=none->s.words.length=0/\cW=0) (qK:AK=none->s.keys.length=0/\cK=0) (qV:AV=none->s.vals.length=0/\cV=0) (qC:AC=none->s.counts.length=0/\cC=0)
  (mW:s.words.length<=cW) (mK:s.keys.length<=cK) (mV:s.vals.length<=cV) (mC:s.counts.length<=cC)
  (rW:∀ p,AW=some p->lW<=p.block/\p.block < hW) (rK:∀ p,AK=some p->lK<=p.block/\p.block < hK) (rV:∀ p,AV=some p->lV<=p.block/\p.block < hV) (rC:∀ p,AC=some p->lC<=p.block/\p.block < hC)
  (zW:hW<=W.heap.size) (zK:hK<=W.heap.size) (zV:hV<=W.heap.size) (zC:hC<=W.heap.size)
  (d1:hW<=lK∨hK<=lW) (d2:hW<=lV∨hV<=lW) (d3:hW<=lC∨hC<=lW) (d4:hK<=lV∨hV<=lK) (d5:hK<=lC∨hC<=lK) (d6:hV<=lC∨hC<=lV)
  (r1:r < lW) (r2:r < lK) (r3:r < lV) (r4:r < lC) (hr:w.heap.size<=r) (below:Below w.heap.size w W) (u0 u1 u2 u3 u4 u5:Value) :
  Own (put6 W r u0 u1 u2 u3 u4 u5) w.heap.size s ⟨AW,AK,AV,AC,cW,cK,cV,cC⟩/\Sep ⟨AW,AK,AV,AC,cW,cK,cV,cC⟩/\Lies (put6 W r u0 u1 u2 u3 u4 u5) w.heap.size ⟨AW,AK,AV,AC,cW,cK,cV,cC⟩/\Below w.heap.size w (put6 W r u0 u1 u2 u3 u4 u5):=by
 have e:(put6 W r u0 u1 u2 u3 u4 u5).heap.size=W.heap.size:=size_put6 ..;refine⟨⟨(NW.put6 r1 _ _ _ _ _ _).lower (by omega),(NK.put6 r2 _ _ _ _ _ _).lower (by omega),(NV.put6 r3 _ _ _ _ _ _).lower (by omega),(NC.put6 r4 _ _ _ _ _ _).lower (by omega),⟨qW,qK,qV,qC,mW,mK,mV,mC⟩⟩,⟨apart_by rW rK d1,apart_by rW rV d2,apart_by rW rC d3,apart_by rK rV d4,apart_by rK rC d5,apart_by rV rC d6⟩,⟨?_,?_,?_,?_⟩,below_put6 below hr _ _ _ _ _ _⟩
 all_goals
  intro p hp;rw [e]
 ·have:=rW p hp;exact⟨by omega,by omega⟩
 ·have:=rK p hp;exact⟨by omega,by omega⟩
 ·have:=rV p hp;exact⟨by omega,by omega⟩
 ·have:=rC p hp;exact⟨by omega,by omega⟩
theorem sTwin (s:Sl) (a:Ads) (w:World) (h:Held w s a) (hs:s.Short) :
  Calls Tryz.prog 43 #[slv s a] w (SPost s w):=by
 have CW:=aq (fun W (hb:Below w.heap.size w W)=>(by have:=sCloneW a.w a.cw (ints s.words) W (h.below hb).words (by rw [ints_length];exact hs.words) (by rw [ints_length];exact h.caps.w0);unfold ClonedPost at this;rw [ints_length] at this;exact this:Calls Tryz.prog 78 #[.slice a.w s.words.length a.cw] W (ClonedN .u64 (ints s.words) s.words.length W)));have CK:=aq (fun W (hb:Below w.heap.size w W)=>(sCloneK a.k a.ck s.keys W (h.below hb).keys hs.keys h.caps.k0:Calls Tryz.prog 79 #[.slice a.k s.keys.length a.ck] W (ClonedN .i64 s.keys s.keys.length W)));have CV:=aq (fun W (hb:Below w.heap.size w W)=>(sCloneK a.v a.cv s.vals W (h.below hb).vals hs.vals h.caps.v0:Calls Tryz.prog 79 #[.slice a.v s.vals.length a.cv] W (ClonedN .i64 s.vals s.vals.length W)));have CC:=aq (fun W (hb:Below w.heap.size w W)=>(sCloneI a.c a.cc s.counts W (h.below hb).counts hs.counts h.caps.c0:Calls Tryz.prog 80 #[.slice a.c s.counts.length a.cc] W (ClonedN .i64 s.counts s.counts.length W)));have BX0:=aq (fun o=>(Box.new w s a 29).below ((Below.refl _ _).alloc (Nat.le_refl _) o));clear h hs;unfold slv
 go_enter Tryz.func43,Tryz.ntmps43
 go_upto_region 1 with (fail)
 obtain⟨W1,hW1⟩:∃ W,W=(w.alloc (.cells #[.int .i64 s.seg,.slice a.w s.words.length a.cw,.slice a.k s.keys.length a.ck,.slice a.v s.vals.length a.cv,.slice a.c s.counts.length a.cc,.int .u64 (s.laid:Int)] 29)).alloc (.cells #[.int .i64 0,.slice none 0 0,.slice none 0 0,.slice none 0 0,.slice none 0 0,.int .u64 0] 29):=⟨_,rfl⟩
 have BX:=show Box W1.drew w.heap.size s a by rw [hW1];exact (BX0.out _).below ((Below.refl _ _).drew)
 have BR:=show Box W1.drew (w.heap.size+1) Sl.none adsNone by
  rw [hW1];refine Box.below ?_ ((Below.refl _ _).drew);have:=Box.new (w.alloc (.cells (slCells s a) 29)) Sl.none adsNone 29;rw [World.size_alloc] at this;exact this
 have BB:=show Below w.heap.size w W1.drew by rw [hW1];exact (((Below.refl w.heap.size w).alloc (Nat.le_refl _) _).alloc (by simp) _).drew
 have zz:w.heap.size+2<=W1.drew.heap.size:=by rw [hW1];simp
 have TS:=twinS_of (BX.below (Below.refl _ _));rw [<-hW1];clear hW1 BX0;refine wp_region_held_drew (S:=TwinS w.heap.size s a) (by kernel_rfl) TS (fun hHeld=>?_);clear TS;refine tk6 0 ?_;refine tk6 1 ?_;refine tk6 2 ?_;refine tk6 3 ?_;refine tk6 5 ?_;refine tk6 6 ?_;refine tk6 8 ?_;refine tk6 9 ?_;refine tk6 11 ?_;refine tk6 12 ?_;refine tk6 14 ?_;refine tk6 15 ?_;refine rdH 4 fun K hK=>?_;go_simp;refine (CW.out _ BB).mono ?_;rintro e wW ⟨AW,cW,rfl,NW,qW,mW,rW,hb⟩;replace BB:=BB.trans (hb.mono BB.size);replace BR:=BR.below hb;replace BX:=BX.below hb;have zW:=hb.size;clear hb
 try go_wp2_with fail
 refine hK.out _ _ (twinS_of BX) (fun hHeld=>?_);clear hK K
 try simp only [sZ]
 refine rdH 7 fun K hK=>?_;go_simp;refine (CK.out _ BB).mono ?_;rintro e wK ⟨AK,cK,rfl,NK,qK,mK,rK,hb⟩;replace NW:=NW.below hb;replace BB:=BB.trans (hb.mono BB.size);replace BR:=BR.below hb;replace BX:=BX.below hb;have zK:=hb.size;clear hb
 try go_wp2_with fail
 refine hK.out _ _ (twinS_of BX) (fun hHeld=>?_);clear hK K
 try simp only [sZ]
 refine rdH 10 fun K hK=>?_;go_simp;refine (CV.out _ BB).mono ?_;rintro e wV ⟨AV,cV,rfl,NV,qV,mV,rV,hb⟩;replace NW:=NW.below hb;replace NK:=NK.below hb;replace BB:=BB.trans (hb.mono BB.size);replace BR:=BR.below hb;replace BX:=BX.below hb;have zV:=hb.size;clear hb
 try go_wp2_with fail
 refine hK.out _ _ (twinS_of BX) (fun hHeld=>?_);clear hK K
 try simp only [sZ]
 refine rdH 13 fun K hK=>?_;go_simp;refine (CC.out _ BB).mono ?_;rintro e wC ⟨AC,cC,rfl,NC,qC,mC,rC,hb⟩;replace NW:=NW.below hb;replace NK:=NK.below hb;replace NV:=NV.below hb;replace BB:=BB.trans (hb.mono BB.size);replace BR:=BR.below hb;replace BX:=BX.below hb;have zC:=hb.size;clear hb
 try go_wp2_with fail
 refine hK.out _ _ (twinS_of BX) (fun hHeld=>?_);clear hK K
 try simp only [sZ]
 refine tk6 16 ?_;obtain⟨_,s0,s1,s2,s3,s4,s5,sf⟩:=BR;have⟨sf0,sf1,sf2,sf3,sf4,sf5⟩:=sf6 sf;clear sf;refine rdH 17 fun K hK=>?_;go_simp;refine hK.out _ _ ?hlast (fun _=>?_)
 case hlast=>exact twinS_of (((((((BX.setOther (by omega) _ _).setOther (by omega) _ _).setOther (by omega) _ _).setOther (by omega) _ _).setOther (by omega) _ _).setOther (by omega) _ _))
 refine wpAnyH_done (by kernel_rfl) ?_ _;clear hK K;go_wp2;refine bodyPost_ret (v:=slv s ⟨AW,AK,AV,AC,cW,cK,cV,cC⟩) (by simp [results,Tryz.results43,go_sem,slv,s0,s1,s2,s3,s4,s5,sf0,sf1,sf2,sf3,sf4,sf5]) rfl ⟨_,rfl,twin_fin NW NK NV NC qW qK qV qC mW mK mV mC rW rK rV rC (by omega) (by omega) (by omega) (by omega) (by omega) (by omega) (by omega) (by omega) (by omega) (by omega) (by omega) (by omega) (by omega) (by omega) (by omega) BB _ _ _ _ _ _⟩
end Go.Proofs.YtpeckljoannolaaGreatDoor
