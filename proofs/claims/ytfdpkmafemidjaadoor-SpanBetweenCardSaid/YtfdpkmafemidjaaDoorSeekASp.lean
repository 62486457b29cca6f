/- What package seek's Check, and the slot ahead of which all keys are below one, return. They only read. -/
import Derived.Test.YtfdpkmafemidjaaDoorPlain10Sp
import Derived.Test.YtfdpkmafemidjaaDoorM14Sp
import Derived.Test.YtfdpkmafemidjaaDoorM10Sp
import Derived.Test.YtfdpkmafemidjaaDoorTkSp
set_option linter.unusedVariables false
set_option linter.unusedSimpArgs false
set_option maxHeartbeats 4000000
set_option maxRecDepth 100000
namespace Go.Proofs.YtfdpkmafemidjaaDoor
open Go.RowKit
theorem key_cell {s:Sl} {a:Ads} {W:World} (h:Lst .i64 W a.k s.keys) {i:Nat} (hi:i < s.keys.length) :
  ∃ b off,a.k=some ⟨b,off,none⟩/\b < W.heap.size/\W.cell? ⟨b,off+i,none⟩=some (.int .i64 (Sk.key s i)):=h.cell hi
def RisesJ (s:Sl) (W1:World) (r v e:Value) (wr:World):Prop:=∃ x y:Int,v=.int .i64 x/\e=.int .i64 y/\Sk.St s x y/\Below W1.heap.size W1 wr
theorem kRises (s:Sl) (a:Ads) (w:World) (h:Held w s a) (hok:s.Ok) (hs:s.Short) (hT:Tab w) (hM:s.May) :
  Calls Tryd.prog 58 #[slv s a] w fun e w'=>e=.returned (.bool (Sk.risesB s))/\Below w.heap.size w w':=by
 have l2:=hs.keys;have CN:=aq (fun (p:Int) W (hb:Below w.heap.size w W)=>oNext a.w a.cw s.words s.keys.length p W (h.below hb).words hok.words hs.words (hT.below hb));have HL:=aq (fun W (hb:Below w.heap.size w W)=>(h.below hb).keys);have HM:=aq hM;have ST:=aq (Sk.st_start hM);have BX:=aq (Box.new w s a 27);have HB:=aq (fun o=>(Below.refl w.heap.size w).alloc (Nat.le_refl _) o);obtain⟨v0,hv0⟩:∃ v0,v0=Oc.nextV s.words s.keys.length 0:=⟨_,rfl⟩;obtain⟨e0,he0⟩:∃ e0,e0=Oc.nextE s.words s.keys.length 0:=⟨_,rfl⟩;rw [<-hv0,<-he0] at ST;have CN0:=aq (fun W hb=>CN.out 0 W hb);rw [<-hv0,<-he0] at CN0;clear h hok hs hT hM hv0 he0;unfold slv
 go_enter Tryd.func58,Tryd.ntmps58
 go_wp2_with fail
 refine (CN0.out _ (HB.out _)).mono ?_;rintro e w1 ⟨rfl,hb⟩;have B1:=aq ((HB.out _).trans (hb.mono (by simp)));have X1:=aq (BX.out.below hb);clear hb
 go_wp2_with fail
 go_loopw [2,3,4] (RisesJ s w1) (fun r v e _=>if intOf e=0 then s.keys.length-(intOf v).toNat else 0)
 case atStart=>exact⟨v0,e0,rfl,rfl,ST.out,Below.refl _ _⟩
 case round =>
  obtain⟨v,e,rfl,rfl,hst,hbr⟩:=hrel
  rcases hst with⟨x,rfl,rfl,U⟩ | ⟨rfl,hr⟩
  ·have hx:=U.lt
   have hB1:=B1.out.trans (hbr.mono B1.out.size);obtain⟨b1,o1,hA1,_,d1⟩:=key_cell (HL.out _ hB1) hx;have BW:=aq hB1;have BR:=aq hbr;obtain⟨_,c0,c1,c2,c3,c4,c5,_⟩:=X1.out.below hbr;have CNx:=aq (CN.out ((x:Int)+1))
   rcases U.go HM.out with⟨hE,hV,hr⟩ | ⟨y,hE,hV,hxy,hy,hk⟩
   ·rw [hE,hV] at CNx
    have HR:=aq hr;clear hE hV hr hbr hB1 d1
    go_wp2_with fail
    refine (CNx.out _ BW.out).mono ?_;rintro e w2 ⟨rfl,hb⟩;have BR2:=aq (BR.out.trans (hb.mono BR.out.size));clear hb c0 c1 c2 c3 c4 c5;obtain⟨_,c0,c1,c2,c3,c4,c5,_⟩:=X1.out.below BR2.out;go_wp2
    go_quiet (fail)
    go_wp2
    go_roundw
    case rel=>exact⟨_,_,_,⟨_,_,rfl,rfl,Or.inr ⟨rfl,HR.out⟩,below_drewN BR2.out _⟩,rfl,rfl,rfl⟩
    case measure=>simp [intOf];omega
   ·rw [hE,hV] at CNx
    obtain⟨b2,o2,hA2,hb2,d2⟩:=key_cell (HL.out _ hB1) hy;rw [hA1] at hA2
    injection hA2 with hA2
    injection hA2 with e1 e2
    subst e1 e2;have HK:=aq hk;have HA:=aq hA1;have HB2:=aq hb2;clear hE hV hbr hB1 hk hA1 hb2
    go_wp2_with fail
    refine (CNx.out _ BW.out).mono ?_;rintro e w2 ⟨rfl,hb⟩;have BR2:=aq (BR.out.trans (hb.mono BR.out.size));have d3:=(hb.cell (p:=⟨b1,o1+x,none⟩) HB2.out).trans d1;have d4:=(hb.cell (p:=⟨b1,o1+y,none⟩) HB2.out).trans d2;clear hb c0 c1 c2 c3 c4 c5 d1 d2;obtain⟨_,c0,c1,c2,c3,c4,c5,_⟩:=X1.out.below BR2.out;rw [HA.out] at c2
    rcases HK.out with⟨k1,k2⟩ | ⟨k1,k2⟩
    ·have HR:=aq k2
     have k3:decide (Sk.key s y<=Sk.key s x)=true:=by simp [k1]
     clear k1 k2;go_wp2
     go_quiet (fail)
     go_wp2;go_ret;rw [HR.out];exact⟨rfl,below_drewN (B1.out.trans (BR2.out.mono B1.out.size)) _⟩
    ·have HR:=aq k2
     have k3:decide (Sk.key s y<=Sk.key s x)=false:=by simp [k1]
     clear k1 k2;go_wp2
     go_quiet (fail)
     go_wp2
     go_roundw
     case rel=>exact⟨_,_,rfl,rfl,Or.inl ⟨y,rfl,rfl,HR.out⟩,below_drewN BR2.out _⟩
     case measure=>simp [intOf];omega
  ·have HR:=aq hr
   clear hr;go_wp2;go_ret;rw [HR.out];exact⟨rfl,B1.out.trans (hbr.mono B1.out.size)⟩
theorem kCheck (s:Sl) (a:Ads) (w:World) (h:Held w s a) (hok:s.Ok) (hs:s.Short) (hT:Tab w) :
  Calls Tryd.prog 35 #[slv s a] w fun e w'=>e=.returned (.int .i64 (Sk.chkE s))/\Below w.heap.size w w':=by
 have CC:=aq (fun o=>sCheck s a (w.alloc o) (h.alloc o) hok hs (hT.below ((Below.refl _ _).alloc (Nat.le_refl _) o)));have CR:=aq (fun W hb hM=>kRises s a W (h.below hb) hok hs (hT.below hb) hM);have HB:=aq (fun o=>(Below.refl w.heap.size w).alloc (Nat.le_refl _) o);have BX:=aq (Box.new w s a 27);have HL:=aq (show Sk.chkE s=if s.mayB then (if Sk.risesB s then 0 else 130) else 8 from rfl);clear h hok hs hT;unfold slv at CC CR ⊢
 rcases chk_mem s with⟨hk,hm⟩ | ⟨hk,hm⟩
 ·rw [hk] at CC
  have HM:=aq (may_iff.1 hm);rw [hm,if_pos rfl] at HL;clear hk hm;obtain⟨z,hz⟩:∃ z,z=Sk.risesB s:=⟨_,rfl⟩;rw [<-hz] at HL CR;clear hz
  cases z
  all_goals
   go_enter Tryd.func35,Tryd.ntmps35
   go_wp2_with fail
   refine (CC.out _).mono ?_;rintro e w1 ⟨rfl,hb⟩;have B1:=aq ((HB.out _).trans (hb.mono (by simp)));obtain⟨_,c0,c1,c2,c3,c4,c5,_⟩:=BX.out.below hb;clear hb
   go_wp2_with fail
   refine (CR.out _ B1.out HM.out).mono ?_;rintro e w2 ⟨rfl,hb⟩;go_wp2;go_ret;rw [HL.out];exact⟨rfl,B1.out.trans (hb.mono B1.out.size)⟩
 ·rw [hk] at CC
  rw [hm] at HL;clear hk hm
  go_enter Tryd.func35,Tryd.ntmps35
  go_wp2_with fail
  refine (CC.out _).mono ?_;rintro e w1 ⟨rfl,hb⟩;go_wp2;go_ret;rw [HL.out];exact⟨rfl,(HB.out _).trans (hb.mono (by simp))⟩
theorem kBelow (o k:Int) (b:Nat) (w:World) (Z:Boxed w b 2 (.int .i64 k)) :
  Calls Tryd.prog 69 #[.int .i64 o,.pointer (some ⟨b,0,none⟩)] w fun e w'=>e=.returned (.bool (decide (o < k)))/\Below w.heap.size w w':=by
 have cz:=Z.cell
 go_enter Tryd.func69,Tryd.ntmps69
 go_wp2;go_ret;exact⟨rfl,Below.refl _ _⟩
def PartJ (s:Sl) (k:Int) (W1:World) (x y:Value) (wr:World):Prop:=∃ a b:Nat,x=.int .i64 a/\y=.int .i64 b/\Sk.Half s k a b/\Below W1.heap.size W1 wr
theorem kParted (s:Sl) (a:Ads) (k:Int) (b:Nat) (w:World) (h:Held w s a) (hok:s.Ok) (hs:s.Short) (hT:Tab w) (hM:s.May) (hr:Sk.risesB s=true) (Z:Boxed w b 2 (.int .i64 k)) :
  Calls Tryd.prog 68 #[slv s a,.func (.func 69) #[] #[.pointer (some ⟨b,0,none⟩)]] w fun e w'=>(∃ r:Nat,e=.returned (.int .i64 r)/\Sk.Part s k r)/\Below w.heap.size w w':=by
 have l2:=hs.keys;have CN:=aq (fun (p:Int) W (hb:Below w.heap.size w W)=>oNext a.w a.cw s.words s.keys.length p W (h.below hb).words hok.words hs.words (hT.below hb));have HL:=aq (fun W (hb:Below w.heap.size w W)=>(h.below hb).keys);have HM:=aq hM;have HR:=aq hr;have HZ:=aq (fun W (hb:Below w.heap.size w W)=>boxed_below Z Z.lt hb);have BX:=aq (Box.new w s a 27);have HB:=aq (fun o=>(Below.refl w.heap.size w).alloc (Nat.le_refl _) o);clear h hok hs hT hM hr Z;unfold slv
 go_enter Tryd.func68,Tryd.ntmps68
 go_wp2_with fail
 obtain⟨W1,hW1⟩:∃ W1,W1=w.alloc (.cells #[.int .i64 s.seg,.slice a.w s.words.length a.cw,.slice a.k s.keys.length a.ck,.slice a.v s.vals.length a.cv,.slice a.c s.counts.length a.cc,.int .u64 (s.laid:Int)] 27):=⟨_,rfl⟩;have B1:=aq (show Below w.heap.size w W1 by rw [hW1];exact HB.out _);have X1:=aq (show Box W1 w.heap.size s a by rw [hW1];exact BX.out);rw [<-hW1];clear hW1 HB BX;obtain⟨_,c0,c1,c2,c3,c4,c5,_⟩:=X1.out
 go_step3
 go_wp2
 go_quiet (fail)
 go_wp2_with fail
 go_step3
 go_wp2_with fail
 clear c0 c1 c2 c3 c4 c5
 go_loopw [5,6] (PartJ s k W1) (fun x y _=>(intOf y-intOf x).toNat)
 case atStart=>exact⟨0,s.keys.length,rfl,rfl,Sk.half_start s k,by first | exact Below.refl _ _ | exact (Below.refl _ _).drew | exact below_drewN (Below.refl _ _) _⟩
 case round =>
  obtain⟨x,y,rfl,rfl,H,hbr⟩:=hrel;have hyn:=H.top
  by_cases hlt:x < y
  ·obtain⟨m,hm⟩:∃ m:Nat,m=x+(y-x)/2:=⟨_,rfl⟩
   have m1:x<=m:=by omega
   have m2:m < y:=by omega
   have hmi:(x:Int)+((y:Int)-x)/2=(m:Int):=by omega
   have hBw:=B1.out.trans (hbr.mono B1.out.size);have CNx:=aq (CN.out (m:Int));have BW:=aq hBw;have BR:=aq hbr;have HMI:=aq hmi;obtain⟨_,c0,c1,c2,c3,c4,c5,_⟩:=X1.out.below hbr
   have hm3:(m:Int)<=65536:=by omega
   rcases H.go HM.out HR.out m1 m2 with⟨hE,H2⟩ | ⟨z,hE,hV,hz,hk⟩
   ·rw [hE] at CNx
    have HH:=aq H2;clear hE H2 hBw hbr hm H
    go_wp2_with fail
    refine (CNx.out _ BW.out).mono ?_;rintro e w2 ⟨rfl,hb⟩;have BR2:=aq (BR.out.trans (hb.mono BR.out.size));clear hb c0 c1 c2 c3 c4 c5;obtain⟨_,c0,c1,c2,c3,c4,c5,_⟩:=X1.out.below BR2.out;go_wp2
    go_roundw
    case rel=>exact⟨x,m,rfl,rfl,HH.out,BR2.out⟩
    case measure=>simp [intOf];omega
   ·rw [hE,hV] at CNx
    obtain⟨b1,o1,hA1,hb1,d1⟩:=key_cell (HL.out _ hBw) hz;have HA:=aq hA1;have HK:=aq hk;have HB1:=aq hb1;clear hE hV hBw hbr hm hk hA1 hb1 H
    go_wp2_with fail
    refine (CNx.out _ BW.out).mono ?_;rintro e w2 ⟨rfl,hb⟩;have BR2:=aq (BR.out.trans (hb.mono BR.out.size));have BW2:=aq (B1.out.trans (BR2.out.mono B1.out.size));have d2:=(hb.cell (p:=⟨b1,o1+z,none⟩) HB1.out).trans d1;clear hb c0 c1 c2 c3 c4 c5 d1;obtain⟨_,c0,c1,c2,c3,c4,c5,_⟩:=X1.out.below BR2.out;rw [HA.out] at c2
    go_wp2_with fail
    refine (kBelow (Sk.key s z) k b _ (HZ.out _ BW2.out)).mono ?_;rintro e w3 ⟨rfl,hb⟩;have BR3:=aq (BR2.out.trans (hb.mono BR2.out.size));clear hb
    rcases HK.out with⟨k1,k2,k4⟩ | ⟨k1,k2⟩
    ·have HH:=aq k4
     have k3:decide (Sk.key s z < k)=true:=by simp [k1]
     clear k1 k4;go_wp2
     go_roundw
     case rel=>exact⟨z+1,y,by go_num,rfl,HH.out,BR3.out⟩
     case measure=>simp [intOf];omega
    ·have HH:=aq k2
     have k3:decide (Sk.key s z < k)=false:=by simp [k1]
     clear k1 k2;go_wp2
     go_roundw
     case rel=>exact⟨x,m,rfl,rfl,HH.out,BR3.out⟩
     case measure=>simp [intOf];omega
  ·have HP:=aq (H.done hlt)
   have hBw:=aq (B1.out.trans (hbr.mono B1.out.size));clear hbr H;go_wp2
   simp only [Exit.noGoto]
   go_ret;exact⟨⟨x,rfl,HP.out⟩,hBw.out⟩
theorem kFrom (s:Sl) (a:Ads) (k:Int) (w:World) (h:Held w s a) (hok:s.Ok) (hs:s.Short) (hT:Tab w) (hM:s.May) (hr:Sk.risesB s=true) :
  Calls Tryd.prog 49 #[slv s a,.int .i64 k] w fun e w'=>(∃ r:Nat,e=.returned (.int .i64 r)/\Sk.Part s k r)/\Below w.heap.size w w':=by
 have CP:=aq (fun b W (hb:Below w.heap.size w W) Z=>kParted s a k b W (h.below hb) hok hs (hT.below hb) hM hr Z);have HB:=aq (fun o o'=>((Below.refl w.heap.size w).alloc (Nat.le_refl _) o).alloc (by simp) o');have BX:=aq (fun o=>(Box.new w s a 27).below ((Below.refl _ _).alloc (Nat.le_refl _) o));have BZ:=aq (fun o=>Boxed.new (w.alloc o) 2 (.int .i64 k));clear h hok hs hT hM hr;unfold slv at CP ⊢
 go_enter Tryd.func49,Tryd.ntmps49
 go_wp2_with fail
 refine (CP.out _ _ (HB.out _ _) ?_).mono ?_
 ·first | exact BZ.out _ | simpa using BZ.out _
 rintro e w1 ⟨⟨r,rfl,hp⟩,hb⟩;go_wp2;go_ret;exact⟨⟨r,rfl,hp⟩,(HB.out _ _).trans (hb.mono (by simp;omega))⟩
end Go.Proofs.YtfdpkmafemidjaaDoor
