/- Package handle's small functions. -/
import Derived.Test.YtpeckljoannolaaGreatDoorS4aOt
import Derived.Test.YtpeckljoannolaaGreatDoorR01Ot
import Derived.Test.YtpeckljoannolaaGreatDoorRangeQOt
import Derived.Test.YtpeckljoannolaaGreatDoorP07Ot
import Derived.Deep.Cut
import Derived.Deep.RegionHeld
import Derived.Test.YtpeckljoannolaaGreatDoorTkOt
import Derived.Test.YtpeckljoannolaaGreatDoorM04Ot
import Derived.Deep.CutRange
set_option linter.unusedVariables false
set_option linter.unusedSimpArgs false
set_option maxHeartbeats 8000000
set_option maxRecDepth 100000
namespace Go.Proofs.YtpeckljoannolaaGreatDoor
open Go.RowKit Go.Shelf
attribute [local go_sem] Oper.semAt_some
theorem hFree (g a:Int) (w:World):Calls Tryz.prog 85 #[.agg #[.int .i64 g,.int .i64 a]] w fun e w'=>e=.returned (.bool (a==-1))/\Below w.heap.size w w':=by
 go_enter Tryz.func85,Tryz.ntmps85
 go_wp2;go_ret;exact⟨rfl,(Below.refl _ _).alloc (Nat.le_refl _) _⟩
theorem hWorn (g a:Int) (w:World):Calls Tryz.prog 166 #[.agg #[.int .i64 g,.int .i64 a]] w fun e w'=>e=.returned (.bool (g==2147483647))/\Below w.heap.size w w':=by
 go_enter Tryz.func166,Tryz.ntmps166
 go_wp2;go_ret;exact⟨rfl,(Below.refl _ _).alloc (Nat.le_refl _) _⟩
def numB (g a:Int):Bool:=decide (0<=g)&&decide (g<=2147483647)&&decide (-1<=a)&&(decide (a < 0)||decide (g≠2147483647))
theorem num_fine (t:Ht) (i:Nat):numB (Hn.g t i) (Hn.a t i)=Hn.fineB t i:=rfl
theorem hMayBe (g a:Int) (w:World):Calls Tryz.prog 124 #[.agg #[.int .i64 g,.int .i64 a]] w fun e w'=>e=.returned (.bool (numB g a))/\Below w.heap.size w w':=by
 have CF:=aq (fun V=>hFree g a V);have CW:=aq (fun V=>hWorn g a V);have BB:=aq (fun o=>(Below.refl w.heap.size w).alloc (Nat.le_refl _) o)
 by_cases h1:0<=g
 ·have k1:decide (g ≥ 0)=true:=by simpa using h1
  by_cases h2:g<=2147483647
  ·have k2:decide (g<=2147483647)=true:=by simpa using h2
   by_cases h3:-1<=a
   ·have k3:decide (a ≥ -1)=true:=by simpa using h3
    by_cases h4:a=-1
    ·have k4:(a==-1)=true:=by simpa using h4
     have E:=aq (show numB g a=true by unfold numB;simp;omega);clear h1 h2 h3 h4
     go_enter Tryz.func124,Tryz.ntmps124
     go_wp2_with fail
     refine (CF.out _).mono ?_;rintro e w1 ⟨rfl,hb⟩;have B1:=aq ((BB.out _).trans (hb.mono (BB.out _).size));clear hb;go_wp2;go_ret;rw [E.out];exact⟨rfl,B1.out⟩
    ·have k4:(a==-1)=false:=by simpa using h4
     by_cases h5:g=2147483647
     ·have k5:(g==2147483647)=true:=by simpa using h5
      have E:=aq (show numB g a=false by unfold numB;simp;omega);clear h1 h2 h3 h4 h5
      go_enter Tryz.func124,Tryz.ntmps124
      obtain⟨w0,hw0⟩:∃ V,V=w.alloc (.cells #[.int .i64 g,.int .i64 a] 126):=⟨_,rfl⟩
      go_wp2_with fail
      refine (CF.out _).mono ?_;rintro e w1 ⟨rfl,hb⟩;have B1:=aq ((BB.out _).trans (hb.mono (BB.out _).size))
      have p0:=show w1.cell? ⟨w.heap.size,0,none⟩=some (.int .i64 g) from (PBox.of_block (p:=(g,a)) (World.alloc_heap_new w _)).below hb |>.c0
      have p1:=show w1.cell? ⟨w.heap.size,1,none⟩=some (.int .i64 a) from (PBox.of_block (p:=(g,a)) (World.alloc_heap_new w _)).below hb |>.c1
      clear hb
      go_wp2_with fail
      refine (CW.out _).mono ?_;rintro e w2 ⟨rfl,hb⟩;have B2:=aq (B1.out.trans (hb.mono B1.out.size));clear hb p0 p1;go_wp2;go_ret;rw [E.out];exact⟨rfl,B2.out⟩
     ·have k5:(g==2147483647)=false:=by simpa using h5
      have E:=aq (show numB g a=true by unfold numB;simp;omega);clear h1 h2 h3 h4 h5
      go_enter Tryz.func124,Tryz.ntmps124
      go_wp2_with fail
      refine (CF.out _).mono ?_;rintro e w1 ⟨rfl,hb⟩;have B1:=aq ((BB.out _).trans (hb.mono (BB.out _).size))
      have p0:=show w1.cell? ⟨w.heap.size,0,none⟩=some (.int .i64 g) from (PBox.of_block (p:=(g,a)) (World.alloc_heap_new w _)).below hb |>.c0
      have p1:=show w1.cell? ⟨w.heap.size,1,none⟩=some (.int .i64 a) from (PBox.of_block (p:=(g,a)) (World.alloc_heap_new w _)).below hb |>.c1
      clear hb
      go_wp2_with fail
      refine (CW.out _).mono ?_;rintro e w2 ⟨rfl,hb⟩;have B2:=aq (B1.out.trans (hb.mono B1.out.size));clear hb p0 p1;go_wp2;go_ret;rw [E.out];exact⟨rfl,B2.out⟩
   ·have k3:decide (a ≥ -1)=false:=by simpa using h3
    have E:=aq (show numB g a=false by unfold numB;simp;omega);clear h1 h2 h3
    go_enter Tryz.func124,Tryz.ntmps124
    go_wp2;go_ret;rw [E.out];exact⟨rfl,BB.out _⟩
  ·have k2:decide (g<=2147483647)=false:=by simpa using h2
   have E:=aq (show numB g a=false by unfold numB;simp;omega);clear h1 h2
   go_enter Tryz.func124,Tryz.ntmps124
   go_wp2;go_ret;rw [E.out];exact⟨rfl,BB.out _⟩
 ·have k1:decide (g ≥ 0)=false:=by simpa using h1
  have E:=aq (show numB g a=false by unfold numB;simp;omega);clear h1
  go_enter Tryz.func124,Tryz.ntmps124
  go_wp2;go_ret;rw [E.out];exact⟨rfl,BB.out _⟩
structure SeenH (w:World) (b:Nat) (t:Ht) (A:HAds):Prop where
 box:HBox w b t A
 held:HHeld w t A
theorem SeenH.below {w w':World} {b:Nat} {t:Ht} {A:HAds} (h:SeenH w b t A) (hb:Below w.heap.size w w'):SeenH w' b t A:=⟨h.box.below hb,h.held.below hb⟩
structure ZokH (Z:Nat->Prop) (t:Ht) (A:HAds) (b:Nat):Prop where
 zb:Z b
 zg:t.gens≠[]->∀ p,A.g=some p->Z p.block
 za:t.ats≠[]->∀ p,A.a=some p->Z p.block
theorem Kept.lstH {Z:Nat->Prop} {A B:World} (h:Kept Z A B) {k:IntKind} {a:Option Addr} {zs:List Int} (hl:Lst k A a zs) (ha:zs≠[]->∀ p,a=some p->Z p.block):Lst k B a zs:=by
 by_cases hz:zs=[]
 ·exact Or.inl hz
 ·exact h.lst hl (ha hz)
theorem lst_ltH {w:World} {k:IntKind} {a:Option Addr} {zs:List Int} (hl:Lst k w a zs) (hz:zs≠[]):∀ p,a=some p->p.block < w.heap.size:=fun p hp=>by
 rcases hl with h0 | ⟨b,off,h1,h2,_⟩
 ·exact absurd h0 hz
 ·rw [hp] at h1;cases h1;exact h2
theorem SeenH.kept {Z:Nat->Prop} {V W:World} {b:Nat} {t:Ht} {A:HAds} (h:SeenH V b t A) (hz:ZokH Z t A b) (hk:Kept Z V W):SeenH W b t A :=
 ⟨⟨Nat.lt_of_lt_of_le h.box.lt hk.size,(hk.cell (p:=⟨b,0,none⟩) hz.zb).trans h.box.c0,(hk.cell (p:=⟨b,1,none⟩) hz.zb).trans h.box.c1,(hk.frozen (p:=⟨b,0,none⟩) hz.zb).trans h.box.f0,(hk.frozen (p:=⟨b,1,none⟩) hz.zb).trans h.box.f1⟩,⟨hk.lstH h.held.gens hz.zg,hk.lstH h.held.ats hz.za,h.held.caps⟩⟩
def NumsPost (t:Ht) (A:HAds) (w:World) (e:Ending) (w':World):Prop :=
 ∃ b,e=.returned (.func (.func 132) #[] #[.pointer (some ⟨b,0,none⟩)])/\HBox w' b t A/\w.heap.size<=b/\Below w.heap.size w w'
theorem hNumbers (t:Ht) (A:HAds) (w:World):Calls Tryz.prog 84 #[hv t A] w (NumsPost t A w):=by
 have HB:=aq (HBox.new w t A 31);unfold hCells at HB;unfold hv
 go_enter Tryz.func84,Tryz.ntmps84
 go_wp2;go_ret;exact⟨_,rfl,HB.out,Nat.le_refl _,(Below.refl _ _).alloc (Nat.le_refl _) _⟩
theorem range_preH:∀ {m n:Nat},m<=n->List.range m <+: List.range n
 | m,0,h=>by obtain rfl:m=0:=by omega
             exact List.prefix_refl _
 | m,n+1,h=>by
  by_cases e:m=n+1
  ·rw [e];exact List.prefix_refl _
  ·rw [List.range_succ];exact (range_preH (by omega:m<=n)).trans (List.prefix_append _ _)
theorem range_last {n:Nat} {pre:List Nat} {x:Nat} (h:pre++[x] <+: List.range n):pre=List.range x/\x < n:=by
 obtain⟨r,hr⟩:=h;have hl:=congrArg List.length hr
 simp only [List.length_append,List.length_cons,List.length_nil,List.length_range] at hl
 have h1:∀ i,i < pre.length->pre[i]?=some i:=fun i hi=>by
  have:=congrArg (fun l=>l[i]?) hr
  simp only [List.append_assoc,List.getElem?_append_left hi] at this
  rw [this,List.getElem?_range (by omega)]
 have h2:x=pre.length:=by
  have:=congrArg (fun l=>l[pre.length]?) hr
  simp only [List.append_assoc,List.getElem?_append_right (Nat.le_refl _),Nat.sub_self] at this
  rw [List.getElem?_range (by omega)] at this
  simpa using this
 refine⟨?_,by omega⟩
 apply List.ext_getElem?
 intro i
 by_cases hi:i < pre.length
 ·rw [h1 i hi,List.getElem?_range (by omega)]
 ·rw [List.getElem?_eq_none (by omega),List.getElem?_eq_none (by simp;omega)]
def NumsJ (t:Ht) (A:HAds) (b:Nat) (J:List Nat->World->Prop) (i:Value) (wr:World):Prop :=
 ∃ k:Nat,k<=t.gens.length/\i=.int .i64 k/\SeenH wr b t A/\J (List.range k) wr
theorem nums_seq (Z:Nat->Prop) (t:Ht) (A:HAds) (b:Nat) (w:World) (hs:SeenH w b t A) (hZ:ZokH Z t A b) (hZs:∀ k,Z k->k < w.heap.size) (hl:t.ats.length=t.gens.length) (hn:t.gens.length<=65536) :
  SeqQ (fun x:Nat=>#[.int .i64 x,.agg #[.int .i64 (Hn.g t x),.int .i64 (Hn.a t x)]]) Tryz.prog 132 #[.pointer (some ⟨b,0,none⟩)] Z (List.range t.gens.length) w:=fun l J Jx W hW hJ hJx hY h0=>by
 have HS:=aq (hs.kept hZ (Kept.of_below hW hZs));have HZ:=aq hZ;have HZS:=aq (fun k (h:Z k)=>Nat.lt_of_lt_of_le (hZs k h) hW.size);have HY:=aq hY;have HL:=aq hl;have h0':(fun pre wr=>W.heap.size<=wr.heap.size/\J pre wr) [] W:=⟨Nat.le_refl _,h0⟩;obtain⟨n,hnn⟩:∃ n,n=t.gens.length:=⟨_,rfl⟩;have HNN:=aq hnn;clear hs hZ hZs hY hJ hJx hW hl h0;have P0:=HS.out.box.c0;have P1:=HS.out.box.c1;rw [<-hnn] at P0 hn;clear hnn;refine callsIn_of_wp Tryz.func132 rfl trivial ?_ rfl
 simp only [Tryz.ntmps132,List.size_toArray,List.length_cons,List.length_nil,Nat.reduceAdd,Nat.reduceSub,Array.replicate_succ,Array.replicate_zero,List.push_toArray,List.append_toArray,List.nil_append,List.cons_append]
 gi_wp2
 clear P0 P1
 gi_loopw [8] (NumsJ t A b (fun pre wr=>W.heap.size<=wr.heap.size/\J pre wr)) (fun i _=>t.gens.length-(intOf i).toNat)
 case atStart=>exact⟨0,Nat.zero_le _,rfl,HS.out,h0'⟩
 case round =>
  obtain⟨k,hk,rfl,hsr,hszr,hJr⟩:=hrel;have HR:=aq hsr;have HQ:=aq hJr;have HK:=aq hk;clear hsr hJr;rw [<-HNN.out] at hk
  by_cases hlt:k < n
  ·have e1:=HR.out.box.c1
   rw [HL.out,<-HNN.out] at e1;obtain⟨b1,o1,hA1,_,c1⟩:=HR.out.held.gens.cell (i:=k) (by have:=HNN.out;omega);obtain⟨b2,o2,hA2,_,c2⟩:=HR.out.held.ats.cell (i:=k) (by rw [HL.out];have:=HNN.out;omega);rw [hA2] at e1;clear hA2;have HX2:=aq (show List.range (k+1) <+: List.range t.gens.length from range_preH (by have:=HNN.out;omega));rw [hA1];obtain⟨fn,tmps,assign,body,hy,hR⟩:=HY.out (List.range k) k wr HQ.out (by rw [<-List.range_succ];exact HX2.out);replace c1:wr.cell? ⟨b1,o1+k,none⟩=some (.int .i64 (Hn.g t k)):=c1;replace c2:wr.cell? ⟨b2,o2+k,none⟩=some (.int .i64 (Hn.a t k)):=c2;obtain⟨x,hx⟩:∃ x,Hn.g t k=x:=⟨_,rfl⟩;obtain⟨y,hy'⟩:∃ y,Hn.a t k=y:=⟨_,rfl⟩;rw [hx] at c1 hy;rw [hy'] at c2 hy;clear hx hy' hA1
   gi_wp2
   refine hR.mono ?_;rintro e W3 (⟨rfl,hJ3,hk3⟩ | ⟨rfl,hJx3⟩)
   ·have HS3:=aq (HR.out.kept HZ.out hk3)
    have sz3:=Nat.le_trans hszr hk3.size;have HJ3:=aq hJ3;clear hk3 hJ3 c1 c2 e1 hR hy
    gi_wp2
    go_roundw
    case rel=>exact⟨k+1,by have:=HNN.out;omega,by go_num,HS3.out,sz3,by rw [List.range_succ];exact HJ3.out⟩
    case measure=>have:=HNN.out;simp [intOf];omega
   ·gi_wp2
    refine bodyPost_ret (results_none rfl _ _ _) rfl ?_;exact⟨⟨_,rfl⟩,.inr ⟨List.range k++[k],by rw [<-List.range_succ];exact HX2.out,hJx3⟩⟩
  ·gi_wp2
   go_end0
   exact⟨⟨_,rfl⟩,.inl (by rw [show t.gens.length=k by have:=HNN.out;have:=HK.out;omega];exact HQ.out)⟩
end Go.Proofs.YtpeckljoannolaaGreatDoor
namespace Go.Proofs.YtpeckljoannolaaGreatDoor
open Go.RowKit Go.Shelf
attribute [local go_sem] Oper.semAt_some
theorem zok_of {w W:World} {t:Ht} {A:HAds} {b n:Nat} (h:HHeld w t A) (h1:n<=b) (h2:b < W.heap.size):ZokH (fun k=>k < w.heap.size∨(n<=k/\k < W.heap.size)) t A b :=
 ⟨Or.inr ⟨h1,h2⟩,fun hz p hp=>Or.inl (lst_ltH h.gens hz p hp),fun hz p hp=>Or.inl (lst_ltH h.ats hz p hp)⟩
theorem num_box {W W':World} {g a:Int} {T:TypeId} (hov:Over (W.alloc (.cells #[.int .i64 g,.int .i64 a] T)) W'):PBox W' W.heap.size (g,a) :=
 PBox.of_block (p:=(g,a)) (t:=T) (hov.cells _ _ (World.alloc_heap_new W _) rfl)
theorem keeps_of_belowH {w w':World} (h:Below w.heap.size w w'):KeepsOthers w w':=⟨h.size,fun k o hk _=>(h.block k (Array.getElem?_eq_some_iff.1 hk).1).trans hk⟩
structure ChkI (t:Ht) (w:World) (base:Nat) (b2:Nat) (pre:List Nat) (W:World):Prop where
 below:Below w.heap.size w W
 size:base<=W.heap.size
 res:Boxed W b2 34 (.int .i64 0)
 fine:pre.all (Hn.fineB t)=true
theorem chkI_own (t:Ht) (w:World) (base b2 m:Nat) (hn:w.heap.size<=m):OwnFrom m (ChkI t w base b2):=fun pre A B row hs hg hr =>
 have ho:=Over.of_grown hg hr
 ⟨ownFrom_below (β:=Unit) (Nat.le_refl _) hn () A B row hs.below hg hr,Nat.le_trans hs.size ho.size,ho.boxed hs.res,hs.fine⟩
structure ChkX (t:Ht) (w:World) (base:Nat) (b2:Nat) (c:Code) (pre:List Nat) (W:World):Prop where
 code:c=.ret
 below:Below w.heap.size w W
 size:base<=W.heap.size
 res:Boxed W b2 34 (.int .i64 8)
 bad:pre.all (Hn.fineB t)=false
theorem chkX_own (t:Ht) (w:World) (base b2 m:Nat) (hn:w.heap.size<=m) (c:Code):OwnFrom m (ChkX t w base b2 c):=fun pre A B row hs hg hr =>
 have ho:=Over.of_grown hg hr
 ⟨hs.code,ownFrom_below (β:=Unit) (Nat.le_refl _) hn () A B row hs.below hg hr,Nat.le_trans hs.size ho.size,ho.boxed hs.res,hs.bad⟩
theorem chk_len {t:Ht} (h:¬ t.ats.length=t.gens.length):Hn.chkE t=8:=by unfold Hn.chkE Hn.mayB;simp [h]
theorem chk_most {t:Ht} (h:¬ t.gens.length<=65536):Hn.chkE t=8:=by
 unfold Hn.chkE Hn.mayB;rw [decide_eq_false h]
 simp
theorem chk_all {t:Ht} (h:t.ats.length=t.gens.length) (h2:t.gens.length<=65536) (h3:(List.range t.gens.length).all (Hn.fineB t)=true):Hn.chkE t=0:=by
 unfold Hn.chkE Hn.mayB;rw [decide_eq_true h,decide_eq_true h2,h3]
 rfl
theorem chk_some {t:Ht} {pre:List Nat} (hp:pre <+: List.range t.gens.length) (h3:pre.all (Hn.fineB t)=false):Hn.chkE t=8:=by
 have:(List.range t.gens.length).all (Hn.fineB t)=false:=by
  obtain⟨r,hr⟩:=hp;rw [<-hr,List.all_append,h3]
  rfl
 unfold Hn.chkE Hn.mayB;rw [this]
 simp
theorem hCheck (t:Ht) (A:HAds) (w:World) (h:HHeld w t A) (ok:t.Ok) (hs:t.Short) :
  Calls Tryz.prog 75 #[hv t A] w fun e w'=>e=.returned (.int .i64 (Hn.chkE t))/\Below w.heap.size w w':=by
 have HH:=aq h;have HX:=aq (fun o=>(HBox.new w t A 31).below ((Below.refl _ _).alloc (Nat.le_refl _) o));have BB:=aq (fun o o'=>((Below.refl w.heap.size w).alloc (Nat.le_refl _) o).alloc (by simp) o');have CN:=aq (fun V=>hNumbers t A V);clear h ok hs;unfold hCells at HX;unfold hv at CN ⊢
 by_cases hl:t.ats.length=t.gens.length
 ·by_cases hn:t.gens.length<=65536
  ·have k1:((t.gens.length:Int) != (t.ats.length:Int))=false:=by simp;omega
   have k2:decide ((t.gens.length:Int) > 65536)=false:=by simp;omega
   have HL:=aq hl;clear hl;have k3:=hn;refine calls_marks Tryz.func75 rfl ?_
   simp only [Tryz.ntmps75,List.size_toArray,List.length_cons,List.length_nil,Nat.reduceAdd,Nat.reduceSub,Array.replicate_succ,Array.replicate_zero,List.push_toArray,List.append_toArray,List.nil_append,List.cons_append]
   go_upto_region 3 with (fail)
   obtain⟨V,hV⟩:∃ V,V=(w.alloc (.cells #[.slice A.g t.gens.length A.cg,.slice A.a t.ats.length A.ca] 31)).alloc (.cells #[.int .i64 0] 34):=⟨_,rfl⟩;rw [<-hV]
   have bV:Below w.heap.size w V:=by rw [hV];exact BB.out _ _
   have xV:HBox V w.heap.size t A:=by rw [hV];exact HX.out _
   have rV:Boxed V (w.heap.size+1) 34 (.int .i64 0):=by
    rw [hV];have:=Boxed.new (w.alloc (.cells #[.slice A.g t.gens.length A.cg,.slice A.a t.ats.length A.ca] 31)) 34 (.int .i64 0);rw [World.size_alloc] at this;exact this
   have XV:=aq xV;clear hV HX BB;obtain⟨_,p0,p1,_,_⟩:=xV
   go_wp2_with fail
   refine (CN.out _).mono ?_;rintro e W5 ⟨b,rfl,hB,hb1,hb⟩;have B5:=aq (bV.trans (hb.mono bV.size));have R5:=aq (boxed_low rV rV.lt hb);have HB:=aq hB;have H5:=aq (HH.out.below B5.out);have zV:w.heap.size+1 < V.heap.size:=rV.lt;have z5:V.heap.size<=W5.heap.size:=hb.size;have zb:=hB.lt;clear hB hb p0 p1 XV rV bV CN
   go_wp2_with fail
   refine wp_rangeQ (enc:=fun x:Nat=>#[.int .i64 x,.agg #[.int .i64 (Hn.g t x),.int .i64 (Hn.a t x)]]) (fun _=>rfl) (gf:=132) (lb:=#[.pointer (some ⟨b,0,none⟩)]) rfl (enters_of Tryz.func132 (by kernel_rfl) rfl)
    (nums_seq _ t A b W5 ⟨HB.out,H5.out⟩ (zok_of HH.out hb1 zb) (fun k hk=>by rcases hk with hk | hk<;>omega) HL.out k3) (fun k hk=>by rcases hk with hk | hk<;>omega)
    (ChkI t w W5.heap.size (w.heap.size+1)) (ChkX t w W5.heap.size (w.heap.size+1)) (chkI_own _ _ _ _ _ (by omega)) (fun c=>chkX_own _ _ _ _ _ (by omega) c)
    ⟨B5.out,Nat.le_refl _,R5.out,rfl⟩
    (fun W x=>{ tmps:=#[(.agg #[.slice A.g t.gens.length A.cg,.slice A.a t.ats.length A.ca]),(.pointer (some ⟨w.heap.size,0,none⟩)),.pointer (some ⟨w.heap.size+1,0,none⟩),undef,.pointer (some ⟨W.heap.size,0,none⟩),(.pointer (some ⟨w.heap.size,0,none⟩)),.slice A.g t.gens.length A.cg,(.int .i64 (t.gens.length:Int)),(.pointer (some ⟨w.heap.size,1,none⟩)),.slice A.a t.ats.length A.ca,.int .i64 (t.ats.length:Int),.bool false,.bool false,(.pointer (some ⟨w.heap.size,0,none⟩)),.slice A.g t.gens.length A.cg,(.int .i64 (t.gens.length:Int)),.bool false,.bool false,(.agg #[.slice A.g t.gens.length A.cg,.slice A.a t.ats.length A.ca]),(.func (Fn.func 132) #[] #[.pointer (some ⟨b,0,none⟩)]),.int .i64 (x:Int),.agg #[.int .i64 (Hn.g t x),.int .i64 (Hn.a t x)],undef,undef,undef],defers:=[] }) (fun W x=>W.alloc (.cells #[.int .i64 (Hn.g t x),.int .i64 (Hn.a t x)] 126)) (fun W x=>(Below.refl _ _).alloc (Nat.le_refl _) _) ?assign ?body ?done ?stop
   case assign =>
    intro l x W K hK
    gi_wp2
    exact hK
   case body =>
    rintro l pre x W W' hI hpre hov hsz;have HI:=aq hI;have PB:=aq (num_box hov);have r0:=hI.res.cell;have r1:=hI.res.frozen;have q0:=PB.out.c0;have q1:=PB.out.c1;have sz':W5.heap.size<=W'.heap.size:=hI.size
    have zW:W'.heap.size=W.heap.size+1:=by rw [hsz];simp
    have CM:=aq (fun V=>hMayBe (Hn.g t x) (Hn.a t x) V);rw [num_fine] at CM
    dsimp only at q0 q1
    clear hI hpre hov hsz
    gi_wp2
    refine⟨trivial,?_⟩;refine (callsIn_wide.2 (CM.out _)).mono ?_;rintro e W2 ⟨rfl,hb⟩;have hb2:=aq hb;have HR2:=aq (boxed_low HI.out.res HI.out.res.lt hb);have sz2:=hb.size;clear hb r0 r1 q0 q1 PB CM;have r0:=HR2.out.cell;have r1:=HR2.out.frozen
    cases hf:Hn.fineB t x
    ·have HF:=aq hf
     clear hf
     gi_wp2
     exact⟨(keeps_of_belowH hb2.out).trans (KeepsOthers.setCell _ _ _),rfl,(HI.out.below.trans (hb2.out.mono HI.out.below.size)).setCell (by simp) _,by rw [World.size_setCell];omega,HR2.out.set _,by rw [List.all_append];simp [HF.out]⟩
    ·have HF:=aq hf
     clear hf
     gi_wp2
     exact⟨keeps_of_belowH hb2.out,Kept.of_below hb2.out (fun k hk=>by rcases hk with hk | hk<;>omega),HI.out.below.trans (hb2.out.mono HI.out.below.size),by omega,HR2.out,by rw [List.all_append,HI.out.fine];simp [HF.out]⟩
   case done =>
    rintro D W hD hI hKD;have HI:=aq hI.below;have HR:=aq hI.res;have E:=aq (chk_all HL.out k3 hI.fine);have zs:=hI.size;have hKD2:=aq hKD;have hDlt:D < W.heap.size:=(Array.getElem?_eq_some_iff.1 hKD).1;have d0:=hI.res.cell;have d1:=hI.res.frozen;clear hI hKD;go_wp2;have hKD3:(W.setCell ⟨w.heap.size+1,0,none⟩ (.int .i64 0)).heap[D]?=some (.deferred (some [])):=(Below.heap_setCell W ⟨w.heap.size+1,0,none⟩ _ D (by show D≠w.heap.size+1;omega)).trans hKD2.out;refine leaves_one hKD3 ?_;have ov:=Over.of_grown (n:=0) (grownBy_putObj' (W.setCell ⟨w.heap.size+1,0,none⟩ (.int .i64 0)) D (.deferred none)) (fun r e=>by cases e;exact⟨Nat.zero_le _,_,hKD3,rfl⟩);have c9:=(ov.boxed (HR.out.set (.int .i64 0))).cell;refine⟨.int .i64 0,by simp [results,Tryz.results75,go_sem,c9],by rw [E.out],?_⟩;exact (HI.out.setCell (p:=⟨w.heap.size+1,0,none⟩) (by simp) _).trans ((Below.refl _ _).grown (grownBy_putObj' _ D _) (by rw [World.size_setCell];omega) (fun k e=>by cases e;omega))
   case stop =>
    rintro D c pre W hD hSp hF hKD;obtain⟨rfl,hbelow,hsize,hres,hbad⟩:=hF;have HI:=aq hbelow;have HR:=aq hres;have E:=aq (chk_some hSp hbad);have hKD2:=aq hKD;have hDlt:D < W.heap.size:=(Array.getElem?_eq_some_iff.1 hKD).1;clear hbelow hres hbad hKD hSp;go_wp2;refine leaves_one hKD2.out ?_;have ov:=Over.of_grown (n:=0) (grownBy_putObj' W D (.deferred none)) (fun r e=>by cases e;exact⟨Nat.zero_le _,_,hKD2.out,rfl⟩);have c9:=(ov.boxed HR.out).cell;refine⟨.int .i64 8,by simp [results,Tryz.results75,go_sem,c9],by rw [E.out],?_⟩;exact HI.out.trans ((Below.refl _ _).grown (grownBy_putObj' _ D _) (by omega) (fun k e=>by cases e;omega))
  ·have k1:((t.gens.length:Int) != (t.ats.length:Int))=false:=by simp;omega
   have k2:decide ((t.gens.length:Int) > 65536)=true:=by simp;omega
   have E:=aq (chk_most hn);clear hl hn HX
   go_enter Tryz.func75,Tryz.ntmps75
   go_wp2;refine bodyPost_ret (v:=.int .i64 8) (by simp [results,Tryz.results75,go_sem]) rfl ⟨by rw [E.out],BB.out _ _⟩
 ·have k1:((t.gens.length:Int) != (t.ats.length:Int))=true:=by simp;omega
  have E:=aq (chk_len hl);clear hl HX
  go_enter Tryz.func75,Tryz.ntmps75
  go_wp2;refine bodyPost_ret (v:=.int .i64 8) (by simp [results,Tryz.results75,go_sem]) rfl ⟨by rw [E.out],BB.out _ _⟩
end Go.Proofs.YtpeckljoannolaaGreatDoor
namespace Go.Proofs.YtpeckljoannolaaGreatDoor
open Go.RowKit Go.Shelf
attribute [local go_sem] Oper.semAt_some
structure LivI (t:Ht) (w:World) (base:Nat) (b2:Nat) (pre:List Nat) (W:World):Prop where
 below:Below w.heap.size w W
 size:base<=W.heap.size
 many:Boxed W b2 3 (.int .i64 (Hn.live (t.ats.take pre.length):Nat))
theorem livI_own (t:Ht) (w:World) (base b2 m:Nat) (hn:w.heap.size<=m):OwnFrom m (LivI t w base b2):=fun pre A B row hs hg hr =>
 have ho:=Over.of_grown hg hr
 ⟨ownFrom_below (β:=Unit) (Nat.le_refl _) hn () A B row hs.below hg hr,Nat.le_trans hs.size ho.size,ho.boxed hs.many⟩
theorem no_ownH (m:Nat):OwnFrom m (fun (_:List Nat) (_:World)=>False):=fun _ _ _ _ h _ _=>h
theorem hLive (t:Ht) (A:HAds) (w:World) (h:HHeld w t A) (ok:t.Ok) (hs:t.Short) :
  Calls Tryz.prog 47 #[hv t A] w fun e w'=>e=.returned (.tuple #[.int .i64 (Hn.liveV t),.int .i64 (Hn.chkE t)])/\Below w.heap.size w w':=by
 have HH:=aq h;have HX:=aq (HBox.new w t A 31);have BB:=aq (fun o=>(Below.refl w.heap.size w).alloc (Nat.le_refl _) o);have CC:=aq (fun V (hb:Below w.heap.size w V)=>hCheck t A V (h.below hb) ok hs);have CN:=aq (fun V=>hNumbers t A V);clear h ok hs;unfold hCells at HX;unfold hv at CC CN ⊢;refine calls_marks Tryz.func47 rfl ?_
 simp only [Tryz.ntmps47,List.size_toArray,List.length_cons,List.length_nil,Nat.reduceAdd,Nat.reduceSub,Array.replicate_succ,Array.replicate_zero,List.push_toArray,List.append_toArray,List.nil_append,List.cons_append]
 go_wp2_with fail
 refine (CC.out _ (BB.out _)).mono ?_;rintro e w1 ⟨rfl,hb⟩;have B1:=aq ((BB.out _).trans (hb.mono (BB.out _).size));have X1:=aq (HX.out.below hb);have z1:=hb.size
 simp only [World.size_alloc] at z1
 clear hb BB CC HX;obtain⟨_,p0,p1,_,_⟩:=X1.out
 by_cases hc:Hn.chkE t=0
 ·have HM:=aq (Hn.chk_may.1 hc)
  have EV:=aq (show Hn.liveV t=((Hn.live t.ats:Nat):Int) by unfold Hn.liveV;rw [if_pos hc]);have HC:=aq hc;rw [hc];clear hc
  go_upto_region 5 with (fail)
  obtain⟨V,hV⟩:∃ V,V=w1.alloc (.cells #[.int .i64 0] 3):=⟨_,rfl⟩
  have hbv:Below w1.heap.size w1 V:=by rw [hV];exact (Below.refl _ _).alloc (Nat.le_refl _) _
  have rV:Boxed V w1.heap.size 3 (.int .i64 0):=by rw [hV];exact Boxed.new _ _ _
  have zV:V.heap.size=w1.heap.size+1:=by rw [hV];simp
  have BV:=aq (B1.out.trans (hbv.mono B1.out.size));have XV:=aq (X1.out.below hbv);rw [<-hV];clear hV hbv X1 B1 p0 p1;obtain⟨_,p0,p1,_,_⟩:=XV.out
  go_wp2_with fail
  refine (CN.out _).mono ?_;rintro e W5 ⟨b,rfl,hB,hb1,hb⟩;have B5:=aq (BV.out.trans (hb.mono BV.out.size));have R5:=aq (boxed_low rV rV.lt hb);have HB:=aq hB;have H5:=aq (HH.out.below B5.out);have z5:V.heap.size<=W5.heap.size:=hb.size;have zb:=hB.lt;clear hB hb p0 p1 XV rV BV CN
  go_wp2_with fail
  refine wp_rangeQ (enc:=fun x:Nat=>#[.int .i64 x,.agg #[.int .i64 (Hn.g t x),.int .i64 (Hn.a t x)]]) (fun _=>rfl) (gf:=132) (lb:=#[.pointer (some ⟨b,0,none⟩)]) rfl (enters_of Tryz.func132 (by kernel_rfl) rfl)
   (nums_seq _ t A b W5 ⟨HB.out,H5.out⟩ (zok_of HH.out hb1 zb) (fun k hk=>by rcases hk with hk | hk<;>omega) HM.out.len HM.out.most) (fun k hk=>by rcases hk with hk | hk<;>omega)
   (LivI t w W5.heap.size w1.heap.size) (fun _ _ _=>False) (livI_own _ _ _ _ _ (by omega)) (fun c=>no_ownH _)
   ⟨B5.out,Nat.le_refl _,R5.out⟩
   (fun W x=>{ tmps:=#[(.agg #[.slice A.g t.gens.length A.cg,.slice A.a t.ats.length A.ca]),.pointer (some ⟨w.heap.size,0,none⟩),.int .i64 0,.int .i64 0,.int .i64 0,.pointer (some ⟨w1.heap.size,0,none⟩),undef,.pointer (some ⟨W.heap.size,0,none⟩),(.agg #[.slice A.g t.gens.length A.cg,.slice A.a t.ats.length A.ca]),.int .i64 0,.int .i64 0,.bool false,undef,(.agg #[.slice A.g t.gens.length A.cg,.slice A.a t.ats.length A.ca]),(.func (Fn.func 132) #[] #[.pointer (some ⟨b,0,none⟩)]),.int .i64 (x:Int),.agg #[.int .i64 (Hn.g t x),.int .i64 (Hn.a t x)],undef,undef,undef,undef,undef,undef],defers:=[] }) (fun W x=>W.alloc (.cells #[.int .i64 (Hn.g t x),.int .i64 (Hn.a t x)] 126)) (fun W x=>(Below.refl _ _).alloc (Nat.le_refl _) _) ?assign ?body ?done ?stop
  case assign =>
   intro l x W K hK
   gi_wp2
   exact hK
  case body =>
   rintro l pre x W W' hI hpre hov hsz;obtain⟨rfl,hx⟩:=range_last hpre;have HI:=aq hI;have PB:=aq (num_box hov);have q0:=PB.out.c0;have q1:=PB.out.c1;have sz':W5.heap.size<=W'.heap.size:=hI.size;have CM:=aq (fun V=>hFree (Hn.g t x) (Hn.a t x) V);have HT:=aq (live_take t.ats x (by rw [HM.out.len];exact hx));have HF:=aq (HM.out.fine x hx)
   have hlv:Hn.live (t.ats.take x)<=65536:=by have h1:=live_le (t.ats.take x);have h2:=HM.out.most;rw [List.length_take] at h1;omega
   have hm:=hI.many;rw [List.length_range] at hm;obtain⟨m,hmm⟩:∃ m,Hn.live (t.ats.take x)=m:=⟨_,rfl⟩;rw [hmm] at hm hlv HT;have HM2:=aq hm;clear hI hpre hov hsz hm hmm
   dsimp only at q0 q1
   gi_wp2
   refine⟨trivial,?_⟩;refine (callsIn_wide.2 (CM.out _)).mono ?_;rintro e W2 ⟨rfl,hb⟩;have hb2:=aq hb;have HR2:=aq (boxed_low HM2.out HM2.out.lt hb);have sz2:=hb.size;clear hb q0 q1 PB CM HM2;have r0:=HR2.out.cell;have r1:=HR2.out.frozen;have ET:=aq (show Hn.live (t.ats.take (List.range x++[x]).length)=m+(if 0<=Hn.a t x then 1 else 0) by rw [List.length_append,List.length_range];exact HT.out)
   by_cases hf:Hn.a t x=-1
   ·have k1:(Hn.a t x==-1)=true:=by simpa using hf
    have EI:=aq (show (if 0<=Hn.a t x then 1 else 0:Nat)=0 by rw [if_neg (by omega)]);clear hf
    gi_wp2
    exact⟨keeps_of_belowH hb2.out,Kept.of_below hb2.out (fun k hk=>by rcases hk with hk | hk<;>omega),HI.out.below.trans (hb2.out.mono HI.out.below.size),by omega,by rw [ET.out,EI.out];exact HR2.out⟩
   ·have k1:(Hn.a t x==-1)=false:=by simpa using hf
    have EI:=aq (show (if 0<=Hn.a t x then 1 else 0:Nat)=1 by rw [if_pos (by have:=HF.out.2.2.1;omega)]);clear hf
    gi_wp2
    refine⟨(keeps_of_belowH hb2.out).trans (KeepsOthers.setCell _ _ _),(Kept.of_below hb2.out (fun k hk=>by rcases hk with hk | hk<;>omega)).setCell (by show ¬ (w1.heap.size < w.heap.size∨V.heap.size<=w1.heap.size/\w1.heap.size < W5.heap.size);omega) _,(HI.out.below.trans (hb2.out.mono HI.out.below.size)).setCell (by show w.heap.size<=w1.heap.size;omega) _,by rw [World.size_setCell];omega,?_⟩
    rw [ET.out,EI.out,show (((m+1:Nat):Int))=(m:Int)+1 by omega];exact HR2.out.set _
  case done =>
   rintro D W hD hI hKD;have HI:=aq hI.below;have E:=aq (show Hn.live (t.ats.take (List.range t.gens.length).length)=Hn.live t.ats by rw [List.length_range,List.take_of_length_le (by rw [HM.out.len];exact Nat.le_refl _)]);have zs:=hI.size;have hKD2:=aq hKD;have hDlt:D < W.heap.size:=(Array.getElem?_eq_some_iff.1 hKD).1;have d0:=hI.many.cell;rw [E.out] at d0;clear hI hKD;go_wp2;refine leaves_one hKD2.out ?_;refine⟨_,results_tmp2 rfl _ _ _,by rw [EV.out,HC.out];rfl,?_⟩;exact HI.out.trans ((Below.refl _ _).grown (grownBy_putObj' _ D _) (by omega) (fun k e=>by cases e;omega))
  case stop =>
   rintro D c pre W hD hSp hF hKD;exact hF.elim
 ·have EV:=aq (show Hn.liveV t=0 by unfold Hn.liveV;rw [if_neg hc])
  have k1:(Hn.chkE t != 0)=true:=by simpa using hc
  clear hc;go_wp2;exact⟨_,results_tmp2 rfl _ _ _,by rw [EV.out];rfl,B1.out⟩
end Go.Proofs.YtpeckljoannolaaGreatDoor
namespace Go.Proofs.YtpeckljoannolaaGreatDoor
open Go.RowKit
theorem one_ofH (k:IntKind) (zs:List Int):∀ u∈zs.map (Value.int k),u.oneCell'=true:=by
 intro u hu;obtain⟨z,_,rfl⟩:=List.mem_map.1 hu
 rfl
def ClonedRow (zs:List Int) (n:Nat) (w:World) (e:Ending) (w':World):Prop :=
 ∃ A c,e=.returned (.slice A n c)/\w'.ownsRow w.heap.size 3 1 (.slice A n c) n (zs.map (.int .i64))/\(∀ p,A=some p->w.heap.size<=p.block/\p.block < w'.heap.size)/\Below w.heap.size w w'
theorem hClone (a:Option Addr) (cap:Nat) (zs:List Int) (w:World) (hl:Lst .i64 w a zs) (hn:zs.length<=65536) (hnil:a=none->zs.length=0/\cap=0) :
  Calls Tryz.prog 80 #[.slice a zs.length cap] w (ClonedRow zs zs.length w):=by
 have HL:=aq hl
 cases a with
 | none =>
  obtain⟨h0,h1⟩:=hnil rfl;subst h1;have hz:zs=[]:=List.eq_nil_of_length_eq_zero h0;subst hz;clear hl hnil
  have heq:∀ w',Sem.run Tryz.prog (binOp BinOp.eql 26 (Value.slice none 0 0) (Value.slice none 0 0)) w'=.ok (.bool true) w':=fun _=>by kernel_rfl
  go_enter Tryz.func80,Tryz.ntmps80
  go_wp2;go_ret;exact⟨none,0,rfl,World.ownsRow_nil _ _ _ _,fun p hp=>(by cases hp),Below.refl _ _⟩
 | some ad =>
  obtain⟨n,hzn⟩:∃ n,n=zs.length:=⟨_,rfl⟩;have HN:=aq hzn;rw [<-hzn] at hn ⊢;clear hl hnil hzn
  have heq:∀ w',Sem.run Tryz.prog (binOp BinOp.eql 26 (Value.slice (some ad) n cap) (Value.slice none 0 0)) w'=.ok (.bool false) w':=fun _=>by kernel_rfl
  go_enter Tryz.func80,Tryz.ntmps80
  go_wp2_with (at_builtin;refine wpList_copy elemI rfl (.tmp 5) (.tmp 6) rfl w rfl (some ad) n cap (zs.map (Value.int .i64)) rfl rfl (Cells.of_lst HL.out) (by rw [List.length_map,HN.out,Nat.mul_one]) (one_ofH _ _) (fun h=>by cases h) (by unfold maxLen;omega) (by omega) ?_;intro A c w1 hown _ hb;have OW:=aq hown;obtain⟨N0,q0,q1,r⟩:=own_where hown;have QQ:=aq r;have BB:=aq hb;clear hown N0 q0 q1 r hb)
  go_ret;exact⟨A,c,rfl,OW.out,QQ.out,BB.out⟩
theorem hEqualI (a b:Option Addr) (ca cb:Nat) (xs ys:List Int) (w:World) (ha:Lst .i64 w a xs) (hb:Lst .i64 w b ys) (hn:xs.length<=65536) (hm:ys.length<=65536) :
  Calls Tryz.prog 96 #[.slice a xs.length ca,.slice b ys.length cb] w fun e w'=>e=.returned (.bool (xs==ys))/\Below w.heap.size w w':=by
 have HA:=aq ha;have HB:=aq hb;clear ha hb
 by_cases hne:xs.length=ys.length
 ·have k1:((xs.length:Int) != ys.length)=false:=by simp;omega
  have HNE:=aq hne;clear hne
  go_enter Tryz.func96,Tryz.ntmps96
  go_wp2
  go_loopw [13] (SameIJ xs ys w) (fun i _=>xs.length-(intOf i).toNat)
  case atStart=>exact⟨0,0,Nat.zero_le _,rfl,rfl,rfl⟩
  case round =>
   obtain⟨k,q,hk,rfl,rfl,ht⟩:=hrel;have HT:=aq ht;clear ht
   by_cases hlt:k < xs.length
   ·have hltb:k < ys.length:=by have:=HNE.out;omega
    obtain⟨b1,o1,rfl,_,c1⟩:=HA.out.cell hlt;obtain⟨b2,o2,rfl,_,c2⟩:=HB.out.cell hltb;obtain⟨x,hx⟩:∃ x,xs.getD k 0=x:=⟨_,rfl⟩;obtain⟨y,hy⟩:∃ y,ys.getD k 0=y:=⟨_,rfl⟩;rw [hx] at c1;rw [hy] at c2;have HX:=aq hx;have HY:=aq hy;clear hx hy
    by_cases he:x=y
    ·have k2:(x != y)=false:=by simp [he]
     have HE:=aq he;clear he;go_wp2
     go_quiet (fail)
     go_wp2
     go_roundw
     case rel=>exact⟨k+1,_,by omega,by go_num,rfl,take_sameI xs ys k hlt hltb HT.out (by rw [HX.out,HY.out,HE.out])⟩
     case measure=>simp [intOf];omega
    ·have k2:(x != y)=true:=by simp [he]
     have HE:=aq he;clear he;go_wp2
     go_quiet (fail)
     go_wp2;go_ret;rw [not_sameI xs ys k (by rw [HX.out,HY.out];exact HE.out)];exact⟨rfl,below_drewN (below_drewN (Below.refl _ _) _) _⟩
   ·go_wp2
    go_ret
    have e:xs=ys:=by
     have:=HT.out
     rwa [List.take_of_length_le (by omega),List.take_of_length_le (by have:=HNE.out;omega)] at this
    rw [e];exact⟨by simp,below_drewN (Below.refl _ _) _⟩
 ·have k1:((xs.length:Int) != ys.length)=true:=by simp;omega
  have H:=aq (show (xs==ys)=false by rw [beq_eq_false_iff_ne];rintro rfl;exact hne rfl);clear hne
  go_enter Tryz.func96,Tryz.ntmps96
  go_wp2;go_ret;rw [H.out];exact⟨rfl,Below.refl _ _⟩
theorem hSame (t o:Ht) (A B:HAds) (w:World) (h:HHeld w t A) (h':HHeld w o B) (ok:t.Ok) (ok':o.Ok) (hs:t.Short) (hs':o.Short) :
  Calls Tryz.prog 61 #[hv t A,hv o B] w fun e w'=>e=.returned (.bool (Hn.sameB t o))/\Below w.heap.size w w':=by
 have HB:=aq (fun x y=>((Below.refl w.heap.size w).alloc (Nat.le_refl _) x).alloc (by simp) y);have C1:=aq (fun V (hb:Below w.heap.size w V)=>hEqualI A.g B.g A.cg B.cg t.gens o.gens V (h.below hb).gens (h'.below hb).gens (by have:=hs.gens;omega) (by have:=hs'.gens;omega));have C2:=aq (fun V (hb:Below w.heap.size w V)=>hEqualI A.a B.a A.ca B.ca t.ats o.ats V (h.below hb).ats (h'.below hb).ats (by have:=hs.ats;omega) (by have:=hs'.ats;omega));have HX:=aq (fun x=>(HBox.new w t A 31).below ((Below.refl _ _).alloc (Nat.le_refl _) x));have HY:=aq (fun x=>HBox.new (w.alloc x) o B 31);have HS:=aq (show Hn.sameB t o=((t.gens==o.gens)&&(t.ats==o.ats)) from rfl);clear h h' hs hs' ok ok';unfold hCells at HX HY;unfold hv
 go_enter Tryz.func61,Tryz.ntmps61
 go_wp2_with fail
 refine (C1.out _ (HB.out _ _)).mono ?_;rintro e w1 ⟨rfl,hb⟩;have B1:=aq ((HB.out _ _).trans (hb.mono (HB.out _ _).size));obtain⟨_,p0,p1,_,_⟩:=(HX.out _).below hb;obtain⟨_,p2,p3,_,_⟩:=(HY.out _).below hb
 simp only [World.size_alloc] at p2 p3
 clear hb HX HY HB C1
 cases e1:(t.gens==o.gens)
 ·rw [e1] at HS
  go_wp2;go_ret;rw [HS.out];exact⟨rfl,B1.out⟩
 ·rw [e1] at HS
  go_wp2_with fail
  refine (C2.out _ B1.out).mono ?_;rintro e w2 ⟨rfl,hb⟩;have B2:=aq (B1.out.trans (hb.mono B1.out.size));clear hb C2 B1 p0 p1 p2 p3;go_wp2;go_ret;rw [HS.out];exact⟨by simp,B2.out⟩
theorem hTwinR (t:Ht) (A:HAds) (w:World) (h:HHeld w t A) (hs:t.Short) :
  Calls Tryz.prog 44 #[hv t A] w (HPostR 3 t w):=by
 have CG:=aq (fun V (hb:Below w.heap.size w V)=>hClone A.g A.cg t.gens V (h.below hb).gens hs.gens h.caps.g0);have CA:=aq (fun V (hb:Below w.heap.size w V)=>hClone A.a A.ca t.ats V (h.below hb).ats hs.ats h.caps.a0);have HX:=aq (fun x=>(HBox.new w t A 31).below ((Below.refl _ _).alloc (Nat.le_refl _) x));have HY:=aq (fun x=>HBox.new (w.alloc x) Ht.zero hNone 31);clear h hs;unfold hv
 go_enter Tryz.func44,Tryz.ntmps44
 go_upto_region 1 with (fail)
 obtain⟨W1,hW1⟩:∃ W,W=(w.alloc (.cells #[.slice A.g t.gens.length A.cg,.slice A.a t.ats.length A.ca] 31)).alloc (.cells #[.slice none 0 0,.slice none 0 0] 31):=⟨_,rfl⟩;have BX:=aq (show HBox W1 w.heap.size t A by rw [hW1];exact HX.out _);have BR:=aq (show HBox W1 (w.heap.size+1) Ht.zero hNone by rw [hW1];have:=HY.out (.cells #[.slice A.g t.gens.length A.cg,.slice A.a t.ats.length A.ca] 31);rw [World.size_alloc] at this;exact this);have BB:=aq (show Below w.heap.size w W1 by rw [hW1];exact ((Below.refl _ _).alloc (Nat.le_refl _) _).alloc (by simp) _)
 have zz:w.heap.size+2<=W1.heap.size:=by rw [hW1];simp
 rw [<-hW1];clear hW1 HX HY;refine wp_region_held_drew (S:=fun w'=>w'.cell? ⟨w.heap.size,0,none⟩=some (.slice A.g t.gens.length A.cg)/\w'.cell? ⟨w.heap.size,1,none⟩=some (.slice A.a t.ats.length A.ca)/\Hid (Below w.heap.size w w')) (by kernel_rfl) (by exact⟨(BX.out.below ((Below.refl _ _).drew)).c0,(BX.out.below ((Below.refl _ _).drew)).c1,aq (BB.out.trans ((Below.refl _ _).drew.mono BB.out.size))⟩) (fun hHeld=>?_);obtain⟨V0,hV0⟩:∃ V,V=W1.drew:=⟨_,rfl⟩;have BL0:=aq (show Below w.heap.size w V0 by rw [hV0];exact BB.out.trans ((Below.refl _ _).drew.mono BB.out.size));replace BX:=aq (show HBox V0 w.heap.size t A by rw [hV0];exact BX.out.below ((Below.refl _ _).drew));replace BR:=aq (show HBox V0 (w.heap.size+1) Ht.zero hNone by rw [hV0];exact BR.out.below ((Below.refl _ _).drew))
 replace zz:w.heap.size+2<=V0.heap.size:=by rw [hV0];exact zz
 rw [<-hV0] at hHeld ⊢;clear hV0;refine tk 0 ?_;refine tk 1 ?_;refine tk 3 ?_;refine tk 4 ?_;refine rdH 2 fun K hK=>?_;go_simp;refine (CG.out V0 BL0.out).mono ?_;rintro e U1 ⟨RG,cG,rfl,hrow,hrg,hb⟩
 try (go_simp)
 have BL1:=aq (BL0.out.trans (hb.mono BL0.out.size));replace BX:=aq (BX.out.below hb);replace BR:=aq (BR.out.below hb);have z1:V0.heap.size<=U1.heap.size:=hb.size;have ROWG:=aq (own_lower (base':=w.heap.size+2) hrow (by omega));have RGG:=aq hrg;clear hb hrow hrg;refine hK.out _ _ (by exact⟨(BX.out).c0,(BX.out).c1,BL1⟩) (fun hHeldt4=>?_);clear hK K hHeld
 try simp only [sZ]
 refine rdH 5 fun K hK=>?_;go_simp;refine (CA.out U1 BL1.out).mono ?_;rintro e U2 ⟨RA,cA,rfl,hrow,hrg,hb⟩
 try (go_simp)
 have BL2:=aq (BL1.out.trans (hb.mono BL1.out.size));replace BX:=aq (BX.out.below hb);replace BR:=aq (BR.out.below hb);have z2:U1.heap.size<=U2.heap.size:=hb.size;replace ROWG:=aq (own_below ROWG.out hb);have ROWA:=aq (own_lower (base':=w.heap.size+2) hrow (by omega));have RGA:=aq hrg;clear hb hrow hrg;refine hK.out _ _ (by exact⟨(BX.out).c0,(BX.out).c1,BL2⟩) (fun hHeldt5=>?_);clear hK K hHeldt4
 try simp only [sZ]
 refine tk 6 ?_;refine rdH 7 fun K hK=>?_;obtain⟨_,z1,z2,zf1,zf2⟩:=BR.out
 try dsimp only [Ht.zero,hNone,List.length_nil] at z1 z2
 go_simp;obtain⟨U3,hU⟩:∃ U,U=wput2 U2 (w.heap.size+1) (.slice RG t.gens.length cG) (.slice RA t.ats.length cA):=⟨_,rfl⟩;have HR:=aq (show HRows 3 U3 (w.heap.size+2) t ⟨RG,RA,cG,cA⟩ by rw [hU];exact HRows.put2 ⟨ROWG.out,ROWA.out,fun p q hp hq=>by have h1:=RGG.out p hp;have h2:=RGA.out q hq;omega⟩ (by omega) _ _);have BY:=aq (show HBox U3 (w.heap.size+1) t ⟨RG,RA,cG,cA⟩ by rw [hU];exact BR.out.put2 t ⟨RG,RA,cG,cA⟩);replace BX:=aq (show HBox U3 w.heap.size t A by rw [hU];exact BX.out.put2o (by omega) _ _);have BL3:=aq (show Below w.heap.size w U3 by rw [hU];exact below_put2 BL2.out (by omega) _ _);unfold wput2 at hU
 first | rw [<-hU] | skip
 clear hU z1 z2 zf1 zf2 BR;refine hK.out _ _ (by exact⟨(BX.out).c0,(BX.out).c1,BL3⟩) (fun hHeldt7=>?_);clear hK K hHeldt5
 try simp only [sZ]
 refine wpAnyH_done (by kernel_rfl) ?_ _;obtain⟨_,s0,s1,_,_⟩:=BY.out
 dsimp only at s0 s1
 go_wp2;refine bodyPost_ret (v:=hv t ⟨RG,RA,cG,cA⟩) (by simp [results,Tryz.results44,go_sem,hv,s0,s1]) rfl ⟨_,rfl,HR.out.lower (by omega),BL3.out⟩
theorem hTwin (t:Ht) (A:HAds) (w:World) (h:HHeld w t A) (ok:t.Ok) (hs:t.Short) :
  Calls Tryz.prog 44 #[hv t A] w (HPost t w):=(hTwinR t A w h hs).mono fun e w' h=>h.post
end Go.Proofs.YtpeckljoannolaaGreatDoor
