/- What Nth of package occ returns. -/
import Derived.Test.YtpeckljoannolaaGreatDoorM10Oc
import Derived.Test.YtpeckljoannolaaGreatDoorTkOc
set_option linter.unusedVariables false
set_option linter.unusedSimpArgs false
set_option maxHeartbeats 2000000
set_option maxRecDepth 100000
namespace Go.Proofs.YtpeckljoannolaaGreatDoor
open Go.RowKit Go.Shelf
attribute [local go_sem] Oper.semAt_some
theorem nth_found {ws:List Nat} {n i ahead y:Nat} {pre t:List Nat} (hw:Wide ws) (hc:Oc.chk ws n=0) (hlen:pre.length=ahead) (hb:Oc.bitsOf (Oc.wordAt ws i (0:Int) (n:Int))=pre++[y]++t) :
  Oc.nthV ws n (((Oc.places ws 0 (min n (64*i))).length+ahead:Nat):Int)=((64*i+y:Nat):Int)/\Oc.nthE ws n (((Oc.places ws 0 (min n (64*i))).length+ahead:Nat):Int)=0:=by
 have hs:=Oc.up_step (ws:=ws) i 0 n (hw i);rw [show Oc.cut (ws.getD i 0) i ((0:Nat):Int) (n:Int)=Oc.wordAt ws i (0:Int) (n:Int) from rfl,hb] at hs;have hsp:=Oc.places_split ws 0 (min n (64*(i+1))) n (by omega) (by omega);rw [hs] at hsp
 simp only [List.map_append,List.append_assoc] at hsp
 have hE:Oc.nthE ws n (((Oc.places ws 0 (min n (64*i))).length+ahead:Nat):Int)=0:=by
  unfold Oc.nthE;rw [if_pos hc,if_neg];rw [Int.toNat_natCast,hsp]
  simp
  omega
 refine⟨?_,hE⟩;unfold Oc.nthV;rw [if_pos hE,Int.toNat_natCast,Int.toNat_natCast,hsp]
 congr 1
 generalize Oc.places ws 0 (min n (64*i))=l;subst hlen
 have e:l++(List.map (fun x=>64*i+x) pre++(List.map (fun x=>64*i+x) [y]++(List.map (fun x=>64*i+x) t++Oc.places ws (min n (64*(i+1))) n)))=(l++List.map (fun x=>64*i+x) pre)++((64*i+y)::(List.map (fun x=>64*i+x) t++Oc.places ws (min n (64*(i+1))) n)):=by simp
 rw [e]
 have e2:l.length+pre.length=(l++List.map (fun x=>64*i+x) pre).length:=by simp
 rw [e2];generalize l++List.map (fun x=>64*i+x) pre=m
 simp
theorem nth_none {ws:List Nat} {n:Nat} {k:Int} (hc:Oc.chk ws n=0) (h:k < 0∨((Oc.places ws 0 n).length:Int)<=k):Oc.nthV ws n k=0/\Oc.nthE ws n k=6:=by
 have hE:Oc.nthE ws n k=6:=by
  unfold Oc.nthE;rw [if_pos hc,Int.toNat_natCast,if_pos h]
 exact⟨by unfold Oc.nthV;rw [hE];rfl,hE⟩
theorem nth_refused {ws:List Nat} {n k:Int} (h:¬ Oc.chk ws n=0):Oc.nthV ws n k=0/\Oc.nthE ws n k=Oc.chk ws n:=by
 have hE:Oc.nthE ws n k=Oc.chk ws n:=by unfold Oc.nthE;rw [if_neg h]
 exact⟨by unfold Oc.nthV;rw [hE,if_neg h],hE⟩
def NthInv (a:Option Addr) (cap:Nat) (ws:List Nat) (n k:Nat) (w w2:World) (b1 b2 b3 b10 b11 b12:Nat) (A:Act) (wr:World):Prop :=
 ∃ (i ahead:Nat) (ds:List Deferred) (u13 u14 u15 u23 u31 u32 u33 u34 u35 u36 u37 u38 u39 u40 u41 u42 u43 u44 u45 u46 u47 u48 u49 u50 u51 u52 u53 u54 u55 u56:Value),
  A={ tmps:=#[.slice a ws.length cap,.int .i64 n,.int .i64 k,undef,undef,undef,.int .i64 0,.int .i64 0,.int .i64 0,.func (Fn.func 173) #[] #[.pointer (some ⟨b1,0,none⟩),.pointer (some ⟨b2,0,none⟩),.pointer (some ⟨b3,0,none⟩)],.pointer (some ⟨b10,0,none⟩),.pointer (some ⟨b11,0,none⟩),.pointer (some ⟨b12,0,none⟩),u13,u14,u15,.slice a ws.length cap,.int .i64 n,.int .i64 0,.int .i64 0,.bool false,undef,.int .i64 k,u23,.slice a ws.length cap,.int .i64 n,.func (Fn.func 173) #[] #[.pointer (some ⟨b1,0,none⟩),.pointer (some ⟨b2,0,none⟩),.pointer (some ⟨b3,0,none⟩)],.int .i64 k,.slice a ws.length cap,.int .i64 (ws.length:Int),.int .i64 (i:Int),u31,u32,u33,u34,u35,u36,u37,u38,u39,u40,u41,u42,u43,u44,u45,u46,u47,u48,u49,u50,u51,u52,u53,u54,u55,u56,undef,undef],defers:=ds } /\
  (Boxed wr b10 3 (.int .i64 (ahead:Int))/\Boxed wr b11 3 (.int .i64 0)/\Boxed wr b12 34 (.int .i64 6))/\Below b10 w2 wr/\Marked w.heap.size wr.heap.size ds wr/\i<=ws.length/\k=(Oc.places ws 0 (min n (64*i))).length+ahead
def NthI (lo ahead b10 b11 b12 b13 i:Nat) (ds:List Deferred) (w5:World) (pre:List (Fin 64)) (W:World):Prop :=
 pre.length<=ahead/\(Boxed W b10 3 (.int .i64 ((ahead-pre.length:Nat):Int))/\Boxed W b11 3 (.int .i64 0)/\Boxed W b12 34 (.int .i64 6)/\Boxed W b13 3 (.int .i64 (i:Int)))/\Below lo w5 W/\Marked lo w5.heap.size ds W
def NthX (lo ahead b11 b12 i:Nat) (ds:List Deferred) (w5:World) (c:Code) (pre:List (Fin 64)) (W:World):Prop :=
 c=.exit 0/\∃ (q:List (Fin 64)) (x:Fin 64),pre=q++[x]/\q.length=ahead/\Boxed W b11 3 (.int .i64 ((64*i+x.val:Nat):Int))/\Boxed W b12 34 (.int .i64 0)/\Below lo w5 W/\Marked lo w5.heap.size ds W
theorem boxed_own {β:Type} {B b:Nat} {t:TypeId} {v:Value}:OwnFrom B (fun (_:β) W=>Boxed W b t v):=fun s A W row h hg hr =>
 h.kept hg (fun e=>by obtain⟨_,o,ho,hno⟩:=hr b e.symm;rw [show A.heap[b]?=_ from h] at ho;cases ho;cases hno)
theorem nthI_own {lo ahead b10 b11 b12 b13 i:Nat} {ds:List Deferred} {w5:World} (hn:lo<=w5.heap.size):OwnFrom w5.heap.size (NthI lo ahead b10 b11 b12 b13 i ds w5):=by
 rintro s A B row ⟨hl,⟨h10,h11,h12,h13⟩,hb,hm⟩ hg hr;exact⟨hl,⟨boxed_own (β:=Unit) () A B row h10 hg hr,boxed_own (β:=Unit) () A B row h11 hg hr,boxed_own (β:=Unit) () A B row h12 hg hr,boxed_own (β:=Unit) () A B row h13 hg hr⟩,ownFrom_below (β:=Unit) hn hn () A B row hb hg hr,marked_own (β:=Unit) () A B row hm hg hr⟩
theorem nthX_own {lo ahead b11 b12 i:Nat} {ds:List Deferred} {w5:World} (hn:lo<=w5.heap.size) (c:Code):OwnFrom w5.heap.size (NthX lo ahead b11 b12 i ds w5 c):=by
 rintro s A B row ⟨hc,q,x,hx,hq,h11,h12,hb,hm⟩ hg hr;exact⟨hc,q,x,hx,hq,boxed_own (β:=Unit) () A B row h11 hg hr,boxed_own (β:=Unit) () A B row h12 hg hr,ownFrom_below (β:=Unit) hn hn () A B row hb hg hr,marked_own (β:=Unit) () A B row hm hg hr⟩
theorem oNth_ok (a:Option Addr) (cap:Nat) (ws:List Nat) (n k:Nat) (w:World) (hl:Lst .u64 w a (ints ws)) (hw:Wide ws) (hn:ws.length<=65536) (hT:Tab w) (hc:Oc.chk ws n=0) (hk63:k<=9223372036854775807) :
  Calls Tryz.prog 152 #[.slice a ws.length cap,.int .i64 n,.int .i64 k] w fun e w'=>e=.returned (.tuple #[.int .i64 (Oc.nthV ws n k),.int .i64 (Oc.nthE ws n k)])/\Below w.heap.size w w':=by
 have HL:=aq hl;have HW:=aq hw;have HT:=aq hT;have hposw:0 < w.heap.size:=hT.1;clear hl hw hT;obtain⟨m,e,hm,hlen,_⟩:=Oc.chk_ok hc
 have hnm:n<=65536:=by omega
 have hlen':n<=64*ws.length:=by omega
 have HC:=aq hc;clear hc e hm hlen;refine calls_marks Tryz.func152 rfl ?_
 simp only [Tryz.ntmps152,List.size_toArray,List.length_cons,List.length_nil,Nat.reduceAdd,Nat.reduceSub,Array.replicate_succ,Array.replicate_zero,List.push_toArray,List.append_toArray,List.nil_append,List.cons_append]
 go_wp2_with fail
 try go_step3
 go_wp2_with fail
 refine (oCheck a cap ws _ _ HL.out HW.out hn).mono ?_;rintro e w1 ⟨rfl,hb1⟩;rw [HC.out]
 go_wp2_with fail
 refine (oPart a ws.length cap _ _ _).mono ?_;rintro e w2 ⟨b1,b2,b3,rfl,hP,hb2⟩;have HP:=aq hP;have HL2:=aq ((HL.out.below hb1).below hb2);have HT2:=aq ((HT.out.below hb1).below hb2);have hb:Below w.heap.size w w2:=hb1.trans (hb2.mono hb1.size);clear hP hb1 hb2 HL HT
 go_wp2_with fail
 go_step3
 go_wp2_with fail
 obtain⟨w3,hw3⟩:∃ w3,((w2.alloc (Obj.cells #[Value.int IntKind.i64 (k:Int)] 3)).alloc (Obj.cells #[Value.int IntKind.i64 0] 3)).alloc (Obj.cells #[Value.int IntKind.i64 6] 34)=w3:=⟨_,rfl⟩
 have hX10:Boxed w3 w2.heap.size 3 (.int .i64 (k:Int)):=by rw [<-hw3];exact ((Boxed.new w2 _ _).alloc _).alloc _
 have hX11:Boxed w3 (w2.heap.size+1) 3 (.int .i64 0):=by rw [<-hw3];have:=(Boxed.new (w2.alloc (Obj.cells #[Value.int IntKind.i64 (k:Int)] 3)) 3 (.int .i64 0)).alloc (Obj.cells #[Value.int IntKind.i64 6] 34);rwa [World.size_alloc] at this
 have hX12:Boxed w3 (w2.heap.size+1+1) 34 (.int .i64 6):=by rw [<-hw3];have:=Boxed.new ((w2.alloc (Obj.cells #[Value.int IntKind.i64 (k:Int)] 3)).alloc (Obj.cells #[Value.int IntKind.i64 0] 3)) 34 (.int .i64 6);rwa [World.size_alloc,World.size_alloc] at this
 have hb3:Below w2.heap.size w2 w3:=by rw [<-hw3];exact (((Below.refl _ _).alloc (Nat.le_refl _) _).alloc (by simp) _).alloc (by simp;omega) _
 rw [hw3];have hlt10:w.heap.size<=w2.heap.size:=hb.size
 have hne:w2.heap.size≠w2.heap.size+1:=by omega
 have hne2:w2.heap.size≠w2.heap.size+1+1:=by omega
 have hne3:w2.heap.size+1≠w2.heap.size+1+1:=by omega
 have hlt11:w.heap.size<=w2.heap.size+1:=by omega
 have hlt12:w.heap.size<=w2.heap.size+1+1:=by omega
 have hge11:w2.heap.size<=w2.heap.size+1:=by omega
 have hge12:w2.heap.size<=w2.heap.size+1+1:=by omega
 have h20:w2.heap.size=w2.heap.size:=rfl;clear hw3;generalize w2.heap.size+1+1=b12 at *;generalize w2.heap.size+1=b11 at *;obtain⟨b10,hb10⟩:∃ b10,w2.heap.size=b10:=⟨_,rfl⟩;rw [hb10] at hX10 hb3 hlt10 hne hne2 hge11 hge12 ⊢;clear h20;have HB10:=aq hb10;clear hb10;refine wp_loop (NthInv a cap ws n k w w2 b1 b2 b3 b10 b11 b12) (fun A _=>ws.length-(intOf (A.tmps.getD 30 undef)).toNat) ?start ?round
 case start=>exact⟨0,k,[],_,_,_,_,_,_,_,_,_,_,_,_,_,_,_,_,_,_,_,_,_,_,_,_,_,_,_,_,_,_,rfl,⟨hX10,hX11,hX12⟩,hb3,Marked.nil _ _ _,by omega,by simp [Oc.places]⟩
 case round =>
  rintro A wr ⟨i,ahead,ds,u13,u14,u15,u23,u31,u32,u33,u34,u35,u36,u37,u38,u39,u40,u41,u42,u43,u44,u45,u46,u47,u48,u49,u50,u51,u52,u53,u54,u55,u56,rfl,⟨x10,x11,x12⟩,hbr,hM,hile,hkk⟩;have HKK:=aq hkk
  have hah:ahead<=9223372036854775807:=by omega
  have hM':=aq hM;have c10:=x10.cell;have f10:=x10.frozen
  have hbr2:Below w2.heap.size w2 wr:=by rw [HB10.out];exact hbr
  have hbwr:Below w.heap.size w wr:=hb.trans (hbr.mono hlt10);clear hM hkk
  by_cases hlt:i < ws.length
  ·have hx:=wordAt_lt HW.out i (0:Int) (n:Int)
   have x13:Boxed (wr.alloc (.cells #[.int .i64 (i:Int)] 3)) wr.heap.size 3 (.int .i64 (i:Int)):=Boxed.new wr _ _;have hba:Below wr.heap.size wr (wr.alloc (.cells #[.int .i64 (i:Int)] 3)):=(Below.refl _ _).alloc (Nat.le_refl _) _
   go_wp2_with fail
   refine (oWord' a cap ws _ _ _ i b1 b2 b3 _ ((HP.out.below hbr2).below hba) ((HL2.out.below hbr2).below hba) HW.out rfl hlt hn (by omega) (by omega) (by omega) (by omega)).mono ?_;rintro e w4 ⟨rfl,hb4⟩;obtain⟨x,hxe⟩:∃ x,x=Oc.wordAt ws i (0:Int) (n:Int):=⟨_,rfl⟩;rw [<-hxe] at hx ⊢;have HX:=aq hxe;have hcnt:=(Oc.ones_eq x).2.2;clear hxe
   go_wp2_with fail
   refine (oOnes x _ hx).mono ?_;rintro e w' ⟨rfl,rfl⟩;have hb14:Below wr.heap.size wr w4:=hba.trans (hb4.mono hba.size);have y10:=boxed_below x10 x10.lt hb14;have y11:=boxed_below x11 x11.lt hb14;have y12:=boxed_below x12 x12.lt hb14;have y13:=boxed_below x13 x13.lt hb4;have d10:=y10.cell;have k10:=y10.frozen;have d13:=y13.cell;have hM4:=aq ((hM'.out.below hb14).keep hb14.size (fun _ _ h=>h))
   have hstep:(Oc.places ws 0 (min n (64*(i+1)))).length=(Oc.places ws 0 (min n (64*i))).length+(Oc.bitsOf x).length:=by
    have:=count_step HW.out i 0 n;rw [HX.out];exact this.symm
   have HST:=aq hstep;obtain⟨cn,hcn⟩:∃ cn,cn=(Oc.bitsOf x).length:=⟨_,rfl⟩;rw [<-hcn] at hcnt ⊢;have HCN:=aq hcn;clear hstep hcn c10 f10
   by_cases hcase:cn<=ahead
   ·go_wp2
    have ev:(ahead:Int)-(cn:Int)=((ahead-cn:Nat):Int):=by omega
    rw [ev];refine⟨⟨i+1,ahead-cn,ds,_,_,_,_,_,_,_,_,_,_,_,_,_,_,_,_,_,_,_,_,_,_,_,_,_,_,_,_,_,_,rfl,⟨y10.set _,y11.other hne.symm _,y12.other hne2.symm _⟩,?_,?_,hlt,?_⟩,?_⟩
    ·exact (hbr.trans (hb14.mono (Nat.le_of_lt x10.lt))).setCell (Nat.le_refl _) _
    ·exact (hM4.out.setCell y10 _).keep (by simp [World.setCell]) (fun _ _ h=>h)
    ·have:=HST.out;have:=HKK.out;have:=HCN.out;omega
    ·simp only [intOf]
     simp
     omega
   ·go_wp2_with fail
    refine (oWord' a cap ws _ _ _ i b1 b2 b3 _ ((HP.out.below hbr2).below hb14) ((HL2.out.below hbr2).below hb14) HW.out rfl hlt hn (by omega) (by omega) (by omega) (by omega)).mono ?_;rintro e w4' ⟨rfl,hb4'⟩;rw [<-HX.out]
    go_wp2_with fail
    refine (oUp x _).mono ?_;rintro e w5 ⟨B,rfl,hB,hBle,hb5⟩;have hb45:Below w4.heap.size w4 w5:=hb4'.trans (hb5.mono hb4'.size);have hb15:Below wr.heap.size wr w5:=hb14.trans (hb45.mono hb14.size);have HT5:=aq ((HT2.out.below hbr2).below hb15);have v10:=boxed_below y10 y10.lt hb45;have v11:=boxed_below y11 y11.lt hb45;have v12:=boxed_below y12 y12.lt hb45;have v13:=boxed_below y13 y13.lt hb45;have hM5:=aq ((hM4.out.below hb45).keep hb45.size (fun _ _ h=>h));have hbw5:Below w.heap.size w w5:=hbwr.trans (hb15.mono hbwr.size);have hlt13:w.heap.size<=wr.heap.size:=hbwr.size
    have hn13:wr.heap.size≠b10:=by have:=x10.lt;omega
    have hn13':wr.heap.size≠b11:=by have:=x11.lt;omega
    have hn13'':wr.heap.size≠b12:=by have:=x12.lt;omega
    obtain⟨b13,hb13⟩:∃ b13,wr.heap.size=b13:=⟨_,rfl⟩;rw [hb13] at v13 hn13 hn13' hn13'' hlt13 ⊢;clear hb13
    go_wp2_with fail
    refine wp_range (gf:=183) (lb:=#[.pointer (some ⟨B,0,none⟩)]) rfl (enters_of Tryz.func183 (by kernel_rfl) rfl) (up_stops 8 B w.heap.size x w5 hx hB HT5.out (by decide) hposw) hbw5.size (fun _=>rfl)
     (NthI w.heap.size ahead b10 b11 b12 b13 i ds w5) (NthX w.heap.size ahead b11 b12 i ds w5) (nthI_own hbw5.size) (nthX_own hbw5.size) ⟨Nat.zero_le _,⟨v10,v11,v12,v13⟩,Below.refl _ _,hM5.out⟩
     (fun kf=>{ tmps:=#[.slice a ws.length cap,.int .i64 n,.int .i64 k,undef,undef,undef,.int .i64 0,.int .i64 0,.int .i64 0,.func (Fn.func 173) #[] #[.pointer (some ⟨b1,0,none⟩),.pointer (some ⟨b2,0,none⟩),.pointer (some ⟨b3,0,none⟩)],.pointer (some ⟨b10,0,none⟩),.pointer (some ⟨b11,0,none⟩),.pointer (some ⟨b12,0,none⟩),.pointer (some ⟨b13,0,none⟩),.int .i64 (cn:Int),.int .i64 (kf.val:Int),.slice a ws.length cap,.int .i64 n,.int .i64 0,.int .i64 0,.bool false,undef,.int .i64 k,u23,.slice a ws.length cap,.int .i64 n,.func (Fn.func 173) #[] #[.pointer (some ⟨b1,0,none⟩),.pointer (some ⟨b2,0,none⟩),.pointer (some ⟨b3,0,none⟩)],.int .i64 k,.slice a ws.length cap,.int .i64 (ws.length:Int),.int .i64 (i:Int),.bool true,.int .i64 (i:Int),.func (Fn.func 173) #[] #[.pointer (some ⟨b1,0,none⟩),.pointer (some ⟨b2,0,none⟩),.pointer (some ⟨b3,0,none⟩)],.int .i64 (i:Int),.int .u64 (x:Int),.int .i64 (cn:Int),.int .i64 (ahead:Int),.int .i64 (cn:Int),.bool false,u40,u41,u42,.func (Fn.func 173) #[] #[.pointer (some ⟨b1,0,none⟩),.pointer (some ⟨b2,0,none⟩),.pointer (some ⟨b3,0,none⟩)],.int .i64 (i:Int),.int .u64 (x:Int),.func (Fn.func 183) #[] #[.pointer (some ⟨B,0,none⟩)],.int .i64 (kf.val:Int),u48,u49,u50,u51,u52,u53,u54,u55,u56,undef,undef],defers:=[] }) ?assign ?body ?done ?stop
    case assign =>
     intro l kf W K hK
     gi_wp2
     exact hK
    case body =>
     rintro l pre kf W ⟨hpl,⟨z10,z11,z12,z13⟩,hbW,hMW⟩ _;have HM:=aq hMW;have g10:=z10.cell;have e10:=z10.frozen;have g11:=z11.cell;have e11:=z11.frozen;have g12:=z12.cell;have e12:=z12.frozen;have g13:=z13.cell;have hk64:=kf.isLt;clear hMW
     by_cases hz:ahead-pre.length=0
     ·rw [hz] at g10
      gi_wp2
      have ev:(i:Int)*64+(kf.val:Int)=((64*i+kf.val:Nat):Int):=by omega
      rw [ev];refine⟨(KeepsOthers.setCell _ _ _).trans (KeepsOthers.setCell _ _ _),rfl,pre,kf,rfl,by omega,?_,?_,?_,?_⟩
      ·exact (z11.set _).other hne3 _
      ·exact (z12.other hne3.symm _).set _
      ·exact (hbW.setCell hlt11 _).setCell hlt12 _
      ·exact (HM.out.setCell z11 _).setCell (z12.other hne3.symm _) _
     ·obtain⟨r,hr⟩:∃ r,ahead-pre.length=r+1:=⟨ahead-pre.length-1,by omega⟩
      have HR:=aq hr;rw [hr] at g10 z10
      have hr63:r+1<=9223372036854775807:=by omega
      clear hz hr
      gi_wp2
      refine⟨KeepsOthers.setCell _ _ _,(Below.refl _ W).setCell hlt10 _,?_,⟨?_,z11.other hne.symm _,z12.other hne2.symm _,z13.other hn13 _⟩,hbW.setCell hlt10 _,HM.out.setCell z10 _⟩
      ·rw [List.length_append,List.length_singleton];have:=HR.out;omega
      ·have e1:ahead-(pre++[kf]).length=r:=by rw [List.length_append,List.length_singleton];have:=HR.out;omega
       rw [e1];have e2:=z10.set (.int .i64 (r:Int));exact e2
    case done =>
     rintro D xs W hD hS ⟨hpl,_,_,_⟩ hK;have h1:=congrArg List.length hS;rw [vs_length] at h1;have h2:=HCN.out
     omega
    case stop =>
     rintro D c pre W hD hSp ⟨rfl,q,y,rfl,hq,z11,z12,hbW,hMW⟩ hK;have HS:=aq hSp;have HK:=aq hK;have HM:=aq hMW;have g11:=z11.cell;have g12:=z12.cell;clear hSp hK hMW;go_wp2
     go_quiet (fail)
     go_wp2;have hDlt:D < W.heap.size:=(Array.getElem?_eq_some_iff.1 HK.out).1;refine leaves_marked (lo:=w.heap.size) W.heap.size _ _ ((HM.out.keep (Nat.le_refl _) (fun _ _ h=>h)).cons hD hDlt (Nat.le_trans hbw5.size hD) HK.out) ?_;intro w' hb';refine⟨_,results_tmp2 rfl _ _ _,?_,?_⟩
     ·obtain⟨t,ht⟩:=HS.out
      rw [vs_snoc,HX.out] at ht;obtain⟨e1,e2⟩:=nth_found (y:=y.val) (i:=i) HW.out HC.out (show (vs q).length=ahead by rw [vs_length];exact hq) ht.symm;rw [<-HKK.out] at e1 e2;rw [e1,e2];rfl
     ·exact (below_drewN (hbw5.trans hbW) nq).trans hb'
  ·have hil:min n (64*i)=n:=by omega
   rw [hil] at HKK;have g11:=x11.cell;have g12:=x12.cell;clear hil hile;go_wp2
   go_quiet (fail)
   go_wp2;refine leaves_marked (lo:=w.heap.size) wr.heap.size _ _ (hM'.out.keep (Nat.le_refl _) (fun _ _ h=>h)) ?_;intro w' hb';refine⟨_,results_tmp2 rfl _ _ _,?_,(below_drewN hbwr nq).trans hb'⟩;obtain⟨e1,e2⟩:=nth_none (k:=(k:Int)) HC.out (by have:=HKK.out;omega);rw [e1,e2];rfl
theorem oNth (a:Option Addr) (cap:Nat) (ws:List Nat) (n k:Int) (w:World) (hl:Lst .u64 w a (ints ws)) (hw:Wide ws) (hn:ws.length<=65536) (hT:Tab w) (hk63:k<=9223372036854775807) :
  Calls Tryz.prog 152 #[.slice a ws.length cap,.int .i64 n,.int .i64 k] w fun e w'=>e=.returned (.tuple #[.int .i64 (Oc.nthV ws n k),.int .i64 (Oc.nthE ws n k)])/\Below w.heap.size w w':=by
 by_cases hc:Oc.chk ws n=0
 ·obtain⟨m,rfl,-,-,-⟩:=Oc.chk_ok hc
  by_cases h0:k < 0
  ·obtain⟨e1,e2⟩:=nth_none hc (Or.inl h0)
   rw [e1,e2];have HL:=aq hl;have HW:=aq hw;have HC:=aq hc;clear hl hw hc e1 e2 hT;refine calls_marks Tryz.func152 rfl ?_
   simp only [Tryz.ntmps152,List.size_toArray,List.length_cons,List.length_nil,Nat.reduceAdd,Nat.reduceSub,Array.replicate_succ,Array.replicate_zero,List.push_toArray,List.append_toArray,List.nil_append,List.cons_append]
   go_wp2_with fail
   try go_step3
   go_wp2_with fail
   refine (oCheck a cap ws _ _ HL.out HW.out hn).mono ?_;rintro e w1 ⟨rfl,hb1⟩;rw [HC.out];go_wp2;exact⟨_,results_tmp2 rfl _ _ _,rfl,hb1⟩
  ·obtain⟨j,rfl⟩:=Int.eq_ofNat_of_zero_le (show 0<=k by omega)
   exact oNth_ok a cap ws m j w hl hw hn hT hc (by omega)
 ·obtain⟨e1,e2⟩:=nth_refused (k:=k) hc
  have k1:(Oc.chk ws n != 0)=true:=by simp [hc]
  rw [e1,e2];have HL:=aq hl;have HW:=aq hw;clear hl hw hc e1 e2 hT;refine calls_marks Tryz.func152 rfl ?_
  simp only [Tryz.ntmps152,List.size_toArray,List.length_cons,List.length_nil,Nat.reduceAdd,Nat.reduceSub,Array.replicate_succ,Array.replicate_zero,List.push_toArray,List.append_toArray,List.nil_append,List.cons_append]
  go_wp2_with fail
  try go_step3
  go_wp2_with fail
  refine (oCheck a cap ws _ _ HL.out HW.out hn).mono ?_;rintro e w1 ⟨rfl,hb1⟩;go_wp2;exact⟨_,results_tmp2 rfl _ _ _,rfl,hb1⟩
end Go.Proofs.YtpeckljoannolaaGreatDoor
