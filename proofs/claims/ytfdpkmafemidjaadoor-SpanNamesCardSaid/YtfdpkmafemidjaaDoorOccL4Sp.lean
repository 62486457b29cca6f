/- What Last of package occ returns. -/
import Derived.Test.YtfdpkmafemidjaaDoorM10Sp
import Derived.Test.YtfdpkmafemidjaaDoorOccW4Sp
import Derived.Test.YtfdpkmafemidjaaDoorTkSp
set_option linter.unusedVariables false
set_option linter.unusedSimpArgs false
set_option maxHeartbeats 2000000
set_option maxRecDepth 100000
namespace Go.Proofs.YtfdpkmafemidjaaDoor
open Go.RowKit Go.Shelf
attribute [local go_sem] Oper.semAt_some
def boxS (v:Value) (w:World):Nat:=match v with
 | .pointer (some p)=>(match w.cell? p with | some u=>(intOf u+1).toNat | _=>0)
 | _=>0
theorem boxS_eq {w:World} {b j:Nat} {t:TypeId} (h:Boxed w b t (.int .i64 ((j:Int)-1))):boxS (.pointer (some ⟨b,0,none⟩)) w=j:=by
 unfold boxS;simp only [h.cell,intOf];omega
theorem last_found {ws:List Nat} {n s i y:Nat} (hw:Wide ws) (hc:Oc.chk ws n=0) (h1:s<=n) (h0:Oc.places ws (64*(i+1)) s=[]) (hp:[y] <+: (Oc.bitsOf (Oc.wordAt ws i (0:Int) (s:Int))).reverse) :
  Oc.lastV ws n s=((64*i+y:Nat):Int)/\Oc.lastE ws n s=0:=by
 obtain⟨t,ht⟩:=hp
 have hb:Oc.bitsOf (Oc.wordAt ws i (0:Int) (s:Int))=t.reverse++[y]:=by
  rw [<-List.reverse_reverse (Oc.bitsOf _),<-ht];simp
 have hs:=Oc.down_step (ws:=ws) i s (hw i);rw [h0,List.append_nil,show Oc.cut (ws.getD i 0) i ((0:Nat):Int) (s:Int)=Oc.wordAt ws i (0:Int) (s:Int) from rfl,hb,List.map_append] at hs
 have hlt:64*i < s:=by
  apply Nat.lt_of_not_le;intro hle
  rw [Oc.places_ge _ _ _ hle] at hs
  simp at hs
 have hsp:=Oc.places_split ws 0 (64*i) s (by omega) (by omega);rw [hs,<-List.append_assoc] at hsp
 have hE:Oc.lastE ws n s=0:=by
  unfold Oc.lastE;rw [if_pos hc,if_neg (by omega),Int.toNat_natCast,hsp,if_neg (by simp)]
 refine⟨?_,hE⟩;unfold Oc.lastV;rw [if_pos hE,Int.toNat_natCast,hsp]
 congr 1
 generalize Oc.places ws 0 (64*i)++List.map (fun x=>64*i+x) t.reverse=l
 simp
theorem last_none {ws:List Nat} {n s:Nat} (hc:Oc.chk ws n=0) (h1:s<=n) (h0:Oc.places ws 0 s=[]):Oc.lastV ws n s=0/\Oc.lastE ws n s=6:=by
 have hE:Oc.lastE ws n s=6:=by
  unfold Oc.lastE;rw [if_pos hc,if_neg (by omega),Int.toNat_natCast,h0];rfl
 exact⟨by unfold Oc.lastV;rw [hE];rfl,hE⟩
theorem last_refused {ws:List Nat} {n s:Int} (h:¬ Oc.placeE ws n s=0):Oc.lastV ws n s=0/\Oc.lastE ws n s=Oc.placeE ws n s:=by
 have hE:Oc.lastE ws n s=Oc.placeE ws n s:=by
  unfold Oc.placeE at h ⊢;unfold Oc.lastE
  split
  ·rename_i hc
   rw [if_pos hc] at h
   split
   ·rfl
   ·rename_i h2;rw [if_neg h2] at h;exact absurd rfl h
  ·rfl
 exact⟨by unfold Oc.lastV;rw [hE,if_neg h],hE⟩
def LastInv (a:Option Addr) (cap:Nat) (ws:List Nat) (n s:Nat) (w w3:World) (b1 b2 b3 b10 b11:Nat) (A:Act) (wr:World):Prop :=
 ∃ (j b12:Nat) (ds:List Deferred) (u13 u27 u28 u29 u30 u31 u32 u33 u34 u35 u36 u37 u38 u39 u40:Value),
  A={ tmps:=#[.slice a ws.length cap,.int .i64 n,.int .i64 s,undef,undef,undef,.int .i64 0,.int .i64 0,.int .i64 0,.func (Fn.func 79) #[] #[.pointer (some ⟨b1,0,none⟩),.pointer (some ⟨b2,0,none⟩),.pointer (some ⟨b3,0,none⟩)],.pointer (some ⟨b10,0,none⟩),.pointer (some ⟨b11,0,none⟩),.pointer (some ⟨b12,0,none⟩),u13,.slice a ws.length cap,.int .i64 n,.int .i64 s,.int .i64 0,.int .i64 0,.bool false,undef,.slice a ws.length cap,.int .i64 s,.func (Fn.func 79) #[] #[.pointer (some ⟨b1,0,none⟩),.pointer (some ⟨b2,0,none⟩),.pointer (some ⟨b3,0,none⟩)],.int .i64 s,.int .i64 (((s:Int)+63)/64),.int .i64 (((s:Int)+63)/64-1),u27,u28,u29,u30,u31,u32,u33,u34,u35,u36,u37,u38,u39,u40,undef,undef],defers:=ds } /\
  Boxed wr b12 3 (.int .i64 ((j:Int)-1))/\Below w3.heap.size w3 wr/\Marked w.heap.size wr.heap.size ds wr/\j<=(s+63)/64/\Oc.places ws (64*j) s=[]
theorem oLast_ok (a:Option Addr) (cap:Nat) (ws:List Nat) (n s:Nat) (w:World) (hl:Lst .u64 w a (ints ws)) (hw:Wide ws) (hn:ws.length<=65536) (hc:Oc.chk ws n=0) (h1:s<=n) :
  Calls Tryd.prog 70 #[.slice a ws.length cap,.int .i64 n,.int .i64 s] w fun e w'=>e=.returned (.tuple #[.int .i64 (Oc.lastV ws n s),.int .i64 (Oc.lastE ws n s)])/\Below w.heap.size w w':=by
 have HL:=aq hl;have HW:=aq hw;clear hl hw;obtain⟨m,e,hm,hlen,_⟩:=Oc.chk_ok hc
 have hnm:n<=65536:=by omega
 have hlen':(s+63)/64<=ws.length:=by omega
 have HC:=aq (show Oc.placeE ws n s=0 by unfold Oc.placeE;rw [if_pos hc,if_neg (by omega)]);have HCK:=aq hc;clear hc e hm hlen;refine calls_marks Tryd.func70 rfl ?_
 simp only [Tryd.ntmps70,List.size_toArray,List.length_cons,List.length_nil,Nat.reduceAdd,Nat.reduceSub,Array.replicate_succ,Array.replicate_zero,List.push_toArray,List.append_toArray,List.nil_append,List.cons_append]
 go_wp2_with fail
 try go_step3
 go_wp2_with fail
 refine (oPlace a cap ws _ _ _ HL.out HW.out hn).mono ?_;rintro e w1 ⟨rfl,hb1⟩;rw [HC.out]
 go_wp2_with fail
 refine (oPart a ws.length cap _ _ _).mono ?_;rintro e w2 ⟨b1,b2,b3,rfl,hP,hb2⟩;have HP:=aq hP;have HL2:=aq ((HL.out.below hb1).below hb2);have hb:Below w.heap.size w w2:=hb1.trans (hb2.mono hb1.size);clear hP hb1 hb2 HL
 go_wp2_with fail
 go_step3
 go_wp2_with fail
 refine (oWordsOf _ _ (by omega) (by omega)).mono ?_;rintro e w' ⟨rfl,rfl⟩
 go_wp2_with fail
 obtain⟨w3,hw3⟩:∃ w3,((w2.alloc (Obj.cells #[Value.int IntKind.i64 0] 3)).alloc (Obj.cells #[Value.int IntKind.i64 6] 28)).alloc (Obj.cells #[Value.int IntKind.i64 (((s:Int)+63)/64-1)] 3)=w3:=⟨_,rfl⟩
 have hX10:Boxed w3 w2.heap.size 3 (.int .i64 0):=by rw [<-hw3];exact ((Boxed.new w2 _ _).alloc _).alloc _
 have hX11:Boxed w3 (w2.heap.size+1) 28 (.int .i64 6):=by rw [<-hw3];have:=(Boxed.new (w2.alloc (Obj.cells #[Value.int IntKind.i64 0] 3)) 28 (.int .i64 6)).alloc (Obj.cells #[Value.int IntKind.i64 (((s:Int)+63)/64-1)] 3);rwa [World.size_alloc] at this
 have hX12:Boxed w3 (w2.heap.size+1+1) 3 (.int .i64 ((((s+63)/64:Nat):Int)-1)):=by rw [<-hw3,show (((s+63)/64:Nat):Int)=((s:Int)+63)/64 from by omega];have:=Boxed.new ((w2.alloc (Obj.cells #[Value.int IntKind.i64 0] 3)).alloc (Obj.cells #[Value.int IntKind.i64 6] 28)) 3 (.int .i64 (((s:Int)+63)/64-1));rwa [World.size_alloc,World.size_alloc] at this
 have hb3:Below w2.heap.size w2 w3:=by rw [<-hw3];exact (((Below.refl _ _).alloc (Nat.le_refl _) _).alloc (by simp) _).alloc (by simp;omega) _
 rw [hw3];have hlt10:w.heap.size<=w2.heap.size:=hb.size
 have hne:¬ w2.heap.size=w2.heap.size+1:=by omega
 have hlt11:w.heap.size<=w2.heap.size+1:=by omega
 have HP3:=aq (HP.out.below hb3);have HL3:=aq (HL2.out.below hb3);have hbw:Below w.heap.size w w3:=hb.trans (hb3.mono hb.size);clear hw3 hb3 HP HL2 hb;generalize w2.heap.size+1+1=c12 at *;generalize w2.heap.size+1=b11 at *;generalize w2.heap.size=b10 at *;refine wp_loop (LastInv a cap ws n s w w3 b1 b2 b3 b10 b11) (fun A wr=>boxS (A.tmps.getD 12 undef) wr) ?start ?round
 case start=>exact⟨(s+63)/64,c12,[],_,_,_,_,_,_,_,_,_,_,_,_,_,_,_,rfl,hX12,Below.refl _ _,Marked.nil _ _ _,by omega,Oc.places_ge _ _ _ (by omega)⟩
 case round =>
  rintro A wr ⟨j,b12,ds,u13,u27,u28,u29,u30,u31,u32,u33,u34,u35,u36,u37,u38,u39,u40,rfl,hi12,hbr,hM,hjle,hpl⟩;have HPL:=aq hpl;have hM':=aq hM;have x10:Boxed wr b10 3 (.int .i64 0):=boxed_below hX10 hX10.lt hbr;have x11:Boxed wr b11 28 (.int .i64 6):=boxed_below hX11 hX11.lt hbr;have hbwr:Below w.heap.size w wr:=hbw.trans (hbr.mono hbw.size);clear hM hpl
  cases j with
  | succ i =>
   have hx:=wordAt_lt HW.out i (0:Int) (s:Int);rw [show (((i+1:Nat):Int)-1)=(i:Int) from by omega] at hi12;have c12':=hi12.cell;have f12':=hi12.frozen
   have hil:i < ws.length:=by omega
   have hi0:0<=(i:Int):=by omega
   go_wp2_with fail
   refine (oWord' a cap ws _ _ _ i b1 b2 b3 _ (HP3.out.below hbr) (HL3.out.below hbr) HW.out rfl hil hn (by omega) (by omega) (by omega) (by omega)).mono ?_;rintro e w4 ⟨rfl,hb4⟩;obtain⟨x,hxe⟩:∃ x,x=Oc.wordAt ws i (0:Int) (s:Int):=⟨_,rfl⟩;rw [<-hxe] at hx ⊢;have HX:=aq hxe;clear hxe
   go_wp2_with fail
   refine (oDown x _).mono ?_;rintro e w5 ⟨B,rfl,hB,hBle,hb5⟩;have hb45:Below wr.heap.size wr w5:=hb4.trans (hb5.mono hb4.size);have y10:=boxed_below x10 x10.lt hb45;have y11:=boxed_below x11 x11.lt hb45;have y12:=boxed_below hi12 hi12.lt hb45;have hM5:=aq ((hM'.out.below hb45).keep hb45.size (fun _ _ h=>h));have hbw5:Below w.heap.size w w5:=hbwr.trans (hb45.mono hbwr.size);clear hb4 hb5
   go_wp2_with fail
   refine wp_range (gf:=94) (lb:=#[.pointer (some ⟨B,0,none⟩)]) rfl (enters_of Tryd.func94 (by kernel_rfl) rfl) (down_stops 8 B w.heap.size x w5 hx hB (by decide)) hbw5.size (fun _=>rfl)
    (NextI w5) (NextX w.heap.size b10 b11 i ds w5) (nextI_own w5) (nextX_own hbw5.size) ⟨rfl,Below.refl _ _⟩
    (fun k=>{ tmps:=#[.slice a ws.length cap,.int .i64 n,.int .i64 s,undef,undef,undef,.int .i64 0,.int .i64 0,.int .i64 0,.func (Fn.func 79) #[] #[.pointer (some ⟨b1,0,none⟩),.pointer (some ⟨b2,0,none⟩),.pointer (some ⟨b3,0,none⟩)],.pointer (some ⟨b10,0,none⟩),.pointer (some ⟨b11,0,none⟩),.pointer (some ⟨b12,0,none⟩),.int .i64 (k.val:Int),.slice a ws.length cap,.int .i64 n,.int .i64 s,.int .i64 0,.int .i64 0,.bool false,undef,.slice a ws.length cap,.int .i64 s,.func (Fn.func 79) #[] #[.pointer (some ⟨b1,0,none⟩),.pointer (some ⟨b2,0,none⟩),.pointer (some ⟨b3,0,none⟩)],.int .i64 s,.int .i64 (((s:Int)+63)/64),.int .i64 (((s:Int)+63)/64-1),.int .i64 i,.bool true,u29,u30,.func (Fn.func 79) #[] #[.pointer (some ⟨b1,0,none⟩),.pointer (some ⟨b2,0,none⟩),.pointer (some ⟨b3,0,none⟩)],.int .i64 i,.int .u64 x,.func (Fn.func 94) #[] #[.pointer (some ⟨B,0,none⟩)],.int .i64 (k.val:Int),u36,u37,u38,u39,u40,undef,undef],defers:=[] }) ?assign ?body ?done ?stop
   case assign =>
    intro l k W K hK
    gi_wp2
    exact hK
   case body =>
    rintro l pre k W ⟨rfl,hbW⟩ _;have z10:=boxed_below y10 y10.lt hbW;have z11:=boxed_below y11 y11.lt hbW;have z12:=boxed_below y12 y12.lt hbW;have g10:=z10.cell;have e10:=z10.frozen;have g11:=z11.cell;have e11:=z11.frozen;have g12:=z12.cell;have hk64:=k.isLt
    gi_wp2
    have ev:(i:Int)*64+(k.val:Int)=((64*i+k.val:Nat):Int):=by omega
    rw [ev];refine⟨(KeepsOthers.setCell _ _ _).trans (KeepsOthers.setCell _ _ _),rfl,k,rfl,?_,?_,?_,?_⟩
    ·exact (z10.set _).other hne _
    ·exact (z11.other (Ne.symm hne) _).set _
    ·exact ((hbW.mono hbw5.size).setCell hlt10 _).setCell hlt11 _
    ·exact ((hM5.out.below hbW).setCell z10 _).setCell (z11.other (Ne.symm hne) _) _
   case done =>
    rintro D xs W hD hS ⟨rfl,hbW⟩ hK;have HS:=aq hS;have HK:=aq hK;have z12:=boxed_below y12 y12.lt hbW;have g12:=z12.cell;clear hS hK;go_wp2;have hDlt:D < W.heap.size:=(Array.getElem?_eq_some_iff.1 HK.out).1;have hbW3:Below w3.heap.size w3 W:=(hbr.trans (hb45.mono hbr.size)).trans (hbW.mono (hbr.trans (hb45.mono hbr.size)).size);refine⟨⟨i,_,_,_,_,_,_,_,_,_,_,_,_,_,_,_,_,_,rfl,Boxed.new W _ _,hbW3.alloc hbW3.size _,?_,by omega,?_⟩,?_⟩
    ·refine (((hM5.out.below hbW).alloc _).cons hD ?_ (Nat.le_trans hbw5.size hD) ?_)
     ·rw [World.size_alloc];omega
     ·exact (Below.heap_alloc W _ D hDlt).trans HK.out
    ·have hemp:Oc.bitsOf x=[]:=by have:=HS.out.symm;simpa [vs] using this
     rw [Oc.down_step i s (HW.out i),HPL.out,show Oc.cut (ws.getD i 0) i ((0:Nat):Int) (s:Int)=Oc.wordAt ws i (0:Int) (s:Int) from rfl,<-HX.out,hemp]
     rfl
    ·have e1:=boxS_eq (j:=i) (Boxed.new W 3 (.int .i64 ((i:Int)-1)))
     have e2:=boxS_eq (j:=i+1) (w:=wr) (b:=b12) (t:=3) (by rw [show (((i+1:Nat):Int)-1)=(i:Int) from by omega];exact hi12)
     show boxS (.pointer (some ⟨W.heap.size,0,none⟩)) _ < boxS (.pointer (some ⟨b12,0,none⟩)) _
     rw [e1,e2]
     omega
   case stop =>
    rintro D c pre W hD hSp ⟨rfl,y,rfl,z10,z11,hbW,hMW⟩ hK;have HS:=aq hSp;have HK:=aq hK;have HM:=aq hMW;have g10:=z10.cell;have g11:=z11.cell;clear hSp hK hMW;go_wp2
    go_quiet (fail)
    go_wp2;have hDlt:D < W.heap.size:=(Array.getElem?_eq_some_iff.1 HK.out).1;refine leaves_marked (lo:=w.heap.size) W.heap.size _ _ ((HM.out.keep (Nat.le_refl _) (fun _ _ h=>h)).cons hD hDlt (Nat.le_trans hbw5.size hD) HK.out) ?_;intro w' hb';refine⟨_,results_tmp2 rfl _ _ _,?_,?_⟩
    ·obtain⟨e1,e2⟩:=last_found (y:=y.val) HW.out HCK.out h1 HPL.out (by rw [<-HX.out];exact HS.out)
     rw [e1,e2];rfl
    ·exact (below_drewN (hbw5.trans hbW) nq).trans hb'
  | zero =>
   rw [show (((0:Nat):Int)-1)=(-1:Int) from by omega] at hi12;have c12':=hi12.cell;have g10:=x10.cell;have g11:=x11.cell;go_wp2
   go_quiet (fail)
   go_wp2;refine leaves_marked (lo:=w.heap.size) wr.heap.size _ _ (hM'.out.keep (Nat.le_refl _) (fun _ _ h=>h)) ?_;intro w' hb';refine⟨_,results_tmp2 rfl _ _ _,?_,(below_drewN hbwr nq).trans hb'⟩;obtain⟨e1,e2⟩:=last_none HCK.out h1 HPL.out;rw [e1,e2];rfl
theorem oLast (a:Option Addr) (cap:Nat) (ws:List Nat) (n s:Int) (w:World) (hl:Lst .u64 w a (ints ws)) (hw:Wide ws) (hn:ws.length<=65536) :
  Calls Tryd.prog 70 #[.slice a ws.length cap,.int .i64 n,.int .i64 s] w fun e w'=>e=.returned (.tuple #[.int .i64 (Oc.lastV ws n s),.int .i64 (Oc.lastE ws n s)])/\Below w.heap.size w w':=by
 by_cases hc:Oc.placeE ws n s=0
 ·obtain⟨m,k,rfl,rfl,h1,h2⟩:=placeE_ok hc
  exact oLast_ok a cap ws m k w hl hw hn h2 h1
 ·obtain⟨e1,e2⟩:=last_refused hc
  have k1:(Oc.placeE ws n s != 0)=true:=by simp [hc]
  rw [e1,e2];have HL:=aq hl;have HW:=aq hw;clear hl hw hc e1 e2;refine calls_marks Tryd.func70 rfl ?_
  simp only [Tryd.ntmps70,List.size_toArray,List.length_cons,List.length_nil,Nat.reduceAdd,Nat.reduceSub,Array.replicate_succ,Array.replicate_zero,List.push_toArray,List.append_toArray,List.nil_append,List.cons_append]
  go_wp2_with fail
  try go_step3
  go_wp2_with fail
  refine (oPlace a cap ws _ _ _ HL.out HW.out hn).mono ?_;rintro e w1 ⟨rfl,hb1⟩;go_wp2;exact⟨_,results_tmp2 rfl _ _ _,rfl,hb1⟩
end Go.Proofs.YtfdpkmafemidjaaDoor
