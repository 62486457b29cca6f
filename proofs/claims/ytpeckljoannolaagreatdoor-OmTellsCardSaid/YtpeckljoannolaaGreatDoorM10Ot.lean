/- What Same, Count and Next of package occ return. -/
import Derived.RangeFuncNested
import Derived.RangeFuncBound
import Derived.RangeFuncCalls
import Derived.RangeFuncLeaves
import Derived.RangeFuncBox
import Derived.Shelf.Abstract
import Derived.Shelf.RegionOpen
import Derived.WalkKit
import Derived.WalkMore
import Derived.OwnWalkIn
import Derived.TacticsInMore
import Derived.LoopNIn
import Derived.LoopIn
import Derived.Test.YtpeckljoannolaaGreatDoorM09Ot
import Derived.Test.YtpeckljoannolaaGreatDoorR01Ot
import Derived.Test.YtpeckljoannolaaGreatDoorTkOt
set_option linter.unusedVariables false
set_option linter.unusedSimpArgs false
set_option maxHeartbeats 2000000
set_option maxRecDepth 100000
namespace Go.Proofs.YtpeckljoannolaaGreatDoor
open Go.RowKit Go.Shelf
theorem calls_marks {P:Program} {f:FuncId} {fn:Func} {c:Code} {args:Array Value} {w:World} {R:Ending->World->Prop} (hf:P.funcs[f]?=some fn) (hb:fn.body=some c)
  (h:c.wp P (bodyPostM Fence.wide 9 P fn R) { tmps:=args++Array.replicate (fn.ntmps-args.size) undef,defers:=[] } w):Calls P f args w R :=
 (callsIn_wide (n:=9)).1 (callsIn_of_wp_marks hf hb trivial (wpIn_wide.2 h) rfl)
theorem wp_range {P:Program} {α:Type} {g:Operand} {ps:Array Tmp} {assign body:Code} {Q:Exit->Act->World->Prop} {a:Act} {w:World}
  {gf:Nat} {lb:Array Value} (hg:a.eval g=.func (.func gf) #[] lb) (eg:∀ args w,(callFunc gf args).run P w=.ok (.enter gf args) w)
  {encs:α->Array Value} {n₀:Nat} {S Sp:List α->Prop} {N:Nat} (hseq:SeqStopsK Fence.wide 8 P gf lb encs (Below n₀) S Sp N w) (hn₀:n₀<=w.heap.size) (hps:∀ x,(encs x).size=ps.size)
  (I:List α->World->Prop) (Ix:Code->List α->World->Prop) (hI:OwnFrom w.heap.size I) (hIx:∀ c,OwnFrom w.heap.size (Ix c)) (h0:I [] w) (a₁:α->Act)
  (hassign:∀ (l:Nat) (x:α) (W:World) (K:Act->World->Prop),K (a₁ x) W ->
   assign.wpIn (Fence.wide.inRound l) 7 P (Exit.then K (fun _ _ _=>False)) { tmps:=(ps.zip (encs x)).foldl (fun t (p,v)=>t.setIfInBounds p v) a.tmps,defers:=[] } W)
  (hbody:∀ (l:Nat) (pre:List α) (x:α) (W:World),I pre W->pre.length < N->body.wpIn (Fence.wide.inRound l) 7 P (ownPostK (Below n₀) I Ix (pre++[x]) W) (a₁ x) W)
  (hdone:∀ (D:Nat) (xs:List α) (W:World),w.heap.size<=D->S xs->I xs W->W.heap[D]?=some (.deferred (some []))->Q .normal { a with defers:={ target:=.collected D,args:=#[] }::a.defers } W)
  (hstop:∀ (D:Nat) (c:Code) (pre:List α) (W:World),w.heap.size<=D->Sp pre->Ix c pre W->W.heap[D]?=some (.deferred (some []))->c.wp P Q { a with defers:={ target:=.collected D,args:=#[] }::a.defers } W) :
  (Code.rangeFunc g ps assign body).wp P Q a w :=
 wpIn_wide.1 (wpIn_rangeFunc_ownF (F:=Fence.wide) (n:=9) rfl (by decide) hg trivial eg hseq belowK_t (belowK_b hn₀) (Below.refl _ _) hps I Ix hI hIx h0 a₁ hassign hbody hdone (fun D c pre W h1 h2 h3 h4=>wpIn_wide.2 (hstop D c pre W h1 h2 h3 h4)))
def Marked (lo hi:Nat) (ds:List Deferred) (w:World):Prop :=
 ∃ Ds:List Nat,ds=Ds.map (fun D=>({ target:=.collected D,args:=#[] }:Deferred))/\Ds.Nodup/\∀ D∈Ds,(lo<=D/\D < hi)/\w.heap[D]?=some (.deferred (some []))
theorem Marked.nil (lo hi:Nat) (w:World):Marked lo hi [] w:=⟨[],rfl,List.nodup_nil,fun D h=>by cases h⟩
theorem Marked.keep {lo hi hi':Nat} {ds:List Deferred} {w w':World} (h:Marked lo hi ds w) (hh:hi<=hi') (hk:∀ (D:Nat),D < hi->w.heap[D]?=some (.deferred (some []))->w'.heap[D]?=some (.deferred (some []))):Marked lo hi' ds w':=by
 obtain⟨Ds,h1,h2,h3⟩:=h;exact⟨Ds,h1,h2,fun D hD=>⟨⟨(h3 D hD).1.1,Nat.lt_of_lt_of_le (h3 D hD).1.2 hh⟩,hk D (h3 D hD).1.2 (h3 D hD).2⟩⟩
theorem Marked.below {lo hi:Nat} {ds:List Deferred} {w w':World} (h:Marked lo hi ds w) (hb:Below w.heap.size w w'):Marked lo hi ds w' :=
 h.keep (Nat.le_refl _) fun D _ hD=>(hb.block D (Array.getElem?_eq_some_iff.1 hD).1).trans hD
theorem Marked.setCell {lo hi:Nat} {ds:List Deferred} {w:World} (h:Marked lo hi ds w) {b:Nat} {t:TypeId} {u:Value} (hb:Boxed w b t u) (v:Value):Marked lo hi ds (w.setCell ⟨b,0,none⟩ v) :=
 h.keep (Nat.le_refl _) fun D _ hD=>(Below.heap_setCell _ _ _ D (fun e=>by cases e;rw [show w.heap[b]?=_ from hb] at hD;cases hD)).trans hD
theorem Marked.alloc {lo hi:Nat} {ds:List Deferred} {w:World} (h:Marked lo hi ds w) (o:Obj):Marked lo hi ds (w.alloc o) :=
 h.keep (Nat.le_refl _) fun D _ hD=>(Below.heap_alloc w o D (Array.getElem?_eq_some_iff.1 hD).1).trans hD
theorem Marked.cons {lo hi hi':Nat} {ds:List Deferred} {W:World} {D:Nat} (h:Marked lo hi ds W) (hD:hi<=D) (hhi:D < hi') (hlo:lo<=D) (hW:W.heap[D]?=some (.deferred (some []))):Marked lo hi' ({ target:=.collected D,args:=#[] }::ds) W:=by
 obtain⟨Ds,h1,h2,h3⟩:=h;refine⟨D::Ds,by rw [h1];rfl,List.nodup_cons.2 ⟨fun hm=>?_,h2⟩,fun E hE=>?_⟩
 ·have:=(h3 D hm).1.2
  omega
 ·rcases List.mem_cons.1 hE with rfl | hE
  ·exact⟨⟨hlo,hhi⟩,hW⟩
  ·exact⟨⟨(h3 E hE).1.1,by have:=(h3 E hE).1.2;omega⟩,(h3 E hE).2⟩
theorem marked_own {β:Type} {lo hi:Nat} {ds:List Deferred}:OwnFrom hi (fun (_:β) W=>Marked lo hi ds W):=fun s A B row hs hg hr =>
 hs.keep (Nat.le_refl _) fun D hlt hD=>(hg.block D (Array.getElem?_eq_some_iff.1 hD).1 (fun e=>by have:=(hr D e.symm).1;omega)).trans hD
theorem leaves_marked {F:Fence} {n:Nat} {P:Program} {fn:Func} {tmps:Array Value} {R:Ending->World->Prop} {lo:Nat} :
  ∀ (hi:Nat) (ds:List Deferred) (w:World),Marked lo hi ds w->(∀ w',Below lo w w'->LeavesIn F n P fn tmps R [] .returning w')->LeavesInM F n P fn tmps R ds .returning w:=by
 intro hi ds w hM hL;obtain⟨Ds,rfl,h2,h3⟩:=hM
 induction Ds generalizing w with
 | nil=>exact hL w (Below.refl _ _)
 | cons D Ds ih =>
  obtain⟨⟨hlo,_⟩,hD⟩:=h3 D (by simp);obtain⟨hn,h2'⟩:=List.nodup_cons.1 h2;have hlt:=(Array.getElem?_eq_some_iff.1 hD).1;have hbel:Below lo w (w.putObj D (.deferred none)):=(Below.refl lo w).grown (grownBy_putObj' w D _) (by omega) (fun k e=>by cases e;omega);refine⟨by simp,.inl ⟨D,_,rfl,run_takeDeferred hD,ih (w.putObj D (.deferred none)) (fun w' hb=>hL w' (hbel.trans hb)) h2' ?_⟩⟩
  ·intro E hE
   refine⟨(h3 E (by simp [hE])).1,?_⟩;have hne:E≠D:=fun e=>hn (e▸hE);exact (World.putObj_heap_other hne).trans (h3 E (by simp [hE])).2
end Go.Proofs.YtpeckljoannolaaGreatDoor
namespace Go.Proofs.YtpeckljoannolaaGreatDoor
open Go.RowKit
theorem oEqual (a b:Option Addr) (ca cb:Nat) (xs ys:List Nat) (w:World) (ha:Lst .u64 w a (ints xs)) (hb:Lst .u64 w b (ints ys)) (hn:xs.length<=65536) (hm:ys.length<=65536) :
  Calls Tryz.prog 142 #[.slice a xs.length ca,.slice b ys.length cb] w fun e w'=>e=.returned (.bool (xs==ys))/\Below w.heap.size w w':=by
 have HA:=aq ha;have HB:=aq hb;clear ha hb
 by_cases hne:xs.length=ys.length
 ·have k1:((xs.length:Int) != ys.length)=false:=by simp;omega
  have HNE:=aq hne;clear hne
  go_enter Tryz.func142,Tryz.ntmps142
  go_wp2
  go_loopw [13] (SameJ xs ys w) (fun i _=>xs.length-(intOf i).toNat)
  case atStart=>exact⟨0,0,Nat.zero_le _,rfl,rfl,rfl⟩
  case round =>
   obtain⟨k,q,hk,rfl,rfl,ht⟩:=hrel;have HT:=aq ht;clear ht
   by_cases hlt:k < xs.length
   ·have hltb:k < ys.length:=by have:=HNE.out;omega
    obtain⟨b1,o1,rfl,_,c1⟩:=HA.out.word hlt;obtain⟨b2,o2,rfl,_,c2⟩:=HB.out.word hltb;obtain⟨x,hx⟩:∃ x,xs.getD k 0=x:=⟨_,rfl⟩;obtain⟨y,hy⟩:∃ y,ys.getD k 0=y:=⟨_,rfl⟩;rw [hx] at c1;rw [hy] at c2;have HX:=aq hx;have HY:=aq hy;clear hx hy
    by_cases he:x=y
    ·have k2:((x:Int) != (y:Int))=false:=by simp [he]
     have HE:=aq he;clear he;go_wp2
     go_quiet (fail)
     go_wp2
     go_roundw
     case rel=>exact⟨k+1,_,by omega,by go_num,rfl,take_same xs ys k hlt hltb HT.out (by rw [HX.out,HY.out,HE.out])⟩
     case measure=>simp [intOf];omega
    ·have k2:((x:Int) != (y:Int))=true:=by simp;omega
     have HE:=aq he;clear he;go_wp2
     go_quiet (fail)
     go_wp2;go_ret;rw [not_same xs ys k (by rw [HX.out,HY.out];exact HE.out)];exact⟨rfl,below_drewN (below_drewN (Below.refl _ _) _) _⟩
   ·go_wp2
    go_ret
    have e:xs=ys:=by
     have:=HT.out
     rwa [List.take_of_length_le (by omega),List.take_of_length_le (by have:=HNE.out;omega)] at this
    rw [e];exact⟨by simp,below_drewN (Below.refl _ _) _⟩
 ·have k1:((xs.length:Int) != ys.length)=true:=by simp;omega
  have H:=aq (show (xs==ys)=false by rw [beq_eq_false_iff_ne];rintro rfl;exact hne rfl);clear hne
  go_enter Tryz.func142,Tryz.ntmps142
  go_wp2;go_ret;rw [H.out];exact⟨rfl,Below.refl _ _⟩
theorem oSame (a b:Option Addr) (ca cb:Nat) (xs ys:List Nat) (w:World) (ha:Lst .u64 w a (ints xs)) (hb:Lst .u64 w b (ints ys)) (hn:xs.length<=65536) (hm:ys.length<=65536) :
  Calls Tryz.prog 94 #[.slice a xs.length ca,.slice b ys.length cb] w fun e w'=>e=.returned (.bool (xs==ys))/\Below w.heap.size w w':=by
 have HA:=aq ha;have HB:=aq hb;clear ha hb
 go_enter Tryz.func94,Tryz.ntmps94
 go_wp2_with fail
 refine (oEqual a b ca cb xs ys _ HA.out HB.out hn hm).mono ?_;rintro e w1 ⟨rfl,hb1⟩;obtain⟨r,hr⟩:∃ r,r=(xs==ys):=⟨_,rfl⟩;rw [<-hr];have HR:=aq hr;clear hr;go_wp2;go_ret;rw [HR.out];exact⟨rfl,hb1⟩
theorem count_step {ws:List Nat} (hw:Wide ws) (i p q:Nat) :
  (Oc.places ws p (min q (64*i))).length+(Oc.bitsOf (Oc.wordAt ws i (p:Int) (q:Int))).length=(Oc.places ws p (min q (64*(i+1)))).length:=by
 rw [Oc.up_step i p q (hw i),List.length_append,List.length_map]
 rfl
def CountJ (ws:List Nat) (p q:Nat) (w:World) (c i:Value) (wr:World):Prop :=
 ∃ k:Nat,k<=(q+63)/64/\i=.int .i64 k/\c=.int .i64 ((Oc.places ws p (min q (64*k))).length:Int)/\Below w.heap.size w wr
theorem wordAt_lt {ws:List Nat} (hw:Wide ws) (i:Nat) (p q:Int):Oc.wordAt ws i p q < 18446744073709551616:=Oc.cut_lt i p q (hw i)
theorem oCount_ok (a:Option Addr) (cap:Nat) (ws:List Nat) (n p q:Nat) (w:World) (hl:Lst .u64 w a (ints ws)) (hw:Wide ws) (hn:ws.length<=65536) (hc:Oc.chk ws n=0) (h1:p<=q) (h2:q<=n) :
  Calls Tryz.prog 74 #[.slice a ws.length cap,.int .i64 n,.int .i64 p,.int .i64 q] w fun e w'=>e=.returned (.tuple #[.int .i64 ((Oc.places ws p q).length:Int),.int .i64 0])/\Below w.heap.size w w':=by
 have HL:=aq hl;have HW:=aq hw;clear hl hw;obtain⟨m,e,hm,hlen,_⟩:=Oc.chk_ok hc
 have hnm:n<=65536:=by omega
 have hlen':(q+63)/64<=ws.length:=by omega
 have HC:=aq hc;clear hc e hm hlen
 go_enter Tryz.func74,Tryz.ntmps74
 go_wp2_with fail
 refine (oCheck a cap ws _ _ HL.out HW.out hn).mono ?_;rintro e w1 ⟨rfl,hb1⟩;rw [HC.out]
 go_wp2_with fail
 refine (oPart a ws.length cap _ _ _).mono ?_;rintro e w2 ⟨b1,b2,b3,rfl,hP,hb2⟩;have HP:=aq hP;have HL2:=aq ((HL.out.below hb1).below hb2);have hb:Below w.heap.size w w2:=hb1.trans (hb2.mono hb1.size);clear hP hb1 hb2 HL;go_wp2
 go_loopw [12,13] (CountJ ws p q w2) (fun _ i _=>ws.length-(intOf i).toNat)
 case atStart=>exact⟨p/64,by omega,by go_num,by rw [Oc.places_ge _ _ _ (by omega)];rfl,Below.refl _ _⟩
 case round =>
  obtain⟨k,hk,rfl,rfl,hbr⟩:=hrel
  by_cases hlt:k < (q+63)/64
  ·have HS:=aq (count_step HW.out k p q)
   have hle:=Oc.places_length_le ws p (min q (64*k));have hx:=wordAt_lt HW.out k (p:Int) (q:Int);have hle2:=(Oc.ones_eq (Oc.wordAt ws k (p:Int) (q:Int))).2.2
   go_wp2_with fail
   refine (oWordsOf _ _ (by omega) (by omega)).mono ?_;rintro e w' ⟨rfl,rfl⟩
   go_wp2_with fail
   refine (oWord' a cap ws _ _ _ k b1 b2 b3 _ (HP.out.below hbr) (HL2.out.below hbr) HW.out rfl (by omega) hn (by omega) (by omega) (by omega) (by omega)).mono ?_;rintro e w3 ⟨rfl,hb3⟩
   go_wp2_with fail
   refine (oOnes _ _ hx).mono ?_;rintro e w' ⟨rfl,rfl⟩;go_wp2
   go_roundw
   case rel=>exact⟨k+1,by omega,by go_num,by rw [<-HS.out];go_num,hbr.trans (hb3.mono hbr.size)⟩
   case measure=>simp [intOf];omega
  ·have kb:decide ((k:Int) < ((q:Int)+63)/64)=false:=by simp;omega
   have HM:=aq (show min q (64*k)=q by omega);clear hlt hk
   go_wp2_with fail
   refine (oWordsOf _ _ (by omega) (by omega)).mono ?_;rintro e w' ⟨rfl,rfl⟩;go_wp2;go_ret2;rw [HM.out];exact⟨rfl,hb.trans (hbr.mono hb.size)⟩
theorem oCount (a:Option Addr) (cap:Nat) (ws:List Nat) (n p q:Int) (w:World) (hl:Lst .u64 w a (ints ws)) (hw:Wide ws) (hn:ws.length<=65536) :
  Calls Tryz.prog 74 #[.slice a ws.length cap,.int .i64 n,.int .i64 p,.int .i64 q] w fun e w'=>e=.returned (.tuple #[.int .i64 (Oc.countV ws n p q),.int .i64 (Oc.countE ws n p q)])/\Below w.heap.size w w':=by
 by_cases hc:Oc.chk ws n=0
 ·by_cases h1:p < 0∨q < p∨n < q
  ·have H:=aq (show Oc.countE ws n p q=2 by unfold Oc.countE;rw [if_pos hc,if_pos h1])
   have H0:=aq (show Oc.countV ws n p q=0 by unfold Oc.countV;rw [if_neg (by rw [H.out];decide)]);have HL:=aq hl;have HW:=aq hw;clear hl hw
   rcases (show p < 0∨(0<=p/\q < p)∨(0<=p/\p<=q/\n < q) by omega) with h | h | h
   all_goals
    clear h1
    go_enter Tryz.func74,Tryz.ntmps74
    go_wp2_with fail
    refine (oCheck a cap ws _ _ HL.out HW.out hn).mono ?_;rintro e w1 ⟨rfl,hb1⟩;rw [hc];go_wp2;go_ret2;rw [H.out,H0.out];exact⟨rfl,hb1⟩
  ·obtain⟨m,rfl,hm,hlen,_⟩:=Oc.chk_ok hc
   obtain⟨p,rfl⟩:=Int.eq_ofNat_of_zero_le (show 0<=p by omega);obtain⟨q,rfl⟩:=Int.eq_ofNat_of_zero_le (show 0<=q by omega)
   have H:Oc.countE ws m p q=0:=by unfold Oc.countE;rw [if_pos hc,if_neg h1]
   have H0:Oc.countV ws m p q=((Oc.places ws p q).length:Int):=by unfold Oc.countV;rw [if_pos H,Int.toNat_natCast,Int.toNat_natCast]
   rw [H,H0];exact oCount_ok a cap ws m p q w hl hw hn hc (by omega) (by omega)
 ·have k1:(Oc.chk ws n != 0)=true:=by simp [hc]
  have H:=aq (show Oc.countE ws n p q=Oc.chk ws n by unfold Oc.countE;rw [if_neg hc]);have H0:=aq (show Oc.countV ws n p q=0 by unfold Oc.countV;rw [if_neg (by rw [H.out];exact hc)]);have HL:=aq hl;have HW:=aq hw;clear hl hw hc
  go_enter Tryz.func74,Tryz.ntmps74
  go_wp2_with fail
  refine (oCheck a cap ws _ _ HL.out HW.out hn).mono ?_;rintro e w1 ⟨rfl,hb1⟩;go_wp2;go_ret2;rw [H.out,H0.out];exact⟨rfl,hb1⟩
end Go.Proofs.YtpeckljoannolaaGreatDoor
namespace Go.Proofs.YtpeckljoannolaaGreatDoor
open Go.RowKit Go.Shelf
attribute [local go_sem] Oper.semAt_some
def SeqPost (f:FuncId) (x:Nat) (w:World) (e:Ending) (w':World):Prop :=
 ∃ B,e=.returned (.func (.func f) #[] #[.pointer (some ⟨B,0,none⟩)])/\Boxed w' B 27 (.int .u64 (x:Int))/\w.heap.size<=B/\Below w.heap.size w w'
theorem oUp (x:Nat) (w:World):Calls Tryz.prog 137 #[.int .u64 (x:Int)] w (SeqPost 183 x w):=by
 go_enter Tryz.func137,Tryz.ntmps137
 go_wp2;go_ret;exact⟨_,rfl,Boxed.new w _ _,Nat.le_refl _,(Below.refl _ _).alloc (Nat.le_refl _) _⟩
def vs (l:List (Fin 64)):List Nat:=l.map (fun k=>k.val)
theorem vs_snoc (l:List (Fin 64)) (k:Fin 64):vs (l++[k])=vs l++[k.val]:=by simp [vs]
theorem vs_length (l:List (Fin 64)):(vs l).length=l.length:=by simp [vs]
abbrev encB:Fin 64->Array Value:=fun k=>#[.int .i64 (k.val:Int)]
theorem and_pred (y:Nat) (h0:y≠0) (hy:y < 18446744073709551616):bits .and .u64 (y:Int) ((y:Int)-1)=((y &&& (y-1):Nat):Int):=by
 rw [show (y:Int)-1=((y-1:Nat):Int) from by omega,bits_and_u64_nat y _ hy (by omega)]
def UpJ (x:Nat) (J:List (Fin 64)->World->Prop) (p:Value) (wr:World):Prop :=
 ∃ (pre:List (Fin 64)) (y:Nat),p=.int .u64 (y:Int)/\y < 18446744073709551616/\Oc.bitsOf x=vs pre++Oc.bitsOf y/\Tab wr/\J pre wr
theorem up_stops (n B n₀ x:Nat) (w:World) (hx:x < 18446744073709551616) (hB:Boxed w B 27 (.int .u64 (x:Int))) (hT:Tab w) (hn:1<=n) (hn₀:0 < n₀) :
  SeqStopsK Fence.wide n Tryz.prog 183 #[.pointer (some ⟨B,0,none⟩)] encB (Below n₀) (fun xs=>vs xs=Oc.bitsOf x) (fun pre=>vs pre <+: Oc.bitsOf x) 64 w:=fun l J Jx W hW hJ hJx hY h0=>by
 have hc:=(boxed_below hB hB.lt hW).cell;have HT:=aq (hT.below hW);have h64:=(Oc.ones_eq x).2.2;have HY:=aq hY;clear hY hT hJ hJx;refine callsIn_of_wp Tryz.func183 rfl trivial ?_ rfl
 simp only [Tryz.ntmps183,List.size_toArray,List.length_cons,List.length_nil,Nat.reduceAdd,Nat.reduceSub,Array.replicate_succ,Array.replicate_zero,List.push_toArray,List.append_toArray,List.nil_append,List.cons_append]
 gi_wp2
 gi_loopw [3] (UpJ x J) (fun p _=>(intOf p).toNat)
 case atStart=>exact⟨[],x,rfl,hx,rfl,HT.out,h0⟩
 case round =>
  obtain⟨pre,y,rfl,hy64,hxy,hTr,hJr⟩:=hrel;have HXY:=aq hxy;have HTR:=aq hTr;clear hTr hxy
  by_cases hy0:y=0
  ·subst hy0
   gi_wp2
   go_end0
   exact⟨⟨_,rfl⟩,.inl ⟨pre,by have:=HXY.out;rw [show Oc.bitsOf 0=[] from Oc.bitsN_zero 64,List.append_nil] at this;exact this.symm,hJr⟩⟩
  ·obtain⟨hk,hbits,hlt⟩:=Oc.up_round hy0 hy64
   have HB:=aq hbits
   have hlen:pre.length < 64:=by
    have:=congrArg List.length HXY.out;rw [List.length_append,vs_length,hbits,List.length_cons] at this
    omega
   obtain⟨fn,tmps,assign,body,hy,hR⟩:=HY.out pre ⟨Lib.ctz 64 y,hk⟩ wr hJr hlen
   dsimp only [encB] at hy
   have k0:((y:Int) != 0)=true:=by simp;omega
   have KA:=and_pred y hy0 hy64;have HL:=aq hlt;clear hbits hlt
   gi_wp2
   refine⟨trivial,?_⟩;refine (callsIn_wide.2 (oTz y _ hy64 HTR.out)).mono ?_;rintro e w' ⟨rfl,rfl⟩
   gi_wp2
   refine hR.mono ?_;rintro e W3 (⟨rfl,hJ3,hk3⟩ | ⟨rfl,hJx3⟩)
   ·have HT3:=aq (HTR.out.keeps hn₀ hk3)
    gi_wp2
    go_roundw
    case rel=>exact⟨pre++[⟨Lib.ctz 64 y,hk⟩],y &&& (y-1),rfl,Nat.lt_trans HL.out hy64,by rw [vs_snoc,HXY.out,HB.out,List.append_assoc];rfl,HT3.out,hJ3⟩
    case measure =>
     have:=HL.out
     simp only [intOf]
     simp
     omega
   ·gi_wp2
    refine bodyPost_ret (results_none rfl _ _ _) rfl ?_;refine⟨⟨_,rfl⟩,.inr ⟨pre++[⟨Lib.ctz 64 y,hk⟩],?_,hJx3⟩⟩;rw [vs_snoc,HXY.out,HB.out];exact⟨Oc.bitsOf (y &&& (y-1)),by simp⟩
end Go.Proofs.YtpeckljoannolaaGreatDoor
namespace Go.Proofs.YtpeckljoannolaaGreatDoor
open Go.RowKit Go.Shelf
attribute [local go_sem] Oper.semAt_some
def boxN (v:Value) (w:World):Nat:=match v with
 | .pointer (some p)=>(match w.cell? p with | some u=>(intOf u).toNat | _=>0)
 | _=>0
theorem boxN_eq {w:World} {b i:Nat} {t:TypeId} (h:Boxed w b t (.int .i64 (i:Int))):boxN (.pointer (some ⟨b,0,none⟩)) w=i:=by
 unfold boxN;simp only [h.cell,intOf];omega
def NextI (w:World) (pre:List (Fin 64)) (W:World):Prop:=pre=[]/\Below w.heap.size w W
theorem nextI_own (w:World):OwnFrom w.heap.size (NextI w):=fun s A B row hs hg hr=>⟨hs.1,ownFrom_below (β:=List (Fin 64)) (Nat.le_refl _) (Nat.le_refl _) s A B row hs.2 hg hr⟩
def NextX (n₀ b10 b11 i:Nat) (ds:List Deferred) (w:World) (c:Code) (pre:List (Fin 64)) (W:World):Prop :=
 c=.exit 0/\∃ x:Fin 64,pre=[x]/\Boxed W b10 3 (.int .i64 ((64*i+x.val:Nat):Int))/\Boxed W b11 34 (.int .i64 0)/\Below n₀ w W/\Marked n₀ w.heap.size ds W
theorem nextX_own {n₀ b10 b11 i:Nat} {ds:List Deferred} {w:World} (hn:n₀<=w.heap.size) (c:Code):OwnFrom w.heap.size (NextX n₀ b10 b11 i ds w c):=by
 rintro s A B row ⟨hc,x,hx,h10,h11,hb,hm⟩ hg hr;refine⟨hc,x,hx,?_,?_,ownFrom_below (β:=Unit) hn hn () A B row hb hg hr,marked_own (β:=Unit) () A B row hm hg hr⟩
 ·exact h10.kept hg (fun e=>by obtain⟨_,o,ho,hno⟩:=hr b10 e.symm;rw [show A.heap[b10]?=_ from h10] at ho;cases ho;cases hno)
 ·exact h11.kept hg (fun e=>by obtain⟨_,o,ho,hno⟩:=hr b11 e.symm;rw [show A.heap[b11]?=_ from h11] at ho;cases ho;cases hno)
theorem next_found {ws:List Nat} {n s i y:Nat} (hw:Wide ws) (hc:Oc.chk ws n=0) (h1:s<=n) (h0:Oc.places ws s (min n (64*i))=[]) (hp:[y] <+: Oc.bitsOf (Oc.wordAt ws i (s:Int) (n:Int))) :
  Oc.nextV ws n s=((64*i+y:Nat):Int)/\Oc.nextE ws n s=0:=by
 obtain⟨t,ht⟩:=hp;have hs:=Oc.up_step (ws:=ws) i s n (hw i);rw [h0,List.nil_append,show Oc.cut (ws.getD i 0) i (s:Int) (n:Int)=Oc.wordAt ws i (s:Int) (n:Int) from rfl,<-ht,List.map_append] at hs
 have hlt:s < min n (64*(i+1)):=by
  apply Nat.lt_of_not_le;intro hle
  rw [Oc.places_ge _ _ _ hle] at hs
  simp at hs
 have hsp:=Oc.places_split ws s (min n (64*(i+1))) n (by omega) (by omega);rw [hs] at hsp
 have hE:Oc.nextE ws n s=0:=by
  unfold Oc.nextE;rw [if_pos hc,if_neg (by omega),Int.toNat_natCast,Int.toNat_natCast,hsp,if_neg (by simp)]
 refine⟨?_,hE⟩;unfold Oc.nextV;rw [if_pos hE,Int.toNat_natCast,Int.toNat_natCast,hsp]
 simp
theorem next_none {ws:List Nat} {n s:Nat} (hc:Oc.chk ws n=0) (h1:s<=n) (h0:Oc.places ws s n=[]):Oc.nextV ws n s=0/\Oc.nextE ws n s=6:=by
 have hE:Oc.nextE ws n s=6:=by
  unfold Oc.nextE;rw [if_pos hc,if_neg (by omega),Int.toNat_natCast,Int.toNat_natCast,h0];rfl
 exact⟨by unfold Oc.nextV;rw [hE];rfl,hE⟩
def NextInv (a:Option Addr) (cap:Nat) (ws:List Nat) (n s:Nat) (w w3:World) (b1 b2 b3 b10 b11:Nat) (A:Act) (wr:World):Prop :=
 ∃ (i b12:Nat) (ds:List Deferred) (u13 u27 u28 u29 u30 u31 u32 u33 u34 u35 u36 u37 u38 u39 u40 u41 u42:Value),
  A={ tmps:=#[.slice a ws.length cap,.int .i64 n,.int .i64 s,undef,undef,undef,.int .i64 0,.int .i64 0,.int .i64 0,.func (Fn.func 173) #[] #[.pointer (some ⟨b1,0,none⟩),.pointer (some ⟨b2,0,none⟩),.pointer (some ⟨b3,0,none⟩)],.pointer (some ⟨b10,0,none⟩),.pointer (some ⟨b11,0,none⟩),.pointer (some ⟨b12,0,none⟩),u13,.slice a ws.length cap,.int .i64 n,.int .i64 s,.int .i64 0,.int .i64 0,.bool false,undef,.slice a ws.length cap,.int .i64 s,.int .i64 n,.func (Fn.func 173) #[] #[.pointer (some ⟨b1,0,none⟩),.pointer (some ⟨b2,0,none⟩),.pointer (some ⟨b3,0,none⟩)],.int .i64 s,.int .i64 ((s:Int)/64),u27,u28,u29,u30,u31,u32,u33,u34,u35,u36,u37,u38,u39,u40,u41,u42,undef,undef],defers:=ds } /\
  Boxed wr b12 3 (.int .i64 (i:Int))/\Below w3.heap.size w3 wr/\Marked w.heap.size wr.heap.size ds wr/\i<=ws.length/\Oc.places ws s (min n (64*i))=[]
theorem oNext_ok (a:Option Addr) (cap:Nat) (ws:List Nat) (n s:Nat) (w:World) (hl:Lst .u64 w a (ints ws)) (hw:Wide ws) (hn:ws.length<=65536) (hT:Tab w) (hc:Oc.chk ws n=0) (h1:s<=n) :
  Calls Tryz.prog 90 #[.slice a ws.length cap,.int .i64 n,.int .i64 s] w fun e w'=>e=.returned (.tuple #[.int .i64 (Oc.nextV ws n s),.int .i64 (Oc.nextE ws n s)])/\Below w.heap.size w w':=by
 have HL:=aq hl;have HW:=aq hw;have HT:=aq hT;have hposw:0 < w.heap.size:=hT.1;clear hl hw hT;obtain⟨m,e,hm,hlen,_⟩:=Oc.chk_ok hc
 have hnm:n<=65536:=by omega
 have hlen':n<=64*ws.length:=by omega
 have HC:=aq (show Oc.placeE ws n s=0 by unfold Oc.placeE;rw [if_pos hc,if_neg (by omega)]);have HCK:=aq hc;clear hc e hm hlen;refine calls_marks Tryz.func90 rfl ?_
 simp only [Tryz.ntmps90,List.size_toArray,List.length_cons,List.length_nil,Nat.reduceAdd,Nat.reduceSub,Array.replicate_succ,Array.replicate_zero,List.push_toArray,List.append_toArray,List.nil_append,List.cons_append]
 go_wp2_with fail
 try go_step3
 go_wp2_with fail
 refine (oPlace a cap ws _ _ _ HL.out HW.out hn).mono ?_;rintro e w1 ⟨rfl,hb1⟩;rw [HC.out]
 go_wp2_with fail
 refine (oPart a ws.length cap _ _ _).mono ?_;rintro e w2 ⟨b1,b2,b3,rfl,hP,hb2⟩;have HP:=aq hP;have HL2:=aq ((HL.out.below hb1).below hb2);have HT2:=aq ((HT.out.below hb1).below hb2);have hb:Below w.heap.size w w2:=hb1.trans (hb2.mono hb1.size);clear hP hb1 hb2 HL HT
 go_wp2_with fail
 go_step3
 go_wp2_with fail
 obtain⟨w3,hw3⟩:∃ w3,((w2.alloc (Obj.cells #[Value.int IntKind.i64 0] 3)).alloc (Obj.cells #[Value.int IntKind.i64 6] 34)).alloc (Obj.cells #[Value.int IntKind.i64 ((s:Int)/64)] 3)=w3:=⟨_,rfl⟩
 have hX10:Boxed w3 w2.heap.size 3 (.int .i64 0):=by rw [<-hw3];exact ((Boxed.new w2 _ _).alloc _).alloc _
 have hX11:Boxed w3 (w2.heap.size+1) 34 (.int .i64 6):=by rw [<-hw3];have:=(Boxed.new (w2.alloc (Obj.cells #[Value.int IntKind.i64 0] 3)) 34 (.int .i64 6)).alloc (Obj.cells #[Value.int IntKind.i64 ((s:Int)/64)] 3);rwa [World.size_alloc] at this
 have hX12:Boxed w3 (w2.heap.size+1+1) 3 (.int .i64 ((s/64:Nat):Int)):=by rw [<-hw3,show ((s/64:Nat):Int)=(s:Int)/64 from by omega];have:=Boxed.new ((w2.alloc (Obj.cells #[Value.int IntKind.i64 0] 3)).alloc (Obj.cells #[Value.int IntKind.i64 6] 34)) 3 (.int .i64 ((s:Int)/64));rwa [World.size_alloc,World.size_alloc] at this
 have hb3:Below w2.heap.size w2 w3:=by rw [<-hw3];exact (((Below.refl _ _).alloc (Nat.le_refl _) _).alloc (by simp) _).alloc (by simp;omega) _
 rw [hw3];have hlt10:w.heap.size<=w2.heap.size:=hb.size
 have hne:¬ w2.heap.size=w2.heap.size+1:=by omega
 have hlt11:w.heap.size<=w2.heap.size+1:=by omega
 have HP3:=aq (HP.out.below hb3);have HL3:=aq (HL2.out.below hb3);have HT3:=aq (HT2.out.below hb3);have hbw:Below w.heap.size w w3:=hb.trans (hb3.mono hb.size);clear hw3 hb3 HP HL2 HT2 hb;generalize w2.heap.size+1+1=c12 at *;generalize w2.heap.size+1=b11 at *;generalize w2.heap.size=b10 at *;refine wp_loop (NextInv a cap ws n s w w3 b1 b2 b3 b10 b11) (fun A wr=>ws.length-boxN (A.tmps.getD 12 undef) wr) ?start ?round
 case start=>exact⟨s/64,c12,[],_,_,_,_,_,_,_,_,_,_,_,_,_,_,_,_,_,rfl,hX12,Below.refl _ _,Marked.nil _ _ _,by omega,Oc.places_ge _ _ _ (by omega)⟩
 case round =>
  rintro A wr ⟨i,b12,ds,u13,u27,u28,u29,u30,u31,u32,u33,u34,u35,u36,u37,u38,u39,u40,u41,u42,rfl,hi12,hbr,hM,hile,hpl⟩;have HPL:=aq hpl;have hM':=aq hM;have c12':=hi12.cell;have f12':=hi12.frozen;have x10:Boxed wr b10 3 (.int .i64 0):=boxed_below hX10 hX10.lt hbr;have x11:Boxed wr b11 34 (.int .i64 6):=boxed_below hX11 hX11.lt hbr;have hbwr:Below w.heap.size w wr:=hbw.trans (hbr.mono hbw.size);clear hM hpl
  by_cases hlt:i < ws.length
  ·have hx:=wordAt_lt HW.out i (s:Int) (n:Int)
   go_wp2_with fail
   refine (oWord' a cap ws _ _ _ i b1 b2 b3 _ (HP3.out.below hbr) (HL3.out.below hbr) HW.out rfl hlt hn (by omega) (by omega) (by omega) (by omega)).mono ?_;rintro e w4 ⟨rfl,hb4⟩;obtain⟨x,hxe⟩:∃ x,x=Oc.wordAt ws i (s:Int) (n:Int):=⟨_,rfl⟩;rw [<-hxe] at hx ⊢;have HX:=aq hxe;clear hxe
   go_wp2_with fail
   refine (oUp x _).mono ?_;rintro e w5 ⟨B,rfl,hB,hBle,hb5⟩;have hb45:Below wr.heap.size wr w5:=hb4.trans (hb5.mono hb4.size);have HT5:=aq ((HT3.out.below hbr).below hb45);have y10:=boxed_below x10 x10.lt hb45;have y11:=boxed_below x11 x11.lt hb45;have y12:=boxed_below hi12 hi12.lt hb45;have hM5:=aq ((hM'.out.below hb45).keep hb45.size (fun _ _ h=>h));have hbw5:Below w.heap.size w w5:=hbwr.trans (hb45.mono hbwr.size);clear hb4 hb5
   go_wp2_with fail
   refine wp_range (gf:=183) (lb:=#[.pointer (some ⟨B,0,none⟩)]) rfl (enters_of Tryz.func183 (by kernel_rfl) rfl) (up_stops 8 B w.heap.size x w5 hx hB HT5.out (by decide) hposw) hbw5.size (fun _=>rfl)
    (NextI w5) (NextX w.heap.size b10 b11 i ds w5) (nextI_own w5) (nextX_own hbw5.size) ⟨rfl,Below.refl _ _⟩
    (fun k=>{ tmps:=#[.slice a ws.length cap,.int .i64 n,.int .i64 s,undef,undef,undef,.int .i64 0,.int .i64 0,.int .i64 0,.func (Fn.func 173) #[] #[.pointer (some ⟨b1,0,none⟩),.pointer (some ⟨b2,0,none⟩),.pointer (some ⟨b3,0,none⟩)],.pointer (some ⟨b10,0,none⟩),.pointer (some ⟨b11,0,none⟩),.pointer (some ⟨b12,0,none⟩),.int .i64 (k.val:Int),.slice a ws.length cap,.int .i64 n,.int .i64 s,.int .i64 0,.int .i64 0,.bool false,undef,.slice a ws.length cap,.int .i64 s,.int .i64 n,.func (Fn.func 173) #[] #[.pointer (some ⟨b1,0,none⟩),.pointer (some ⟨b2,0,none⟩),.pointer (some ⟨b3,0,none⟩)],.int .i64 s,.int .i64 ((s:Int)/64),.int .i64 i,.slice a ws.length cap,.int .i64 (ws.length:Int),.bool true,u31,u32,.func (Fn.func 173) #[] #[.pointer (some ⟨b1,0,none⟩),.pointer (some ⟨b2,0,none⟩),.pointer (some ⟨b3,0,none⟩)],.int .i64 i,.int .u64 x,.func (Fn.func 183) #[] #[.pointer (some ⟨B,0,none⟩)],.int .i64 (k.val:Int),u38,u39,u40,u41,u42,undef,undef],defers:=[] }) ?assign ?body ?done ?stop
   case assign =>
    intro l k W K hK
    gi_wp2
    exact hK
   case body =>
    rintro l pre k W ⟨rfl,hbW⟩ _;have z10:=boxed_below y10 y10.lt hbW;have z11:=boxed_below y11 y11.lt hbW;have z12:=boxed_below y12 y12.lt hbW;have g10:=z10.cell;have e10:=z10.frozen;have g11:=z11.cell;have e11:=z11.frozen;have g12:=z12.cell;have hk64:=k.isLt
    gi_wp2
    have ev:(i:Int)*64+(k.val:Int)=((64*i+k.val:Nat):Int):=by omega
    rw [ev];refine⟨(KeepsOthers.setCell _ _ _).trans (KeepsOthers.setCell _ _ _),rfl,k,rfl,?_,?_,?_,?_⟩
    ·exact (z10.set _).other hne _
    ·exact (z11.other (Ne.symm hne) _).set _
    ·exact ((hbW.mono hbw5.size).setCell hlt10 _).setCell hlt11 _
    ·exact ((hM5.out.below hbW).setCell z10 _).setCell (z11.other (Ne.symm hne) _) _
   case done =>
    rintro D xs W hD hS ⟨rfl,hbW⟩ hK;have HS:=aq hS;have HK:=aq hK;have z12:=boxed_below y12 y12.lt hbW;have g12:=z12.cell;clear hS hK;go_wp2;have hDlt:D < W.heap.size:=(Array.getElem?_eq_some_iff.1 HK.out).1;have hbW3:Below w3.heap.size w3 W:=(hbr.trans (hb45.mono hbr.size)).trans (hbW.mono (hbr.trans (hb45.mono hbr.size)).size);refine⟨⟨i+1,_,_,_,_,_,_,_,_,_,_,_,_,_,_,_,_,_,_,_,rfl,Boxed.new W _ _,hbW3.alloc hbW3.size _,?_,hlt,?_⟩,?_⟩
    ·refine (((hM5.out.below hbW).alloc _).cons hD ?_ (Nat.le_trans hbw5.size hD) ?_)
     ·rw [World.size_alloc];omega
     ·exact (Below.heap_alloc W _ D hDlt).trans HK.out
    ·have hemp:Oc.bitsOf x=[]:=HS.out.symm
     rw [Oc.up_step i s n (HW.out i),HPL.out,show Oc.cut (ws.getD i 0) i (s:Int) (n:Int)=Oc.wordAt ws i (s:Int) (n:Int) from rfl,<-HX.out,hemp]
     rfl
    ·have e1:=boxN_eq (i:=i+1) (Boxed.new W 3 (.int .i64 ((i+1:Nat):Int)))
     have e2:=boxN_eq hi12
     have e3:((i+1:Nat):Int)=(i:Int)+1:=by omega
     rw [e3] at e1
     show ws.length-boxN (.pointer (some ⟨W.heap.size,0,none⟩)) _ < ws.length-boxN (.pointer (some ⟨b12,0,none⟩)) _
     rw [e1,e2]
     omega
   case stop =>
    rintro D c pre W hD hSp ⟨rfl,y,rfl,z10,z11,hbW,hMW⟩ hK;have HS:=aq hSp;have HK:=aq hK;have HM:=aq hMW;have g10:=z10.cell;have g11:=z11.cell;clear hSp hK hMW;go_wp2
    go_quiet (fail)
    go_wp2;have hDlt:D < W.heap.size:=(Array.getElem?_eq_some_iff.1 HK.out).1;refine leaves_marked (lo:=w.heap.size) W.heap.size _ _ ((HM.out.keep (Nat.le_refl _) (fun _ _ h=>h)).cons hD hDlt (Nat.le_trans hbw5.size hD) HK.out) ?_;intro w' hb';refine⟨_,results_tmp2 rfl _ _ _,?_,?_⟩
    ·obtain⟨e1,e2⟩:=next_found (y:=y.val) HW.out HCK.out h1 HPL.out (by rw [<-HX.out];exact HS.out)
     rw [e1,e2];rfl
    ·exact (below_drewN (hbw5.trans hbW) nq).trans hb'
  ·have hil:i=ws.length:=by omega
   have hmin:min n (64*i)=n:=by omega
   rw [hmin] at HPL;have g10:=x10.cell;have g11:=x11.cell;clear hil hmin hile;go_wp2
   go_quiet (fail)
   go_wp2;refine leaves_marked (lo:=w.heap.size) wr.heap.size _ _ (hM'.out.keep (Nat.le_refl _) (fun _ _ h=>h)) ?_;intro w' hb';refine⟨_,results_tmp2 rfl _ _ _,?_,(below_drewN hbwr nq).trans hb'⟩;obtain⟨e1,e2⟩:=next_none HCK.out h1 HPL.out;rw [e1,e2];rfl
theorem placeE_ok {ws:List Nat} {n s:Int} (h:Oc.placeE ws n s=0):∃ m k:Nat,n=m/\s=k/\k<=m/\Oc.chk ws m=0:=by
 unfold Oc.placeE at h
 split at h
 ·rename_i hc
  obtain⟨m,rfl,hm,hlen,_⟩:=Oc.chk_ok hc
  split at h
  ·omega
  ·exact⟨m,s.toNat,rfl,by omega,by omega,hc⟩
 ·contradiction
theorem next_refused {ws:List Nat} {n s:Int} (h:¬ Oc.placeE ws n s=0):Oc.nextV ws n s=0/\Oc.nextE ws n s=Oc.placeE ws n s:=by
 have hE:Oc.nextE ws n s=Oc.placeE ws n s:=by
  unfold Oc.placeE at h ⊢;unfold Oc.nextE
  split
  ·rename_i hc
   rw [if_pos hc] at h
   split
   ·rfl
   ·rename_i h2;rw [if_neg h2] at h;exact absurd rfl h
  ·rfl
 exact⟨by unfold Oc.nextV;rw [hE,if_neg h],hE⟩
theorem oNext (a:Option Addr) (cap:Nat) (ws:List Nat) (n s:Int) (w:World) (hl:Lst .u64 w a (ints ws)) (hw:Wide ws) (hn:ws.length<=65536) (hT:Tab w) :
  Calls Tryz.prog 90 #[.slice a ws.length cap,.int .i64 n,.int .i64 s] w fun e w'=>e=.returned (.tuple #[.int .i64 (Oc.nextV ws n s),.int .i64 (Oc.nextE ws n s)])/\Below w.heap.size w w':=by
 by_cases hc:Oc.placeE ws n s=0
 ·obtain⟨m,k,rfl,rfl,h1,h2⟩:=placeE_ok hc
  exact oNext_ok a cap ws m k w hl hw hn hT h2 h1
 ·obtain⟨e1,e2⟩:=next_refused hc
  have k1:(Oc.placeE ws n s != 0)=true:=by simp [hc]
  rw [e1,e2];have HL:=aq hl;have HW:=aq hw;clear hl hw hc e1 e2 hT;refine calls_marks Tryz.func90 rfl ?_
  simp only [Tryz.ntmps90,List.size_toArray,List.length_cons,List.length_nil,Nat.reduceAdd,Nat.reduceSub,Array.replicate_succ,Array.replicate_zero,List.push_toArray,List.append_toArray,List.nil_append,List.cons_append]
  go_wp2_with fail
  try go_step3
  go_wp2_with fail
  refine (oPlace a cap ws _ _ _ HL.out HW.out hn).mono ?_;rintro e w1 ⟨rfl,hb1⟩;go_wp2;exact⟨_,results_tmp2 rfl _ _ _,rfl,hb1⟩
end Go.Proofs.YtpeckljoannolaaGreatDoor
