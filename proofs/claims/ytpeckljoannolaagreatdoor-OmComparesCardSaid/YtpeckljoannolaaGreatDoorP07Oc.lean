/- What package spread returns. -/
import Derived.Test.YtpeckljoannolaaGreatDoorM11Oc
import Derived.Test.YtpeckljoannolaaGreatDoorM01Oc
import Derived.Test.YtpeckljoannolaaGreatDoorRefW01Oc
import Derived.Test.YtpeckljoannolaaGreatDoorP06Oc
import Derived.Deep.DeepCutAuto
import Derived.StillTailTactics
import Derived.RangeFuncBox
import Derived.Test.YtpeckljoannolaaGreatDoorTkOc
import Derived.BigQuiet
import Derived.IntWalk
import Derived.OwnWalkIn
import Derived.Test.YtpeckljoannolaaGreatDoorM10Oc
set_option linter.unusedVariables false
set_option linter.unusedSimpArgs false
set_option maxHeartbeats 16000000
set_option maxRecDepth 100000
namespace Go.Proofs.YtpeckljoannolaaGreatDoor
open Go.RowKit Go.Shelf
attribute [local go_sem] Oper.semAt_some
theorem own_keeps {W W':World} {base:Nat} {e:TypeId} {size:Nat} {v:Value} {n:Nat} {xs:List Value} (h:W.ownsRow base e size v n xs) (hg:W.grownBy W' v.ownBlock):KeepsOthers W W':=by
 refine KeepsOthers.of_grownBy hg fun j o hj ho=>?_
 rcases h.2 with⟨hv,_⟩ | ⟨g,c,cur,hv,_,hh,_⟩
 ·subst hv;simp [Value.ownBlock] at hj
 ·subst hv
  simp [Value.ownBlock] at hj
  subst hj;rw [hh] at ho;cases ho;rfl
theorem step_moreIn {F:Fence} {m:Nat} {P:Program} {T E:TypeId} {z:Value} {size bytes:Nat} (hE:Elem P T E z size bytes) {w:World} {ops:Array Oper} {o:Oper} {act:Act} {K:Act->World->Prop} {Q:Exit->Act->World->Prop} {FF:Prop} (hgd:o.guard=none) (s x:Operand)
  (ho:o.op=.call { callee:=.builtin .append,args:=#[s,x],argTypes:=#[T,T] })
  (W:World) (t:TypeId) (us:List Value) (hW:w=W.alloc (.cells us.toArray t)) (hus:us.length=size) (base n:Nat) (v:Value) (xs:List Value) (hs:act.eval s=v) (hx:act.eval x=.slice (some ⟨W.heap.size,0,none⟩) 1 1)
  (hown:W.ownsRow base E size v n xs) (h1:∀ u∈us,u.oneCell'=true) (hbase:base<=W.heap.size) (h63:n+1<=maxLen) (hby:(n+1)*bytes<=140737488355328)
  (h:∀ v' w',w'.ownsRow base E size v' (n+1) (xs++us)->Below base W w'->KeepsOthers W w'->K (act.put o.dst v') w'):if Region.wanted o (yielded ops act.tmps)=true then Oper.wpIn F m P o act w K Q else FF:=by
 have hw:Region.wanted o (yielded ops act.tmps)=true:=by simp [Region.wanted,hgd]
 rw [if_pos hw];subst hW;obtain⟨i0,hi0,hz0,hz1,hz2⟩:=hE.info
 obtain⟨v',w',hrun,r1,r2,_⟩:=run_append_own (P:=P) (w:=W.alloc (.cells us.toArray t)) base T o.type E i0 z size bytes hE.und hi0 hz0 hz1 hz2 hE.zero hE.pos v n xs (hown.alloc _) ⟨W.heap.size,0,none⟩ 1 1 us (by rw [hus,Nat.one_mul]) (by
  intro j y hj;have hjl:j < us.length:=(List.getElem?_eq_some_iff.1 hj).1
  have hh:(W.alloc (.cells us.toArray t)).heap[W.heap.size]?=some (.cells us.toArray t):=by show (W.heap.push _)[W.heap.size]?=_;exact Array.getElem?_push_size
  rw [add_at,Nat.zero_add]
  simp only [World.cell?,hh]
  simpa using hj) h1 h63 hby (by simp;omega)
 unfold Oper.wpIn;refine⟨?_,?_⟩
 ·simp [Oper.about,ho,resolve,Target.leads,Sem.run_pure]
 ·rw [Oper.semAt_plain F _ _ (by rw [ho];intro c hc';cases hc')]
  simp [execOp,ho,resolve,invoke,builtin,hs,hx,hrun,Result.andThen]
  exact h _ _ r1 (((Below.refl _ _).alloc hbase _).grown r2 (by simp;omega) (fun g hg=>(World.ownsRow.lt hown g hg).1)) ((KeepsOthers.alloc _ _).trans (own_keeps (hown.alloc _) r2))
theorem leaves_one {F:Fence} {n:Nat} {P:Program} {fn:Func} {tmps:Array Value} {R:Ending->World->Prop} {D:Nat} {w:World} (hD:w.heap[D]?=some (.deferred (some [])))
  (hL:LeavesIn F n P fn tmps R [] .returning (w.putObj D (.deferred none))):LeavesInM F n P fn tmps R [{ target:=.collected D,args:=#[] }] .returning w :=
 ⟨by simp,.inl ⟨D,_,rfl,run_takeDeferred hD,hL⟩⟩
theorem none_ownFrom (n:Nat):OwnFrom n (fun (_:List Nat) (_:World)=>False):=fun _ _ _ _ h _ _=>h
theorem row_far {w:World} {base:Nat} {e:TypeId} {size:Nat} {v:Value} {n:Nat} {xs:List Value} (h:w.ownsRow base e size v n xs) {b:Nat} (hb:b < base) (u:Value):(w.setCell ⟨b,0,none⟩ u).ownsRow base e size v n xs:=by
 refine⟨h.1,?_⟩
 rcases h.2 with h2 | ⟨g,c,cur,hv,hg,hh,r⟩
 ·exact Or.inl h2
 ·exact Or.inr ⟨g,c,cur,hv,hg,(Below.heap_setCell w ⟨b,0,none⟩ u g (by show g≠b;omega)).trans hh,r⟩
theorem box_grown {W W':World} {base:Nat} {e t:TypeId} {size:Nat} {v u:Value} {n b:Nat} {xs:List Value} (h:W.ownsRow base e size v n xs) (hg:W.grownBy W' v.ownBlock) (hb:Boxed W b t u) (ht:t≠e):Boxed W' b t u:=by
 refine (hg.block b hb.lt ?_).trans hb;intro hE
 rcases h.2 with⟨hv,_⟩ | ⟨g,c,cur,hv,_,hh,_⟩
 ·subst hv;simp [Value.ownBlock] at hE
 ·subst hv
  simp [Value.ownBlock] at hE
  subst hE;rw [show W.heap[b]?=_ from hb] at hh
  cases hh
  exact ht rfl
theorem step_moreBx {F:Fence} {m:Nat} {P:Program} {T E:TypeId} {z:Value} {size bytes:Nat} (hE:Elem P T E z size bytes) {w:World} {ops:Array Oper} {o:Oper} {act:Act} {K:Act->World->Prop} {Q:Exit->Act->World->Prop} {FF:Prop} (hgd:o.guard=none) (s x:Operand)
  (ho:o.op=.call { callee:=.builtin .append,args:=#[s,x],argTypes:=#[T,T] })
  (W:World) (t:TypeId) (us:List Value) (hW:w=W.alloc (.cells us.toArray t)) (hus:us.length=size) (base n:Nat) (v:Value) (xs:List Value) (hs:act.eval s=v) (hx:act.eval x=.slice (some ⟨W.heap.size,0,none⟩) 1 1)
  (hown:W.ownsRow base E size v n xs) (h1:∀ u∈us,u.oneCell'=true) (hbase:base<=W.heap.size) (h63:n+1<=maxLen) (hby:(n+1)*bytes<=140737488355328)
  (h:∀ v' w',w'.ownsRow base E size v' (n+1) (xs++us)->Below base W w'->KeepsOthers W w'->(∀ b t u,t≠E->Boxed W b t u->Boxed w' b t u)->K (act.put o.dst v') w'):if Region.wanted o (yielded ops act.tmps)=true then Oper.wpIn F m P o act w K Q else FF:=by
 have hw:Region.wanted o (yielded ops act.tmps)=true:=by simp [Region.wanted,hgd]
 rw [if_pos hw];subst hW;obtain⟨i0,hi0,hz0,hz1,hz2⟩:=hE.info
 obtain⟨v',w',hrun,r1,r2,_⟩:=run_append_own (P:=P) (w:=W.alloc (.cells us.toArray t)) base T o.type E i0 z size bytes hE.und hi0 hz0 hz1 hz2 hE.zero hE.pos v n xs (hown.alloc _) ⟨W.heap.size,0,none⟩ 1 1 us (by rw [hus,Nat.one_mul]) (by
  intro j y hj;have hjl:j < us.length:=(List.getElem?_eq_some_iff.1 hj).1
  have hh:(W.alloc (.cells us.toArray t)).heap[W.heap.size]?=some (.cells us.toArray t):=by show (W.heap.push _)[W.heap.size]?=_;exact Array.getElem?_push_size
  rw [add_at,Nat.zero_add]
  simp only [World.cell?,hh]
  simpa using hj) h1 h63 hby (by simp;omega)
 unfold Oper.wpIn;refine⟨?_,?_⟩
 ·simp [Oper.about,ho,resolve,Target.leads,Sem.run_pure]
 ·rw [Oper.semAt_plain F _ _ (by rw [ho];intro c hc';cases hc')]
  simp [execOp,ho,resolve,invoke,builtin,hs,hx,hrun,Result.andThen]
  exact h _ _ r1 (((Below.refl _ _).alloc hbase _).grown r2 (by simp;omega) (fun g hg=>(World.ownsRow.lt hown g hg).1)) ((KeepsOthers.alloc _ _).trans (own_keeps (hown.alloc _) r2)) (fun b t u ht hb=>box_grown (hown.alloc _) r2 (hb.alloc _) ht)
theorem row_off {w:World} {base:Nat} {e t:TypeId} {size:Nat} {v u:Value} {n b:Nat} {xs:List Value} (h:w.ownsRow base e size v n xs) (hb:Boxed w b t u) (ht:t≠e) (u':Value):(w.setCell ⟨b,0,none⟩ u').ownsRow base e size v n xs:=by
 refine⟨h.1,?_⟩
 rcases h.2 with h2 | ⟨g,c,cur,hv,hg,hh,r⟩
 ·exact Or.inl h2
 ·refine Or.inr ⟨g,c,cur,hv,hg,(Below.heap_setCell w ⟨b,0,none⟩ u' g ?_).trans hh,r⟩
  show g≠b
  rintro rfl;rw [show w.heap[g]?=_ from hb] at hh
  cases hh
  exact ht rfl
theorem boxed_low {w w':World} {n b:Nat} {t:TypeId} {v:Value} (h:Boxed w b t v) (hn:b < n) (hb:Below n w w'):Boxed w' b t v:=(hb.block b hn).trans h
end Go.Proofs.YtpeckljoannolaaGreatDoor
namespace Go.Proofs.YtpeckljoannolaaGreatDoor
open Go.RowKit
namespace Sp
end Sp
def NRow (zs:List Int) (er:Int) (w:World) (e:Ending) (w':World):Prop :=
 ∃ v,e=.returned (.tuple #[v,.int .i64 er])/\w'.ownsRow w.heap.size 3 1 v zs.length (zs.map (Value.int .i64))/\Below w.heap.size w w'
namespace Sp
def wB (n a b:Int):Bool:=decide (a<=n)&&decide (n<=b)
theorem may_w (n f t:Int):mayB n f t=(wB t 0 65536&&(wB f 0 t&&wB n 0 (t-f))):=by
 unfold mayB wB;rw [Bool.eq_iff_iff]
 simp only [Bool.and_eq_true,decide_eq_true_eq]
 omega
end Sp
theorem sWithin (n a b:Int) (w:World) :
  Calls Tryz.prog 248 #[.int .i64 n,.int .i64 a,.int .i64 b] w fun e w'=>e=.returned (.bool (Sp.wB n a b))/\w=w':=by
 have H:=aq (show Sp.wB n a b=(decide (a<=n)&&decide (n<=b)) from rfl);rw [H.out]
 by_cases h1:a<=n
 ·rw [decide_eq_true h1]
  go_enter Tryz.func248,Tryz.ntmps248
  go_wp2;go_ret;exact⟨rfl,rfl⟩
 ·rw [decide_eq_false h1]
  go_enter Tryz.func248,Tryz.ntmps248
  go_wp2;go_ret;exact⟨rfl,rfl⟩
theorem sMayBe (n f t:Int) (w:World) (hn:-9223372036854775808<=n/\n<=9223372036854775807) (hf:-9223372036854775808<=f/\f<=9223372036854775807) (ht:-9223372036854775808<=t/\t<=9223372036854775807) :
  Calls Tryz.prog 242 #[.int .i64 n,.int .i64 f,.int .i64 t] w fun e w'=>e=.returned (.bool (Sp.mayB n f t))/\w=w':=by
 have C1:=aq (fun W=>sWithin t 0 65536 W);have C2:=aq (fun W=>sWithin f 0 t W);have C3:=aq (fun W=>sWithin n 0 (t-f) W);have E:=aq (Sp.may_w n f t);rw [E.out];clear E
 cases h1:Sp.wB t 0 65536
 ·rw [h1] at C1
  clear h1
  go_enter Tryz.func242,Tryz.ntmps242
  go_wp2_with fail
  refine (C1.out _).mono ?_;rintro e w1 ⟨rfl,rfl⟩;go_wp2;go_ret;exact⟨rfl,rfl⟩
 ·rw [h1] at C1
  cases h2:Sp.wB f 0 t
  ·rw [h2] at C2
   clear h1 h2
   go_enter Tryz.func242,Tryz.ntmps242
   go_wp2_with fail
   refine (C1.out _).mono ?_;rintro e w1 ⟨rfl,rfl⟩
   go_wp2_with fail
   refine (C2.out _).mono ?_;rintro e w1 ⟨rfl,rfl⟩;go_wp2;go_ret;exact⟨rfl,rfl⟩
  ·rw [h2] at C2
   have b1:0<=f:=by simp [Sp.wB] at h2;omega
   have b2:f<=t:=by simp [Sp.wB] at h2;omega
   obtain⟨x,hx⟩:∃ x,x=Sp.wB n 0 (t-f):=⟨_,rfl⟩;rw [<-hx] at C3 ⊢;clear h1 h2 hx
   go_enter Tryz.func242,Tryz.ntmps242
   go_wp2_with fail
   refine (C1.out _).mono ?_;rintro e w1 ⟨rfl,rfl⟩
   go_wp2_with fail
   refine (C2.out _).mono ?_;rintro e w1 ⟨rfl,rfl⟩
   go_wp2_with fail
   refine (C3.out _).mono ?_;rintro e w1 ⟨rfl,rfl⟩;go_wp2;go_ret;exact⟨rfl,rfl⟩
namespace Sp
end Sp
end Go.Proofs.YtpeckljoannolaaGreatDoor
namespace Go.Proofs.YtpeckljoannolaaGreatDoor
open Go.RowKit Go.Shelf
attribute [local go_sem] Oper.semAt_some
def PlPost (n f t:Int) (w:World) (e:Ending) (w':World):Prop :=
 ∃ B1 B2 B3,e=.returned (.func (.func 249) #[] #[.pointer (some ⟨B1,0,none⟩),.pointer (some ⟨B2,0,none⟩),.pointer (some ⟨B3,0,none⟩)])/\Boxed w' B1 3 (.int .i64 n)/\Boxed w' B2 3 (.int .i64 f)/\Boxed w' B3 3 (.int .i64 (t-f))/\(w.heap.size<=B1/\w.heap.size<=B2/\w.heap.size<=B3)/\Below w.heap.size w w'
theorem sPlacesOf (n f t:Int) (w:World) (hm:Sp.mayB n f t=true):Calls Tryz.prog 243 #[.int .i64 n,.int .i64 f,.int .i64 t] w (PlPost n f t w):=by
 obtain⟨m1,m2,m3,m4,m5⟩:=Sp.may_in hm;clear hm
 go_enter Tryz.func243,Tryz.ntmps243
 go_wp2;go_ret;refine⟨_,_,_,rfl,?_,?_,?_,⟨Nat.le_refl _,by omega,by omega⟩,?_⟩
 ·exact ((Boxed.new w _ _).alloc _).alloc _
 ·have:=(Boxed.new (w.alloc (.cells #[.int .i64 n] 3)) 3 (.int .i64 f)).alloc (.cells #[.int .i64 (t-f)] 3)
  rwa [World.size_alloc] at this
 ·have:=Boxed.new ((w.alloc (.cells #[.int .i64 n] 3)).alloc (.cells #[.int .i64 f] 3)) 3 (.int .i64 (t-f))
  rwa [World.size_alloc,World.size_alloc] at this
 ·exact (((Below.refl _ _).alloc (Nat.le_refl _) _).alloc (by simp) _).alloc (by simp;omega) _
namespace Sp
def plN (n f t:Int) (i:Nat):Nat:=(plc n f t i).toNat
def seqN (n f t:Int) (k:Nat):List Nat:=(List.range k).map (plN n f t)
theorem seqN_more (n f t:Int) (k:Nat):seqN n f t k++[plN n f t k]=seqN n f t (k+1):=by unfold seqN;rw [List.range_succ,List.map_append];rfl
theorem seqN_pre (n f t:Int) {k m:Nat} (h:k<=m):seqN n f t k <+: seqN n f t m:=by
 refine⟨(List.range (m-k)).map (fun j=>plN n f t (k+j)),?_⟩;unfold seqN
 have:m=k+(m-k):=by omega
 rw [show List.range m=List.range k++(List.range (m-k)).map (k+·) from by rw [<-List.range_add];exact congrArg List.range this,List.map_append,List.map_map]
 rfl
theorem plN_int {n f t:Int} (hm:mayB n f t=true) {k:Nat} (hk:k < n.toNat):((plN n f t k:Nat):Int)=f+(k:Int)*(t-f)/n:=by
 have h:=(plc_bd hm hk).1;obtain⟨m1,m2,m3,m4,m5⟩:=may_in hm;unfold plN;rw [Int.toNat_of_nonneg (by omega)]
 rfl
theorem seqN_ints {n f t:Int} (hm:mayB n f t=true) {k:Nat} (hk:k<=n.toNat):(seqN n f t k).map (fun x:Nat=>(x:Int))=(List.range k).map (fun i:Nat=>plc n f t i):=by
 unfold seqN;rw [List.map_map]
 apply List.map_congr_left
 intro i hi;have:=List.mem_range.1 hi;exact plN_int hm (by omega)
end Sp
structure PlBox (B1 B2 B3:Nat) (n f t:Int) (W:World):Prop where
 x1:Boxed W B1 3 (.int .i64 n)
 x2:Boxed W B2 3 (.int .i64 f)
 x3:Boxed W B3 3 (.int .i64 (t-f))
def PlZ (B1 B2 B3:Nat) (k:Nat):Prop:=k=B1∨k=B2∨k=B3
theorem PlBox.kept {B1 B2 B3:Nat} {n f t:Int} {A B:World} (h:PlBox B1 B2 B3 n f t A) (hk:Kept (PlZ B1 B2 B3) A B):PlBox B1 B2 B3 n f t B :=
 ⟨hk.boxed h.x1 (Or.inl rfl),hk.boxed h.x2 (Or.inr (Or.inl rfl)),hk.boxed h.x3 (Or.inr (Or.inr rfl))⟩
def PlJ (n f t:Int) (B1 B2 B3 m:Nat) (J:List Nat->World->Prop) (p:Value) (wr:World):Prop :=
 ∃ k:Nat,k<=m/\p=.int .i64 (k:Int)/\PlBox B1 B2 B3 n f t wr/\J (Sp.seqN n f t k) wr
theorem pl_seq (n f t:Int) (m B1 B2 B3:Nat) (w:World) (hm:Sp.mayB n f t=true) (hn:n=(m:Int)) (hB:PlBox B1 B2 B3 n f t w) :
  SeqP Tryz.prog 249 #[.pointer (some ⟨B1,0,none⟩),.pointer (some ⟨B2,0,none⟩),.pointer (some ⟨B3,0,none⟩)] (PlZ B1 B2 B3) (Sp.seqN n f t m) w:=fun l J Jx W hW hJ hJx hY h0=>by
 have hb:PlBox B1 B2 B3 n f t W:=⟨boxed_low hB.x1 hB.x1.lt hW,boxed_low hB.x2 hB.x2.lt hW,boxed_low hB.x3 hB.x3.lt hW⟩;subst hn;obtain⟨m1,m2,m3,m4,m5⟩:=Sp.may_in hm;have PN:=aq (fun (k:Nat) (hk:k < m)=>Sp.plN_int hm (show k < (m:Int).toNat by omega));have PB:=aq (fun (k:Nat) (hk:k < m)=>Sp.plc_bd hm (show k < (m:Int).toNat by omega));have HY:=aq hY;have HJ:=aq hJ;have c1:=hb.x1.cell;clear hY hJ hJx hB hm;refine callsIn_of_wp Tryz.func249 rfl trivial ?_ rfl
 simp only [Tryz.ntmps249,List.size_toArray,List.length_cons,List.length_nil,Nat.reduceAdd,Nat.reduceSub,Array.replicate_succ,Array.replicate_zero,List.push_toArray,List.append_toArray,List.nil_append,List.cons_append]
 gi_wp2
 gi_loopw [7] (PlJ m f t B1 B2 B3 m J) (fun p _=>m-(intOf p).toNat)
 case atStart=>exact⟨0,by omega,rfl,hb,h0⟩
 case round =>
  obtain⟨k,hk,rfl,hbr,hJr⟩:=hrel;have HBR:=aq hbr;have d1:=hbr.x1.cell;have d2:=hbr.x2.cell;have d3:=hbr.x3.cell;clear hbr hb c1
  by_cases hlt:k < m
  ·have hJd:J (Sp.seqN m f t k) wr.drew:=HJ.out _ wr wr.drew none hJr ⟨rfl,rfl,rfl,Nat.le_refl _,fun _ _ _=>rfl⟩ (by intro q h;cases h)
   have HBD:=aq (show PlBox B1 B2 B3 m f t wr.drew from⟨boxed_low HBR.out.x1 HBR.out.x1.lt ((Below.refl _ _).drew),boxed_low HBR.out.x2 HBR.out.x2.lt ((Below.refl _ _).drew),boxed_low HBR.out.x3 HBR.out.x3.lt ((Below.refl _ _).drew)⟩);obtain⟨fn,tmps,assign,body,hy,hR⟩:=HY.out (Sp.seqN m f t k) (Sp.plN m f t k) wr.drew hJd (by rw [Sp.seqN_more];exact Sp.seqN_pre m f t (by omega));rw [Sp.seqN_more] at hR;rw [PN.out k hlt] at hy;have hp:=PB.out k hlt;unfold Sp.plc at hp
   have k0:¬ m=0:=by omega
   have p0:0<=(k:Int)*(t-f):=Int.mul_nonneg (by omega) (by omega)
   have p1:(k:Int)*(t-f)<=65536*65536:=by
    have q1:=Int.mul_le_mul_of_nonneg_right (show (k:Int)<=65536 by omega) (show 0<=t-f by omega);have q2:=Int.mul_le_mul_of_nonneg_left (show t-f<=65536 by omega) (show (0:Int)<=65536 by omega)
    omega
   have p2:0<=(k:Int)*(t-f)/m:=Int.ediv_nonneg p0 m4;have E1:IntKind.i64.wrap ((k:Int)*(t-f))=(k:Int)*(t-f):=IntWalk.i64_in _ (by omega);have E2:((k:Int)*(t-f)).tdiv m=(k:Int)*(t-f)/m:=Int.tdiv_eq_ediv_of_nonneg p0;have E3:IntKind.i64.wrap ((k:Int)*(t-f)/m)=(k:Int)*(t-f)/m:=IntWalk.i64_in _ (by omega);have E4:IntKind.i64.wrap (f+(k:Int)*(t-f)/m)=f+(k:Int)*(t-f)/m:=IntWalk.i64_in _ (by omega);clear HY PN PB HJ HBR hJd hJr
   gi_wp2
   refine wpIn_region_any (by kernel_rfl) ?_
   change wpAnyIn _ _ _ _ _ _ _ _ _ (World.drew _)
   refine wpAnyIn_take (i:=0) (oi:=Oper.mk _ _ _ _ _ _) (v:=?v0) rfl rfl (by kernel_rfl) (by kernel_rfl) (by kernel_rfl) (fun _ _ _ h=>h) ⟨Or.inl ⟨by rfl,?hy0⟩,fun _=>rfl⟩ ?rest0
   case hy0=>(intro w;go_simp);try with_reducible rfl
   refine wpAnyIn_take (i:=2) (oi:=Oper.mk _ _ _ _ _ _) (v:=?v1) rfl rfl (by kernel_rfl) (by kernel_rfl) (by kernel_rfl) (fun _ _ _ h=>h) ⟨Or.inl ⟨by rfl,?hy1⟩,fun _=>rfl⟩ ?rest1
   case hy1=>(intro w;go_simp);try with_reducible rfl
   refine wpAnyIn_ready (rs:=[1,3,5]) (by kernel_rfl) (by simp) ?_;refine cI (fun K hK=>?_) ?_
   ·skip
    go_simp;refine hK _ _ ?_;clear hK K;refine wpAnyIn_ready (rs:=[3,5]) (by kernel_rfl) (by simp) ?_;refine cI (fun K hK=>?_) ?_
    ·skip
     go_simp;refine hK _ _ ?_;clear hK K;refine wpAnyIn_take (i:=4) (oi:=Oper.mk _ _ _ _ _ _) (v:=?v2) rfl rfl (by kernel_rfl) (by kernel_rfl) (by kernel_rfl) (fun _ _ _ h=>h) ⟨Or.inl ⟨by rfl,?hy2⟩,fun _=>rfl⟩ ?rest2
     case hy2=>(intro w;go_simp);try with_reducible rfl
     refine rdI 5 fun K hK=>?_;go_simp;refine hK _ _ ?_;clear hK K;refine wpAnyIn_take (i:=6) (oi:=Oper.mk _ _ _ _ _ _) (v:=?v3) rfl rfl (by kernel_rfl) (by kernel_rfl) (by kernel_rfl) (fun _ _ _ h=>h) ⟨Or.inl ⟨by rfl,?hy3⟩,fun _=>rfl⟩ ?rest3
     case hy3=>(intro w;go_simp);try with_reducible rfl
     refine wpAnyIn_take (i:=7) (oi:=Oper.mk _ _ _ _ _ _) (v:=?v4) rfl rfl (by kernel_rfl) (by kernel_rfl) (by kernel_rfl) (fun _ _ _ h=>h) ⟨Or.inl ⟨by rfl,?hy4⟩,fun _=>rfl⟩ ?rest4
     case hy4=>(intro w;go_simp);try with_reducible rfl
     refine rdI 8 fun K hK=>?_;go_simp;refine hR.mono ?_;rintro e W3 (⟨rfl,hJ3,hk3⟩ | ⟨rfl,hJx3⟩)
     ·go_simp
      refine hK _ _ ?_;clear hK K;refine rdI 9 fun K hK=>?_;go_simp;refine hK _ _ ?_;clear hK K;refine wpAnyIn_done (by kernel_rfl) ?_ _
      gi_wp2
      go_roundw
      case rel=>exact⟨k+1,by omega,by go_num,HBD.out.kept hk3,hJ3⟩
      case measure=>simp [intOf];omega
     ·go_simp
      refine hK _ _ ?_;clear hK K;refine rdI 9 fun K hK=>?_;go_simp;refine hK _ _ ?_;clear hK K;refine wpAnyIn_done (by kernel_rfl) ?_ _
      gi_wp2
      refine bodyPost_ret (results_none rfl _ _ _) rfl ?_;exact⟨⟨_,rfl⟩,.inr ⟨Sp.seqN m f t (k+1),Sp.seqN_pre m f t (by omega),hJx3⟩⟩
    refine cI (fun K hK=>?_) AllReadyIn.nil;go_simp;refine hK _ _ ?_;clear hK K;refine rdI 3 fun K hK=>?_;go_simp;refine hK _ _ ?_;clear hK K;refine wpAnyIn_take (i:=4) (oi:=Oper.mk _ _ _ _ _ _) (v:=?v5) rfl rfl (by kernel_rfl) (by kernel_rfl) (by kernel_rfl) (fun _ _ _ h=>h) ⟨Or.inl ⟨by rfl,?hy5⟩,fun _=>rfl⟩ ?rest5
    case hy5=>(intro w;go_simp);try with_reducible rfl
    refine wpAnyIn_take (i:=6) (oi:=Oper.mk _ _ _ _ _ _) (v:=?v6) rfl rfl (by kernel_rfl) (by kernel_rfl) (by kernel_rfl) (fun _ _ _ h=>h) ⟨Or.inl ⟨by rfl,?hy6⟩,fun _=>rfl⟩ ?rest6
    case hy6=>(intro w;go_simp);try with_reducible rfl
    refine wpAnyIn_take (i:=7) (oi:=Oper.mk _ _ _ _ _ _) (v:=?v7) rfl rfl (by kernel_rfl) (by kernel_rfl) (by kernel_rfl) (fun _ _ _ h=>h) ⟨Or.inl ⟨by rfl,?hy7⟩,fun _=>rfl⟩ ?rest7
    case hy7=>(intro w;go_simp);try with_reducible rfl
    refine rdI 8 fun K hK=>?_;go_simp;refine hR.mono ?_;rintro e W3 (⟨rfl,hJ3,hk3⟩ | ⟨rfl,hJx3⟩)
    ·go_simp
     refine hK _ _ ?_;clear hK K;refine rdI 9 fun K hK=>?_;go_simp;refine hK _ _ ?_;clear hK K;refine wpAnyIn_done (by kernel_rfl) ?_ _
     gi_wp2
     go_roundw
     case rel=>exact⟨k+1,by omega,by go_num,HBD.out.kept hk3,hJ3⟩
     case measure=>simp [intOf];omega
    ·go_simp
     refine hK _ _ ?_;clear hK K;refine rdI 9 fun K hK=>?_;go_simp;refine hK _ _ ?_;clear hK K;refine wpAnyIn_done (by kernel_rfl) ?_ _
     gi_wp2
     refine bodyPost_ret (results_none rfl _ _ _) rfl ?_;exact⟨⟨_,rfl⟩,.inr ⟨Sp.seqN m f t (k+1),Sp.seqN_pre m f t (by omega),hJx3⟩⟩
   refine cI (fun K hK=>?_) ?_
   ·skip
    go_simp;refine hK _ _ ?_;clear hK K;refine wpAnyIn_take (i:=4) (oi:=Oper.mk _ _ _ _ _ _) (v:=?v8) rfl rfl (by kernel_rfl) (by kernel_rfl) (by kernel_rfl) (fun _ _ _ h=>h) ⟨Or.inl ⟨by rfl,?hy8⟩,fun _=>rfl⟩ ?rest8
    case hy8=>(intro w;go_simp);try with_reducible rfl
    refine wpAnyIn_ready (rs:=[1,5]) (by kernel_rfl) (by simp) ?_;refine cI (fun K hK=>?_) ?_
    ·skip
     go_simp;refine hK _ _ ?_;clear hK K;refine rdI 5 fun K hK=>?_;go_simp;refine hK _ _ ?_;clear hK K;refine wpAnyIn_take (i:=6) (oi:=Oper.mk _ _ _ _ _ _) (v:=?v9) rfl rfl (by kernel_rfl) (by kernel_rfl) (by kernel_rfl) (fun _ _ _ h=>h) ⟨Or.inl ⟨by rfl,?hy9⟩,fun _=>rfl⟩ ?rest9
     case hy9=>(intro w;go_simp);try with_reducible rfl
     refine wpAnyIn_take (i:=7) (oi:=Oper.mk _ _ _ _ _ _) (v:=?v10) rfl rfl (by kernel_rfl) (by kernel_rfl) (by kernel_rfl) (fun _ _ _ h=>h) ⟨Or.inl ⟨by rfl,?hy10⟩,fun _=>rfl⟩ ?rest10
     case hy10=>(intro w;go_simp);try with_reducible rfl
     refine rdI 8 fun K hK=>?_;go_simp;refine hR.mono ?_;rintro e W3 (⟨rfl,hJ3,hk3⟩ | ⟨rfl,hJx3⟩)
     ·go_simp
      refine hK _ _ ?_;clear hK K;refine rdI 9 fun K hK=>?_;go_simp;refine hK _ _ ?_;clear hK K;refine wpAnyIn_done (by kernel_rfl) ?_ _
      gi_wp2
      go_roundw
      case rel=>exact⟨k+1,by omega,by go_num,HBD.out.kept hk3,hJ3⟩
      case measure=>simp [intOf];omega
     ·go_simp
      refine hK _ _ ?_;clear hK K;refine rdI 9 fun K hK=>?_;go_simp;refine hK _ _ ?_;clear hK K;refine wpAnyIn_done (by kernel_rfl) ?_ _
      gi_wp2
      refine bodyPost_ret (results_none rfl _ _ _) rfl ?_;exact⟨⟨_,rfl⟩,.inr ⟨Sp.seqN m f t (k+1),Sp.seqN_pre m f t (by omega),hJx3⟩⟩
    refine cI (fun K hK=>?_) AllReadyIn.nil;go_simp;refine hK _ _ ?_;clear hK K;refine wpAnyIn_take (i:=6) (oi:=Oper.mk _ _ _ _ _ _) (v:=?v11) rfl rfl (by kernel_rfl) (by kernel_rfl) (by kernel_rfl) (fun _ _ _ h=>h) ⟨Or.inl ⟨by rfl,?hy11⟩,fun _=>rfl⟩ ?rest11
    case hy11=>(intro w;go_simp);try with_reducible rfl
    refine rdI 1 fun K hK=>?_;go_simp;refine hK _ _ ?_;clear hK K;refine wpAnyIn_take (i:=7) (oi:=Oper.mk _ _ _ _ _ _) (v:=?v12) rfl rfl (by kernel_rfl) (by kernel_rfl) (by kernel_rfl) (fun _ _ _ h=>h) ⟨Or.inl ⟨by rfl,?hy12⟩,fun _=>rfl⟩ ?rest12
    case hy12=>(intro w;go_simp);try with_reducible rfl
    refine rdI 8 fun K hK=>?_;go_simp;refine hR.mono ?_;rintro e W3 (⟨rfl,hJ3,hk3⟩ | ⟨rfl,hJx3⟩)
    ·go_simp
     refine hK _ _ ?_;clear hK K;refine rdI 9 fun K hK=>?_;go_simp;refine hK _ _ ?_;clear hK K;refine wpAnyIn_done (by kernel_rfl) ?_ _
     gi_wp2
     go_roundw
     case rel=>exact⟨k+1,by omega,by go_num,HBD.out.kept hk3,hJ3⟩
     case measure=>simp [intOf];omega
    ·go_simp
     refine hK _ _ ?_;clear hK K;refine rdI 9 fun K hK=>?_;go_simp;refine hK _ _ ?_;clear hK K;refine wpAnyIn_done (by kernel_rfl) ?_ _
     gi_wp2
     refine bodyPost_ret (results_none rfl _ _ _) rfl ?_;exact⟨⟨_,rfl⟩,.inr ⟨Sp.seqN m f t (k+1),Sp.seqN_pre m f t (by omega),hJx3⟩⟩
   refine cI (fun K hK=>?_) AllReadyIn.nil;go_simp;refine hK _ _ ?_;clear hK K;refine wpAnyIn_ready (rs:=[1,3]) (by kernel_rfl) (by simp) ?_;refine cI (fun K hK=>?_) ?_
   ·skip
    go_simp;refine hK _ _ ?_;clear hK K;refine rdI 3 fun K hK=>?_;go_simp;refine hK _ _ ?_;clear hK K;refine wpAnyIn_take (i:=4) (oi:=Oper.mk _ _ _ _ _ _) (v:=?v13) rfl rfl (by kernel_rfl) (by kernel_rfl) (by kernel_rfl) (fun _ _ _ h=>h) ⟨Or.inl ⟨by rfl,?hy13⟩,fun _=>rfl⟩ ?rest13
    case hy13=>(intro w;go_simp);try with_reducible rfl
    refine wpAnyIn_take (i:=6) (oi:=Oper.mk _ _ _ _ _ _) (v:=?v14) rfl rfl (by kernel_rfl) (by kernel_rfl) (by kernel_rfl) (fun _ _ _ h=>h) ⟨Or.inl ⟨by rfl,?hy14⟩,fun _=>rfl⟩ ?rest14
    case hy14=>(intro w;go_simp);try with_reducible rfl
    refine wpAnyIn_take (i:=7) (oi:=Oper.mk _ _ _ _ _ _) (v:=?v15) rfl rfl (by kernel_rfl) (by kernel_rfl) (by kernel_rfl) (fun _ _ _ h=>h) ⟨Or.inl ⟨by rfl,?hy15⟩,fun _=>rfl⟩ ?rest15
    case hy15=>(intro w;go_simp);try with_reducible rfl
    refine rdI 8 fun K hK=>?_;go_simp;refine hR.mono ?_;rintro e W3 (⟨rfl,hJ3,hk3⟩ | ⟨rfl,hJx3⟩)
    ·go_simp
     refine hK _ _ ?_;clear hK K;refine rdI 9 fun K hK=>?_;go_simp;refine hK _ _ ?_;clear hK K;refine wpAnyIn_done (by kernel_rfl) ?_ _
     gi_wp2
     go_roundw
     case rel=>exact⟨k+1,by omega,by go_num,HBD.out.kept hk3,hJ3⟩
     case measure=>simp [intOf];omega
    ·go_simp
     refine hK _ _ ?_;clear hK K;refine rdI 9 fun K hK=>?_;go_simp;refine hK _ _ ?_;clear hK K;refine wpAnyIn_done (by kernel_rfl) ?_ _
     gi_wp2
     refine bodyPost_ret (results_none rfl _ _ _) rfl ?_;exact⟨⟨_,rfl⟩,.inr ⟨Sp.seqN m f t (k+1),Sp.seqN_pre m f t (by omega),hJx3⟩⟩
   refine cI (fun K hK=>?_) AllReadyIn.nil;go_simp;refine hK _ _ ?_;clear hK K;refine wpAnyIn_take (i:=4) (oi:=Oper.mk _ _ _ _ _ _) (v:=?v16) rfl rfl (by kernel_rfl) (by kernel_rfl) (by kernel_rfl) (fun _ _ _ h=>h) ⟨Or.inl ⟨by rfl,?hy16⟩,fun _=>rfl⟩ ?rest16
   case hy16=>(intro w;go_simp);try with_reducible rfl
   refine wpAnyIn_take (i:=6) (oi:=Oper.mk _ _ _ _ _ _) (v:=?v17) rfl rfl (by kernel_rfl) (by kernel_rfl) (by kernel_rfl) (fun _ _ _ h=>h) ⟨Or.inl ⟨by rfl,?hy17⟩,fun _=>rfl⟩ ?rest17
   case hy17=>(intro w;go_simp);try with_reducible rfl
   refine rdI 1 fun K hK=>?_;go_simp;refine hK _ _ ?_;clear hK K;refine wpAnyIn_take (i:=7) (oi:=Oper.mk _ _ _ _ _ _) (v:=?v18) rfl rfl (by kernel_rfl) (by kernel_rfl) (by kernel_rfl) (fun _ _ _ h=>h) ⟨Or.inl ⟨by rfl,?hy18⟩,fun _=>rfl⟩ ?rest18
   case hy18=>(intro w;go_simp);try with_reducible rfl
   refine rdI 8 fun K hK=>?_;go_simp;refine hR.mono ?_;rintro e W3 (⟨rfl,hJ3,hk3⟩ | ⟨rfl,hJx3⟩)
   ·go_simp
    refine hK _ _ ?_;clear hK K;refine rdI 9 fun K hK=>?_;go_simp;refine hK _ _ ?_;clear hK K;refine wpAnyIn_done (by kernel_rfl) ?_ _
    gi_wp2
    go_roundw
    case rel=>exact⟨k+1,by omega,by go_num,HBD.out.kept hk3,hJ3⟩
    case measure=>simp [intOf];omega
   ·go_simp
    refine hK _ _ ?_;clear hK K;refine rdI 9 fun K hK=>?_;go_simp;refine hK _ _ ?_;clear hK K;refine wpAnyIn_done (by kernel_rfl) ?_ _
    gi_wp2
    refine bodyPost_ret (results_none rfl _ _ _) rfl ?_;exact⟨⟨_,rfl⟩,.inr ⟨Sp.seqN m f t (k+1),Sp.seqN_pre m f t (by omega),hJx3⟩⟩
  ·obtain rfl:k=m:=by omega
   gi_wp2
   go_end0
   exact⟨⟨_,rfl⟩,.inl hJr⟩
def nvals (pre:List Nat):List Value:=pre.map fun x:Nat=>Value.int .i64 (x:Int)
structure SpI (w:World) (g cap bl n:Nat) (pre:List Nat) (W:World):Prop where
 size:n<=W.heap.size
 below:Below w.heap.size w W
 box:Boxed W bl 26 (.slice (some ⟨g,0,none⟩) pre.length cap)
 row:W.ownsRow w.heap.size 3 1 (.slice (some ⟨g,0,none⟩) pre.length cap) pre.length (nvals pre)
theorem spI_own (w:World) (g cap bl n:Nat) (hn:w.heap.size<=n):OwnFrom n (SpI w g cap bl n):=fun pre A B row hs hg hr =>
 have ho:=Over.of_grown hg hr
 ⟨Nat.le_trans hs.size hg.size,ownFrom_below (β:=Unit) (Nat.le_refl _) hn () A B row hs.below hg hr,ho.boxed hs.box,ho.ownsRow hs.row⟩
theorem sPlaces_ok (n f t:Int) (w:World) (hm:Sp.mayB n f t=true) :
  Calls Tryz.prog 236 #[.int .i64 n,.int .i64 f,.int .i64 t] w (NRow (Sp.ofs n f t) 0 w):=by
 obtain⟨m1,m2,m3,m4,m5⟩:=Sp.may_in hm;have CM:=aq (fun W=>sMayBe n f t W ⟨by omega,by omega⟩ ⟨by omega,by omega⟩ ⟨by omega,by omega⟩);rw [hm] at CM;obtain⟨k,hk⟩:∃ k:Nat,n=(k:Int):=⟨n.toNat,by omega⟩;subst hk;have CP:=aq (fun W=>sPlacesOf k f t W hm);have PS:=aq (fun B1 B2 B3 W h=>pl_seq k f t k B1 B2 B3 W hm rfl h);have EP:=aq (Sp.seqN_ints hm (k:=k) (by omega));refine calls_marks Tryz.func236 rfl ?_
 simp only [Tryz.ntmps236,List.size_toArray,List.length_cons,List.length_nil,Nat.reduceAdd,Nat.reduceSub,Array.replicate_succ,Array.replicate_zero,List.push_toArray,List.append_toArray,List.nil_append,List.cons_append]
 go_wp2_with fail
 refine (CM.out _).mono ?_;rintro e w1 ⟨rfl,rfl⟩
 go_wp2_with (at_make;refine wpList_make0 elemI rfl _ _ rfl .i64 .i64 _ k w.heap.size rfl rfl rfl (by omega) (by unfold maxLen;omega) (Nat.le_refl _) ?_;intro w2 hown2 hb2;have HO2:=aq hown2;have HB2:=aq hb2;clear hown2 hb2)
 obtain⟨w3,hw3⟩:∃ w3,w3=w2.alloc (.cells #[.slice (some ⟨w.heap.size,0,none⟩) 0 k] 26):=⟨_,rfl⟩;have X3:=aq (show Boxed w3 w2.heap.size 26 (.slice (some ⟨w.heap.size,0,none⟩) 0 k) by rw [hw3];exact Boxed.new _ _ _)
 have B23:Below w2.heap.size w2 w3:=by rw [hw3];exact (Below.refl _ _).alloc (Nat.le_refl _) _
 have B3:=aq (HB2.out.trans (B23.mono HB2.out.size));have HO3:=aq (own_below HO2.out B23);have z3:=aq (show w3.heap.size=w2.heap.size+1 by rw [hw3];simp);have zg:=aq (World.ownsRow.lt HO2.out w.heap.size rfl).2;rw [<-hw3];clear hw3 B23 HO2;refine (CP.out _).mono ?_;rintro e w4 ⟨C1,C2,C3,rfl,Y1,Y2,Y3,⟨y1,y2,y3⟩,hb⟩;have X4:=aq (boxed_low X3.out X3.out.lt hb);have HO4:=aq (own_below HO3.out hb);have B4:=aq (B3.out.trans (hb.mono B3.out.size));have HP:=aq (show PlBox C1 C2 C3 k f t w4 from⟨Y1,Y2,Y3⟩);have zh:=hb.size;have zz:=z3.out;have zg2:=zg.out;clear CM CP HB2 X3 B3 HO3 hb
 go_wp2_with fail
 refine wp_rangeP (gf:=249) (lb:=#[.pointer (some ⟨C1,0,none⟩),.pointer (some ⟨C2,0,none⟩),.pointer (some ⟨C3,0,none⟩)]) rfl (enters_of Tryz.func249 (by kernel_rfl) rfl)
  (PS.out C1 C2 C3 w4 HP.out) (fun q hq=>by rcases hq with rfl | rfl | rfl<;>first | exact Y1.lt | exact Y2.lt | exact Y3.lt)
  (SpI w w.heap.size k w2.heap.size w4.heap.size) (fun _ _ _=>False) (spI_own _ _ _ _ _ B4.out.size) (fun _=>none_ownFrom _) ⟨Nat.le_refl _,B4.out,X4.out,HO4.out⟩
  (fun x=>{ tmps:=#[.int .i64 k,.int .i64 f,.int .i64 t,undef,undef,undef,.slice none 0 0,.int .i64 0,.pointer (some ⟨w2.heap.size,0,none⟩),.int .i64 (x:Int),.int .i64 k,.int .i64 f,.int .i64 t,.bool true,.bool false,.int .i64 k,.slice (some ⟨w.heap.size,0,none⟩) 0 k,.int .i64 k,.int .i64 f,.int .i64 t,.func (Fn.func 249) #[] #[.pointer (some ⟨C1,0,none⟩),.pointer (some ⟨C2,0,none⟩),.pointer (some ⟨C3,0,none⟩)],.int .i64 (x:Int),undef,undef,undef,undef,undef],defers:=[] }) ?assign ?body ?done ?stop
 case assign =>
  intro l x W K hK
  gi_wp2
  exact hK
 case body =>
  rintro l pre x W hI hpre
  have hlen:pre.length+1<=k:=by have h9:=hpre.length_le;unfold Sp.seqN at h9;simp only [List.length_append,List.length_cons,List.length_nil,List.length_range,List.length_map] at h9;omega
  have BW:=aq hI.below;have BX:=aq hI.box;have ROW:=aq hI.row;have cl:=hI.box.cell;have zl:=hI.box.lt;have zw:=hI.below.size;have zw4:C1 < W.heap.size/\C2 < W.heap.size/\C3 < W.heap.size:=⟨Nat.lt_of_lt_of_le Y1.lt hI.size,Nat.lt_of_lt_of_le Y2.lt hI.size,Nat.lt_of_lt_of_le Y3.lt hI.size⟩;have zw5:=hI.size;obtain⟨i0,hi0,hz0,hz1,hz2⟩:=elemI.info;clear hI hpre
  gi_wp2_with (gi_at_builtin;refine wpListIn_append_fits _ rfl (.tmp 22) (.tmp 24) 26 rfl w.heap.size 3 i0 1 elemI.und hi0 hz1 w.heap.size pre.length k (nvals pre) rfl (ROW.out.alloc _) ⟨W.heap.size,0,none⟩ 1 1 [.int .i64 (x:Int)] rfl rfl (cell_one_new _ _ _) (by intro u hu;simp at hu;subst hu;rfl) hlen ?_;intro w5 hown5 hg5;have R5:=aq hown5;have G5:=aq hg5;have X5:=aq (show Boxed w5 w2.heap.size 26 _ from (hg5.block w2.heap.size (by simp;omega) (by simp;omega)).trans (BX.out.alloc _));clear hown5 hg5;have cl5:=X5.out.cell;have fz5:=X5.out.frozen;clear cl)
  have hg5:(W.alloc (.cells #[.int .i64 (x:Int)] 3)).grownBy w5 (Value.slice (some ⟨w.heap.size,0,none⟩) pre.length k).ownBlock:=G5.out;have sz5:=G5.out.size
  simp at sz5
  have KO:KeepsOthers W w5:=(KeepsOthers.alloc _ _).trans (own_keeps (ROW.out.alloc _) hg5)
  have KZ:Kept (PlZ C1 C2 C3) W w5:=⟨by omega,fun q hq=>by
   have q1:q≠w.heap.size/\q < W.heap.size:=by
    have:=zw4
    rcases hq with rfl | rfl | rfl
    ·exact⟨by omega,by omega⟩
    ·exact⟨by omega,by omega⟩
    ·exact⟨by omega,by omega⟩
   exact (G5.out.block q (by simp;omega) (by simpa using q1.1)).trans (Below.heap_alloc _ _ _ (by omega))⟩
  have B5:=BW.out.trans (((Below.refl _ _).alloc zw _).grown hg5 (by simp;omega) (fun g hg=>(World.ownsRow.lt ROW.out g hg).1));refine⟨KO.trans (KeepsOthers.setCell _ _ _),KZ.setCell ?_ _,?_,?_,?_,?_⟩
  ·rintro (h | h | h)
   ·change w2.heap.size=C1 at h;omega
   ·change w2.heap.size=C2 at h;omega
   ·change w2.heap.size=C3 at h;omega
  ·rw [World.size_setCell];omega
  ·exact B5.setCell (by simp;omega) _
  ·rw [List.length_append]
   exact X5.out.set _
  ·rw [List.length_append,show nvals (pre++[x])=nvals pre++[.int .i64 (x:Int)] by unfold nvals;rw [List.map_append];rfl]
   exact row_off R5.out X5.out (by decide) _
 case done =>
  rintro D W hD hI hKD;have HI:=aq hI.below;have R:=aq hI.row;have hKD2:=aq hKD;have hDlt:D < W.heap.size:=(Array.getElem?_eq_some_iff.1 hKD).1;have d0:=hI.box.cell;have hD0:w.heap.size<=D:=Nat.le_trans B4.out.size hD;clear hI hKD;go_wp2;refine leaves_one hKD2.out ?_;have ov:=Over.of_grown (n:=0) (grownBy_putObj' W D (.deferred none)) (fun r e=>by cases e;exact⟨Nat.zero_le _,_,hKD2.out,rfl⟩);refine⟨_,results_tmp2 rfl _ _ _,⟨_,rfl,?_,?_⟩⟩
  ·have h9:=ov.ownsRow R.out
   have e1:nvals (Sp.seqN k f t k)=(Sp.ofs k f t).map (Value.int .i64):=by
    unfold nvals Sp.ofs;rw [Int.toNat_natCast,<-EP.out,List.map_map]
    rfl
   have e2:(Sp.ofs k f t).length=(Sp.seqN k f t k).length:=by unfold Sp.ofs Sp.seqN;simp
   rw [e1] at h9;rw [e2];exact h9
  ·exact HI.out.trans ((Below.refl w.heap.size W).grown (grownBy_putObj' W D _) (by have:=HI.out.size;omega) (fun k e=>by cases e;omega))
 case stop =>
  rintro D c pre W hD hSp hF hK;exact hF.elim
theorem sPlaces (n f t:Int) (w:World) (hn:-9223372036854775808<=n/\n<=9223372036854775807) (hf:-9223372036854775808<=f/\f<=9223372036854775807) (ht:-9223372036854775808<=t/\t<=9223372036854775807) :
  Calls Tryz.prog 236 #[.int .i64 n,.int .i64 f,.int .i64 t] w (NRow (Sp.placesV n f t) (Sp.placesE n f t) w):=by
 cases hm:Sp.mayB n f t
 ·have CM:=aq (fun W=>sMayBe n f t W hn hf ht)
  rw [hm] at CM;rw [(Sp.may_no hm).1,(Sp.may_no hm).2];clear hm
  go_enter Tryz.func236,Tryz.ntmps236
  go_wp2_with fail
  refine (CM.out _).mono ?_;rintro e w1 ⟨rfl,rfl⟩;go_wp2;go_ret2;exact⟨_,rfl,World.ownsRow_nil _ _ _ _,Below.refl _ _⟩
 ·rw [(Sp.may_yes hm).1,(Sp.may_yes hm).2]
  exact sPlaces_ok n f t w hm
end Go.Proofs.YtpeckljoannolaaGreatDoor
