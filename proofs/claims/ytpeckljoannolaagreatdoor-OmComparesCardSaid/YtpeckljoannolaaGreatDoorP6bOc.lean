/- What Path of package win returns. -/
import Derived.OrdersHeld
import Derived.OrdersIn
import Derived.RangeFuncCalls
import Derived.Deep.RegionHeld
import Derived.Test.YtpeckljoannolaaGreatDoorP6aOc
import Derived.Test.YtpeckljoannolaaGreatDoorP07Oc
import Derived.Test.YtpeckljoannolaaGreatDoorTkOc
import Derived.Laws.StructEq
set_option linter.unusedVariables false
set_option linter.unusedSimpArgs false
set_option maxHeartbeats 16000000
set_option maxRecDepth 100000
namespace Go.Proofs.YtpeckljoannolaaGreatDoor
def noDefer (ops:Array Oper):Bool:=ops.all fun o=>match o.op with
 | .defer _=>false
 | _=>true
theorem noDefer_at {ops:Array Oper} (h:noDefer ops=true) {i:Nat} {o:Oper} (ho:ops[i]?=some o):∀ c,o.op≠.defer c:=by
 intro c hc;obtain⟨hi,he⟩:=Array.getElem?_eq_some_iff.1 ho;have:=Array.all_eq_true.1 h i hi;rw [he,hc] at this;exact absurd this (by simp)
theorem op_inRound {n l:Nat} {P:Program} {ops:Array Oper} {Q:Exit->Act->World->Prop} (hd:noDefer ops=true) (hQ:¬ LetsOut Q) {i:Nat} {K:Act->World->Prop} {a:Act} {w:World}
  (h:wpOp P ops Q i K a w):wpOpIn (Fence.wide.inRound l) n P ops Q i K a w:=by
 unfold wpOp at h;unfold wpOpIn
 cases ho:ops[i]? with
 | none=>rw [ho] at h;exact h
 | some o =>
  rw [ho] at h
  dsimp only at h ⊢
  split
  ·rename_i hw
   rw [if_pos hw] at h
   rcases h with h | ⟨_,hl⟩
   ·refine⟨fun _ _=>trivial,?_⟩
    rw [Oper.semAt_eq _ _ _ (noDefer_at hd ho)];unfold Oper.wp at h;generalize (execOp a.eval o).run P w=r at *
    cases r with
    | ok x w' =>
     cases x<;>simp only [Oper.upon,Oper.uponIn] at h ⊢
     case value v=>exact h
     case skip=>exact h
     case defer d=>exact h
     case enter f args =>
      refine⟨fun hc=>(by cases hc),?_⟩;refine CallsIn.inRound l (callsIn_wide.2 (Calls.mono h fun e w'' he=>?_))
      cases e<;>exact he
     case row row args =>
      exact⟨fun hc=>(by cases hc),fun c cs _=>let ⟨v,w'',r,s⟩:=h c cs;⟨v,w'',r,stepsIn_wide.2 s⟩⟩
    | halt x w' =>
     cases x<;>simp only [Oper.upon,Oper.uponIn] at h ⊢
     case panic u=>exact h
   ·exact absurd hl hQ
  ·rename_i hw
   rw [if_neg hw] at h;exact⟨fun _ _=>trivial,h⟩
theorem any_inRound {n l:Nat} {P:Program} {md:Region.Mode} {ops:Array Oper} {Q:Exit->Act->World->Prop} (hd:noDefer ops=true) (hQ:¬ LetsOut Q) :
  ∀ (fuel:Nat) (listed:Array Bool) (a:Act) (w:World),wpAny P md ops Q fuel listed a w->wpAnyIn (Fence.wide.inRound l) n P md ops Q fuel listed a w
 | 0,_,_,_,h=>h
 | fuel+1,_,_,_,h=>⟨h.1,fun i hi=>op_inRound hd hQ (wpOp_mono (fun a' w' h'=>any_inRound hd hQ fuel _ a' w' h') (h.2 i hi))⟩
theorem wpIn_round_held {n l:Nat} {P:Program} {ops:Array Oper} {Q:Exit->Act->World->Prop} {S:World->Prop} {id:Nat} {a:Act} {w:World} (hm:P.follows .mixedOrders=true) (hd:noDefer ops=true) (hQ:¬ LetsOut Q) (hS:S w.drew)
  (h:S w.drew->wpAnyH P .any ops Q S ops.size (Array.replicate ops.size false) a w.drew):(Code.region id ops true).wpIn (Fence.wide.inRound l) n P Q a w :=
 wpIn_region_any hm (any_inRound hd hQ _ _ _ _ (wpAny_of_held _ _ _ _ (h hS)))
end Go.Proofs.YtpeckljoannolaaGreatDoor
namespace Go.Proofs.YtpeckljoannolaaGreatDoor
open Go.RowKit Go.Shelf
attribute [local go_sem] Oper.semAt_some
def HtPost (x:Int) (w:World) (e:Ending) (w':World):Prop :=
 ∃ B,e=.returned (.func (.func 230) #[] #[.pointer (some ⟨B,0,none⟩)])/\Boxed w' B 3 (.int .i64 x)/\w.heap.size<=B/\Below w.heap.size w w'
theorem vHeights (x:Int) (w:World):Calls Tryz.prog 205 #[.int .i64 x] w (HtPost x w):=by
 go_enter Tryz.func205,Tryz.ntmps205
 go_wp2;go_ret;exact⟨_,rfl,Boxed.new w _ _,Nat.le_refl _,(Below.refl _ _).alloc (Nat.le_refl _) _⟩
def HtJ (n:Nat) (J:List Nat->World->Prop) (p:Value) (wr:World):Prop :=
 ∃ k:Nat,k<=n+1/\p=.int .i64 (k:Int)/\J (List.range k) wr
theorem range_pre {k n:Nat} (h:k<=n):List.range k <+: List.range n:=by
 refine⟨(List.range (n-k)).map (k+·),?_⟩;rw [<-List.range_add,show k+(n-k)=n from by omega]
theorem ht_seq (Z:Nat->Prop) (n B:Nat) (w:World) (hB:Boxed w B 3 (.int .i64 (n:Int))) (hn:n<=1000) :
  SeqP Tryz.prog 230 #[.pointer (some ⟨B,0,none⟩)] Z (List.range (n+1)) w:=fun l J Jx W hW hJ hJx hY h0=>by
 have hc:=(boxed_low hB hB.lt hW).cell;have HY:=aq hY;clear hY hJ hJx hB;refine callsIn_of_wp Tryz.func230 rfl trivial ?_ rfl
 simp only [Tryz.ntmps230,List.size_toArray,List.length_cons,List.length_nil,Nat.reduceAdd,Nat.reduceSub,Array.replicate_succ,Array.replicate_zero,List.push_toArray,List.append_toArray,List.nil_append,List.cons_append]
 gi_wp2
 gi_loopw [6] (HtJ n J) (fun p _=>n+1-(intOf p).toNat)
 case atStart=>exact⟨0,by omega,rfl,h0⟩
 case round =>
  obtain⟨k,hk,rfl,hJr⟩:=hrel
  by_cases hlt:k < n+1
  ·obtain⟨fn,tmps,assign,body,hy,hR⟩:=HY.out (List.range k) k wr hJr (by rw [<-List.range_succ];exact range_pre (by omega))
   rw [<-List.range_succ] at hR
   gi_wp2
   refine hR.mono ?_;rintro e W3 (⟨rfl,hJ3,hk3⟩ | ⟨rfl,hJx3⟩)
   ·gi_wp2
    go_roundw
    case rel=>exact⟨k+1,by omega,by go_num,hJ3⟩
    case measure=>simp [intOf];omega
   ·gi_wp2
    refine bodyPost_ret (results_none rfl _ _ _) rfl ?_;exact⟨⟨_,rfl⟩,.inr ⟨List.range (k+1),range_pre (by omega),hJx3⟩⟩
  ·obtain rfl:k=n+1:=by omega
   gi_wp2
   go_end0
   exact⟨⟨_,rfl⟩,.inl hJr⟩
end Go.Proofs.YtpeckljoannolaaGreatDoor
namespace Go.Proofs.YtpeckljoannolaaGreatDoor
open Go.RowKit Go.Shelf
attribute [local go_sem] Oper.semAt_some
namespace Wn
theorem path_no {g s a:Int} (hk:askB g s 0 a=false):path g s a=[]/\askE g s 0 a=2:=by unfold path askE;rw [hk];exact⟨rfl,rfl⟩
theorem ask_path {g s a:Int} (hf:Sl.fitsB g s=true):askB g s 0 a=areB s [a]:=by
 rw [ask_are hf]
 have:inE 0 (high g s)=true:=by
  have:=Fr.lg_nonneg (s/g);unfold inE high
  simp
  exact this
 rw [this,Bool.true_and]
def pathL (g a:Int) (pre:List Nat):List (Int×Int):=pre.map fun k:Nat=>(lo g k a,hi g k a)
end Wn
theorem keeps_of_belowW {w w':World} (h:Below w.heap.size w w'):KeepsOthers w w':=⟨h.size,fun k o hk _=>(h.block k (Array.getElem?_eq_some_iff.1 hk).1).trans hk⟩
structure PathI (g a:Int) (w:World) (b3 b5 bl:Nat) (pre:List Nat) (W:World):Prop where
 seg:Boxed W b3 3 (.int .i64 g)
 slot:Boxed W b5 3 (.int .i64 a)
 below:Below w.heap.size w W
 row:∃ v,Boxed W bl 191 v/\W.ownsRow w.heap.size 195 2 v pre.length (pcells (Wn.pathL g a pre))
theorem pathI_own (g a:Int) (w:World) (b3 b5 bl n:Nat) (hn:w.heap.size<=n):OwnFrom n (PathI g a w b3 b5 bl):=fun pre A B row hs hg hr =>
 have ho:=Over.of_grown hg hr
 ⟨ho.boxed hs.seg,ho.boxed hs.slot,ownFrom_below (β:=Unit) (Nat.le_refl _) hn () A B row hs.below hg hr,by
  obtain⟨v,h1,h2⟩:=hs.row
  exact⟨v,ho.boxed h1,ho.ownsRow h2⟩⟩
theorem vPath_ok (g s a:Int) (w:World) (hg:g<=9223372036854775807) (hs:-9223372036854775808<=s/\s<=9223372036854775807) (hk:Wn.askB g s 0 a=true) :
  Calls Tryz.prog 167 #[.int .i64 g,.int .i64 s,.int .i64 a] w (WRow (Wn.path g s a) 0 w):=by
 have CH:=aq (fun W=>vHigh g s W hg hs);obtain⟨hf,_,_,a0,a1⟩:=Wn.ask_yes hk;rw [(Wn.high_yes hf).1,(Wn.high_yes hf).2] at CH;obtain⟨H,f⟩:=Wn.fit_of hf;rw [f.hH] at CH;have EP:=aq (show Wn.path g s a=Wn.pathL g a (List.range (H+1)) by unfold Wn.path;rw [hk,if_pos rfl,f.hH,Int.toNat_natCast];rfl);have h14:=f.h14;have s1:=f.s1;have sg:=f.seg;have g1:=f.g1;have g2:=f.g2;have hA:=hk;rw [Wn.ask_path hf] at hA;have CA:=aq (fun W=>vAre s (some ⟨W.heap.size,0,none⟩) 1 [a] (W.alloc (.cells #[.int .i64 a] 3)) (lst_one a W _) (by simp) (by omega) (by omega));rw [hA] at CA;have CV:=aq (fun (k:Nat) W (hk:k<=H)=>vWindow g k a W g1 g2 (by omega) (by omega) a0 (by omega));have CT:=aq (fun W=>vHeights (H:Int) W);clear hA hk hf f;refine calls_marks Tryz.func167 rfl ?_
 simp only [Tryz.ntmps167,List.size_toArray,List.length_cons,List.length_nil,Nat.reduceAdd,Nat.reduceSub,Array.replicate_succ,Array.replicate_zero,List.push_toArray,List.append_toArray,List.nil_append,List.cons_append]
 obtain⟨w0,hw0⟩:∃ w0,w0=(w.alloc (.cells #[.int .i64 g] 3)).alloc (.cells #[.int .i64 a] 3):=⟨_,rfl⟩;have X3:=aq (show Boxed w0 w.heap.size 3 (.int .i64 g) by rw [hw0];exact (Boxed.new w _ _).alloc _);have X5:=aq (show Boxed w0 (w.heap.size+1) 3 (.int .i64 a) by rw [hw0];have:=Boxed.new (w.alloc (.cells #[.int .i64 g] 3)) 3 (.int .i64 a);rwa [World.size_alloc] at this);have B0:=aq (show Below w.heap.size w w0 by rw [hw0];exact ((Below.refl _ _).alloc (Nat.le_refl _) _).alloc (by simp) _);have z0:=aq (show w0.heap.size=w.heap.size+2 by rw [hw0];simp)
 go_wp2_with fail
 rw [<-hw0];clear hw0;refine (CH.out _).mono ?_;rintro e w1 ⟨rfl,rfl⟩;have c3:=X3.out.cell;have c5:=X5.out.cell
 go_wp2_with fail
 refine (CA.out _).mono ?_;rintro e w1 ⟨rfl,rfl⟩;have B1:=aq (B0.out.alloc (by have:=z0.out;omega) (.cells #[.int .i64 a] 3));have X3b:=aq (X3.out.alloc (.cells #[.int .i64 a] 3));have X5b:=aq (X5.out.alloc (.cells #[.int .i64 a] 3));have z1:=aq (show (w0.alloc (.cells #[.int .i64 a] 3)).heap.size=w.heap.size+3 by have:=z0.out;simp;omega);obtain⟨w1,hw1⟩:∃ w1,w1=w0.alloc (.cells #[.int .i64 a] 3):=⟨_,rfl⟩;rw [<-hw1] at B1 X3b X5b z1 ⊢;clear hw1 X3 X5 B0 z0 c3 c5 CA CH
 go_wp2_with (at_make;refine wpList_make0 elemA rfl _ _ rfl .i64 .i64 _ (H+1) w1.heap.size rfl rfl (by omega) (by omega) (by unfold maxLen;omega) (Nat.le_refl _) ?_;intro w2 hown2 hb2;have HO2:=aq hown2;have HB2:=aq hb2;clear hown2 hb2)
 obtain⟨w3,hw3⟩:∃ w3,w3=w2.alloc (.cells #[.slice (some ⟨w1.heap.size,0,none⟩) 0 (H+1)] 191):=⟨_,rfl⟩;have X10:=aq (show Boxed w3 w2.heap.size 191 (.slice (some ⟨w1.heap.size,0,none⟩) 0 (H+1)) by rw [hw3];exact Boxed.new _ _ _)
 have B23:Below w2.heap.size w2 w3:=by rw [hw3];exact (Below.refl _ _).alloc (Nat.le_refl _) _
 have B3:=aq ((B1.out.trans (HB2.out.mono B1.out.size)).trans (B23.mono (Nat.le_trans B1.out.size HB2.out.size)));have X3c:=aq (boxed_low (boxed_low X3b.out X3b.out.lt HB2.out) (Nat.lt_of_lt_of_le X3b.out.lt HB2.out.size) B23);have X5c:=aq (boxed_low (boxed_low X5b.out X5b.out.lt HB2.out) (Nat.lt_of_lt_of_le X5b.out.lt HB2.out.size) B23);have HO3:=aq (own_lower (own_below HO2.out B23) B1.out.size);rw [<-hw3]
 have zl:w.heap.size+3<=w2.heap.size:=by have:=HB2.out.size;have:=z1.out;omega
 clear hw3 X3b X5b B1 HO2 HB2 B23;refine (CT.out _).mono ?_;rintro e w4 ⟨B,rfl,hB,hBs,hb⟩;have X3d:=aq (boxed_low X3c.out X3c.out.lt hb);have X5d:=aq (boxed_low X5c.out X5c.out.lt hb);have Xd:=aq (boxed_low X10.out X10.out.lt hb);have HO4:=aq (own_below HO3.out hb);have B4:=aq (B3.out.trans (hb.mono B3.out.size));have HB:=aq hB;clear hB hb X3c X5c X10 HO3 B3 CT
 go_wp2_with fail
 refine wp_rangeP (gf:=230) (lb:=#[.pointer (some ⟨B,0,none⟩)]) rfl (enters_of Tryz.func230 (by kernel_rfl) rfl)
  (ht_seq (fun _=>False) H B w4 HB.out (by omega)) (fun k h=>h.elim)
  (PathI g a w w.heap.size (w.heap.size+1) w2.heap.size) (fun _ _ _=>False) (pathI_own _ _ _ _ _ _ _ B4.out.size) (fun _=>none_ownFrom _) ⟨X3d.out,X5d.out,B4.out,_,Xd.out,HO4.out⟩
  (fun k=>{ tmps:=#[.int .i64 g,.int .i64 s,.int .i64 a,.pointer (some ⟨w.heap.size,0,none⟩),undef,.pointer (some ⟨w.heap.size+1,0,none⟩),.slice none 0 0,.int .i64 0,.int .i64 H,.int .i64 0,.pointer (some ⟨w2.heap.size,0,none⟩),.int .i64 (k:Int),.tuple #[.int .i64 H,.int .i64 0],.int .i64 g,.int .i64 s,.tuple #[.int .i64 H,.int .i64 0],.int .i64 H,.int .i64 0,.int .i64 0,.bool false,.bool false,.int .i64 s,.int .i64 a,.slice (some ⟨w0.heap.size,0,none⟩) 1 1,.bool true,.bool false,.bool false,.int .i64 H,.int .i64 ((H:Int)+1),.slice (some ⟨w1.heap.size,0,none⟩) 0 (H+1),.int .i64 H,.func (Fn.func 230) #[] #[.pointer (some ⟨B,0,none⟩)],.int .i64 (k:Int),undef,undef,undef,undef,undef,undef,undef,undef],defers:=[] }) ?assign ?body ?done ?stop
 case assign =>
  intro l k W K hK
  gi_wp2
  exact hK
 case body =>
  rintro l pre x W hI hpre;have hxm:x∈List.range (H+1):=hpre.subset (by simp)
  have hxH:x<=H:=by have:=List.mem_range.1 hxm;omega
  have hlen:pre.length+1<=65536:=by have h9:=hpre.length_le;simp only [List.length_append,List.length_cons,List.length_nil,List.length_range] at h9;omega
  obtain⟨v,hbl,hrow⟩:=hI.row;have dr:=(Below.refl W.heap.size W).drew;have Y3:=boxed_low hI.seg hI.seg.lt dr;have Y5:=boxed_low hI.slot hI.slot.lt dr;have YL:=boxed_low hbl hbl.lt dr;have ROW:=own_below hrow dr;have BW:=hI.below.trans ((Below.refl w.heap.size W).drew);have KO:=keeps_of_belowW dr;have KZ:=Kept.of_below (Z:=fun _=>False) dr (fun k hk=>hk.elim);have CV1:=aq (fun W=>CV.out x W hxH);clear hI hpre hxm hbl hrow dr;obtain⟨lo,hlo⟩:∃ lo,Wn.lo g x a=lo:=⟨_,rfl⟩;obtain⟨hi,hhi⟩:∃ hi,Wn.hi g x a=hi:=⟨_,rfl⟩;rw [hlo,hhi] at CV1;have HLO:=aq hlo;have HHI:=aq hhi;clear hlo hhi;have c3:=Y3.cell;have c5:=Y5.cell;have cl:=YL.cell;have f3:=Y3.frozen
  gi_wp2
  refine wpIn_region_any (by kernel_rfl) ?_
  try (change wpAnyIn _ _ _ _ _ _ _ _ _ (World.drew _))
  repeat' first
   | refine wpAnyIn_ready (rs:=[0]) (by decide +kernel) (by simp) ?_
   | refine wpAnyIn_ready (rs:=[0,1]) (by decide +kernel) (by simp) ?_
   | refine wpAnyIn_ready (rs:=[0,1,2]) (by decide +kernel) (by simp) ?_
   | refine wpAnyIn_ready (rs:=[0,1,2,3]) (by decide +kernel) (by simp) ?_
   | refine wpAnyIn_ready (rs:=[0,1,3]) (by decide +kernel) (by simp) ?_
   | refine wpAnyIn_ready (rs:=[0,2]) (by decide +kernel) (by simp) ?_
   | refine wpAnyIn_ready (rs:=[0,2,3]) (by decide +kernel) (by simp) ?_
   | refine wpAnyIn_ready (rs:=[0,3]) (by decide +kernel) (by simp) ?_
   | refine wpAnyIn_ready (rs:=[0,4]) (by decide +kernel) (by simp) ?_
   | refine wpAnyIn_ready (rs:=[0,5]) (by decide +kernel) (by simp) ?_
   | refine wpAnyIn_ready (rs:=[1]) (by decide +kernel) (by simp) ?_
   | refine wpAnyIn_ready (rs:=[1,2]) (by decide +kernel) (by simp) ?_
   | refine wpAnyIn_ready (rs:=[1,2,3]) (by decide +kernel) (by simp) ?_
   | refine wpAnyIn_ready (rs:=[1,3]) (by decide +kernel) (by simp) ?_
   | refine wpAnyIn_ready (rs:=[2]) (by decide +kernel) (by simp) ?_
   | refine wpAnyIn_ready (rs:=[2,3]) (by decide +kernel) (by simp) ?_
   | refine wpAnyIn_ready (rs:=[3]) (by decide +kernel) (by simp) ?_
   | refine wpAnyIn_ready (rs:=[4]) (by decide +kernel) (by simp) ?_
   | refine wpAnyIn_ready (rs:=[5]) (by decide +kernel) (by simp) ?_
   | refine cI (fun K hK=>?_) ?_
   | exact AllReadyIn.nil
   | (go_simp
      refine⟨trivial,?_⟩;refine ((callsIn_wide.2 (CV1.out _)).inRound l).mono ?_;rintro e W2 ⟨rfl,hb⟩;replace KO:=KO.trans (keeps_of_belowW hb);replace KZ:=KZ.trans (Kept.of_below hb (fun k hk=>hk.elim));replace Y3:=boxed_low Y3 Y3.lt hb;replace Y5:=boxed_low Y5 Y5.lt hb;replace YL:=boxed_low YL YL.lt hb;replace ROW:=own_below ROW hb;replace BW:=BW.trans (hb.mono BW.size);clear hb c3 c5 cl f3;have cl:=YL.cell;have cla:=fun o=>(boxed_low YL YL.lt ((Below.refl W2.heap.size W2).alloc (Nat.le_refl _) o)).cell
      try (go_simp)
      refine hK _ _ ?_
      clear hK K)
   | (go_simp
      refine hK _ _ ?_
      clear hK K)
  all_goals
   refine rdI 6 fun K hK=>?_
   refine step_moreBx elemA rfl (.tmp 33) (.tmp 38) rfl W2 195 [.int .i64 lo,.int .i64 hi] rfl rfl w.heap.size pre.length v _ rfl rfl ROW (by intro u hu;simp at hu;rcases hu with rfl | rfl<;>rfl) BW.size (by unfold maxLen;omega) (by omega) ?_
   clear ROW;intro v2 W3 ROW hb ko hbx;obtain⟨A3,n3,rfl,_⟩:=own_cells ROW;replace KO:=KO.trans ko;replace KZ:=KZ.trans (Kept.of_below hb (fun k hk=>hk.elim));replace BW:=BW.trans hb;replace Y3:=hbx _ _ _ (by decide) Y3;replace Y5:=hbx _ _ _ (by decide) Y5;replace YL:=hbx _ _ _ (by decide) YL;clear hb ko hbx cl;have cl:=YL.cell;have f3:=YL.frozen;refine hK _ _ ?_;clear hK K;refine rdI 7 fun K hK=>?_;go_simp;refine hK _ _ ?_;clear hK K;refine wpAnyIn_done (by kernel_rfl) ?_ _;refine⟨KO.trans (KeepsOthers.setCell _ _ _),KZ.setCell (by simp) _,?_,?_,?_,?_⟩
   ·exact Y3.other (by omega) _
   ·exact Y5.other (by omega) _
   ·exact BW.setCell (by simp;omega) _
   ·refine⟨_,YL.set _,?_⟩
    have e:(pre++[x]).length=pre.length+1:=by simp
    have e2:pcells (Wn.pathL g a (pre++[x]))=pcells (Wn.pathL g a pre)++[.int .i64 lo,.int .i64 hi]:=by unfold Wn.pathL;rw [List.map_append,pcells_append];show pcells _++[.int .i64 (Wn.lo g x a),.int .i64 (Wn.hi g x a)]=_;rw [HLO.out,HHI.out]
    rw [e,e2];exact row_off ROW YL (by decide) _
 case done =>
  rintro D W hD hI hKD;obtain⟨v,hbl,hrow⟩:=hI.row;have HI:=aq hI.below;have R:=aq hrow;have hKD2:=aq hKD;have hDlt:D < W.heap.size:=(Array.getElem?_eq_some_iff.1 hKD).1;have d0:=hbl.cell;have hD0:w.heap.size<=D:=Nat.le_trans B4.out.size hD;clear hI hrow hKD;go_wp2;refine leaves_one hKD2.out ?_;have ov:=Over.of_grown (n:=0) (grownBy_putObj' W D (.deferred none)) (fun r e=>by cases e;exact⟨Nat.zero_le _,_,hKD2.out,rfl⟩);refine⟨_,results_tmp2 rfl _ _ _,⟨_,rfl,?_,?_⟩⟩
  ·have h9:=ov.ownsRow R.out
   rw [EP.out]
   have e:(Wn.pathL g a (List.range (H+1))).length=(List.range (H+1)).length:=by unfold Wn.pathL;simp
   rw [e];exact h9
  ·exact HI.out.trans ((Below.refl w.heap.size W).grown (grownBy_putObj' W D _) (by have:=HI.out.size;omega) (fun k e=>by cases e;omega))
 case stop =>
  rintro D c pre W hD hSp hF hK;exact hF.elim
end Go.Proofs.YtpeckljoannolaaGreatDoor
namespace Go.Proofs.YtpeckljoannolaaGreatDoor
open Go.RowKit Go.Shelf
attribute [local go_sem] Oper.semAt_some
theorem vPath (g s a:Int) (w:World) (hg:g<=9223372036854775807) (hs:-9223372036854775808<=s/\s<=9223372036854775807) :
  Calls Tryz.prog 167 #[.int .i64 g,.int .i64 s,.int .i64 a] w (WRow (Wn.path g s a) (Wn.askE g s 0 a) w):=by
 cases hk:Wn.askB g s 0 a
 ·have CH:=aq (fun W=>vHigh g s W hg hs)
  have E:=aq (Wn.path_no hk);rw [E.out.1,E.out.2];obtain⟨w0,hw0⟩:∃ w0,w0=(w.alloc (.cells #[.int .i64 g] 3)).alloc (.cells #[.int .i64 a] 3):=⟨_,rfl⟩;have X3:=aq (show Boxed w0 w.heap.size 3 (.int .i64 g) by rw [hw0];exact (Boxed.new w _ _).alloc _);have X5:=aq (show Boxed w0 (w.heap.size+1) 3 (.int .i64 a) by rw [hw0];have:=Boxed.new (w.alloc (.cells #[.int .i64 g] 3)) 3 (.int .i64 a);rwa [World.size_alloc] at this);have B0:=aq (show Below w.heap.size w w0 by rw [hw0];exact ((Below.refl _ _).alloc (Nat.le_refl _) _).alloc (by simp) _)
  cases hf:Sl.fitsB g s
  ·rw [(Wn.high_no hf).1,(Wn.high_no hf).2] at CH
   clear hf hk;refine calls_marks Tryz.func167 rfl ?_
   simp only [Tryz.ntmps167,List.size_toArray,List.length_cons,List.length_nil,Nat.reduceAdd,Nat.reduceSub,Array.replicate_succ,Array.replicate_zero,List.push_toArray,List.append_toArray,List.nil_append,List.cons_append]
   go_wp2_with fail
   rw [<-hw0];clear hw0;refine (CH.out _).mono ?_;rintro e w1 ⟨rfl,rfl⟩;go_wp2;refine⟨_,results_tmp2 rfl _ _ _,?_⟩;exact⟨_,rfl,World.ownsRow_nil _ _ _ _,B0.out⟩
  ·rw [(Wn.high_yes hf).1,(Wn.high_yes hf).2] at CH
   obtain⟨H,f⟩:=Wn.fit_of hf;rw [f.hH] at CH;have s1:=f.s1;have sg:=f.seg;have g1:=f.g1;have hA:=hk;rw [Wn.ask_path hf] at hA;have CA:=aq (fun W=>vAre s (some ⟨W.heap.size,0,none⟩) 1 [a] (W.alloc (.cells #[.int .i64 a] 3)) (lst_one a W _) (by simp) (by omega) (by omega));rw [hA] at CA;have z0:=aq (show w0.heap.size=w.heap.size+2 by rw [hw0];simp);clear hA hf hk f;refine calls_marks Tryz.func167 rfl ?_
   simp only [Tryz.ntmps167,List.size_toArray,List.length_cons,List.length_nil,Nat.reduceAdd,Nat.reduceSub,Array.replicate_succ,Array.replicate_zero,List.push_toArray,List.append_toArray,List.nil_append,List.cons_append]
   go_wp2_with fail
   rw [<-hw0];clear hw0;refine (CH.out _).mono ?_;rintro e w1 ⟨rfl,rfl⟩;have c3:=X3.out.cell;have c5:=X5.out.cell
   go_wp2_with fail
   refine (CA.out _).mono ?_;rintro e w1 ⟨rfl,rfl⟩;go_wp2;refine⟨_,results_tmp2 rfl _ _ _,?_⟩;exact⟨_,rfl,World.ownsRow_nil _ _ _ _,B0.out.alloc (by have:=z0.out;omega) _⟩
 ·have e:Wn.askE g s 0 a=0:=by unfold Wn.askE;rw [hk];rfl
  rw [e];exact vPath_ok g s a w hg hs hk
end Go.Proofs.YtpeckljoannolaaGreatDoor
