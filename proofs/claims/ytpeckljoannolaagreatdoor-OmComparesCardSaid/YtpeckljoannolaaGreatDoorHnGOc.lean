/- What package handle's give returns: the table in which one number more is out, and its handle. -/
import Derived.Test.YtpeckljoannolaaGreatDoorTkOc
import Derived.Test.YtpeckljoannolaaGreatDoorS1eOc
import Derived.Deep.CutRange
set_option linter.unusedVariables false
set_option linter.unusedSimpArgs false
set_option maxHeartbeats 8000000
set_option maxRecDepth 100000
namespace Go.Proofs.YtpeckljoannolaaGreatDoor
open Go.RowKit
theorem step_more_where {P:Program} {T E:TypeId} {z:Value} {bytes:Nat} (hE:Elem P T E z 1 bytes) {w:World} {ops:Array Oper} {o:Oper} {act:Act} {K:Act->World->Prop} {Q:Exit->Act->World->Prop} {F:Prop} (hgd:o.guard=none) (s x:Operand)
  (ho:o.op=.call { callee:=.builtin .append,args:=#[s,x],argTypes:=#[T,T] })
  (base n:Nat) (v:Value) (xs:List Value) (hs:act.eval s=v) (hown:w.ownsRow base E 1 v n xs) (u:Value) (ad:Addr) (c:Nat) (hx:act.eval x=.slice (some ad) 1 c) (hu:w.cell? ad=some u) (h1:u.oneCell'=true) (hbase:base<=w.heap.size) (h63:n+1<=maxLen) (hby:(n+1)*bytes<=140737488355328)
  (h:∀ v' w',w'.ownsRow base E 1 v' (n+1) (xs++[u])->w.grownBy w' v.ownBlock->(∀ k,v'.ownBlock=some k->v.ownBlock=some k∨k=w.heap.size)->K (act.put o.dst v') w'):if Region.wanted o (yielded ops act.tmps)=true then Oper.wp P o act w K Q else F:=by
 have hw:Region.wanted o (yielded ops act.tmps)=true:=by simp [Region.wanted,hgd]
 rw [if_pos hw]
 obtain⟨v',w',hr,h2,h3,h4⟩:=run_append_where (P:=P) w (ty:=o.type) hE base n v xs hown u ad c hu h1 hbase h63 hby
 have:=h v' w' h2 h3 h4;unfold Oper.wp execOp
 simp only [ho,resolve,invoke,builtin,Sem.run_bind,Sem.run_pure,Result.andThen_ok,List.map_toArray,List.map_cons,List.map_nil,hs,hx,hr]
 exact this
theorem tkU {P:Program} {md:Region.Mode} {ops:Array Oper} {Q:Exit->Act->World->Prop} {S:World->Prop} {q:Nat} (i:Nat) {a1:Option Tmp} {a2:Op} {a3:TypeId} {a4:String} {a5:Array Edge} {a6:Option (Nat×Bool)} {v:Value} {fuel:Nat} {listed:Array Bool} {a:Act} {w:World}
  {A2:Act} (hS:S w) (h:wpAnyUntil P md ops Q S q fuel (listed.setIfInBounds i true) A2 w)
  (hi:ops[i]?=some (Oper.mk a1 a2 a3 a4 a5 a6):=by rfl) (hs:Region.noSelect ops=true:=by kernel_rfl) (hf:Region.free md ops listed i=true:=by kernel_rfl) (hr:(Region.ready md ops listed).contains i=true:=by kernel_rfl) (hw2:waitsForB md ops q i=true:=by kernel_rfl) (hq:listed.getD q true=false:=by kernel_rfl)
  (hQ:∀ c a w,Q (.panic c) (a.put a1 v) w->Q (.panic c) a w:=by exact fun _ _ _ h=>h)
  (hw:Region.wanted (Oper.mk a1 a2 a3 a4 a5 a6) (yielded ops a.tmps)=true:=by rfl)
  (hy:∀ w,S w->(execOp a.eval (Oper.mk a1 a2 a3 a4 a5 a6)).run P w=.ok (.value v) w:=by
   intro w0 hSw
   try dsimp only at hSw
   go_simp
   all_goals with_reducible rfl)
  (hA:a.put a1 v=A2:=by (try simp only [sZ])<;>rfl):wpAnyUntil P md ops Q S q (fuel+1) listed a w :=
 wpAnyUntil_take hi hs hf hr hw2 hq hQ (Or.inl ⟨hw,hy⟩) hS (by rw [hA];exact h)
theorem tkB {P:Program} {md:Region.Mode} {ops:Array Oper} {Q:Exit->Act->World->Prop} {S:World->Prop} {q:Nat} (i:Nat) {a1:Option Tmp} {a2:Op} {a3:TypeId} {a4:String} {a5:Array Edge} {a6:Option (Nat×Bool)} {v:Value} {fuel:Nat} {listed:Array Bool} {a:Act} {w:World}
  {A2:Act} (hS:listed.getD q true=true∨S w) (h:wpAnyUntil P md ops Q S q fuel (listed.setIfInBounds i true) A2 w)
  (hi:ops[i]?=some (Oper.mk a1 a2 a3 a4 a5 a6):=by rfl) (hs:Region.noSelect ops=true:=by kernel_rfl) (hf:Region.free md ops listed i=true:=by kernel_rfl) (hr:(Region.ready md ops listed).contains i=true:=by kernel_rfl) (hiq:i≠q:=by decide)
  (hQ:∀ c a w,Q (.panic c) (a.put a1 v) w->Q (.panic c) a w:=by exact fun _ _ _ h=>h)
  (hw:Region.wanted (Oper.mk a1 a2 a3 a4 a5 a6) (yielded ops a.tmps)=true:=by rfl)
  (hy:∀ w,True->(execOp a.eval (Oper.mk a1 a2 a3 a4 a5 a6)).run P w=.ok (.value v) w:=by
   intro w0 hSw;go_simp
   all_goals with_reducible rfl)
  (hA:a.put a1 v=A2:=by (try simp only [sZ])<;>rfl):wpAnyUntil P md ops Q S q (fuel+1) listed a w :=
 wpAnyUntil_bare hi hs hf hr hiq hQ (Or.inl ⟨hw,hy⟩) hS (by rw [hA];exact h)
def RowOff (A:HAds) (b:Nat):Prop:=(∀ p,A.g=some p->p.block≠b)/\(∀ p,A.a=some p->p.block≠b)
theorem rowOff_g {A:HAds} {b n c:Nat} (h:RowOff A b):some b≠(Value.slice A.g n c).ownBlock:=fun e=>by
 cases hg:A.g with
 | none=>rw [hg] at e;cases e
 | some p=>rw [hg] at e;cases e;exact h.1 _ hg rfl
theorem rowOff_a {A:HAds} {b n c:Nat} (h:RowOff A b):some b≠(Value.slice A.a n c).ownBlock:=fun e=>by
 cases hg:A.a with
 | none=>rw [hg] at e;cases e
 | some p=>rw [hg] at e;cases e;exact h.2 _ hg rfl
def GivePost (t:Ht) (A0:HAds) (p:Int) (B:Nat) (w:World) (e:Ending) (w':World):Prop:=∃ A,e=.returned (.tuple #[hv (Hn.given t p) A,pv (Hn.hnd t)])/\HOwn w' B (Hn.given t p) A/\Below B w w'/\(∀ b,b < w.heap.size->RowOff A0 b->w'.heap[b]?=w.heap[b]?)/\∀ b,b < w.heap.size->RowOff A0 b->RowOff A b
theorem set_self (zs:List Int) {k:Nat} {g:Int} (hg:zs.getD k 0=g):zs.set k g=zs:=by
 apply List.ext_getElem?
 intro i;rw [List.getElem?_set]
 split
 ·rename_i e
  subst e
  split
  ·rename_i h
   simp [List.getD,List.getElem?_eq_getElem h] at hg
   rw [List.getElem?_eq_getElem h,hg]
  ·rename_i h
   rw [List.getElem?_eq_none (by omega)]
 ·rfl
theorem set_last (zs:List Int) (x p:Int) {k:Nat} (hk:k=zs.length):(zs++[x]).set k p=zs++[p]:=by
 rw [hk,List.set_append_right _ _ (Nat.le_refl _)]
 simp
theorem hGive (t:Ht) (A:HAds) (p:Int) (B:Nat) (w:World) (own:HRows 3 w B t A) (hB:B<=w.heap.size) (hM:Hn.May t) (hf:Hn.fullB t=false) :
  Calls Tryz.prog 117 #[hv t A,.int .i64 (Hn.free t:Nat),.int .i64 p] w (GivePost t A p B w):=by
 have HX:=aq (fun x y=>((HBox.new w t A 152).below ((Below.refl _ _).alloc (Nat.le_refl _) x)).below ((Below.refl _ _).alloc (Nat.le_refl _) y));have HY:=aq (fun x y=>(HBox.new (w.alloc x) Ht.zero hNone 31).below ((Below.refl _ _).alloc (Nat.le_refl _) y));have HZ:=aq (fun x y=>PBox.new ((w.alloc x).alloc y) (0,0) 39);have LL:=aq hM.len;have OR0:=aq own;have h16:=hM.most;have HMM:=aq hM;have HFU:=aq hf;have z2:∀ k,(Value.slice A.g t.gens.length A.cg).ownBlock=some k->B<=k/\k < w.heap.size:=fun k hk=>World.ownsRow.lt own.gens k hk;have z3:∀ k,(Value.slice A.a t.ats.length A.ca).ownBlock=some k->B<=k/\k < w.heap.size:=fun k hk=>World.ownsRow.lt own.ats k hk
 have sb:∀ k k',(Value.slice A.g t.gens.length A.cg).ownBlock=some k->(Value.slice A.a t.ats.length A.ca).ownBlock=some k'->k≠k':=fun k k' h1 h2=>by
  have sp:=own.sep
  cases hg:A.g with
  | none=>rw [hg] at h1;cases h1
  | some a1 =>
   cases ha:A.a with
   | none=>rw [ha] at h2;cases h2
   | some a2=>rw [hg] at h1;rw [ha] at h2;cases h1;cases h2;exact sp _ _ hg ha
 have ZG:=aq z2;have ZA:=aq z3;have SB:=aq sb;clear own hM hf z2 z3 sb;obtain⟨k,hk⟩:∃ k,Hn.free t=k:=⟨_,rfl⟩;have HKF:=aq hk;rw [hk];clear hk;unfold hv
 go_enter Tryz.func117,Tryz.ntmps117
 go_upto_region 1 with (fail)
 obtain⟨W1,hW1⟩:∃ W,W=((w.alloc (.cells #[.slice A.g t.gens.length A.cg,.slice A.a t.ats.length A.ca] 152)).alloc (.cells #[.slice none 0 0,.slice none 0 0] 31)).alloc (.cells #[.int .i64 0,.int .i64 0] 39):=⟨_,rfl⟩;have BX:=aq (show HBox W1 w.heap.size t A by rw [hW1];exact HX.out _ _);have BR:=aq (show HBox W1 (w.heap.size+1) Ht.zero hNone by rw [hW1];have:=HY.out (.cells #[.slice A.g t.gens.length A.cg,.slice A.a t.ats.length A.ca] 152) (.cells #[.int .i64 0,.int .i64 0] 39);rw [World.size_alloc] at this;exact this);have BH:=aq (show PBox W1 (w.heap.size+1+1) (0,0) by rw [hW1];have:=HZ.out (.cells #[.slice A.g t.gens.length A.cg,.slice A.a t.ats.length A.ca] 152) (.cells #[.slice none 0 0,.slice none 0 0] 31);rw [World.size_alloc,World.size_alloc] at this;exact this)
 have b1:Below w.heap.size w W1:=by rw [hW1];exact (((Below.refl _ _).alloc (Nat.le_refl _) _).alloc (by simp) _).alloc (by simp;omega) _
 have zz:w.heap.size+3<=W1.heap.size:=by rw [hW1];simp
 have BB:=aq (Below.mono b1 hB);have KB:=aq (show ∀ b,b < w.heap.size->RowOff A b->W1.heap[b]?=w.heap[b]? from fun b hb _=>b1.block b hb);have OR:=aq (OR0.out.below b1);rw [<-hW1];clear hW1 HX HY HZ b1;obtain⟨_,p0,p1,_,_⟩:=BX.out
 by_cases hlt:k < t.gens.length
 ·have k1:((k:Int)==(t.gens.length:Int))=false:=by simp;omega
  obtain⟨gb,go,hAg,hg1,hg2,_⟩:=OR0.out.own.setG hlt;obtain⟨ab,ao,hAa,ha1,ha2,_⟩:=OR0.out.own.setA (i:=k) (by have:=LL.out;omega);have HK:=aq hlt;have HL1:=aq LL.out;obtain⟨g,hg⟩:∃ g,Hn.g t k=g:=⟨_,rfl⟩;have GK:=aq hg;have FT:=aq (show Hn.given t p=⟨t.gens.set k g,t.ats.set k p⟩ by unfold Hn.given;rw [HKF.out,if_pos hlt,set_self t.gens hg]);have FH:=aq (show Hn.hnd t=((k:Int),g) by unfold Hn.hnd;rw [HKF.out,hg]);have OW:=aq OR.out.own;clear hg OR OR0 ZG ZA SB HMM HFU hlt HKF;obtain⟨ag,aa,cg,ca⟩:=A
  dsimp only at hAg hAa BX OW p0 p1 ⊢
  subst hAg hAa;have OFFB:=aq (show ∀ b,b < w.heap.size->RowOff ⟨some ⟨gb,go,none⟩,some ⟨ab,ao,none⟩,cg,ca⟩ b->b≠gb/\b≠ab from fun b _ h=>⟨fun e=>h.1 _ rfl e.symm,fun e=>h.2 _ rfl e.symm⟩)
  go_upto_region 3 with (fail)
  clear k1 p0 p1;obtain⟨gb2,go2,e2,_,_,cg1,_,_⟩:=OW.out.setG (i:=k) HK.out
  cases e2
  rw [show (t).gens.getD k 0=g from GK.out] at cg1;obtain⟨_,p0,p1,_,_⟩:=BX.out
  try dsimp only at p0 p1
  have i1:=HK.out
  try dsimp only at i1
  go_upto_region 4 with (fail)
  obtain⟨T3,hT3⟩:∃ U,U=W1.alloc (.cells #[.int .i64 (k:Int),.int .i64 (g)] 39):=⟨_,rfl⟩
  have hb:Below W1.heap.size W1 T3:=by rw [hT3];exact (Below.refl _ _).alloc (Nat.le_refl _) _
  have BN:=aq (show PBox T3 W1.heap.size ((k:Int),g) by rw [hT3];exact PBox.new W1 ((k:Int),g) 39)
  have z3:T3.heap.size=W1.heap.size+1:=by rw [hT3];simp
  replace BX:=aq (BX.out.below hb);replace BR:=aq (BR.out.below hb);replace BH:=aq (BH.out.below hb);replace OW:=aq (OW.out.below hb);replace BB:=aq (BB.out.trans (hb.mono (by have:=BB.out.size;omega)));replace KB:=aq (show ∀ b,b < w.heap.size->RowOff (⟨some ⟨gb,go,none⟩,some ⟨ab,ao,none⟩,cg,ca⟩) b->T3.heap[b]?=w.heap[b]? from fun b h1 h2=>(hb.block b (by omega)).trans (KB.out b h1 h2));rw [<-hT3];clear hT3 hb p0 p1 cg1;refine wp_region_held_drew (S:=fun w'=>w'.cell? ⟨w.heap.size,0,none⟩=some (.slice (some ⟨gb,go,none⟩) (t).gens.length (⟨some ⟨gb,go,none⟩,some ⟨ab,ao,none⟩,cg,ca⟩:HAds).cg)/\w'.cell? ⟨w.heap.size,1,none⟩=some (.slice (some ⟨ab,ao,none⟩) (t).ats.length (⟨some ⟨gb,go,none⟩,some ⟨ab,ao,none⟩,cg,ca⟩:HAds).ca)/\w'.cell? ⟨W1.heap.size,0,none⟩=some (.int .i64 (k:Int))/\w'.cell? ⟨W1.heap.size,1,none⟩=some (.int .i64 (g))) (by kernel_rfl) (by exact⟨(BX.out.below ((Below.refl _ _).drew)).c0,(BX.out.below ((Below.refl _ _).drew)).c1,(BN.out.below ((Below.refl _ _).drew)).c0,(BN.out.below ((Below.refl _ _).drew)).c1⟩) (fun hHeld=>?_);obtain⟨T4,hV⟩:∃ V,V=T3.drew:=⟨_,rfl⟩;replace BX:=aq (show HBox T4 w.heap.size (t) (⟨some ⟨gb,go,none⟩,some ⟨ab,ao,none⟩,cg,ca⟩:HAds) by rw [hV];exact BX.out.below ((Below.refl _ _).drew));replace BR:=aq (show HBox T4 (w.heap.size+1) Ht.zero hNone by rw [hV];exact BR.out.below ((Below.refl _ _).drew))
  replace BH:=aq (show PBox T4 (w.heap.size+1+1) (0,0) by rw [hV];exact BH.out.below ((Below.refl _ _).drew));replace BN:=aq (show PBox T4 W1.heap.size ((k:Int),g) by rw [hV];exact BN.out.below ((Below.refl _ _).drew));replace OW:=aq (show HOwn T4 B (t) (⟨some ⟨gb,go,none⟩,some ⟨ab,ao,none⟩,cg,ca⟩:HAds) by rw [hV];exact OW.out.below ((Below.refl _ _).drew));replace BB:=aq (show Below B w T4 by rw [hV];exact BB.out.drew);replace KB:=aq (show ∀ b,b < w.heap.size->RowOff (⟨some ⟨gb,go,none⟩,some ⟨ab,ao,none⟩,cg,ca⟩) b->T4.heap[b]?=w.heap[b]? from fun b h1 h2=>by rw [hV];exact KB.out b h1 h2)
  have z4:T4.heap.size=T3.heap.size:=by rw [hV];rfl
  rw [<-hV] at hHeld ⊢;clear hV;refine tk 0 ?_;refine tk 1 ?_;refine tk 2 ?_;refine tk 3 ?_;refine tk 4 ?_;refine tk 5 ?_;refine tk 7 ?_;refine rdH 6 fun K hK=>?_;go_simp;refine (hLay (t) (⟨some ⟨gb,go,none⟩,some ⟨ab,ao,none⟩,cg,ca⟩:HAds) k (g) p B T4 OW.out (by have:=BB.out.size;omega) HK.out HL1.out).mono ?_;rintro e T5 ⟨rfl,own,hb,keep⟩;have z5:T4.heap.size<=T5.heap.size:=hb.size;have kp:∀ b,b < T4.heap.size->b≠gb->b≠ab->T5.heap[b]?=T4.heap[b]?:=fun b h1 h2 h3=>keep b h1 (fun q hq=>by cases hq;exact fun e=>h2 e.symm) (fun q hq=>by cases hq;exact fun e=>h3 e.symm);replace BX:=aq (BX.out.same (kp w.heap.size (by omega) (by omega) (by omega)) z5);replace BR:=aq (BR.out.same (kp (w.heap.size+1) (by omega) (by omega) (by omega)) z5);replace BH:=aq (BH.out.same (kp (w.heap.size+1+1) (by omega) (by omega) (by omega)) z5);replace BN:=aq (BN.out.same (kp W1.heap.size (by omega) (by omega) (by omega)) z5);replace OW:=aq own;replace BB:=aq (BB.out.trans hb);replace KB:=aq (show ∀ b,b < w.heap.size->RowOff (⟨some ⟨gb,go,none⟩,some ⟨ab,ao,none⟩,cg,ca⟩) b->T5.heap[b]?=w.heap[b]? from fun b h1 h2=>(kp b (by omega) (OFFB.out b h1 h2).1 (OFFB.out b h1 h2).2).trans (KB.out b h1 h2));clear own hb keep kp
  try unfold hv
  try dsimp only
  refine hK.out _ _ (by exact⟨BX.out.c0,BX.out.c1,BN.out.c0,BN.out.c1⟩) (fun hHeldg0_7=>?_);clear hK K hHeld
  try simp only [sZ]
  refine rdH 8 fun K hK=>?_;obtain⟨_,y0,y1,yf0,yf1⟩:=BR.out
  try dsimp only [Ht.zero,hNone,List.length_nil] at y0 y1
  go_simp;obtain⟨T6,hU⟩:∃ U,U=wput2 T5 (w.heap.size+1) (.slice (some ⟨gb,go,none⟩) (t.gens.length) cg) (.slice (some ⟨ab,ao,none⟩) (t.ats.length) ca):=⟨_,rfl⟩;have BYn:=aq (show HBox T6 (w.heap.size+1) ⟨(t).gens.set k (g),(t).ats.set k p⟩ (⟨some ⟨gb,go,none⟩,some ⟨ab,ao,none⟩,cg,ca⟩:HAds) by rw [hU];have h9:=BR.out.put2 ⟨(t).gens.set k (g),(t).ats.set k p⟩ (⟨some ⟨gb,go,none⟩,some ⟨ab,ao,none⟩,cg,ca⟩:HAds);(try simp only [List.length_set,List.length_append,List.length_cons,List.length_nil,Nat.zero_add] at h9);exact h9);replace BX:=aq (show HBox T6 w.heap.size (t) (⟨some ⟨gb,go,none⟩,some ⟨ab,ao,none⟩,cg,ca⟩:HAds) by rw [hU];exact BX.out.put2o (by omega) _ _);replace BN:=aq (show PBox T6 W1.heap.size ((k:Int),g) by rw [hU];exact BN.out.put2o (by omega) _ _);replace BH:=aq (show PBox T6 (w.heap.size+1+1) (0,0) by rw [hU];exact BH.out.put2o (by omega) _ _);replace OW:=aq (show HOwn T6 B ⟨(t).gens.set k (g),(t).ats.set k p⟩ (⟨some ⟨gb,go,none⟩,some ⟨ab,ao,none⟩,cg,ca⟩:HAds) by rw [hU];exact OW.out.put2o ⟨Or.inr (fun q hq=>by cases hq;show gb≠w.heap.size+1;omega),Or.inr (fun q hq=>by cases hq;show ab≠w.heap.size+1;omega)⟩ _ _);replace BB:=aq (show Below B w T6 by rw [hU];exact below_put2 BB.out (by omega) _ _);replace KB:=aq (show ∀ b,b < w.heap.size->RowOff (⟨some ⟨gb,go,none⟩,some ⟨ab,ao,none⟩,cg,ca⟩) b->T6.heap[b]?=w.heap[b]? from fun b h1 h2=>by rw [hU];unfold wput2;exact (Below.heap_setCell _ ⟨w.heap.size+1,1,none⟩ _ b (by show b≠w.heap.size+1;omega)).trans ((Below.heap_setCell _ ⟨w.heap.size+1,0,none⟩ _ b (by show b≠w.heap.size+1;omega)).trans (KB.out b h1 h2)))
  unfold wput2 at hU
  try dsimp only at hU
  first | rw [<-hU] | skip
  clear hU y0 y1 yf0 yf1 BR;have BR:=BYn;clear BYn;refine hK.out _ _ (by exact⟨BX.out.c0,BX.out.c1,BN.out.c0,BN.out.c1⟩) (fun hHeldg0_8=>?_);clear hK K hHeldg0_7
  try simp only [sZ]
  refine rdH 9 fun K hK=>?_;obtain⟨_,y0,y1,yf0,yf1⟩:=BH.out
  try dsimp only [Ht.zero,hNone,List.length_nil] at y0 y1
  go_simp;obtain⟨T7,hU⟩:∃ U,U=wput2 T6 (w.heap.size+1+1) (.int .i64 (k:Int)) (.int .i64 (g)):=⟨_,rfl⟩;have BYn:=aq (show PBox T7 (w.heap.size+1+1) ((k:Int),g) by rw [hU];have h9:=BH.out.put2 ((k:Int),g);(try simp only [List.length_set,List.length_append,List.length_cons,List.length_nil,Nat.zero_add] at h9);exact h9);replace BX:=aq (show HBox T7 w.heap.size (t) (⟨some ⟨gb,go,none⟩,some ⟨ab,ao,none⟩,cg,ca⟩:HAds) by rw [hU];exact BX.out.put2o (by omega) _ _);replace BN:=aq (show PBox T7 W1.heap.size ((k:Int),g) by rw [hU];exact BN.out.put2o (by omega) _ _);replace BR:=aq (show HBox T7 (w.heap.size+1) ⟨(t).gens.set k (g),(t).ats.set k p⟩ (⟨some ⟨gb,go,none⟩,some ⟨ab,ao,none⟩,cg,ca⟩:HAds) by rw [hU];exact BR.out.put2o (by omega) _ _);replace OW:=aq (show HOwn T7 B ⟨(t).gens.set k (g),(t).ats.set k p⟩ (⟨some ⟨gb,go,none⟩,some ⟨ab,ao,none⟩,cg,ca⟩:HAds) by rw [hU];exact OW.out.put2o ⟨Or.inr (fun q hq=>by cases hq;show gb≠w.heap.size+1+1;omega),Or.inr (fun q hq=>by cases hq;show ab≠w.heap.size+1+1;omega)⟩ _ _);replace BB:=aq (show Below B w T7 by rw [hU];exact below_put2 BB.out (by omega) _ _);replace KB:=aq (show ∀ b,b < w.heap.size->RowOff (⟨some ⟨gb,go,none⟩,some ⟨ab,ao,none⟩,cg,ca⟩) b->T7.heap[b]?=w.heap[b]? from fun b h1 h2=>by rw [hU];unfold wput2;exact (Below.heap_setCell _ ⟨w.heap.size+1+1,1,none⟩ _ b (by show b≠w.heap.size+1+1;omega)).trans ((Below.heap_setCell _ ⟨w.heap.size+1+1,0,none⟩ _ b (by show b≠w.heap.size+1+1;omega)).trans (KB.out b h1 h2)))
  unfold wput2 at hU
  try dsimp only at hU
  first | rw [<-hU] | skip
  clear hU y0 y1 yf0 yf1 BH;have BH:=BYn;clear BYn;refine hK.out _ _ (by exact⟨BX.out.c0,BX.out.c1,BN.out.c0,BN.out.c1⟩) (fun hHeldg0_9=>?_);clear hK K hHeldg0_8
  try simp only [sZ]
  refine wpAnyH_done (by kernel_rfl) ?_ _;obtain⟨_,s0,s1,_,_⟩:=BR.out;obtain⟨_,v0,v1,_,_⟩:=BH.out
  try simp only [List.length_set,List.length_append,List.length_cons,List.length_nil,Nat.zero_add] at s0 s1
  try dsimp only at v0 v1
  go_wp2;refine bodyPost_ret (v:=.tuple #[hv ⟨(t).gens.set k (g),(t).ats.set k p⟩ (⟨some ⟨gb,go,none⟩,some ⟨ab,ao,none⟩,cg,ca⟩:HAds),pv ((k:Int),g)]) (by simp [results,Tryz.results117,go_sem,hv,pv,s0,s1,v0,v1]) rfl ?_;unfold GivePost;rw [FT.out,FH.out];exact⟨_,rfl,OW.out,BB.out,KB.out,fun b h1 h2=>⟨fun q hq=>by cases hq;exact fun e=>(OFFB.out b h1 h2).1 e.symm,fun q hq=>by cases hq;exact fun e=>(OFFB.out b h1 h2).2 e.symm⟩⟩
 ·have hkl:k=t.gens.length:=by have:=Hn.free_le t;have:=HKF.out;omega
  have k1:((k:Int)==(t.gens.length:Int))=true:=by simp;omega
  have l6:t.gens.length < 65536:=by
   rcases Hn.full_no HFU.out with h | ⟨_,h⟩
   ·have:=HKF.out;omega
   ·omega
  have FH:=aq (show Hn.hnd t=((k:Int),0) by unfold Hn.hnd;rw [HKF.out,Hn.g_past (by omega)])
  have FG:=aq (show Hn.given t p=⟨(t.gens++[0]).set k 0,(t.ats++[-1]).set k p⟩ by
   unfold Hn.given
   rw [HKF.out,if_neg hlt,set_last t.gens 0 0 hkl,set_last t.ats (-1) p (by rw [LL.out];exact hkl)])
  have HKL:=aq hkl;have LA':=aq (show t.ats.length < 65536 by rw [LL.out];exact l6);have OG:=aq OR.out.gens;have OA:=aq OR.out.ats;clear hkl hlt HKF HFU HMM OR OR0 h16
  go_upto_region 2 with (fail)
  clear k1 p0 p1;refine wp_region_heldUntil 12 (fun w'=>w'.cell? ⟨w.heap.size,0,none⟩=some (.slice A.g t.gens.length A.cg)/\w'.cell? ⟨w.heap.size,1,none⟩=some (.slice A.a t.ats.length A.ca)) (by kernel_rfl) (by exact⟨(BX.out.below ((Below.refl _ _).drew)).c0,(BX.out.below ((Below.refl _ _).drew)).c1⟩) (fun hHeld=>?_);obtain⟨V0,hV⟩:∃ V,V=W1.drew:=⟨_,rfl⟩;replace BX:=aq (show HBox V0 w.heap.size t A by rw [hV];exact BX.out.below ((Below.refl _ _).drew));replace BR:=aq (show HBox V0 (w.heap.size+1) Ht.zero hNone by rw [hV];exact BR.out.below ((Below.refl _ _).drew));replace BH:=aq (show PBox V0 (w.heap.size+1+1) (0,0) by rw [hV];exact BH.out.below ((Below.refl _ _).drew));replace KB:=aq (show ∀ b,b < w.heap.size->RowOff A b->V0.heap[b]?=w.heap[b]? from fun b h1 h2=>by rw [hV];exact KB.out b h1 h2);replace OG:=aq (show V0.ownsRow B 3 1 (Value.slice A.g t.gens.length A.cg) t.gens.length (t.gens.map (Value.int .i64)) by rw [hV];exact own_below OG.out ((Below.refl _ _).drew));replace OA:=aq (show V0.ownsRow B 3 1 (Value.slice A.a t.ats.length A.ca) t.ats.length (t.ats.map (Value.int .i64)) by rw [hV];exact own_below OA.out ((Below.refl _ _).drew));replace BB:=aq (show Below B w V0 by rw [hV];exact BB.out.drew)
  have y0:w.heap.size+3<=V0.heap.size:=by rw [hV];exact zz
  rw [<-hV] at hHeld ⊢;clear hV;refine tkU 0 (by exact⟨BX.out.c0,BX.out.c1⟩) ?_;refine tkU 1 (by exact⟨BX.out.c0,BX.out.c1⟩) ?_;refine tkU 2 (by exact⟨BX.out.c0,BX.out.c1⟩) ?_;refine tkU 5 (by exact⟨BX.out.c0,BX.out.c1⟩) ?_;refine tkU 6 (by exact⟨BX.out.c0,BX.out.c1⟩) ?_;refine tkU 7 (by exact⟨BX.out.c0,BX.out.c1⟩) ?_;refine wpAnyUntil_ready (rs:=[3,8]) (by kernel_rfl) (by simp) ?_;refine AllReadyUntil.cons (o:=Oper.mk _ _ _ _ _ _) rfl (fun K hK=>?_) ?_;go_simp;obtain⟨V1,hU⟩:∃ U,U=V0.alloc (.cells #[.int .i64 0] 3):=⟨_,rfl⟩
  have hb:Below V0.heap.size V0 V1:=by rw [hU];exact (Below.refl _ _).alloc (Nat.le_refl _) _
  have y1:V0.heap.size+1=V1.heap.size:=by rw [hU];simp
  replace BX:=aq (BX.out.below hb);replace BR:=aq (BR.out.below hb);replace BH:=aq (BH.out.below hb);replace OG:=aq (own_below OG.out hb);replace OA:=aq (own_below OA.out hb);replace BB:=aq (BB.out.trans (hb.mono (by have:=BB.out.size;omega)));replace KB:=aq (show ∀ b,b < w.heap.size->RowOff A b->V1.heap[b]?=w.heap[b]? from fun b h1 h2=>(hb.block b (by omega)).trans (KB.out b h1 h2));have LTG:=aq (show V1.cell? ⟨V0.heap.size,0,none⟩=some (.int .i64 0) by rw [hU];exact cell_new1 _ _ _);rw [<-hU];clear hU hb;refine hK.out _ _ (Or.inr (by exact⟨BX.out.c0,BX.out.c1⟩)) ?_;clear hK K
  try simp only [sZ]
  refine wpAnyUntil_ready (rs:=[4,8]) (by kernel_rfl) (by simp) ?_;refine AllReadyUntil.cons (o:=Oper.mk _ _ _ _ _ _) rfl (fun K hK=>?_) ?_;refine step_more_where elemI rfl (.tmp 17) (.tmp 18) rfl B t.gens.length _ _ rfl OG.out (.int .i64 0) ⟨V0.heap.size,0,none⟩ 1 rfl LTG.out rfl (by have:=BB.out.size;omega) (by have:=LA'.out;unfold maxLen;omega) (by have:=LA'.out;omega) ?_;intro vG V2 hown hgr hwh;obtain⟨gG,cG,rfl,hgG,hlG,hcG⟩:=own_pos hown;have y2:V1.heap.size<=V2.heap.size:=hgr.size;have wG:=aq (show (Value.slice A.g t.gens.length A.cg).ownBlock=some gG∨gG=V1.heap.size from hwh gG rfl)
  have off:∀ {x:Nat},w.heap.size<=x->some x≠(Value.slice A.g t.gens.length A.cg).ownBlock:=fun hx e=>by have:=(ZG.out _ e.symm).2;omega
  have nG:gG < w.heap.size∨V1.heap.size<=gG:=by
   rcases wG.out with h | h
   ·exact Or.inl (ZG.out _ h).2
   ·exact Or.inr (by omega)
  replace BX:=aq (BX.out.grown hgr (off (by omega)));replace BR:=aq (BR.out.grown hgr (off (by omega)));replace BH:=aq (BH.out.grown hgr (off (by omega)))
  replace OA:=aq (OA.out.kept hgr (by
   cases ho:(Value.slice A.a t.ats.length A.ca).ownBlock with
   | none=>exact Or.inl rfl
   | some k'=>exact Or.inr (fun e=>SB.out _ _ e.symm ho rfl)))
  replace KB:=aq (show ∀ b,b < w.heap.size->RowOff A b->V2.heap[b]?=w.heap[b]? from fun b h1 h2=>(hgr.block b (by omega) (rowOff_g h2)).trans (KB.out b h1 h2));replace BB:=aq (BB.out.grown hgr (by have:=BB.out.size;omega) (fun k hk=>(ZG.out k hk).1));have OG1:=aq hown;clear hown hgr hwh off OG LTG;refine hK.out _ _ (Or.inr (by exact⟨BX.out.c0,BX.out.c1⟩)) ?_;clear hK K
  try simp only [sZ]
  refine tkB 10 (Or.inr (by exact⟨BX.out.c0,BX.out.c1⟩)) ?_;refine tkU 11 (by exact⟨BX.out.c0,BX.out.c1⟩) ?_;refine wpAnyUntil_ready (rs:=[8]) (by kernel_rfl) (by simp) ?_;refine AllReadyUntil.cons (o:=Oper.mk _ _ _ _ _ _) rfl (fun K hK=>?_) AllReadyUntil.nil;go_simp;obtain⟨V3,hU⟩:∃ U,U=V2.alloc (.cells #[.int .i64 (-1)] 3):=⟨_,rfl⟩
  have hb:Below V2.heap.size V2 V3:=by rw [hU];exact (Below.refl _ _).alloc (Nat.le_refl _) _
  have y3:V2.heap.size+1=V3.heap.size:=by rw [hU];simp
  replace BX:=aq (BX.out.below hb);replace BR:=aq (BR.out.below hb);replace BH:=aq (BH.out.below hb);replace OG1:=aq (own_below OG1.out hb);replace OA:=aq (own_below OA.out hb);replace BB:=aq (BB.out.trans (hb.mono (by have:=BB.out.size;omega)));replace KB:=aq (show ∀ b,b < w.heap.size->RowOff A b->V3.heap[b]?=w.heap[b]? from fun b h1 h2=>(hb.block b (by omega)).trans (KB.out b h1 h2));have LTA:=aq (show V3.cell? ⟨V2.heap.size,0,none⟩=some (.int .i64 (-1)) by rw [hU];exact cell_new1 _ _ _);rw [<-hU];clear hU hb;refine hK.out _ _ (Or.inr (by exact⟨BX.out.c0,BX.out.c1⟩)) ?_;clear hK K
  try simp only [sZ]
  refine wpAnyUntil_ready (rs:=[9]) (by kernel_rfl) (by simp) ?_;refine AllReadyUntil.cons (o:=Oper.mk _ _ _ _ _ _) rfl (fun K hK=>?_) AllReadyUntil.nil;refine step_more_where elemI rfl (.tmp 22) (.tmp 23) rfl B t.ats.length _ _ rfl OA.out (.int .i64 (-1)) ⟨V2.heap.size,0,none⟩ 1 rfl LTA.out rfl (by have:=BB.out.size;omega) (by have:=LA'.out;unfold maxLen;omega) (by have:=LA'.out;omega) ?_;intro vA V4 hown hgr hwh;obtain⟨gA,cA,rfl,hgA,hlA,hcA⟩:=own_pos hown;have y4:V3.heap.size<=V4.heap.size:=hgr.size;have wA:=aq (show (Value.slice A.a t.ats.length A.ca).ownBlock=some gA∨gA=V3.heap.size from hwh gA rfl)
  have off:∀ {x:Nat},w.heap.size<=x->some x≠(Value.slice A.a t.ats.length A.ca).ownBlock:=fun hx e=>by have:=(ZA.out _ e.symm).2;omega
  have nA:gA < w.heap.size∨V3.heap.size<=gA:=by
   rcases wA.out with h | h
   ·exact Or.inl (ZA.out _ h).2
   ·exact Or.inr (by omega)
  replace BX:=aq (BX.out.grown hgr (off (by omega)));replace BR:=aq (BR.out.grown hgr (off (by omega)));replace BH:=aq (BH.out.grown hgr (off (by omega)))
  replace OG1:=aq (OG1.out.kept hgr (Or.inr (fun e=>by
   rcases wG.out with h | h
   ·exact SB.out _ _ h e.symm rfl
   ·have h5:gG < w.heap.size:=(ZA.out _ e.symm).2;omega)))
  replace KB:=aq (show ∀ b,b < w.heap.size->RowOff A b->V4.heap[b]?=w.heap[b]? from fun b h1 h2=>(hgr.block b (by omega) (rowOff_a h2)).trans (KB.out b h1 h2));replace BB:=aq (BB.out.grown hgr (by have:=BB.out.size;omega) (fun k hk=>(ZA.out k hk).1));have OA1:=aq hown;clear hown hgr hwh off OA LTA;refine hK.out _ _ (Or.inr (by exact⟨BX.out.c0,BX.out.c1⟩)) ?_;clear hK K
  try simp only [sZ]
  rotate_left
  refine AllReadyUntil.cons (o:=Oper.mk _ _ _ _ _ _) rfl (fun K hK=>?_) AllReadyUntil.nil;go_simp;obtain⟨V2,hU⟩:∃ U,U=V1.alloc (.cells #[.int .i64 (-1)] 3):=⟨_,rfl⟩
  have hb:Below V1.heap.size V1 V2:=by rw [hU];exact (Below.refl _ _).alloc (Nat.le_refl _) _
  have y2:V1.heap.size+1=V2.heap.size:=by rw [hU];simp
  replace BX:=aq (BX.out.below hb);replace BR:=aq (BR.out.below hb);replace BH:=aq (BH.out.below hb);replace OG:=aq (own_below OG.out hb);replace OA:=aq (own_below OA.out hb);replace LTG:=aq ((hb.cell (p:=⟨V0.heap.size,0,none⟩) (show V0.heap.size < V1.heap.size by omega)).trans LTG.out);replace BB:=aq (BB.out.trans (hb.mono (by have:=BB.out.size;omega)));replace KB:=aq (show ∀ b,b < w.heap.size->RowOff A b->V2.heap[b]?=w.heap[b]? from fun b h1 h2=>(hb.block b (by omega)).trans (KB.out b h1 h2));have LTA:=aq (show V2.cell? ⟨V1.heap.size,0,none⟩=some (.int .i64 (-1)) by rw [hU];exact cell_new1 _ _ _);rw [<-hU];clear hU hb;refine hK.out _ _ (Or.inr (by exact⟨BX.out.c0,BX.out.c1⟩)) ?_;clear hK K
  try simp only [sZ]
  refine wpAnyUntil_ready (rs:=[4]) (by kernel_rfl) (by simp) ?_;refine AllReadyUntil.cons (o:=Oper.mk _ _ _ _ _ _) rfl (fun K hK=>?_) AllReadyUntil.nil;refine step_more_where elemI rfl (.tmp 17) (.tmp 18) rfl B t.gens.length _ _ rfl OG.out (.int .i64 0) ⟨V0.heap.size,0,none⟩ 1 rfl LTG.out rfl (by have:=BB.out.size;omega) (by have:=LA'.out;unfold maxLen;omega) (by have:=LA'.out;omega) ?_;intro vG V3 hown hgr hwh;obtain⟨gG,cG,rfl,hgG,hlG,hcG⟩:=own_pos hown;have y3:V2.heap.size<=V3.heap.size:=hgr.size;have wG:=aq (show (Value.slice A.g t.gens.length A.cg).ownBlock=some gG∨gG=V2.heap.size from hwh gG rfl)
  have off:∀ {x:Nat},w.heap.size<=x->some x≠(Value.slice A.g t.gens.length A.cg).ownBlock:=fun hx e=>by have:=(ZG.out _ e.symm).2;omega
  have nG:gG < w.heap.size∨V2.heap.size<=gG:=by
   rcases wG.out with h | h
   ·exact Or.inl (ZG.out _ h).2
   ·exact Or.inr (by omega)
  replace BX:=aq (BX.out.grown hgr (off (by omega)));replace BR:=aq (BR.out.grown hgr (off (by omega)));replace BH:=aq (BH.out.grown hgr (off (by omega)))
  replace OA:=aq (OA.out.kept hgr (by
   cases ho:(Value.slice A.a t.ats.length A.ca).ownBlock with
   | none=>exact Or.inl rfl
   | some k'=>exact Or.inr (fun e=>SB.out _ _ e.symm ho rfl)))
  replace LTA:=aq ((World.cell?_of_block (a:=⟨V1.heap.size,0,none⟩) (hgr.block (V1.heap.size) (by omega) (off (by omega)))).trans LTA.out);replace KB:=aq (show ∀ b,b < w.heap.size->RowOff A b->V3.heap[b]?=w.heap[b]? from fun b h1 h2=>(hgr.block b (by omega) (rowOff_g h2)).trans (KB.out b h1 h2));replace BB:=aq (BB.out.grown hgr (by have:=BB.out.size;omega) (fun k hk=>(ZG.out k hk).1));have OG1:=aq hown;clear hown hgr hwh off OG LTG;refine hK.out _ _ (Or.inr (by exact⟨BX.out.c0,BX.out.c1⟩)) ?_;clear hK K
  try simp only [sZ]
  refine tkB 10 (Or.inr (by exact⟨BX.out.c0,BX.out.c1⟩)) ?_;refine tkU 11 (by exact⟨BX.out.c0,BX.out.c1⟩) ?_;refine wpAnyUntil_ready (rs:=[9]) (by kernel_rfl) (by simp) ?_;refine AllReadyUntil.cons (o:=Oper.mk _ _ _ _ _ _) rfl (fun K hK=>?_) AllReadyUntil.nil;refine step_more_where elemI rfl (.tmp 22) (.tmp 23) rfl B t.ats.length _ _ rfl OA.out (.int .i64 (-1)) ⟨V1.heap.size,0,none⟩ 1 rfl LTA.out rfl (by have:=BB.out.size;omega) (by have:=LA'.out;unfold maxLen;omega) (by have:=LA'.out;omega) ?_;intro vA V4 hown hgr hwh;obtain⟨gA,cA,rfl,hgA,hlA,hcA⟩:=own_pos hown;have y4:V3.heap.size<=V4.heap.size:=hgr.size;have wA:=aq (show (Value.slice A.a t.ats.length A.ca).ownBlock=some gA∨gA=V3.heap.size from hwh gA rfl)
  have off:∀ {x:Nat},w.heap.size<=x->some x≠(Value.slice A.a t.ats.length A.ca).ownBlock:=fun hx e=>by have:=(ZA.out _ e.symm).2;omega
  have nA:gA < w.heap.size∨V3.heap.size<=gA:=by
   rcases wA.out with h | h
   ·exact Or.inl (ZA.out _ h).2
   ·exact Or.inr (by omega)
  replace BX:=aq (BX.out.grown hgr (off (by omega)));replace BR:=aq (BR.out.grown hgr (off (by omega)));replace BH:=aq (BH.out.grown hgr (off (by omega)))
  replace OG1:=aq (OG1.out.kept hgr (Or.inr (fun e=>by
   rcases wG.out with h | h
   ·exact SB.out _ _ h e.symm rfl
   ·have h5:gG < w.heap.size:=(ZA.out _ e.symm).2;omega)))
  replace KB:=aq (show ∀ b,b < w.heap.size->RowOff A b->V4.heap[b]?=w.heap[b]? from fun b h1 h2=>(hgr.block b (by omega) (rowOff_a h2)).trans (KB.out b h1 h2));replace BB:=aq (BB.out.grown hgr (by have:=BB.out.size;omega) (fun k hk=>(ZA.out k hk).1));have OA1:=aq hown;clear hown hgr hwh off OA LTA;refine hK.out _ _ (Or.inr (by exact⟨BX.out.c0,BX.out.c1⟩)) ?_;clear hK K
  try simp only [sZ]
  rotate_left
  refine AllReadyUntil.cons (o:=Oper.mk _ _ _ _ _ _) rfl (fun K hK=>?_) AllReadyUntil.nil;go_simp;obtain⟨V1,hU⟩:∃ U,U=V0.alloc (.cells #[.int .i64 (-1)] 3):=⟨_,rfl⟩
  have hb:Below V0.heap.size V0 V1:=by rw [hU];exact (Below.refl _ _).alloc (Nat.le_refl _) _
  have y1:V0.heap.size+1=V1.heap.size:=by rw [hU];simp
  replace BX:=aq (BX.out.below hb);replace BR:=aq (BR.out.below hb);replace BH:=aq (BH.out.below hb);replace OG:=aq (own_below OG.out hb);replace OA:=aq (own_below OA.out hb);replace BB:=aq (BB.out.trans (hb.mono (by have:=BB.out.size;omega)));replace KB:=aq (show ∀ b,b < w.heap.size->RowOff A b->V1.heap[b]?=w.heap[b]? from fun b h1 h2=>(hb.block b (by omega)).trans (KB.out b h1 h2));have LTA:=aq (show V1.cell? ⟨V0.heap.size,0,none⟩=some (.int .i64 (-1)) by rw [hU];exact cell_new1 _ _ _);rw [<-hU];clear hU hb;refine hK.out _ _ (Or.inr (by exact⟨BX.out.c0,BX.out.c1⟩)) ?_;clear hK K
  try simp only [sZ]
  refine wpAnyUntil_ready (rs:=[3]) (by kernel_rfl) (by simp) ?_;refine AllReadyUntil.cons (o:=Oper.mk _ _ _ _ _ _) rfl (fun K hK=>?_) AllReadyUntil.nil;go_simp;obtain⟨V2,hU⟩:∃ U,U=V1.alloc (.cells #[.int .i64 0] 3):=⟨_,rfl⟩
  have hb:Below V1.heap.size V1 V2:=by rw [hU];exact (Below.refl _ _).alloc (Nat.le_refl _) _
  have y2:V1.heap.size+1=V2.heap.size:=by rw [hU];simp
  replace BX:=aq (BX.out.below hb);replace BR:=aq (BR.out.below hb);replace BH:=aq (BH.out.below hb);replace OG:=aq (own_below OG.out hb);replace OA:=aq (own_below OA.out hb);replace LTA:=aq ((hb.cell (p:=⟨V0.heap.size,0,none⟩) (show V0.heap.size < V1.heap.size by omega)).trans LTA.out);replace BB:=aq (BB.out.trans (hb.mono (by have:=BB.out.size;omega)));replace KB:=aq (show ∀ b,b < w.heap.size->RowOff A b->V2.heap[b]?=w.heap[b]? from fun b h1 h2=>(hb.block b (by omega)).trans (KB.out b h1 h2));have LTG:=aq (show V2.cell? ⟨V1.heap.size,0,none⟩=some (.int .i64 0) by rw [hU];exact cell_new1 _ _ _);rw [<-hU];clear hU hb;refine hK.out _ _ (Or.inr (by exact⟨BX.out.c0,BX.out.c1⟩)) ?_;clear hK K
  try simp only [sZ]
  refine wpAnyUntil_ready (rs:=[4]) (by kernel_rfl) (by simp) ?_;refine AllReadyUntil.cons (o:=Oper.mk _ _ _ _ _ _) rfl (fun K hK=>?_) AllReadyUntil.nil;refine step_more_where elemI rfl (.tmp 17) (.tmp 18) rfl B t.gens.length _ _ rfl OG.out (.int .i64 0) ⟨V1.heap.size,0,none⟩ 1 rfl LTG.out rfl (by have:=BB.out.size;omega) (by have:=LA'.out;unfold maxLen;omega) (by have:=LA'.out;omega) ?_;intro vG V3 hown hgr hwh;obtain⟨gG,cG,rfl,hgG,hlG,hcG⟩:=own_pos hown;have y3:V2.heap.size<=V3.heap.size:=hgr.size;have wG:=aq (show (Value.slice A.g t.gens.length A.cg).ownBlock=some gG∨gG=V2.heap.size from hwh gG rfl)
  have off:∀ {x:Nat},w.heap.size<=x->some x≠(Value.slice A.g t.gens.length A.cg).ownBlock:=fun hx e=>by have:=(ZG.out _ e.symm).2;omega
  have nG:gG < w.heap.size∨V2.heap.size<=gG:=by
   rcases wG.out with h | h
   ·exact Or.inl (ZG.out _ h).2
   ·exact Or.inr (by omega)
  replace BX:=aq (BX.out.grown hgr (off (by omega)));replace BR:=aq (BR.out.grown hgr (off (by omega)));replace BH:=aq (BH.out.grown hgr (off (by omega)))
  replace OA:=aq (OA.out.kept hgr (by
   cases ho:(Value.slice A.a t.ats.length A.ca).ownBlock with
   | none=>exact Or.inl rfl
   | some k'=>exact Or.inr (fun e=>SB.out _ _ e.symm ho rfl)))
  replace LTA:=aq ((World.cell?_of_block (a:=⟨V0.heap.size,0,none⟩) (hgr.block (V0.heap.size) (by omega) (off (by omega)))).trans LTA.out);replace KB:=aq (show ∀ b,b < w.heap.size->RowOff A b->V3.heap[b]?=w.heap[b]? from fun b h1 h2=>(hgr.block b (by omega) (rowOff_g h2)).trans (KB.out b h1 h2));replace BB:=aq (BB.out.grown hgr (by have:=BB.out.size;omega) (fun k hk=>(ZG.out k hk).1));have OG1:=aq hown;clear hown hgr hwh off OG LTG;refine hK.out _ _ (Or.inr (by exact⟨BX.out.c0,BX.out.c1⟩)) ?_;clear hK K
  try simp only [sZ]
  refine tkB 10 (Or.inr (by exact⟨BX.out.c0,BX.out.c1⟩)) ?_;refine tkU 11 (by exact⟨BX.out.c0,BX.out.c1⟩) ?_;refine wpAnyUntil_ready (rs:=[9]) (by kernel_rfl) (by simp) ?_;refine AllReadyUntil.cons (o:=Oper.mk _ _ _ _ _ _) rfl (fun K hK=>?_) AllReadyUntil.nil;refine step_more_where elemI rfl (.tmp 22) (.tmp 23) rfl B t.ats.length _ _ rfl OA.out (.int .i64 (-1)) ⟨V0.heap.size,0,none⟩ 1 rfl LTA.out rfl (by have:=BB.out.size;omega) (by have:=LA'.out;unfold maxLen;omega) (by have:=LA'.out;omega) ?_;intro vA V4 hown hgr hwh;obtain⟨gA,cA,rfl,hgA,hlA,hcA⟩:=own_pos hown;have y4:V3.heap.size<=V4.heap.size:=hgr.size;have wA:=aq (show (Value.slice A.a t.ats.length A.ca).ownBlock=some gA∨gA=V3.heap.size from hwh gA rfl)
  have off:∀ {x:Nat},w.heap.size<=x->some x≠(Value.slice A.a t.ats.length A.ca).ownBlock:=fun hx e=>by have:=(ZA.out _ e.symm).2;omega
  have nA:gA < w.heap.size∨V3.heap.size<=gA:=by
   rcases wA.out with h | h
   ·exact Or.inl (ZA.out _ h).2
   ·exact Or.inr (by omega)
  replace BX:=aq (BX.out.grown hgr (off (by omega)));replace BR:=aq (BR.out.grown hgr (off (by omega)));replace BH:=aq (BH.out.grown hgr (off (by omega)))
  replace OG1:=aq (OG1.out.kept hgr (Or.inr (fun e=>by
   rcases wG.out with h | h
   ·exact SB.out _ _ h e.symm rfl
   ·have h5:gG < w.heap.size:=(ZA.out _ e.symm).2;omega)))
  replace KB:=aq (show ∀ b,b < w.heap.size->RowOff A b->V4.heap[b]?=w.heap[b]? from fun b h1 h2=>(hgr.block b (by omega) (rowOff_a h2)).trans (KB.out b h1 h2));replace BB:=aq (BB.out.grown hgr (by have:=BB.out.size;omega) (fun k hk=>(ZA.out k hk).1));have OA1:=aq hown;clear hown hgr hwh off OA LTA;refine hK.out _ _ (Or.inr (by exact⟨BX.out.c0,BX.out.c1⟩)) ?_;clear hK K
  try simp only [sZ]
  rotate_left
  all_goals
   refine wpAnyUntil_ready (rs:=[12]) (by kernel_rfl) (by simp) ?_;refine AllReadyUntil.cons (o:=Oper.mk _ _ _ _ _ _) rfl (fun K hK=>?_) AllReadyUntil.nil;obtain⟨_,z1,z2,zf1,zf2⟩:=BX.out
   try simp only [List.length_append,List.length_cons,List.length_nil,Nat.zero_add] at z1 z2
   go_simp;obtain⟨V5,hU⟩:∃ U,U=V4.setCell ⟨w.heap.size,0,none⟩ (.slice (some ⟨gG,0,none⟩) (t.gens.length+1) cG):=⟨_,rfl⟩;have BXn:=aq (show HBox V5 w.heap.size (⟨t.gens++[0],t.ats⟩:Ht) (⟨some ⟨gG,0,none⟩,A.a,cG,A.ca⟩:HAds) by rw [hU];have h9:=BX.out.set0 (t':=⟨t.gens++[0],t.ats⟩) (A':=⟨some ⟨gG,0,none⟩,A.a,cG,A.ca⟩) rfl rfl rfl;simp only [List.length_append,List.length_cons,List.length_nil,Nat.zero_add] at h9;exact h9);replace BR:=aq (show HBox V5 (w.heap.size+1) Ht.zero hNone by rw [hU];exact BR.out.setOther (p:=⟨w.heap.size,0,none⟩) (by show w.heap.size≠w.heap.size+1;omega) _);replace BH:=aq (show PBox V5 (w.heap.size+1+1) (0,0) by rw [hU];exact BH.out.apart (p:=⟨w.heap.size,0,none⟩) (by show w.heap.size≠w.heap.size+1+1;omega) _);replace OG1:=aq (show V5.ownsRow B 3 1 (.slice (some ⟨gG,0,none⟩) (t.gens.length+1) cG) (t.gens.length+1) (t.gens.map (Value.int .i64)++[.int .i64 0]) by rw [hU];exact row_other OG1.out (p:=⟨w.heap.size,0,none⟩) (fun k hk=>by cases hk;show gG≠w.heap.size;omega) _);replace OA1:=aq (show V5.ownsRow B 3 1 (.slice (some ⟨gA,0,none⟩) (t.ats.length+1) cA) (t.ats.length+1) (t.ats.map (Value.int .i64)++[.int .i64 (-1)]) by rw [hU];exact row_other OA1.out (p:=⟨w.heap.size,0,none⟩) (fun k hk=>by cases hk;show gA≠w.heap.size;omega) _);replace BB:=aq (show Below B w V5 by rw [hU];exact BB.out.setCell (p:=⟨w.heap.size,0,none⟩) hB _)
   replace KB:=aq (show ∀ b,b < w.heap.size->RowOff A b->V5.heap[b]?=w.heap[b]? from fun b h1 h2=>by rw [hU];exact (Below.heap_setCell _ ⟨w.heap.size,0,none⟩ _ b (by show b≠w.heap.size;omega)).trans (KB.out b h1 h2))
   have y5:V4.heap.size=V5.heap.size:=by rw [hU];simp
   rw [<-hU];clear hU z1 z2 zf1 zf2 BX;have BX:=BXn;clear BXn;refine hK.out _ _ (Or.inl (by kernel_rfl)) ?_;clear hK K
   try simp only [sZ]
   refine tkB 13 (Or.inl (by kernel_rfl)) ?_;refine tkB 14 (Or.inl (by kernel_rfl)) ?_;refine wpAnyUntil_ready (rs:=[15]) (by kernel_rfl) (by simp) ?_;refine AllReadyUntil.cons (o:=Oper.mk _ _ _ _ _ _) rfl (fun K hK=>?_) AllReadyUntil.nil;obtain⟨_,z1,z2,zf1,zf2⟩:=BX.out
   try simp only [List.length_append,List.length_cons,List.length_nil,Nat.zero_add] at z1 z2
   go_simp;obtain⟨V6,hU⟩:∃ U,U=V5.setCell ⟨w.heap.size,1,none⟩ (.slice (some ⟨gA,0,none⟩) (t.ats.length+1) cA):=⟨_,rfl⟩;have BXn:=aq (show HBox V6 w.heap.size (⟨t.gens++[0],t.ats++[-1]⟩:Ht) (⟨some ⟨gG,0,none⟩,some ⟨gA,0,none⟩,cG,cA⟩:HAds) by rw [hU];have h9:=BX.out.set1 (t':=⟨t.gens++[0],t.ats++[-1]⟩) (A':=⟨some ⟨gG,0,none⟩,some ⟨gA,0,none⟩,cG,cA⟩) rfl rfl rfl;simp only [List.length_append,List.length_cons,List.length_nil,Nat.zero_add] at h9;exact h9);replace BR:=aq (show HBox V6 (w.heap.size+1) Ht.zero hNone by rw [hU];exact BR.out.setOther (p:=⟨w.heap.size,1,none⟩) (by show w.heap.size≠w.heap.size+1;omega) _);replace BH:=aq (show PBox V6 (w.heap.size+1+1) (0,0) by rw [hU];exact BH.out.apart (p:=⟨w.heap.size,1,none⟩) (by show w.heap.size≠w.heap.size+1+1;omega) _);replace OG1:=aq (show V6.ownsRow B 3 1 (.slice (some ⟨gG,0,none⟩) (t.gens.length+1) cG) (t.gens.length+1) (t.gens.map (Value.int .i64)++[.int .i64 0]) by rw [hU];exact row_other OG1.out (p:=⟨w.heap.size,1,none⟩) (fun k hk=>by cases hk;show gG≠w.heap.size;omega) _);replace OA1:=aq (show V6.ownsRow B 3 1 (.slice (some ⟨gA,0,none⟩) (t.ats.length+1) cA) (t.ats.length+1) (t.ats.map (Value.int .i64)++[.int .i64 (-1)]) by rw [hU];exact row_other OA1.out (p:=⟨w.heap.size,1,none⟩) (fun k hk=>by cases hk;show gA≠w.heap.size;omega) _);replace BB:=aq (show Below B w V6 by rw [hU];exact BB.out.setCell (p:=⟨w.heap.size,1,none⟩) hB _)
   replace KB:=aq (show ∀ b,b < w.heap.size->RowOff A b->V6.heap[b]?=w.heap[b]? from fun b h1 h2=>by rw [hU];exact (Below.heap_setCell _ ⟨w.heap.size,1,none⟩ _ b (by show b≠w.heap.size;omega)).trans (KB.out b h1 h2))
   have y6:V5.heap.size=V6.heap.size:=by rw [hU];simp
   rw [<-hU];clear hU z1 z2 zf1 zf2 BX;have BX:=BXn;clear BXn;refine hK.out _ _ (Or.inl (by kernel_rfl)) ?_;clear hK K
   try simp only [sZ]
   refine wpAnyUntil_done (by kernel_rfl) ?_ _
   have nGA:gG≠gA:=by
    rcases wG.out with h | h
    ·rcases wA.out with h' | h'
     ·exact SB.out _ _ h h'
     ·have:=(ZG.out _ h).2;omega
    ·rcases wA.out with h' | h'
     ·have:=(ZA.out _ h').2;omega
     ·omega
   have OW:=aq (show HOwn V6 B (⟨t.gens++[0],t.ats++[-1]⟩:Ht) (⟨some ⟨gG,0,none⟩,some ⟨gA,0,none⟩,cG,cA⟩:HAds) by
    have h1:=OG1.out;have h2:=OA1.out;refine⟨New.of_own (n:=t.gens.length+1) (c:=cG) (e:=3) (by rw [List.map_append];exact h1),New.of_own (n:=t.ats.length+1) (c:=cA) (e:=3) (by rw [List.map_append];exact h2),⟨(fun e=>by cases e),(fun e=>by cases e),?_,?_⟩,Or.inr (Or.inr (fun x y hx hy=>by cases hx;cases hy;exact nGA))⟩
    ·simp;exact hcG
    ·simp;exact hcA)
   have OFFB:=aq (show ∀ b,b < w.heap.size->RowOff A b->b≠gG/\b≠gA from fun b h1 h2=>by
    refine⟨fun e=>?_,fun e=>?_⟩
    ·rcases wG.out with h | h
     ·exact rowOff_g h2 (by rw [e];exact h.symm)
     ·omega
    ·rcases wA.out with h | h
     ·exact rowOff_a h2 (by rw [e];exact h.symm)
     ·omega)
   obtain⟨M,hM⟩:∃ M:Ht,M=⟨t.gens++[0],t.ats++[-1]⟩:=⟨_,rfl⟩;have HK:=aq (show k < M.gens.length by rw [hM];have:=HKL.out;simp;omega);have HL1:=aq (show M.ats.length=M.gens.length by rw [hM];simp [LL.out]);have GK:=aq (show Hn.g M k=0 by rw [hM];unfold Hn.g;rw [HKL.out];simp);have FT:=aq (show Hn.given t p=⟨M.gens.set k 0,M.ats.set k p⟩ by rw [hM];exact FG.out);rw [<-hM] at BX OW
   have zz9:w.heap.size+3<=V6.heap.size:=by omega
   have hm9:(t.gens++[0]).length=M.gens.length/\(t.ats++[-1]).length=M.ats.length:=by rw [hM];exact⟨rfl,rfl⟩
   clear OG1 OA1 wG wA hM FG HKL SB ZG ZA LL LA' hm9;obtain⟨gb2,go2,e2,_,_,cg1,_,_⟩:=OW.out.setG (i:=k) HK.out
   cases e2
   rw [show (M).gens.getD k 0=0 from GK.out] at cg1;rw [Nat.zero_add] at cg1;obtain⟨_,p0,p1,_,_⟩:=BX.out
   try dsimp only at p0 p1
   have i1:=HK.out
   try dsimp only at i1
   go_upto_region 4 with (fail)
   obtain⟨T3,hT3⟩:∃ U,U=V6.alloc (.cells #[.int .i64 (k:Int),.int .i64 (0)] 39):=⟨_,rfl⟩
   have hb:Below V6.heap.size V6 T3:=by rw [hT3];exact (Below.refl _ _).alloc (Nat.le_refl _) _
   have BN:=aq (show PBox T3 V6.heap.size ((k:Int),0) by rw [hT3];exact PBox.new V6 ((k:Int),0) 39)
   have z3:T3.heap.size=V6.heap.size+1:=by rw [hT3];simp
   replace BX:=aq (BX.out.below hb);replace BR:=aq (BR.out.below hb);replace BH:=aq (BH.out.below hb);replace OW:=aq (OW.out.below hb);replace BB:=aq (BB.out.trans (hb.mono (by have:=BB.out.size;omega)));replace KB:=aq (show ∀ b,b < w.heap.size->RowOff (A) b->T3.heap[b]?=w.heap[b]? from fun b h1 h2=>(hb.block b (by omega)).trans (KB.out b h1 h2));rw [<-hT3];clear hT3 hb p0 p1 cg1;refine wp_region_held_drew (S:=fun w'=>w'.cell? ⟨w.heap.size,0,none⟩=some (.slice (some ⟨gG,0,none⟩) (M).gens.length (⟨some ⟨gG,0,none⟩,some ⟨gA,0,none⟩,cG,cA⟩:HAds).cg)/\w'.cell? ⟨w.heap.size,1,none⟩=some (.slice (some ⟨gA,0,none⟩) (M).ats.length (⟨some ⟨gG,0,none⟩,some ⟨gA,0,none⟩,cG,cA⟩:HAds).ca)/\w'.cell? ⟨V6.heap.size,0,none⟩=some (.int .i64 (k:Int))/\w'.cell? ⟨V6.heap.size,1,none⟩=some (.int .i64 (0))) (by kernel_rfl) (by exact⟨(BX.out.below ((Below.refl _ _).drew)).c0,(BX.out.below ((Below.refl _ _).drew)).c1,(BN.out.below ((Below.refl _ _).drew)).c0,(BN.out.below ((Below.refl _ _).drew)).c1⟩) (fun hHeld=>?_);obtain⟨T4,hV⟩:∃ V,V=T3.drew:=⟨_,rfl⟩;replace BX:=aq (show HBox T4 w.heap.size (M) (⟨some ⟨gG,0,none⟩,some ⟨gA,0,none⟩,cG,cA⟩:HAds) by rw [hV];exact BX.out.below ((Below.refl _ _).drew));replace BR:=aq (show HBox T4 (w.heap.size+1) Ht.zero hNone by rw [hV];exact BR.out.below ((Below.refl _ _).drew));replace BH:=aq (show PBox T4 (w.heap.size+1+1) (0,0) by rw [hV];exact BH.out.below ((Below.refl _ _).drew))
   replace BN:=aq (show PBox T4 V6.heap.size ((k:Int),0) by rw [hV];exact BN.out.below ((Below.refl _ _).drew));replace OW:=aq (show HOwn T4 B (M) (⟨some ⟨gG,0,none⟩,some ⟨gA,0,none⟩,cG,cA⟩:HAds) by rw [hV];exact OW.out.below ((Below.refl _ _).drew));replace BB:=aq (show Below B w T4 by rw [hV];exact BB.out.drew);replace KB:=aq (show ∀ b,b < w.heap.size->RowOff (A) b->T4.heap[b]?=w.heap[b]? from fun b h1 h2=>by rw [hV];exact KB.out b h1 h2)
   have z4:T4.heap.size=T3.heap.size:=by rw [hV];rfl
   rw [<-hV] at hHeld ⊢;clear hV;refine tk 0 ?_;refine tk 1 ?_;refine tk 2 ?_;refine tk 3 ?_;refine tk 4 ?_;refine tk 5 ?_;refine tk 7 ?_;refine rdH 6 fun K hK=>?_;go_simp;refine (hLay (M) (⟨some ⟨gG,0,none⟩,some ⟨gA,0,none⟩,cG,cA⟩:HAds) k (0) p B T4 OW.out (by have:=BB.out.size;omega) HK.out HL1.out).mono ?_;rintro e T5 ⟨rfl,own,hb,keep⟩;have z5:T4.heap.size<=T5.heap.size:=hb.size;have kp:∀ b,b < T4.heap.size->b≠gG->b≠gA->T5.heap[b]?=T4.heap[b]?:=fun b h1 h2 h3=>keep b h1 (fun q hq=>by cases hq;exact fun e=>h2 e.symm) (fun q hq=>by cases hq;exact fun e=>h3 e.symm);replace BX:=aq (BX.out.same (kp w.heap.size (by omega) (by omega) (by omega)) z5);replace BR:=aq (BR.out.same (kp (w.heap.size+1) (by omega) (by omega) (by omega)) z5);replace BH:=aq (BH.out.same (kp (w.heap.size+1+1) (by omega) (by omega) (by omega)) z5);replace BN:=aq (BN.out.same (kp V6.heap.size (by omega) (by omega) (by omega)) z5);replace OW:=aq own;replace BB:=aq (BB.out.trans hb);replace KB:=aq (show ∀ b,b < w.heap.size->RowOff (A) b->T5.heap[b]?=w.heap[b]? from fun b h1 h2=>(kp b (by omega) (OFFB.out b h1 h2).1 (OFFB.out b h1 h2).2).trans (KB.out b h1 h2));clear own hb keep kp
   try unfold hv
   try dsimp only
   refine hK.out _ _ (by exact⟨BX.out.c0,BX.out.c1,BN.out.c0,BN.out.c1⟩) (fun hHeldg1_7=>?_);clear hK K hHeld
   try simp only [sZ]
   refine rdH 8 fun K hK=>?_;obtain⟨_,y0,y1,yf0,yf1⟩:=BR.out
   try dsimp only [Ht.zero,hNone,List.length_nil] at y0 y1
   go_simp;obtain⟨T6,hU⟩:∃ U,U=wput2 T5 (w.heap.size+1) (.slice (some ⟨gG,0,none⟩) (M.gens.length) cG) (.slice (some ⟨gA,0,none⟩) (M.ats.length) cA):=⟨_,rfl⟩;have BYn:=aq (show HBox T6 (w.heap.size+1) ⟨(M).gens.set k (0),(M).ats.set k p⟩ (⟨some ⟨gG,0,none⟩,some ⟨gA,0,none⟩,cG,cA⟩:HAds) by rw [hU];have h9:=BR.out.put2 ⟨(M).gens.set k (0),(M).ats.set k p⟩ (⟨some ⟨gG,0,none⟩,some ⟨gA,0,none⟩,cG,cA⟩:HAds);(try simp only [List.length_set,List.length_append,List.length_cons,List.length_nil,Nat.zero_add] at h9);exact h9);replace BX:=aq (show HBox T6 w.heap.size (M) (⟨some ⟨gG,0,none⟩,some ⟨gA,0,none⟩,cG,cA⟩:HAds) by rw [hU];exact BX.out.put2o (by omega) _ _);replace BN:=aq (show PBox T6 V6.heap.size ((k:Int),0) by rw [hU];exact BN.out.put2o (by omega) _ _);replace BH:=aq (show PBox T6 (w.heap.size+1+1) (0,0) by rw [hU];exact BH.out.put2o (by omega) _ _);replace OW:=aq (show HOwn T6 B ⟨(M).gens.set k (0),(M).ats.set k p⟩ (⟨some ⟨gG,0,none⟩,some ⟨gA,0,none⟩,cG,cA⟩:HAds) by rw [hU];exact OW.out.put2o ⟨Or.inr (fun q hq=>by cases hq;show gG≠w.heap.size+1;omega),Or.inr (fun q hq=>by cases hq;show gA≠w.heap.size+1;omega)⟩ _ _);replace BB:=aq (show Below B w T6 by rw [hU];exact below_put2 BB.out (by omega) _ _);replace KB:=aq (show ∀ b,b < w.heap.size->RowOff (A) b->T6.heap[b]?=w.heap[b]? from fun b h1 h2=>by rw [hU];unfold wput2;exact (Below.heap_setCell _ ⟨w.heap.size+1,1,none⟩ _ b (by show b≠w.heap.size+1;omega)).trans ((Below.heap_setCell _ ⟨w.heap.size+1,0,none⟩ _ b (by show b≠w.heap.size+1;omega)).trans (KB.out b h1 h2)))
   unfold wput2 at hU
   try dsimp only at hU
   first | rw [<-hU] | skip
   clear hU y0 y1 yf0 yf1 BR;have BR:=BYn;clear BYn;refine hK.out _ _ (by exact⟨BX.out.c0,BX.out.c1,BN.out.c0,BN.out.c1⟩) (fun hHeldg1_8=>?_);clear hK K hHeldg1_7
   try simp only [sZ]
   refine rdH 9 fun K hK=>?_;obtain⟨_,y0,y1,yf0,yf1⟩:=BH.out
   try dsimp only [Ht.zero,hNone,List.length_nil] at y0 y1
   go_simp;obtain⟨T7,hU⟩:∃ U,U=wput2 T6 (w.heap.size+1+1) (.int .i64 (k:Int)) (.int .i64 (0)):=⟨_,rfl⟩;have BYn:=aq (show PBox T7 (w.heap.size+1+1) ((k:Int),0) by rw [hU];have h9:=BH.out.put2 ((k:Int),0);(try simp only [List.length_set,List.length_append,List.length_cons,List.length_nil,Nat.zero_add] at h9);exact h9);replace BX:=aq (show HBox T7 w.heap.size (M) (⟨some ⟨gG,0,none⟩,some ⟨gA,0,none⟩,cG,cA⟩:HAds) by rw [hU];exact BX.out.put2o (by omega) _ _);replace BN:=aq (show PBox T7 V6.heap.size ((k:Int),0) by rw [hU];exact BN.out.put2o (by omega) _ _);replace BR:=aq (show HBox T7 (w.heap.size+1) ⟨(M).gens.set k (0),(M).ats.set k p⟩ (⟨some ⟨gG,0,none⟩,some ⟨gA,0,none⟩,cG,cA⟩:HAds) by rw [hU];exact BR.out.put2o (by omega) _ _);replace OW:=aq (show HOwn T7 B ⟨(M).gens.set k (0),(M).ats.set k p⟩ (⟨some ⟨gG,0,none⟩,some ⟨gA,0,none⟩,cG,cA⟩:HAds) by rw [hU];exact OW.out.put2o ⟨Or.inr (fun q hq=>by cases hq;show gG≠w.heap.size+1+1;omega),Or.inr (fun q hq=>by cases hq;show gA≠w.heap.size+1+1;omega)⟩ _ _);replace BB:=aq (show Below B w T7 by rw [hU];exact below_put2 BB.out (by omega) _ _);replace KB:=aq (show ∀ b,b < w.heap.size->RowOff (A) b->T7.heap[b]?=w.heap[b]? from fun b h1 h2=>by rw [hU];unfold wput2;exact (Below.heap_setCell _ ⟨w.heap.size+1+1,1,none⟩ _ b (by show b≠w.heap.size+1+1;omega)).trans ((Below.heap_setCell _ ⟨w.heap.size+1+1,0,none⟩ _ b (by show b≠w.heap.size+1+1;omega)).trans (KB.out b h1 h2)))
   unfold wput2 at hU
   try dsimp only at hU
   first | rw [<-hU] | skip
   clear hU y0 y1 yf0 yf1 BH;have BH:=BYn;clear BYn;refine hK.out _ _ (by exact⟨BX.out.c0,BX.out.c1,BN.out.c0,BN.out.c1⟩) (fun hHeldg1_9=>?_);clear hK K hHeldg1_8
   try simp only [sZ]
   refine wpAnyH_done (by kernel_rfl) ?_ _;obtain⟨_,s0,s1,_,_⟩:=BR.out;obtain⟨_,v0,v1,_,_⟩:=BH.out
   try simp only [List.length_set,List.length_append,List.length_cons,List.length_nil,Nat.zero_add] at s0 s1
   try dsimp only at v0 v1
   go_wp2;refine bodyPost_ret (v:=.tuple #[hv ⟨(M).gens.set k (0),(M).ats.set k p⟩ (⟨some ⟨gG,0,none⟩,some ⟨gA,0,none⟩,cG,cA⟩:HAds),pv ((k:Int),0)]) (by simp [results,Tryz.results117,go_sem,hv,pv,s0,s1,v0,v1]) rfl ?_;unfold GivePost;rw [FT.out,FH.out];exact⟨_,rfl,OW.out,BB.out,KB.out,fun b h1 h2=>⟨fun q hq=>by cases hq;exact fun e=>(OFFB.out b h1 h2).1 e.symm,fun q hq=>by cases hq;exact fun e=>(OFFB.out b h1 h2).2 e.symm⟩⟩
end Go.Proofs.YtpeckljoannolaaGreatDoor
