/- Regions in which what is read is written over, and package handle's check. -/
import Derived.Test.YtpeckljoannolaaGreatDoorTkOc
import Derived.Test.YtpeckljoannolaaGreatDoorS14Oc
import Derived.Deep.CutRange
import Derived.Deep.RegionHeld
import Derived.Test.YtpeckljoannolaaGreatDoorM04Oc
set_option linter.unusedVariables false
set_option linter.unusedSimpArgs false
set_option maxHeartbeats 8000000
set_option maxRecDepth 100000
namespace Go.Proofs.YtpeckljoannolaaGreatDoor
open Go.RowKit
theorem HBox.same {w w':World} {b:Nat} {t:Ht} {A:HAds} (h:HBox w b t A) (e:w'.heap[b]?=w.heap[b]?) (hs:w.heap.size<=w'.heap.size):HBox w' b t A :=
 ⟨Nat.lt_of_lt_of_le h.lt hs,(World.cell?_of_block (a:=⟨b,0,none⟩) e).trans h.c0,(World.cell?_of_block (a:=⟨b,1,none⟩) e).trans h.c1,(World.frozen?_of_block (a:=⟨b,0,none⟩) e).trans h.f0,(World.frozen?_of_block (a:=⟨b,1,none⟩) e).trans h.f1⟩
theorem PBox.same {w w':World} {b:Nat} {x:Int×Int} (h:PBox w b x) (e:w'.heap[b]?=w.heap[b]?) (hs:w.heap.size<=w'.heap.size):PBox w' b x :=
 ⟨Nat.lt_of_lt_of_le h.lt hs,(World.cell?_of_block (a:=⟨b,0,none⟩) e).trans h.c0,(World.cell?_of_block (a:=⟨b,1,none⟩) e).trans h.c1,(World.frozen?_of_block (a:=⟨b,0,none⟩) e).trans h.f0,(World.frozen?_of_block (a:=⟨b,1,none⟩) e).trans h.f1⟩
def CopPost (t:Ht) (w:World) (e:Ending) (w':World):Prop:=∃ A,e=.returned (hv t A)/\HRows 3 w' w.heap.size t A/\Below w.heap.size w w'
theorem hCopied (t:Ht) (A:HAds) (w:World) (h:HHeld w t A) (hs:t.Short) :
  Calls Tryz.prog 116 #[hv t A] w (CopPost t w):=by
 have CT:=aq (fun V (hb:Below w.heap.size w V)=>hTwinR t A V (h.below hb) hs);have HX:=aq (fun x=>(HBox.new w t A 31).below ((Below.refl _ _).alloc (Nat.le_refl _) x));have HY:=aq (fun x=>HBox.new (w.alloc x) Ht.zero hNone 152);clear h hs;unfold hv at CT ⊢
 go_enter Tryz.func116,Tryz.ntmps116
 go_upto_region 1 with (fail)
 obtain⟨W1,hW1⟩:∃ W,W=(w.alloc (.cells #[.slice A.g t.gens.length A.cg,.slice A.a t.ats.length A.ca] 31)).alloc (.cells #[.slice none 0 0,.slice none 0 0] 152):=⟨_,rfl⟩;have BX:=aq (show HBox W1 w.heap.size t A by rw [hW1];exact HX.out _);have BR:=aq (show HBox W1 (w.heap.size+1) Ht.zero hNone by rw [hW1];have:=HY.out (.cells #[.slice A.g t.gens.length A.cg,.slice A.a t.ats.length A.ca] 31);rw [World.size_alloc] at this;exact this);have BB:=aq (show Below w.heap.size w W1 by rw [hW1];exact ((Below.refl _ _).alloc (Nat.le_refl _) _).alloc (by simp) _)
 have zz:w.heap.size+2<=W1.heap.size:=by rw [hW1];simp
 rw [<-hW1];clear hW1 HX HY;obtain⟨_,p0,p1,_,_⟩:=BX.out
 go_wp2_with fail
 refine (CT.out _ BB.out).mono ?_;rintro e W2 ⟨A1,rfl,own,hb⟩;have OR:=aq own;have BR2:=aq (BR.out.below hb);have BB2:=aq (BB.out.trans (hb.mono BB.out.size));clear own hb p0 p1 BX CT;obtain⟨_,q0,q1,qf0,qf1⟩:=BR2.out
 dsimp only [Ht.zero,hNone,List.length_nil] at q0 q1
 unfold hv;go_wp2;obtain⟨U,hU⟩:∃ U,U=wput2 W2 (w.heap.size+1) (.slice A1.g t.gens.length A1.cg) (.slice A1.a t.ats.length A1.ca):=⟨_,rfl⟩;have BY:=aq (show HBox U (w.heap.size+1) t A1 by rw [hU];exact BR2.out.put2 t A1);have OZ:=aq (show HRows 3 U w.heap.size t A1 by rw [hU];exact (OR.out.put2 (by omega) _ _).lower (by omega));have BZ:=aq (show Below w.heap.size w U by rw [hU];exact below_put2 BB2.out (by omega) _ _);unfold wput2 at hU;rw [<-hU];clear hU q0 q1 qf0 qf1;obtain⟨_,s0,s1,_,_⟩:=BY.out;refine bodyPost_ret (v:=hv t A1) (by simp [results,Tryz.results116,go_sem,hv,s0,s1]) rfl ⟨_,rfl,OZ.out,BZ.out⟩
def LayPost (t:Ht) (A:HAds) (k:Nat) (g a:Int) (B:Nat) (w:World) (e:Ending) (w':World):Prop :=
 e=.returned (hv ⟨t.gens.set k g,t.ats.set k a⟩ A)/\HOwn w' B ⟨t.gens.set k g,t.ats.set k a⟩ A/\Below B w w'/\∀ b,b < w.heap.size->(∀ p,A.g=some p->p.block≠b)->(∀ p,A.a=some p->p.block≠b)->w'.heap[b]?=w.heap[b]?
theorem hLay (t:Ht) (A:HAds) (k:Nat) (g a:Int) (B:Nat) (w:World) (own:HOwn w B t A) (hB:B<=w.heap.size) (hk:k < t.gens.length) (hl:t.ats.length=t.gens.length) :
  Calls Tryz.prog 151 #[hv t A,.int .i64 k,.agg #[.int .i64 g,.int .i64 a]] w (LayPost t A k g a B w):=by
 have HX:=aq (fun x y=>((HBox.new w t A 152).below ((Below.refl _ _).alloc (Nat.le_refl _) x)).below ((Below.refl _ _).alloc (Nat.le_refl _) y));have HN:=aq (fun x y=>(PBox.new (w.alloc x) (g,a) 126).below ((Below.refl _ _).alloc (Nat.le_refl _) y));have HY:=aq (fun x y=>HBox.new ((w.alloc x).alloc y) Ht.zero hNone 31);have LL:=aq hl;clear hl;unfold hv
 go_enter Tryz.func151,Tryz.ntmps151
 go_upto_region 1 with (fail)
 obtain⟨W1,hW1⟩:∃ W,W=((w.alloc (.cells #[.slice A.g t.gens.length A.cg,.slice A.a t.ats.length A.ca] 152)).alloc (.cells #[.int .i64 g,.int .i64 a] 126)).alloc (.cells #[.slice none 0 0,.slice none 0 0] 31):=⟨_,rfl⟩;have BX:=aq (show HBox W1 w.heap.size t A by rw [hW1];exact HX.out _ _);have BN:=aq (show PBox W1 (w.heap.size+1) (g,a) by rw [hW1];have:=HN.out (.cells #[.slice A.g t.gens.length A.cg,.slice A.a t.ats.length A.ca] 152) (.cells #[.slice none 0 0,.slice none 0 0] 31);rw [World.size_alloc] at this;exact this);have BR:=aq (show HBox W1 (w.heap.size+1+1) Ht.zero hNone by rw [hW1];have:=HY.out (.cells #[.slice A.g t.gens.length A.cg,.slice A.a t.ats.length A.ca] 152) (.cells #[.int .i64 g,.int .i64 a] 126);rw [World.size_alloc,World.size_alloc] at this;exact this)
 have b1:Below w.heap.size w W1:=by rw [hW1];exact (((Below.refl _ _).alloc (Nat.le_refl _) _).alloc (by simp) _).alloc (by simp;omega) _
 have zz:w.heap.size+3<=W1.heap.size:=by rw [hW1];simp
 have O1:=aq (own.below b1);have BB:=aq (Below.mono b1 hB);have KB:=aq (fun b (hb:b < w.heap.size)=>b1.block b hb);rw [<-hW1];clear hW1 HX HN HY;obtain⟨gb,go,hAg,hg1,hg2,_⟩:=own.setG hk;obtain⟨ab,ao,hAa,ha1,ha2,_⟩:=own.setA (i:=k) (by have:=LL.out;omega);clear own b1;obtain⟨ag,aa,cg,ca⟩:=A
 dsimp only at hAg hAa BX O1 ⊢
 subst hAg hAa;refine wp_region_held_drew (S:=fun w'=>w'.cell? ⟨w.heap.size,0,none⟩=some (.slice (some ⟨gb,go,none⟩) t.gens.length cg)/\w'.cell? ⟨w.heap.size,1,none⟩=some (.slice (some ⟨ab,ao,none⟩) t.ats.length ca)/\w'.cell? ⟨w.heap.size+1,0,none⟩=some (.int .i64 g)/\w'.cell? ⟨w.heap.size+1,1,none⟩=some (.int .i64 a)) (by kernel_rfl) (by exact⟨(BX.out.below ((Below.refl _ _).drew)).c0,(BX.out.below ((Below.refl _ _).drew)).c1,(BN.out.below ((Below.refl _ _).drew)).c0,(BN.out.below ((Below.refl _ _).drew)).c1⟩) (fun hHeld=>?_);obtain⟨V0,hV0⟩:∃ V,V=W1.drew:=⟨_,rfl⟩;replace BX:=aq (show HBox V0 w.heap.size t ⟨some ⟨gb,go,none⟩,some ⟨ab,ao,none⟩,cg,ca⟩ by rw [hV0];exact BX.out.below ((Below.refl _ _).drew));replace BN:=aq (show PBox V0 (w.heap.size+1) (g,a) by rw [hV0];exact BN.out.below ((Below.refl _ _).drew));replace BR:=aq (show HBox V0 (w.heap.size+1+1) Ht.zero hNone by rw [hV0];exact BR.out.below ((Below.refl _ _).drew));replace BB:=aq (show Below B w V0 by rw [hV0];exact BB.out.drew);replace KB:=aq (show ∀ b,b < w.heap.size->b≠gb->b≠ab->V0.heap[b]?=w.heap[b]? from fun b h1 _ _=>by rw [hV0];exact KB.out b h1)
 have O0:=show HOwn V0 B t ⟨some ⟨gb,go,none⟩,some ⟨ab,ao,none⟩,cg,ca⟩ by rw [hV0];exact O1.out.below ((Below.refl _ _).drew)
 rw [<-hV0] at hHeld ⊢;clear hV0 O1;obtain⟨gb2,go2,e2,_,_,cg1,fg1,sg⟩:=O0.setG hk
 cases e2
 have CG:=aq cg1;have FG:=aq fg1;have SG:=aq sg;clear cg1 fg1 sg O0
 have i1:(k:Int) < (t.gens.length:Int):=by omega
 have i2:(k:Int) < (t.ats.length:Int):=by have:=LL.out;omega
 refine tk 0 ?_;refine tk 1 ?_;refine tk 2 ?_;refine tk 3 ?_;refine tk 4 ?_;refine tk 5 ?_;refine tk 6 ?_;refine tk 7 ?_;refine tk 8 ?_;refine tk 9 ?_;refine tk 10 ?_;refine tk 11 ?_;refine tk 12 ?_;refine rdH 13 fun K hK=>?_;have fc:=CG.out;have ff:=FG.out;go_simp;obtain⟨U1,hU⟩:∃ U,U=V0.setCell ⟨gb,go+k,none⟩ (.int .i64 g):=⟨_,rfl⟩;have OY:=aq (show HOwn U1 B ⟨t.gens.set k g,t.ats⟩ ⟨some ⟨gb,go,none⟩,some ⟨ab,ao,none⟩,cg,ca⟩ by rw [hU];exact SG.out g);replace BX:=aq (show HBox U1 w.heap.size t ⟨some ⟨gb,go,none⟩,some ⟨ab,ao,none⟩,cg,ca⟩ by rw [hU];exact BX.out.setOther (p:=⟨gb,go+k,none⟩) (by show gb≠w.heap.size;omega) _);replace BN:=aq (show PBox U1 (w.heap.size+1) (g,a) by rw [hU];exact BN.out.apart (p:=⟨gb,go+k,none⟩) (by show gb≠w.heap.size+1;omega) _);replace BR:=aq (show HBox U1 (w.heap.size+1+1) Ht.zero hNone by rw [hU];exact BR.out.setOther (p:=⟨gb,go+k,none⟩) (by show gb≠w.heap.size+1+1;omega) _);replace BB:=aq (show Below B w U1 by rw [hU];exact BB.out.setCell (p:=⟨gb,go+k,none⟩) (by show B<=gb;omega) _);replace KB:=aq (show ∀ b,b < w.heap.size->b≠gb->b≠ab->U1.heap[b]?=w.heap[b]? from fun b h1 h2 h3=>by rw [hU];exact (Below.heap_setCell V0 ⟨gb,go+k,none⟩ _ b (by show b≠gb;assumption)).trans (KB.out b h1 h2 h3));rw [<-hU];clear hU;clear fc ff CG FG SG;obtain⟨ab2,ao2,e2,_,_,ca1,fa1,sa⟩:=OY.out.setA (i:=k) (by show k < t.ats.length;have:=LL.out;omega)
 cases e2
 have CA:=aq ca1;have FA:=aq fa1;have SA:=aq (sa a);clear ca1 fa1 sa OY;refine hK.out _ _ (by exact⟨BX.out.c0,BX.out.c1,BN.out.c0,BN.out.c1⟩) (fun hHeldl13=>?_);clear hK K hHeld
 try simp only [sZ]
 refine tk 14 ?_;refine rdH 15 fun K hK=>?_;have fc:=CA.out;have ff:=FA.out;go_simp;obtain⟨U2,hU⟩:∃ U,U=U1.setCell ⟨ab,ao+k,none⟩ (.int .i64 a):=⟨_,rfl⟩;have OY:=aq (show HOwn U2 B ⟨t.gens.set k g,t.ats.set k a⟩ ⟨some ⟨gb,go,none⟩,some ⟨ab,ao,none⟩,cg,ca⟩ by rw [hU];exact SA.out);replace BX:=aq (show HBox U2 w.heap.size t ⟨some ⟨gb,go,none⟩,some ⟨ab,ao,none⟩,cg,ca⟩ by rw [hU];exact BX.out.setOther (p:=⟨ab,ao+k,none⟩) (by show ab≠w.heap.size;omega) _);replace BN:=aq (show PBox U2 (w.heap.size+1) (g,a) by rw [hU];exact BN.out.apart (p:=⟨ab,ao+k,none⟩) (by show ab≠w.heap.size+1;omega) _);replace BR:=aq (show HBox U2 (w.heap.size+1+1) Ht.zero hNone by rw [hU];exact BR.out.setOther (p:=⟨ab,ao+k,none⟩) (by show ab≠w.heap.size+1+1;omega) _);replace BB:=aq (show Below B w U2 by rw [hU];exact BB.out.setCell (p:=⟨ab,ao+k,none⟩) (by show B<=ab;omega) _);replace KB:=aq (show ∀ b,b < w.heap.size->b≠gb->b≠ab->U2.heap[b]?=w.heap[b]? from fun b h1 h2 h3=>by rw [hU];exact (Below.heap_setCell U1 ⟨ab,ao+k,none⟩ _ b (by show b≠ab;assumption)).trans (KB.out b h1 h2 h3));rw [<-hU];clear hU;clear fc ff CA FA SA;refine hK.out _ _ (by exact⟨BX.out.c0,BX.out.c1,BN.out.c0,BN.out.c1⟩) (fun hHeldl15=>?_);clear hK K hHeldl13
 try simp only [sZ]
 refine wpAnyH_done (by kernel_rfl) ?_ _;obtain⟨_,p0,p1,_,_⟩:=BX.out;obtain⟨_,q0,q1,qf0,qf1⟩:=BR.out
 dsimp only [Ht.zero,hNone,List.length_nil] at p0 p1 q0 q1
 go_wp2;obtain⟨U,hU⟩:∃ U,U=wput2 U2 (w.heap.size+1+1) (.slice (some ⟨gb,go,none⟩) t.gens.length cg) (.slice (some ⟨ab,ao,none⟩) t.ats.length ca):=⟨_,rfl⟩;have BY:=aq (show HBox U (w.heap.size+1+1) t ⟨some ⟨gb,go,none⟩,some ⟨ab,ao,none⟩,cg,ca⟩ by rw [hU];exact BR.out.put2 t ⟨some ⟨gb,go,none⟩,some ⟨ab,ao,none⟩,cg,ca⟩);have OZ:=aq (show HOwn U B ⟨t.gens.set k g,t.ats.set k a⟩ ⟨some ⟨gb,go,none⟩,some ⟨ab,ao,none⟩,cg,ca⟩ by rw [hU];exact OY.out.put2o ⟨Or.inr (fun p hp=>by cases hp;show gb≠w.heap.size+1+1;omega),Or.inr (fun p hp=>by cases hp;show ab≠w.heap.size+1+1;omega)⟩ _ _);have BZ:=aq (show Below B w U by rw [hU];exact below_put2 BB.out (by omega) _ _);have KZ:=aq (show ∀ b,b < w.heap.size->b≠gb->b≠ab->U.heap[b]?=w.heap[b]? from fun b h1 h2 h3=>by rw [hU];unfold wput2;exact (Below.heap_setCell _ ⟨w.heap.size+1+1,1,none⟩ _ b (by show b≠w.heap.size+1+1;omega)).trans ((Below.heap_setCell _ ⟨w.heap.size+1+1,0,none⟩ _ b (by show b≠w.heap.size+1+1;omega)).trans (KB.out b h1 h2 h3)));unfold wput2 at hU;rw [<-hU];clear hU p0 p1 q0 q1 qf0 qf1;obtain⟨_,s0,s1,_,_⟩:=BY.out
 dsimp only at s0 s1
 refine bodyPost_ret (v:=hv ⟨t.gens.set k g,t.ats.set k a⟩ ⟨some ⟨gb,go,none⟩,some ⟨ab,ao,none⟩,cg,ca⟩) (by simp [results,Tryz.results151,go_sem,hv,s0,s1]) rfl ⟨rfl,OZ.out,BZ.out,fun b h1 h2 h3=>KZ.out b h1 (fun e=>h2 _ rfl e.symm) (fun e=>h3 _ rfl e.symm)⟩
end Go.Proofs.YtpeckljoannolaaGreatDoor
namespace Go
section
variable {P:Program} {ops:Array Oper} {Q:Exit->Act->World->Prop} {md:Region.Mode} {S:World->Prop}
def wpAnyUntil (P:Program) (md:Region.Mode) (ops:Array Oper) (Q:Exit->Act->World->Prop) (S:World->Prop) (q:Nat):Nat->Array Bool->Act->World->Prop
 | 0,listed,a,w=>Region.ready md ops listed=[]/\Q .normal a w
 | fuel+1,listed,a,w =>
  (Region.ready md ops listed=[]->Q .normal a w) /\
  ∀ i∈Region.ready md ops listed,wpOp P ops Q i (fun a' w'=>((listed.setIfInBounds i true).getD q true=true∨S w')/\wpAnyUntil P md ops Q S q fuel (listed.setIfInBounds i true) a' w') a w
theorem wpAny_of_until {q:Nat}:∀ (fuel:Nat) (listed:Array Bool) (a:Act) (w:World),wpAnyUntil P md ops Q S q fuel listed a w->wpAny P md ops Q fuel listed a w
 | 0,_,_,_,h=>h
 | fuel+1,_,_,_,h=>⟨h.1,fun i hi=>wpOp_mono (fun a' w' h'=>wpAny_of_until fuel _ a' w' h'.2) (h.2 i hi)⟩
theorem wpAnyUntil_first {q i:Nat} {oi:Oper} {v:Value} {T:World->Prop} {G:Array Bool->Prop} (hi:ops[i]?=some oi) (hsel:∀ (j:Nat) (o:Oper) cs b,ops[j]?=some o->o.op≠.select cs b)
  (hQ:∀ c a w,Q (.panic c) (a.put oi.dst v) w->Q (.panic c) a w)
  (hG:∀ listed j,G listed->i∈Region.ready md ops listed->j∈Region.ready md ops listed->j≠i->G (listed.setIfInBounds j true))
  (hiq:i≠q) (hT:∀ listed w,G listed->(listed.getD q true=true∨S w)->T w) :
  ∀ (fuel:Nat) (listed:Array Bool) (a:Act) (w:World),G listed ->
   (∀ j oj,ops[j]?=some oj->j≠i->listed.getD j true=false->(∀ e∈oj.after,Region.binds md e=true->e.on≠i)->oi.apart ops oj=true) ->
   i∈Region.ready md ops listed->YieldsIf P ops T oi v a->(listed.getD q true=true∨S w) ->
   wpAnyUntil P md ops Q S q fuel (listed.setIfInBounds i true) (a.put oi.dst v) w->wpAnyUntil P md ops Q S q (fuel+1) listed a w:=by
 intro fuel
 induction fuel with
 | zero =>
  intro listed a w g _ hr hy hS H;refine⟨fun h=>(by rw [h] at hr;cases hr),fun j hj=>?_⟩
  by_cases hji:j=i
  ·subst hji;exact hy.wpOp hi (hT _ _ g hS) ⟨by rw [getD_set_ne true (Ne.symm hiq).symm];exact hS,H⟩
  ·have:=ready_mono hj hji
   rw [H.1] at this
   cases this
 | succ fuel ih =>
  intro listed a w g hfree hr hy hS H;refine⟨fun h=>(by rw [h] at hr;cases hr),fun j hj=>?_⟩
  by_cases hji:j=i
  ·subst hji;exact hy.wpOp hi (hT _ _ g hS) ⟨by rw [getD_set_ne true (Ne.symm hiq).symm];exact hS,H⟩
  ·have h1:=H.2 j (ready_mono hj hji)
   obtain⟨hjun,oj,hoj,hall⟩:=mem_ready.1 hj
   have hnot:∀ e∈oj.after,Region.binds md e=true->e.on≠i:=fun e he hb heq=>by
    have h1:=hall e he hb;have h0:=(mem_ready.1 hr).1;rw [heq] at h1
    rcases Nat.lt_or_ge i listed.size with h' | h'
    ·simp [h'] at h0 h1;rw [h0] at h1;cases h1
    ·simp [Array.getElem?_eq_none h'] at h1
   have g2:=hG listed j g hr hj hji;have h2:=wpOp_putIf hoj (hfree j oj hoj hji hjun hnot) (fun cs b=>hsel i oi cs b hi) (fun cs b=>hsel j oj cs b hoj) hQ hy h1;have hfree':∀ k ok,ops[k]?=some ok->k≠i->(listed.setIfInBounds j true).getD k true=false ->
     (∀ e∈ok.after,Region.binds md e=true->e.on≠i)->oi.apart ops ok=true:=fun k ok hk hki hun hno=>by
    refine hfree k ok hk hki ?_ hno
    by_cases hjk:j=k
    ·subst hjk;exact hjun
    ·rw [getD_set_ne true hjk] at hun;exact hun
   refine wpOp_mono (fun a' w' h3=>?_) h2
   have h30:(listed.setIfInBounds j true).getD q true=true∨S w':=by
    have:=h3.2.1
    rwa [Array.setIfInBounds_comm _ _ (Ne.symm hji),getD_set_ne true hiq] at this
   refine⟨h30,ih (listed.setIfInBounds j true) a' w' g2 hfree' (ready_mono hr (Ne.symm hji)) h3.1 h30 ?_⟩;rw [Array.setIfInBounds_comm _ _ hji];exact h3.2.2
def waitsForB (md:Region.Mode) (ops:Array Oper) (q i:Nat):Bool:=match ops[q]? with
 | some oq=>oq.after.any fun e=>Region.binds md e&&(e.on==i)
 | none=>false
theorem wpAnyUntil_take {q i:Nat} {oi:Oper} {v:Value} {fuel:Nat} {listed:Array Bool} {a:Act} {w:World} (hi:ops[i]?=some oi)
  (hs:Region.noSelect ops=true) (hf:Region.free md ops listed i=true) (hr:(Region.ready md ops listed).contains i=true) (hw:waitsForB md ops q i=true) (hq:listed.getD q true=false)
  (hQ:∀ c a w,Q (.panic c) (a.put oi.dst v) w->Q (.panic c) a w) (hy:YieldsIf P ops S oi v a) (hS:S w)
  (h:wpAnyUntil P md ops Q S q fuel (listed.setIfInBounds i true) (a.put oi.dst v) w):wpAnyUntil P md ops Q S q (fuel+1) listed a w:=by
 unfold waitsForB at hw
 split at hw
 ·rename_i oq hoq
  obtain⟨e,he,heb⟩:=Array.any_eq_true'.1 hw
  simp only [Bool.and_eq_true,beq_iff_eq] at heb
  have notq:∀ listed,i∈Region.ready md ops listed->¬ q∈Region.ready md ops listed:=fun listed h1 h2=>by
   obtain⟨_,o2,ho2,hall⟩:=mem_ready.1 h2;rw [hoq] at ho2
   injection ho2 with ho2
   subst ho2;have h3:=hall e he heb.1;have h0:=(mem_ready.1 h1).1;rw [heb.2] at h3
   rcases Nat.lt_or_ge i listed.size with h' | h'
   ·simp [h'] at h0 h3;rw [h0] at h3;cases h3
   ·simp [Array.getElem?_eq_none h'] at h3
  have hir:i∈Region.ready md ops listed:=by simpa using hr
  have hiq:i≠q:=fun e=>notq listed hir (e▸hir);refine wpAnyUntil_first (T:=S) (G:=fun l=>l.getD q true=false) hi (Region.noSelect_spec hs) hQ (fun l j g h1 h2 h3=>?_) hiq (fun l w g h=>?_) fuel listed a w hq (Region.free_spec hi hf) hir hy (Or.inr hS) h
  ·rw [getD_set_ne true (fun e=>notq l h1 (by rw [<-e];exact h2))];exact g
  ·rcases h with h | h
   ·rw [g] at h;cases h
   ·exact h
 ·cases hw
theorem wpAnyUntil_bare {q i:Nat} {oi:Oper} {v:Value} {fuel:Nat} {listed:Array Bool} {a:Act} {w:World} (hi:ops[i]?=some oi)
  (hs:Region.noSelect ops=true) (hf:Region.free md ops listed i=true) (hr:(Region.ready md ops listed).contains i=true) (hiq:i≠q)
  (hQ:∀ c a w,Q (.panic c) (a.put oi.dst v) w->Q (.panic c) a w) (hy:YieldsIf P ops (fun _=>True) oi v a) (hS:listed.getD q true=true∨S w)
  (h:wpAnyUntil P md ops Q S q fuel (listed.setIfInBounds i true) (a.put oi.dst v) w):wpAnyUntil P md ops Q S q (fuel+1) listed a w :=
 wpAnyUntil_first (T:=fun _=>True) (G:=fun _=>True) hi (Region.noSelect_spec hs) hQ (fun _ _ _ _ _ _=>trivial) hiq (fun _ _ _ _=>trivial) fuel listed a w trivial (Region.free_spec hi hf) (by simpa using hr) hy hS h
def AllReadyUntil (P:Program) (md:Region.Mode) (ops:Array Oper) (Q:Exit->Act->World->Prop) (S:World->Prop) (q fuel:Nat) (listed:Array Bool) (a:Act) (w:World) (rs:List Nat):Prop :=
 ∀ i∈rs,wpOp P ops Q i (fun a' w'=>((listed.setIfInBounds i true).getD q true=true∨S w')/\wpAnyUntil P md ops Q S q fuel (listed.setIfInBounds i true) a' w') a w
theorem AllReadyUntil.nil {q fuel:Nat} {listed:Array Bool} {a:Act} {w:World}:AllReadyUntil P md ops Q S q fuel listed a w []:=fun _ h=>by cases h
theorem AllReadyUntil.cons {q fuel:Nat} {listed:Array Bool} {a:Act} {w:World} {i:Nat} {o:Oper} {rs:List Nat} (ho:ops[i]?=some o)
  (h:∀ K':Act->World->Prop,Shut (∀ a w,((listed.setIfInBounds i true).getD q true=true∨S w)->wpAnyUntil P md ops Q S q fuel (listed.setIfInBounds i true) a w->K' a w)->if Region.wanted o (yielded ops a.tmps)=true then Oper.wp P o a w K' Q else K' (a.put o.dst undef) w)
  (hs:AllReadyUntil P md ops Q S q fuel listed a w rs):AllReadyUntil P md ops Q S q fuel listed a w (i::rs):=fun j hj=>by
 rcases List.mem_cons.1 hj with rfl | hj
 ·exact wpOp_step ho (fun K' hK=>h K' (fun a w hS hW=>hK a w ⟨hS,hW⟩))
 ·exact hs j hj
theorem wpAnyUntil_ready {q:Nat} {rs:List Nat} {fuel:Nat} {listed:Array Bool} {a:Act} {w:World} (hr:Region.ready md ops listed=rs) (hne:rs≠[])
  (h:AllReadyUntil P md ops Q S q fuel listed a w rs):wpAnyUntil P md ops Q S q (fuel+1) listed a w:=⟨fun h0=>absurd (hr▸h0) hne,hr▸h⟩
theorem wpAnyUntil_done {q:Nat} {listed:Array Bool} {a:Act} {w:World} (hr:Region.ready md ops listed=[]) (h:Q .normal a w) :
  ∀ fuel,wpAnyUntil P md ops Q S q fuel listed a w
 | 0=>⟨hr,h⟩
 | _+1=>⟨fun _=>h,by rw [hr];simp⟩
theorem wp_region_heldUntil {id:Nat} {a:Act} {w:World} (q:Nat) (S:World->Prop) (hm:P.follows .mixedOrders=true) (hS:S w.drew)
  (h:S w.drew->wpAnyUntil P .any ops Q S q ops.size (Array.replicate ops.size false) a w.drew):(Code.region id ops true).wp P Q a w :=
 wp_region_any hm (wpAny_of_until _ _ _ _ (h hS))
end
end Go
namespace Go.Proofs.YtpeckljoannolaaGreatDoor
open Go.RowKit
theorem run_append_where {P:Program} (w:World) {T ty E:TypeId} {z:Value} {bytes:Nat} (hE:Elem P T E z 1 bytes) (base n:Nat) (v:Value) (xs:List Value) (hown:w.ownsRow base E 1 v n xs) (u:Value) (ad:Addr) (c:Nat) (hu:w.cell? ad=some u) (h1:u.oneCell'=true) (hbase:base<=w.heap.size) (h63:n+1<=maxLen) (hby:(n+1)*bytes<=140737488355328) :
  ∃ v' w',(Builtin.append_ #[T,T] ty #[v,.slice (some ad) 1 c]).run P w=.ok v' w'/\w'.ownsRow base E 1 v' (n+1) (xs++[u])/\w.grownBy w' v.ownBlock/\∀ k,v'.ownBlock=some k->v.ownBlock=some k∨k=w.heap.size:=by
 obtain⟨i0,hi0,hz0,hz1,hz2⟩:=hE.info
 have hnews:∀ j y,[u][j]?=some y->w.cell? (ad.add j)=some y:=by
  intro j y hj
  match j,hj with
  | 0,hj=>simp at hj;subst hj;rw [show ad.add 0=ad from by obtain⟨b,o,e⟩:=ad;unfold Addr.add;split<;>simp_all];exact hu
 have hones:∀ y∈[u],y.oneCell'=true:=fun y hy=>by simp at hy;subst hy;exact h1
 obtain⟨v',w',hr,h2,h3,_⟩:=run_append_own (P:=P) w base T ty E i0 z 1 bytes hE.und hi0 hz0 hz1 hz2 hE.zero hE.pos v n xs hown ad 1 c [u] rfl hnews hones h63 hby hbase;refine⟨v',w',hr,h2,h3,fun k hk=>?_⟩
 rcases hown.2 with⟨rfl,rfl⟩ | ⟨g,cap,cur,rfl,hbg,hg,hnc,hcm,hcs,htake⟩
 ·have hr2:=run_append_nil (P:=P) w T ty E i0 z hE.und hi0 hz0 ad 1 c [u] (by rw [hz1];rfl) hnews (by omega) (by omega) (by rw [hz2];simpa using (by omega:1*bytes<=281474976710656))
  rw [hr] at hr2
  injection hr2 with e1 e2
  rw [e1] at hk
  simp [Value.ownBlock] at hk
  exact Or.inr hk.symm
 ·by_cases hroom:n+1<=cap
  ·have hfit:n*i0.size+[u].length<=cur.size:=by rw [hcs,hz1];simp;omega
   have hr2:=run_append_room (P:=P) w T ty E i0 hE.und hi0 g n cap cur hg ad 1 c [u] (by rw [hz1];rfl) hnews hones hroom hfit;rw [hr] at hr2
   injection hr2 with e1 e2
   rw [e1] at hk;exact Or.inl hk
  ·have holds:∀ j u,xs[j]?=some u->w.cell? ((⟨g,0,none⟩:Addr).add j)=some u:=hown.cells (g:=g) rfl
   have hr2:=run_append_grow (P:=P) w T ty E i0 z hE.und hi0 hz0 ⟨g,0,none⟩ n cap xs (by rw [hz1];exact hown.1) holds ad 1 c [u] (by rw [hz1];rfl) hnews (by omega) (by unfold maxLen at h63;omega) (growslice_fits (by omega) (by rw [hz2];exact hby));rw [hr] at hr2
   injection hr2 with e1 e2
   rw [e1] at hk
   simp [Value.ownBlock] at hk
   exact Or.inr hk.symm
end Go.Proofs.YtpeckljoannolaaGreatDoor
