/- A range over a function that yields whatever values: as in RangeK, where numbers are yielded; the loop's variable may lie in a box of each round. No program is named here. -/
import Derived.Test.YtpeckljoannolaaGreatDoorM11Ot
import Derived.Test.YtpeckljoannolaaGreatDoorTkOt
set_option linter.unusedVariables false
set_option linter.unusedSimpArgs false
namespace Go.Proofs.YtpeckljoannolaaGreatDoor
open Go.RowKit Go.Shelf
def SeqQ {α:Type} (enc:α->Array Value) (P:Program) (gf:Nat) (lb:Array Value) (Z:Nat->Prop) (L:List α) (w:World):Prop :=
 ∀ (l:Nat) (J Jx:List α->World->Prop) (W:World),Below w.heap.size w W->AbidesFrom W.heap.size J->AbidesFrom W.heap.size Jx ->
  (∀ (pre:List α) (x:α) (W1:World),J pre W1->pre++[x] <+: L->YieldAt Fence.wide 7 P l (enc x) W1 fun e W'=>(e=.returned (.bool true)/\J (pre++[x]) W'/\Kept Z W1 W')∨(e=.returned (.bool false)/\Jx (pre++[x]) W')) ->
  J [] W->CallsIn Fence.wide 8 P gf (#[.func (.yield l) #[] #[]]++lb) W fun e W'=>(∃ v,e=.returned v)/\(J L W'∨∃ pre,pre <+: L/\Jx pre W')
abbrev RoundPostQ {α:Type} (Z:Nat->Prop) (I:List α->World->Prop) (Ix:Code->List α->World->Prop) (xs:List α) (W:World):Exit->Act->World->Prop:=ownPostK (Kept Z) I Ix xs W
theorem own_abidesQ {α:Type} {I:List α->World->Prop} {B n:Nat} (h:OwnFrom B I) (hn:B<=n) {s:List α} {A W:World} {row:Option Nat} (hs:I s A) (hg:A.grownBy W row) (hr:∀ q,row=some q->n<=q/\∃ o:Obj,A.heap[q]?=some o/\o.isWalk=true):I s W :=
 h s A W row hs hg fun q e=>by obtain⟨h1,o,h2,h3⟩:=hr q e;exact⟨by omega,o,h2,Obj.not_cells_of_walk h3⟩
theorem wpIn_rangeQ {α:Type} {enc:α->Array Value} {ps:Array Tmp} (hps:∀ x,(enc x).size=ps.size) {P:Program} {g:Operand} {assign body:Code} {Q:Exit->Act->World->Prop} {a:Act} {w:World}
  {gf:Nat} {lb:Array Value} (hg:a.eval g=.func (.func gf) #[] lb) (eg:∀ args w,(callFunc gf args).run P w=.ok (.enter gf args) w)
  {Z:Nat->Prop} {L:List α} (hseq:SeqQ enc P gf lb Z L w) (hz:∀ k,Z k->k < w.heap.size)
  (I:List α->World->Prop) (Ix:Code->List α->World->Prop) (hI:OwnFrom w.heap.size I) (hIx:∀ c,OwnFrom w.heap.size (Ix c)) (h0:I [] w) (A:World->α->Act) (G:World->α->World) (hG:∀ W x,Below W.heap.size W (G W x))
  (hassign:∀ (l:Nat) (x:α) (W:World) (K:Act->World->Prop),K (A W x) (G W x) ->
   assign.wpIn (Fence.wide.inRound l) 7 P (Exit.then K (fun _ _ _=>False)) { tmps:=(ps.zip (enc x)).foldl (fun t (p,v)=>t.setIfInBounds p v) a.tmps,defers:=[] } W)
  (hbody:∀ (l:Nat) (pre:List α) (x:α) (W W':World),I pre W'->pre++[x] <+: L->Over (G W x) W'->W'.heap.size=(G W x).heap.size->body.wpIn (Fence.wide.inRound l) 7 P (RoundPostQ Z I Ix (pre++[x]) W') (A W x) W')
  (hdone:∀ (D:Nat) (W:World),w.heap.size<=D->I L W->W.heap[D]?=some (.deferred (some []))->Q .normal { a with defers:={ target:=.collected D,args:=#[] }::a.defers } W)
  (hstop:∀ (D:Nat) (c:Code) (pre:List α) (W:World),w.heap.size<=D->pre <+: L->Ix c pre W->W.heap[D]?=some (.deferred (some []))->c.wpIn Fence.wide 9 P Q { a with defers:={ target:=.collected D,args:=#[] }::a.defers } W) :
  (Code.rangeFunc g ps assign body).wpIn Fence.wide 9 P Q a w:=by
 refine wpIn_rangeFunc fun fn hfn=>?_;obtain⟨B,hB⟩:∃ B,B=w.heap.size:=⟨_,rfl⟩;obtain⟨R,hR⟩:∃ R:LoopState->Option Code->Loop,R=fun st pe=>{ state:=st,pending:=pe,fn,tmps:=a.tmps,params:=ps,assign,body,defers:=B }:=⟨_,rfl⟩;obtain⟨V,hV⟩:∃ V,V=(w.alloc (.deferred (some []))).alloc (.loop (R .ready none)):=⟨_,rfl⟩
 have sV:V.heap.size=B+2:=by rw [hV,hB];simp
 have bV:Below w.heap.size w V:=by rw [hV];exact ((Below.refl _ _).alloc (Nat.le_refl _) _).alloc (by simp) _
 have LV:AtLoop B (R .ready none) V:=by
  rw [hV,hB];refine⟨?_,(Below.heap_alloc _ _ _ (by simp)).trans (World.alloc_heap_new w _)⟩;have:=World.alloc_heap_new (w.alloc (.deferred (some []))) (.loop (R .ready none))
  rwa [World.size_alloc] at this
 have IV:I [] V:=by rw [hV];exact hI.alloc _ (hI.alloc _ h0)
 have put:∀ {s W} (r r':Loop),AtLoop B r W->I s W->I s (W.putObj (B+1) (.loop r')):=fun r r' h hs=>hI.putObj _ hs (by omega) h.loop rfl;have putx:∀ {c s W} (r r':Loop),AtLoop B r W->Ix c s W->Ix c s (W.putObj (B+1) (.loop r')):=fun r r' h hs=>(hIx _).putObj _ hs (by omega) h.loop rfl;have kp:∀ {W} (r r':Loop),AtLoop B r W->Kept Z W (W.putObj (B+1) (.loop r')):=fun r r' h=>keptK_b hz _ _ _ _ (by omega) h.loop rfl rfl
 have enter:(Instr.enterLoop fn a.tmps ps assign body Fence.wide.round).run P w=.ok (B+1,[{ target:=.collected B,args:=#[] }]) V:=by
  rw [hV,hR,hB];exact run_enterLoop_outer _ _ _ _ _
 refine⟨B+1,[{ target:=.collected B,args:=#[] }],V,{ target:=.fn (.func gf) lb,args:=#[.func (.yield (B+1)) #[] #[]] },V,gf,#[.func (.yield (B+1)) #[] #[]]++lb,V,enter,?_,fun _ _=>trivial,?_,fun _=>by decide,?_⟩
 ·simp only [resolve,hg];simp [go_sem]
 ·simp [invoke,go_sem,eg]
 refine (hseq (B+1) (fun s W=>I s W/\AtLoop B (R .ready none) W) (fun s W=>∃ c,Ix c s W/\AtLoop B (R .done (some c)) W) V bV
  (fun s A W row hs hg' hr=>⟨own_abidesQ hI (by omega) hs.1 hg' hr,hs.2.grown (by omega) hg' hr⟩)
  (fun s A W row ⟨c,hc,hl⟩ hg' hr=>⟨c,own_abidesQ (hIx c) (by omega) hc hg' hr,hl.grown (by omega) hg' hr⟩) ?_ ⟨IV,LV⟩).mono ?_
 ·rintro pre x W ⟨hi,hl⟩ hpre
  have hy:=run_yield (P:=P) (args:=enc x) hl.loop (by rw [hR];exact hps x);have hlt:=(Array.getElem?_eq_some_iff.1 hl.loop).1;have hgb:=hG W x;have hlG:AtLoop B (R .ready none) (G W x):=⟨(hgb.block _ hlt).trans hl.loop,(hgb.block _ (by omega)).trans hl.mark⟩;have hiG:I pre (G W x):=hI pre W (G W x) none hi ⟨hgb.os,hgb.tape,hgb.output,hgb.size,fun k hk _=>hgb.block k hk⟩ (fun r e=>by cases e);have kG:Kept Z W (G W x):=Kept.of_below hgb (fun k hk=>by have:=hz k hk;omega);have oG:Over (G W x) ((G W x).putObj (B+1) (.loop (R .busy none))):=Over.of_grown (n:=0) (grownBy_putObj' (G W x) (B+1) (.loop (R .busy none))) (fun r e=>by cases e;exact⟨Nat.zero_le _,_,hlG.loop,rfl⟩);have hbusy:=hlG.put (R .busy none);rw [hR] at hy;refine⟨fn,_,assign,body,hy,roundIn_of_wpIn hfn ?_⟩;have hbegin:=run_beginRound (P:=P) hlG.loop (by rw [hR])
  have e1:({ R .ready none with state:=.busy }:Loop)=R .busy none:=by rw [hR]
  rw [e1] at hbegin;refine hassign _ x W _ ?_;refine⟨_,hbegin,?_⟩;refine wpIn_mono (hbody _ pre x W _ (put _ _ hlG hiG) hpre oG (by simp)) ?_
  have stop:∀ (jump:Option Code) (W3:World),KeepsOthers ((G W x).putObj (B+1) (.loop (R .busy none))) W3->(Instr.endRound (B+1) jump).run P W3=.ok (.bool jump.isNone) (W3.putObj (B+1) (.loop (R (if jump.isNone then .ready else .done) jump))):=fun jump W3 hk=>by
   have:=run_endRound (P:=P) jump (hbusy.keeps hk).loop;rw [hR] at this ⊢;exact this
  intro ex a3 W3 hp
  cases ex with
  | normal=>exact⟨_,_,stop none W3 hp.1,.inl ⟨rfl,⟨put _ _ (hbusy.keeps hp.1) hp.2.2,(hbusy.keeps hp.1).put _⟩,((kG.trans (kp _ _ hlG)).trans hp.2.1).trans (kp _ _ (hbusy.keeps hp.1))⟩⟩
  | ret=>exact⟨_,_,stop (some .ret) W3 hp.1,.inr ⟨rfl,_,putx _ _ (hbusy.keeps hp.1) hp.2,(hbusy.keeps hp.1).put _⟩⟩
  | exit id=>exact⟨_,_,stop (some (.exit id)) W3 hp.1,.inr ⟨rfl,_,putx _ _ (hbusy.keeps hp.1) hp.2,(hbusy.keeps hp.1).put _⟩⟩
  | goto t=>exact⟨_,_,stop (some (.goto t)) W3 hp.1,.inr ⟨rfl,_,putx _ _ (hbusy.keeps hp.1) hp.2,(hbusy.keeps hp.1).put _⟩⟩
  | panic ch=>exact hp.elim
  | outgrown=>exact hp.elim
 ·rintro e W2 ⟨⟨v,rfl⟩,(⟨hi,hl⟩ | ⟨pre,hp,c,hi,hl⟩)⟩
  ·have q:=run_endLoop (P:=P) hl.loop (by rw [hR];simp)
   exact⟨none,_,q.trans (by rw [hR]),hdone B _ (by omega) (put _ _ hl hi) (hl.put _).mark⟩
  ·have q:=run_endLoop (P:=P) hl.loop (by rw [hR];simp)
   exact⟨some c,_,q.trans (by rw [hR]),hstop B c pre _ (by omega) hp (putx _ _ hl hi) (hl.put _).mark⟩
theorem wp_rangeQ {α:Type} {enc:α->Array Value} {ps:Array Tmp} (hps:∀ x,(enc x).size=ps.size) {P:Program} {g:Operand} {assign body:Code} {Q:Exit->Act->World->Prop} {a:Act} {w:World}
  {gf:Nat} {lb:Array Value} (hg:a.eval g=.func (.func gf) #[] lb) (eg:∀ args w,(callFunc gf args).run P w=.ok (.enter gf args) w)
  {Z:Nat->Prop} {L:List α} (hseq:SeqQ enc P gf lb Z L w) (hz:∀ k,Z k->k < w.heap.size)
  (I:List α->World->Prop) (Ix:Code->List α->World->Prop) (hI:OwnFrom w.heap.size I) (hIx:∀ c,OwnFrom w.heap.size (Ix c)) (h0:I [] w) (A:World->α->Act) (G:World->α->World) (hG:∀ W x,Below W.heap.size W (G W x))
  (hassign:∀ (l:Nat) (x:α) (W:World) (K:Act->World->Prop),K (A W x) (G W x) ->
   assign.wpIn (Fence.wide.inRound l) 7 P (Exit.then K (fun _ _ _=>False)) { tmps:=(ps.zip (enc x)).foldl (fun t (p,v)=>t.setIfInBounds p v) a.tmps,defers:=[] } W)
  (hbody:∀ (l:Nat) (pre:List α) (x:α) (W W':World),I pre W'->pre++[x] <+: L->Over (G W x) W'->W'.heap.size=(G W x).heap.size->body.wpIn (Fence.wide.inRound l) 7 P (RoundPostQ Z I Ix (pre++[x]) W') (A W x) W')
  (hdone:∀ (D:Nat) (W:World),w.heap.size<=D->I L W->W.heap[D]?=some (.deferred (some []))->Q .normal { a with defers:={ target:=.collected D,args:=#[] }::a.defers } W)
  (hstop:∀ (D:Nat) (c:Code) (pre:List α) (W:World),w.heap.size<=D->pre <+: L->Ix c pre W->W.heap[D]?=some (.deferred (some []))->c.wp P Q { a with defers:={ target:=.collected D,args:=#[] }::a.defers } W) :
  (Code.rangeFunc g ps assign body).wp P Q a w :=
 wpIn_wide.1 (wpIn_rangeQ hps hg eg hseq hz I Ix hI hIx h0 A G hG hassign hbody hdone (fun D c pre W h1 h2 h3 h4=>wpIn_wide.2 (hstop D c pre W h1 h2 h3 h4)))
end Go.Proofs.YtpeckljoannolaaGreatDoor
