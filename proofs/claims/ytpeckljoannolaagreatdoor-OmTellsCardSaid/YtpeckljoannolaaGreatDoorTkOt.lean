/- One step of a region that draws its order, with what it asks paid by the usual tactics. No program is named here. -/
import Derived.OrdersHeld
import Derived.Deep.RegionHeld
import Derived.OrdersIn
import Derived.WalkKit
import Derived.Lib.Hide
set_option linter.unusedVariables false
set_option linter.unusedSimpArgs false
namespace Go.Proofs.YtpeckljoannolaaGreatDoor
theorem tk {P:Program} {md:Region.Mode} {ops:Array Oper} {Q:Exit->Act->World->Prop} {S:World->Prop} (i:Nat) {a1:Option Tmp} {a2:Op} {a3:TypeId} {a4:String} {a5:Array Edge} {a6:Option (Nat×Bool)} {v:Value} {fuel:Nat} {listed:Array Bool} {a:Act} {w:World}
  {A2:Act} (h:wpAnyH P md ops Q S fuel (listed.setIfInBounds i true) A2 w)
  (hi:ops[i]?=some (Oper.mk a1 a2 a3 a4 a5 a6):=by rfl) (hs:Region.noSelect ops=true:=by kernel_rfl) (hf:Region.free md ops listed i=true:=by kernel_rfl) (hr:(Region.ready md ops listed).contains i=true:=by kernel_rfl)
  (hQ:∀ c a w,Q (.panic c) (a.put a1 v) w->Q (.panic c) a w:=by exact fun _ _ _ h=>h)
  (hw:Region.wanted (Oper.mk a1 a2 a3 a4 a5 a6) (yielded ops a.tmps)=true:=by rfl)
  (hy:∀ w,S w->(execOp a.eval (Oper.mk a1 a2 a3 a4 a5 a6)).run P w=.ok (.value v) w:=by
   intro w0 hSw
   try dsimp only at hSw
   go_simp
   all_goals with_reducible rfl)
  (hA:a.put a1 v=A2:=by (try simp only [Act.put,List.setIfInBounds_toArray,List.set_cons_zero,List.set_cons_succ])<;>rfl)
  (hS:S w:=by assumption):wpAnyH P md ops Q S (fuel+1) listed a w :=
 wpAnyH_take hi hs hf hr hQ (Or.inl ⟨hw,hy⟩) hS (by rw [hA];exact h)
theorem tk2 {P:Program} {md:Region.Mode} {ops:Array Oper} {Q:Exit->Act->World->Prop} {S:World->Prop} (i:Nat) {a1:Option Tmp} {a2:Op} {a3:TypeId} {a4:String} {a5:Array Edge} {a6:Option (Nat×Bool)} {v:Value} {fuel:Nat} {listed:Array Bool} {a:Act} {w:World}
  {A2:Act} (h:wpAnyH P md ops Q S fuel (listed.setIfInBounds i true) A2 w)
  (hi:ops[i]?=some (Oper.mk a1 a2 a3 a4 a5 a6):=by rfl) (hs:Region.noSelect ops=true:=by kernel_rfl) (hf:Region.free md ops listed i=true:=by kernel_rfl) (hr:(Region.ready md ops listed).contains i=true:=by kernel_rfl)
  (hQ:∀ c a w,Q (.panic c) (a.put a1 v) w->Q (.panic c) a w:=by exact fun _ _ _ h=>h)
  (hw:Region.wanted (Oper.mk a1 a2 a3 a4 a5 a6) (yielded ops a.tmps)=true:=by rfl)
  (hy:∀ w,S w->(execOp a.eval (Oper.mk a1 a2 a3 a4 a5 a6)).run P w=.ok (.value v) w:=by
   intro w0 hSw
   obtain⟨t0,t1⟩:=hSw
   go_simp
   all_goals with_reducible rfl)
  (hA:a.put a1 v=A2:=by (try simp only [Act.put,List.setIfInBounds_toArray,List.set_cons_zero,List.set_cons_succ])<;>rfl)
  (hS:S w:=by assumption):wpAnyH P md ops Q S (fuel+1) listed a w :=
 wpAnyH_take hi hs hf hr hQ (Or.inl ⟨hw,hy⟩) hS (by rw [hA];exact h)
theorem tk4 {P:Program} {md:Region.Mode} {ops:Array Oper} {Q:Exit->Act->World->Prop} {S:World->Prop} (i:Nat) {a1:Option Tmp} {a2:Op} {a3:TypeId} {a4:String} {a5:Array Edge} {a6:Option (Nat×Bool)} {v:Value} {fuel:Nat} {listed:Array Bool} {a:Act} {w:World}
  {A2:Act} (h:wpAnyH P md ops Q S fuel (listed.setIfInBounds i true) A2 w)
  (hi:ops[i]?=some (Oper.mk a1 a2 a3 a4 a5 a6):=by rfl) (hs:Region.noSelect ops=true:=by kernel_rfl) (hf:Region.free md ops listed i=true:=by kernel_rfl) (hr:(Region.ready md ops listed).contains i=true:=by kernel_rfl)
  (hQ:∀ c a w,Q (.panic c) (a.put a1 v) w->Q (.panic c) a w:=by exact fun _ _ _ h=>h)
  (hw:Region.wanted (Oper.mk a1 a2 a3 a4 a5 a6) (yielded ops a.tmps)=true:=by rfl)
  (hy:∀ w,S w->(execOp a.eval (Oper.mk a1 a2 a3 a4 a5 a6)).run P w=.ok (.value v) w:=by
   intro w0 hSw
   obtain⟨t0,t1,t2,t3⟩:=hSw
   go_simp
   all_goals with_reducible rfl)
  (hA:a.put a1 v=A2:=by (try simp only [Act.put,List.setIfInBounds_toArray,List.set_cons_zero,List.set_cons_succ])<;>rfl)
  (hS:S w:=by assumption):wpAnyH P md ops Q S (fuel+1) listed a w :=
 wpAnyH_take hi hs hf hr hQ (Or.inl ⟨hw,hy⟩) hS (by rw [hA];exact h)
theorem tk6 {P:Program} {md:Region.Mode} {ops:Array Oper} {Q:Exit->Act->World->Prop} {S:World->Prop} (i:Nat) {a1:Option Tmp} {a2:Op} {a3:TypeId} {a4:String} {a5:Array Edge} {a6:Option (Nat×Bool)} {v:Value} {fuel:Nat} {listed:Array Bool} {a:Act} {w:World}
  {A2:Act} (h:wpAnyH P md ops Q S fuel (listed.setIfInBounds i true) A2 w)
  (hi:ops[i]?=some (Oper.mk a1 a2 a3 a4 a5 a6):=by rfl) (hs:Region.noSelect ops=true:=by kernel_rfl) (hf:Region.free md ops listed i=true:=by kernel_rfl) (hr:(Region.ready md ops listed).contains i=true:=by kernel_rfl)
  (hQ:∀ c a w,Q (.panic c) (a.put a1 v) w->Q (.panic c) a w:=by exact fun _ _ _ h=>h)
  (hw:Region.wanted (Oper.mk a1 a2 a3 a4 a5 a6) (yielded ops a.tmps)=true:=by rfl)
  (hy:∀ w,S w->(execOp a.eval (Oper.mk a1 a2 a3 a4 a5 a6)).run P w=.ok (.value v) w:=by
   intro w0 hSw
   obtain⟨t0,t1,t2,t3,t4,t5⟩:=hSw
   go_simp
   all_goals with_reducible rfl)
  (hA:a.put a1 v=A2:=by (try simp only [Act.put,List.setIfInBounds_toArray,List.set_cons_zero,List.set_cons_succ])<;>rfl)
  (hS:S w:=by assumption):wpAnyH P md ops Q S (fuel+1) listed a w :=
 wpAnyH_take hi hs hf hr hQ (Or.inl ⟨hw,hy⟩) hS (by rw [hA];exact h)
theorem tk0 {P:Program} {md:Region.Mode} {ops:Array Oper} {Q:Exit->Act->World->Prop} {S:World->Prop} (i:Nat) {a1:Option Tmp} {a2:Op} {a3:TypeId} {a4:String} {a5:Array Edge} {a6:Option (Nat×Bool)} {fuel:Nat} {listed:Array Bool} {a:Act} {w:World}
  {A2:Act} (h:wpAnyH P md ops Q S fuel (listed.setIfInBounds i true) A2 w)
  (hi:ops[i]?=some (Oper.mk a1 a2 a3 a4 a5 a6):=by rfl) (hs:Region.noSelect ops=true:=by kernel_rfl) (hf:Region.free md ops listed i=true:=by kernel_rfl) (hr:(Region.ready md ops listed).contains i=true:=by kernel_rfl)
  (hQ:∀ c a w,Q (.panic c) (a.put a1 undef) w->Q (.panic c) a w:=by exact fun _ _ _ h=>h)
  (hw:Region.wanted (Oper.mk a1 a2 a3 a4 a5 a6) (yielded ops a.tmps)=false:=by rfl)
  (hA:a.put a1 undef=A2:=by (try simp only [Act.put,List.setIfInBounds_toArray,List.set_cons_zero,List.set_cons_succ])<;>rfl)
  (hS:S w:=by assumption):wpAnyH P md ops Q S (fuel+1) listed a w :=
 wpAnyH_take hi hs hf hr hQ (Or.inr ⟨hw,rfl⟩) hS (by rw [hA];exact h)
theorem rdH {P:Program} {md:Region.Mode} {ops:Array Oper} {Q:Exit->Act->World->Prop} {S:World->Prop} (i:Nat) {a1:Option Tmp} {a2:Op} {a3:TypeId} {a4:String} {a5:Array Edge} {a6:Option (Nat×Bool)} {fuel:Nat} {listed:Array Bool} {a:Act} {w:World}
  (h:∀ K':Act->World->Prop,Shut (∀ a w,S w->(S w->wpAnyH P md ops Q S fuel (listed.setIfInBounds i true) a w)->K' a w)->if Region.wanted (Oper.mk a1 a2 a3 a4 a5 a6) (yielded ops a.tmps)=true then Oper.wp P (Oper.mk a1 a2 a3 a4 a5 a6) a w K' Q else K' (a.put (Oper.mk a1 a2 a3 a4 a5 a6).dst undef) w)
  (hi:ops[i]?=some (Oper.mk a1 a2 a3 a4 a5 a6):=by rfl) (hr:Region.ready md ops listed=[i]:=by kernel_rfl):wpAnyH P md ops Q S (fuel+1) listed a w :=
 wpAnyH_ready hr (by simp) (AllReadyH.cons hi h AllReadyH.nil)
theorem cH {P:Program} {md:Region.Mode} {ops:Array Oper} {Q:Exit->Act->World->Prop} {S:World->Prop} {i:Nat} {rs:List Nat} {a1:Option Tmp} {a2:Op} {a3:TypeId} {a4:String} {a5:Array Edge} {a6:Option (Nat×Bool)} {fuel:Nat} {listed:Array Bool} {a:Act} {w:World}
  (h:∀ K':Act->World->Prop,Shut (∀ a w,S w->(S w->wpAnyH P md ops Q S fuel (listed.setIfInBounds i true) a w)->K' a w)->if Region.wanted (Oper.mk a1 a2 a3 a4 a5 a6) (yielded ops a.tmps)=true then Oper.wp P (Oper.mk a1 a2 a3 a4 a5 a6) a w K' Q else K' (a.put (Oper.mk a1 a2 a3 a4 a5 a6).dst undef) w)
  (hs:AllReadyH P md ops Q S fuel listed a w rs) (hi:ops[i]?=some (Oper.mk a1 a2 a3 a4 a5 a6):=by rfl):AllReadyH P md ops Q S fuel listed a w (i::rs):=AllReadyH.cons hi h hs
theorem rdI {F:Fence} {n:Nat} {P:Program} {md:Region.Mode} {ops:Array Oper} {Q:Exit->Act->World->Prop} (i:Nat) {a1:Option Tmp} {a2:Op} {a3:TypeId} {a4:String} {a5:Array Edge} {a6:Option (Nat×Bool)} {fuel:Nat} {listed:Array Bool} {a:Act} {w:World}
  (h:∀ K':Act->World->Prop,(∀ a w,wpAnyIn F n P md ops Q fuel (listed.setIfInBounds i true) a w->K' a w)->if Region.wanted (Oper.mk a1 a2 a3 a4 a5 a6) (yielded ops a.tmps)=true then Oper.wpIn F n P (Oper.mk a1 a2 a3 a4 a5 a6) a w K' Q else (∀ f,(Oper.mk a1 a2 a3 a4 a5 a6).about P w a.eval=some f->F.fn f)/\K' (a.put (Oper.mk a1 a2 a3 a4 a5 a6).dst undef) w)
  (hi:ops[i]?=some (Oper.mk a1 a2 a3 a4 a5 a6):=by rfl) (hr:Region.ready md ops listed=[i]:=by kernel_rfl):wpAnyIn F n P md ops Q (fuel+1) listed a w :=
 wpAnyIn_ready hr (by simp) (AllReadyIn.cons hi h AllReadyIn.nil)
theorem cI {F:Fence} {n:Nat} {P:Program} {md:Region.Mode} {ops:Array Oper} {Q:Exit->Act->World->Prop} {i:Nat} {rs:List Nat} {a1:Option Tmp} {a2:Op} {a3:TypeId} {a4:String} {a5:Array Edge} {a6:Option (Nat×Bool)} {fuel:Nat} {listed:Array Bool} {a:Act} {w:World}
  (h:∀ K':Act->World->Prop,(∀ a w,wpAnyIn F n P md ops Q fuel (listed.setIfInBounds i true) a w->K' a w)->if Region.wanted (Oper.mk a1 a2 a3 a4 a5 a6) (yielded ops a.tmps)=true then Oper.wpIn F n P (Oper.mk a1 a2 a3 a4 a5 a6) a w K' Q else (∀ f,(Oper.mk a1 a2 a3 a4 a5 a6).about P w a.eval=some f->F.fn f)/\K' (a.put (Oper.mk a1 a2 a3 a4 a5 a6).dst undef) w)
  (hs:AllReadyIn F n P md ops Q fuel listed a w rs) (hi:ops[i]?=some (Oper.mk a1 a2 a3 a4 a5 a6):=by rfl):AllReadyIn F n P md ops Q fuel listed a w (i::rs):=AllReadyIn.cons hi h hs
theorem sP (a:Act) (d:Tmp) (v:Value):a.put (some d) v={ a with tmps:=a.tmps.setIfInBounds d v }:=rfl
theorem sQ (a:Act) (v:Value):a.put none v=a:=rfl
theorem sA {α:Type} (l:List α) (i:Nat) (x:α):l.toArray.setIfInBounds i x=(l.set i x).toArray:=List.setIfInBounds_toArray ..
theorem sB {α:Type} (x y:α) (l:List α):(x::l).set 0 y=y::l:=rfl
theorem sC {α:Type} (x y:α) (l:List α) (i:Nat):(x::l).set (i+1) y=x::l.set i y:=rfl
theorem sZ:(∀ (a:Act) (d:Tmp) (v:Value),a.put (some d) v={ a with tmps:=a.tmps.setIfInBounds d v })/\(∀ (a:Act) (v:Value),a.put none v=a)/\(∀ (l:List Value) (i:Nat) (x:Value),l.toArray.setIfInBounds i x=(l.set i x).toArray)/\(∀ (x y:Value) (l:List Value),(x::l).set 0 y=y::l)/\(∀ (x y:Value) (l:List Value) (i:Nat),(x::l).set (i+1) y=x::l.set i y):=⟨sP,sQ,sA,sB,sC⟩
theorem sf6 {P:Nat->Prop} (h:∀ o,P o):P 0/\P 1/\P 2/\P 3/\P 4/\P 5:=⟨h 0,h 1,h 2,h 3,h 4,h 5⟩
theorem aq {p:Prop} (h:p):RowKit.Hid p:=h
end Go.Proofs.YtpeckljoannolaaGreatDoor
