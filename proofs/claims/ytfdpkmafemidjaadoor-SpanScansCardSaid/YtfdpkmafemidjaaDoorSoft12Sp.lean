/- Pairs of a row of one's own that are written over, key by key. No program is named here. -/
import Derived.Test.YtfdpkmafemidjaaDoorM08Sp
import Derived.Test.YtfdpkmafemidjaaDoorTkSp
set_option linter.unusedVariables false
set_option linter.unusedSimpArgs false
namespace Go.Proofs.YtfdpkmafemidjaaDoor
open Go.RowKit
def KeysJ (U:Nat) (A:Option Addr) (n:Nat) (W:World) (i:Value) (wr:World):Prop:=∃ k:Nat,k<=n/\i=.int .i64 k/\Below U W wr/\Soft .i64 wr A (n*2)
theorem soft_keys {w:World} {B:Nat} {e:TypeId} {v:Value} {ps:List (Int×Int)} (h:w.ownsRow B e 2 v ps.length (pcells ps)) :
  ∃ A c,v=.slice A ps.length c/\PLst w A ps/\Soft .i64 w A (ps.length*2)/\From B w.heap.size A (ps.length*2):=by
 obtain⟨A,c,rfl,hC,_,hblk,_⟩:=own_cells h;refine⟨A,c,rfl,hC,?_,?_⟩
 ·rcases hC with h0 | ⟨b,off,hA,hlt,hc⟩
  ·left
   have:=pcells_length ps;rw [h0] at this
   simpa using this.symm
  ·subst hA
   obtain⟨_,ho,_⟩:=hblk _ rfl
   dsimp only at ho
   subst ho;refine Or.inr ⟨b,0,rfl,hlt,fun i hi=>⟨?_,h.frozenAt _⟩⟩;rw [hc i (by rw [pcells_length];exact hi)];have hp:=pcells_at ps (i/2) (by omega)
   rcases Nat.mod_two_eq_zero_or_one i with h2 | h2
   ·have e:i=i/2*2:=by omega
    rw [e,hp.1];exact⟨_,rfl⟩
   ·have e:i=i/2*2+1:=by omega
    rw [e,hp.2];exact⟨_,rfl⟩
 ·exact Or.inr fun p hp=>⟨(hblk p hp).1,(hblk p hp).2.2⟩
theorem keysJ_step {U:Nat} {A:Option Addr} {n k:Nat} {W wr:World} (hB:Below U W wr) (hS:Soft .i64 wr A (n*2)) (hf:∀ p,A=some p->U<=p.block) (hk:k < n) :
  ∃ b off z,A=some ⟨b,off,none⟩/\wr.cell? ⟨b,off+k*2,none⟩=some (.int .i64 z)/\wr.frozen? ⟨b,off+k*2,none⟩=false/\∀ x,Below U W (wr.setCell ⟨b,off+k*2,none⟩ (.int .i64 x))/\Soft .i64 (wr.setCell ⟨b,off+k*2,none⟩ (.int .i64 x)) A (n*2):=by
 rcases hS with h0 | ⟨b,off,h1,h2,h3⟩
 ·omega
 obtain⟨⟨z,hz⟩,hfz⟩:=h3 (k*2) (by omega);exact⟨b,off,z,h1,hz,hfz,fun x=>⟨hB.setCell (p:=⟨b,off+k*2,none⟩) (hf ⟨b,off,none⟩ h1) _,Soft.set (Or.inr ⟨b,off,h1,h2,h3⟩) hz x⟩⟩
end Go.Proofs.YtfdpkmafemidjaaDoor
