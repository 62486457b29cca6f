/- The plain functions of layer 8 (lay): what its calls answer, of plain gapped arrays. No program is named here. -/
import Derived.Test.YtmmkaabefofdeaaDoorM01
import Derived.Test.YtmmkaabefofdeaaDoorFn074
namespace Go.Proofs.YtmmkaabefofdeaaDoor
set_option linter.unusedVariables false

namespace Ly
/-- Pairs spread over a part. -/
def spreadS (s : Sl) (a b : Int) (l : List (Int × Int)) : Sl := s.filled a b (Sp.ofs l.length a b) l
def evenS (s : Sl) (a b : Int) : Sl := if s.pairsE a b = 0 then spreadS s a b (s.of a.toNat b.toNat) else Sl.none
def among (l : List (Int × Int)) (k : Nat) (p : Int × Int) : List (Int × Int) := l.take k ++ p :: l.drop k
def withE (s : Sl) (a b k : Int) : Int :=
  if s.pairsE a b = 0 then (if ((s.of a.toNat b.toNat).length : Int) = b - a then 9 else if 0 ≤ k ∧ k ≤ ((s.of a.toNat b.toNat).length : Int) then 0 else 2) else s.pairsE a b
def withS (s : Sl) (a b k : Int) (p : Int × Int) : Sl := if withE s a b k = 0 then spreadS s a b (among (s.of a.toNat b.toNat) k.toNat p) else Sl.none
def base (s : Sl) (size : Int) : Sl := { Sl.empty s.seg size with laid := s.laid }
def wide (s : Sl) (size : Int) (l : List (Int × Int)) : Sl := spreadS (base s size) 0 size l
def intoB (s : Sl) (size : Int) (n : Nat) : Bool := Sl.fitsB s.seg size && decide ((n : Int) ≤ size)
def intoE (s : Sl) (size : Int) (n : Nat) : Int := if s.mayB then (if intoB s size n then 0 else 2) else 8
def intoS (s : Sl) (size : Int) (l : List (Int × Int)) : Sl := if intoE s size l.length = 0 then wide s size l else Sl.none
theorem among_length (l : List (Int × Int)) (k : Nat) (p : Int × Int) : (among l k p).length = l.length + 1 := by
  unfold among
  simp
  omega
theorem among_at {l : List (Int × Int)} {k : Nat} (h : k ≤ l.length) (p : Int × Int) : (among l k p).getD k (0, 0) = p ∧ (among l k p).take k = l.take k ∧ (among l k p).drop (k + 1) = l.drop k := by
  have h1 : (l.take k).length = k := by rw [List.length_take]; omega
  refine ⟨?_, ?_, ?_⟩
  · unfold among
    rw [List.getD_eq_getElem?_getD, List.getElem?_append_right (by omega), h1]
    simp
  · unfold among
    rw [List.take_append_of_le_length (by omega), List.take_of_length_le (by omega)]
  · unfold among
    rw [show k + 1 = (l.take k).length + 1 from by omega, List.drop_append]
    simp
end Ly
end Go.Proofs.YtmmkaabefofdeaaDoor
