/- What the document's own answers of layer 2 (package shelfmarkref02) return: Same, Places. -/
import Derived.Test.YthnpmbbhbaaloaaRefI02
import Derived.Deep.QuietTactic
import Derived.BigQuiet
import Derived.WalkSmall
namespace Go.Proofs.Ythnpmbbhbaaloaa
open Go.RowKit
set_option linter.unusedVariables false

theorem take_same (xs ys : List Nat) (k : Nat) (h1 : k < xs.length) (h2 : k < ys.length) (h : xs.take k = ys.take k) (he : xs.getD k 0 = ys.getD k 0) : xs.take (k + 1) = ys.take (k + 1) := by
  rw [List.take_succ_eq_append_getElem h1, List.take_succ_eq_append_getElem h2, h]
  simp only [List.getD, List.getElem?_eq_getElem h1, List.getElem?_eq_getElem h2, Option.getD_some] at he
  rw [he]
theorem not_same (xs ys : List Nat) (k : Nat) (he : ¬ xs.getD k 0 = ys.getD k 0) : (xs == ys) = false := by
  rw [beq_eq_false_iff_ne]; rintro rfl; exact he rfl

def SameJ (xs ys : List Nat) (w : World) (i : Value) (wr : World) : Prop := ∃ k q : Nat, k ≤ xs.length ∧ i = .int .i64 k ∧ wr = w.drewN q ∧ xs.take k = ys.take k

theorem intInfo : (Try.prog.info? 3).map (fun i => (i.zero, i.size, i.bytes)) = some (some (.int .i64 0), 1, 8) := by kernel_rfl

/-- Places' loop: what has been gathered of the slots ahead of k. -/
def PlacesJ (ws : List Nat) (lo hi : Nat) (w : World) (v i : Value) (wr : World) : Prop :=
  ∃ k : Nat, lo ≤ k ∧ (k ≤ hi ∨ k = lo) ∧ i = .int .i64 k ∧ wr.ownsRow w.heap.size 3 1 v (Oc.places ws lo k).length ((Oc.places ws lo k).map fun s : Nat => Value.int .i64 (s : Int)) ∧ Below w.heap.size w wr

end Go.Proofs.Ythnpmbbhbaaloaa
