/- What the document's own answers of layer 7 (package shelfmarkref07) return: within, Places, Share, Rank. -/
import Derived.Test.YtmmkaabefofdeaaDoorRefA074
namespace Go.Proofs.YtmmkaabefofdeaaDoor
open Go.RowKit
set_option linter.unusedVariables false
set_option linter.unusedSimpArgs false

namespace Sp
theorem cnt_step {zs : List Int} {a b : Int} {k : Nat} (h : k < zs.length) : cnt (zs.take (k + 1)) a b = cnt (zs.take k) a b + (if inB a b (zs.getD k 0) then 1 else 0) := by
  unfold cnt
  rw [List.take_add_one, List.getElem?_eq_getElem h, List.countP_append]
  simp only [List.getD, List.getElem?_eq_getElem h, Option.getD_some, Option.toList_some, List.countP_singleton]
  split <;> simp
theorem cnt_bd (zs : List Int) (a b : Int) : 0 ≤ cnt zs a b ∧ cnt zs a b ≤ zs.length := by
  unfold cnt
  have := List.countP_le_length (p := inB a b) (l := zs)
  omega
end Sp
def WithJ (zs : List Int) (a b : Int) (w : World) (p q : Value) (wr : World) : Prop := ∃ k : Nat, k ≤ zs.length ∧ p = .int .i64 (Sp.cnt (zs.take k) a b) ∧ q = .int .i64 (k : Int) ∧ w = wr
/-- A new row of numbers, and an error. -/
def NRow (zs : List Int) (er : Int) (w : World) (e : Ending) (w' : World) : Prop :=
  ∃ v, e = .returned (.tuple #[v, .int .i64 er]) ∧ w'.ownsRow w.heap.size 3 1 v zs.length (zs.map (Value.int .i64)) ∧ Below w.heap.size w w'
end Go.Proofs.YtmmkaabefofdeaaDoor
