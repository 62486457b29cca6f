/-
  No cell of these rows narrows 'for every input' (looked for: loops, veiled, ifaces, maps, wideKeys, modest, calm, conditions, laid).
  DERIVED. THE GIVEN ROWS OF THIS SEAT. 5 by the template 'for every input the law returns true; each argument reads behind the call as it read before'; 0 by the template 'total and deterministic' (their statements: YtbkbcjdhppnfoaaTotals.lean).
  GIVEN WITH THE SEED: the statements are not yours to turn. If you find one false, say at which input.
  Laid BY PROGRAM, IN A SANDBOX (cutbox-rows.mjs): the forced cells as the released guide's own fill.sh prints them over the translation dc5d6371735fff8b… (all of the seat's roots in one cut). By AI agents, Wed Nov 11 2026. No macro, syntax, notation, axiom, sorry.
-/
import Derived.Test.YtbkbcjdhppnfoaaChecked
import GoSem.Claim
import GoSem.ClaimJoined
import GoSem.ClaimMapViews
import Derived.JoinedTies
import Derived.KernelRfl
namespace Go.Proofs.Ytbkbcjdhppnfoaa
/- THE CELL 'sum', in the pinned program and in every row, IS THE sha256 OF THE DUMP (.gsa) THAT YtbkbcjdhppnfoaaProg.lean LOADS. Nothing in Lean hashes anything: it is a label: what it is worth is what the hold of that sum in a sandbox is worth. -/
noncomputable def Try.pinned : Pinned := { name := "ytbkbcjdhppnfoaa", sum := "dc5d6371735fff8be9b1f193ce8cbafbeb57fd79f678b8f813b9264fc9a3e613", checked := Try.checked }
namespace Rows
def none {H : Type} : Left H := { results := [], args := [] }

/-- 'shelfmarklaw07.SpreadNames': WHATEVER THE INPUT: true; the input reads as it did. -/
def spreadNamesSpec : ChangeSpec := { name := "spreadNames", fn := fun _ => fun
  | [] => { results := [.lit (.bool true)], args := [] }
  | _ => none }
def spreadNamesRow : OpenClaim := { program := "ytbkbcjdhppnfoaa", sum := "dc5d6371735fff8be9b1f193ce8cbafbeb57fd79f678b8f813b9264fc9a3e613", func := "shelfmark/shelfmarklaw07.SpreadNames", spec := "spreadNames", unfollowed := true, recurses := true, apart := false }
def SpreadNamesSaid : Prop := spreadNamesRow.holds Try.pinned (OpenSpec.ofChange spreadNamesSpec)

/-- ITS FALSE NEIGHBOUR: 'it returns false'. Refute it at one input. -/
def spreadNamesWrong : ChangeSpec := { name := "spreadNames", fn := fun _ => fun
  | [] => { results := [.lit (.bool false)], args := [] }
  | _ => none }
def SpreadNamesWrongFalsely : Prop := spreadNamesRow.holds Try.pinned (OpenSpec.ofChange spreadNamesWrong)

/-- 'shelfmarklaw07.SpreadTells': WHATEVER THE INPUT: true; the input reads as it did. -/
def spreadTellsSpec : ChangeSpec := { name := "spreadTells", fn := fun _ => fun
  | [d1, d2, d3] => { results := [.lit (.bool true)], args := [d1, d2, d3] }
  | _ => none }
def spreadTellsRow : OpenClaim := { program := "ytbkbcjdhppnfoaa", sum := "dc5d6371735fff8be9b1f193ce8cbafbeb57fd79f678b8f813b9264fc9a3e613", func := "shelfmark/shelfmarklaw07.SpreadTells", spec := "spreadTells", unfollowed := true, recurses := true, apart := false }
def SpreadTellsSaid : Prop := spreadTellsRow.holds Try.pinned (OpenSpec.ofChange spreadTellsSpec)

/-- ITS FALSE NEIGHBOUR: 'it returns false'. Refute it at one input. -/
def spreadTellsWrong : ChangeSpec := { name := "spreadTells", fn := fun _ => fun
  | [d1, d2, d3] => { results := [.lit (.bool false)], args := [d1, d2, d3] }
  | _ => none }
def SpreadTellsWrongFalsely : Prop := spreadTellsRow.holds Try.pinned (OpenSpec.ofChange spreadTellsWrong)

/-- 'shelfmarklaw07.SpreadAsks': WHATEVER THE INPUT: true; the input reads as it did. -/
def spreadAsksSpec : ChangeSpec := { name := "spreadAsks", fn := fun _ => fun
  | [d1, d2, d3, d4] => { results := [.lit (.bool true)], args := [d1, d2, d3, d4] }
  | _ => none }
def spreadAsksRow : OpenClaim := { program := "ytbkbcjdhppnfoaa", sum := "dc5d6371735fff8be9b1f193ce8cbafbeb57fd79f678b8f813b9264fc9a3e613", func := "shelfmark/shelfmarklaw07.SpreadAsks", spec := "spreadAsks", unfollowed := true, recurses := true, apart := false }
def SpreadAsksSaid : Prop := spreadAsksRow.holds Try.pinned (OpenSpec.ofChange spreadAsksSpec)

/-- ITS FALSE NEIGHBOUR: 'it returns false'. Refute it at one input. -/
def spreadAsksWrong : ChangeSpec := { name := "spreadAsks", fn := fun _ => fun
  | [d1, d2, d3, d4] => { results := [.lit (.bool false)], args := [d1, d2, d3, d4] }
  | _ => none }
def SpreadAsksWrongFalsely : Prop := spreadAsksRow.holds Try.pinned (OpenSpec.ofChange spreadAsksWrong)

/-- 'shelfmarklaw07.SpreadRises': WHATEVER THE INPUT: true; the input reads as it did. -/
def spreadRisesSpec : ChangeSpec := { name := "spreadRises", fn := fun _ => fun
  | [d1, d2, d3] => { results := [.lit (.bool true)], args := [d1, d2, d3] }
  | _ => none }
def spreadRisesRow : OpenClaim := { program := "ytbkbcjdhppnfoaa", sum := "dc5d6371735fff8be9b1f193ce8cbafbeb57fd79f678b8f813b9264fc9a3e613", func := "shelfmark/shelfmarklaw07.SpreadRises", spec := "spreadRises", unfollowed := true, recurses := true, apart := false }
def SpreadRisesSaid : Prop := spreadRisesRow.holds Try.pinned (OpenSpec.ofChange spreadRisesSpec)

/-- ITS FALSE NEIGHBOUR: 'it returns false'. Refute it at one input. -/
def spreadRisesWrong : ChangeSpec := { name := "spreadRises", fn := fun _ => fun
  | [d1, d2, d3] => { results := [.lit (.bool false)], args := [d1, d2, d3] }
  | _ => none }
def SpreadRisesWrongFalsely : Prop := spreadRisesRow.holds Try.pinned (OpenSpec.ofChange spreadRisesWrong)

/-- 'shelfmarklaw07.SpreadShares': WHATEVER THE INPUT: true; the input reads as it did. -/
def spreadSharesSpec : ChangeSpec := { name := "spreadShares", fn := fun _ => fun
  | [d1, d2, d3, d4] => { results := [.lit (.bool true)], args := [d1, d2, d3, d4] }
  | _ => none }
def spreadSharesRow : OpenClaim := { program := "ytbkbcjdhppnfoaa", sum := "dc5d6371735fff8be9b1f193ce8cbafbeb57fd79f678b8f813b9264fc9a3e613", func := "shelfmark/shelfmarklaw07.SpreadShares", spec := "spreadShares", unfollowed := true, recurses := true, apart := false }
def SpreadSharesSaid : Prop := spreadSharesRow.holds Try.pinned (OpenSpec.ofChange spreadSharesSpec)

/-- ITS FALSE NEIGHBOUR: 'it returns false'. Refute it at one input. -/
def spreadSharesWrong : ChangeSpec := { name := "spreadShares", fn := fun _ => fun
  | [d1, d2, d3, d4] => { results := [.lit (.bool false)], args := [d1, d2, d3, d4] }
  | _ => none }
def SpreadSharesWrongFalsely : Prop := spreadSharesRow.holds Try.pinned (OpenSpec.ofChange spreadSharesWrong)

/- THE SECOND FORM. 'bulk': how many values and letters a reading holds, each counted each time it is reached (what is shared counts as often as it is met; a slice's spare places count too). A statement '..UptoSaid' is the law's where the arguments, and the package variables that the reading takes, are together of bulk at most 1048576: NARROWER than '..Said'. Prove '..Said' where nothing that the law and all that it calls make is longer than what came in: it says more and counts as full. Else prove '..UptoSaid'. A law counts once. -/
mutual
def uptoBulk {H : Type} : DataW H → Nat
  | .lit (.string bytes) => bytes.length + 1
  | .lit _ => 1
  | .nil => 1
  | .ptr d => uptoBulk d + 1
  | .slice elems spare => uptoBulkAll elems + uptoBulkAll spare + 1
  | .agg parts => uptoBulkAll parts + 1
  | .iface _ d => uptoBulk d + 1
  | .map entries => uptoBulkEntries entries + 1
  | .held _ => 1
def uptoBulkAll {H : Type} : List (DataW H) → Nat
  | [] => 0
  | d :: r => uptoBulk d + uptoBulkAll r
def uptoBulkEntries {H : Type} : List (Lit × DataW H) → Nat
  | [] => 0
  | x :: r => uptoBulkEntry x + uptoBulkEntries r
def uptoBulkEntry {H : Type} : Lit × DataW H → Nat
  | (.string bytes, d) => bytes.length + uptoBulk d + 1
  | (_, d) => uptoBulk d + 1
 end
def uptoSmall : (H : Type) → List (DataW H) → Bool := fun _ ds => decide (uptoBulkAll ds ≤ 1048576)
def OpenSpec.upto (s : _root_.Go.ChangeSpec) : _root_.Go.OpenSpec := { _root_.Go.OpenSpec.ofChange s with cond := some uptoSmall }

/-- 'shelfmarklaw07.SpreadNames', WHERE WHAT IT READS IS OF BULK AT MOST 1048576: true; the input reads as it did. -/
def spreadNamesUptoRow : OpenClaim := { program := "ytbkbcjdhppnfoaa", sum := "dc5d6371735fff8be9b1f193ce8cbafbeb57fd79f678b8f813b9264fc9a3e613", func := "shelfmark/shelfmarklaw07.SpreadNames", spec := "spreadNames", unfollowed := true, recurses := true, apart := false, narrowed := true }
def SpreadNamesUptoSaid : Prop := spreadNamesUptoRow.holds Try.pinned (OpenSpec.upto spreadNamesSpec)

/-- 'shelfmarklaw07.SpreadTells', WHERE WHAT IT READS IS OF BULK AT MOST 1048576: true; the input reads as it did. -/
def spreadTellsUptoRow : OpenClaim := { program := "ytbkbcjdhppnfoaa", sum := "dc5d6371735fff8be9b1f193ce8cbafbeb57fd79f678b8f813b9264fc9a3e613", func := "shelfmark/shelfmarklaw07.SpreadTells", spec := "spreadTells", unfollowed := true, recurses := true, apart := false, narrowed := true }
def SpreadTellsUptoSaid : Prop := spreadTellsUptoRow.holds Try.pinned (OpenSpec.upto spreadTellsSpec)

/-- 'shelfmarklaw07.SpreadAsks', WHERE WHAT IT READS IS OF BULK AT MOST 1048576: true; the input reads as it did. -/
def spreadAsksUptoRow : OpenClaim := { program := "ytbkbcjdhppnfoaa", sum := "dc5d6371735fff8be9b1f193ce8cbafbeb57fd79f678b8f813b9264fc9a3e613", func := "shelfmark/shelfmarklaw07.SpreadAsks", spec := "spreadAsks", unfollowed := true, recurses := true, apart := false, narrowed := true }
def SpreadAsksUptoSaid : Prop := spreadAsksUptoRow.holds Try.pinned (OpenSpec.upto spreadAsksSpec)

/-- 'shelfmarklaw07.SpreadRises', WHERE WHAT IT READS IS OF BULK AT MOST 1048576: true; the input reads as it did. -/
def spreadRisesUptoRow : OpenClaim := { program := "ytbkbcjdhppnfoaa", sum := "dc5d6371735fff8be9b1f193ce8cbafbeb57fd79f678b8f813b9264fc9a3e613", func := "shelfmark/shelfmarklaw07.SpreadRises", spec := "spreadRises", unfollowed := true, recurses := true, apart := false, narrowed := true }
def SpreadRisesUptoSaid : Prop := spreadRisesUptoRow.holds Try.pinned (OpenSpec.upto spreadRisesSpec)

/-- 'shelfmarklaw07.SpreadShares', WHERE WHAT IT READS IS OF BULK AT MOST 1048576: true; the input reads as it did. -/
def spreadSharesUptoRow : OpenClaim := { program := "ytbkbcjdhppnfoaa", sum := "dc5d6371735fff8be9b1f193ce8cbafbeb57fd79f678b8f813b9264fc9a3e613", func := "shelfmark/shelfmarklaw07.SpreadShares", spec := "spreadShares", unfollowed := true, recurses := true, apart := false, narrowed := true }
def SpreadSharesUptoSaid : Prop := spreadSharesUptoRow.holds Try.pinned (OpenSpec.upto spreadSharesSpec)

end Rows
end Go.Proofs.Ytbkbcjdhppnfoaa
