/-
  No cell of these rows narrows 'for every input' (looked for: loops, veiled, ifaces, maps, wideKeys, modest, calm, conditions, laid).
  DERIVED. THE GIVEN ROWS OF THIS SEAT. 6 by the template 'for every input the law returns true; each argument reads behind the call as it read before'; 0 by the template 'total and deterministic' (their statements: YtephmejhglcdiaaTotals.lean).
  GIVEN WITH THE SEED: the statements are not yours to turn. If you find one false, say at which input.
  Laid BY PROGRAM, IN A SANDBOX (cutbox-rows.mjs): the forced cells as the released guide's own fill.sh prints them over the translation aa841726d3a9e54b… (all of the seat's roots in one cut). By AI agents, Wed Nov 11 2026. No macro, syntax, notation, axiom, sorry.
-/
import Derived.Test.YtephmejhglcdiaaChecked
import GoSem.Claim
import GoSem.ClaimJoined
import GoSem.ClaimMapViews
import Derived.JoinedTies
import Derived.KernelRfl
namespace Go.Proofs.Ytephmejhglcdiaa
/- THE CELL 'sum', in the pinned program and in every row, IS THE sha256 OF THE DUMP (.gsa) THAT YtephmejhglcdiaaProg.lean LOADS. Nothing in Lean hashes anything: it is a label: what it is worth is what the hold of that sum in a sandbox is worth. -/
noncomputable def Try.pinned : Pinned := { name := "ytephmejhglcdiaa", sum := "aa841726d3a9e54b8c4cde65e77d9e01842e1b178518c63eb753ebac25ff2fc1", checked := Try.checked }
namespace Rows
def none {H : Type} : Left H := { results := [], args := [] }

/-- 'shelfmarklaw14.HandleNames': WHATEVER THE INPUT: true; the input reads as it did. -/
def handleNamesSpec : ChangeSpec := { name := "handleNames", fn := fun _ => fun
  | [] => { results := [.lit (.bool true)], args := [] }
  | _ => none }
def handleNamesRow : OpenClaim := { program := "ytephmejhglcdiaa", sum := "aa841726d3a9e54b8c4cde65e77d9e01842e1b178518c63eb753ebac25ff2fc1", func := "shelfmark/shelfmarklaw14.HandleNames", spec := "handleNames", unfollowed := true, recurses := true, apart := false }
def HandleNamesSaid : Prop := handleNamesRow.holds Try.pinned (OpenSpec.ofChange handleNamesSpec)

/-- ITS FALSE NEIGHBOUR: 'it returns false'. Refute it at one input. -/
def handleNamesWrong : ChangeSpec := { name := "handleNames", fn := fun _ => fun
  | [] => { results := [.lit (.bool false)], args := [] }
  | _ => none }
def HandleNamesWrongFalsely : Prop := handleNamesRow.holds Try.pinned (OpenSpec.ofChange handleNamesWrong)

/-- 'shelfmarklaw14.HandleTells': WHATEVER THE INPUT: true; the input reads as it did. -/
def handleTellsSpec : ChangeSpec := { name := "handleTells", fn := fun _ => fun
  | [d1, d2, d3] => { results := [.lit (.bool true)], args := [d1, d2, d3] }
  | _ => none }
def handleTellsRow : OpenClaim := { program := "ytephmejhglcdiaa", sum := "aa841726d3a9e54b8c4cde65e77d9e01842e1b178518c63eb753ebac25ff2fc1", func := "shelfmark/shelfmarklaw14.HandleTells", spec := "handleTells", unfollowed := true, recurses := true, apart := false }
def HandleTellsSaid : Prop := handleTellsRow.holds Try.pinned (OpenSpec.ofChange handleTellsSpec)

/-- ITS FALSE NEIGHBOUR: 'it returns false'. Refute it at one input. -/
def handleTellsWrong : ChangeSpec := { name := "handleTells", fn := fun _ => fun
  | [d1, d2, d3] => { results := [.lit (.bool false)], args := [d1, d2, d3] }
  | _ => none }
def HandleTellsWrongFalsely : Prop := handleTellsRow.holds Try.pinned (OpenSpec.ofChange handleTellsWrong)

/-- 'shelfmarklaw14.HandleTurns': WHATEVER THE INPUT: true; the input reads as it did. -/
def handleTurnsSpec : ChangeSpec := { name := "handleTurns", fn := fun _ => fun
  | [d1, d2, d3] => { results := [.lit (.bool true)], args := [d1, d2, d3] }
  | _ => none }
def handleTurnsRow : OpenClaim := { program := "ytephmejhglcdiaa", sum := "aa841726d3a9e54b8c4cde65e77d9e01842e1b178518c63eb753ebac25ff2fc1", func := "shelfmark/shelfmarklaw14.HandleTurns", spec := "handleTurns", unfollowed := true, recurses := true, apart := false }
def HandleTurnsSaid : Prop := handleTurnsRow.holds Try.pinned (OpenSpec.ofChange handleTurnsSpec)

/-- ITS FALSE NEIGHBOUR: 'it returns false'. Refute it at one input. -/
def handleTurnsWrong : ChangeSpec := { name := "handleTurns", fn := fun _ => fun
  | [d1, d2, d3] => { results := [.lit (.bool false)], args := [d1, d2, d3] }
  | _ => none }
def HandleTurnsWrongFalsely : Prop := handleTurnsRow.holds Try.pinned (OpenSpec.ofChange handleTurnsWrong)

/-- 'shelfmarklaw14.HandleFound': WHATEVER THE INPUT: true; the input reads as it did. -/
def handleFoundSpec : ChangeSpec := { name := "handleFound", fn := fun _ => fun
  | [d1, d2, d3] => { results := [.lit (.bool true)], args := [d1, d2, d3] }
  | _ => none }
def handleFoundRow : OpenClaim := { program := "ytephmejhglcdiaa", sum := "aa841726d3a9e54b8c4cde65e77d9e01842e1b178518c63eb753ebac25ff2fc1", func := "shelfmark/shelfmarklaw14.HandleFound", spec := "handleFound", unfollowed := true, recurses := true, apart := false }
def HandleFoundSaid : Prop := handleFoundRow.holds Try.pinned (OpenSpec.ofChange handleFoundSpec)

/-- ITS FALSE NEIGHBOUR: 'it returns false'. Refute it at one input. -/
def handleFoundWrong : ChangeSpec := { name := "handleFound", fn := fun _ => fun
  | [d1, d2, d3] => { results := [.lit (.bool false)], args := [d1, d2, d3] }
  | _ => none }
def HandleFoundWrongFalsely : Prop := handleFoundRow.holds Try.pinned (OpenSpec.ofChange handleFoundWrong)

/-- 'shelfmarklaw14.HandleGone': WHATEVER THE INPUT: true; the input reads as it did. -/
def handleGoneSpec : ChangeSpec := { name := "handleGone", fn := fun _ => fun
  | [d1, d2, d3] => { results := [.lit (.bool true)], args := [d1, d2, d3] }
  | _ => none }
def handleGoneRow : OpenClaim := { program := "ytephmejhglcdiaa", sum := "aa841726d3a9e54b8c4cde65e77d9e01842e1b178518c63eb753ebac25ff2fc1", func := "shelfmark/shelfmarklaw14.HandleGone", spec := "handleGone", unfollowed := true, recurses := true, apart := false }
def HandleGoneSaid : Prop := handleGoneRow.holds Try.pinned (OpenSpec.ofChange handleGoneSpec)

/-- ITS FALSE NEIGHBOUR: 'it returns false'. Refute it at one input. -/
def handleGoneWrong : ChangeSpec := { name := "handleGone", fn := fun _ => fun
  | [d1, d2, d3] => { results := [.lit (.bool false)], args := [d1, d2, d3] }
  | _ => none }
def HandleGoneWrongFalsely : Prop := handleGoneRow.holds Try.pinned (OpenSpec.ofChange handleGoneWrong)

/-- 'shelfmarklaw14.HandleMoves': WHATEVER THE INPUT: true; the input reads as it did. -/
def handleMovesSpec : ChangeSpec := { name := "handleMoves", fn := fun _ => fun
  | [d1, d2, d3, d4] => { results := [.lit (.bool true)], args := [d1, d2, d3, d4] }
  | _ => none }
def handleMovesRow : OpenClaim := { program := "ytephmejhglcdiaa", sum := "aa841726d3a9e54b8c4cde65e77d9e01842e1b178518c63eb753ebac25ff2fc1", func := "shelfmark/shelfmarklaw14.HandleMoves", spec := "handleMoves", unfollowed := true, recurses := true, apart := false }
def HandleMovesSaid : Prop := handleMovesRow.holds Try.pinned (OpenSpec.ofChange handleMovesSpec)

/-- ITS FALSE NEIGHBOUR: 'it returns false'. Refute it at one input. -/
def handleMovesWrong : ChangeSpec := { name := "handleMoves", fn := fun _ => fun
  | [d1, d2, d3, d4] => { results := [.lit (.bool false)], args := [d1, d2, d3, d4] }
  | _ => none }
def HandleMovesWrongFalsely : Prop := handleMovesRow.holds Try.pinned (OpenSpec.ofChange handleMovesWrong)

/- THE SECOND FORM. 'bulk': how many values and letters a reading holds, each counted each time it is reached (what is shared counts as often as it is met; a slice's spare places count too). A statement '..UptoSaid' is the law's where the arguments, and the package variables that the reading takes, are together of bulk at most 1048576: NARROWER than '..Said'. Prove '..Said' where nothing that the law and all that it calls make is longer than what came in: it says more and counts as full. Else prove '..UptoSaid'. A law counts once. -/
mutual
def uptoBulk {H : Type} : DataW H → Nat
  | .lit (.string bytes) => bytes.length + 1
  | .lit _ => 1
  | .nil => 1
  | .ptr d => uptoBulk d + 1
  | .slice elems spare => uptoBulkAll elems + uptoBulkAll spare + 1
  | .agg parts => uptoBulkAll parts + 1
  | .iface _ d => uptoBulk d + 1
  | .map entries => uptoBulkEntries entries + 1
  | .held _ => 1
def uptoBulkAll {H : Type} : List (DataW H) → Nat
  | [] => 0
  | d :: r => uptoBulk d + uptoBulkAll r
def uptoBulkEntries {H : Type} : List (Lit × DataW H) → Nat
  | [] => 0
  | x :: r => uptoBulkEntry x + uptoBulkEntries r
def uptoBulkEntry {H : Type} : Lit × DataW H → Nat
  | (.string bytes, d) => bytes.length + uptoBulk d + 1
  | (_, d) => uptoBulk d + 1
 end
def uptoSmall : (H : Type) → List (DataW H) → Bool := fun _ ds => decide (uptoBulkAll ds ≤ 1048576)
def OpenSpec.upto (s : _root_.Go.ChangeSpec) : _root_.Go.OpenSpec := { _root_.Go.OpenSpec.ofChange s with cond := some uptoSmall }

/-- 'shelfmarklaw14.HandleNames', WHERE WHAT IT READS IS OF BULK AT MOST 1048576: true; the input reads as it did. -/
def handleNamesUptoRow : OpenClaim := { program := "ytephmejhglcdiaa", sum := "aa841726d3a9e54b8c4cde65e77d9e01842e1b178518c63eb753ebac25ff2fc1", func := "shelfmark/shelfmarklaw14.HandleNames", spec := "handleNames", unfollowed := true, recurses := true, apart := false, narrowed := true }
def HandleNamesUptoSaid : Prop := handleNamesUptoRow.holds Try.pinned (OpenSpec.upto handleNamesSpec)

/-- 'shelfmarklaw14.HandleTells', WHERE WHAT IT READS IS OF BULK AT MOST 1048576: true; the input reads as it did. -/
def handleTellsUptoRow : OpenClaim := { program := "ytephmejhglcdiaa", sum := "aa841726d3a9e54b8c4cde65e77d9e01842e1b178518c63eb753ebac25ff2fc1", func := "shelfmark/shelfmarklaw14.HandleTells", spec := "handleTells", unfollowed := true, recurses := true, apart := false, narrowed := true }
def HandleTellsUptoSaid : Prop := handleTellsUptoRow.holds Try.pinned (OpenSpec.upto handleTellsSpec)

/-- 'shelfmarklaw14.HandleTurns', WHERE WHAT IT READS IS OF BULK AT MOST 1048576: true; the input reads as it did. -/
def handleTurnsUptoRow : OpenClaim := { program := "ytephmejhglcdiaa", sum := "aa841726d3a9e54b8c4cde65e77d9e01842e1b178518c63eb753ebac25ff2fc1", func := "shelfmark/shelfmarklaw14.HandleTurns", spec := "handleTurns", unfollowed := true, recurses := true, apart := false, narrowed := true }
def HandleTurnsUptoSaid : Prop := handleTurnsUptoRow.holds Try.pinned (OpenSpec.upto handleTurnsSpec)

/-- 'shelfmarklaw14.HandleFound', WHERE WHAT IT READS IS OF BULK AT MOST 1048576: true; the input reads as it did. -/
def handleFoundUptoRow : OpenClaim := { program := "ytephmejhglcdiaa", sum := "aa841726d3a9e54b8c4cde65e77d9e01842e1b178518c63eb753ebac25ff2fc1", func := "shelfmark/shelfmarklaw14.HandleFound", spec := "handleFound", unfollowed := true, recurses := true, apart := false, narrowed := true }
def HandleFoundUptoSaid : Prop := handleFoundUptoRow.holds Try.pinned (OpenSpec.upto handleFoundSpec)

/-- 'shelfmarklaw14.HandleGone', WHERE WHAT IT READS IS OF BULK AT MOST 1048576: true; the input reads as it did. -/
def handleGoneUptoRow : OpenClaim := { program := "ytephmejhglcdiaa", sum := "aa841726d3a9e54b8c4cde65e77d9e01842e1b178518c63eb753ebac25ff2fc1", func := "shelfmark/shelfmarklaw14.HandleGone", spec := "handleGone", unfollowed := true, recurses := true, apart := false, narrowed := true }
def HandleGoneUptoSaid : Prop := handleGoneUptoRow.holds Try.pinned (OpenSpec.upto handleGoneSpec)

/-- 'shelfmarklaw14.HandleMoves', WHERE WHAT IT READS IS OF BULK AT MOST 1048576: true; the input reads as it did. -/
def handleMovesUptoRow : OpenClaim := { program := "ytephmejhglcdiaa", sum := "aa841726d3a9e54b8c4cde65e77d9e01842e1b178518c63eb753ebac25ff2fc1", func := "shelfmark/shelfmarklaw14.HandleMoves", spec := "handleMoves", unfollowed := true, recurses := true, apart := false, narrowed := true }
def HandleMovesUptoSaid : Prop := handleMovesUptoRow.holds Try.pinned (OpenSpec.upto handleMovesSpec)

end Rows
end Go.Proofs.Ytephmejhglcdiaa
