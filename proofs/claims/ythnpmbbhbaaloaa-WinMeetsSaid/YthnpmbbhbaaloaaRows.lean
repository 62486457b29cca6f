/-
  No cell of these rows narrows 'for every input' (looked for: loops, veiled, ifaces, maps, wideKeys, modest, calm, conditions, laid).
  DERIVED. THE GIVEN ROWS OF THIS SEAT. 6 by the template 'for every input the law returns true; each argument reads behind the call as it read before'; 0 by the template 'total and deterministic' (their statements: YthnpmbbhbaaloaaTotals.lean).
  GIVEN WITH THE SEED: the statements are not yours to turn. If you find one false, say at which input.
  Laid BY PROGRAM, IN A SANDBOX (cutbox-rows.mjs): the forced cells as the released guide's own fill.sh prints them over the translation 7828d3ea4f3f5c23… (all of the seat's roots in one cut). By AI agents, Wed Nov 11 2026. No macro, syntax, notation, axiom, sorry.
-/
import Derived.Test.YthnpmbbhbaaloaaChecked
import GoSem.Claim
import GoSem.ClaimJoined
import GoSem.ClaimMapViews
import Derived.JoinedTies
import Derived.KernelRfl
namespace Go.Proofs.Ythnpmbbhbaaloaa
/- THE CELL 'sum', in the pinned program and in every row, IS THE sha256 OF THE DUMP (.gsa) THAT YthnpmbbhbaaloaaProg.lean LOADS. Nothing in Lean hashes anything: it is a label: what it is worth is what the hold of that sum in a sandbox is worth. -/
noncomputable def Try.pinned : Pinned := { name := "ythnpmbbhbaaloaa", sum := "7828d3ea4f3f5c234373f79100d607f739d479498e6f24f4fe7ede59842009cc", checked := Try.checked }
namespace Rows
def none {H : Type} : Left H := { results := [], args := [] }

/-- 'shelfmarklaw06.WinNames': WHATEVER THE INPUT: true; the input reads as it did. -/
def winNamesSpec : ChangeSpec := { name := "winNames", fn := fun _ => fun
  | [] => { results := [.lit (.bool true)], args := [] }
  | _ => none }
def winNamesRow : OpenClaim := { program := "ythnpmbbhbaaloaa", sum := "7828d3ea4f3f5c234373f79100d607f739d479498e6f24f4fe7ede59842009cc", func := "shelfmark/shelfmarklaw06.WinNames", spec := "winNames", unfollowed := true, recurses := true, apart := false }
def WinNamesSaid : Prop := winNamesRow.holds Try.pinned (OpenSpec.ofChange winNamesSpec)

/-- ITS FALSE NEIGHBOUR: 'it returns false'. Refute it at one input. -/
def winNamesWrong : ChangeSpec := { name := "winNames", fn := fun _ => fun
  | [] => { results := [.lit (.bool false)], args := [] }
  | _ => none }
def WinNamesWrongFalsely : Prop := winNamesRow.holds Try.pinned (OpenSpec.ofChange winNamesWrong)

/-- 'shelfmarklaw06.WinTells': WHATEVER THE INPUT: true; the input reads as it did. -/
def winTellsSpec : ChangeSpec := { name := "winTells", fn := fun _ => fun
  | [d1, d2, d3, d4] => { results := [.lit (.bool true)], args := [d1, d2, d3, d4] }
  | _ => none }
def winTellsRow : OpenClaim := { program := "ythnpmbbhbaaloaa", sum := "7828d3ea4f3f5c234373f79100d607f739d479498e6f24f4fe7ede59842009cc", func := "shelfmark/shelfmarklaw06.WinTells", spec := "winTells", unfollowed := true, recurses := true, apart := false }
def WinTellsSaid : Prop := winTellsRow.holds Try.pinned (OpenSpec.ofChange winTellsSpec)

/-- ITS FALSE NEIGHBOUR: 'it returns false'. Refute it at one input. -/
def winTellsWrong : ChangeSpec := { name := "winTells", fn := fun _ => fun
  | [d1, d2, d3, d4] => { results := [.lit (.bool false)], args := [d1, d2, d3, d4] }
  | _ => none }
def WinTellsWrongFalsely : Prop := winTellsRow.holds Try.pinned (OpenSpec.ofChange winTellsWrong)

/-- 'shelfmarklaw06.WinRows': WHATEVER THE INPUT: true; the input reads as it did. -/
def winRowsSpec : ChangeSpec := { name := "winRows", fn := fun _ => fun
  | [d1, d2, d3, d4] => { results := [.lit (.bool true)], args := [d1, d2, d3, d4] }
  | _ => none }
def winRowsRow : OpenClaim := { program := "ythnpmbbhbaaloaa", sum := "7828d3ea4f3f5c234373f79100d607f739d479498e6f24f4fe7ede59842009cc", func := "shelfmark/shelfmarklaw06.WinRows", spec := "winRows", unfollowed := true, recurses := true, apart := false }
def WinRowsSaid : Prop := winRowsRow.holds Try.pinned (OpenSpec.ofChange winRowsSpec)

/-- ITS FALSE NEIGHBOUR: 'it returns false'. Refute it at one input. -/
def winRowsWrong : ChangeSpec := { name := "winRows", fn := fun _ => fun
  | [d1, d2, d3, d4] => { results := [.lit (.bool false)], args := [d1, d2, d3, d4] }
  | _ => none }
def WinRowsWrongFalsely : Prop := winRowsRow.holds Try.pinned (OpenSpec.ofChange winRowsWrong)

/-- 'shelfmarklaw06.WinHalves': WHATEVER THE INPUT: true; the input reads as it did. -/
def winHalvesSpec : ChangeSpec := { name := "winHalves", fn := fun _ => fun
  | [d1, d2, d3, d4] => { results := [.lit (.bool true)], args := [d1, d2, d3, d4] }
  | _ => none }
def winHalvesRow : OpenClaim := { program := "ythnpmbbhbaaloaa", sum := "7828d3ea4f3f5c234373f79100d607f739d479498e6f24f4fe7ede59842009cc", func := "shelfmark/shelfmarklaw06.WinHalves", spec := "winHalves", unfollowed := true, recurses := true, apart := false }
def WinHalvesSaid : Prop := winHalvesRow.holds Try.pinned (OpenSpec.ofChange winHalvesSpec)

/-- ITS FALSE NEIGHBOUR: 'it returns false'. Refute it at one input. -/
def winHalvesWrong : ChangeSpec := { name := "winHalves", fn := fun _ => fun
  | [d1, d2, d3, d4] => { results := [.lit (.bool false)], args := [d1, d2, d3, d4] }
  | _ => none }
def WinHalvesWrongFalsely : Prop := winHalvesRow.holds Try.pinned (OpenSpec.ofChange winHalvesWrong)

/-- 'shelfmarklaw06.WinOnce': WHATEVER THE INPUT: true; the input reads as it did. -/
def winOnceSpec : ChangeSpec := { name := "winOnce", fn := fun _ => fun
  | [d1, d2, d3, d4] => { results := [.lit (.bool true)], args := [d1, d2, d3, d4] }
  | _ => none }
def winOnceRow : OpenClaim := { program := "ythnpmbbhbaaloaa", sum := "7828d3ea4f3f5c234373f79100d607f739d479498e6f24f4fe7ede59842009cc", func := "shelfmark/shelfmarklaw06.WinOnce", spec := "winOnce", unfollowed := true, recurses := true, apart := false }
def WinOnceSaid : Prop := winOnceRow.holds Try.pinned (OpenSpec.ofChange winOnceSpec)

/-- ITS FALSE NEIGHBOUR: 'it returns false'. Refute it at one input. -/
def winOnceWrong : ChangeSpec := { name := "winOnce", fn := fun _ => fun
  | [d1, d2, d3, d4] => { results := [.lit (.bool false)], args := [d1, d2, d3, d4] }
  | _ => none }
def WinOnceWrongFalsely : Prop := winOnceRow.holds Try.pinned (OpenSpec.ofChange winOnceWrong)

/-- 'shelfmarklaw06.WinMeets': WHATEVER THE INPUT: true; the input reads as it did. -/
def winMeetsSpec : ChangeSpec := { name := "winMeets", fn := fun _ => fun
  | [d1, d2, d3, d4] => { results := [.lit (.bool true)], args := [d1, d2, d3, d4] }
  | _ => none }
def winMeetsRow : OpenClaim := { program := "ythnpmbbhbaaloaa", sum := "7828d3ea4f3f5c234373f79100d607f739d479498e6f24f4fe7ede59842009cc", func := "shelfmark/shelfmarklaw06.WinMeets", spec := "winMeets", unfollowed := true, recurses := true, apart := false }
def WinMeetsSaid : Prop := winMeetsRow.holds Try.pinned (OpenSpec.ofChange winMeetsSpec)

/-- ITS FALSE NEIGHBOUR: 'it returns false'. Refute it at one input. -/
def winMeetsWrong : ChangeSpec := { name := "winMeets", fn := fun _ => fun
  | [d1, d2, d3, d4] => { results := [.lit (.bool false)], args := [d1, d2, d3, d4] }
  | _ => none }
def WinMeetsWrongFalsely : Prop := winMeetsRow.holds Try.pinned (OpenSpec.ofChange winMeetsWrong)

/- THE SECOND FORM. 'bulk': how many values and letters a reading holds, each counted each time it is reached (what is shared counts as often as it is met; a slice's spare places count too). A statement '..UptoSaid' is the law's where the arguments, and the package variables that the reading takes, are together of bulk at most 1048576: NARROWER than '..Said'. Prove '..Said' where nothing that the law and all that it calls make is longer than what came in: it says more and counts as full. Else prove '..UptoSaid'. A law counts once. -/
mutual
def uptoBulk {H : Type} : DataW H → Nat
  | .lit (.string bytes) => bytes.length + 1
  | .lit _ => 1
  | .nil => 1
  | .ptr d => uptoBulk d + 1
  | .slice elems spare => uptoBulkAll elems + uptoBulkAll spare + 1
  | .agg parts => uptoBulkAll parts + 1
  | .iface _ d => uptoBulk d + 1
  | .map entries => uptoBulkEntries entries + 1
  | .held _ => 1
def uptoBulkAll {H : Type} : List (DataW H) → Nat
  | [] => 0
  | d :: r => uptoBulk d + uptoBulkAll r
def uptoBulkEntries {H : Type} : List (Lit × DataW H) → Nat
  | [] => 0
  | x :: r => uptoBulkEntry x + uptoBulkEntries r
def uptoBulkEntry {H : Type} : Lit × DataW H → Nat
  | (.string bytes, d) => bytes.length + uptoBulk d + 1
  | (_, d) => uptoBulk d + 1
 end
def uptoSmall : (H : Type) → List (DataW H) → Bool := fun _ ds => decide (uptoBulkAll ds ≤ 1048576)
def OpenSpec.upto (s : _root_.Go.ChangeSpec) : _root_.Go.OpenSpec := { _root_.Go.OpenSpec.ofChange s with cond := some uptoSmall }

/-- 'shelfmarklaw06.WinNames', WHERE WHAT IT READS IS OF BULK AT MOST 1048576: true; the input reads as it did. -/
def winNamesUptoRow : OpenClaim := { program := "ythnpmbbhbaaloaa", sum := "7828d3ea4f3f5c234373f79100d607f739d479498e6f24f4fe7ede59842009cc", func := "shelfmark/shelfmarklaw06.WinNames", spec := "winNames", unfollowed := true, recurses := true, apart := false, narrowed := true }
def WinNamesUptoSaid : Prop := winNamesUptoRow.holds Try.pinned (OpenSpec.upto winNamesSpec)

/-- 'shelfmarklaw06.WinTells', WHERE WHAT IT READS IS OF BULK AT MOST 1048576: true; the input reads as it did. -/
def winTellsUptoRow : OpenClaim := { program := "ythnpmbbhbaaloaa", sum := "7828d3ea4f3f5c234373f79100d607f739d479498e6f24f4fe7ede59842009cc", func := "shelfmark/shelfmarklaw06.WinTells", spec := "winTells", unfollowed := true, recurses := true, apart := false, narrowed := true }
def WinTellsUptoSaid : Prop := winTellsUptoRow.holds Try.pinned (OpenSpec.upto winTellsSpec)

/-- 'shelfmarklaw06.WinRows', WHERE WHAT IT READS IS OF BULK AT MOST 1048576: true; the input reads as it did. -/
def winRowsUptoRow : OpenClaim := { program := "ythnpmbbhbaaloaa", sum := "7828d3ea4f3f5c234373f79100d607f739d479498e6f24f4fe7ede59842009cc", func := "shelfmark/shelfmarklaw06.WinRows", spec := "winRows", unfollowed := true, recurses := true, apart := false, narrowed := true }
def WinRowsUptoSaid : Prop := winRowsUptoRow.holds Try.pinned (OpenSpec.upto winRowsSpec)

/-- 'shelfmarklaw06.WinHalves', WHERE WHAT IT READS IS OF BULK AT MOST 1048576: true; the input reads as it did. -/
def winHalvesUptoRow : OpenClaim := { program := "ythnpmbbhbaaloaa", sum := "7828d3ea4f3f5c234373f79100d607f739d479498e6f24f4fe7ede59842009cc", func := "shelfmark/shelfmarklaw06.WinHalves", spec := "winHalves", unfollowed := true, recurses := true, apart := false, narrowed := true }
def WinHalvesUptoSaid : Prop := winHalvesUptoRow.holds Try.pinned (OpenSpec.upto winHalvesSpec)

/-- 'shelfmarklaw06.WinOnce', WHERE WHAT IT READS IS OF BULK AT MOST 1048576: true; the input reads as it did. -/
def winOnceUptoRow : OpenClaim := { program := "ythnpmbbhbaaloaa", sum := "7828d3ea4f3f5c234373f79100d607f739d479498e6f24f4fe7ede59842009cc", func := "shelfmark/shelfmarklaw06.WinOnce", spec := "winOnce", unfollowed := true, recurses := true, apart := false, narrowed := true }
def WinOnceUptoSaid : Prop := winOnceUptoRow.holds Try.pinned (OpenSpec.upto winOnceSpec)

/-- 'shelfmarklaw06.WinMeets', WHERE WHAT IT READS IS OF BULK AT MOST 1048576: true; the input reads as it did. -/
def winMeetsUptoRow : OpenClaim := { program := "ythnpmbbhbaaloaa", sum := "7828d3ea4f3f5c234373f79100d607f739d479498e6f24f4fe7ede59842009cc", func := "shelfmark/shelfmarklaw06.WinMeets", spec := "winMeets", unfollowed := true, recurses := true, apart := false, narrowed := true }
def WinMeetsUptoSaid : Prop := winMeetsUptoRow.holds Try.pinned (OpenSpec.upto winMeetsSpec)

end Rows
end Go.Proofs.Ythnpmbbhbaaloaa
