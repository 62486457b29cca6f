/-
  No cell of these rows narrows 'for every input' (looked for: loops, veiled, ifaces, maps, wideKeys, modest, calm, conditions, laid).
  DERIVED. THE GIVEN ROWS OF THIS SEAT. 6 by the template 'for every input the law returns true; each argument reads behind the call as it read before'; 0 by the template 'total and deterministic' (their statements: YtemnhpkkmfgnaaaTotals.lean).
  GIVEN WITH THE SEED: the statements are not yours to turn. If you find one false, say at which input.
  Laid BY PROGRAM, IN A SANDBOX (cutbox-rows.mjs): the forced cells as the released guide's own fill.sh prints them over the translation 0c093d181c822382… (all of the seat's roots in one cut). By AI agents, Wed Nov 11 2026. No macro, syntax, notation, axiom, sorry.
-/
import Derived.Test.YtemnhpkkmfgnaaaChecked
import GoSem.Claim
import GoSem.ClaimJoined
import GoSem.ClaimMapViews
import Derived.JoinedTies
import Derived.KernelRfl
namespace Go.Proofs.Ytemnhpkkmfgnaaa
/- THE CELL 'sum', in the pinned program and in every row, IS THE sha256 OF THE DUMP (.gsa) THAT YtemnhpkkmfgnaaaProg.lean LOADS. Nothing in Lean hashes anything: it is a label: what it is worth is what the hold of that sum in a sandbox is worth. -/
noncomputable def Try.pinned : Pinned := { name := "ytemnhpkkmfgnaaa", sum := "0c093d181c822382a0f8b420fc805f50cc82d594a0095d2140e7ebe67c050071", checked := Try.checked }
namespace Rows
def none {H : Type} : Left H := { results := [], args := [] }

/-- 'shelfmarklaw05.ConfNames': WHATEVER THE INPUT: true; the input reads as it did. -/
def confNamesSpec : ChangeSpec := { name := "confNames", fn := fun _ => fun
  | [] => { results := [.lit (.bool true)], args := [] }
  | _ => none }
def confNamesRow : OpenClaim := { program := "ytemnhpkkmfgnaaa", sum := "0c093d181c822382a0f8b420fc805f50cc82d594a0095d2140e7ebe67c050071", func := "shelfmark/shelfmarklaw05.ConfNames", spec := "confNames", apart := false }
def ConfNamesSaid : Prop := confNamesRow.holds Try.pinned (OpenSpec.ofChange confNamesSpec)

/-- ITS FALSE NEIGHBOUR: 'it returns false'. Refute it at one input. -/
def confNamesWrong : ChangeSpec := { name := "confNames", fn := fun _ => fun
  | [] => { results := [.lit (.bool false)], args := [] }
  | _ => none }
def ConfNamesWrongFalsely : Prop := confNamesRow.holds Try.pinned (OpenSpec.ofChange confNamesWrong)

/-- 'shelfmarklaw05.ConfTells': WHATEVER THE INPUT: true; the input reads as it did. -/
def confTellsSpec : ChangeSpec := { name := "confTells", fn := fun _ => fun
  | [d1, d2] => { results := [.lit (.bool true)], args := [d1, d2] }
  | _ => none }
def confTellsRow : OpenClaim := { program := "ytemnhpkkmfgnaaa", sum := "0c093d181c822382a0f8b420fc805f50cc82d594a0095d2140e7ebe67c050071", func := "shelfmark/shelfmarklaw05.ConfTells", spec := "confTells", apart := false }
def ConfTellsSaid : Prop := confTellsRow.holds Try.pinned (OpenSpec.ofChange confTellsSpec)

/-- ITS FALSE NEIGHBOUR: 'it returns false'. Refute it at one input. -/
def confTellsWrong : ChangeSpec := { name := "confTells", fn := fun _ => fun
  | [d1, d2] => { results := [.lit (.bool false)], args := [d1, d2] }
  | _ => none }
def ConfTellsWrongFalsely : Prop := confTellsRow.holds Try.pinned (OpenSpec.ofChange confTellsWrong)

/-- 'shelfmarklaw05.ConfAsks': WHATEVER THE INPUT: true; the input reads as it did. -/
def confAsksSpec : ChangeSpec := { name := "confAsks", fn := fun _ => fun
  | [d1, d2, d3, d4] => { results := [.lit (.bool true)], args := [d1, d2, d3, d4] }
  | _ => none }
def confAsksRow : OpenClaim := { program := "ytemnhpkkmfgnaaa", sum := "0c093d181c822382a0f8b420fc805f50cc82d594a0095d2140e7ebe67c050071", func := "shelfmark/shelfmarklaw05.ConfAsks", spec := "confAsks", apart := false }
def ConfAsksSaid : Prop := confAsksRow.holds Try.pinned (OpenSpec.ofChange confAsksSpec)

/-- ITS FALSE NEIGHBOUR: 'it returns false'. Refute it at one input. -/
def confAsksWrong : ChangeSpec := { name := "confAsks", fn := fun _ => fun
  | [d1, d2, d3, d4] => { results := [.lit (.bool false)], args := [d1, d2, d3, d4] }
  | _ => none }
def ConfAsksWrongFalsely : Prop := confAsksRow.holds Try.pinned (OpenSpec.ofChange confAsksWrong)

/-- 'shelfmarklaw05.ConfShares': WHATEVER THE INPUT: true; the input reads as it did. -/
def confSharesSpec : ChangeSpec := { name := "confShares", fn := fun _ => fun
  | [d1, d2, d3, d4] => { results := [.lit (.bool true)], args := [d1, d2, d3, d4] }
  | _ => none }
def confSharesRow : OpenClaim := { program := "ytemnhpkkmfgnaaa", sum := "0c093d181c822382a0f8b420fc805f50cc82d594a0095d2140e7ebe67c050071", func := "shelfmark/shelfmarklaw05.ConfShares", spec := "confShares", apart := false }
def ConfSharesSaid : Prop := confSharesRow.holds Try.pinned (OpenSpec.ofChange confSharesSpec)

/-- ITS FALSE NEIGHBOUR: 'it returns false'. Refute it at one input. -/
def confSharesWrong : ChangeSpec := { name := "confShares", fn := fun _ => fun
  | [d1, d2, d3, d4] => { results := [.lit (.bool false)], args := [d1, d2, d3, d4] }
  | _ => none }
def ConfSharesWrongFalsely : Prop := confSharesRow.holds Try.pinned (OpenSpec.ofChange confSharesWrong)

/-- 'shelfmarklaw05.ConfTurns': WHATEVER THE INPUT: true; the input reads as it did. -/
def confTurnsSpec : ChangeSpec := { name := "confTurns", fn := fun _ => fun
  | [d1, d2, d3] => { results := [.lit (.bool true)], args := [d1, d2, d3] }
  | _ => none }
def confTurnsRow : OpenClaim := { program := "ytemnhpkkmfgnaaa", sum := "0c093d181c822382a0f8b420fc805f50cc82d594a0095d2140e7ebe67c050071", func := "shelfmark/shelfmarklaw05.ConfTurns", spec := "confTurns", apart := false }
def ConfTurnsSaid : Prop := confTurnsRow.holds Try.pinned (OpenSpec.ofChange confTurnsSpec)

/-- ITS FALSE NEIGHBOUR: 'it returns false'. Refute it at one input. -/
def confTurnsWrong : ChangeSpec := { name := "confTurns", fn := fun _ => fun
  | [d1, d2, d3] => { results := [.lit (.bool false)], args := [d1, d2, d3] }
  | _ => none }
def ConfTurnsWrongFalsely : Prop := confTurnsRow.holds Try.pinned (OpenSpec.ofChange confTurnsWrong)

/-- 'shelfmarklaw05.ConfCaps': WHATEVER THE INPUT: true; the input reads as it did. -/
def confCapsSpec : ChangeSpec := { name := "confCaps", fn := fun _ => fun
  | [d1, d2, d3] => { results := [.lit (.bool true)], args := [d1, d2, d3] }
  | _ => none }
def confCapsRow : OpenClaim := { program := "ytemnhpkkmfgnaaa", sum := "0c093d181c822382a0f8b420fc805f50cc82d594a0095d2140e7ebe67c050071", func := "shelfmark/shelfmarklaw05.ConfCaps", spec := "confCaps", apart := false }
def ConfCapsSaid : Prop := confCapsRow.holds Try.pinned (OpenSpec.ofChange confCapsSpec)

/-- ITS FALSE NEIGHBOUR: 'it returns false'. Refute it at one input. -/
def confCapsWrong : ChangeSpec := { name := "confCaps", fn := fun _ => fun
  | [d1, d2, d3] => { results := [.lit (.bool false)], args := [d1, d2, d3] }
  | _ => none }
def ConfCapsWrongFalsely : Prop := confCapsRow.holds Try.pinned (OpenSpec.ofChange confCapsWrong)

/- THE SECOND FORM. 'bulk': how many values and letters a reading holds, each counted each time it is reached (what is shared counts as often as it is met; a slice's spare places count too). A statement '..UptoSaid' is the law's where the arguments, and the package variables that the reading takes, are together of bulk at most 1048576: NARROWER than '..Said'. Prove '..Said' where nothing that the law and all that it calls make is longer than what came in: it says more and counts as full. Else prove '..UptoSaid'. A law counts once. -/
mutual
def uptoBulk {H : Type} : DataW H → Nat
  | .lit (.string bytes) => bytes.length + 1
  | .lit _ => 1
  | .nil => 1
  | .ptr d => uptoBulk d + 1
  | .slice elems spare => uptoBulkAll elems + uptoBulkAll spare + 1
  | .agg parts => uptoBulkAll parts + 1
  | .iface _ d => uptoBulk d + 1
  | .map entries => uptoBulkEntries entries + 1
  | .held _ => 1
def uptoBulkAll {H : Type} : List (DataW H) → Nat
  | [] => 0
  | d :: r => uptoBulk d + uptoBulkAll r
def uptoBulkEntries {H : Type} : List (Lit × DataW H) → Nat
  | [] => 0
  | x :: r => uptoBulkEntry x + uptoBulkEntries r
def uptoBulkEntry {H : Type} : Lit × DataW H → Nat
  | (.string bytes, d) => bytes.length + uptoBulk d + 1
  | (_, d) => uptoBulk d + 1
 end
def uptoSmall : (H : Type) → List (DataW H) → Bool := fun _ ds => decide (uptoBulkAll ds ≤ 1048576)
def OpenSpec.upto (s : _root_.Go.ChangeSpec) : _root_.Go.OpenSpec := { _root_.Go.OpenSpec.ofChange s with cond := some uptoSmall }

/-- 'shelfmarklaw05.ConfNames', WHERE WHAT IT READS IS OF BULK AT MOST 1048576: true; the input reads as it did. -/
def confNamesUptoRow : OpenClaim := { program := "ytemnhpkkmfgnaaa", sum := "0c093d181c822382a0f8b420fc805f50cc82d594a0095d2140e7ebe67c050071", func := "shelfmark/shelfmarklaw05.ConfNames", spec := "confNames", apart := false, narrowed := true }
def ConfNamesUptoSaid : Prop := confNamesUptoRow.holds Try.pinned (OpenSpec.upto confNamesSpec)

/-- 'shelfmarklaw05.ConfTells', WHERE WHAT IT READS IS OF BULK AT MOST 1048576: true; the input reads as it did. -/
def confTellsUptoRow : OpenClaim := { program := "ytemnhpkkmfgnaaa", sum := "0c093d181c822382a0f8b420fc805f50cc82d594a0095d2140e7ebe67c050071", func := "shelfmark/shelfmarklaw05.ConfTells", spec := "confTells", apart := false, narrowed := true }
def ConfTellsUptoSaid : Prop := confTellsUptoRow.holds Try.pinned (OpenSpec.upto confTellsSpec)

/-- 'shelfmarklaw05.ConfAsks', WHERE WHAT IT READS IS OF BULK AT MOST 1048576: true; the input reads as it did. -/
def confAsksUptoRow : OpenClaim := { program := "ytemnhpkkmfgnaaa", sum := "0c093d181c822382a0f8b420fc805f50cc82d594a0095d2140e7ebe67c050071", func := "shelfmark/shelfmarklaw05.ConfAsks", spec := "confAsks", apart := false, narrowed := true }
def ConfAsksUptoSaid : Prop := confAsksUptoRow.holds Try.pinned (OpenSpec.upto confAsksSpec)

/-- 'shelfmarklaw05.ConfShares', WHERE WHAT IT READS IS OF BULK AT MOST 1048576: true; the input reads as it did. -/
def confSharesUptoRow : OpenClaim := { program := "ytemnhpkkmfgnaaa", sum := "0c093d181c822382a0f8b420fc805f50cc82d594a0095d2140e7ebe67c050071", func := "shelfmark/shelfmarklaw05.ConfShares", spec := "confShares", apart := false, narrowed := true }
def ConfSharesUptoSaid : Prop := confSharesUptoRow.holds Try.pinned (OpenSpec.upto confSharesSpec)

/-- 'shelfmarklaw05.ConfTurns', WHERE WHAT IT READS IS OF BULK AT MOST 1048576: true; the input reads as it did. -/
def confTurnsUptoRow : OpenClaim := { program := "ytemnhpkkmfgnaaa", sum := "0c093d181c822382a0f8b420fc805f50cc82d594a0095d2140e7ebe67c050071", func := "shelfmark/shelfmarklaw05.ConfTurns", spec := "confTurns", apart := false, narrowed := true }
def ConfTurnsUptoSaid : Prop := confTurnsUptoRow.holds Try.pinned (OpenSpec.upto confTurnsSpec)

/-- 'shelfmarklaw05.ConfCaps', WHERE WHAT IT READS IS OF BULK AT MOST 1048576: true; the input reads as it did. -/
def confCapsUptoRow : OpenClaim := { program := "ytemnhpkkmfgnaaa", sum := "0c093d181c822382a0f8b420fc805f50cc82d594a0095d2140e7ebe67c050071", func := "shelfmark/shelfmarklaw05.ConfCaps", spec := "confCaps", apart := false, narrowed := true }
def ConfCapsUptoSaid : Prop := confCapsUptoRow.holds Try.pinned (OpenSpec.upto confCapsSpec)

end Rows
end Go.Proofs.Ytemnhpkkmfgnaaa
