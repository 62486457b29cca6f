/- What Lay, Clear and Move of the document's own answers return. -/
import Derived.Test.YtgcdidklaiaohaaGreatDoorM04Lo
import Derived.Deep.DeepCutAuto
namespace Go.Proofs.YtgcdidklaiaohaaGreatDoor
open Go.RowKit
set_option linter.unusedVariables false
set_option linter.unusedSimpArgs false

theorem wrap_laid (n : Nat) : IntKind.u64.wrap ((n : Int) + 1) = (((n + 1) % 18446744073709551616 : Nat) : Int) := by
  simp [IntKind.wrap, IntKind.signed, IntKind.bits]
end Go.Proofs.YtgcdidklaiaohaaGreatDoor
namespace Go.Proofs.YtgcdidklaiaohaaGreatDoor
open Go.RowKit
set_option linter.unusedVariables false
set_option linter.unusedSimpArgs false

theorem at_parts {s : Sl} {i : Int} (h : s.atE i = 0) : s.mayB = true ∧ 0 ≤ i ∧ i < s.keys.length ∧ Oc.isB s.words i.toNat = true := by
  unfold Sl.atE at h
  split at h
  · rename_i h1
    split at h
    · rename_i h2
      split at h
      · rename_i h3
        exact ⟨h1, (slot_iff.1 h2).1, (slot_iff.1 h2).2, h3⟩
      · cases h
    · cases h
  · cases h
end Go.Proofs.YtgcdidklaiaohaaGreatDoor
