/- The law ConfAsks, walked over the contracts: it answers true. -/
import Derived.Test.YtemnhpkkmfgnaaaConfJ
import Derived.Test.YtemnhpkkmfgnaaaRefD05
namespace Go.Proofs.Ytemnhpkkmfgnaaa.confAsks
open Go.RowKit
set_option linter.unusedVariables false
set_option linter.unusedSimpArgs false

set_option maxRecDepth 100000 in
set_option maxHeartbeats 4000000 in
theorem walk (c : Cf) (size h n : Int) (w : World) (hc : c.In) (hsz : size ≤ 9223372036854775807) :
    Calls Try.prog 5 #[cfv c, .int .i64 size, .int .i64 h, .int .i64 n] w fun e w' => e = .returned (.bool true) ∧ Below w.heap.size w w' := by
  have BX := Lib.hid (CBox.new w c 23)
  have B0 := Lib.hid ((Below.refl w.heap.size w).alloc (Nat.le_refl _) (.cells (cfCells c) 23))
  have C1 := Lib.hid (fun W => kFull c size h n W hc hsz)
  have C2 := Lib.hid (fun W => r5Full c size h n W hc hsz)
  have C3 := Lib.hid (fun W => kSparse c size h n W hc hsz)
  have C4 := Lib.hid (fun W => r5Sparse c size h n W hc hsz)
  clear hc
  unfold cfCells at BX B0
  obtain ⟨x, hx⟩ : ∃ x, x = c.askE size h n := ⟨_, rfl⟩
  obtain ⟨y, hy⟩ : ∃ y, y = c.fullV size h n := ⟨_, rfl⟩
  obtain ⟨z, hz⟩ : ∃ z, z = c.sparseV size h n := ⟨_, rfl⟩
  rw [← hx, ← hy] at C1 C2
  rw [← hx, ← hz] at C3 C4
  clear hx hy hz
  unfold cfv at C1 C2 C3 C4 ⊢
  go_enter Try.func5, Try.ntmps5
  go_wp2_with fail
  refine (C1.out _).mono ?_
  rintro e w1 ⟨rfl, hb⟩
  have B1 := Lib.hid (B0.out.trans (hb.mono B0.out.size))
  have X1 := Lib.hid (BX.out.below hb)
  obtain ⟨_, c0, c1, c2, c3, c4, c5, c6, c7, c8, _⟩ := X1.out
  clear hb
  go_wp2_with fail
  refine (C2.out _).mono ?_
  rintro e w2 ⟨rfl, hb⟩
  have B2 := Lib.hid (B1.out.trans (hb.mono B1.out.size))
  have X2 := Lib.hid (X1.out.below hb)
  clear hb c0 c1 c2 c3 c4 c5 c6 c7 c8
  obtain ⟨_, c0, c1, c2, c3, c4, c5, c6, c7, c8, _⟩ := X2.out
  go_wp2_with fail
  refine (C3.out _).mono ?_
  rintro e w3 ⟨rfl, hb⟩
  have B3 := Lib.hid (B2.out.trans (hb.mono B2.out.size))
  have X3 := Lib.hid (X2.out.below hb)
  clear hb c0 c1 c2 c3 c4 c5 c6 c7 c8
  obtain ⟨_, c0, c1, c2, c3, c4, c5, c6, c7, c8, _⟩ := X3.out
  go_wp2_with fail
  refine (C4.out _).mono ?_
  rintro e w4 ⟨rfl, hb⟩
  have B4 := Lib.hid (B3.out.trans (hb.mono B3.out.size))
  clear hb c0 c1 c2 c3 c4 c5 c6 c7 c8
  go_wp2
  go_ret
  exact ⟨rfl, B4.out⟩
end Go.Proofs.Ytemnhpkkmfgnaaa.confAsks
