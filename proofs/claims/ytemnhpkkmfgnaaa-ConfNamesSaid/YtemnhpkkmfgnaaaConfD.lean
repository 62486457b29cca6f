/- What package conf's densitiesMayBe returns. -/
import Derived.Test.YtemnhpkkmfgnaaaConfC
namespace Go.Proofs.Ytemnhpkkmfgnaaa
open Go.RowKit
set_option linter.unusedVariables false
set_option linter.unusedSimpArgs false

/-- What densitiesMayBe asks. -/
def densL (c : Cf) : List Bool := [decide (0 ≤ c.ll), decide (c.ll < c.rl), decide (c.rh < c.lh), decide (c.lh ≤ c.den), atMostB 1 2 c.rh c.den, atMostB c.rl c.den 1 8, atMostB 2 c.least c.rl c.den]
def densK (c : Cf) : Bool := (densL c).all id
theorem CBox.reads6 {w : World} {g : Nat} {c : Cf} (h : CBox w g c) : w.cell? ⟨g, 3, none⟩ = some (.int .i64 c.least) ∧ w.cell? ⟨g, 4, none⟩ = some (.int .i64 c.den) ∧ w.cell? ⟨g, 5, none⟩ = some (.int .i64 c.ll) ∧ w.cell? ⟨g, 6, none⟩ = some (.int .i64 c.rl) ∧ w.cell? ⟨g, 7, none⟩ = some (.int .i64 c.rh) ∧ w.cell? ⟨g, 8, none⟩ = some (.int .i64 c.lh) := ⟨h.c3, h.c4, h.c5, h.c6, h.c7, h.c8⟩

set_option maxRecDepth 100000 in
set_option maxHeartbeats 2000000 in
theorem kDens (c : Cf) (w : World) :
    Calls Try.prog 34 #[cfv c] w fun e w' => e = .returned (.bool (densK c)) ∧ Below w.heap.size w w' := by
  have BX := Lib.hid (CBox.new w c 23)
  have B0 := Lib.hid ((Below.refl w.heap.size w).alloc (Nat.le_refl _) (.cells (cfCells c) 23))
  have E := Lib.hid (show densK c = [decide (0 ≤ c.ll), decide (c.ll < c.rl), decide (c.rh < c.lh), decide (c.lh ≤ c.den), atMostB 1 2 c.rh c.den, atMostB c.rl c.den 1 8, atMostB 2 c.least c.rl c.den].all id from rfl)
  unfold cfCells at BX B0
  unfold cfv
  go_enter Try.func34, Try.ntmps34
  go_upto_region 1 with (fail)
  obtain ⟨W5, hW5⟩ : ∃ W5, W5 = w.alloc (.cells #[.int .u8 c.tag, .int .i64 c.most, .int .i64 c.seg, .int .i64 c.least, .int .i64 c.den, .int .i64 c.ll, .int .i64 c.rl, .int .i64 c.rh, .int .i64 c.lh] 23) := ⟨_, rfl⟩
  rw [← hW5] at BX B0 ⊢
  clear hW5
  have q3 : W5.drew.cell? ⟨w.heap.size, 3, none⟩ = some (.int .i64 c.least) := BX.out.c3
  have q4 : W5.drew.cell? ⟨w.heap.size, 4, none⟩ = some (.int .i64 c.den) := BX.out.c4
  have q5 : W5.drew.cell? ⟨w.heap.size, 5, none⟩ = some (.int .i64 c.ll) := BX.out.c5
  have q6 : W5.drew.cell? ⟨w.heap.size, 6, none⟩ = some (.int .i64 c.rl) := BX.out.c6
  have q7 : W5.drew.cell? ⟨w.heap.size, 7, none⟩ = some (.int .i64 c.rh) := BX.out.c7
  have q8 : W5.drew.cell? ⟨w.heap.size, 8, none⟩ = some (.int .i64 c.lh) := BX.out.c8
  have BD := Lib.hid (BX.out.below ((Below.refl _ _).drew))
  have B1 := Lib.hid B0.out.drew
  go_region_held3 (fun w' => w'.cell? ⟨w.heap.size, 3, none⟩ = some (.int .i64 c.least) ∧ w'.cell? ⟨w.heap.size, 4, none⟩ = some (.int .i64 c.den) ∧ w'.cell? ⟨w.heap.size, 5, none⟩ = some (.int .i64 c.ll) ∧ w'.cell? ⟨w.heap.size, 6, none⟩ = some (.int .i64 c.rl) ∧ w'.cell? ⟨w.heap.size, 7, none⟩ = some (.int .i64 c.rh) ∧ w'.cell? ⟨w.heap.size, 8, none⟩ = some (.int .i64 c.lh))
    (first | (with_reducible exact ⟨q3, q4, q5, q6, q7, q8⟩) | (with_reducible exact X1.out.reads6) | (with_reducible exact X2.out.reads6) | (with_reducible exact X3.out.reads6) | (with_reducible exact (X3.out.below ((Below.refl _ _).alloc (Nat.le_refl _) _)).reads6))
    (first | (go_at_call 29; (with_reducible refine (kAtMost 1 2 c.rh c.den _).mono ?_); rintro e w1 ⟨rfl, hb1⟩; have X1 := Lib.hid (BD.out.below hb1); have B2 := Lib.hid (B1.out.trans (hb1.mono B1.out.size)); clear hb1) | (go_at_call 29; (with_reducible refine (kAtMost c.rl c.den 1 8 _).mono ?_); rintro e w2 ⟨rfl, hb2⟩; have X2 := Lib.hid (X1.out.below hb2); have B3 := Lib.hid (B2.out.trans (hb2.mono B2.out.size)); clear hb2) | (go_at_call 29; (with_reducible refine (kAtMost 2 c.least c.rl c.den _).mono ?_); rintro e w3 ⟨rfl, hb3⟩; have X3 := Lib.hid (X2.out.below hb3); have B4 := Lib.hid (B3.out.trans (hb3.mono B3.out.size)); clear hb3) | (go_at_call 32; refine (kAll _ 0 7 [decide (0 ≤ c.ll), decide (c.ll < c.rl), decide (c.rh < c.lh), decide (c.lh ≤ c.den), atMostB 1 2 c.rh c.den, atMostB c.rl c.den 1 8, atMostB 2 c.least c.rl c.den] _ (show 7 ≤ 1000 by decide) (blst7 w3 _ _ _ _ _ _ _ _)).mono ?_; rw [← E.out]; rintro e w4 ⟨rfl, rfl⟩))
  go_wp2
  go_ret
  exact ⟨rfl, B4.out.alloc B4.out.size _⟩
end Go.Proofs.Ytemnhpkkmfgnaaa
