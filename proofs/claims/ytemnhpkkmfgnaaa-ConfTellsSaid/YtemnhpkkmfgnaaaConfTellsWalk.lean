/- The law ConfTells, walked over the contracts: it answers true. -/
import Derived.Test.YtemnhpkkmfgnaaaConfJ
import Derived.Test.YtemnhpkkmfgnaaaRefC05
namespace Go.Proofs.Ytemnhpkkmfgnaaa.confTells
open Go.RowKit
set_option linter.unusedVariables false
set_option linter.unusedSimpArgs false

set_option maxRecDepth 100000 in
set_option maxHeartbeats 4000000 in
theorem walk (c : Cf) (n : Int) (w : World) (hc : c.In) (hsz : n ≤ 9223372036854775807) :
    Calls Try.prog 4 #[cfv c, .int .i64 n] w fun e w' => e = .returned (.bool true) ∧ Below w.heap.size w w' := by
  have BX := Lib.hid (CBox.new w c 23)
  have B0 := Lib.hid ((Below.refl w.heap.size w).alloc (Nat.le_refl _) (.cells (cfCells c) 23))
  have C1 := Lib.hid (fun W => kCap c n W hc)
  have C2 := Lib.hid (fun W => r5Cap c n W hc)
  have C3 := Lib.hid (fun W => kHigh c n W hc hsz)
  have C4 := Lib.hid (fun W => r5High c n W hc hsz)
  have C5 := Lib.hid (fun W => kCheck c W hc)
  have C6 := Lib.hid (fun W => r5Check c W hc)
  clear hc
  unfold cfCells at BX B0
  obtain ⟨x, hx⟩ : ∃ x, x = c.capV n := ⟨_, rfl⟩
  obtain ⟨y, hy⟩ : ∃ y, y = c.capE n := ⟨_, rfl⟩
  obtain ⟨z, hz⟩ : ∃ z, z = c.highV n := ⟨_, rfl⟩
  obtain ⟨u, hu⟩ : ∃ u, u = c.highE n := ⟨_, rfl⟩
  obtain ⟨v, hv⟩ : ∃ v, v = c.chkE := ⟨_, rfl⟩
  rw [← hx, ← hy] at C1 C2
  rw [← hz, ← hu] at C3 C4
  rw [← hv] at C5 C6
  clear hx hy hz hu hv
  unfold cfv at C1 C2 C3 C4 C5 C6 ⊢
  go_enter Try.func4, Try.ntmps4
  go_wp2_with fail
  refine (C1.out _).mono ?_
  rintro e w1 ⟨rfl, hb⟩
  have B1 := Lib.hid (B0.out.trans (hb.mono B0.out.size))
  have X1 := Lib.hid (BX.out.below hb)
  obtain ⟨_, c0, c1, c2, c3, c4, c5, c6, c7, c8, _⟩ := X1.out
  clear hb
  go_wp2_with fail
  refine (C2.out _).mono ?_
  rintro e w2 ⟨rfl, hb⟩
  have B2 := Lib.hid (B1.out.trans (hb.mono B1.out.size))
  have X2 := Lib.hid (X1.out.below hb)
  clear hb c0 c1 c2 c3 c4 c5 c6 c7 c8
  obtain ⟨_, c0, c1, c2, c3, c4, c5, c6, c7, c8, _⟩ := X2.out
  go_wp2_with fail
  refine (C3.out _).mono ?_
  rintro e w3 ⟨rfl, hb⟩
  have B3 := Lib.hid (B2.out.trans (hb.mono B2.out.size))
  have X3 := Lib.hid (X2.out.below hb)
  clear hb c0 c1 c2 c3 c4 c5 c6 c7 c8
  obtain ⟨_, c0, c1, c2, c3, c4, c5, c6, c7, c8, _⟩ := X3.out
  go_wp2_with fail
  refine (C4.out _).mono ?_
  rintro e w4 ⟨rfl, hb⟩
  have B4 := Lib.hid (B3.out.trans (hb.mono B3.out.size)).drew
  have X4 := Lib.hid ((X3.out.below hb).below ((Below.refl _ _).drew))
  clear hb c0 c1 c2 c3 c4 c5 c6 c7 c8
  go_upto_region 5 with (fail)
  go_region_held3 (fun w' => w'.cell? ⟨w.heap.size, 0, none⟩ = some (.int .u8 c.tag) ∧ w'.cell? ⟨w.heap.size, 1, none⟩ = some (.int .i64 c.most) ∧ w'.cell? ⟨w.heap.size, 2, none⟩ = some (.int .i64 c.seg) ∧ w'.cell? ⟨w.heap.size, 3, none⟩ = some (.int .i64 c.least) ∧ w'.cell? ⟨w.heap.size, 4, none⟩ = some (.int .i64 c.den) ∧ w'.cell? ⟨w.heap.size, 5, none⟩ = some (.int .i64 c.ll) ∧ w'.cell? ⟨w.heap.size, 6, none⟩ = some (.int .i64 c.rl) ∧ w'.cell? ⟨w.heap.size, 7, none⟩ = some (.int .i64 c.rh) ∧ w'.cell? ⟨w.heap.size, 8, none⟩ = some (.int .i64 c.lh))
    (first | (with_reducible exact X4.out.reads) | (with_reducible exact X5.out.reads) | (with_reducible exact X6.out.reads))
    (first | (go_at_call 16; (with_reducible refine (C5.out _).mono ?_); rintro e w5 ⟨rfl, hb5⟩; have X5 := Lib.hid (X4.out.below hb5); have B5 := Lib.hid (B4.out.trans (hb5.mono B4.out.size)); clear hb5) | (go_at_call 19; (with_reducible refine (C6.out _).mono ?_); rintro e w6 ⟨rfl, hb6⟩; have X6 := Lib.hid (X5.out.below hb6); have B6 := Lib.hid (B5.out.trans (hb6.mono B5.out.size)); clear hb6))
  go_wp2
  go_ret
  exact ⟨rfl, B6.out⟩
end Go.Proofs.Ytemnhpkkmfgnaaa.confTells
