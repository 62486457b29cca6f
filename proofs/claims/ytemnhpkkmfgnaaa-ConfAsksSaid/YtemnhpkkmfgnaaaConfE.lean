/- What package conf's heightsMayBe and Check return. -/
import Derived.Test.YtemnhpkkmfgnaaaConfD
namespace Go.Proofs.Ytemnhpkkmfgnaaa
open Go.RowKit
set_option linter.unusedVariables false
set_option linter.unusedSimpArgs false

theorem dens_eq {c : Cf} (hs : c.Sizes) : densK c = c.densB := by
  have a1 := hs.den1
  have a2 := hs.den2
  have a3 := hs.seg1
  have a4 := hs.least1
  have a5 := hs.least2
  rw [Bool.eq_iff_iff, Cf.dens_iff]
  unfold densK densL atMostB
  simp only [List.all_cons, List.all_nil, id, Bool.and_true, Bool.and_eq_true, decide_eq_true_eq]
  constructor
  · rintro ⟨h1, h2, h3, h4, ⟨_, h5⟩, ⟨_, h6⟩, ⟨_, h7⟩⟩
    exact ⟨h1, h2, h3, h4, by omega, by omega, by rw [Int.mul_comm c.rl]; exact h7⟩
  · rintro ⟨h1, h2, h3, h4, h5, h6, h7⟩
    unfold Fr.small4
    rw [Fr.small_mk (n := 1) (by omega) (by omega), Fr.small_mk (n := 2) (by omega) (by omega), Fr.small_mk (n := c.rh) (by omega) (by omega), Fr.small_mk (n := c.den) (by omega) (by omega), Fr.small_mk (n := c.rl) (by omega) (by omega), Fr.small_mk (n := 8) (by omega) (by omega), Fr.small_mk (n := c.least) (by omega) (by omega)]
    exact ⟨h1, h2, h3, h4, ⟨rfl, by omega⟩, ⟨rfl, by omega⟩, ⟨rfl, by rw [Int.mul_comm c.least]; exact h7⟩⟩
theorem CBox.reads {w : World} {g : Nat} {c : Cf} (h : CBox w g c) : w.cell? ⟨g, 0, none⟩ = some (.int .u8 c.tag) ∧ w.cell? ⟨g, 1, none⟩ = some (.int .i64 c.most) ∧ w.cell? ⟨g, 2, none⟩ = some (.int .i64 c.seg) ∧ w.cell? ⟨g, 3, none⟩ = some (.int .i64 c.least) ∧ w.cell? ⟨g, 4, none⟩ = some (.int .i64 c.den) ∧ w.cell? ⟨g, 5, none⟩ = some (.int .i64 c.ll) ∧ w.cell? ⟨g, 6, none⟩ = some (.int .i64 c.rl) ∧ w.cell? ⟨g, 7, none⟩ = some (.int .i64 c.rh) ∧ w.cell? ⟨g, 8, none⟩ = some (.int .i64 c.lh) := ⟨h.c0, h.c1, h.c2, h.c3, h.c4, h.c5, h.c6, h.c7, h.c8⟩

namespace Cf
theorem top_bd {c : Cf} (hs : c.Sizes) (hd : c.Dens) : c.seg ≤ c.top ∧ c.top ≤ 65535 := by
  have h1 := hs.most1
  have h2 := hs.most2
  have h3 := takes_le hs hd (n := c.most) (by omega) h2
  have h4 := takes_ge c hs c.most
  have h5 := hs.least1
  unfold top
  omega
theorem high_bd (c : Cf) (size : Int) (h : c.seg ≤ size) (h1 : 4 ≤ c.seg) (h2 : size ≤ 65535) : 0 ≤ c.high size ∧ c.high size ≤ 14 := by
  unfold high
  have q2 : size / c.seg ≤ 16383 := by
    have : size / c.seg < 16384 := Int.ediv_lt_of_lt_mul (by omega) (by omega)
    omega
  have q1 : 0 ≤ size / c.seg := Int.ediv_nonneg (by omega) (by omega)
  refine ⟨Fr.lg_nonneg _, ?_⟩
  unfold Fr.lg
  by_cases h0 : (size / c.seg).toNat = 0
  · rw [h0]; decide
  · have : (size / c.seg).toNat.log2 < 15 := (Nat.log2_lt h0).2 (by omega)
    omega
end Cf

set_option maxRecDepth 100000 in
set_option maxHeartbeats 2000000 in
theorem kHeights (c : Cf) (w : World) (hs : c.Sizes) (hd : c.Dens) :
    Calls Try.prog 35 #[cfv c] w fun e w' => e = .returned (.bool c.fallsB) ∧ Below w.heap.size w w' := by
  have BX := Lib.hid (CBox.new w c 23)
  have B0 := Lib.hid ((Below.refl w.heap.size w).alloc (Nat.le_refl _) (.cells (cfCells c) 23))
  have m1 := hs.most1
  have m2 := hs.most2
  have TB := c.top_bd hs hd
  obtain ⟨g1, g2⟩ := TB
  have HB := c.high_bd c.top g1 hs.seg1 g2
  obtain ⟨g3, g4⟩ := HB
  have d1 := hs.den1
  have d2 := hs.den2
  have r1 := hd.rh1 hs
  have r2 := hd.rhlh
  have r3 := hd.lhd
  have s1 := hs.seg1
  have s2 := hs.seg2
  have E := Lib.hid (show atMostB (c.high c.top) c.seg (c.lh - c.rh) c.den = c.fallsB by
    rw [atMost_small (by omega) (by omega) (by omega) (by omega) (by omega) (by omega) (by omega) (by omega)]
    unfold Cf.fallsB
    rw [Int.mul_comm c.seg])
  have CC := Lib.hid (fun W => kCapacityFor c c.most W hs hd (by omega) m2)
  have CH := Lib.hid (fun W => kHeightOf c c.top W s1 g1 (by omega))
  have HT := Lib.hid (show c.takes c.most = c.top from rfl)
  rw [HT.out] at CC
  clear hs hd
  unfold cfCells at BX B0
  unfold cfv at CC CH ⊢
  go_enter Try.func35, Try.ntmps35
  go_upto_region 1 with (fail)
  obtain ⟨W5, hW5⟩ : ∃ W5, W5 = w.alloc (.cells #[.int .u8 c.tag, .int .i64 c.most, .int .i64 c.seg, .int .i64 c.least, .int .i64 c.den, .int .i64 c.ll, .int .i64 c.rl, .int .i64 c.rh, .int .i64 c.lh] 23) := ⟨_, rfl⟩
  rw [← hW5] at BX B0 ⊢
  clear hW5
  have B1 := Lib.hid B0.out.drew
  have X0 := Lib.hid (BX.out.below ((Below.refl _ _).drew))
  go_region_held3 (fun w' => w'.cell? ⟨w.heap.size, 0, none⟩ = some (.int .u8 c.tag) ∧ w'.cell? ⟨w.heap.size, 1, none⟩ = some (.int .i64 c.most) ∧ w'.cell? ⟨w.heap.size, 2, none⟩ = some (.int .i64 c.seg) ∧ w'.cell? ⟨w.heap.size, 3, none⟩ = some (.int .i64 c.least) ∧ w'.cell? ⟨w.heap.size, 4, none⟩ = some (.int .i64 c.den) ∧ w'.cell? ⟨w.heap.size, 5, none⟩ = some (.int .i64 c.ll) ∧ w'.cell? ⟨w.heap.size, 6, none⟩ = some (.int .i64 c.rl) ∧ w'.cell? ⟨w.heap.size, 7, none⟩ = some (.int .i64 c.rh) ∧ w'.cell? ⟨w.heap.size, 8, none⟩ = some (.int .i64 c.lh))
    (first | (with_reducible exact X0.out.reads) | (with_reducible exact X1.out.reads) | (with_reducible exact X2.out.reads))
    (first | (go_at_call 24; (with_reducible refine (CC.out _).mono ?_); rintro e w1 ⟨rfl, hb1⟩; have X1 := Lib.hid (X0.out.below hb1); have B2 := Lib.hid (B1.out.trans (hb1.mono B1.out.size)); clear hb1) | (go_at_call 27; (with_reducible refine (CH.out _).mono ?_); rintro e w2 ⟨rfl, hb2⟩; have X2 := Lib.hid (X1.out.below hb2); have B3 := Lib.hid (B2.out.trans (hb2.mono B2.out.size)); clear hb2))
  obtain ⟨_, _, _, c2, _, c4, _, _, c7, c8, _⟩ := X2.out
  go_wp2_with fail
  refine (kAtMost (c.high c.top) c.seg (c.lh - c.rh) c.den _).mono ?_
  rw [E.out]
  rintro e w3 ⟨rfl, hb3⟩
  go_wp2
  go_ret
  exact ⟨rfl, B3.out.trans (hb3.mono B3.out.size)⟩
end Go.Proofs.Ytemnhpkkmfgnaaa
