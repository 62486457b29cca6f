/- What package conf's High and checkWindow return. -/
import Derived.Test.YtemnhpkkmfgnaaaConfG
namespace Go.Proofs.Ytemnhpkkmfgnaaa
open Go.RowKit
set_option linter.unusedVariables false
set_option linter.unusedSimpArgs false

namespace Cf
theorem high_no {c : Cf} {size : Int} (h : c.mayB = false) : c.highV size = 0 ∧ c.highE size = 50 := by
  unfold highV highE; rw [h]; exact ⟨rfl, rfl⟩
theorem high_not {c : Cf} {size : Int} (h : c.mayB = true) (hi : c.isB size = false) : c.highV size = 0 ∧ c.highE size = 2 := by
  unfold highV highE; rw [h, hi]; exact ⟨rfl, rfl⟩
theorem high_yes {c : Cf} {size : Int} (h : c.mayB = true) (hi : c.isB size = true) : c.highV size = c.high size ∧ c.highE size = 0 := by
  unfold highV highE; rw [h, hi]; exact ⟨rfl, rfl⟩
/-- What is known of a capacity of a config that may be. -/
structure Is (c : Cf) (size : Int) : Prop where
  pow : Fr.powB size = true
  lo : c.least ≤ size
  hi : size ≤ c.top
theorem is_iff (c : Cf) (size : Int) : c.isB size = true ↔ c.Is size := by
  unfold isB
  rw [Bool.and_eq_true, Bool.and_eq_true, decide_eq_true_eq, decide_eq_true_eq]
  exact ⟨fun ⟨a, b, d⟩ => ⟨a, b, d⟩, fun ⟨a, b, d⟩ => ⟨a, b, d⟩⟩
theorem May.size_bd {c : Cf} {size : Int} (h : c.May) (hi : c.Is size) : c.seg ≤ size ∧ size ≤ 65535 := by
  have h1 := h.sizes.least1
  have h2 := (top_bd h.sizes h.dens).2
  have h3 := hi.lo
  have h4 := hi.hi
  omega
end Cf

set_option maxRecDepth 100000 in
set_option maxHeartbeats 2000000 in
theorem kHigh (c : Cf) (size : Int) (w : World) (hc : c.In) (hsz : size ≤ 9223372036854775807) :
    Calls Try.prog 11 #[cfv c, .int .i64 size] w fun e w' => e = .returned (.tuple #[.int .i64 (c.highV size), .int .i64 (c.highE size)]) ∧ Below w.heap.size w w' := by
  have BX := Lib.hid (CBox.new w c 23)
  have B0 := Lib.hid ((Below.refl w.heap.size w).alloc (Nat.le_refl _) (.cells (cfCells c) 23))
  have CK := Lib.hid (fun W => kCheck c W hc)
  have CP := Lib.hid (fun W => fPower size W hsz)
  clear hc
  unfold cfCells at BX B0
  cases hm : c.mayB
  · have E := Lib.hid (Cf.high_no (size := size) hm)
    rw [Cf.chk_mayn hm] at CK
    clear hm
    unfold cfv at CK ⊢
    go_enter Try.func11, Try.ntmps11
    go_wp2_with fail
    refine (CK.out _).mono ?_
    rintro e w1 ⟨rfl, hb⟩
    go_wp2
    go_ret2
    rw [E.out.1, E.out.2]
    exact ⟨rfl, B0.out.trans (hb.mono B0.out.size)⟩
  · have M := (Cf.may_iff c).1 hm
    rw [Cf.chk_may hm] at CK
    cases hp : Fr.powB size
    · have E := Lib.hid (Cf.high_not (size := size) hm (by unfold Cf.isB; rw [hp]; rfl))
      rw [hp] at CP
      clear hm M hp
      unfold cfv at CK ⊢
      go_enter Try.func11, Try.ntmps11
      go_wp2_with fail
      refine (CK.out _).mono ?_
      rintro e w1 ⟨rfl, hb⟩
      have B1 := Lib.hid (B0.out.trans (hb.mono B0.out.size))
      clear hb
      go_wp2
      go_quiet ((go_at_call 25; exact Calls.quiet_of_same (still_of (CP.out _))))
      have B2 := Lib.hid (show Below w.heap.size w (w1.drewN nq) from below_drewN B1.out nq)
      go_wp2
      go_ret2
      rw [E.out.1, E.out.2]
      exact ⟨rfl, B2.out⟩
    · have TB := c.top_bd M.sizes M.dens
      have CC := Lib.hid (fun W => kCapacityFor c c.most W M.sizes M.dens (by have := M.sizes.most1; omega) M.sizes.most2)
      have HT := Lib.hid (show c.takes c.most = c.top from rfl)
      rw [HT.out] at CC
      have CW := Lib.hid (fun W => kWithin size c.least c.top W)
      rw [hp] at CP
      cases hi : withinB size c.least c.top
      · have E := Lib.hid (Cf.high_not (size := size) hm (by unfold Cf.isB; rw [hp, Bool.true_and]; exact hi))
        rw [hi] at CW
        clear hm M hp hi
        unfold cfv at CK CC ⊢
        go_enter Try.func11, Try.ntmps11
        go_wp2_with fail
        refine (CK.out _).mono ?_
        rintro e w1 ⟨rfl, hb⟩
        have B1 := Lib.hid (B0.out.trans (hb.mono B0.out.size)).drew
        have X0 := Lib.hid ((BX.out.below hb).below ((Below.refl _ _).drew))
        clear hb
        go_wp2
        go_region_held3 (fun w' => w'.cell? ⟨w.heap.size, 0, none⟩ = some (.int .u8 c.tag) ∧ w'.cell? ⟨w.heap.size, 1, none⟩ = some (.int .i64 c.most) ∧ w'.cell? ⟨w.heap.size, 2, none⟩ = some (.int .i64 c.seg) ∧ w'.cell? ⟨w.heap.size, 3, none⟩ = some (.int .i64 c.least) ∧ w'.cell? ⟨w.heap.size, 4, none⟩ = some (.int .i64 c.den) ∧ w'.cell? ⟨w.heap.size, 5, none⟩ = some (.int .i64 c.ll) ∧ w'.cell? ⟨w.heap.size, 6, none⟩ = some (.int .i64 c.rl) ∧ w'.cell? ⟨w.heap.size, 7, none⟩ = some (.int .i64 c.rh) ∧ w'.cell? ⟨w.heap.size, 8, none⟩ = some (.int .i64 c.lh))
          (first | (with_reducible exact X0.out.reads) | (with_reducible exact X2.out.reads))
          (first | (go_at_call 25; (with_reducible refine (CP.out _).mono ?_); rintro e w3 ⟨rfl, rfl⟩) | (go_at_call 24; (with_reducible refine (CC.out _).mono ?_); rintro e w2 ⟨rfl, hb2⟩; have X2 := Lib.hid (X0.out.below hb2); have B2 := Lib.hid (B1.out.trans (hb2.mono B1.out.size)); clear hb2) | (go_at_call 26; (with_reducible refine (CW.out _).mono ?_); rintro e w3 ⟨rfl, rfl⟩))
        go_wp2
        go_ret2
        rw [E.out.1, E.out.2]
        exact ⟨rfl, B2.out⟩
      · have hI : c.isB size = true := by unfold Cf.isB; rw [hp, Bool.true_and]; exact hi
        have E := Lib.hid (Cf.high_yes (size := size) hm hI)
        have SB := M.size_bd ((Cf.is_iff c size).1 hI)
        have CH := Lib.hid (fun W => kHeightOf c size W M.sizes.seg1 SB.1 (by omega))
        rw [hi] at CW
        clear hm M hp hi hI SB
        unfold cfv at CK CC CH ⊢
        go_enter Try.func11, Try.ntmps11
        go_wp2_with fail
        refine (CK.out _).mono ?_
        rintro e w1 ⟨rfl, hb⟩
        have B1 := Lib.hid (B0.out.trans (hb.mono B0.out.size)).drew
        have X0 := Lib.hid ((BX.out.below hb).below ((Below.refl _ _).drew))
        clear hb
        go_wp2
        go_region_held3 (fun w' => w'.cell? ⟨w.heap.size, 0, none⟩ = some (.int .u8 c.tag) ∧ w'.cell? ⟨w.heap.size, 1, none⟩ = some (.int .i64 c.most) ∧ w'.cell? ⟨w.heap.size, 2, none⟩ = some (.int .i64 c.seg) ∧ w'.cell? ⟨w.heap.size, 3, none⟩ = some (.int .i64 c.least) ∧ w'.cell? ⟨w.heap.size, 4, none⟩ = some (.int .i64 c.den) ∧ w'.cell? ⟨w.heap.size, 5, none⟩ = some (.int .i64 c.ll) ∧ w'.cell? ⟨w.heap.size, 6, none⟩ = some (.int .i64 c.rl) ∧ w'.cell? ⟨w.heap.size, 7, none⟩ = some (.int .i64 c.rh) ∧ w'.cell? ⟨w.heap.size, 8, none⟩ = some (.int .i64 c.lh))
          (first | (with_reducible exact X0.out.reads) | (with_reducible exact X2.out.reads))
          (first | (go_at_call 25; (with_reducible refine (CP.out _).mono ?_); rintro e w3 ⟨rfl, rfl⟩) | (go_at_call 24; (with_reducible refine (CC.out _).mono ?_); rintro e w2 ⟨rfl, hb2⟩; have X2 := Lib.hid (X0.out.below hb2); have B2 := Lib.hid (B1.out.trans (hb2.mono B1.out.size)); clear hb2) | (go_at_call 26; (with_reducible refine (CW.out _).mono ?_); rintro e w3 ⟨rfl, rfl⟩))
        obtain ⟨_, c0, c1, c2, c3, c4, c5, c6, c7, c8, _⟩ := X2.out
        go_wp2_with fail
        refine (CH.out _).mono ?_
        rintro e w4 ⟨rfl, hb⟩
        go_wp2
        go_ret2
        rw [E.out.1, E.out.2]
        exact ⟨rfl, B2.out.trans (hb.mono B2.out.size)⟩
end Go.Proofs.Ytemnhpkkmfgnaaa
