/- Capacities, heights and windows of a config. -/
import Derived.Test.YtgcdidklaiaohaaGreatDoorP5bLo
import Derived.BigQuiet
namespace Go.Proofs.YtgcdidklaiaohaaGreatDoor
open Go.RowKit
set_option linter.unusedVariables false
set_option linter.unusedSimpArgs false

namespace Cf
structure May (c : Cf) : Prop where
  sizes : c.Sizes
  dens : c.Dens
  falls : c.high c.top * c.den ≤ (c.lh - c.rh) * c.seg
theorem may_iff (c : Cf) : c.mayB = true ↔ c.May := by
  unfold mayB; rw [Bool.and_eq_true, Bool.and_eq_true, sizes_iff, dens_iff]; unfold fallsB; rw [decide_eq_true_eq]; exact ⟨fun ⟨⟨a, b⟩, d⟩ => ⟨a, b, d⟩, fun ⟨a, b, d⟩ => ⟨⟨a, b⟩, d⟩⟩
theorem chk_may {c : Cf} (h : c.mayB = true) : c.chkE = 0 := by unfold chkE; rw [h]; rfl
theorem chk_mayn {c : Cf} (h : c.mayB = false) : c.chkE = 50 := by unfold chkE; rw [h]; rfl
end Cf

set_option maxRecDepth 100000 in
set_option maxHeartbeats 2000000 in
theorem kCap (c : Cf) (n : Int) (w : World) (hc : c.In) :
    Calls Tryz.prog 66 #[cfv c, .int .i64 n] w fun e w' => e = .returned (.tuple #[.int .i64 (c.capV n), .int .i64 (c.capE n)]) ∧ Below w.heap.size w w' := by
  have BX := Lib.hid (CBox.new w c 32); have B0 := Lib.hid ((Below.refl w.heap.size w).alloc (Nat.le_refl _) (.cells (cfCells c) 32)); have CK := Lib.hid (fun W => kCheck c W hc); clear hc; unfold cfCells at BX B0
  cases hm : c.mayB
  · have E := Lib.hid (show c.capV n = 0 ∧ c.capE n = 50 by unfold Cf.capV Cf.capE; rw [hm]; exact ⟨rfl, rfl⟩)
    rw [Cf.chk_mayn hm] at CK; clear hm; unfold cfv at CK ⊢
    go_enter Tryz.func66, Tryz.ntmps66
    go_wp2_with fail
    refine (CK.out _).mono ?_; rintro e w1 ⟨rfl, hb⟩; go_wp2; go_ret2; rw [E.out.1, E.out.2]; exact ⟨rfl, B0.out.trans (hb.mono B0.out.size)⟩
  · have M := (Cf.may_iff c).1 hm
    rw [Cf.chk_may hm] at CK
    by_cases h1 : n < 0
    · have E := Lib.hid (show c.capV n = 0 ∧ c.capE n = 2 by unfold Cf.capV Cf.capE; rw [hm, if_pos rfl, if_pos rfl, if_pos h1, if_pos h1]; exact ⟨rfl, rfl⟩)
      clear hm M; unfold cfv at CK ⊢
      go_enter Tryz.func66, Tryz.ntmps66
      go_wp2_with fail
      refine (CK.out _).mono ?_; rintro e w1 ⟨rfl, hb⟩; go_wp2; go_ret2; rw [E.out.1, E.out.2]; exact ⟨rfl, B0.out.trans (hb.mono B0.out.size)⟩
    · by_cases h2 : c.most < n
      · have E := Lib.hid (show c.capV n = 0 ∧ c.capE n = 4 by unfold Cf.capV Cf.capE; rw [hm, if_pos rfl, if_pos rfl, if_neg h1, if_neg h1, if_pos h2, if_pos h2]; exact ⟨rfl, rfl⟩)
        clear hm M; unfold cfv at CK ⊢
        go_enter Tryz.func66, Tryz.ntmps66
        go_wp2_with fail
        refine (CK.out _).mono ?_; rintro e w1 ⟨rfl, hb⟩; have c1 := (BX.out.below hb).c1; go_wp2; go_ret2; rw [E.out.1, E.out.2]; exact ⟨rfl, B0.out.trans (hb.mono B0.out.size)⟩
      · have E := Lib.hid (show c.capV n = c.takes n ∧ c.capE n = 0 by unfold Cf.capV Cf.capE; rw [hm, if_pos rfl, if_pos rfl, if_neg h1, if_neg h1, if_neg h2, if_neg h2]; exact ⟨rfl, rfl⟩)
        have CC := Lib.hid (fun W => kCapacityFor c n W M.sizes M.dens (by omega) (by have := M.sizes.most2; omega)); clear hm M; unfold cfv at CK CC ⊢
        go_enter Tryz.func66, Tryz.ntmps66
        go_wp2_with fail
        refine (CK.out _).mono ?_; rintro e w1 ⟨rfl, hb⟩; have B1 := Lib.hid (B0.out.trans (hb.mono B0.out.size)); obtain ⟨_, c0, c1, c2, c3, c4, c5, c6, c7, c8, _⟩ := BX.out.below hb; clear hb
        go_wp2_with fail
        refine (CC.out _).mono ?_; rintro e w2 ⟨rfl, hb⟩; go_wp2; go_ret2; rw [E.out.1, E.out.2]; exact ⟨rfl, B1.out.trans (hb.mono B1.out.size)⟩
end Go.Proofs.YtgcdidklaiaohaaGreatDoor
namespace Go.Proofs.YtgcdidklaiaohaaGreatDoor
open Go.RowKit
set_option linter.unusedVariables false
set_option linter.unusedSimpArgs false

namespace Cf
theorem high_no {c : Cf} {size : Int} (h : c.mayB = false) : c.highV size = 0 ∧ c.highE size = 50 := by
  unfold highV highE; rw [h]; exact ⟨rfl, rfl⟩
theorem high_not {c : Cf} {size : Int} (h : c.mayB = true) (hi : c.isB size = false) : c.highV size = 0 ∧ c.highE size = 2 := by
  unfold highV highE; rw [h, hi]; exact ⟨rfl, rfl⟩
theorem high_yes {c : Cf} {size : Int} (h : c.mayB = true) (hi : c.isB size = true) : c.highV size = c.high size ∧ c.highE size = 0 := by
  unfold highV highE; rw [h, hi]; exact ⟨rfl, rfl⟩
/-- What is known of a capacity of a config that may be. -/
structure Is (c : Cf) (size : Int) : Prop where
  pow : Fr.powB size = true
  lo : c.least ≤ size
  hi : size ≤ c.top
theorem is_iff (c : Cf) (size : Int) : c.isB size = true ↔ c.Is size := by
  unfold isB; rw [Bool.and_eq_true, Bool.and_eq_true, decide_eq_true_eq, decide_eq_true_eq]; exact ⟨fun ⟨a, b, d⟩ => ⟨a, b, d⟩, fun ⟨a, b, d⟩ => ⟨a, b, d⟩⟩
theorem May.size_bd {c : Cf} {size : Int} (h : c.May) (hi : c.Is size) : c.seg ≤ size ∧ size ≤ 65535 := by
  have h1 := h.sizes.least1; have h2 := (top_bd h.sizes h.dens).2; have h3 := hi.lo; have h4 := hi.hi
  omega
end Cf

set_option maxRecDepth 100000 in
set_option maxHeartbeats 2000000 in
theorem kHigh (c : Cf) (size : Int) (w : World) (hc : c.In) (hsz : size ≤ 9223372036854775807) :
    Calls Tryz.prog 81 #[cfv c, .int .i64 size] w fun e w' => e = .returned (.tuple #[.int .i64 (c.highV size), .int .i64 (c.highE size)]) ∧ Below w.heap.size w w' := by
  have BX := Lib.hid (CBox.new w c 32); have B0 := Lib.hid ((Below.refl w.heap.size w).alloc (Nat.le_refl _) (.cells (cfCells c) 32)); have CK := Lib.hid (fun W => kCheck c W hc); have CP := Lib.hid (fun W => fPower size W hsz); clear hc; unfold cfCells at BX B0
  cases hm : c.mayB
  · have E := Lib.hid (Cf.high_no (size := size) hm)
    rw [Cf.chk_mayn hm] at CK; clear hm; unfold cfv at CK ⊢
    go_enter Tryz.func81, Tryz.ntmps81
    go_wp2_with fail
    refine (CK.out _).mono ?_; rintro e w1 ⟨rfl, hb⟩; go_wp2; go_ret2; rw [E.out.1, E.out.2]; exact ⟨rfl, B0.out.trans (hb.mono B0.out.size)⟩
  · have M := (Cf.may_iff c).1 hm
    rw [Cf.chk_may hm] at CK
    cases hp : Fr.powB size
    · have E := Lib.hid (Cf.high_not (size := size) hm (by unfold Cf.isB; rw [hp]; rfl))
      rw [hp] at CP; clear hm M hp; unfold cfv at CK ⊢
      go_enter Tryz.func81, Tryz.ntmps81
      go_wp2_with fail
      refine (CK.out _).mono ?_; rintro e w1 ⟨rfl, hb⟩; have B1 := Lib.hid (B0.out.trans (hb.mono B0.out.size)); clear hb; go_wp2
      go_quiet ((go_at_call 124; exact Calls.quiet_of_same (still_of (CP.out _))))
      have B2 := Lib.hid (show Below w.heap.size w (w1.drewN nq) from below_drewN B1.out nq); go_wp2; go_ret2; rw [E.out.1, E.out.2]; exact ⟨rfl, B2.out⟩
    · have TB := c.top_bd M.sizes M.dens
      have CC := Lib.hid (fun W => kCapacityFor c c.most W M.sizes M.dens (by have := M.sizes.most1; omega) M.sizes.most2); have HT := Lib.hid (show c.takes c.most = c.top from rfl); rw [HT.out] at CC; have CW := Lib.hid (fun W => kWithin size c.least c.top W); rw [hp] at CP
      cases hi : withinB size c.least c.top
      · have E := Lib.hid (Cf.high_not (size := size) hm (by unfold Cf.isB; rw [hp, Bool.true_and]; exact hi))
        rw [hi] at CW; clear hm M hp hi; unfold cfv at CK CC ⊢
        go_enter Tryz.func81, Tryz.ntmps81
        go_wp2_with fail
        refine (CK.out _).mono ?_; rintro e w1 ⟨rfl, hb⟩; have B1 := Lib.hid (B0.out.trans (hb.mono B0.out.size)).drew; have X0 := Lib.hid ((BX.out.below hb).below ((Below.refl _ _).drew)); clear hb; go_wp2
        go_region_held3 (fun w' => w'.cell? ⟨w.heap.size, 0, none⟩ = some (.int .u8 c.tag) ∧ w'.cell? ⟨w.heap.size, 1, none⟩ = some (.int .i64 c.most) ∧ w'.cell? ⟨w.heap.size, 2, none⟩ = some (.int .i64 c.seg) ∧ w'.cell? ⟨w.heap.size, 3, none⟩ = some (.int .i64 c.least) ∧ w'.cell? ⟨w.heap.size, 4, none⟩ = some (.int .i64 c.den) ∧ w'.cell? ⟨w.heap.size, 5, none⟩ = some (.int .i64 c.ll) ∧ w'.cell? ⟨w.heap.size, 6, none⟩ = some (.int .i64 c.rl) ∧ w'.cell? ⟨w.heap.size, 7, none⟩ = some (.int .i64 c.rh) ∧ w'.cell? ⟨w.heap.size, 8, none⟩ = some (.int .i64 c.lh))
          (first | (with_reducible exact X0.out.reads) | (with_reducible exact X2.out.reads))
          (first | (go_at_call 124; (with_reducible refine (CP.out _).mono ?_); rintro e w3 ⟨rfl, rfl⟩) | (go_at_call 126; (with_reducible refine (CC.out _).mono ?_); rintro e w2 ⟨rfl, hb2⟩; have X2 := Lib.hid (X0.out.below hb2); have B2 := Lib.hid (B1.out.trans (hb2.mono B1.out.size)); clear hb2) | (go_at_call 123; (with_reducible refine (CW.out _).mono ?_); rintro e w3 ⟨rfl, rfl⟩))
        go_wp2; go_ret2; rw [E.out.1, E.out.2]; exact ⟨rfl, B2.out⟩
      · have hI : c.isB size = true := by unfold Cf.isB; rw [hp, Bool.true_and]; exact hi
        have E := Lib.hid (Cf.high_yes (size := size) hm hI); have SB := M.size_bd ((Cf.is_iff c size).1 hI); have CH := Lib.hid (fun W => kHeightOf c size W M.sizes.seg1 SB.1 (by omega)); rw [hi] at CW; clear hm M hp hi hI SB; unfold cfv at CK CC CH ⊢
        go_enter Tryz.func81, Tryz.ntmps81
        go_wp2_with fail
        refine (CK.out _).mono ?_; rintro e w1 ⟨rfl, hb⟩; have B1 := Lib.hid (B0.out.trans (hb.mono B0.out.size)).drew; have X0 := Lib.hid ((BX.out.below hb).below ((Below.refl _ _).drew)); clear hb; go_wp2
        go_region_held3 (fun w' => w'.cell? ⟨w.heap.size, 0, none⟩ = some (.int .u8 c.tag) ∧ w'.cell? ⟨w.heap.size, 1, none⟩ = some (.int .i64 c.most) ∧ w'.cell? ⟨w.heap.size, 2, none⟩ = some (.int .i64 c.seg) ∧ w'.cell? ⟨w.heap.size, 3, none⟩ = some (.int .i64 c.least) ∧ w'.cell? ⟨w.heap.size, 4, none⟩ = some (.int .i64 c.den) ∧ w'.cell? ⟨w.heap.size, 5, none⟩ = some (.int .i64 c.ll) ∧ w'.cell? ⟨w.heap.size, 6, none⟩ = some (.int .i64 c.rl) ∧ w'.cell? ⟨w.heap.size, 7, none⟩ = some (.int .i64 c.rh) ∧ w'.cell? ⟨w.heap.size, 8, none⟩ = some (.int .i64 c.lh))
          (first | (with_reducible exact X0.out.reads) | (with_reducible exact X2.out.reads))
          (first | (go_at_call 124; (with_reducible refine (CP.out _).mono ?_); rintro e w3 ⟨rfl, rfl⟩) | (go_at_call 126; (with_reducible refine (CC.out _).mono ?_); rintro e w2 ⟨rfl, hb2⟩; have X2 := Lib.hid (X0.out.below hb2); have B2 := Lib.hid (B1.out.trans (hb2.mono B1.out.size)); clear hb2) | (go_at_call 123; (with_reducible refine (CW.out _).mono ?_); rintro e w3 ⟨rfl, rfl⟩))
        obtain ⟨_, c0, c1, c2, c3, c4, c5, c6, c7, c8, _⟩ := X2.out
        go_wp2_with fail
        refine (CH.out _).mono ?_; rintro e w4 ⟨rfl, hb⟩; go_wp2; go_ret2; rw [E.out.1, E.out.2]; exact ⟨rfl, B2.out.trans (hb.mono B2.out.size)⟩
end Go.Proofs.YtgcdidklaiaohaaGreatDoor
namespace Go.Proofs.YtgcdidklaiaohaaGreatDoor
open Go.RowKit
set_option linter.unusedVariables false
set_option linter.unusedSimpArgs false

namespace Cf
def cwV (c : Cf) (size h n : Int) : Int := if c.okB size h n then c.high size else 0
/-- An error of High is that of all that asks High first. -/
theorem ask_bad {c : Cf} {size : Int} (h : Int) (n : Int) (hh : c.mayB = false ∨ c.isB size = false) : c.askE size h n = c.highE size ∧ c.cwV size h n = 0 ∧ (c.highE size != 0) = true ∧ c.highV size = 0 := by
  unfold askE cwV okB highE highV
  cases hm : c.mayB
  · exact ⟨rfl, rfl, rfl, rfl⟩
  · cases hi : c.isB size
    · exact ⟨rfl, rfl, rfl, rfl⟩
    · rw [hm, hi] at hh; rcases hh with hh | hh <;> cases hh
theorem ask_in {c : Cf} {size h n : Int} (hm : c.mayB = true) (hi : c.isB size = true) : c.askE size h n = (if c.inB size h n then 0 else 2) ∧ c.cwV size h n = if c.inB size h n then c.high size else 0 := by
  unfold askE cwV okB; rw [hm, hi]; exact ⟨rfl, rfl⟩
end Cf

set_option maxRecDepth 100000 in
set_option maxHeartbeats 2000000 in
theorem kCheckWindow (c : Cf) (size h n : Int) (w : World) (hc : c.In) (hsz : size ≤ 9223372036854775807) :
    Calls Tryz.prog 112 #[cfv c, .int .i64 size, .int .i64 h, .int .i64 n] w fun e w' => e = .returned (.tuple #[.int .i64 (c.cwV size h n), .int .i64 (c.askE size h n)]) ∧ Below w.heap.size w w' := by
  have BX := Lib.hid (CBox.new w c 32); have B0 := Lib.hid ((Below.refl w.heap.size w).alloc (Nat.le_refl _) (.cells (cfCells c) 32)); have CK := Lib.hid (fun W => kHigh c size W hc hsz); clear hc; unfold cfCells at BX B0
  by_cases hbad : c.mayB = false ∨ c.isB size = false
  · have E := Lib.hid (Cf.ask_bad h n hbad)
    have k1 := E.out.2.2.1; rw [E.out.2.2.2] at CK; clear hbad; obtain ⟨x, hx⟩ : ∃ x, x = c.highE size := ⟨_, rfl⟩; rw [← hx] at k1 CK E; clear hx; unfold cfv at CK ⊢
    go_enter Tryz.func112, Tryz.ntmps112
    go_wp2_with fail
    refine (CK.out _).mono ?_; rintro e w1 ⟨rfl, hb⟩; go_wp2; go_ret2; rw [E.out.1, E.out.2.1]; exact ⟨rfl, B0.out.trans (hb.mono B0.out.size)⟩
  · have hm : c.mayB = true := by cases hq : c.mayB <;> simp [hq] at hbad ⊢
    have hi : c.isB size = true := by cases hq : c.isB size <;> simp [hq] at hbad ⊢
    have M := (Cf.may_iff c).1 hm; have SB := M.size_bd ((Cf.is_iff c size).1 hi); have HB := c.high_bd size SB.1 M.sizes.seg1 SB.2; rw [(Cf.high_yes hm hi).1, (Cf.high_yes hm hi).2] at CK; have E := Lib.hid (Cf.ask_in (h := h) (n := n) hm hi); have CW := Lib.hid (fun W => kWithin h 0 (c.high size) W); have HIN := Lib.hid (show c.inB size h n = (withinB h 0 (c.high size) && withinB n 0 (c.wide h)) from rfl); have s1 := M.sizes.seg1; have s2 := M.sizes.seg2; clear hbad hm hi M SB
    cases hw : withinB h 0 (c.high size)
    · rw [hw] at CW HIN
      rw [HIN.out] at E; clear hw HIN; unfold cfv at CK ⊢
      go_enter Tryz.func112, Tryz.ntmps112
      go_wp2_with fail
      refine (CK.out _).mono ?_; rintro e w1 ⟨rfl, hb⟩
      go_wp2_with fail
      refine (CW.out _).mono ?_; rintro e w2 ⟨rfl, rfl⟩; go_wp2; go_ret2; rw [E.out.1, E.out.2]; exact ⟨rfl, B0.out.trans (hb.mono B0.out.size)⟩
    · have hh : 0 ≤ h ∧ h ≤ c.high size := by simpa [withinB] using hw
      have CS := Lib.hid (fun W => kSlotsOf c h W s1 s2 hh.1 (by omega)); have CN := Lib.hid (fun W => kWithin n 0 (c.wide h) W); rw [hw, Bool.true_and] at HIN; rw [hw] at CW; rw [HIN.out] at E; clear hw HIN hh; obtain ⟨b, hb0⟩ : ∃ b, b = withinB n 0 (c.wide h) := ⟨_, rfl⟩; rw [← hb0] at E CN; clear hb0; unfold cfv at CK CS ⊢
      cases b
      all_goals
        go_enter Tryz.func112, Tryz.ntmps112
        go_wp2_with fail
        refine (CK.out _).mono ?_; rintro e w1 ⟨rfl, hb⟩; have B1 := Lib.hid (B0.out.trans (hb.mono B0.out.size)); obtain ⟨_, c0, c1, c2, c3, c4, c5, c6, c7, c8, _⟩ := BX.out.below hb; clear hb
        go_wp2_with fail
        refine (CW.out _).mono ?_; rintro e w2 ⟨rfl, rfl⟩
        go_wp2_with fail
        refine (CS.out _).mono ?_; rintro e w2 ⟨rfl, hb⟩; have B2 := Lib.hid (B1.out.trans (hb.mono B1.out.size)); clear hb c0 c1 c2 c3 c4 c5 c6 c7 c8
        go_wp2_with fail
        refine (CN.out _).mono ?_; rintro e w3 ⟨rfl, rfl⟩; go_wp2; go_ret2; rw [E.out.1, E.out.2]; exact ⟨rfl, B2.out⟩
end Go.Proofs.YtgcdidklaiaohaaGreatDoor
namespace Go.Proofs.YtgcdidklaiaohaaGreatDoor
set_option linter.unusedVariables false

theorem pow_of {n : Int} (h : Fr.powB n = true) : ∃ a : Nat, n = 2 ^ a ∧ (a : Int) = Fr.lg n := by
  have h1 := (Fr.powB_true h).1; have h2 := Fr.powB_pow n h1; rw [h] at h2
  have h3 : (2 : Int) ^ (Fr.lg n).toNat = n := by simpa using h2.symm
  have h4 := Fr.lg_nonneg n; exact ⟨(Fr.lg n).toNat, h3.symm, by omega⟩
theorem lg_two (a : Nat) : Fr.lg (2 ^ a) = a := by
  unfold Fr.lg
  have e : ((2 : Int) ^ a).toNat = 2 ^ a := by
    have : ((2 ^ a : Nat) : Int) = (2 : Int) ^ a := by simp
    rw [← this]; exact Int.toNat_natCast _
  rw [e, Nat.log2_two_pow]
theorem powB_two (a : Nat) : Fr.powB (2 ^ a) = true := by
  have h0 := Fr.pow_pos a; rw [Fr.powB_pow _ (by omega), lg_two]
  simp
theorem two_le {a b : Nat} (h : (2 : Int) ^ a ≤ 2 ^ b) : a ≤ b := by
  have e1 : ((2 ^ a : Nat) : Int) = (2 : Int) ^ a := by simp
  have e2 : ((2 ^ b : Nat) : Int) = (2 : Int) ^ b := by simp
  have : 2 ^ a ≤ 2 ^ b := by omega
  exact (Nat.pow_le_pow_iff_right (by decide)).1 this
theorem two_mono {a b : Nat} (h : a ≤ b) : (2 : Int) ^ a ≤ 2 ^ b := by
  have e1 : ((2 ^ a : Nat) : Int) = (2 : Int) ^ a := by simp
  have e2 : ((2 ^ b : Nat) : Int) = (2 : Int) ^ b := by simp
  have : 2 ^ a ≤ 2 ^ b := Nat.pow_le_pow_right (by decide) h
  omega
namespace Cf
/-- A capacity is its segment, doubled as often as it is high. -/
theorem wide_of {c : Cf} {size : Int} (hs : Fr.powB c.seg = true) (hp : Fr.powB size = true) (hle : c.seg ≤ size) : c.wide (c.high size) = size := by
  obtain ⟨b, hb, _⟩ := pow_of hs; obtain ⟨a, ha, _⟩ := pow_of hp; have hab : b ≤ a := two_le (by rw [← hb, ← ha]; exact hle); obtain ⟨d, rfl⟩ : ∃ d, a = b + d := ⟨a - b, by omega⟩
  have e : size = c.seg * 2 ^ d := by rw [ha, hb, Int.pow_add]
  have hb0 := Fr.pow_pos b; unfold wide high; rw [e, Int.mul_ediv_cancel_left _ (by omega), lg_two, Int.toNat_natCast]
theorem wide_le {c : Cf} {h k : Int} (h0 : 0 ≤ c.seg) (hk : h ≤ k) : c.wide h ≤ c.wide k := by
  unfold wide; exact Int.mul_le_mul_of_nonneg_left (two_mono (by omega)) h0
/-- What is known where High, and the window, are right. -/
structure Ok (c : Cf) (size h n : Int) : Prop where
  may : c.May
  is : c.Is size
  h0 : 0 ≤ h
  h1 : h ≤ c.high size
  n0 : 0 ≤ n
  n1 : n ≤ c.wide h
theorem ok_iff (c : Cf) (size h n : Int) : c.okB size h n = true ↔ c.Ok size h n := by
  unfold okB inB
  simp only [Bool.and_eq_true, decide_eq_true_eq, may_iff, is_iff]
  exact ⟨fun ⟨⟨a, b⟩, ⟨d, e⟩, f, g⟩ => ⟨a, b, d, e, f, g⟩, fun ⟨a, b, d, e, f, g⟩ => ⟨⟨a, b⟩, ⟨d, e⟩, f, g⟩⟩
theorem ok_ask {c : Cf} {size h n : Int} (hk : c.okB size h n = true) : c.askE size h n = 0 ∧ c.cwV size h n = c.high size := by
  unfold cwV; rw [hk]; refine ⟨?_, rfl⟩; unfold okB at hk
  simp only [Bool.and_eq_true] at hk
  unfold askE; rw [hk.1.1, hk.1.2, hk.2]; rfl
theorem ok_no {c : Cf} {size h n : Int} (hk : c.okB size h n = false) : (c.askE size h n != 0) = true ∧ c.cwV size h n = 0 ∧ c.fullV size h n = false ∧ c.sparseV size h n = false := by
  unfold cwV fullV sparseV; rw [hk]; refine ⟨?_, rfl, rfl, rfl⟩; unfold okB at hk; unfold askE
  cases hm : c.mayB
  · rfl
  · cases hi : c.isB size
    · rfl
    · cases hn : c.inB size h n
      · rfl
      · rw [hm, hi, hn] at hk; cases hk
/-- Bounds of the numbers that Full and Sparse reckon with. -/
structure Bd (c : Cf) (size h n : Int) : Prop where
  hi0 : 0 ≤ c.high size
  hi1 : c.high size ≤ 14
  w4 : 4 ≤ c.wide h
  w1 : c.wide h ≤ size
  s1 : size ≤ 65535
  s0 : 4 ≤ size
  p0 : 0 ≤ c.high size * c.den
  p1 : c.high size * c.den ≤ 896
  u0 : 0 ≤ c.lh * (c.high size - h)
  u1 : c.lh * (c.high size - h) ≤ 896
  v0 : 0 ≤ c.rh * h
  v1 : c.rh * h ≤ 896
  l0 : 0 ≤ c.ll * (c.high size - h)
  l1 : c.ll * (c.high size - h) ≤ 896
  m0 : 0 ≤ c.rl * h
  m1 : c.rl * h ≤ 896
theorem mul_bd {a b A B : Int} (a0 : 0 ≤ a) (a1 : a ≤ A) (b0 : 0 ≤ b) (b1 : b ≤ B) : 0 ≤ a * b ∧ a * b ≤ A * B :=
  ⟨Int.mul_nonneg a0 b0, Int.mul_le_mul a1 b1 b0 (by omega)⟩
theorem Ok.bd {c : Cf} {size h n : Int} (k : c.Ok size h n) : c.Bd size h n := by
  have SB := k.may.size_bd k.is; have HB := c.high_bd size SB.1 k.may.sizes.seg1 SB.2; have s1 := k.may.sizes.seg1; have s2 := k.may.sizes.seg2; have d1 := k.may.sizes.den1; have d2 := k.may.sizes.den2; have e1 := k.may.dens.ll0; have e2 := k.may.dens.llrl; have e3 := k.may.dens.rhlh; have e4 := k.may.dens.lhd; have e5 := k.may.dens.rld; have e6 := k.may.dens.rh1 k.may.sizes; have h0 := k.h0; have h1 := k.h1; have W := c.wide_bd (h := h) s1 s2 (by omega); have W1 := wide_of k.may.sizes.segp k.is.pow SB.1; have W2 := c.wide_le (h := h) (k := c.high size) (by omega) h1; have q1 := mul_bd (a := c.high size) (b := c.den) (A := 14) (B := 64) HB.1 HB.2 (by omega) d2; have q2 := mul_bd (a := c.lh) (b := c.high size - h) (A := 64) (B := 14) (by omega) (by omega) (by omega) (by omega); have q3 := mul_bd (a := c.rh) (b := h) (A := 64) (B := 14) (by omega) (by omega) (by omega) (by omega); have q4 := mul_bd (a := c.ll) (b := c.high size - h) (A := 64) (B := 14) (by omega) (by omega) (by omega) (by omega); have q5 := mul_bd (a := c.rl) (b := h) (A := 64) (B := 14) (by omega) (by omega) (by omega) (by omega); exact ⟨HB.1, HB.2, W.1, by omega, SB.2, by omega, q1.1, by omega, q2.1, by omega, q3.1, by omega, q4.1, by omega, q5.1, by omega⟩
theorem full_flat {c : Cf} {size h n : Int} (k : c.Ok size h n) (h0 : c.high size = 0) : c.fullV size h n = decide (n * c.den ≤ size * c.rh) := by
  have hk := (ok_iff c size h n).2 k; have SB := k.may.size_bd k.is; have W1 := wide_of k.may.sizes.segp k.is.pow SB.1
  have e : h = c.high size := by have := k.h0; have := k.h1; omega
  unfold fullV manyB; rw [hk, if_pos h0, e, W1]; rfl
theorem full_high {c : Cf} {size h n : Int} (k : c.Ok size h n) (h0 : c.high size ≠ 0) : c.fullV size h n = decide (n * (c.high size * c.den) ≤ c.wide h * (c.lh * (c.high size - h) + c.rh * h)) := by
  have hk := (ok_iff c size h n).2 k; unfold fullV manyB; rw [hk, if_neg h0, Int.mul_assoc]; rfl
theorem sparse_least {c : Cf} {size h n : Int} (k : c.Ok size h n) (h0 : size = c.least) : c.sparseV size h n = true := by
  have hk := (ok_iff c size h n).2 k; unfold sparseV fewB; rw [hk, h0]; simp
theorem sparse_high {c : Cf} {size h n : Int} (k : c.Ok size h n) (h0 : ¬ size = c.least) : c.sparseV size h n = decide ((c.ll * (c.high size - h) + c.rl * h) * c.wide h ≤ c.high size * c.den * (n + 1)) := by
  have hk := (ok_iff c size h n).2 k; unfold sparseV fewB; rw [hk, show (size == c.least) = false from by simpa using h0, Int.mul_comm (c.wide h), Int.mul_assoc (n + 1), Int.mul_comm (n + 1)]; rfl
theorem high_pos {c : Cf} {size h n : Int} (k : c.Ok size h n) (h0 : ¬ size = c.least) : 1 ≤ c.high size := by
  have b := k.bd; have SB := k.may.size_bd k.is; have W1 := wide_of k.may.sizes.segp k.is.pow SB.1; have h1 := k.is.lo; have h2 := k.may.sizes.least1
  by_cases e : c.high size = 0
  · rw [e] at W1
    unfold wide at W1
    simp at W1
    omega
  · have := b.hi0
    omega
end Cf
end Go.Proofs.YtgcdidklaiaohaaGreatDoor
namespace Go.Proofs.YtgcdidklaiaohaaGreatDoor
set_option linter.unusedVariables false

theorem mul_le_mul_r {a b k : Int} (h : a ≤ b) (hk : 0 ≤ k) : a * k ≤ b * k := Int.mul_le_mul_of_nonneg_right h hk
namespace Cf
theorem takes_pow {c : Cf} (hs : c.Sizes) (n : Int) : Fr.powB (c.takes n) = true := by
  obtain ⟨j, _, e⟩ := dbl_pow 20 (n * c.den) c.rh c.least; obtain ⟨i, hi, _⟩ := pow_of hs.leastp; unfold takes; rw [e, hi, ← Int.pow_add]; exact powB_two _
theorem takes_takes {c : Cf} (hs : c.Sizes) (hd : c.Dens) {n : Int} (h0 : 0 ≤ n) (hn : n ≤ 16384) : n * c.den ≤ c.rh * c.takes n := by
  have a := nd_le hs h0 hn; have b := hs.seg1; have d := hs.least1; refine dbl_takes 20 (n * c.den) c.rh (hd.rh1 hs) c.least (by omega) ?_; rw [show (2 : Int) ^ 20 = 1048576 from by decide]
  omega
theorem takes_mono {c : Cf} (hs : c.Sizes) {m n : Int} (h : m ≤ n) : c.takes m ≤ c.takes n := by
  have a := hs.den1; have b := hs.seg1; have d := hs.least1; exact dbl_mono 20 c.rh (mul_le_mul_r h (by omega)) c.least (by omega)
/-- The window of all. -/
theorem full_all {c : Cf} {size n : Int} (k : c.Ok size (c.high size) n) : c.fullV size (c.high size) n = decide (n * c.den ≤ size * c.rh) := by
  have SB := k.may.size_bd k.is; have W1 := wide_of k.may.sizes.segp k.is.pow SB.1; have hb := k.bd
  by_cases h0 : c.high size = 0
  · rw [full_flat k h0]
  · rw [full_high k h0, W1, Int.sub_self, Int.mul_zero, Int.zero_add]
    have hp := hb.hi0
    have e1 : n * (c.high size * c.den) = (n * c.den) * c.high size := by rw [Int.mul_comm (c.high size), Int.mul_assoc]
    have e2 : size * (c.rh * c.high size) = (size * c.rh) * c.high size := by rw [Int.mul_assoc]
    rw [e1, e2]; rw [decide_eq_decide]; exact ⟨fun h => Int.le_of_mul_le_mul_right h (by omega), fun h => mul_le_mul_r h hp⟩
theorem sparse_all {c : Cf} {size n : Int} (k : c.Ok size (c.high size) n) (h0 : ¬ size = c.least) : c.sparseV size (c.high size) n = decide (size * c.rl ≤ (n + 1) * c.den) := by
  have SB := k.may.size_bd k.is; have W1 := wide_of k.may.sizes.segp k.is.pow SB.1; have hp := high_pos k h0; rw [sparse_high k h0, W1, Int.sub_self, Int.mul_zero, Int.zero_add]
  have e1 : c.rl * c.high size * size = (size * c.rl) * c.high size := by rw [Int.mul_comm, Int.mul_assoc]
  have e2 : c.high size * c.den * (n + 1) = ((n + 1) * c.den) * c.high size := by rw [Int.mul_comm (c.high size * c.den), Int.mul_comm (c.high size), Int.mul_assoc]
  rw [e1, e2, decide_eq_decide]; exact ⟨fun h => Int.le_of_mul_le_mul_right h (by omega), fun h => mul_le_mul_r h (by omega)⟩
theorem May.all_ok {c : Cf} {size n : Int} (hm : c.May) (hi : c.Is size) (h0 : 0 ≤ n) (h1 : n ≤ size) : c.Ok size (c.high size) n := by
  have SB := hm.size_bd hi; have HB := c.high_bd size SB.1 hm.sizes.seg1 SB.2; exact ⟨hm, hi, HB.1, Int.le_refl _, h0, by rw [wide_of hm.sizes.segp hi.pow SB.1]; exact h1⟩

/-- What Cap answers: a capacity that takes n; half of it does not. -/
theorem cap_is {c : Cf} {n : Int} (hm : c.May) (h0 : 0 ≤ n) (hn : n ≤ c.most) : c.Is (c.takes n) ∧ c.Ok (c.takes n) (c.high (c.takes n)) n ∧ c.fullV (c.takes n) (c.high (c.takes n)) n = true := by
  have hs := hm.sizes; have hd := hm.dens; have m2 := hs.most2; have hi : c.Is (c.takes n) := ⟨takes_pow hs n, takes_ge c hs n, takes_mono hs hn⟩; have T := takes_takes hs hd h0 (by omega); have rh := hd.rhlh; have lh := hd.lhd; have d1 := hs.den1; have g1 := hs.seg1; have g2 := hs.least1; have lo := hi.lo
  have hx : n ≤ c.takes n := by
    have a : c.rh * c.takes n ≤ c.den * c.takes n := mul_le_mul_r (by omega) (by omega); have e : c.den * c.takes n = c.takes n * c.den := Int.mul_comm _ _; exact Int.le_of_mul_le_mul_right (a := c.den) (by omega) (by omega)
  have K := hm.all_ok hi h0 hx; refine ⟨hi, K, ?_⟩; rw [full_all K, decide_eq_true_eq, Int.mul_comm (c.takes n)]; exact T
end Cf
end Go.Proofs.YtgcdidklaiaohaaGreatDoor
