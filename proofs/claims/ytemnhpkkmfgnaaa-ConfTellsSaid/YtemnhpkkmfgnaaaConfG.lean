/- What package conf's Cap and High return. -/
import Derived.Test.YtemnhpkkmfgnaaaConfF
import Derived.BigQuiet
namespace Go.Proofs.Ytemnhpkkmfgnaaa
open Go.RowKit
set_option linter.unusedVariables false
set_option linter.unusedSimpArgs false

namespace Cf
structure May (c : Cf) : Prop where
  sizes : c.Sizes
  dens : c.Dens
  falls : c.high c.top * c.den ≤ (c.lh - c.rh) * c.seg
theorem may_iff (c : Cf) : c.mayB = true ↔ c.May := by
  unfold mayB
  rw [Bool.and_eq_true, Bool.and_eq_true, sizes_iff, dens_iff]
  unfold fallsB
  rw [decide_eq_true_eq]
  exact ⟨fun ⟨⟨a, b⟩, d⟩ => ⟨a, b, d⟩, fun ⟨a, b, d⟩ => ⟨⟨a, b⟩, d⟩⟩
theorem chk_may {c : Cf} (h : c.mayB = true) : c.chkE = 0 := by unfold chkE; rw [h]; rfl
theorem chk_mayn {c : Cf} (h : c.mayB = false) : c.chkE = 50 := by unfold chkE; rw [h]; rfl
end Cf

set_option maxRecDepth 100000 in
set_option maxHeartbeats 2000000 in
theorem kCap (c : Cf) (n : Int) (w : World) (hc : c.In) :
    Calls Try.prog 10 #[cfv c, .int .i64 n] w fun e w' => e = .returned (.tuple #[.int .i64 (c.capV n), .int .i64 (c.capE n)]) ∧ Below w.heap.size w w' := by
  have BX := Lib.hid (CBox.new w c 23)
  have B0 := Lib.hid ((Below.refl w.heap.size w).alloc (Nat.le_refl _) (.cells (cfCells c) 23))
  have CK := Lib.hid (fun W => kCheck c W hc)
  clear hc
  unfold cfCells at BX B0
  cases hm : c.mayB
  · have E := Lib.hid (show c.capV n = 0 ∧ c.capE n = 50 by unfold Cf.capV Cf.capE; rw [hm]; exact ⟨rfl, rfl⟩)
    rw [Cf.chk_mayn hm] at CK
    clear hm
    unfold cfv at CK ⊢
    go_enter Try.func10, Try.ntmps10
    go_wp2_with fail
    refine (CK.out _).mono ?_
    rintro e w1 ⟨rfl, hb⟩
    go_wp2
    go_ret2
    rw [E.out.1, E.out.2]
    exact ⟨rfl, B0.out.trans (hb.mono B0.out.size)⟩
  · have M := (Cf.may_iff c).1 hm
    rw [Cf.chk_may hm] at CK
    by_cases h1 : n < 0
    · have E := Lib.hid (show c.capV n = 0 ∧ c.capE n = 2 by unfold Cf.capV Cf.capE; rw [hm, if_pos rfl, if_pos rfl, if_pos h1, if_pos h1]; exact ⟨rfl, rfl⟩)
      clear hm M
      unfold cfv at CK ⊢
      go_enter Try.func10, Try.ntmps10
      go_wp2_with fail
      refine (CK.out _).mono ?_
      rintro e w1 ⟨rfl, hb⟩
      go_wp2
      go_ret2
      rw [E.out.1, E.out.2]
      exact ⟨rfl, B0.out.trans (hb.mono B0.out.size)⟩
    · by_cases h2 : c.most < n
      · have E := Lib.hid (show c.capV n = 0 ∧ c.capE n = 4 by unfold Cf.capV Cf.capE; rw [hm, if_pos rfl, if_pos rfl, if_neg h1, if_neg h1, if_pos h2, if_pos h2]; exact ⟨rfl, rfl⟩)
        clear hm M
        unfold cfv at CK ⊢
        go_enter Try.func10, Try.ntmps10
        go_wp2_with fail
        refine (CK.out _).mono ?_
        rintro e w1 ⟨rfl, hb⟩
        have c1 := (BX.out.below hb).c1
        go_wp2
        go_ret2
        rw [E.out.1, E.out.2]
        exact ⟨rfl, B0.out.trans (hb.mono B0.out.size)⟩
      · have E := Lib.hid (show c.capV n = c.takes n ∧ c.capE n = 0 by unfold Cf.capV Cf.capE; rw [hm, if_pos rfl, if_pos rfl, if_neg h1, if_neg h1, if_neg h2, if_neg h2]; exact ⟨rfl, rfl⟩)
        have CC := Lib.hid (fun W => kCapacityFor c n W M.sizes M.dens (by omega) (by have := M.sizes.most2; omega))
        clear hm M
        unfold cfv at CK CC ⊢
        go_enter Try.func10, Try.ntmps10
        go_wp2_with fail
        refine (CK.out _).mono ?_
        rintro e w1 ⟨rfl, hb⟩
        have B1 := Lib.hid (B0.out.trans (hb.mono B0.out.size))
        obtain ⟨_, c0, c1, c2, c3, c4, c5, c6, c7, c8, _⟩ := BX.out.below hb
        clear hb
        go_wp2_with fail
        refine (CC.out _).mono ?_
        rintro e w2 ⟨rfl, hb⟩
        go_wp2
        go_ret2
        rw [E.out.1, E.out.2]
        exact ⟨rfl, B1.out.trans (hb.mono B1.out.size)⟩
end Go.Proofs.Ytemnhpkkmfgnaaa
