/- What package conf's checkWindow returns. -/
import Derived.Test.YtemnhpkkmfgnaaaConfH
namespace Go.Proofs.Ytemnhpkkmfgnaaa
open Go.RowKit
set_option linter.unusedVariables false
set_option linter.unusedSimpArgs false

namespace Cf
def cwV (c : Cf) (size h n : Int) : Int := if c.okB size h n then c.high size else 0
/-- An error of High is that of all that asks High first. -/
theorem ask_bad {c : Cf} {size : Int} (h : Int) (n : Int) (hh : c.mayB = false ∨ c.isB size = false) : c.askE size h n = c.highE size ∧ c.cwV size h n = 0 ∧ (c.highE size != 0) = true ∧ c.highV size = 0 := by
  unfold askE cwV okB highE highV
  cases hm : c.mayB
  · exact ⟨rfl, rfl, rfl, rfl⟩
  · cases hi : c.isB size
    · exact ⟨rfl, rfl, rfl, rfl⟩
    · rw [hm, hi] at hh; rcases hh with hh | hh <;> cases hh
theorem ask_in {c : Cf} {size h n : Int} (hm : c.mayB = true) (hi : c.isB size = true) : c.askE size h n = (if c.inB size h n then 0 else 2) ∧ c.cwV size h n = if c.inB size h n then c.high size else 0 := by
  unfold askE cwV okB
  rw [hm, hi]
  exact ⟨rfl, rfl⟩
end Cf

set_option maxRecDepth 100000 in
set_option maxHeartbeats 2000000 in
theorem kCheckWindow (c : Cf) (size h n : Int) (w : World) (hc : c.In) (hsz : size ≤ 9223372036854775807) :
    Calls Try.prog 28 #[cfv c, .int .i64 size, .int .i64 h, .int .i64 n] w fun e w' => e = .returned (.tuple #[.int .i64 (c.cwV size h n), .int .i64 (c.askE size h n)]) ∧ Below w.heap.size w w' := by
  have BX := Lib.hid (CBox.new w c 23)
  have B0 := Lib.hid ((Below.refl w.heap.size w).alloc (Nat.le_refl _) (.cells (cfCells c) 23))
  have CK := Lib.hid (fun W => kHigh c size W hc hsz)
  clear hc
  unfold cfCells at BX B0
  by_cases hbad : c.mayB = false ∨ c.isB size = false
  · have E := Lib.hid (Cf.ask_bad h n hbad)
    have k1 := E.out.2.2.1
    rw [E.out.2.2.2] at CK
    clear hbad
    obtain ⟨x, hx⟩ : ∃ x, x = c.highE size := ⟨_, rfl⟩
    rw [← hx] at k1 CK E
    clear hx
    unfold cfv at CK ⊢
    go_enter Try.func28, Try.ntmps28
    go_wp2_with fail
    refine (CK.out _).mono ?_
    rintro e w1 ⟨rfl, hb⟩
    go_wp2
    go_ret2
    rw [E.out.1, E.out.2.1]
    exact ⟨rfl, B0.out.trans (hb.mono B0.out.size)⟩
  · have hm : c.mayB = true := by cases hq : c.mayB <;> simp [hq] at hbad ⊢
    have hi : c.isB size = true := by cases hq : c.isB size <;> simp [hq] at hbad ⊢
    have M := (Cf.may_iff c).1 hm
    have SB := M.size_bd ((Cf.is_iff c size).1 hi)
    have HB := c.high_bd size SB.1 M.sizes.seg1 SB.2
    rw [(Cf.high_yes hm hi).1, (Cf.high_yes hm hi).2] at CK
    have E := Lib.hid (Cf.ask_in (h := h) (n := n) hm hi)
    have CW := Lib.hid (fun W => kWithin h 0 (c.high size) W)
    have HIN := Lib.hid (show c.inB size h n = (withinB h 0 (c.high size) && withinB n 0 (c.wide h)) from rfl)
    have s1 := M.sizes.seg1
    have s2 := M.sizes.seg2
    clear hbad hm hi M SB
    cases hw : withinB h 0 (c.high size)
    · rw [hw] at CW HIN
      rw [HIN.out] at E
      clear hw HIN
      unfold cfv at CK ⊢
      go_enter Try.func28, Try.ntmps28
      go_wp2_with fail
      refine (CK.out _).mono ?_
      rintro e w1 ⟨rfl, hb⟩
      go_wp2_with fail
      refine (CW.out _).mono ?_
      rintro e w2 ⟨rfl, rfl⟩
      go_wp2
      go_ret2
      rw [E.out.1, E.out.2]
      exact ⟨rfl, B0.out.trans (hb.mono B0.out.size)⟩
    · have hh : 0 ≤ h ∧ h ≤ c.high size := by simpa [withinB] using hw
      have CS := Lib.hid (fun W => kSlotsOf c h W s1 s2 hh.1 (by omega))
      have CN := Lib.hid (fun W => kWithin n 0 (c.wide h) W)
      rw [hw, Bool.true_and] at HIN
      rw [hw] at CW
      rw [HIN.out] at E
      clear hw HIN hh
      obtain ⟨b, hb0⟩ : ∃ b, b = withinB n 0 (c.wide h) := ⟨_, rfl⟩
      rw [← hb0] at E CN
      clear hb0
      unfold cfv at CK CS ⊢
      cases b
      all_goals
        go_enter Try.func28, Try.ntmps28
        go_wp2_with fail
        refine (CK.out _).mono ?_
        rintro e w1 ⟨rfl, hb⟩
        have B1 := Lib.hid (B0.out.trans (hb.mono B0.out.size))
        obtain ⟨_, c0, c1, c2, c3, c4, c5, c6, c7, c8, _⟩ := BX.out.below hb
        clear hb
        go_wp2_with fail
        refine (CW.out _).mono ?_
        rintro e w2 ⟨rfl, rfl⟩
        go_wp2_with fail
        refine (CS.out _).mono ?_
        rintro e w2 ⟨rfl, hb⟩
        have B2 := Lib.hid (B1.out.trans (hb.mono B1.out.size))
        clear hb c0 c1 c2 c3 c4 c5 c6 c7 c8
        go_wp2_with fail
        refine (CN.out _).mono ?_
        rintro e w3 ⟨rfl, rfl⟩
        go_wp2
        go_ret2
        rw [E.out.1, E.out.2]
        exact ⟨rfl, B2.out⟩
end Go.Proofs.Ytemnhpkkmfgnaaa
