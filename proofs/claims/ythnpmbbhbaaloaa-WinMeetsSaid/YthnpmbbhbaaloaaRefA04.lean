/- What the document's own answers of layer 4 (package shelfmarkref04) return: Is, Fits, part, Great. They only read. -/
import Derived.Test.YthnpmbbhbaaloaaSlv
import Derived.Test.YthnpmbbhbaaloaaRefP01
import Derived.Test.YthnpmbbhbaaloaaRefU02
namespace Go.Proofs.Ythnpmbbhbaaloaa
open Go.RowKit
set_option linter.unusedVariables false
set_option linter.unusedSimpArgs false

theorem fitsB_parts (seg many : Int) : Sl.fitsB seg many = (decide (4 ≤ seg) && decide (seg ≤ 64) && Fr.powB seg && decide (1 ≤ many) && decide (many ≤ 65536) && decide (many % seg = 0) && Fr.powB (many / seg)) := rfl
set_option maxHeartbeats 400000 in
theorem r4Fits (seg many : Int) (w : World) (h2 : many ≤ 9223372036854775807) (h1 : seg ≤ 9223372036854775807) :
    Calls Try.prog 28 #[.int .i64 seg, .int .i64 many] w fun e w' => e = .returned (.bool (Sl.fitsB seg many)) ∧ w = w' := by
  have HF := Lib.hid (fitsB_parts seg many)
  by_cases c1 : seg < 4
  · have H := Lib.hid (show Sl.fitsB seg many = false by rw [HF.out, show decide (4 ≤ seg) = false from by simp; omega]; rfl)
    go_enter Try.func28, Try.ntmps28
    go_wp2
    go_ret
    rw [H.out]
    exact ⟨rfl, rfl⟩
  by_cases c2 : 64 < seg
  · have H := Lib.hid (show Sl.fitsB seg many = false by rw [HF.out, show decide (seg ≤ 64) = false from by simp; omega, Bool.and_false]; rfl)
    go_enter Try.func28, Try.ntmps28
    go_wp2
    go_ret
    rw [H.out]
    exact ⟨rfl, rfl⟩
  have HP := Lib.hid (rPower seg w (by omega))
  cases hp : Fr.powB seg
  · have H := Lib.hid (show Sl.fitsB seg many = false by rw [HF.out, hp, Bool.and_false]; rfl)
    have hp' := Lib.hid hp
    clear hp
    go_enter Try.func28, Try.ntmps28
    go_wp2_with (go_at_call 35; refine HP.out.mono ?_; rintro e w' ⟨rfl, rfl⟩; rw [hp'.out])
    go_ret
    rw [H.out]
    exact ⟨rfl, rfl⟩
  by_cases c3 : many < 1
  · have H := Lib.hid (show Sl.fitsB seg many = false by rw [HF.out, show decide (1 ≤ many) = false from by simp; omega, Bool.and_false]; rfl)
    have hp' := Lib.hid hp
    clear hp
    go_enter Try.func28, Try.ntmps28
    go_wp2_with (go_at_call 35; refine HP.out.mono ?_; rintro e w' ⟨rfl, rfl⟩; rw [hp'.out])
    go_ret
    rw [H.out]
    exact ⟨rfl, rfl⟩
  by_cases c4 : 65536 < many
  · have H := Lib.hid (show Sl.fitsB seg many = false by rw [HF.out, show decide (many ≤ 65536) = false from by simp; omega, Bool.and_false]; rfl)
    have hp' := Lib.hid hp
    clear hp
    go_enter Try.func28, Try.ntmps28
    go_wp2_with (go_at_call 35; refine HP.out.mono ?_; rintro e w' ⟨rfl, rfl⟩; rw [hp'.out])
    go_ret
    rw [H.out]
    exact ⟨rfl, rfl⟩
  have hp' := Lib.hid hp
  have HX := Lib.hid (show Sl.fitsB seg many = (decide (many % seg = 0) && Fr.powB (many / seg)) by
    rw [HF.out, hp, show decide (4 ≤ seg) = true from by simp; omega, show decide (seg ≤ 64) = true from by simp; omega, show decide (1 ≤ many) = true from by simp; omega, show decide (many ≤ 65536) = true from by simp; omega]; simp)
  have k0 : ¬ seg = 0 := by omega
  have hq : many / seg ≤ 65536 := by have := Int.ediv_le_self (a := many) seg (by omega); omega
  have hq0 : 0 ≤ many / seg := Int.ediv_nonneg (a := many) (b := seg) (by omega) (by omega)
  by_cases c5 : many % seg = 0
  · have H := Lib.hid (show Sl.fitsB seg many = Fr.powB (many / seg) by rw [HX.out, decide_eq_true c5, Bool.true_and])
    have k1 : (many % seg == 0) = true := by simp [c5]
    clear hp c5
    go_enter Try.func28, Try.ntmps28
    go_wp2_with (go_at_call 35; first | ((with_reducible refine HP.out.mono ?_); rintro e w' ⟨rfl, rfl⟩; rw [hp'.out]) | (refine (rPower (many / seg) _ (by omega)).mono ?_; rintro e w' ⟨rfl, rfl⟩))
    go_ret
    rw [H.out]
    exact ⟨rfl, rfl⟩
  · have H := Lib.hid (show Sl.fitsB seg many = false by rw [HX.out, decide_eq_false c5, Bool.false_and])
    have k1 : (many % seg == 0) = false := by simp [c5]
    clear hp c5
    go_enter Try.func28, Try.ntmps28
    go_wp2_with (go_at_call 35; first | ((with_reducible refine HP.out.mono ?_); rintro e w' ⟨rfl, rfl⟩; rw [hp'.out]) | (refine (rPower (many / seg) _ (by omega)).mono ?_; rintro e w' ⟨rfl, rfl⟩))
    go_ret
    rw [H.out]
    exact ⟨rfl, rfl⟩

end Go.Proofs.Ythnpmbbhbaaloaa
