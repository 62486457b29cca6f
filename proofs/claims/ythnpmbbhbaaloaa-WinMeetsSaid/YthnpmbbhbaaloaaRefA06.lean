/- What the document's own answers of layer 6 (package shelfmarkref06) return that make no memory: Height, High, Of, asked, Around, Meet. -/
import Derived.Test.YthnpmbbhbaaloaaRefA04
import Derived.Test.YthnpmbbhbaaloaaFn06
namespace Go.Proofs.Ythnpmbbhbaaloaa
open Go.RowKit
set_option linter.unusedVariables false
set_option linter.unusedSimpArgs false

namespace Wn
theorem high_no {g s : Int} (h : Sl.fitsB g s = false) : highV g s = 0 ∧ highE g s = 2 := by unfold highV highE; rw [h]; exact ⟨rfl, rfl⟩
theorem high_yes {g s : Int} (h : Sl.fitsB g s = true) : highV g s = high g s ∧ highE g s = 0 := by unfold highV highE; rw [h]; exact ⟨rfl, rfl⟩
theorem Fit.seg {g s : Int} {H : Nat} (f : Fit g s H) : g ≤ s := by
  have := Int.mul_le_mul_of_nonneg_left (p2_pos H) (show 0 ≤ g by have := f.g1; omega)
  have e := f.s0
  omega
theorem wd_le {g : Int} (h1 : 4 ≤ g) (h2 : g ≤ 64) {h : Int} (hh : h ≤ 14) : wd g h ≤ 1048576 := by
  unfold wd
  have e : 2 ^ h.toNat ≤ 2 ^ 14 := Nat.pow_le_pow_right (by decide) (by omega)
  have e1 : ((2 ^ h.toNat : Nat) : Int) = 2 ^ h.toNat := by simp
  have e2 : (2 : Int) ^ h.toNat ≤ 16384 := by omega
  have := Int.mul_le_mul h2 e2 (by have := p2_pos h.toNat; omega) (by omega)
  omega
theorem ask_in {g s h a : Int} (hf : Sl.fitsB g s = true) : askB g s h a = (decide (0 ≤ h) && decide (h ≤ high g s) && (decide (0 ≤ a) && decide (a < s))) := by unfold askB; rw [hf]; rfl
theorem ask_fits {g s h a : Int} (hf : Sl.fitsB g s = false) : askB g s h a = false := by unfold askB; rw [hf]; rfl
/-- What is known where all is asked rightly. -/
theorem ask_yes {g s h a : Int} (hk : askB g s h a = true) : Sl.fitsB g s = true ∧ 0 ≤ h ∧ h ≤ high g s ∧ 0 ≤ a ∧ a < s := by
  unfold askB inB at hk
  simp only [Bool.and_eq_true, decide_eq_true_eq] at hk
  exact ⟨hk.1, hk.2.1.1, hk.2.1.2, hk.2.2.1, hk.2.2.2⟩
end Wn

set_option maxHeartbeats 400000 in
theorem r6Height (g s : Int) (w : World) (hf : Sl.fitsB g s = true) :
    Calls Try.prog 29 #[.int .i64 g, .int .i64 s] w fun e w' => e = .returned (.int .i64 (Wn.high g s)) ∧ w = w' := by
  obtain ⟨H, f⟩ := Wn.fit_of hf
  have h1 := f.g1
  have h2 := f.seg
  have h3 := f.s1
  have q1 : 1 ≤ s / g := by have := Int.ediv_le_ediv (c := g) (by omega) h2; rw [Int.ediv_self (by omega)] at this; exact this
  have q2 : s / g ≤ s := Int.ediv_le_self (a := s) g (by omega)
  have HH := Lib.hid (show Wn.high g s = Fr.lg (s / g) from rfl)
  have k0 : ¬ g = 0 := by omega
  clear f hf
  go_enter Try.func29, Try.ntmps29
  go_wp2_with fail
  refine (rLog _ _ (by omega) (by omega)).mono ?_
  rintro e w1 ⟨rfl, rfl⟩
  go_wp2
  go_ret
  rw [HH.out]
  exact ⟨rfl, rfl⟩

set_option maxHeartbeats 400000 in
theorem r6High (g s : Int) (w : World) (hg : g ≤ 9223372036854775807) (hs : s ≤ 9223372036854775807) :
    Calls Try.prog 15 #[.int .i64 g, .int .i64 s] w fun e w' => e = .returned (.tuple #[.int .i64 (Wn.highV g s), .int .i64 (Wn.highE g s)]) ∧ w = w' := by
  have CF := Lib.hid (r4Fits g s w hs hg)
  cases hf : Sl.fitsB g s
  · have E := Lib.hid (Wn.high_no hf)
    rw [hf] at CF
    clear hf
    go_enter Try.func15, Try.ntmps15
    go_wp2_with fail
    refine CF.out.mono ?_
    rintro e w1 ⟨rfl, rfl⟩
    go_wp2
    go_ret2
    rw [E.out.1, E.out.2]
    exact ⟨rfl, rfl⟩
  · have E := Lib.hid (Wn.high_yes hf)
    have CH := Lib.hid (r6Height g s w hf)
    rw [hf] at CF
    clear hf
    go_enter Try.func15, Try.ntmps15
    go_wp2_with fail
    refine CF.out.mono ?_
    rintro e w1 ⟨rfl, rfl⟩
    go_wp2_with fail
    refine CH.out.mono ?_
    rintro e w1 ⟨rfl, rfl⟩
    go_wp2
    go_ret2
    rw [E.out.1, E.out.2]
    exact ⟨rfl, rfl⟩

set_option maxHeartbeats 400000 in
theorem r6Of (g h a : Int) (w : World) (h1 : 4 ≤ g) (h2 : g ≤ 64) (h3 : 0 ≤ h) (h4 : h ≤ 14) (a0 : 0 ≤ a) (a1 : a ≤ 65536) :
    Calls Try.prog 31 #[.int .i64 g, .int .i64 h, .int .i64 a] w fun e w' => e = .returned (.tuple #[.int .i64 (Wn.lo g h a), .int .i64 (Wn.hi g h a)]) ∧ w = w' := by
  have hw4 := Wn.wd_pos h1 h
  have hw5 := Wn.wd_le h1 h2 h4
  have hl := Wn.lo_le (w := Wn.wd g h) (a := a) (by omega)
  have hl0 : 0 ≤ a / Wn.wd g h * Wn.wd g h := Int.mul_nonneg (Int.ediv_nonneg a0 (by omega)) (by omega)
  have hq0 : 0 ≤ a / Wn.wd g h := Int.ediv_nonneg a0 (by omega)
  have E1 := Lib.hid (show Wn.lo g h a = a / Wn.wd g h * Wn.wd g h from rfl)
  have E2 := Lib.hid (show Wn.hi g h a = a / Wn.wd g h * Wn.wd g h + Wn.wd g h from rfl)
  have EW := show wrap64 (g * 2 ^ h.toNat) = Wn.wd g h by have e : Wn.wd g h = g * 2 ^ h.toNat := rfl; rw [← e]; unfold wrap64; omega
  have EW2 := show g * 2 ^ h.toNat = Wn.wd g h from rfl
  obtain ⟨W, hW⟩ : ∃ W, W = Wn.wd g h := ⟨_, rfl⟩
  rw [← hW] at hw4 hw5 hl hl0 hq0 E1 E2 EW EW2
  clear hW
  obtain ⟨q, hq⟩ : ∃ q, q = a / W := ⟨_, rfl⟩
  rw [← hq] at hl hl0 hq0 E1 E2
  have k0 : ¬ W = 0 := by omega
  have EQ : a / W = q := hq.symm
  have EM := show wrap64 (q * W) = q * W by unfold wrap64; omega
  clear hq
  have CP := Lib.hid (rPow h w h3 (by omega))
  go_enter Try.func31, Try.ntmps31
  go_wp2_with fail
  refine CP.out.mono ?_
  rintro e w1 ⟨rfl, rfl⟩
  go_wp2
  go_ret2
  rw [E1.out, E2.out]
  exact ⟨rfl, rfl⟩

set_option maxHeartbeats 1000000 in
theorem r6asked (g s h a : Int) (w : World) (hg : g ≤ 9223372036854775807) (hs : s ≤ 9223372036854775807) :
    Calls Try.prog 30 #[.int .i64 g, .int .i64 s, .int .i64 h, .int .i64 a] w fun e w' => e = .returned (.int .i64 (Wn.askE g s h a)) ∧ w = w' := by
  have CH := Lib.hid (r6High g s w hg hs)
  have EA := Lib.hid (show Wn.askE g s h a = if Wn.askB g s h a then 0 else 2 from rfl)
  cases hf : Sl.fitsB g s
  · rw [(Wn.high_no hf).1, (Wn.high_no hf).2] at CH
    have E := Lib.hid (show Wn.askE g s h a = 2 by rw [EA.out, Wn.ask_fits hf]; rfl)
    clear hf
    go_enter Try.func30, Try.ntmps30
    go_wp2_with fail
    refine CH.out.mono ?_
    rintro e w1 ⟨rfl, rfl⟩
    go_wp2
    go_ret
    rw [E.out]
    exact ⟨rfl, rfl⟩
  · rw [(Wn.high_yes hf).1, (Wn.high_yes hf).2] at CH
    have EB := Lib.hid (Wn.ask_in (h := h) (a := a) hf)
    clear hf
    obtain ⟨H, hH⟩ : ∃ H, H = Wn.high g s := ⟨_, rfl⟩
    rw [← hH] at CH EB
    clear hH
    by_cases h1 : h < 0
    · have E := Lib.hid (show Wn.askE g s h a = 2 by rw [EA.out, EB.out, decide_eq_false (show ¬ 0 ≤ h by omega)]; rfl)
      go_enter Try.func30, Try.ntmps30
      go_wp2_with fail
      refine CH.out.mono ?_
      rintro e w1 ⟨rfl, rfl⟩
      go_wp2
      go_ret
      rw [E.out]
      exact ⟨rfl, rfl⟩
    · by_cases h2 : H < h
      · have E := Lib.hid (show Wn.askE g s h a = 2 by rw [EA.out, EB.out, decide_eq_false (show ¬ h ≤ H by omega), Bool.and_false]; rfl)
        go_enter Try.func30, Try.ntmps30
        go_wp2_with fail
        refine CH.out.mono ?_
        rintro e w1 ⟨rfl, rfl⟩
        go_wp2
        go_ret
        rw [E.out]
        exact ⟨rfl, rfl⟩
      · by_cases h3 : a < 0
        · have E := Lib.hid (show Wn.askE g s h a = 2 by rw [EA.out, EB.out, decide_eq_false (show ¬ 0 ≤ a by omega), Bool.false_and, Bool.and_false]; rfl)
          go_enter Try.func30, Try.ntmps30
          go_wp2_with fail
          refine CH.out.mono ?_
          rintro e w1 ⟨rfl, rfl⟩
          go_wp2
          go_ret
          rw [E.out]
          exact ⟨rfl, rfl⟩
        · by_cases h4 : a < s
          · have E := Lib.hid (show Wn.askE g s h a = 0 by rw [EA.out, EB.out, decide_eq_true (show 0 ≤ h by omega), decide_eq_true (show h ≤ H by omega), decide_eq_true (show 0 ≤ a by omega), decide_eq_true h4]; rfl)
            go_enter Try.func30, Try.ntmps30
            go_wp2_with fail
            refine CH.out.mono ?_
            rintro e w1 ⟨rfl, rfl⟩
            go_wp2
            go_ret
            rw [E.out]
            exact ⟨rfl, rfl⟩
          · have h5 : s ≤ a := by omega
            have E := Lib.hid (show Wn.askE g s h a = 2 by rw [EA.out, EB.out, decide_eq_false h4, Bool.and_false, Bool.and_false]; rfl)
            go_enter Try.func30, Try.ntmps30
            go_wp2_with fail
            refine CH.out.mono ?_
            rintro e w1 ⟨rfl, rfl⟩
            go_wp2
            go_ret
            rw [E.out]
            exact ⟨rfl, rfl⟩

set_option maxHeartbeats 1000000 in
theorem r6Around (g s h a : Int) (w : World) (hg : g ≤ 9223372036854775807) (hs : s ≤ 9223372036854775807) :
    Calls Try.prog 16 #[.int .i64 g, .int .i64 s, .int .i64 h, .int .i64 a] w fun e w' => e = .returned (.tuple #[.int .i64 (Wn.loV g s h a), .int .i64 (Wn.hiV g s h a), .int .i64 (Wn.askE g s h a)]) ∧ w = w' := by
  have CA := Lib.hid (r6asked g s h a w hg hs)
  cases hk : Wn.askB g s h a
  · have E := Lib.hid (show Wn.loV g s h a = 0 ∧ Wn.hiV g s h a = 0 ∧ Wn.askE g s h a = 2 by unfold Wn.loV Wn.hiV Wn.askE; rw [hk]; exact ⟨rfl, rfl, rfl⟩)
    rw [E.out.2.2] at CA
    clear hk
    go_enter Try.func16, Try.ntmps16
    go_wp2_with fail
    refine CA.out.mono ?_
    rintro e w1 ⟨rfl, rfl⟩
    go_wp2
    go_ret3
    rw [E.out.1, E.out.2.1, E.out.2.2]
    exact ⟨rfl, rfl⟩
  · have E := Lib.hid (show Wn.loV g s h a = Wn.lo g h a ∧ Wn.hiV g s h a = Wn.hi g h a ∧ Wn.askE g s h a = 0 by unfold Wn.loV Wn.hiV Wn.askE; rw [hk]; exact ⟨rfl, rfl, rfl⟩)
    obtain ⟨hf, b0, b1, b2, b3⟩ := Wn.ask_yes hk
    obtain ⟨H, f⟩ := Wn.fit_of hf
    have CO := Lib.hid (r6Of g h a w f.g1 f.g2 b0 (by have := f.hH; have := f.h14; omega) b2 (by have := f.s1; omega))
    rw [E.out.2.2] at CA
    clear hk f hf b0 b1 b2 b3
    go_enter Try.func16, Try.ntmps16
    go_wp2_with fail
    refine CA.out.mono ?_
    rintro e w1 ⟨rfl, rfl⟩
    go_wp2_with fail
    refine CO.out.mono ?_
    rintro e w1 ⟨rfl, rfl⟩
    go_wp2
    go_ret3
    rw [E.out.1, E.out.2.1, E.out.2.2]
    exact ⟨rfl, rfl⟩
end Go.Proofs.Ythnpmbbhbaaloaa
