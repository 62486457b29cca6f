/- The law WinTells, walked over the contracts: it answers true. -/
import Derived.Test.YthnpmbbhbaaloaaLaw06
namespace Go.Proofs.Ythnpmbbhbaaloaa.winTells
open Go.RowKit
set_option linter.unusedVariables false
set_option linter.unusedSimpArgs false

set_option maxRecDepth 100000 in
set_option maxHeartbeats 4000000 in
theorem walk (g s h a : Int) (w : World) (hg : g ≤ 9223372036854775807) (hs : -9223372036854775808 ≤ s ∧ s ≤ 9223372036854775807) :
    Calls Try.prog 4 #[.int .i64 g, .int .i64 s, .int .i64 h, .int .i64 a] w fun e w' => e = .returned (.bool true) ∧ Below w.heap.size w w' := by
  have B0 := Lib.hid (Below.refl w.heap.size w)
  have C1 := Lib.hid (fun W => vHigh g s W hg hs)
  have C2 := Lib.hid (fun W => r6High g s W hg hs.2)
  have C3 := Lib.hid (fun W => vAround g s h a W hg hs)
  have C4 := Lib.hid (fun W => r6Around g s h a W hg hs.2)
  have C5 := Lib.hid (fun W => vPath g s a W hg hs)
  have C6 := Lib.hid (fun W => r6Path g s a W hg hs.2)
  have PL := path_len g s a
  obtain ⟨x1, h1⟩ : ∃ x, x = Wn.highV g s := ⟨_, rfl⟩
  obtain ⟨x2, h2⟩ : ∃ x, x = Wn.highE g s := ⟨_, rfl⟩
  obtain ⟨x3, h3⟩ : ∃ x, x = Wn.loV g s h a := ⟨_, rfl⟩
  obtain ⟨x4, h4⟩ : ∃ x, x = Wn.hiV g s h a := ⟨_, rfl⟩
  obtain ⟨x5, h5⟩ : ∃ x, x = Wn.askE g s h a := ⟨_, rfl⟩
  obtain ⟨x6, h6⟩ : ∃ x, x = Wn.askE g s 0 a := ⟨_, rfl⟩
  obtain ⟨ps, h7⟩ : ∃ x, x = Wn.path g s a := ⟨_, rfl⟩
  rw [← h1, ← h2] at C1 C2
  rw [← h3, ← h4, ← h5] at C3 C4
  rw [← h6, ← h7] at C5 C6
  rw [← h7] at PL
  clear h1 h2 h3 h4 h5 h6 h7
  go_enter Try.func4, Try.ntmps4
  go_wp2_with fail
  refine (C1.out _).mono ?_
  rintro e w1 ⟨rfl, rfl⟩
  go_wp2_with fail
  refine (C2.out _).mono ?_
  rintro e w1 ⟨rfl, rfl⟩
  go_wp2_with fail
  refine (C3.out _).mono ?_
  rintro e w1 ⟨rfl, hb⟩
  replace B0 := Lib.hid (B0.out.trans (hb.mono B0.out.size))
  clear hb
  go_wp2_with fail
  refine (C4.out _).mono ?_
  rintro e w1 ⟨rfl, rfl⟩
  go_wp2_with fail
  refine (C5.out _).mono ?_
  rintro e w2 ⟨v, rfl, hrow, hb⟩
  replace B0 := Lib.hid (B0.out.trans (hb.mono B0.out.size))
  obtain ⟨A1, c1, rfl, hP⟩ := wrow_list hrow
  have P1 := Lib.hid hP
  clear hrow hP hb
  go_wp2_with fail
  refine (C6.out _).mono ?_
  rintro e w3 ⟨v, rfl, hrow, hb⟩
  replace B0 := Lib.hid (B0.out.trans (hb.mono B0.out.size))
  obtain ⟨A2, c2, rfl, hP⟩ := wrow_list hrow
  have P2 := Lib.hid hP
  replace P1 := Lib.hid (P1.out.below hb)
  clear hrow hP hb
  have CS := Lib.hid (r6SameAll A1 A2 c1 c2 ps ps w3 P1.out P2.out (by omega) (by omega))
  rw [show (ps == ps) = true from by simp] at CS
  go_wp2_with fail
  refine CS.out.mono ?_
  rintro e w4 ⟨rfl, hb⟩
  replace B0 := Lib.hid (B0.out.trans (hb.mono B0.out.size))
  go_wp2
  go_ret
  exact ⟨rfl, B0.out⟩
end Go.Proofs.Ythnpmbbhbaaloaa.winTells
