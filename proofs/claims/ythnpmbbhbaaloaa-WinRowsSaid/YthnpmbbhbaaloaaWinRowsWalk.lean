/- The law WinRows, walked over the contracts: it answers true. -/
import Derived.Test.YthnpmbbhbaaloaaLaw06
namespace Go.Proofs.Ythnpmbbhbaaloaa.winRows
open Go.RowKit
set_option linter.unusedVariables false
set_option linter.unusedSimpArgs false

set_option maxRecDepth 100000 in
set_option maxHeartbeats 4000000 in
theorem walk (g s h y z : Int) (w : World) (hg : g ≤ 9223372036854775807) (hs : -9223372036854775808 ≤ s ∧ s ≤ 9223372036854775807) :
    Calls Try.prog 5 #[.int .i64 g, .int .i64 s, .int .i64 h, .agg #[.int .i64 y, .int .i64 z]] w fun e w' => e = .returned (.bool true) ∧ Below w.heap.size w w' := by
  have X0 := Lib.hid (PBox.new w (y, z) 33)
  have B0 := Lib.hid ((Below.refl w.heap.size w).alloc (Nat.le_refl _) (.cells #[.int .i64 y, .int .i64 z] 33))
  have C1 := Lib.hid (fun W => vRow g s h W hg hs)
  have C2 := Lib.hid (fun W => r6Row g s h W hg hs.2)
  have C3 := Lib.hid (fun W => vMeet g s y z W hg hs)
  have C4 := Lib.hid (fun W => r6Meet g s y z W hg hs.2)
  have PL := row_len g s h
  obtain ⟨x1, h1⟩ : ∃ x, x = Wn.askE g s h 0 := ⟨_, rfl⟩
  obtain ⟨x2, h2⟩ : ∃ x, x = Wn.meetV g s y z := ⟨_, rfl⟩
  obtain ⟨x3, h3⟩ : ∃ x, x = Wn.meetE g s y z := ⟨_, rfl⟩
  obtain ⟨ps, h7⟩ : ∃ x, x = Wn.row g s h := ⟨_, rfl⟩
  rw [← h1, ← h7] at C1 C2
  rw [← h2, ← h3] at C3 C4
  rw [← h7] at PL
  clear h1 h2 h3 h7
  by_cases hbig : 4096 < s ∧ s ≤ 65536
  · obtain ⟨k1, k2⟩ := hbig
    go_enter Try.func5, Try.ntmps5
    go_wp2
    go_ret
    exact ⟨rfl, B0.out⟩
  · by_cases hb1 : 4096 < s
    · have hb2 : 65536 < s := by omega
      clear hbig
      go_enter Try.func5, Try.ntmps5
      go_wp2_with fail
      refine (C1.out _).mono ?_
      rintro e w2 ⟨v, rfl, hrow, hb⟩
      replace B0 := Lib.hid (B0.out.trans (hb.mono B0.out.size))
      replace X0 := Lib.hid (X0.out.below hb)
      obtain ⟨A1, d1, rfl, hP⟩ := wrow_list hrow
      have P1 := Lib.hid hP
      clear hrow hP hb
      go_wp2_with fail
      refine (C2.out _).mono ?_
      rintro e w3 ⟨v, rfl, hrow, hb⟩
      replace B0 := Lib.hid (B0.out.trans (hb.mono B0.out.size))
      replace X0 := Lib.hid (X0.out.below hb)
      obtain ⟨A2, d2, rfl, hP⟩ := wrow_list hrow
      have P2 := Lib.hid hP
      replace P1 := Lib.hid (P1.out.below hb)
      clear hrow hP hb
      obtain ⟨_, c0, c1, _⟩ := X0.out
      try dsimp only at c0 c1
      go_wp2_with fail
      refine (C3.out _).mono ?_
      rintro e w4 ⟨rfl, hb⟩
      replace B0 := Lib.hid (B0.out.trans (hb.mono B0.out.size))
      replace X0 := Lib.hid (X0.out.below hb)
      replace P1 := Lib.hid (P1.out.below hb)
      replace P2 := Lib.hid (P2.out.below hb)
      clear hb c0 c1
      obtain ⟨_, c0, c1, _⟩ := X0.out
      try dsimp only at c0 c1
      go_wp2_with fail
      refine (C4.out _).mono ?_
      rintro e w1 ⟨rfl, rfl⟩
      have CS := Lib.hid (r6SameAll A1 A2 d1 d2 ps ps w4 P1.out P2.out (by omega) (by omega))
      rw [show (ps == ps) = true from by simp] at CS
      go_wp2_with fail
      refine CS.out.mono ?_
      rintro e w5 ⟨rfl, hb⟩
      replace B0 := Lib.hid (B0.out.trans (hb.mono B0.out.size))
      go_wp2
      go_ret
      exact ⟨rfl, B0.out⟩
    · clear hbig
      go_enter Try.func5, Try.ntmps5
      go_wp2_with fail
      refine (C1.out _).mono ?_
      rintro e w2 ⟨v, rfl, hrow, hb⟩
      replace B0 := Lib.hid (B0.out.trans (hb.mono B0.out.size))
      replace X0 := Lib.hid (X0.out.below hb)
      obtain ⟨A1, d1, rfl, hP⟩ := wrow_list hrow
      have P1 := Lib.hid hP
      clear hrow hP hb
      go_wp2_with fail
      refine (C2.out _).mono ?_
      rintro e w3 ⟨v, rfl, hrow, hb⟩
      replace B0 := Lib.hid (B0.out.trans (hb.mono B0.out.size))
      replace X0 := Lib.hid (X0.out.below hb)
      obtain ⟨A2, d2, rfl, hP⟩ := wrow_list hrow
      have P2 := Lib.hid hP
      replace P1 := Lib.hid (P1.out.below hb)
      clear hrow hP hb
      obtain ⟨_, c0, c1, _⟩ := X0.out
      try dsimp only at c0 c1
      go_wp2_with fail
      refine (C3.out _).mono ?_
      rintro e w4 ⟨rfl, hb⟩
      replace B0 := Lib.hid (B0.out.trans (hb.mono B0.out.size))
      replace X0 := Lib.hid (X0.out.below hb)
      replace P1 := Lib.hid (P1.out.below hb)
      replace P2 := Lib.hid (P2.out.below hb)
      clear hb c0 c1
      obtain ⟨_, c0, c1, _⟩ := X0.out
      try dsimp only at c0 c1
      go_wp2_with fail
      refine (C4.out _).mono ?_
      rintro e w1 ⟨rfl, rfl⟩
      have CS := Lib.hid (r6SameAll A1 A2 d1 d2 ps ps w4 P1.out P2.out (by omega) (by omega))
      rw [show (ps == ps) = true from by simp] at CS
      go_wp2_with fail
      refine CS.out.mono ?_
      rintro e w5 ⟨rfl, hb⟩
      replace B0 := Lib.hid (B0.out.trans (hb.mono B0.out.size))
      go_wp2
      go_ret
      exact ⟨rfl, B0.out⟩
end Go.Proofs.Ythnpmbbhbaaloaa.winRows
