/- The law WinMeets, walked over the contracts: it answers true. -/
import Derived.Test.YthnpmbbhbaaloaaLaw06
namespace Go.Proofs.Ythnpmbbhbaaloaa.winMeets
open Go.RowKit
set_option linter.unusedVariables false
set_option linter.unusedSimpArgs false

set_option maxRecDepth 100000 in
set_option maxHeartbeats 4000000 in
theorem walk (g s h y z : Int) (w : World) (hg : g ≤ 9223372036854775807) (hs : -9223372036854775808 ≤ s ∧ s ≤ 9223372036854775807) :
    Calls Try.prog 8 #[.int .i64 g, .int .i64 s, .int .i64 h, .agg #[.int .i64 y, .int .i64 z]] w fun e w' => e = .returned (.bool true) ∧ Below w.heap.size w w' := by
  have X0 := Lib.hid (PBox.new w (y, z) 33)
  have B0 := Lib.hid ((Below.refl w.heap.size w).alloc (Nat.le_refl _) (.cells #[.int .i64 y, .int .i64 z] 33))
  have CL := Lib.hid (fun W => lAlive W)
  have C1 := Lib.hid (fun W => vMeet g s y z W hg hs)
  have C2 := Lib.hid (fun W => vAround g s h y W hg hs)
  have C3 := Lib.hid (fun W => vAround g s h z W hg hs)
  cases hm : Wn.meetB g s y z
  · rw [(Wn.meet_no hm).1, (Wn.meet_no hm).2] at C1
    clear hm
    generalize Wn.askE g s h y = e1 at *
    generalize Wn.askE g s h z = e2 at *
    generalize Wn.loV g s h y = p1 at *
    generalize Wn.loV g s h z = p2 at *
    generalize Wn.hiV g s h y = q1 at *
    generalize Wn.hiV g s h z = q2 at *
    go_enter Try.func8, Try.ntmps8
    go_wp2_with fail
    refine (CL.out _).mono ?_
    rintro e w0 ⟨rfl, hb⟩
    replace B0 := Lib.hid (B0.out.trans (hb.mono B0.out.size))
    replace X0 := Lib.hid (X0.out.below hb)
    clear hb
    obtain ⟨_, c0, c1, _⟩ := X0.out
    try dsimp only at c0 c1
    go_wp2_with fail
    refine (C1.out _).mono ?_
    rintro e w1 ⟨rfl, hb⟩
    replace B0 := Lib.hid (B0.out.trans (hb.mono B0.out.size))
    replace X0 := Lib.hid (X0.out.below hb)
    clear hb c0 c1
    obtain ⟨_, c0, c1, _⟩ := X0.out
    try dsimp only at c0 c1
    go_wp2_with fail
    refine (C2.out _).mono ?_
    rintro e w2 ⟨rfl, hb⟩
    replace B0 := Lib.hid (B0.out.trans (hb.mono B0.out.size))
    replace X0 := Lib.hid (X0.out.below hb)
    clear hb c0 c1
    obtain ⟨_, c0, c1, _⟩ := X0.out
    try dsimp only at c0 c1
    go_wp2_with fail
    refine (C3.out _).mono ?_
    rintro e w3 ⟨rfl, hb⟩
    replace B0 := Lib.hid (B0.out.trans (hb.mono B0.out.size))
    replace X0 := Lib.hid (X0.out.below hb)
    clear hb c0 c1
    go_wp2
    go_ret
    exact ⟨rfl, B0.out⟩
  · have hm2 := hm
    unfold Wn.meetB at hm2
    simp only [Bool.and_eq_true, decide_eq_true_eq] at hm2
    obtain ⟨hka, b0, b1⟩ := hm2
    obtain ⟨hf, _, _, a0, a1⟩ := Wn.ask_yes hka
    obtain ⟨H, f⟩ := Wn.fit_of hf
    obtain ⟨m, em, _, hme⟩ := f.meet a0 a1 b0 b1
    have e1 : Wn.meetV g s y z = m := by unfold Wn.meetV; rw [hm, if_pos rfl, em]
    have e2 : Wn.meetE g s y z = 0 := by unfold Wn.meetE; rw [hm, if_pos rfl]
    rw [e1, e2] at C1
    clear e1 e2 em hm hka
    cases hy : Wn.askB g s h y
    · rw [(Wn.ask_no hy).1, (Wn.ask_no hy).2.1, (Wn.ask_no hy).2.2] at C2
      clear hy hf f hme
      generalize Wn.askE g s h z = e2 at *
      generalize Wn.loV g s h z = p2 at *
      generalize Wn.hiV g s h z = q2 at *
      go_enter Try.func8, Try.ntmps8
      go_wp2_with fail
      refine (CL.out _).mono ?_
      rintro e w0 ⟨rfl, hb⟩
      replace B0 := Lib.hid (B0.out.trans (hb.mono B0.out.size))
      replace X0 := Lib.hid (X0.out.below hb)
      clear hb
      obtain ⟨_, c0, c1, _⟩ := X0.out
      try dsimp only at c0 c1
      go_wp2_with fail
      refine (C1.out _).mono ?_
      rintro e w1 ⟨rfl, hb⟩
      replace B0 := Lib.hid (B0.out.trans (hb.mono B0.out.size))
      replace X0 := Lib.hid (X0.out.below hb)
      clear hb c0 c1
      obtain ⟨_, c0, c1, _⟩ := X0.out
      try dsimp only at c0 c1
      go_wp2_with fail
      refine (C2.out _).mono ?_
      rintro e w2 ⟨rfl, hb⟩
      replace B0 := Lib.hid (B0.out.trans (hb.mono B0.out.size))
      replace X0 := Lib.hid (X0.out.below hb)
      clear hb c0 c1
      obtain ⟨_, c0, c1, _⟩ := X0.out
      try dsimp only at c0 c1
      go_wp2_with fail
      refine (C3.out _).mono ?_
      rintro e w3 ⟨rfl, hb⟩
      replace B0 := Lib.hid (B0.out.trans (hb.mono B0.out.size))
      replace X0 := Lib.hid (X0.out.below hb)
      clear hb c0 c1
      go_wp2
      go_ret
      exact ⟨rfl, B0.out⟩
    · obtain ⟨_, h0, hH, _, _⟩ := Wn.ask_yes hy
      have hz : Wn.askB g s h z = true := by
        rw [Wn.ask_in hf, decide_eq_true h0, decide_eq_true hH, decide_eq_true b0, decide_eq_true b1]; rfl
      rw [(Wn.ask_ok hy).1, (Wn.ask_ok hy).2.1, (Wn.ask_ok hy).2.2] at C2
      rw [(Wn.ask_ok hz).1, (Wn.ask_ok hz).2.1, (Wn.ask_ok hz).2.2] at C3
      have hh := hme h.toNat
      rw [show ((h.toNat : Nat) : Int) = h from by omega] at hh
      have HE := Lib.hid (show (Wn.lo g h y == Wn.lo g h z) = decide ((m : Int) ≤ h) by
        rw [Bool.eq_iff_iff, beq_iff_eq, decide_eq_true_eq, hh]; omega)
      clear hy hz hf f hme hh h0 hH
      generalize Wn.lo g h y = p1 at *
      generalize Wn.lo g h z = p2 at *
      generalize Wn.hi g h y = q1 at *
      generalize Wn.hi g h z = q2 at *
      by_cases hmh : (m : Int) ≤ h
      · have k1 : (p1 == p2) = true := by rw [HE.out, decide_eq_true hmh]
        clear HE
        go_enter Try.func8, Try.ntmps8
        go_wp2_with fail
        refine (CL.out _).mono ?_
        rintro e w0 ⟨rfl, hb⟩
        replace B0 := Lib.hid (B0.out.trans (hb.mono B0.out.size))
        replace X0 := Lib.hid (X0.out.below hb)
        clear hb
        obtain ⟨_, c0, c1, _⟩ := X0.out
        try dsimp only at c0 c1
        go_wp2_with fail
        refine (C1.out _).mono ?_
        rintro e w1 ⟨rfl, hb⟩
        replace B0 := Lib.hid (B0.out.trans (hb.mono B0.out.size))
        replace X0 := Lib.hid (X0.out.below hb)
        clear hb c0 c1
        obtain ⟨_, c0, c1, _⟩ := X0.out
        try dsimp only at c0 c1
        go_wp2_with fail
        refine (C2.out _).mono ?_
        rintro e w2 ⟨rfl, hb⟩
        replace B0 := Lib.hid (B0.out.trans (hb.mono B0.out.size))
        replace X0 := Lib.hid (X0.out.below hb)
        clear hb c0 c1
        obtain ⟨_, c0, c1, _⟩ := X0.out
        try dsimp only at c0 c1
        go_wp2_with fail
        refine (C3.out _).mono ?_
        rintro e w3 ⟨rfl, hb⟩
        replace B0 := Lib.hid (B0.out.trans (hb.mono B0.out.size))
        replace X0 := Lib.hid (X0.out.below hb)
        clear hb c0 c1
        go_wp2
        go_ret
        exact ⟨rfl, B0.out⟩
      · have k1 : (p1 == p2) = false := by rw [HE.out, decide_eq_false hmh]
        have k2 : decide ((m : Int) ≤ h) = false := decide_eq_false hmh
        clear hmh
        clear HE
        go_enter Try.func8, Try.ntmps8
        go_wp2_with fail
        refine (CL.out _).mono ?_
        rintro e w0 ⟨rfl, hb⟩
        replace B0 := Lib.hid (B0.out.trans (hb.mono B0.out.size))
        replace X0 := Lib.hid (X0.out.below hb)
        clear hb
        obtain ⟨_, c0, c1, _⟩ := X0.out
        try dsimp only at c0 c1
        go_wp2_with fail
        refine (C1.out _).mono ?_
        rintro e w1 ⟨rfl, hb⟩
        replace B0 := Lib.hid (B0.out.trans (hb.mono B0.out.size))
        replace X0 := Lib.hid (X0.out.below hb)
        clear hb c0 c1
        obtain ⟨_, c0, c1, _⟩ := X0.out
        try dsimp only at c0 c1
        go_wp2_with fail
        refine (C2.out _).mono ?_
        rintro e w2 ⟨rfl, hb⟩
        replace B0 := Lib.hid (B0.out.trans (hb.mono B0.out.size))
        replace X0 := Lib.hid (X0.out.below hb)
        clear hb c0 c1
        obtain ⟨_, c0, c1, _⟩ := X0.out
        try dsimp only at c0 c1
        go_wp2_with fail
        refine (C3.out _).mono ?_
        rintro e w3 ⟨rfl, hb⟩
        replace B0 := Lib.hid (B0.out.trans (hb.mono B0.out.size))
        replace X0 := Lib.hid (X0.out.below hb)
        clear hb c0 c1
        go_wp2
        go_ret
        exact ⟨rfl, B0.out⟩
end Go.Proofs.Ythnpmbbhbaaloaa.winMeets
