/- The law WinHalves, walked over the contracts: it answers true. -/
import Derived.Test.YthnpmbbhbaaloaaLaw06
namespace Go.Proofs.Ythnpmbbhbaaloaa.winHalves
open Go.RowKit
set_option linter.unusedVariables false
set_option linter.unusedSimpArgs false

set_option maxRecDepth 100000 in
set_option maxHeartbeats 4000000 in
theorem walk (g s h a : Int) (w : World) (hg : g ≤ 9223372036854775807) (hs : -9223372036854775808 ≤ s ∧ s ≤ 9223372036854775807) :
    Calls Try.prog 6 #[.int .i64 g, .int .i64 s, .int .i64 h, .int .i64 a] w fun e w' => e = .returned (.bool true) ∧ Below w.heap.size w w' := by
  have B0 := Lib.hid (Below.refl w.heap.size w)
  have CL := Lib.hid (fun W => lAlive W)
  have C1 := Lib.hid (fun W => vAround g s h a W hg hs)
  cases hk : Wn.askB g s h a
  · have E := Wn.ask_no hk
    rw [E.1, E.2.1, E.2.2] at C1
    clear hk E
    go_enter Try.func6, Try.ntmps6
    go_wp2_with fail
    refine (CL.out _).mono ?_
    rintro e w0 ⟨rfl, hb⟩
    replace B0 := Lib.hid (B0.out.trans (hb.mono B0.out.size))
    clear hb
    go_wp2_with fail
    refine (C1.out _).mono ?_
    rintro e w1 ⟨rfl, hb⟩
    replace B0 := Lib.hid (B0.out.trans (hb.mono B0.out.size))
    clear hb
    go_wp2
    go_ret
    exact ⟨rfl, B0.out⟩
  · obtain ⟨hf, h0, hH, a0, a1⟩ := Wn.ask_yes hk
    obtain ⟨H, f⟩ := Wn.fit_of hf
    rw [f.hH] at hH
    have E := Wn.ask_ok hk
    rw [E.1, E.2.1, E.2.2] at C1
    obtain ⟨k, rfl⟩ : ∃ k : Nat, h = k := ⟨h.toNat, by omega⟩
    have AR := f.around (h := k) (by omega) a0 a1
    have s1 := f.s1
    have h14 := f.h14
    have g1 := f.g1
    have C2 := Lib.hid (fun W => vAround g s ((k : Int) + 1) a W hg hs)
    have HV := Lib.hid (Wn.halves g1 k a)
    have y0 := AR.a0
    have y1 := AR.a1
    have y2 := AR.a2
    have y3 := AR.a3
    have hw : Wn.hi g k a - Wn.lo g k a = Wn.wd g k := by unfold Wn.hi; omega
    have hmod := Wn.lo_mod (g := g) k a
    rw [← hw] at hmod
    have m1 : (Wn.lo g k a % (Wn.hi g k a - Wn.lo g k a) != 0) = false := by rw [hmod]; rfl
    have m2 : (Wn.lo g k a).tmod (Wn.hi g k a - Wn.lo g k a) = 0 := by rw [Int.tmod_eq_emod_of_nonneg y0]; exact hmod
    clear hmod hw E AR
    cases hk2 : Wn.askB g s ((k : Int) + 1) a
    · have E2 := Wn.ask_no hk2
      rw [E2.1, E2.2.1, E2.2.2] at C2
      have hkH : k = H := by
        rcases Nat.lt_or_ge k H with h5 | h5
        · rw [Wn.ask_in hf, decide_eq_true (show (0 : Int) ≤ (k : Int) + 1 by omega), decide_eq_true (show (k : Int) + 1 ≤ Wn.high g s by rw [f.hH]; omega), decide_eq_true a0, decide_eq_true a1] at hk2
          cases hk2
        · omega
      have e1 : Wn.lo g k a = 0 := by rw [hkH]; exact f.meet_top a0 a1
      have e2 : Wn.hi g k a = s := by unfold Wn.hi; rw [e1, hkH, f.top]; omega
      rw [e1, e2] at C1
      have sp := f.seg
      clear hk hk2 hf f E2 e1 e2 y0 y1 y2 y3 m1 m2 HV hkH
      have ks : ¬ s = 0 := by omega
      go_enter Try.func6, Try.ntmps6
      go_wp2_with fail
      refine (CL.out _).mono ?_
      rintro e w0 ⟨rfl, hb⟩
      replace B0 := Lib.hid (B0.out.trans (hb.mono B0.out.size))
      clear hb
      go_wp2_with fail
      refine (C1.out _).mono ?_
      rintro e w1 ⟨rfl, hb⟩
      replace B0 := Lib.hid (B0.out.trans (hb.mono B0.out.size))
      clear hb
      go_wp2_with fail
      refine (C2.out _).mono ?_
      rintro e w2 ⟨rfl, hb⟩
      replace B0 := Lib.hid (B0.out.trans (hb.mono B0.out.size))
      clear hb
      go_wp2
      go_ret
      exact ⟨rfl, B0.out⟩
    · have E2 := Wn.ask_ok hk2
      rw [E2.1, E2.2.1, E2.2.2] at C2
      have AR2 := f.around (h := k + 1) (by
        obtain ⟨_, _, h6, _⟩ := Wn.ask_yes hk2
        rw [f.hH] at h6
        omega) a0 a1
      rw [show ((k + 1 : Nat) : Int) = (k : Int) + 1 from by omega] at AR2
      have z0 := AR2.a0
      have z3 := AR2.a3
      obtain ⟨v1, v2, v3, v4⟩ := HV.out
      clear hk hk2 hf f E2 AR2 HV
      generalize Wn.lo g ((k : Int) + 1) a = p2 at *
      generalize Wn.hi g ((k : Int) + 1) a = q2 at *
      generalize Wn.lo g (k : Int) a = p at *
      generalize Wn.hi g (k : Int) a = q at *
      have k0 : ¬ q - p = 0 := by omega
      have k4 : (q2 - p2 == 2 * (q - p)) = true := by rw [v4]; simp
      clear v4
      by_cases he : p2 = p
      · subst he
        clear v1
        go_enter Try.func6, Try.ntmps6
        go_wp2_with fail
        refine (CL.out _).mono ?_
        rintro e w0 ⟨rfl, hb⟩
        replace B0 := Lib.hid (B0.out.trans (hb.mono B0.out.size))
        clear hb
        go_wp2_with fail
        refine (C1.out _).mono ?_
        rintro e w1 ⟨rfl, hb⟩
        replace B0 := Lib.hid (B0.out.trans (hb.mono B0.out.size))
        clear hb
        go_wp2_with fail
        refine (C2.out _).mono ?_
        rintro e w2 ⟨rfl, hb⟩
        replace B0 := Lib.hid (B0.out.trans (hb.mono B0.out.size))
        clear hb
        go_wp2
        go_ret
        exact ⟨rfl, B0.out⟩
      · have he2 : q2 = q := by rcases v1 with h | h; exact absurd h he; exact h
        subst he2
        have k5 : (p2 == p) = false := by simpa using he
        clear v1 he
        go_enter Try.func6, Try.ntmps6
        go_wp2_with fail
        refine (CL.out _).mono ?_
        rintro e w0 ⟨rfl, hb⟩
        replace B0 := Lib.hid (B0.out.trans (hb.mono B0.out.size))
        clear hb
        go_wp2_with fail
        refine (C1.out _).mono ?_
        rintro e w1 ⟨rfl, hb⟩
        replace B0 := Lib.hid (B0.out.trans (hb.mono B0.out.size))
        clear hb
        go_wp2_with fail
        refine (C2.out _).mono ?_
        rintro e w2 ⟨rfl, hb⟩
        replace B0 := Lib.hid (B0.out.trans (hb.mono B0.out.size))
        clear hb
        go_wp2
        go_ret
        exact ⟨rfl, B0.out⟩
end Go.Proofs.Ythnpmbbhbaaloaa.winHalves
