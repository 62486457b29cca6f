/- The law ConfCaps, walked over the contracts: it answers true. -/
import Derived.Test.YtemnhpkkmfgnaaaLaw05
import Derived.Test.YtemnhpkkmfgnaaaPlain5b
namespace Go.Proofs.Ytemnhpkkmfgnaaa.confCaps
open Go.RowKit
set_option linter.unusedVariables false
set_option linter.unusedSimpArgs false

set_option maxRecDepth 100000 in
set_option maxHeartbeats 8000000 in
theorem walk (c : Cf) (n m : Int) (w : World) (hc : c.In) :
    Calls Try.prog 8 #[cfv c, .int .i64 n, .int .i64 m] w fun e w' => e = .returned (.bool true) ∧ Below w.heap.size w w' := by
  have BX := Lib.hid (CBox.new w c 23)
  have BB := Lib.hid (fun o => (Below.refl w.heap.size w).alloc (Nat.le_refl _) o)
  have C1 := Lib.hid (fun W => kCap c n W hc)
  have C2 := Lib.hid (fun W => kCap c m W hc)
  have CH := Lib.hid (fun W a (h : a ≤ 9223372036854775807) => kHigh c a W hc h)
  have CF := Lib.hid (fun W a b d (h : a ≤ 9223372036854775807) => kFull c a b d W hc h)
  have LF := Lib.hid (fun W a b d (h : a ≤ 9223372036854775807) => lFull c a b d true W hc h)
  clear hc
  unfold cfCells at BX
  cases hm : c.mayB
  · have e1 : c.capV n = 0 ∧ c.capE n = 50 := by unfold Cf.capV Cf.capE; rw [hm]; exact ⟨rfl, rfl⟩
    rw [e1.1, e1.2] at C1
    clear hm e1
    obtain ⟨y, hy⟩ : ∃ y, y = c.capV m := ⟨_, rfl⟩
    obtain ⟨f, hf⟩ : ∃ f, f = c.capE m := ⟨_, rfl⟩
    rw [← hy, ← hf] at C2
    clear hy hf
    unfold cfv at C1 C2 ⊢
    go_enter Try.func8, Try.ntmps8
    go_wp2_with fail
    refine (lAlive _).mono ?_
    rintro e w0 ⟨rfl, hb⟩
    have B0 := Lib.hid ((BB.out _).trans (hb.mono (by simp)))
    have X0 := Lib.hid (BX.out.below hb)
    clear hb
    obtain ⟨_, c0, c1, c2, c3, c4, c5, c6, c7, c8, _⟩ := X0.out
    go_wp2_with fail
    refine (C1.out _).mono ?_
    rintro e w1 ⟨rfl, hb⟩
    have B1 := Lib.hid (B0.out.trans (hb.mono B0.out.size))
    have X1 := Lib.hid (X0.out.below hb)
    try clear c0 c1 c2 c3 c4 c5 c6 c7 c8
    obtain ⟨_, c0, c1, c2, c3, c4, c5, c6, c7, c8, _⟩ := X1.out
    clear hb
    go_wp2_with fail
    refine (C2.out _).mono ?_
    rintro e w2 ⟨rfl, hb⟩
    have B2 := Lib.hid (B1.out.trans (hb.mono B1.out.size))
    have X2 := Lib.hid (X1.out.below hb)
    try clear c0 c1 c2 c3 c4 c5 c6 c7 c8
    obtain ⟨_, c0, c1, c2, c3, c4, c5, c6, c7, c8, _⟩ := X2.out
    clear hb
    go_wp2
    go_ret
    exact ⟨rfl, B2.out⟩
  · by_cases h1 : n < 0
    · have e1 : c.capV n = 0 ∧ c.capE n = 2 := by unfold Cf.capV Cf.capE; rw [hm, if_pos rfl, if_pos rfl, if_pos h1, if_pos h1]; exact ⟨rfl, rfl⟩
      rw [e1.1, e1.2] at C1
      clear hm e1 h1
      obtain ⟨y, hy⟩ : ∃ y, y = c.capV m := ⟨_, rfl⟩
      obtain ⟨f, hf⟩ : ∃ f, f = c.capE m := ⟨_, rfl⟩
      rw [← hy, ← hf] at C2
      clear hy hf
      unfold cfv at C1 C2 ⊢
      go_enter Try.func8, Try.ntmps8
      go_wp2_with fail
      refine (lAlive _).mono ?_
      rintro e w0 ⟨rfl, hb⟩
      have B0 := Lib.hid ((BB.out _).trans (hb.mono (by simp)))
      have X0 := Lib.hid (BX.out.below hb)
      clear hb
      obtain ⟨_, c0, c1, c2, c3, c4, c5, c6, c7, c8, _⟩ := X0.out
      go_wp2_with fail
      refine (C1.out _).mono ?_
      rintro e w1 ⟨rfl, hb⟩
      have B1 := Lib.hid (B0.out.trans (hb.mono B0.out.size))
      have X1 := Lib.hid (X0.out.below hb)
      try clear c0 c1 c2 c3 c4 c5 c6 c7 c8
      obtain ⟨_, c0, c1, c2, c3, c4, c5, c6, c7, c8, _⟩ := X1.out
      clear hb
      go_wp2_with fail
      refine (C2.out _).mono ?_
      rintro e w2 ⟨rfl, hb⟩
      have B2 := Lib.hid (B1.out.trans (hb.mono B1.out.size))
      have X2 := Lib.hid (X1.out.below hb)
      try clear c0 c1 c2 c3 c4 c5 c6 c7 c8
      obtain ⟨_, c0, c1, c2, c3, c4, c5, c6, c7, c8, _⟩ := X2.out
      clear hb
      go_wp2
      go_ret
      exact ⟨rfl, B2.out⟩
    · by_cases h2 : c.most < n
      · have e1 : c.capV n = 0 ∧ c.capE n = 4 := by unfold Cf.capV Cf.capE; rw [hm, if_pos rfl, if_pos rfl, if_neg h1, if_neg h1, if_pos h2, if_pos h2]; exact ⟨rfl, rfl⟩
        rw [e1.1, e1.2] at C1
        clear hm e1 h1
        obtain ⟨y, hy⟩ : ∃ y, y = c.capV m := ⟨_, rfl⟩
        obtain ⟨f, hf⟩ : ∃ f, f = c.capE m := ⟨_, rfl⟩
        rw [← hy, ← hf] at C2
        clear hy hf
        unfold cfv at C1 C2 ⊢
        go_enter Try.func8, Try.ntmps8
        go_wp2_with fail
        refine (lAlive _).mono ?_
        rintro e w0 ⟨rfl, hb⟩
        have B0 := Lib.hid ((BB.out _).trans (hb.mono (by simp)))
        have X0 := Lib.hid (BX.out.below hb)
        clear hb
        obtain ⟨_, c0, c1, c2, c3, c4, c5, c6, c7, c8, _⟩ := X0.out
        go_wp2_with fail
        refine (C1.out _).mono ?_
        rintro e w1 ⟨rfl, hb⟩
        have B1 := Lib.hid (B0.out.trans (hb.mono B0.out.size))
        have X1 := Lib.hid (X0.out.below hb)
        try clear c0 c1 c2 c3 c4 c5 c6 c7 c8
        obtain ⟨_, c0, c1, c2, c3, c4, c5, c6, c7, c8, _⟩ := X1.out
        clear hb
        go_wp2_with fail
        refine (C2.out _).mono ?_
        rintro e w2 ⟨rfl, hb⟩
        have B2 := Lib.hid (B1.out.trans (hb.mono B1.out.size))
        have X2 := Lib.hid (X1.out.below hb)
        try clear c0 c1 c2 c3 c4 c5 c6 c7 c8
        obtain ⟨_, c0, c1, c2, c3, c4, c5, c6, c7, c8, _⟩ := X2.out
        clear hb
        go_wp2
        go_ret
        exact ⟨rfl, B2.out⟩
      · have e1 : c.capV n = c.takes n ∧ c.capE n = 0 := by unfold Cf.capV Cf.capE; rw [hm, if_pos rfl, if_pos rfl, if_neg h1, if_neg h1, if_neg h2, if_neg h2]; exact ⟨rfl, rfl⟩
        rw [e1.1, e1.2] at C1
        have M := (Cf.may_iff c).1 hm
        obtain ⟨I, K, hfull⟩ := Cf.cap_is M (n := n) (by omega) (by omega)
        have SB := M.size_bd I
        have HB := c.high_bd (c.takes n) SB.1 M.sizes.seg1 SB.2
        have lo := I.lo
        have sg := M.sizes.seg1
        have HH := Cf.high_yes hm ((Cf.is_iff c _).2 I)
        have C3 := Lib.hid (fun W => CH.out W (c.takes n) (by omega))
        rw [HH.1, HH.2] at C3
        have C4 := Lib.hid (fun W => LF.out W (c.takes n) (c.high (c.takes n)) n (by omega))
        rw [(Cf.ok_ask ((Cf.ok_iff _ _ _ _).2 K)).1, hfull] at C4
        have C5 := Lib.hid (fun W => CF.out W (c.takes n / 2) (c.high (c.takes n) - 1) n (by omega))
        have HY := Lib.hid (show c.capE m = 0 → n ≤ m → c.takes n ≤ c.capV m by
            intro a b
            have h3 : ¬ m < 0 := by omega
            have h4 : ¬ c.most < m := by
              intro h4
              unfold Cf.capE at a
              rw [hm, if_pos rfl, if_neg h3, if_pos h4] at a
              cases a
            have e2 : c.capV m = c.takes m := by unfold Cf.capV; rw [hm, if_pos rfl, if_neg h3, if_neg h4]
            rw [e2]
            exact Cf.takes_mono M.sizes b)
        have HI := Lib.hid (fun (h : ¬ c.takes n = c.least) => Cf.cap_half M (n := n) (by omega) (by omega) h)
        clear hm e1 M I K hfull HH CH CF LF
        obtain ⟨hb0, hb1⟩ := HB
        obtain ⟨sb0, sb1⟩ := SB
        obtain ⟨y, hy⟩ : ∃ y, y = c.capV m := ⟨_, rfl⟩
        obtain ⟨f, hf⟩ : ∃ f, f = c.capE m := ⟨_, rfl⟩
        rw [← hy, ← hf] at C2 HY
        clear hy hf
        obtain ⟨X, hX⟩ : ∃ X, X = c.takes n := ⟨_, rfl⟩
        rw [← hX] at C1 C3 C4 C5 HY HI hb0 hb1 sb0 sb1 lo
        clear hX
        obtain ⟨H, hH⟩ : ∃ H, H = c.high X := ⟨_, rfl⟩
        rw [← hH] at C3 C4 C5 HI hb0 hb1
        clear hH
        obtain ⟨i, hi⟩ : ∃ i, i = c.askE (X / 2) (H - 1) n := ⟨_, rfl⟩
        obtain ⟨z, hz⟩ : ∃ z, z = c.fullV (X / 2) (H - 1) n := ⟨_, rfl⟩
        rw [← hi, ← hz] at C5 HI
        clear hi hz
        have sz : ¬ X < c.least := by omega
        have sz2 : ¬ X < 0 := by omega
        unfold cfv at C1 C2 C3 C4 C5 ⊢
        go_enter Try.func8, Try.ntmps8
        go_wp2_with fail
        refine (lAlive _).mono ?_
        rintro e w0 ⟨rfl, hb⟩
        have B0 := Lib.hid ((BB.out _).trans (hb.mono (by simp)))
        have X0 := Lib.hid (BX.out.below hb)
        clear hb
        obtain ⟨_, c0, c1, c2, c3, c4, c5, c6, c7, c8, _⟩ := X0.out
        go_wp2_with fail
        refine (C1.out _).mono ?_
        rintro e w1 ⟨rfl, hb⟩
        have B1 := Lib.hid (B0.out.trans (hb.mono B0.out.size))
        have X1 := Lib.hid (X0.out.below hb)
        try clear c0 c1 c2 c3 c4 c5 c6 c7 c8
        obtain ⟨_, c0, c1, c2, c3, c4, c5, c6, c7, c8, _⟩ := X1.out
        clear hb
        go_wp2_with fail
        refine (C2.out _).mono ?_
        rintro e w2 ⟨rfl, hb⟩
        have B2 := Lib.hid (B1.out.trans (hb.mono B1.out.size))
        have X2 := Lib.hid (X1.out.below hb)
        try clear c0 c1 c2 c3 c4 c5 c6 c7 c8
        obtain ⟨_, c0, c1, c2, c3, c4, c5, c6, c7, c8, _⟩ := X2.out
        clear hb
        go_wp2_with fail
        refine (C3.out _).mono ?_
        rintro e w3 ⟨rfl, hb⟩
        have B3 := Lib.hid (B2.out.trans (hb.mono B2.out.size))
        have X3 := Lib.hid (X2.out.below hb)
        try clear c0 c1 c2 c3 c4 c5 c6 c7 c8
        obtain ⟨_, c0, c1, c2, c3, c4, c5, c6, c7, c8, _⟩ := X3.out
        clear hb
        go_wp2_with fail
        refine (C4.out _).mono ?_
        rintro e w4 ⟨rfl, hb⟩
        have B4 := Lib.hid (B3.out.trans (hb.mono B3.out.size))
        have X4 := Lib.hid (X3.out.below hb)
        try clear c0 c1 c2 c3 c4 c5 c6 c7 c8
        obtain ⟨_, c0, c1, c2, c3, c4, c5, c6, c7, c8, _⟩ := X4.out
        clear hb
        by_cases f0 : f = 0
        · by_cases hnm : n ≤ m
          · have hy := HY.out f0 hnm
            have hy' : ¬ y < X := by omega
            subst f0
            go_upto_region 9 with (fail)
            by_cases hx : X = c.least
            · have hx1 : (X == c.least) = true := by simpa using hx
              clear hx
              go_wp2
              go_ret
              exact ⟨rfl, B4.out⟩
            · have hx1 : (X == c.least) = false := by simpa using hx
              have hi := Lib.hid (HI.out hx)
              clear hx
              go_wp2_with fail
              refine (C5.out _).mono ?_
              rintro e w5 ⟨rfl, hb⟩
              have B5 := Lib.hid (B4.out.trans (hb.mono B4.out.size))
              have X5 := Lib.hid (X4.out.below hb)
              try clear c0 c1 c2 c3 c4 c5 c6 c7 c8
              obtain ⟨_, c0, c1, c2, c3, c4, c5, c6, c7, c8, _⟩ := X5.out
              clear hb
              rcases hi.out with h3 | ⟨h3, h4⟩
              · subst h3
                go_wp2
                go_ret
                exact ⟨rfl, B5.out⟩
              · subst h3 h4
                go_wp2
                go_ret
                exact ⟨rfl, B5.out⟩
          · subst f0
            go_upto_region 9 with (fail)
            by_cases hx : X = c.least
            · have hx1 : (X == c.least) = true := by simpa using hx
              clear hx
              go_wp2
              go_ret
              exact ⟨rfl, B4.out⟩
            · have hx1 : (X == c.least) = false := by simpa using hx
              have hi := Lib.hid (HI.out hx)
              clear hx
              go_wp2_with fail
              refine (C5.out _).mono ?_
              rintro e w5 ⟨rfl, hb⟩
              have B5 := Lib.hid (B4.out.trans (hb.mono B4.out.size))
              have X5 := Lib.hid (X4.out.below hb)
              try clear c0 c1 c2 c3 c4 c5 c6 c7 c8
              obtain ⟨_, c0, c1, c2, c3, c4, c5, c6, c7, c8, _⟩ := X5.out
              clear hb
              rcases hi.out with h3 | ⟨h3, h4⟩
              · subst h3
                go_wp2
                go_ret
                exact ⟨rfl, B5.out⟩
              · subst h3 h4
                go_wp2
                go_ret
                exact ⟨rfl, B5.out⟩
        · have f1 : (f == 0) = false := by simpa using f0
          clear f0
          go_upto_region 9 with (fail)
          by_cases hx : X = c.least
          · have hx1 : (X == c.least) = true := by simpa using hx
            clear hx
            go_wp2
            go_ret
            exact ⟨rfl, B4.out⟩
          · have hx1 : (X == c.least) = false := by simpa using hx
            have hi := Lib.hid (HI.out hx)
            clear hx
            go_wp2_with fail
            refine (C5.out _).mono ?_
            rintro e w5 ⟨rfl, hb⟩
            have B5 := Lib.hid (B4.out.trans (hb.mono B4.out.size))
            have X5 := Lib.hid (X4.out.below hb)
            try clear c0 c1 c2 c3 c4 c5 c6 c7 c8
            obtain ⟨_, c0, c1, c2, c3, c4, c5, c6, c7, c8, _⟩ := X5.out
            clear hb
            rcases hi.out with h3 | ⟨h3, h4⟩
            · subst h3
              go_wp2
              go_ret
              exact ⟨rfl, B5.out⟩
            · subst h3 h4
              go_wp2
              go_ret
              exact ⟨rfl, B5.out⟩
end Go.Proofs.Ytemnhpkkmfgnaaa.confCaps
