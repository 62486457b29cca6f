/- The law ConfTurns, walked over the contracts: it answers true. -/
import Derived.Test.YtemnhpkkmfgnaaaLaw05
import Derived.Test.YtemnhpkkmfgnaaaPlain5b
namespace Go.Proofs.Ytemnhpkkmfgnaaa.confTurns
open Go.RowKit
set_option linter.unusedVariables false
set_option linter.unusedSimpArgs false

set_option maxRecDepth 100000 in
set_option maxHeartbeats 8000000 in
theorem walk (c : Cf) (size n : Int) (w : World) (hc : c.In) (hsz : size ≤ 9223372036854775807) (hn : I64 n) :
    Calls Try.prog 7 #[cfv c, .int .i64 size, .int .i64 n] w fun e w' => e = .returned (.bool true) ∧ Below w.heap.size w w' := by
  have BX := Lib.hid (CBox.new w c 23)
  have BB := Lib.hid (fun o => (Below.refl w.heap.size w).alloc (Nat.le_refl _) o)
  obtain ⟨N, hN⟩ : ∃ N, N = wrap64 (n - 1) := ⟨_, rfl⟩
  have yN : wrap64 (n - 1) = N := hN.symm
  have C2 := Lib.hid (fun W => kHigh c size W hc hsz)
  have CF := Lib.hid (fun W a b d (h : a ≤ 9223372036854775807) => kFull c a b d W hc h)
  have CS := Lib.hid (fun W a b d (h : a ≤ 9223372036854775807) => kSparse c a b d W hc h)
  have LF := Lib.hid (fun W a b d (h : a ≤ 9223372036854775807) => lFull c a b d true W hc h)
  have LS := Lib.hid (fun W a b d (h : a ≤ 9223372036854775807) => lSparse c a b d true W hc h)
  clear hc
  unfold cfCells at BX
  by_cases hbad : c.mayB = false ∨ c.isB size = false
  · have E1 := Cf.ask_bad 0 N hbad
    have E2 := Cf.ask_bad 0 n hbad
    have C3 := Lib.hid (fun W => CF.out W size 0 N hsz)
    have C4 := Lib.hid (fun W => CF.out W size 0 n hsz)
    have C5 := Lib.hid (fun W => CS.out W size 0 n hsz)
    rw [E1.2.2.2] at C2
    rw [E1.1] at C3
    rw [E2.1] at C4 C5
    have k1 := E1.2.2.1
    have k2 : (c.highE size == 0) = false := by simpa using k1
    clear hbad E1 E2 CF CS LF LS hN
    obtain ⟨x, hx⟩ : ∃ x, x = c.highE size := ⟨_, rfl⟩
    rw [← hx] at C2 C3 C4 C5 k1 k2
    clear hx
    obtain ⟨p, hp⟩ : ∃ p, p = c.fullV size 0 N := ⟨_, rfl⟩
    obtain ⟨q, hq⟩ : ∃ q, q = c.fullV size 0 n := ⟨_, rfl⟩
    obtain ⟨r, hr⟩ : ∃ q, q = c.sparseV size 0 n := ⟨_, rfl⟩
    rw [← hp] at C3
    rw [← hq] at C4
    rw [← hr] at C5
    clear hp hq hr
    unfold cfv at C2 C3 C4 C5 ⊢
    go_enter Try.func7, Try.ntmps7
    go_wp2_with fail
    refine (lAlive _).mono ?_
    rintro e w0 ⟨rfl, hb⟩
    have B0 := Lib.hid ((BB.out _).trans (hb.mono (by simp)))
    have X0 := Lib.hid (BX.out.below hb)
    clear hb
    obtain ⟨_, c0, c1, c2, c3, c4, c5, c6, c7, c8, _⟩ := X0.out
    go_wp2_with fail
    refine (C2.out _).mono ?_
    rintro e w1 ⟨rfl, hb⟩
    have B1 := Lib.hid (B0.out.trans (hb.mono B0.out.size))
    have X1 := Lib.hid (X0.out.below hb)
    try clear c0 c1 c2 c3 c4 c5 c6 c7 c8
    obtain ⟨_, c0, c1, c2, c3, c4, c5, c6, c7, c8, _⟩ := X1.out
    clear hb
    go_wp2_with fail
    refine (C3.out _).mono ?_
    rintro e w2 ⟨rfl, hb⟩
    have B2 := Lib.hid (B1.out.trans (hb.mono B1.out.size))
    have X2 := Lib.hid (X1.out.below hb)
    try clear c0 c1 c2 c3 c4 c5 c6 c7 c8
    obtain ⟨_, c0, c1, c2, c3, c4, c5, c6, c7, c8, _⟩ := X2.out
    clear hb
    go_wp2_with fail
    refine (C4.out _).mono ?_
    rintro e w3 ⟨rfl, hb⟩
    have B3 := Lib.hid (B2.out.trans (hb.mono B2.out.size))
    have X3 := Lib.hid (X2.out.below hb)
    try clear c0 c1 c2 c3 c4 c5 c6 c7 c8
    obtain ⟨_, c0, c1, c2, c3, c4, c5, c6, c7, c8, _⟩ := X3.out
    clear hb
    go_wp2_with fail
    refine (C5.out _).mono ?_
    rintro e w4 ⟨rfl, hb⟩
    have B4 := Lib.hid (B3.out.trans (hb.mono B3.out.size))
    have X4 := Lib.hid (X3.out.below hb)
    try clear c0 c1 c2 c3 c4 c5 c6 c7 c8
    obtain ⟨_, c0, c1, c2, c3, c4, c5, c6, c7, c8, _⟩ := X4.out
    clear hb
    go_wp2
    go_ret
    exact ⟨rfl, B4.out⟩
  · have hm : c.mayB = true := by cases hq : c.mayB <;> simp [hq] at hbad ⊢
    have hi : c.isB size = true := by cases hq : c.isB size <;> simp [hq] at hbad ⊢
    have M := (Cf.may_iff c).1 hm
    have I := (Cf.is_iff c size).1 hi
    have SB := M.size_bd I
    have HB := c.high_bd size SB.1 M.sizes.seg1 SB.2
    have W1 := Cf.wide_of M.sizes.segp I.pow SB.1
    have sg := M.sizes.seg1
    rw [(Cf.high_yes hm hi).1, (Cf.high_yes hm hi).2] at C2
    have C3 := Lib.hid (fun W => CF.out W size (c.high size) N hsz)
    have C4 := Lib.hid (fun W => CF.out W size (c.high size) n hsz)
    have C5 := Lib.hid (fun W => CS.out W size (c.high size) n hsz)
    have L1 := Lib.hid (fun W => LF.out W (2 * size) (c.high size + 1) n (by omega))
    have L2 := Lib.hid (fun W => LS.out W (2 * size) (c.high size + 1) n (by omega))
    have L3 := Lib.hid (fun W => LF.out W (size / 2) (c.high size - 1) n (by omega))
    have F0 := Lib.hid (show c.askE size (c.high size) N = 0 ∨ c.askE size (c.high size) N = 2 by rw [(Cf.ask_in hm hi).1]; split <;> simp)
    have G0 := Lib.hid (show c.askE size (c.high size) n = 0 ∨ c.askE size (c.high size) n = 2 by rw [(Cf.ask_in hm hi).1]; split <;> simp)
    have okOf : ∀ m, c.askE size (c.high size) m = 0 → c.Ok size (c.high size) m := by
        intro m h
        cases hq : c.okB size (c.high size) m
        · have := (Cf.ok_no hq).1
          rw [h] at this; simp at this
        · exact (Cf.ok_iff _ _ _ _).1 hq
    have UP := Lib.hid (show c.askE size (c.high size) N = 0 → c.askE size (c.high size) n = 0 → c.fullV size (c.high size) N = true → c.fullV size (c.high size) n = false → n ≤ c.most → (c.askE (2 * size) (c.high size + 1) n == 0 && (c.fullV (2 * size) (c.high size + 1) n == true)) = true ∧ (c.askE (2 * size) (c.high size + 1) n == 0 && (c.sparseV (2 * size) (c.high size + 1) n == true)) = true by
        intro a b d e f
        have K1 := okOf _ a
        have K2 := okOf _ b
        have e1 : N = n - 1 := by
          have h0 := K1.n0
          have h1 := K1.n1
          have h2 := hn.1
          have h3 := hn.2
          rw [W1] at h1
          unfold wrap64 at hN
          omega
        rw [e1] at K1 d
        obtain ⟨x1, x2, x3⟩ := Cf.turns_up K1 K2 d e f
        rw [x1, x2, x3]
        exact ⟨rfl, rfl⟩)
    have DN := Lib.hid (show c.askE size (c.high size) n = 0 → c.sparseV size (c.high size) n = false → 0 < c.high size ∧ (c.askE (size / 2) (c.high size - 1) n == 0 && (c.fullV (size / 2) (c.high size - 1) n == true)) = true by
        intro a b
        obtain ⟨x1, x2, x3⟩ := Cf.turns_down (okOf _ a) b
        rw [x2, x3]
        exact ⟨x1, rfl⟩)
    clear hbad hm hi M I W1 CF CS LF LS hN okOf
    obtain ⟨hb0, hb1⟩ := HB
    obtain ⟨sb0, sb1⟩ := SB
    obtain ⟨H, hH⟩ : ∃ H, H = c.high size := ⟨_, rfl⟩
    rw [← hH] at C2 C3 C4 C5 L1 L2 L3 F0 G0 UP DN hb0 hb1
    clear hH
    obtain ⟨f, hf⟩ : ∃ f, f = c.askE size H N := ⟨_, rfl⟩
    obtain ⟨g, hg⟩ : ∃ g, g = c.askE size H n := ⟨_, rfl⟩
    obtain ⟨was, hw⟩ : ∃ p, p = c.fullV size H N := ⟨_, rfl⟩
    obtain ⟨now, hnw⟩ : ∃ p, p = c.fullV size H n := ⟨_, rfl⟩
    obtain ⟨few, hfw⟩ : ∃ p, p = c.sparseV size H n := ⟨_, rfl⟩
    rw [← hf, ← hw] at C3
    rw [← hg, ← hnw] at C4
    rw [← hg, ← hfw] at C5
    rw [← hf] at F0
    rw [← hg] at G0
    rw [← hf, ← hg, ← hw, ← hnw] at UP
    rw [← hg, ← hfw] at DN
    clear hf hg hw hnw hfw
    obtain ⟨u1, hu1⟩ : ∃ p, p = (c.askE (2 * size) (H + 1) n == 0 && (c.fullV (2 * size) (H + 1) n == true)) := ⟨_, rfl⟩
    obtain ⟨u2, hu2⟩ : ∃ p, p = (c.askE (2 * size) (H + 1) n == 0 && (c.sparseV (2 * size) (H + 1) n == true)) := ⟨_, rfl⟩
    obtain ⟨u3, hu3⟩ : ∃ p, p = (c.askE (size / 2) (H - 1) n == 0 && (c.fullV (size / 2) (H - 1) n == true)) := ⟨_, rfl⟩
    rw [← hu1] at L1 UP
    rw [← hu2] at L2 UP
    rw [← hu3] at L3 DN
    clear hu1 hu2 hu3 hn
    have sz : ¬ size < 0 := by omega
    unfold cfv at C2 C3 C4 C5 L1 L2 L3 ⊢
    go_enter Try.func7, Try.ntmps7
    go_wp2_with fail
    refine (lAlive _).mono ?_
    rintro e w0 ⟨rfl, hb⟩
    have B0 := Lib.hid ((BB.out _).trans (hb.mono (by simp)))
    have X0 := Lib.hid (BX.out.below hb)
    clear hb
    obtain ⟨_, c0, c1, c2, c3, c4, c5, c6, c7, c8, _⟩ := X0.out
    go_wp2_with fail
    refine (C2.out _).mono ?_
    rintro e w1 ⟨rfl, hb⟩
    have B1 := Lib.hid (B0.out.trans (hb.mono B0.out.size))
    have X1 := Lib.hid (X0.out.below hb)
    try clear c0 c1 c2 c3 c4 c5 c6 c7 c8
    obtain ⟨_, c0, c1, c2, c3, c4, c5, c6, c7, c8, _⟩ := X1.out
    clear hb
    go_wp2_with fail
    refine (C3.out _).mono ?_
    rintro e w2 ⟨rfl, hb⟩
    have B2 := Lib.hid (B1.out.trans (hb.mono B1.out.size))
    have X2 := Lib.hid (X1.out.below hb)
    try clear c0 c1 c2 c3 c4 c5 c6 c7 c8
    obtain ⟨_, c0, c1, c2, c3, c4, c5, c6, c7, c8, _⟩ := X2.out
    clear hb
    go_wp2_with fail
    refine (C4.out _).mono ?_
    rintro e w3 ⟨rfl, hb⟩
    have B3 := Lib.hid (B2.out.trans (hb.mono B2.out.size))
    have X3 := Lib.hid (X2.out.below hb)
    try clear c0 c1 c2 c3 c4 c5 c6 c7 c8
    obtain ⟨_, c0, c1, c2, c3, c4, c5, c6, c7, c8, _⟩ := X3.out
    clear hb
    go_upto_region 5 with (fail)
    rcases F0.out with f0 | f0
    · subst f0
      rcases G0.out with g0 | g0
      · subst g0
        cases was
        · go_wp2_with fail
          refine (C5.out _).mono ?_
          rintro e w4 ⟨rfl, hb⟩
          have B4 := Lib.hid (B3.out.trans (hb.mono B3.out.size))
          have X4 := Lib.hid (X3.out.below hb)
          try clear c0 c1 c2 c3 c4 c5 c6 c7 c8
          obtain ⟨_, c0, c1, c2, c3, c4, c5, c6, c7, c8, _⟩ := X4.out
          clear hb
          cases few
          · have dn := DN.out (by simp) (by simp)
            have dp := dn.1
            go_wp2_with fail
            refine (L3.out _).mono ?_
            rw [dn.2]
            rintro e w5 ⟨rfl, hb⟩
            have B5 := Lib.hid (B4.out.trans (hb.mono B4.out.size))
            have X5 := Lib.hid (X4.out.below hb)
            try clear c0 c1 c2 c3 c4 c5 c6 c7 c8
            obtain ⟨_, c0, c1, c2, c3, c4, c5, c6, c7, c8, _⟩ := X5.out
            clear hb
            go_wp2
            go_ret
            exact ⟨rfl, B5.out⟩
          · go_wp2
            go_ret
            exact ⟨rfl, B4.out⟩
        · cases now
          · by_cases hle : n ≤ c.most
            · have up := UP.out (by simp) (by simp) (by simp) (by simp) hle
              go_wp2_with fail
              refine (L1.out _).mono ?_
              rw [up.1]
              rintro e w4 ⟨rfl, hb⟩
              have B4 := Lib.hid (B3.out.trans (hb.mono B3.out.size))
              have X4 := Lib.hid (X3.out.below hb)
              try clear c0 c1 c2 c3 c4 c5 c6 c7 c8
              obtain ⟨_, c0, c1, c2, c3, c4, c5, c6, c7, c8, _⟩ := X4.out
              clear hb
              go_wp2_with fail
              refine (L2.out _).mono ?_
              rw [up.2]
              rintro e w5 ⟨rfl, hb⟩
              have B5 := Lib.hid (B4.out.trans (hb.mono B4.out.size))
              have X5 := Lib.hid (X4.out.below hb)
              try clear c0 c1 c2 c3 c4 c5 c6 c7 c8
              obtain ⟨_, c0, c1, c2, c3, c4, c5, c6, c7, c8, _⟩ := X5.out
              clear hb
              go_wp2_with fail
              refine (C5.out _).mono ?_
              rintro e w6 ⟨rfl, hb⟩
              have B6 := Lib.hid (B5.out.trans (hb.mono B5.out.size))
              have X6 := Lib.hid (X5.out.below hb)
              try clear c0 c1 c2 c3 c4 c5 c6 c7 c8
              obtain ⟨_, c0, c1, c2, c3, c4, c5, c6, c7, c8, _⟩ := X6.out
              clear hb
              cases few
              · have dn := DN.out (by simp) (by simp)
                have dp := dn.1
                go_wp2_with fail
                refine (L3.out _).mono ?_
                rw [dn.2]
                rintro e w7 ⟨rfl, hb⟩
                have B7 := Lib.hid (B6.out.trans (hb.mono B6.out.size))
                have X7 := Lib.hid (X6.out.below hb)
                try clear c0 c1 c2 c3 c4 c5 c6 c7 c8
                obtain ⟨_, c0, c1, c2, c3, c4, c5, c6, c7, c8, _⟩ := X7.out
                clear hb
                go_wp2
                go_ret
                exact ⟨rfl, B7.out⟩
              · go_wp2
                go_ret
                exact ⟨rfl, B6.out⟩
            · go_wp2_with fail
              refine (C5.out _).mono ?_
              rintro e w4 ⟨rfl, hb⟩
              have B4 := Lib.hid (B3.out.trans (hb.mono B3.out.size))
              have X4 := Lib.hid (X3.out.below hb)
              try clear c0 c1 c2 c3 c4 c5 c6 c7 c8
              obtain ⟨_, c0, c1, c2, c3, c4, c5, c6, c7, c8, _⟩ := X4.out
              clear hb
              cases few
              · have dn := DN.out (by simp) (by simp)
                have dp := dn.1
                go_wp2_with fail
                refine (L3.out _).mono ?_
                rw [dn.2]
                rintro e w5 ⟨rfl, hb⟩
                have B5 := Lib.hid (B4.out.trans (hb.mono B4.out.size))
                have X5 := Lib.hid (X4.out.below hb)
                try clear c0 c1 c2 c3 c4 c5 c6 c7 c8
                obtain ⟨_, c0, c1, c2, c3, c4, c5, c6, c7, c8, _⟩ := X5.out
                clear hb
                go_wp2
                go_ret
                exact ⟨rfl, B5.out⟩
              · go_wp2
                go_ret
                exact ⟨rfl, B4.out⟩
          · go_wp2_with fail
            refine (C5.out _).mono ?_
            rintro e w4 ⟨rfl, hb⟩
            have B4 := Lib.hid (B3.out.trans (hb.mono B3.out.size))
            have X4 := Lib.hid (X3.out.below hb)
            try clear c0 c1 c2 c3 c4 c5 c6 c7 c8
            obtain ⟨_, c0, c1, c2, c3, c4, c5, c6, c7, c8, _⟩ := X4.out
            clear hb
            cases few
            · have dn := DN.out (by simp) (by simp)
              have dp := dn.1
              go_wp2_with fail
              refine (L3.out _).mono ?_
              rw [dn.2]
              rintro e w5 ⟨rfl, hb⟩
              have B5 := Lib.hid (B4.out.trans (hb.mono B4.out.size))
              have X5 := Lib.hid (X4.out.below hb)
              try clear c0 c1 c2 c3 c4 c5 c6 c7 c8
              obtain ⟨_, c0, c1, c2, c3, c4, c5, c6, c7, c8, _⟩ := X5.out
              clear hb
              go_wp2
              go_ret
              exact ⟨rfl, B5.out⟩
            · go_wp2
              go_ret
              exact ⟨rfl, B4.out⟩
      · subst g0
        go_wp2_with fail
        refine (C5.out _).mono ?_
        rintro e w4 ⟨rfl, hb⟩
        have B4 := Lib.hid (B3.out.trans (hb.mono B3.out.size))
        have X4 := Lib.hid (X3.out.below hb)
        try clear c0 c1 c2 c3 c4 c5 c6 c7 c8
        obtain ⟨_, c0, c1, c2, c3, c4, c5, c6, c7, c8, _⟩ := X4.out
        clear hb
        go_wp2
        go_ret
        exact ⟨rfl, B4.out⟩
    · subst f0
      rcases G0.out with g0 | g0
      · subst g0
        go_wp2_with fail
        refine (C5.out _).mono ?_
        rintro e w4 ⟨rfl, hb⟩
        have B4 := Lib.hid (B3.out.trans (hb.mono B3.out.size))
        have X4 := Lib.hid (X3.out.below hb)
        try clear c0 c1 c2 c3 c4 c5 c6 c7 c8
        obtain ⟨_, c0, c1, c2, c3, c4, c5, c6, c7, c8, _⟩ := X4.out
        clear hb
        cases few
        · have dn := DN.out (by simp) (by simp)
          have dp := dn.1
          go_wp2_with fail
          refine (L3.out _).mono ?_
          rw [dn.2]
          rintro e w5 ⟨rfl, hb⟩
          have B5 := Lib.hid (B4.out.trans (hb.mono B4.out.size))
          have X5 := Lib.hid (X4.out.below hb)
          try clear c0 c1 c2 c3 c4 c5 c6 c7 c8
          obtain ⟨_, c0, c1, c2, c3, c4, c5, c6, c7, c8, _⟩ := X5.out
          clear hb
          go_wp2
          go_ret
          exact ⟨rfl, B5.out⟩
        · go_wp2
          go_ret
          exact ⟨rfl, B4.out⟩
      · subst g0
        go_wp2_with fail
        refine (C5.out _).mono ?_
        rintro e w4 ⟨rfl, hb⟩
        have B4 := Lib.hid (B3.out.trans (hb.mono B3.out.size))
        have X4 := Lib.hid (X3.out.below hb)
        try clear c0 c1 c2 c3 c4 c5 c6 c7 c8
        obtain ⟨_, c0, c1, c2, c3, c4, c5, c6, c7, c8, _⟩ := X4.out
        clear hb
        go_wp2
        go_ret
        exact ⟨rfl, B4.out⟩
end Go.Proofs.Ytemnhpkkmfgnaaa.confTurns
