/- What the document's own answers Check, Cap, Is, High and asked of layer 5 (package shelfmarkref05) return. They make only boxes of the config. -/
import Derived.Test.YtemnhpkkmfgnaaaRefB05
namespace Go.Proofs.Ytemnhpkkmfgnaaa
open Go.RowKit
set_option linter.unusedVariables false
set_option linter.unusedSimpArgs false

theorem is_power (c : Cf) (size : Int) : powerB size c.least c.top = c.isB size := by
  unfold powerB Cf.isB
  rw [Bool.and_comm]

set_option maxRecDepth 100000 in
set_option maxHeartbeats 2000000 in
theorem r5Check (c : Cf) (w : World) (hc : c.In) :
    Calls Try.prog 19 #[cfv c] w fun e w' => e = .returned (.int .i64 c.chkE) ∧ Below w.heap.size w w' := by
  have BX := Lib.hid (CBox.new w c 23)
  have B0 := Lib.hid ((Below.refl w.heap.size w).alloc (Nat.le_refl _) (.cells (cfCells c) 23))
  have CK := Lib.hid (fun W => r5May c W hc)
  have E := Lib.hid (show c.chkE = if c.mayB then 0 else 50 from rfl)
  clear hc
  unfold cfCells at BX B0
  obtain ⟨b, hb⟩ : ∃ b, b = c.mayB := ⟨_, rfl⟩
  rw [← hb] at CK E
  clear hb
  unfold cfv at CK ⊢
  cases b
  all_goals
    go_enter Try.func19, Try.ntmps19
    go_wp2_with fail
    refine (CK.out _).mono ?_
    rintro e w1 ⟨rfl, hb⟩
    go_wp2
    go_ret
    rw [E.out]
    exact ⟨rfl, B0.out.trans (hb.mono B0.out.size)⟩

set_option maxRecDepth 100000 in
set_option maxHeartbeats 2000000 in
theorem r5Cap (c : Cf) (n : Int) (w : World) (hc : c.In) :
    Calls Try.prog 17 #[cfv c, .int .i64 n] w fun e w' => e = .returned (.tuple #[.int .i64 (c.capV n), .int .i64 (c.capE n)]) ∧ Below w.heap.size w w' := by
  have BX := Lib.hid (CBox.new w c 23)
  have B0 := Lib.hid ((Below.refl w.heap.size w).alloc (Nat.le_refl _) (.cells (cfCells c) 23))
  have CK := Lib.hid (fun W => r5May c W hc)
  clear hc
  unfold cfCells at BX B0
  cases hm : c.mayB
  · have E := Lib.hid (show c.capV n = 0 ∧ c.capE n = 50 by unfold Cf.capV Cf.capE; rw [hm]; exact ⟨rfl, rfl⟩)
    rw [hm] at CK
    clear hm
    unfold cfv at CK ⊢
    go_enter Try.func17, Try.ntmps17
    go_wp2_with fail
    refine (CK.out _).mono ?_
    rintro e w1 ⟨rfl, hb⟩
    go_wp2
    go_ret2
    rw [E.out.1, E.out.2]
    exact ⟨rfl, B0.out.trans (hb.mono B0.out.size)⟩
  · have M := (Cf.may_iff c).1 hm
    rw [hm] at CK
    by_cases h1 : n < 0
    · have E := Lib.hid (show c.capV n = 0 ∧ c.capE n = 2 by unfold Cf.capV Cf.capE; rw [hm, if_pos rfl, if_pos rfl, if_pos h1, if_pos h1]; exact ⟨rfl, rfl⟩)
      clear hm M
      unfold cfv at CK ⊢
      go_enter Try.func17, Try.ntmps17
      go_wp2_with fail
      refine (CK.out _).mono ?_
      rintro e w1 ⟨rfl, hb⟩
      go_wp2
      go_ret2
      rw [E.out.1, E.out.2]
      exact ⟨rfl, B0.out.trans (hb.mono B0.out.size)⟩
    · by_cases h2 : c.most < n
      · have E := Lib.hid (show c.capV n = 0 ∧ c.capE n = 4 by unfold Cf.capV Cf.capE; rw [hm, if_pos rfl, if_pos rfl, if_neg h1, if_neg h1, if_pos h2, if_pos h2]; exact ⟨rfl, rfl⟩)
        clear hm M
        unfold cfv at CK ⊢
        go_enter Try.func17, Try.ntmps17
        go_wp2_with fail
        refine (CK.out _).mono ?_
        rintro e w1 ⟨rfl, hb⟩
        have c1 := (BX.out.below hb).c1
        go_wp2
        go_ret2
        rw [E.out.1, E.out.2]
        exact ⟨rfl, B0.out.trans (hb.mono B0.out.size)⟩
      · have E := Lib.hid (show c.capV n = c.takes n ∧ c.capE n = 0 by unfold Cf.capV Cf.capE; rw [hm, if_pos rfl, if_pos rfl, if_neg h1, if_neg h1, if_neg h2, if_neg h2]; exact ⟨rfl, rfl⟩)
        have CC := Lib.hid (fun W => r5Takes c n W M.sizes M.dens (by omega) (by have := M.sizes.most2; omega))
        clear hm M
        unfold cfv at CK CC ⊢
        go_enter Try.func17, Try.ntmps17
        go_wp2_with fail
        refine (CK.out _).mono ?_
        rintro e w1 ⟨rfl, hb⟩
        have B1 := Lib.hid (B0.out.trans (hb.mono B0.out.size))
        obtain ⟨_, c0, c1, c2, c3, c4, c5, c6, c7, c8, _⟩ := BX.out.below hb
        clear hb
        go_wp2_with fail
        refine (CC.out _).mono ?_
        rintro e w2 ⟨rfl, hb⟩
        go_wp2
        go_ret2
        rw [E.out.1, E.out.2]
        exact ⟨rfl, B1.out.trans (hb.mono B1.out.size)⟩

set_option maxRecDepth 100000 in
set_option maxHeartbeats 2000000 in
theorem r5Is (c : Cf) (size : Int) (w : World) (hm : c.May) (hsz : size ≤ 9223372036854775807) :
    Calls Try.prog 38 #[cfv c, .int .i64 size] w fun e w' => e = .returned (.bool (c.isB size)) ∧ Below w.heap.size w w' := by
  have BX := Lib.hid (CBox.new w c 23)
  have B0 := Lib.hid ((Below.refl w.heap.size w).alloc (Nat.le_refl _) (.cells (cfCells c) 23))
  have CT := Lib.hid (fun W => r5Takes c c.most W hm.sizes hm.dens (by have := hm.sizes.most1; omega) hm.sizes.most2)
  have HT := Lib.hid (show c.takes c.most = c.top from rfl)
  rw [HT.out] at CT
  have CP := Lib.hid (fun W => r5power size c.least c.top W hsz)
  have E := Lib.hid (is_power c size)
  clear hm HT
  unfold cfCells at BX B0
  unfold cfv at CT ⊢
  go_enter Try.func38, Try.ntmps38
  go_upto_region 1 with (fail)
  obtain ⟨W5, hW5⟩ : ∃ W5, W5 = w.alloc (.cells #[.int .u8 c.tag, .int .i64 c.most, .int .i64 c.seg, .int .i64 c.least, .int .i64 c.den, .int .i64 c.ll, .int .i64 c.rl, .int .i64 c.rh, .int .i64 c.lh] 23) := ⟨_, rfl⟩
  rw [← hW5] at BX B0 ⊢
  clear hW5
  have B1 := Lib.hid B0.out.drew
  have X0 := Lib.hid (BX.out.below ((Below.refl _ _).drew))
  go_region_held3 (fun w' => w'.cell? ⟨w.heap.size, 0, none⟩ = some (.int .u8 c.tag) ∧ w'.cell? ⟨w.heap.size, 1, none⟩ = some (.int .i64 c.most) ∧ w'.cell? ⟨w.heap.size, 2, none⟩ = some (.int .i64 c.seg) ∧ w'.cell? ⟨w.heap.size, 3, none⟩ = some (.int .i64 c.least) ∧ w'.cell? ⟨w.heap.size, 4, none⟩ = some (.int .i64 c.den) ∧ w'.cell? ⟨w.heap.size, 5, none⟩ = some (.int .i64 c.ll) ∧ w'.cell? ⟨w.heap.size, 6, none⟩ = some (.int .i64 c.rl) ∧ w'.cell? ⟨w.heap.size, 7, none⟩ = some (.int .i64 c.rh) ∧ w'.cell? ⟨w.heap.size, 8, none⟩ = some (.int .i64 c.lh))
    (first | (with_reducible exact X0.out.reads) | (with_reducible exact X1.out.reads))
    (first | (go_at_call 37; (with_reducible refine (CT.out _).mono ?_); rintro e w1 ⟨rfl, hb1⟩; have X1 := Lib.hid (X0.out.below hb1); have B2 := Lib.hid (B1.out.trans (hb1.mono B1.out.size)); clear hb1) | (go_at_call 47; (with_reducible refine (CP.out _).mono ?_); rintro e w2 ⟨rfl, rfl⟩))
  go_wp2
  go_ret
  rw [E.out]
  exact ⟨rfl, B2.out⟩

set_option maxRecDepth 100000 in
set_option maxHeartbeats 2000000 in
theorem r5High (c : Cf) (size : Int) (w : World) (hc : c.In) (hsz : size ≤ 9223372036854775807) :
    Calls Try.prog 18 #[cfv c, .int .i64 size] w fun e w' => e = .returned (.tuple #[.int .i64 (c.highV size), .int .i64 (c.highE size)]) ∧ Below w.heap.size w w' := by
  have BX := Lib.hid (CBox.new w c 23)
  have B0 := Lib.hid ((Below.refl w.heap.size w).alloc (Nat.le_refl _) (.cells (cfCells c) 23))
  have CK := Lib.hid (fun W => r5May c W hc)
  clear hc
  unfold cfCells at BX B0
  cases hm : c.mayB
  · have E := Lib.hid (Cf.high_no (size := size) hm)
    rw [hm] at CK
    clear hm
    unfold cfv at CK ⊢
    go_enter Try.func18, Try.ntmps18
    go_wp2_with fail
    refine (CK.out _).mono ?_
    rintro e w1 ⟨rfl, hb⟩
    go_wp2
    go_ret2
    rw [E.out.1, E.out.2]
    exact ⟨rfl, B0.out.trans (hb.mono B0.out.size)⟩
  · have M := (Cf.may_iff c).1 hm
    rw [hm] at CK
    have CI := Lib.hid (fun W => r5Is c size W M hsz)
    cases hi : c.isB size
    · have E := Lib.hid (Cf.high_not (size := size) hm hi)
      rw [hi] at CI
      clear hm M hi
      unfold cfv at CK CI ⊢
      go_enter Try.func18, Try.ntmps18
      go_wp2_with fail
      refine (CK.out _).mono ?_
      rintro e w1 ⟨rfl, hb⟩
      have B1 := Lib.hid (B0.out.trans (hb.mono B0.out.size))
      obtain ⟨_, c0, c1, c2, c3, c4, c5, c6, c7, c8, _⟩ := BX.out.below hb
      clear hb
      go_wp2_with fail
      refine (CI.out _).mono ?_
      rintro e w2 ⟨rfl, hb⟩
      go_wp2
      go_ret2
      rw [E.out.1, E.out.2]
      exact ⟨rfl, B1.out.trans (hb.mono B1.out.size)⟩
    · have E := Lib.hid (Cf.high_yes (size := size) hm hi)
      have SB := M.size_bd ((Cf.is_iff c size).1 hi)
      have CH := Lib.hid (fun W => r5Height c size W M.sizes.seg1 SB.1 (by omega))
      rw [hi] at CI
      clear hm M hi SB
      unfold cfv at CK CI CH ⊢
      go_enter Try.func18, Try.ntmps18
      go_wp2_with fail
      refine (CK.out _).mono ?_
      rintro e w1 ⟨rfl, hb⟩
      have B1 := Lib.hid (B0.out.trans (hb.mono B0.out.size))
      have X1 := Lib.hid (BX.out.below hb)
      obtain ⟨_, c0, c1, c2, c3, c4, c5, c6, c7, c8, _⟩ := X1.out
      clear hb
      go_wp2_with fail
      refine (CI.out _).mono ?_
      rintro e w2 ⟨rfl, hb⟩
      have B2 := Lib.hid (B1.out.trans (hb.mono B1.out.size))
      clear c0 c1 c2 c3 c4 c5 c6 c7 c8
      obtain ⟨_, c0, c1, c2, c3, c4, c5, c6, c7, c8, _⟩ := X1.out.below hb
      clear hb
      go_wp2_with fail
      refine (CH.out _).mono ?_
      rintro e w3 ⟨rfl, hb⟩
      go_wp2
      go_ret2
      rw [E.out.1, E.out.2]
      exact ⟨rfl, B2.out.trans (hb.mono B2.out.size)⟩

set_option maxRecDepth 100000 in
set_option maxHeartbeats 2000000 in
theorem r5asked (c : Cf) (size h n : Int) (w : World) (hc : c.In) (hsz : size ≤ 9223372036854775807) :
    Calls Try.prog 40 #[cfv c, .int .i64 size, .int .i64 h, .int .i64 n] w fun e w' => e = .returned (.int .i64 (c.askE size h n)) ∧ Below w.heap.size w w' := by
  have BX := Lib.hid (CBox.new w c 23)
  have B0 := Lib.hid ((Below.refl w.heap.size w).alloc (Nat.le_refl _) (.cells (cfCells c) 23))
  have CK := Lib.hid (fun W => r5High c size W hc hsz)
  clear hc
  unfold cfCells at BX B0
  by_cases hbad : c.mayB = false ∨ c.isB size = false
  · have E := Lib.hid (Cf.ask_bad h n hbad)
    have k1 : (c.highE size == 0) = false := by have := E.out.2.2.1; simpa using this
    rw [E.out.2.2.2] at CK
    clear hbad
    obtain ⟨x, hx⟩ : ∃ x, x = c.highE size := ⟨_, rfl⟩
    rw [← hx] at k1 CK E
    clear hx
    unfold cfv at CK ⊢
    go_enter Try.func40, Try.ntmps40
    go_wp2_with fail
    refine (CK.out _).mono ?_
    rintro e w1 ⟨rfl, hb⟩
    go_wp2
    go_ret
    rw [E.out.1]
    exact ⟨rfl, B0.out.trans (hb.mono B0.out.size)⟩
  · have hm : c.mayB = true := by cases hq : c.mayB <;> simp [hq] at hbad ⊢
    have hi : c.isB size = true := by cases hq : c.isB size <;> simp [hq] at hbad ⊢
    have M := (Cf.may_iff c).1 hm
    have SB := M.size_bd ((Cf.is_iff c size).1 hi)
    have HB := c.high_bd size SB.1 M.sizes.seg1 SB.2
    rw [(Cf.high_yes hm hi).1, (Cf.high_yes hm hi).2] at CK
    have E0 := Lib.hid (Cf.ask_in (h := h) (n := n) hm hi).1
    have HIN := Lib.hid (show c.inB size h n = (decide (0 ≤ h) && decide (h ≤ c.high size) && (decide (0 ≤ n) && decide (n ≤ c.wide h))) from rfl)
    have s1 := M.sizes.seg1
    have s2 := M.sizes.seg2
    obtain ⟨hb0, hb1⟩ := HB
    clear hbad hm hi M SB
    obtain ⟨H, hH⟩ : ∃ H, H = c.high size := ⟨_, rfl⟩
    rw [← hH] at CK HIN hb0 hb1
    clear hH
    by_cases g1 : h < 0
    · have E := Lib.hid (show c.askE size h n = 2 by rw [E0.out, HIN.out, decide_eq_false (show ¬ 0 ≤ h by omega)]; rfl)
      unfold cfv at CK ⊢
      go_enter Try.func40, Try.ntmps40
      go_wp2_with fail
      refine (CK.out _).mono ?_
      rintro e w1 ⟨rfl, hb⟩
      go_wp2
      go_ret
      rw [E.out]
      exact ⟨rfl, B0.out.trans (hb.mono B0.out.size)⟩
    · by_cases g2 : H < h
      · have E := Lib.hid (show c.askE size h n = 2 by rw [E0.out, HIN.out, decide_eq_false (show ¬ h ≤ H by omega), Bool.and_false]; rfl)
        unfold cfv at CK ⊢
        go_enter Try.func40, Try.ntmps40
        go_wp2_with fail
        refine (CK.out _).mono ?_
        rintro e w1 ⟨rfl, hb⟩
        go_wp2
        go_ret
        rw [E.out]
        exact ⟨rfl, B0.out.trans (hb.mono B0.out.size)⟩
      · by_cases g3 : n < 0
        · have E := Lib.hid (show c.askE size h n = 2 by rw [E0.out, HIN.out, decide_eq_false (show ¬ 0 ≤ n by omega), Bool.false_and, Bool.and_false]; rfl)
          unfold cfv at CK ⊢
          go_enter Try.func40, Try.ntmps40
          go_wp2_with fail
          refine (CK.out _).mono ?_
          rintro e w1 ⟨rfl, hb⟩
          go_wp2
          go_ret
          rw [E.out]
          exact ⟨rfl, B0.out.trans (hb.mono B0.out.size)⟩
        · have E := Lib.hid (show c.askE size h n = if n ≤ c.wide h then 0 else 2 by
            rw [E0.out, HIN.out, decide_eq_true (show 0 ≤ h by omega), decide_eq_true (show h ≤ H by omega), decide_eq_true (show 0 ≤ n by omega)]
            simp)
          have CS := Lib.hid (fun W => r5Wide c h W s1 s2 (by omega) (by omega))
          obtain ⟨X, hX⟩ : ∃ X, X = c.wide h := ⟨_, rfl⟩
          rw [← hX] at E CS
          clear hX HIN E0
          by_cases g4 : X < n
          all_goals
            unfold cfv at CK CS ⊢
            go_enter Try.func40, Try.ntmps40
            go_wp2_with fail
            refine (CK.out _).mono ?_
            rintro e w1 ⟨rfl, hb⟩
            have B1 := Lib.hid (B0.out.trans (hb.mono B0.out.size))
            obtain ⟨_, c0, c1, c2, c3, c4, c5, c6, c7, c8, _⟩ := BX.out.below hb
            clear hb
            go_wp2_with fail
            refine (CS.out _).mono ?_
            rintro e w2 ⟨rfl, hb⟩
            go_wp2
            go_ret
            first | rw [E.out, if_pos (by omega)] | rw [E.out, if_neg (by omega)]
            exact ⟨rfl, B1.out.trans (hb.mono B1.out.size)⟩
end Go.Proofs.Ytemnhpkkmfgnaaa
