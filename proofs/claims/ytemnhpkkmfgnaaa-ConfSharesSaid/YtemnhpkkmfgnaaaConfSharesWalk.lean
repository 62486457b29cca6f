/- The law ConfShares, walked over the contracts: it answers true. -/
import Derived.Test.YtemnhpkkmfgnaaaLaw05
import Derived.Test.YtemnhpkkmfgnaaaPlain5b
namespace Go.Proofs.Ytemnhpkkmfgnaaa.confShares
open Go.RowKit
set_option linter.unusedVariables false
set_option linter.unusedSimpArgs false

set_option maxRecDepth 100000 in
set_option maxHeartbeats 8000000 in
theorem walk (c : Cf) (size g h n : Int) (w : World) (hc : c.In) (hsz : size ≤ 9223372036854775807) :
    Calls Try.prog 6 #[cfv c, .int .i64 size, .agg #[.int .i64 g, .int .i64 h], .int .i64 n] w fun e w' => e = .returned (.bool true) ∧ Below w.heap.size w w' := by
  have BX := Lib.hid (fun o => (CBox.new w c 23).below ((Below.refl _ _).alloc (Nat.le_refl _) o))
  have BB := Lib.hid (fun o o' => ((Below.refl w.heap.size w).alloc (Nat.le_refl _) o).alloc (by simp) o')
  have C1 := Lib.hid (fun W => kFull c size g n W hc hsz)
  have C2 := Lib.hid (fun W => kSparse c size g n W hc hsz)
  have C3 := Lib.hid (fun W m => kFull c size h m W hc hsz)
  have C4 := Lib.hid (fun W m => kSparse c size h m W hc hsz)
  clear hc
  unfold cfCells at BX
  cases hk : c.okB size g n
  · have E := Lib.hid (Cf.ok_no hk)
    have k1 := E.out.1
    have k2 : (c.askE size g n == 0) = false := by simpa using k1
    rw [E.out.2.2.1] at C1
    rw [E.out.2.2.2] at C2
    clear hk E
    obtain ⟨x, hx⟩ : ∃ x, x = c.askE size g n := ⟨_, rfl⟩
    rw [← hx] at k1 k2 C1 C2
    clear hx
    unfold cfv at C1 C2 ⊢
    go_enter Try.func6, Try.ntmps6
    go_wp2_with fail
    refine (lAlive _).mono ?_
    rintro e w0 ⟨rfl, hb⟩
    have B0 := Lib.hid ((BB.out _ _).trans (hb.mono (by simp; omega)))
    have X0 := Lib.hid ((BX.out _).below hb)
    have a0 : w0.cell? ⟨w.heap.size + 1, 0, none⟩ = some (.int .i64 g) := (hb.cell (p := ⟨w.heap.size + 1, 0, none⟩) (by simp)).trans (by simp)
    have a1 : w0.cell? ⟨w.heap.size + 1, 1, none⟩ = some (.int .i64 h) := (hb.cell (p := ⟨w.heap.size + 1, 1, none⟩) (by simp)).trans (by simp)
    clear hb
    go_upto_region 2 with (fail)
    go_quiet (fail)
    clear a0 a1
    obtain ⟨W1, hW1⟩ : ∃ W1, W1 = w0.drewN nq := ⟨_, rfl⟩
    rw [← hW1]
    replace B0 := Lib.hid (show Below w.heap.size w W1 by rw [hW1]; exact below_drewN B0.out nq)
    replace X0 := Lib.hid (show CBox W1 w.heap.size c by rw [hW1]; exact X0.out.below (below_drewN (Below.refl _ _) nq))
    clear hW1
    obtain ⟨_, c0, c1, c2, c3, c4, c5, c6, c7, c8, _⟩ := X0.out
    go_wp2_with fail
    refine (C1.out _).mono ?_
    rintro e w1 ⟨rfl, hb⟩
    have B1 := Lib.hid (B0.out.trans (hb.mono B0.out.size))
    have X1 := Lib.hid (X0.out.below hb)
    try clear c0 c1 c2 c3 c4 c5 c6 c7 c8
    obtain ⟨_, c0, c1, c2, c3, c4, c5, c6, c7, c8, _⟩ := X1.out
    clear hb
    go_wp2_with fail
    refine (C2.out _).mono ?_
    rintro e w2 ⟨rfl, hb⟩
    have B2 := Lib.hid (B1.out.trans (hb.mono B1.out.size))
    have X2 := Lib.hid (X1.out.below hb)
    try clear c0 c1 c2 c3 c4 c5 c6 c7 c8
    obtain ⟨_, c0, c1, c2, c3, c4, c5, c6, c7, c8, _⟩ := X2.out
    clear hb
    go_wp2
    go_ret
    exact ⟨rfl, B2.out⟩
  · have K := (Cf.ok_iff c size g n).1 hk
    rw [(Cf.ok_ask hk).1] at C1 C2
    have g0 := K.h0
    have g14 : g ≤ 14 := by have := K.h1; have := K.bd.hi1; omega
    have n0 := K.n0
    have n1 : n ≤ 65535 := by have := K.n1; have := K.bd.w1; have := K.bd.s1; omega
    by_cases h0 : h < 0 ∨ g < h
    · obtain ⟨p, hp⟩ : ∃ p, p = c.fullV size g n := ⟨_, rfl⟩
      obtain ⟨q, hq⟩ : ∃ q, q = c.sparseV size g n := ⟨_, rfl⟩
      rw [← hp] at C1
      rw [← hq] at C2
      clear K hk hp hq
      unfold cfv at C1 C2 ⊢
      rcases h0 with h0 | h0
      · go_enter Try.func6, Try.ntmps6
        go_wp2_with fail
        refine (lAlive _).mono ?_
        rintro e w0 ⟨rfl, hb⟩
        have B0 := Lib.hid ((BB.out _ _).trans (hb.mono (by simp; omega)))
        have X0 := Lib.hid ((BX.out _).below hb)
        have a0 : w0.cell? ⟨w.heap.size + 1, 0, none⟩ = some (.int .i64 g) := (hb.cell (p := ⟨w.heap.size + 1, 0, none⟩) (by simp)).trans (by simp)
        have a1 : w0.cell? ⟨w.heap.size + 1, 1, none⟩ = some (.int .i64 h) := (hb.cell (p := ⟨w.heap.size + 1, 1, none⟩) (by simp)).trans (by simp)
        clear hb
        go_upto_region 2 with (fail)
        go_quiet (fail)
        clear a0 a1
        obtain ⟨W1, hW1⟩ : ∃ W1, W1 = w0.drewN nq := ⟨_, rfl⟩
        rw [← hW1]
        replace B0 := Lib.hid (show Below w.heap.size w W1 by rw [hW1]; exact below_drewN B0.out nq)
        replace X0 := Lib.hid (show CBox W1 w.heap.size c by rw [hW1]; exact X0.out.below (below_drewN (Below.refl _ _) nq))
        clear hW1
        obtain ⟨_, c0, c1, c2, c3, c4, c5, c6, c7, c8, _⟩ := X0.out
        go_wp2_with fail
        refine (C1.out _).mono ?_
        rintro e w1 ⟨rfl, hb⟩
        have B1 := Lib.hid (B0.out.trans (hb.mono B0.out.size))
        have X1 := Lib.hid (X0.out.below hb)
        try clear c0 c1 c2 c3 c4 c5 c6 c7 c8
        obtain ⟨_, c0, c1, c2, c3, c4, c5, c6, c7, c8, _⟩ := X1.out
        clear hb
        go_wp2_with fail
        refine (C2.out _).mono ?_
        rintro e w2 ⟨rfl, hb⟩
        have B2 := Lib.hid (B1.out.trans (hb.mono B1.out.size))
        have X2 := Lib.hid (X1.out.below hb)
        try clear c0 c1 c2 c3 c4 c5 c6 c7 c8
        obtain ⟨_, c0, c1, c2, c3, c4, c5, c6, c7, c8, _⟩ := X2.out
        clear hb
        go_wp2
        go_ret
        exact ⟨rfl, B2.out⟩
      · go_enter Try.func6, Try.ntmps6
        go_wp2_with fail
        refine (lAlive _).mono ?_
        rintro e w0 ⟨rfl, hb⟩
        have B0 := Lib.hid ((BB.out _ _).trans (hb.mono (by simp; omega)))
        have X0 := Lib.hid ((BX.out _).below hb)
        have a0 : w0.cell? ⟨w.heap.size + 1, 0, none⟩ = some (.int .i64 g) := (hb.cell (p := ⟨w.heap.size + 1, 0, none⟩) (by simp)).trans (by simp)
        have a1 : w0.cell? ⟨w.heap.size + 1, 1, none⟩ = some (.int .i64 h) := (hb.cell (p := ⟨w.heap.size + 1, 1, none⟩) (by simp)).trans (by simp)
        clear hb
        go_upto_region 2 with (fail)
        go_quiet (fail)
        clear a0 a1
        obtain ⟨W1, hW1⟩ : ∃ W1, W1 = w0.drewN nq := ⟨_, rfl⟩
        rw [← hW1]
        replace B0 := Lib.hid (show Below w.heap.size w W1 by rw [hW1]; exact below_drewN B0.out nq)
        replace X0 := Lib.hid (show CBox W1 w.heap.size c by rw [hW1]; exact X0.out.below (below_drewN (Below.refl _ _) nq))
        clear hW1
        obtain ⟨_, c0, c1, c2, c3, c4, c5, c6, c7, c8, _⟩ := X0.out
        go_wp2_with fail
        refine (C1.out _).mono ?_
        rintro e w1 ⟨rfl, hb⟩
        have B1 := Lib.hid (B0.out.trans (hb.mono B0.out.size))
        have X1 := Lib.hid (X0.out.below hb)
        try clear c0 c1 c2 c3 c4 c5 c6 c7 c8
        obtain ⟨_, c0, c1, c2, c3, c4, c5, c6, c7, c8, _⟩ := X1.out
        clear hb
        go_wp2_with fail
        refine (C2.out _).mono ?_
        rintro e w2 ⟨rfl, hb⟩
        have B2 := Lib.hid (B1.out.trans (hb.mono B1.out.size))
        have X2 := Lib.hid (X1.out.below hb)
        try clear c0 c1 c2 c3 c4 c5 c6 c7 c8
        obtain ⟨_, c0, c1, c2, c3, c4, c5, c6, c7, c8, _⟩ := X2.out
        clear hb
        by_cases h00 : h < 0
        all_goals
          go_wp2
          go_ret
          exact ⟨rfl, B2.out⟩
    · have S := Lib.hid (Cf.shares K (h := h) (by omega) (by omega))
      have P1 := Fr.pow_pos (g - h).toNat
      have P2 := Cf.pow_le20 (g - h).toNat (by omega)
      obtain ⟨P, hP⟩ : ∃ P : Int, P = 2 ^ (g - h).toNat := ⟨_, rfl⟩
      rw [← hP] at S P1 P2
      have z0 : wrap64 (2 ^ (g - h).toNat) = P := by rw [← hP]; unfold wrap64; omega
      clear hP
      obtain ⟨M, hM⟩ : ∃ M, M = (n + P - 1) / P := ⟨_, rfl⟩
      obtain ⟨Q, hQ⟩ : ∃ Q, Q = n / P := ⟨_, rfl⟩
      rw [← hM, ← hQ] at S
      have M0 := S.out.1.n0
      have M1 : M ≤ 65535 := by have := S.out.1.n1; have := S.out.1.bd.w1; have := S.out.1.bd.s1; omega
      have Q0 := S.out.2.1.n0
      have Q1 : Q ≤ 65535 := by have := S.out.2.1.n1; have := S.out.2.1.bd.w1; have := S.out.2.1.bd.s1; omega
      have D1 := Lib.hid (fun W => C3.out W M)
      have D2 := Lib.hid (fun W => C4.out W Q)
      rw [(Cf.ok_ask ((Cf.ok_iff _ _ _ _).2 S.out.1)).1] at D1
      rw [(Cf.ok_ask ((Cf.ok_iff _ _ _ _).2 S.out.2.1)).1] at D2
      have HU := Lib.hid S.out.2.2.1
      have HD := Lib.hid S.out.2.2.2
      clear S K hk C3 C4
      obtain ⟨many, q1⟩ : ∃ p, p = c.fullV size g n := ⟨_, rfl⟩
      obtain ⟨few, q2⟩ : ∃ q, q = c.sparseV size g n := ⟨_, rfl⟩
      obtain ⟨up, q3⟩ : ∃ p, p = c.fullV size h M := ⟨_, rfl⟩
      obtain ⟨down, q4⟩ : ∃ q, q = c.sparseV size h Q := ⟨_, rfl⟩
      rw [← q1] at C1 HU
      rw [← q2] at C2 HD
      rw [← q3] at D1 HU
      rw [← q4] at D2 HD
      clear q1 q2 q3 q4
      have z1 : IntKind.i64.wrap (n + P) = n + P := IntWalk.i64_in _ (by omega)
      have z2 : IntKind.i64.wrap (n + P - 1) = n + P - 1 := IntWalk.i64_in _ (by omega)
      have z3 : (n + P - 1).tdiv P = M := by rw [Int.tdiv_eq_ediv_of_nonneg (by omega)]; exact hM.symm
      have z4 : IntKind.i64.wrap M = M := IntWalk.i64_in _ (by omega)
      have z5 : n.tdiv P = Q := by rw [Int.tdiv_eq_ediv_of_nonneg (by omega)]; exact hQ.symm
      have z6 : IntKind.i64.wrap Q = Q := IntWalk.i64_in _ (by omega)
      have k0 : ¬ P = 0 := by omega
      have h00 : ¬ h < 0 := by omega
      have h01 : ¬ g < h := by omega
      clear hM hQ
      unfold cfv at C1 C2 D1 D2 ⊢
      go_enter Try.func6, Try.ntmps6
      go_wp2_with fail
      refine (lAlive _).mono ?_
      rintro e w0 ⟨rfl, hb⟩
      have B0 := Lib.hid ((BB.out _ _).trans (hb.mono (by simp; omega)))
      have X0 := Lib.hid ((BX.out _).below hb)
      have a0 : w0.cell? ⟨w.heap.size + 1, 0, none⟩ = some (.int .i64 g) := (hb.cell (p := ⟨w.heap.size + 1, 0, none⟩) (by simp)).trans (by simp)
      have a1 : w0.cell? ⟨w.heap.size + 1, 1, none⟩ = some (.int .i64 h) := (hb.cell (p := ⟨w.heap.size + 1, 1, none⟩) (by simp)).trans (by simp)
      clear hb
      go_upto_region 2 with (fail)
      go_quiet (fail)
      clear a0 a1
      obtain ⟨W1, hW1⟩ : ∃ W1, W1 = w0.drewN nq := ⟨_, rfl⟩
      rw [← hW1]
      replace B0 := Lib.hid (show Below w.heap.size w W1 by rw [hW1]; exact below_drewN B0.out nq)
      replace X0 := Lib.hid (show CBox W1 w.heap.size c by rw [hW1]; exact X0.out.below (below_drewN (Below.refl _ _) nq))
      clear hW1
      obtain ⟨_, c0, c1, c2, c3, c4, c5, c6, c7, c8, _⟩ := X0.out
      go_wp2_with fail
      refine (C1.out _).mono ?_
      rintro e w1 ⟨rfl, hb⟩
      have B1 := Lib.hid (B0.out.trans (hb.mono B0.out.size))
      have X1 := Lib.hid (X0.out.below hb)
      try clear c0 c1 c2 c3 c4 c5 c6 c7 c8
      obtain ⟨_, c0, c1, c2, c3, c4, c5, c6, c7, c8, _⟩ := X1.out
      clear hb
      go_wp2_with fail
      refine (C2.out _).mono ?_
      rintro e w2 ⟨rfl, hb⟩
      have B2 := Lib.hid (B1.out.trans (hb.mono B1.out.size))
      have X2 := Lib.hid (X1.out.below hb)
      try clear c0 c1 c2 c3 c4 c5 c6 c7 c8
      obtain ⟨_, c0, c1, c2, c3, c4, c5, c6, c7, c8, _⟩ := X2.out
      clear hb
      go_upto_region 8 with (fail)
      have BD2 := Lib.hid B2.out.drew
      have XD2 := Lib.hid (X2.out.below ((Below.refl _ _).drew))
      try clear c0 c1 c2 c3 c4 c5 c6 c7 c8
      go_region_held3 (fun w' => w'.cell? ⟨w.heap.size, 0, none⟩ = some (.int .u8 c.tag) ∧ w'.cell? ⟨w.heap.size, 1, none⟩ = some (.int .i64 c.most) ∧ w'.cell? ⟨w.heap.size, 2, none⟩ = some (.int .i64 c.seg) ∧ w'.cell? ⟨w.heap.size, 3, none⟩ = some (.int .i64 c.least) ∧ w'.cell? ⟨w.heap.size, 4, none⟩ = some (.int .i64 c.den) ∧ w'.cell? ⟨w.heap.size, 5, none⟩ = some (.int .i64 c.ll) ∧ w'.cell? ⟨w.heap.size, 6, none⟩ = some (.int .i64 c.rl) ∧ w'.cell? ⟨w.heap.size, 7, none⟩ = some (.int .i64 c.rh) ∧ w'.cell? ⟨w.heap.size, 8, none⟩ = some (.int .i64 c.lh))
        (first | (with_reducible exact XD2.out.reads) | (with_reducible exact X3.out.reads))
        (first | (go_at_call 12; (with_reducible refine (D1.out _).mono ?_); rintro e w3 ⟨rfl, hb3⟩; have X3 := Lib.hid (XD2.out.below hb3); have B3 := Lib.hid (BD2.out.trans (hb3.mono BD2.out.size)); clear hb3))
      go_upto_region 9 with (fail)
      have BD3 := Lib.hid B3.out.drew
      have XD3 := Lib.hid (X3.out.below ((Below.refl _ _).drew))
      try clear c0 c1 c2 c3 c4 c5 c6 c7 c8
      go_region_held3 (fun w' => w'.cell? ⟨w.heap.size, 0, none⟩ = some (.int .u8 c.tag) ∧ w'.cell? ⟨w.heap.size, 1, none⟩ = some (.int .i64 c.most) ∧ w'.cell? ⟨w.heap.size, 2, none⟩ = some (.int .i64 c.seg) ∧ w'.cell? ⟨w.heap.size, 3, none⟩ = some (.int .i64 c.least) ∧ w'.cell? ⟨w.heap.size, 4, none⟩ = some (.int .i64 c.den) ∧ w'.cell? ⟨w.heap.size, 5, none⟩ = some (.int .i64 c.ll) ∧ w'.cell? ⟨w.heap.size, 6, none⟩ = some (.int .i64 c.rl) ∧ w'.cell? ⟨w.heap.size, 7, none⟩ = some (.int .i64 c.rh) ∧ w'.cell? ⟨w.heap.size, 8, none⟩ = some (.int .i64 c.lh))
        (first | (with_reducible exact XD3.out.reads) | (with_reducible exact X4.out.reads))
        (first | (go_at_call 21; (with_reducible refine (D2.out _).mono ?_); rintro e w4 ⟨rfl, hb4⟩; have X4 := Lib.hid (XD3.out.below hb4); have B4 := Lib.hid (BD3.out.trans (hb4.mono BD3.out.size)); clear hb4))
      go_upto_region 10 with (fail)
      clear z0 z1 z2 z3 z4 z5 z6
      cases many <;> cases up <;> cases few <;> cases down
      all_goals first
        | exact absurd (HU.out rfl) Bool.false_ne_true
        | exact absurd (HD.out rfl) Bool.false_ne_true
        | (go_wp2; go_ret; exact ⟨rfl, B4.out⟩)
end Go.Proofs.Ytemnhpkkmfgnaaa.confShares
