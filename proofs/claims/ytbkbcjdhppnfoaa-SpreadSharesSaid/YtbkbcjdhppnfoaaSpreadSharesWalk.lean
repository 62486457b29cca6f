/- The law SpreadShares, walked over the contracts: it answers true. -/
import Derived.Test.YtbkbcjdhppnfoaaLaw07
namespace Go.Proofs.Ytbkbcjdhppnfoaa.spreadShares
open Go.RowKit
set_option linter.unusedVariables false
set_option linter.unusedSimpArgs false

def SharesJ (n p f t : Int) (K : Nat) (w : World) (y z : Value) (wr : World) : Prop := ∃ j : Nat, j ≤ K + 1 ∧ y = .int .i64 (Sp.cd ((j : Int) * n) p) ∧ z = .int .i64 (j : Int) ∧ Below w.heap.size w wr ∧ PBox wr w.heap.size (f, t)
set_option maxRecDepth 100000 in
set_option maxHeartbeats 4000000 in
theorem walk (n f t p k : Int) (w : World) (hn : -9223372036854775808 ≤ n ∧ n ≤ 9223372036854775807) (hf : -9223372036854775808 ≤ f ∧ f ≤ 9223372036854775807) (ht : -9223372036854775808 ≤ t ∧ t ≤ 9223372036854775807) (hp : -9223372036854775808 ≤ p ∧ p ≤ 9223372036854775807) (hk : -9223372036854775808 ≤ k ∧ k ≤ 9223372036854775807) :
    Calls Try.prog 7 #[.int .i64 n, .agg #[.int .i64 f, .int .i64 t], .int .i64 p, .int .i64 k] w fun e w' => e = .returned (.bool true) ∧ Below w.heap.size w w' := by
  have X0 := Lib.hid (PBox.new w (f, t) 35)
  have B0 := Lib.hid ((Below.refl w.heap.size w).alloc (Nat.le_refl _) (.cells #[.int .i64 f, .int .i64 t] 35))
  have CL := Lib.hid (fun W => lAlive W)
  have C1 := Lib.hid (fun W => sShare n f t p k W hn hf ht hp hk)
  by_cases hbig : 5000 < n ∧ n ≤ 65536
  · obtain ⟨k1, k2⟩ := hbig
    go_enter Try.func7, Try.ntmps7
    go_wp2_with fail
    refine (CL.out _).mono ?_
    rintro e w0 ⟨rfl, hb⟩
    replace B0 := Lib.hid (B0.out.trans (hb.mono (by simp)))
    replace X0 := Lib.hid (X0.out.below hb)
    clear hb
    go_wp2
    go_ret
    exact ⟨rfl, B0.out⟩
  · by_cases hp3 : 300 < p
    · by_cases k1 : 5000 < n
      · have k2 : 65536 < n := by omega
        clear hbig
        go_enter Try.func7, Try.ntmps7
        go_wp2_with fail
        refine (CL.out _).mono ?_
        rintro e w0 ⟨rfl, hb⟩
        replace B0 := Lib.hid (B0.out.trans (hb.mono (by simp)))
        replace X0 := Lib.hid (X0.out.below hb)
        clear hb
        go_wp2
        go_ret
        exact ⟨rfl, B0.out⟩
      · clear hbig
        go_enter Try.func7, Try.ntmps7
        go_wp2_with fail
        refine (CL.out _).mono ?_
        rintro e w0 ⟨rfl, hb⟩
        replace B0 := Lib.hid (B0.out.trans (hb.mono (by simp)))
        replace X0 := Lib.hid (X0.out.below hb)
        clear hb
        go_wp2
        go_ret
        exact ⟨rfl, B0.out⟩
    · cases hpart : Sp.partB n f t p k
      · rw [(Sp.part_no hpart).1, (Sp.part_no hpart).2] at C1
        clear hpart
        by_cases k1 : 5000 < n
        · have k2 : 65536 < n := by omega
          clear hbig
          go_enter Try.func7, Try.ntmps7
          go_wp2_with fail
          refine (CL.out _).mono ?_
          rintro e w0 ⟨rfl, hb⟩
          replace B0 := Lib.hid (B0.out.trans (hb.mono (by simp)))
          replace X0 := Lib.hid (X0.out.below hb)
          clear hb
          obtain ⟨_, c0, c1, _⟩ := X0.out
          try dsimp only at c0 c1
          go_wp2_with fail
          refine (C1.out _).mono ?_
          rintro e w1 ⟨rfl, hb⟩
          replace B0 := Lib.hid (B0.out.trans (hb.mono B0.out.size))
          clear hb c0 c1
          go_wp2
          go_ret
          exact ⟨rfl, B0.out⟩
        · clear hbig
          go_enter Try.func7, Try.ntmps7
          go_wp2_with fail
          refine (CL.out _).mono ?_
          rintro e w0 ⟨rfl, hb⟩
          replace B0 := Lib.hid (B0.out.trans (hb.mono (by simp)))
          replace X0 := Lib.hid (X0.out.below hb)
          clear hb
          obtain ⟨_, c0, c1, _⟩ := X0.out
          try dsimp only at c0 c1
          go_wp2_with fail
          refine (C1.out _).mono ?_
          rintro e w1 ⟨rfl, hb⟩
          replace B0 := Lib.hid (B0.out.trans (hb.mono B0.out.size))
          clear hb c0 c1
          go_wp2
          go_ret
          exact ⟨rfl, B0.out⟩
      · obtain ⟨hm, p1, p2, p3, p4⟩ := Sp.part_in hpart
        obtain ⟨m1, m2, m3, m4, m5⟩ := Sp.may_in hm
        have k1 : ¬ 5000 < n := by omega
        obtain ⟨w1e, w2e⟩ := Sp.part_w hpart
        have pp : 0 < p := by omega
        obtain ⟨K, rfl⟩ : ∃ K : Nat, k = K := ⟨k.toNat, by omega⟩
        have V1 := Sp.share_closed hpart
        obtain ⟨s1, s2⟩ := Sp.cd_step (k := (K : Int)) pp m4
        rw [← V1] at s1 s2
        rw [(Sp.part_yes hpart).2] at C1
        have CS := Lib.hid (fun (j : Nat) W (hj : j ≤ K) => (show Calls Try.prog 9 #[.int .i64 n, .int .i64 f, .int .i64 t, .int .i64 p, .int .i64 (j : Int)] W fun e w' => e = .returned (.tuple #[.int .i64 (Sp.cd (((j : Int) + 1) * n) p - Sp.cd ((j : Int) * n) p), .int .i64 0]) ∧ Below W.heap.size W w' from by
          have hj2 := Sp.part_mk hpart (j := (j : Int)) (by omega) (by omega)
          have q := sShare n f t p (j : Int) W hn hf ht hp (by omega)
          rw [Sp.share_closed hj2, (Sp.part_yes hj2).2] at q
          exact q))
        have b1 : 0 ≤ (K : Int) * ((t - f) / p) := Int.mul_nonneg p3 w2e
        have b2 : ((K : Int) + 1) * ((t - f) / p) = (K : Int) * ((t - f) / p) + (t - f) / p := by rw [Int.add_mul, Int.one_mul]
        have b3 : ((K : Int) + 1) * ((t - f) / p) ≤ t - f := by
          have := Int.mul_le_mul_of_nonneg_right (show (K : Int) + 1 ≤ p by omega) w2e
          omega
        have hrk := Sp.rank_mk (a := f + ((K : Int) + 1) * ((t - f) / p)) hm (by omega) (by omega)
        have CR := Lib.hid (fun W => sRank n f t (f + ((K : Int) + 1) * ((t - f) / p)) W hn hf ht (by omega))
        rw [Sp.rank_closed hrk, (Sp.rank_yes hrk).2, Sp.ahead_part hm pp w1e] at CR
        have MON := Lib.hid (fun (j : Nat) (hj : j ≤ K + 1) => (show 0 ≤ Sp.cd ((j : Int) * n) p ∧ Sp.cd ((j : Int) * n) p ≤ n from by
          have h1 : 0 ≤ (j : Int) * n := Int.mul_nonneg (by omega) m4
          have h2 : (j : Int) * n ≤ p * n := Int.mul_le_mul_of_nonneg_right (by omega) m4
          have h3 := Sp.cd_mono pp h1
          have h4 := Sp.cd_mono pp h2
          rw [Sp.cd_zero pp] at h3
          rw [Sp.cd_self pp] at h4
          exact ⟨h3, h4⟩))
        have ZERO := Lib.hid (show Sp.cd (((0 : Nat) : Int) * n) p = 0 by rw [show ((0 : Nat) : Int) * n = 0 from by simp, Sp.cd_zero pp])
        have LAST := Lib.hid (fun (h : (K : Int) + 1 = p) => (show Sp.cd (((K : Int) + 1) * n) p = n by rw [h, Sp.cd_self pp]))
        have CDN := Lib.hid (show Sp.cd n p = (n + p - 1) / p from rfl)
        have nq0 : 0 ≤ n / p := Int.ediv_nonneg m4 (by omega)
        have nq1 : n / p ≤ n := Int.ediv_le_self _ m4
        have np0 : 0 ≤ (n + p - 1) / p := Int.ediv_nonneg (by omega) (by omega)
        have np1 : (n + p - 1) / p ≤ n + p - 1 := Int.ediv_le_self _ (by omega)
        have p0 : ¬ p = 0 := by omega
        have hq : (t - f) / p ≤ t - f := Int.ediv_le_self _ (by omega)
        rw [CDN.out] at s2
        clear hbig hpart hm V1 hrk w1e CDN
        generalize Sp.shareV n f t p (K : Int) = x at *
        obtain ⟨low, hlow⟩ : ∃ y, y = n / p := ⟨_, rfl⟩
        obtain ⟨high, hhigh⟩ : ∃ y, y = (n + p - 1) / p := ⟨_, rfl⟩
        obtain ⟨q, hqq⟩ : ∃ y, y = (t - f) / p := ⟨_, rfl⟩
        rw [← hlow] at s1 nq0 nq1
        rw [← hhigh] at s2 np0 np1
        rw [← hqq] at b1 b2 b3 hq w2e CR
        have LE := hlow.symm
        have HE := hhigh.symm
        have QE := hqq.symm
        clear hlow hhigh hqq
        obtain ⟨u, hu⟩ : ∃ u, u = (K : Int) * q := ⟨_, rfl⟩
        rw [← hu] at b1 b2
        rw [b2] at b3 CR
        have UE := b2
        have UE2 : wrap64 (((K : Int) + 1) * q) = u + q := by rw [b2]; unfold wrap64; omega
        clear hu b2
        have j1 : ¬ x < low := by omega
        have j2 : ¬ high < x := by omega
        go_enter Try.func7, Try.ntmps7
        go_wp2_with fail
        refine (CL.out _).mono ?_
        rintro e w0 ⟨rfl, hb⟩
        replace B0 := Lib.hid (B0.out.trans (hb.mono (by simp)))
        replace X0 := Lib.hid (X0.out.below hb)
        clear hb
        obtain ⟨_, c0, c1, _⟩ := X0.out
        try dsimp only at c0 c1
        go_wp2_with fail
        refine (C1.out _).mono ?_
        rintro e w1 ⟨rfl, hb⟩
        replace B0 := Lib.hid (B0.out.trans (hb.mono B0.out.size))
        replace X0 := Lib.hid (X0.out.below hb)
        clear hb c0 c1
        go_wp2
        go_loopw [12, 13] (SharesJ n p f t K w) (fun _ z _ => K + 1 - (intOf z).toNat)
        case atStart => exact ⟨0, Nat.zero_le _, by rw [ZERO.out], rfl, B0.out, X0.out⟩
        case round =>
          obtain ⟨j, hj, rfl, rfl, hbr, hbx⟩ := hrel
          have HB := Lib.hid hbr
          have HX := Lib.hid hbx
          obtain ⟨_, c0, c1, _⟩ := hbx
          try dsimp only at c0 c1
          clear hbr
          by_cases hlt : j < K + 1
          · have CS1 := Lib.hid (fun W => CS.out j W (by omega))
            have M1 := MON.out j (by omega)
            have M2 := MON.out (j + 1) (by omega)
            rw [show ((j + 1 : Nat) : Int) = (j : Int) + 1 from by omega] at M2
            have NX := Lib.hid (show Sp.cd (((j + 1 : Nat) : Int) * n) p = Sp.cd (((j : Int) + 1) * n) p by rw [show ((j + 1 : Nat) : Int) = (j : Int) + 1 from by omega])
            have hj2 : (j : Int) ≤ (K : Int) := by omega
            generalize Sp.cd (((j : Int) + 1) * n) p = y2 at *
            generalize Sp.cd ((j : Int) * n) p = y1 at *
            have yy : y1 + (y2 - y1) = y2 := by omega
            go_wp2_with fail
            refine (CS1.out _).mono ?_
            rintro e w5 ⟨rfl, hb⟩
            have HB5 := Lib.hid (HB.out.trans (hb.mono HB.out.size))
            have HX5 := Lib.hid (HX.out.below hb)
            clear hb c0 c1
            go_wp2
            go_roundw
            case rel => exact ⟨j + 1, by omega, by rw [NX.out], by go_num, HB5.out, HX5.out⟩
            case measure => simp [intOf]; omega
          · obtain rfl : j = K + 1 := by omega
            have e1 : ((K + 1 : Nat) : Int) = (K : Int) + 1 := by omega
            rw [e1]
            have hj2 : ¬ (K : Int) + 1 ≤ (K : Int) := by omega
            have M2 := MON.out (K + 1) (by omega)
            rw [e1] at M2
            obtain ⟨y, hy⟩ : ∃ y, y = Sp.cd (((K : Int) + 1) * n) p := ⟨_, rfl⟩
            rw [← hy] at CR LAST M2 ⊢
            clear hy e1
            go_wp2_with fail
            refine (CR.out _).mono ?_
            rintro e w5 ⟨rfl, hb⟩
            have HB5 := Lib.hid (HB.out.trans (hb.mono HB.out.size))
            clear hb c0 c1
            by_cases hKp : (K : Int) + 1 < p
            · go_wp2
              go_ret
              exact ⟨rfl, HB5.out⟩
            · have hyn := LAST.out (by omega)
              subst hyn
              go_wp2
              go_ret
              exact ⟨rfl, HB5.out⟩
end Go.Proofs.Ytbkbcjdhppnfoaa.spreadShares
