/- The law WinOnce, walked over the contracts: it answers true. -/
import Derived.Test.YthnpmbbhbaaloaaLaw06
namespace Go.Proofs.Ythnpmbbhbaaloaa.winOnce
open Go.RowKit
set_option linter.unusedVariables false
set_option linter.unusedSimpArgs false

theorem row_item {n k : Nat} {W : Int} (h : k < n) : ((List.range n).map fun k : Nat => ((k : Int) * W, (k : Int) * W + W)).getD k (0, 0) = ((k : Int) * W, (k : Int) * W + W) := by
  simp [List.getD, h]
theorem path_item {g a : Int} {n k : Nat} (h : k < n) : ((List.range n).map fun k : Nat => (Wn.lo g k a, Wn.hi g k a)).getD k (0, 0) = (Wn.lo g k a, Wn.hi g k a) := by
  simp [List.getD, h]
def OnceJ (n : Nat) (W q : Int) (w : World) (x y z : Value) (wr : World) : Prop := ∃ k r : Nat, k ≤ n ∧ x = .int .i64 ((k : Int) * W) ∧ y = .int .i64 (Wn.metB q k) ∧ z = .int .i64 (k : Int) ∧ wr = w.drewN r
set_option maxRecDepth 100000 in
set_option maxHeartbeats 4000000 in
theorem walk (g s h a : Int) (w : World) (hg : g ≤ 9223372036854775807) (hs : -9223372036854775808 ≤ s ∧ s ≤ 9223372036854775807) :
    Calls Try.prog 7 #[.int .i64 g, .int .i64 s, .int .i64 h, .int .i64 a] w fun e w' => e = .returned (.bool true) ∧ Below w.heap.size w w' := by
  have B0 := Lib.hid (Below.refl w.heap.size w)
  have CL := Lib.hid (fun W => lAlive W)
  have C1 := Lib.hid (fun W => vRow g s h W hg hs)
  have C2 := Lib.hid (fun W => vPath g s a W hg hs)
  by_cases hbig : 4096 < s ∧ s ≤ 65536
  · obtain ⟨k1, k2⟩ := hbig
    go_enter Try.func7, Try.ntmps7
    go_wp2_with fail
    refine (CL.out _).mono ?_
    rintro e w0 ⟨rfl, hb⟩
    replace B0 := Lib.hid (B0.out.trans (hb.mono B0.out.size))
    clear hb
    go_wp2
    go_ret
    exact ⟨rfl, B0.out⟩
  · cases hr : Wn.askB g s h 0
    · rw [(Wn.row_no hr).1, (Wn.row_no hr).2] at C1
      clear hr
      generalize Wn.askE g s 0 a = e2 at *
      generalize Wn.path g s a = ps at *
      by_cases hb1 : 4096 < s
      · have hb2 : 65536 < s := by omega
        clear hbig
        go_enter Try.func7, Try.ntmps7
        go_wp2_with fail
        refine (CL.out _).mono ?_
        rintro e w0 ⟨rfl, hb⟩
        replace B0 := Lib.hid (B0.out.trans (hb.mono B0.out.size))
        clear hb
        go_wp2_with fail
        refine (C1.out _).mono ?_
        rintro e w1 ⟨v, rfl, hrow, hb⟩
        replace B0 := Lib.hid (B0.out.trans (hb.mono B0.out.size))
        obtain ⟨A1, d1, rfl, hP⟩ := wrow_list hrow
        have P1 := Lib.hid hP
        clear hrow hP hb
        dsimp only [List.length_nil]
        go_wp2_with fail
        refine (C2.out _).mono ?_
        rintro e w2 ⟨v, rfl, hrow, hb⟩
        replace B0 := Lib.hid (B0.out.trans (hb.mono B0.out.size))
        obtain ⟨A2, d2, rfl, hP⟩ := wrow_list hrow
        have P2 := Lib.hid hP
        replace P1 := Lib.hid (P1.out.below hb)
        clear hrow hP hb
        go_wp2
        go_ret
        exact ⟨rfl, B0.out⟩
      · clear hbig
        go_enter Try.func7, Try.ntmps7
        go_wp2_with fail
        refine (CL.out _).mono ?_
        rintro e w0 ⟨rfl, hb⟩
        replace B0 := Lib.hid (B0.out.trans (hb.mono B0.out.size))
        clear hb
        go_wp2_with fail
        refine (C1.out _).mono ?_
        rintro e w1 ⟨v, rfl, hrow, hb⟩
        replace B0 := Lib.hid (B0.out.trans (hb.mono B0.out.size))
        obtain ⟨A1, d1, rfl, hP⟩ := wrow_list hrow
        have P1 := Lib.hid hP
        clear hrow hP hb
        dsimp only [List.length_nil]
        go_wp2_with fail
        refine (C2.out _).mono ?_
        rintro e w2 ⟨v, rfl, hrow, hb⟩
        replace B0 := Lib.hid (B0.out.trans (hb.mono B0.out.size))
        obtain ⟨A2, d2, rfl, hP⟩ := wrow_list hrow
        have P2 := Lib.hid hP
        replace P1 := Lib.hid (P1.out.below hb)
        clear hrow hP hb
        go_wp2
        go_ret
        exact ⟨rfl, B0.out⟩
    · obtain ⟨hf, h0, hH, _, _⟩ := Wn.ask_yes hr
      obtain ⟨H, f⟩ := Wn.fit_of hf
      have s1 := f.s1
      have k4 : ¬ 4096 < s := by omega
      have er : Wn.askE g s h 0 = 0 := by unfold Wn.askE; rw [hr]; rfl
      rw [er] at C1
      clear hbig er
      cases hp : Wn.askB g s 0 a
      · rw [(Wn.path_no hp).1, (Wn.path_no hp).2] at C2
        clear hr hp hf f
        generalize Wn.row g s h = ps at *
        go_enter Try.func7, Try.ntmps7
        go_wp2_with fail
        refine (CL.out _).mono ?_
        rintro e w0 ⟨rfl, hb⟩
        replace B0 := Lib.hid (B0.out.trans (hb.mono B0.out.size))
        clear hb
        go_wp2_with fail
        refine (C1.out _).mono ?_
        rintro e w1 ⟨v, rfl, hrow, hb⟩
        replace B0 := Lib.hid (B0.out.trans (hb.mono B0.out.size))
        obtain ⟨A1, d1, rfl, hP⟩ := wrow_list hrow
        have P1 := Lib.hid hP
        clear hrow hP hb
        go_wp2_with fail
        refine (C2.out _).mono ?_
        rintro e w2 ⟨v, rfl, hrow, hb⟩
        replace B0 := Lib.hid (B0.out.trans (hb.mono B0.out.size))
        obtain ⟨A2, d2, rfl, hP⟩ := wrow_list hrow
        have P2 := Lib.hid hP
        replace P1 := Lib.hid (P1.out.below hb)
        clear hrow hP hb
        dsimp only [List.length_nil]
        go_wp2
        go_ret
        exact ⟨rfl, B0.out⟩
      · obtain ⟨_, _, _, a0, a1⟩ := Wn.ask_yes hp
        have ep : Wn.askE g s 0 a = 0 := by unfold Wn.askE; rw [hp]; rfl
        rw [f.hH] at hH
        obtain ⟨hn, rfl⟩ : ∃ k : Nat, h = k := ⟨h.toNat, by omega⟩
        obtain ⟨n, n1, hnW, hrowE⟩ := f.row_of (h := hn) (by omega) hr
        have hpathE : Wn.path g s a = (List.range (H + 1)).map fun k : Nat => (Wn.lo g k a, Wn.hi g k a) := by unfold Wn.path; rw [hp, if_pos rfl, f.hH, Int.toNat_natCast]
        have hw4 := Wn.wd_pos f.g1 (hn : Int)
        obtain ⟨q0, q1⟩ := f.quot (h := hn) hnW a0 a1
        have h14 := f.h14
        rw [ep, hpathE] at C2
        rw [hrowE] at C1
        have PT := Lib.hid (path_item (g := g) (a := a) (n := H + 1) (k := hn) (by omega))
        have elo : Wn.lo g hn a = a / Wn.wd g hn * Wn.wd g hn := rfl
        have ehi : Wn.hi g hn a = a / Wn.wd g hn * Wn.wd g hn + Wn.wd g hn := rfl
        rw [elo, ehi] at PT
        have hHn : hn ≤ H := by omega
        clear hr hp hf f ep hpathE hrowE elo ehi hH
        generalize Wn.wd g hn = W at *
        have IFF := Lib.hid (fun k : Int => Wn.in_iff (w := W) (a := a) (by omega) k)
        generalize a / W = q at *
        have IT := Lib.hid (fun (k : Nat) (hk : k < n) => row_item (W := W) hk)
        have IN := Lib.hid (show ∀ k : Nat, k < n → (k : Int) * W + W ≤ s by
          intro k hk
          have := Int.mul_le_mul_of_nonneg_right (show ((k : Int) + 1) ≤ n by omega) (show 0 ≤ W by omega)
          rw [Int.add_mul, Int.one_mul] at this
          omega)
        have END := Lib.hid hnW
        have hn4 : (n : Int) * 4 ≤ s := by rw [← hnW]; exact Int.mul_le_mul_of_nonneg_left hw4 (by omega)
        have L1 := Lib.hid (show ((List.range n).map fun k : Nat => ((k : Int) * W, (k : Int) * W + W)).length = n by simp)
        have L2 := Lib.hid (show ((List.range (H + 1)).map fun k : Nat => (Wn.lo g k a, Wn.hi g k a)).length = H + 1 by simp)
        clear hnW
        generalize ((List.range n).map fun k : Nat => ((k : Int) * W, (k : Int) * W + W)) = rs at *
        generalize ((List.range (H + 1)).map fun k : Nat => (Wn.lo g k a, Wn.hi g k a)) = ps at *
        go_enter Try.func7, Try.ntmps7
        go_wp2_with fail
        refine (CL.out _).mono ?_
        rintro e w0 ⟨rfl, hb⟩
        replace B0 := Lib.hid (B0.out.trans (hb.mono B0.out.size))
        clear hb
        go_wp2_with fail
        refine (C1.out _).mono ?_
        rintro e w1 ⟨v, rfl, hrow, hb⟩
        replace B0 := Lib.hid (B0.out.trans (hb.mono B0.out.size))
        obtain ⟨A1, d1, rfl, hP⟩ := wrow_list hrow
        have P1 := Lib.hid hP
        clear hrow hP hb
        go_wp2_with fail
        refine (C2.out _).mono ?_
        rintro e w2 ⟨v, rfl, hrow, hb⟩
        replace B0 := Lib.hid (B0.out.trans (hb.mono B0.out.size))
        obtain ⟨A2, d2, rfl, hP⟩ := wrow_list hrow
        have P2 := Lib.hid hP
        replace P1 := Lib.hid (P1.out.below hb)
        clear hrow hP hb
        rw [L1.out, L2.out]
        go_wp2
        go_loopw [14, 15, 16] (OnceJ n W q w2) (fun _ _ z _ => n - (intOf z).toNat)
        case atStart => exact ⟨0, 0, by omega, by simp, by rw [Wn.met_zero q0], rfl, rfl⟩
        case round =>
          obtain ⟨k, r, hk, rfl, rfl, rfl, rfl⟩ := hrel
          by_cases hlt : k < n
          · obtain ⟨b1, o1, rfl, _, c1, c2⟩ := P1.out.pair (i := k) (by rw [L1.out]; exact hlt)
            obtain ⟨b2, o2, rfl, _, c3, c4⟩ := P2.out.pair (i := hn) (by rw [L2.out]; omega)
            rw [IT.out k hlt] at c1 c2
            rw [PT.out] at c3 c4
            have hin := IN.out k hlt
            have z0 : 0 ≤ (k : Int) * W := Int.mul_nonneg (by omega) (by omega)
            have EK := Lib.hid (show (((k + 1 : Nat) : Int)) * W = (k : Int) * W + W by rw [Int.natCast_add, Int.add_mul]; simp)
            have IK := IFF.out (k : Int)
            by_cases hq : q = (k : Int)
            · obtain ⟨i1, i2⟩ := IK.2 hq
              rw [hq] at c3 c4
              obtain ⟨m1, m2⟩ := Wn.met_hit hq
              have M2 := Lib.hid m2
              rw [m1]
              dsimp only at c1 c2 c3 c4
              have HQ := Lib.hid hq
              clear IK m1 m2 hq
              obtain ⟨u, hu⟩ : ∃ u, u = (k : Int) * W := ⟨_, rfl⟩
              rw [← hu] at c1 c2 c3 c4 hin z0 EK i1 i2 ⊢
              clear hu
              have hqq : ∀ w' : World, Sem.run Try.prog (Op.equalIn 10000 33 (.agg #[.int .i64 u, .int .i64 (u + W)]) (.agg #[.int .i64 u, .int .i64 (u + W)])) w' = .ok true w' := fun w' => by
                have := eq_arr2 9998 u (u + W) u (u + W) w'
                rw [show (u == u && u + W == u + W) = true from by simp] at this
                exact this
              have hgd : Try.prog.eqGuardType Try.prog.depth 33 = false := by kernel_rfl
              have k7 : decide ((H : Int) + 1 ≤ (hn : Int)) = false := decide_eq_false (by omega)
              have k8 : ¬ ((H : Int) + 1 ≤ (hn : Int)) := by omega
              have k9 : ¬ (H + 1 ≤ hn) := by omega
              have k10 : decide (H + 1 ≤ hn) = false := decide_eq_false k9
              have k11 : decide ((hn : Int) < 0) = false := decide_eq_false (by omega)
              go_wp2
              go_quiet (fail)
              go_wp2
              go_roundw
              case rel => exact ⟨k + 1, _, by omega, by rw [EK.out], by rw [M2.out], by go_num, rfl⟩
              case measure => simp [intOf]; omega
            · have M2 := Lib.hid (Wn.met_miss (q := q) (k := k) hq)
              have NI := Lib.hid (fun x => hq (IK.1 x))
              dsimp only at c1 c2 c3 c4
              clear IK hq
              obtain ⟨u, hu⟩ : ∃ u, u = (k : Int) * W := ⟨_, rfl⟩
              rw [← hu] at c1 c2 hin z0 EK NI ⊢
              clear hu
              obtain ⟨m, hm⟩ : ∃ m, m = Wn.metB q k := ⟨_, rfl⟩
              rw [← hm] at M2 ⊢
              clear hm c3 c4
              by_cases i1 : u ≤ a
              · have i2 : ¬ a < u + W := fun h => NI.out ⟨i1, h⟩
                clear NI
                go_wp2
                go_roundw
                case rel => exact ⟨k + 1, _, by omega, by rw [EK.out], by rw [M2.out], by go_num, rfl⟩
                case measure => simp [intOf]; omega
              · clear NI
                go_wp2
                go_roundw
                case rel => exact ⟨k + 1, _, by omega, by rw [EK.out], by rw [M2.out], by go_num, rfl⟩
                case measure => simp [intOf]; omega
          · obtain rfl : k = n := by omega
            rw [END.out, Wn.met_all q1]
            go_wp2
            go_ret
            exact ⟨rfl, below_drewN B0.out _⟩
end Go.Proofs.Ythnpmbbhbaaloaa.winOnce
