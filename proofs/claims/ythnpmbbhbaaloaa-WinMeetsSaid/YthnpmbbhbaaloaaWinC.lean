/- What package win's Row returns: new memory. -/
import Derived.Test.YthnpmbbhbaaloaaWinB
import Derived.Test.YthnpmbbhbaaloaaRefE06
import Derived.Test.YthnpmbbhbaaloaaFn6b
namespace Go.Proofs.Ythnpmbbhbaaloaa
open Go.RowKit
set_option linter.unusedVariables false
set_option linter.unusedSimpArgs false

/-- 'make([]T, 0, n)': the head of a new row, of which nothing is owned yet. -/
theorem wpList_make0 {P : Program} {T E : TypeId} {z : Value} {size bytes : Nat} (hE : Elem P T E z size bytes) {w : World} {ops : Array Oper} {rest : List Oper} {o : Oper} {act : Act} {Q : Exit → Act → World → Prop} (hg : o.guard = none) (l c : Operand)
    (hop : o.op = Op.makeSlice T l c) (kl kc : IntKind) (C : Int) (n base : Nat) (hl : act.eval l = .int kl 0) (hc : act.eval c = .int kc C) (hC : C = (n : Int)) (b2 : bytes * n ≤ 281474976710656) (b3 : n ≤ maxLen) (b4 : base ≤ w.heap.size)
    (h : ∀ w', w'.ownsRow base E size (.slice (some ⟨w.heap.size, 0, none⟩) 0 n) 0 [] → Below base w w' → wpList P ops Q rest (act.put o.dst (.slice (some ⟨w.heap.size, 0, none⟩) 0 n)) w') : wpList P ops Q (o :: rest) act w := by
  obtain ⟨i0, hi0, hz0, hz1, hz2⟩ := hE.info
  refine wpList_make_own w hg l c T hop base E i0 z size hE.und hi0 hz0 hz1 kl kc C n hl hc hC (by rw [hz2]; exact b2) b3 b4 ?_
  intro w' hown hgrow
  exact h w' hown ((Below.refl _ _).grown hgrow b4 (fun k e => by cases e))
namespace Wn
theorem lo_mul {g h : Int} (hg : 4 ≤ g) (k : Int) : lo g h (k * wd g h) = k * wd g h := by
  have := wd_pos hg h
  unfold lo
  rw [Int.mul_ediv_cancel _ (by omega)]
theorem hi_mul {g h : Int} (hg : 4 ≤ g) (k : Int) : hi g h (k * wd g h) = k * wd g h + wd g h := by
  unfold hi
  rw [lo_mul hg]
theorem row_no {g s h : Int} (hk : askB g s h 0 = false) : row g s h = [] ∧ askE g s h 0 = 2 := by unfold row askE; rw [hk]; exact ⟨rfl, rfl⟩
theorem ask_zero {g s h : Int} {H : Nat} (hf : Sl.fitsB g s = true) (f : Fit g s H) : askB g s h 0 = inE h (high g s) := by
  rw [ask_are hf, are_one]
  have := f.seg
  have := f.g1
  rw [decide_eq_true (show (0 : Int) < s by omega)]
  simp
end Wn

set_option maxRecDepth 100000 in
set_option maxHeartbeats 2000000 in
theorem vRow (g s h : Int) (w : World) (hg : g ≤ 9223372036854775807) (hs : -9223372036854775808 ≤ s ∧ s ≤ 9223372036854775807) :
    Calls Try.prog 11 #[.int .i64 g, .int .i64 s, .int .i64 h] w (WRow (Wn.row g s h) (Wn.askE g s h 0) w) := by
  have CH := Lib.hid (fun W => vHigh g s W hg hs)
  cases hf : Sl.fitsB g s
  · have E := Lib.hid (Wn.row_no (Wn.ask_fits (h := h) (a := 0) hf))
    rw [(Wn.high_no hf).1, (Wn.high_no hf).2] at CH
    clear hf
    go_enter Try.func11, Try.ntmps11
    go_wp2_with fail
    refine (CH.out _).mono ?_
    rintro e w1 ⟨rfl, rfl⟩
    go_wp2
    go_ret2
    rw [E.out.1, E.out.2]
    exact ⟨_, rfl, World.ownsRow_nil _ _ _ _, Below.refl _ _⟩
  · rw [(Wn.high_yes hf).1, (Wn.high_yes hf).2] at CH
    obtain ⟨H, f⟩ := Wn.fit_of hf
    have AK := Lib.hid (Wn.ask_zero (h := h) hf f)
    have CI := Lib.hid (fun W => vWithin h (Wn.high g s) W)
    cases hi : Wn.inE h (Wn.high g s)
    · have E := Lib.hid (Wn.row_no (show Wn.askB g s h 0 = false by rw [AK.out, hi]))
      rw [hi] at CI
      clear hi hf f
      obtain ⟨top, htop⟩ : ∃ top, top = Wn.high g s := ⟨_, rfl⟩
      rw [← htop] at CH AK CI
      clear htop
      go_enter Try.func11, Try.ntmps11
      go_wp2_with fail
      refine (CH.out _).mono ?_
      rintro e w1 ⟨rfl, rfl⟩
      go_wp2_with fail
      refine (CI.out _).mono ?_
      rintro e w1 ⟨rfl, rfl⟩
      go_wp2
      go_ret2
      rw [E.out.1, E.out.2]
      exact ⟨_, rfl, World.ownsRow_nil _ _ _ _, Below.refl _ _⟩
    · have hk : Wn.askB g s h 0 = true := by rw [AK.out, hi]
      have EA : Wn.askE g s h 0 = 0 := by unfold Wn.askE; rw [hk]; rfl
      obtain ⟨_, h0, hH, a0, a1⟩ := Wn.ask_yes hk
      have s1 := f.s1
      have h14 := f.h14
      have g1 := f.g1
      have g2 := f.g2
      rw [f.hH] at hH
      have hh14 : h ≤ 14 := by omega
      have hw4 := Wn.wd_pos g1 h
      obtain ⟨n, hn1, hn, hrow⟩ : ∃ n : Nat, 1 ≤ n ∧ (n : Int) * Wn.wd g h = s ∧ Wn.row g s h = (List.range n).map fun k : Nat => ((k : Int) * Wn.wd g h, (k : Int) * Wn.wd g h + Wn.wd g h) := by
        have e : h = ((h.toNat : Nat) : Int) := by omega
        have q := f.row_of (h := h.toNat) (by omega) (by rw [← e]; exact hk)
        rw [← e] at q
        exact q
      have ER := Lib.hid hrow
      rw [EA]
      rw [hi] at CI
      have CW := Lib.hid (fun W => vWidth g h W g1 g2 h0 hh14)
      have CV := Lib.hid (show ∀ (k : Nat) (W : World), k < n → Calls Try.prog 25 #[.int .i64 g, .int .i64 h, .int .i64 ((k : Int) * Wn.wd g h)] W fun e w' => e = .returned (.agg #[.int .i64 ((k : Int) * Wn.wd g h), .int .i64 ((k : Int) * Wn.wd g h + Wn.wd g h)]) ∧ Below W.heap.size W w' from by
        intro k W hk
        have hle : (k : Int) * Wn.wd g h ≤ (n : Int) * Wn.wd g h := Int.mul_le_mul_of_nonneg_right (by omega) (by omega)
        have q := vWindow g h ((k : Int) * Wn.wd g h) W g1 g2 h0 hh14 (Int.mul_nonneg (by omega) (by omega)) (by omega)
        rw [Wn.lo_mul g1, Wn.hi_mul g1] at q
        exact q)
      obtain ⟨top, htop⟩ : ∃ top, top = Wn.high g s := ⟨_, rfl⟩
      rw [← htop] at CH AK CI
      obtain ⟨W, hW⟩ : ∃ W, W = Wn.wd g h := ⟨_, rfl⟩
      rw [← hW] at hw4 hn ER CW CV
      have IN := Lib.hid (show ∀ k : Nat, k < n → (k : Int) * W + W ≤ s by
        intro k hk
        have := Int.mul_le_mul_of_nonneg_right (show ((k : Int) + 1) ≤ n by omega) (show 0 ≤ W by omega)
        rw [Int.add_mul, Int.one_mul] at this
        omega)
      have EQ := Lib.hid (show s / W = (n : Int) by rw [← hn]; exact Int.mul_ediv_cancel _ (by omega))
      have hn4 : (n : Int) * 4 ≤ s := by rw [← hn]; exact Int.mul_le_mul_of_nonneg_left hw4 (by omega)
      have END := Lib.hid hn
      have k0 : ¬ W = 0 := by omega
      have hWs : W ≤ s := by have := IN.out 0 hn1; simpa using this
      have hs0 : 0 ≤ s := by omega
      clear hk hf f EA hn hW hH hi htop hrow hs
      go_enter Try.func11, Try.ntmps11
      go_wp2_with fail
      refine (CH.out _).mono ?_
      rintro e w1 ⟨rfl, rfl⟩
      go_wp2_with fail
      refine (CI.out _).mono ?_
      rintro e w1 ⟨rfl, rfl⟩
      go_wp2_with fail
      refine (CW.out _).mono ?_
      rintro e w1 ⟨rfl, rfl⟩
      go_wp2_with (at_make; refine wpList_make0 elemA rfl _ _ rfl .i64 .i64 _ n w.heap.size rfl rfl EQ.out (by omega) (by unfold maxLen; omega) (Nat.le_refl _) ?_; intro w5 hown5 hb5; have HO5 := Lib.hid hown5; have HB5 := Lib.hid hb5; clear hown5 hb5)
      go_loopw [11, 12] (fun v i wr => WinJ (fun k : Nat => ((k : Int) * W, (k : Int) * W + W)) n w v i wr W) (fun _ i _ => (s - intOf i).toNat)
      case atStart => exact ⟨0, Nat.zero_le _, by simp, HO5.out, HB5.out⟩
      case round =>
        obtain ⟨k, hk, hi, hown, hbr⟩ := hrel
        subst hi
        have HO := Lib.hid hown
        have HB := Lib.hid hbr
        have zz := hbr.size
        clear hown hbr
        by_cases hlt : k < n
        · have hin := IN.out k hlt
          have z0 : 0 ≤ (k : Int) * W := Int.mul_nonneg (by omega) (by omega)
          have HM := Lib.hid (pcells_more (fun k : Nat => ((k : Int) * W, (k : Int) * W + W)) k)
          have EK := Lib.hid (show (((k + 1 : Nat) : Int)) * W = (k : Int) * W + W by rw [Int.natCast_add, Int.add_mul]; simp)
          have CV1 := Lib.hid (fun W' => CV.out k W' hlt)
          obtain ⟨x, hx⟩ : ∃ x, x = (k : Int) * W := ⟨_, rfl⟩
          dsimp only at HM
          rw [← hx] at hin z0 HM EK CV1 ⊢
          clear hx
          go_wp2_with fail
          refine (CV1.out _).mono ?_
          rintro e w6 ⟨rfl, hb6⟩
          have HO6 := Lib.hid (own_below HO.out hb6)
          have HB6 := Lib.hid (HB.out.trans (hb6.mono zz))
          have zz6 := HB6.out.size
          clear hb6
          go_wp2_with (at_builtin; refine wpList_moreN elemA rfl (.tmp 40) (.tmp 45) rfl w6 33 [.int .i64 x, .int .i64 (x + W)] rfl rfl w.heap.size k _ _ rfl rfl HO6.out (by intro u hu; simp at hu; rcases hu with rfl | rfl <;> rfl) zz6 (by unfold maxLen; omega) (by omega) ?_; intro v5 w5 hown5 hb5; rw [← HM.out] at hown5; have HO5 := Lib.hid hown5; have HB5 := Lib.hid (HB6.out.trans hb5); clear hown5 hb5)
          go_roundw
          case rel => exact ⟨k + 1, by omega, by rw [EK.out], HO5.out, HB5.out⟩
          case measure => simp [intOf]; omega
        · obtain rfl : k = n := by omega
          have EE := END.out
          rw [EE]
          go_wp2
          go_ret2
          rw [ER.out]
          exact ⟨_, rfl, by simpa using HO.out, HB.out⟩
end Go.Proofs.Ythnpmbbhbaaloaa
