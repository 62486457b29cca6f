/- What the document's own answer Row of layer 6 (package shelfmarkref06) returns: new memory. -/
import Derived.Test.YthnpmbbhbaaloaaRefD06
namespace Go.Proofs.Ythnpmbbhbaaloaa
open Go.RowKit
set_option linter.unusedVariables false
set_option linter.unusedSimpArgs false

set_option maxHeartbeats 2000000 in
theorem r6Row (g s h : Int) (w : World) (hg : g ≤ 9223372036854775807) (hs : s ≤ 9223372036854775807) :
    Calls Try.prog 19 #[.int .i64 g, .int .i64 s, .int .i64 h] w (WRow (Wn.row g s h) (Wn.askE g s h 0) w) := by
  have CA := Lib.hid (r6asked g s h 0 w hg hs)
  cases hk : Wn.askB g s h 0
  · have E := Lib.hid (show Wn.row g s h = [] ∧ Wn.askE g s h 0 = 2 by unfold Wn.row Wn.askE; rw [hk]; exact ⟨rfl, rfl⟩)
    rw [E.out.2] at CA
    clear hk
    go_enter Try.func19, Try.ntmps19
    go_wp2_with fail
    refine CA.out.mono ?_
    rintro e w1 ⟨rfl, rfl⟩
    go_wp2
    go_ret2
    rw [E.out.1, E.out.2]
    exact ⟨_, rfl, World.ownsRow_nil _ _ _ _, Below.refl _ _⟩
  · have EA : Wn.askE g s h 0 = 0 := by unfold Wn.askE; rw [hk]; rfl
    obtain ⟨hf, h0, hH, a0, a1⟩ := Wn.ask_yes hk
    obtain ⟨H, f⟩ := Wn.fit_of hf
    have s1 := f.s1
    have h14 := f.h14
    have g1 := f.g1
    have g2 := f.g2
    rw [f.hH] at hH
    have hw4 := Wn.wd_pos g1 h
    obtain ⟨m, hm, hm1⟩ : ∃ m : Int, s = Wn.wd g h * m ∧ 1 ≤ m := by
      have e : h = ((h.toNat : Nat) : Int) := by omega
      have q := f.dvd (h := h.toNat) (by omega)
      rw [← e] at q
      exact q
    obtain ⟨n, rfl⟩ : ∃ n : Nat, m = n := ⟨m.toNat, by omega⟩
    have ER := Lib.hid (show Wn.row g s h = (List.range n).map (fun k : Nat => ((k : Int) * Wn.wd g h, (k : Int) * Wn.wd g h + Wn.wd g h)) by
      unfold Wn.row
      have e : s / Wn.wd g h = n := by rw [hm]; exact Int.mul_ediv_cancel_left _ (by omega)
      rw [hk, if_pos rfl, e, Int.toNat_natCast])
    rw [EA] at CA ⊢
    have hle : Wn.wd g h ≤ s := by have q := Int.mul_le_mul_of_nonneg_left hm1 (show 0 ≤ Wn.wd g h by omega); rw [Int.mul_one] at q; rw [hm]; exact q
    have EW := show wrap64 (g * 2 ^ h.toNat) = Wn.wd g h by have e : Wn.wd g h = g * 2 ^ h.toNat := rfl; rw [← e]; unfold wrap64; omega
    have EW2 := show g * 2 ^ h.toNat = Wn.wd g h from rfl
    have CP := Lib.hid (rPow h w h0 (by omega))
    obtain ⟨W, hW⟩ : ∃ W, W = Wn.wd g h := ⟨_, rfl⟩
    rw [← hW] at hw4 hm ER hle EW EW2
    have hn4 : (n : Int) * 4 ≤ s := by rw [hm, Int.mul_comm W]; exact Int.mul_le_mul_of_nonneg_left hw4 (by omega)
    have IN := Lib.hid (show ∀ k : Nat, k < n → (k : Int) * W + W ≤ s by
      intro k hk
      have := Int.mul_le_mul_of_nonneg_right (show ((k : Int) + 1) ≤ n by omega) (show 0 ≤ W by omega)
      rw [Int.add_mul, Int.one_mul] at this
      rw [hm, Int.mul_comm W]
      exact this)
    have END := Lib.hid (show (n : Int) * W = s by rw [hm, Int.mul_comm])
    clear hk hf f EA hm hW hH
    go_enter Try.func19, Try.ntmps19
    go_wp2_with fail
    refine CA.out.mono ?_
    rintro e w1 ⟨rfl, rfl⟩
    go_wp2_with fail
    refine CP.out.mono ?_
    rintro e w1 ⟨rfl, rfl⟩
    go_wp2
    go_loopw [9, 11] (fun v i wr => WinJ (fun k : Nat => ((k : Int) * W, (k : Int) * W + W)) n w v i wr W) (fun _ i _ => (s - intOf i).toNat)
    case atStart => exact ⟨0, Nat.zero_le _, by simp, World.ownsRow_nil _ _ _ _, Below.refl _ _⟩
    case round =>
      obtain ⟨k, hk, hi, hown, hbr⟩ := hrel
      subst hi
      have HO := Lib.hid hown
      have HB := Lib.hid hbr
      have zz := hbr.size
      clear hown hbr
      by_cases hlt : k < n
      · have hin := IN.out k hlt
        have z0 : 0 ≤ (k : Int) * W := Int.mul_nonneg (by omega) (by omega)
        have HM := Lib.hid (pcells_more (fun k : Nat => ((k : Int) * W, (k : Int) * W + W)) k)
        have EK := Lib.hid (show (((k + 1 : Nat) : Int)) * W = (k : Int) * W + W by rw [Int.natCast_add, Int.add_mul]; simp)
        obtain ⟨x, hx⟩ : ∃ x, x = (k : Int) * W := ⟨_, rfl⟩
        dsimp only at HM
        rw [← hx] at hin z0 HM EK ⊢
        clear hx
        go_wp2_with (at_builtin; refine wpList_moreN elemA rfl (.tmp 29) (.tmp 35) rfl wr 33 [.int .i64 x, .int .i64 (x + W)] rfl rfl w.heap.size k _ _ rfl rfl HO.out (by intro u hu; simp at hu; rcases hu with rfl | rfl <;> rfl) zz (by unfold maxLen; omega) (by omega) ?_; intro v5 w5 hown5 hb5; rw [← HM.out] at hown5; have HO5 := Lib.hid hown5; have HB5 := Lib.hid (HB.out.trans hb5); clear hown5 hb5)
        go_roundw
        case rel => exact ⟨k + 1, by omega, by rw [EK.out], HO5.out, HB5.out⟩
        case measure => simp [intOf]; omega
      · obtain rfl : k = n := by omega
        have EE := END.out
        rw [EE]
        go_wp2
        go_ret2
        rw [ER.out]
        exact ⟨_, rfl, by simpa using HO.out, HB.out⟩
end Go.Proofs.Ythnpmbbhbaaloaa
