/- What the document's own answer Meet of layer 6 (package shelfmarkref06) returns. It makes no memory. -/
import Derived.Test.YthnpmbbhbaaloaaRefA06
import Derived.LoopTactic
namespace Go.Proofs.Ythnpmbbhbaaloaa
open Go.RowKit
set_option linter.unusedVariables false
set_option linter.unusedSimpArgs false

namespace Wn
theorem meetB_in {g s a b : Int} (hk : askB g s 0 a = true) : meetB g s a b = (decide (0 ≤ b) && decide (b < s)) := by unfold meetB; rw [hk]; rfl
end Wn

set_option maxHeartbeats 2000000 in
theorem r6Meet (g s a b : Int) (w : World) (hg : g ≤ 9223372036854775807) (hs : s ≤ 9223372036854775807) :
    Calls Try.prog 20 #[.int .i64 g, .int .i64 s, .int .i64 a, .int .i64 b] w fun e w' => e = .returned (.tuple #[.int .i64 (Wn.meetV g s a b), .int .i64 (Wn.meetE g s a b)]) ∧ w = w' := by
  have CA := Lib.hid (r6asked g s 0 a w hg hs)
  cases hk : Wn.askB g s 0 a
  · have E := Lib.hid (show Wn.meetV g s a b = 0 ∧ Wn.meetE g s a b = 2 ∧ Wn.askE g s 0 a = 2 by unfold Wn.meetV Wn.meetE Wn.meetB Wn.askE; rw [hk]; exact ⟨rfl, rfl, rfl⟩)
    rw [E.out.2.2] at CA
    clear hk
    go_enter Try.func20, Try.ntmps20
    go_wp2_with fail
    refine CA.out.mono ?_
    rintro e w1 ⟨rfl, rfl⟩
    go_wp2
    go_ret2
    rw [E.out.1, E.out.2.1]
    exact ⟨rfl, rfl⟩
  · have EA : Wn.askE g s 0 a = 0 := by unfold Wn.askE; rw [hk]; rfl
    rw [EA] at CA
    have EB := Lib.hid (Wn.meetB_in (b := b) hk)
    obtain ⟨hf, _, _, a0, a1⟩ := Wn.ask_yes hk
    obtain ⟨H, f⟩ := Wn.fit_of hf
    have s1 := f.s1
    clear EA
    by_cases h1 : b < 0
    · have E := Lib.hid (show Wn.meetV g s a b = 0 ∧ Wn.meetE g s a b = 2 by unfold Wn.meetV Wn.meetE; rw [EB.out, decide_eq_false (show ¬ 0 ≤ b by omega)]; exact ⟨rfl, rfl⟩)
      clear hk hf f
      go_enter Try.func20, Try.ntmps20
      go_wp2_with fail
      refine CA.out.mono ?_
      rintro e w1 ⟨rfl, rfl⟩
      go_wp2
      go_ret2
      rw [E.out.1, E.out.2]
      exact ⟨rfl, rfl⟩
    · by_cases h2 : s ≤ b
      · have E := Lib.hid (show Wn.meetV g s a b = 0 ∧ Wn.meetE g s a b = 2 by unfold Wn.meetV Wn.meetE; rw [EB.out, decide_eq_false (show ¬ b < s by omega), Bool.and_false]; exact ⟨rfl, rfl⟩)
        clear hk hf f
        go_enter Try.func20, Try.ntmps20
        go_wp2_with fail
        refine CA.out.mono ?_
        rintro e w1 ⟨rfl, rfl⟩
        go_wp2
        go_ret2
        rw [E.out.1, E.out.2]
        exact ⟨rfl, rfl⟩
      · have E := Lib.hid (show Wn.meetV g s a b = Wn.meetF H g a b 0 ∧ Wn.meetE g s a b = 0 by
          unfold Wn.meetV Wn.meetE
          rw [EB.out, decide_eq_true (show 0 ≤ b by omega), decide_eq_true (show b < s by omega), f.hH, Int.toNat_natCast]
          exact ⟨rfl, rfl⟩)
        have F := Lib.hid f
        have CO := Lib.hid (fun (k : Nat) (x : Int) (hk : k ≤ H) (x0 : 0 ≤ x) (x1 : x < s) => r6Of g k x w f.g1 f.g2 (by omega) (by have := f.h14; omega) x0 (by omega))
        have h14 := f.h14
        clear hk hf f
        go_enter Try.func20, Try.ntmps20
        go_wp2_with fail
        refine CA.out.mono ?_
        rintro e w1 ⟨rfl, rfl⟩
        go_wp2
        go_loop [11] (fun i => ∃ k : Nat, k ≤ H ∧ i = .int .i64 k ∧ Hid (Wn.meetF (H - k) g a b k = Wn.meetF H g a b 0)) (fun i => H - (intOf i).toNat)
        case atStart => exact ⟨0, Nat.zero_le _, rfl, Lib.hid rfl⟩
        case round =>
          obtain ⟨k, hk, rfl, HM⟩ := hrel
          have C1 := Lib.hid (CO.out k a hk a0 a1)
          have C2 := Lib.hid (CO.out k b hk (by omega) (by omega))
          by_cases he : Wn.lo g k a = Wn.lo g k b
          · have V := Lib.hid (show Wn.meetF H g a b 0 = k by
              rw [← HM.out]
              cases hd : H - k with
              | zero => rfl
              | succ d => unfold Wn.meetF; rw [if_pos he])
            obtain ⟨x, hx⟩ : ∃ x, x = Wn.lo g k a := ⟨_, rfl⟩
            rw [← he, ← hx] at C2
            rw [← hx] at C1
            clear he hx
            go_wp2_with fail
            refine C1.out.mono ?_
            rintro e w1 ⟨rfl, rfl⟩
            go_wp2_with fail
            refine C2.out.mono ?_
            rintro e w1 ⟨rfl, rfl⟩
            go_wp2
            go_ret2
            rw [E.out.1, E.out.2, V.out]
            exact ⟨rfl, rfl⟩
          · have hlt : k < H := by
              rcases Nat.lt_or_ge k H with h3 | h3
              · exact h3
              · exfalso
                have : k = H := by omega
                subst this
                exact he (by rw [F.out.meet_top a0 a1, F.out.meet_top (by omega) (by omega)])
            have V := Lib.hid (show Wn.meetF (H - (k + 1)) g a b (k + 1) = Wn.meetF H g a b 0 by
              rw [← HM.out, show H - k = (H - (k + 1)) + 1 from by omega]
              conv => rhs; unfold Wn.meetF
              rw [if_neg he])
            have ne : (Wn.lo g k a == Wn.lo g k b) = false := by simpa using he
            obtain ⟨x, hx⟩ : ∃ x, x = Wn.lo g k a := ⟨_, rfl⟩
            obtain ⟨y, hy⟩ : ∃ y, y = Wn.lo g k b := ⟨_, rfl⟩
            rw [← hx] at C1 ne
            rw [← hy] at C2 ne
            clear he hx hy
            go_wp2_with fail
            refine C1.out.mono ?_
            rintro e w1 ⟨rfl, rfl⟩
            go_wp2_with fail
            refine C2.out.mono ?_
            rintro e w1 ⟨rfl, rfl⟩
            go_wp2
            go_round
            case rel => exact ⟨k + 1, by omega, by go_num, V⟩
            case measure => simp [intOf]; omega
end Go.Proofs.Ythnpmbbhbaaloaa
