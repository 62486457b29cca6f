/- What package win's Around returns. It makes memory (the list that areSlots is handed). -/
import Derived.Test.YthnpmbbhbaaloaaWinA
import Derived.BigQuiet
namespace Go.Proofs.Ythnpmbbhbaaloaa
open Go.RowKit
set_option linter.unusedVariables false
set_option linter.unusedSimpArgs false

theorem lst_one (a : Int) (w : World) (t : TypeId) : Lst .i64 (w.alloc (.cells #[.int .i64 a] t)) (some ⟨w.heap.size, 0, none⟩) [a] := by
  refine Or.inr ⟨w.heap.size, 0, rfl, by simp, fun i hi => ?_⟩
  obtain rfl : i = 0 := by simp at hi; omega
  have hh : (w.alloc (.cells #[.int .i64 a] t)).heap[w.heap.size]? = some (.cells #[.int .i64 a] t) := by show (w.heap.push _)[w.heap.size]? = _; exact Array.getElem?_push_size
  simp only [World.cell?, hh]
  rfl
theorem lst_two (a b : Int) (w : World) (t : TypeId) : Lst .i64 (w.alloc (.cells #[.int .i64 a, .int .i64 b] t)) (some ⟨w.heap.size, 0, none⟩) [a, b] := by
  refine Or.inr ⟨w.heap.size, 0, rfl, by simp, fun i hi => ?_⟩
  have : i = 0 ∨ i = 1 := by simp at hi; omega
  have hh : (w.alloc (.cells #[.int .i64 a, .int .i64 b] t)).heap[w.heap.size]? = some (.cells #[.int .i64 a, .int .i64 b] t) := by show (w.heap.push _)[w.heap.size]? = _; exact Array.getElem?_push_size
  rcases this with rfl | rfl <;> (simp only [World.cell?, hh]; rfl)

namespace Wn
theorem are_one (s a : Int) : areB s [a] = (decide (0 ≤ a) && decide (a < s)) := by
  unfold areB inE
  simp only [List.all_cons, List.all_nil, Bool.and_true]
  rw [show decide (a ≤ s - 1) = decide (a < s) from by simp; omega]
theorem are_two (s a b : Int) : areB s [a, b] = (decide (0 ≤ a) && decide (a < s) && (decide (0 ≤ b) && decide (b < s))) := by
  unfold areB inE
  simp only [List.all_cons, List.all_nil, Bool.and_true]
  rw [show decide (a ≤ s - 1) = decide (a < s) from by simp; omega, show decide (b ≤ s - 1) = decide (b < s) from by simp; omega]
theorem ask_are {g s h a : Int} (hf : Sl.fitsB g s = true) : askB g s h a = (inE h (high g s) && areB s [a]) := by rw [ask_in hf, are_one]; rfl
/-- All that is answered where what is asked is not right. -/
theorem ask_no {g s h a : Int} (hk : askB g s h a = false) : loV g s h a = 0 ∧ hiV g s h a = 0 ∧ askE g s h a = 2 := by unfold loV hiV askE; rw [hk]; exact ⟨rfl, rfl, rfl⟩
theorem ask_ok {g s h a : Int} (hk : askB g s h a = true) : loV g s h a = lo g h a ∧ hiV g s h a = hi g h a ∧ askE g s h a = 0 := by unfold loV hiV askE; rw [hk]; exact ⟨rfl, rfl, rfl⟩
end Wn

set_option maxHeartbeats 1000000 in
theorem vAround (g s h a : Int) (w : World) (hg : g ≤ 9223372036854775807) (hs : -9223372036854775808 ≤ s ∧ s ≤ 9223372036854775807) :
    Calls Try.prog 10 #[.int .i64 g, .int .i64 s, .int .i64 h, .int .i64 a] w fun e w' => e = .returned (.tuple #[.int .i64 (Wn.loV g s h a), .int .i64 (Wn.hiV g s h a), .int .i64 (Wn.askE g s h a)]) ∧ Below w.heap.size w w' := by
  have CH := Lib.hid (fun W => vHigh g s W hg hs)
  cases hf : Sl.fitsB g s
  · have E := Lib.hid (Wn.ask_no (Wn.ask_fits (h := h) (a := a) hf))
    rw [(Wn.high_no hf).1, (Wn.high_no hf).2] at CH
    clear hf
    go_enter Try.func10, Try.ntmps10
    go_wp2_with fail
    refine (CH.out _).mono ?_
    rintro e w1 ⟨rfl, rfl⟩
    go_wp2
    go_ret3
    rw [E.out.1, E.out.2.1, E.out.2.2]
    exact ⟨rfl, Below.refl _ _⟩
  · rw [(Wn.high_yes hf).1, (Wn.high_yes hf).2] at CH
    obtain ⟨H, f⟩ := Wn.fit_of hf
    have AK := Lib.hid (Wn.ask_are (h := h) (a := a) hf)
    have HH := Lib.hid f.hH
    have h14 := f.h14
    have s1 := f.s1
    have sg := f.seg
    have g1 := f.g1
    have g2 := f.g2
    obtain ⟨top, htop⟩ : ∃ top, top = Wn.high g s := ⟨_, rfl⟩
    rw [← htop] at CH AK HH
    have CI := Lib.hid (fun W => vWithin h top W)
    have CA := Lib.hid (fun W => vAre s (some ⟨W.heap.size, 0, none⟩) 1 [a] (W.alloc (.cells #[.int .i64 a] 3)) (lst_one a W _) (by simp) (by omega) (by omega))
    clear hf f htop
    cases hi : Wn.inE h top
    · have E := Lib.hid (Wn.ask_no (show Wn.askB g s h a = false by rw [AK.out, hi]; rfl))
      rw [hi] at CI
      clear hi
      go_enter Try.func10, Try.ntmps10
      go_wp2_with fail
      refine (CH.out _).mono ?_
      rintro e w1 ⟨rfl, rfl⟩
      go_wp2_with fail
      refine (CI.out _).mono ?_
      rintro e w1 ⟨rfl, rfl⟩
      go_wp2
      go_ret3
      rw [E.out.1, E.out.2.1, E.out.2.2]
      exact ⟨rfl, Below.refl _ _⟩
    · cases ha : Wn.areB s [a]
      · have E := Lib.hid (Wn.ask_no (show Wn.askB g s h a = false by rw [AK.out, hi, ha]; rfl))
        rw [hi] at CI
        rw [ha] at CA
        clear hi ha
        go_enter Try.func10, Try.ntmps10
        go_wp2_with fail
        refine (CH.out _).mono ?_
        rintro e w1 ⟨rfl, rfl⟩
        go_wp2_with fail
        refine (CI.out _).mono ?_
        rintro e w1 ⟨rfl, rfl⟩
        go_wp2_with fail
        refine (CA.out _).mono ?_
        rintro e w1 ⟨rfl, rfl⟩
        go_wp2
        go_ret3
        rw [E.out.1, E.out.2.1, E.out.2.2]
        exact ⟨rfl, (Below.refl _ _).alloc (Nat.le_refl _) _⟩
      · have hk : Wn.askB g s h a = true := by rw [AK.out, hi, ha]; rfl
        have E := Lib.hid (Wn.ask_ok hk)
        obtain ⟨_, h0, _, a0, a1⟩ := Wn.ask_yes hk
        have hle : h ≤ top := by simp [Wn.inE] at hi; omega
        have CV := Lib.hid (fun W => vWindow g h a W g1 g2 h0 (by have := HH.out; omega) a0 (by omega))
        rw [hi] at CI
        rw [ha] at CA
        clear hi ha hk
        obtain ⟨x, hx⟩ : ∃ x, x = Wn.lo g h a := ⟨_, rfl⟩
        obtain ⟨y, hy⟩ : ∃ y, y = Wn.hi g h a := ⟨_, rfl⟩
        rw [← hx, ← hy] at CV E
        clear hx hy
        go_enter Try.func10, Try.ntmps10
        go_wp2_with fail
        refine (CH.out _).mono ?_
        rintro e w1 ⟨rfl, rfl⟩
        go_wp2_with fail
        refine (CI.out _).mono ?_
        rintro e w1 ⟨rfl, rfl⟩
        go_wp2_with fail
        refine (CA.out _).mono ?_
        rintro e w1 ⟨rfl, rfl⟩
        have B1 := Lib.hid ((Below.refl w.heap.size w).alloc (Nat.le_refl _) (.cells #[.int .i64 a] 3))
        go_wp2_with fail
        refine (CV.out _).mono ?_
        rintro e w2 ⟨rfl, hb⟩
        have B2 := Lib.hid (B1.out.trans (hb.mono B1.out.size))
        clear hb B1
        go_wp2
        go_quiet (fail)
        go_wp2
        go_ret3
        rw [E.out.1, E.out.2.1, E.out.2.2]
        exact ⟨rfl, below_drewN (B2.out.alloc B2.out.size _) _⟩
end Go.Proofs.Ythnpmbbhbaaloaa
