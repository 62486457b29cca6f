/- What Check, checkPlace, checkSlot, Has, Count and Same of package occ return. -/
import Derived.Test.YtgbgeedcfccclaaDoorOccP
namespace Go.Proofs.YtgbgeedcfccclaaDoor
open Go.RowKit
set_option linter.unusedVariables false

theorem check_word {ws : List Nat} {n : Nat} (hw : Wide ws) (h0 : 0 < n) (hlen : ws.length = (n + 63) / 64) :
    (((Oc.wordAt ws (ws.length - 1) (n : Int) ((ws.length : Int) * 64) : Nat) : Int) != 0) = !Oc.clearB ws n := by
  unfold Oc.wordAt
  have e : (ws.length : Int) * 64 = ((64 * ws.length : Nat) : Int) := by omega
  rw [e]
  have h1 := Oc.cut_zero (Oc.cut_lt (ws.length - 1) (n : Int) ((64 * ws.length : Nat) : Int) (hw (ws.length - 1)))
  have h2 := Oc.cut_places (ws := ws) (ws.length - 1) n (64 * ws.length) (hw _)
  rw [Nat.max_eq_left (by omega), Nat.min_eq_left (by omega)] at h2
  have h3 : (((Oc.cut (ws.getD (ws.length - 1) 0) (ws.length - 1) (n : Int) ((64 * ws.length : Nat) : Int) : Nat) : Int) != 0) = (Oc.cut (ws.getD (ws.length - 1) 0) (ws.length - 1) (n : Int) ((64 * ws.length : Nat) : Int) != 0) := by
    rw [Bool.eq_iff_iff]; simp
  rw [h3, h1]
  unfold Oc.clearB
  rw [← h2, List.isEmpty_map]

set_option maxHeartbeats 1000000 in
theorem oCheck (a : Option Addr) (cap : Nat) (ws : List Nat) (n : Int) (w : World) (hl : Lst .u64 w a (ints ws)) (hw : Wide ws) (hn : ws.length ≤ 65536) :
    Calls Tryd.prog 15 #[.slice a ws.length cap, .int .i64 n] w fun e w' => e = .returned (.int .i64 (Oc.chk ws n)) ∧ Below w.heap.size w w' := by
  have HL := Lib.hid hl
  have HW := Lib.hid hw
  clear hl hw
  by_cases h1 : n < 0
  · have H := Lib.hid (show Oc.chk ws n = 2 by simp [Oc.chk, Oc.badN, h1])
    go_enter Tryd.func15, Tryd.ntmps15
    go_wp2
    go_ret
    rw [H.out]
    exact ⟨rfl, Below.refl _ _⟩
  by_cases h2 : 65536 < n
  · have H := Lib.hid (show Oc.chk ws n = 2 by simp [Oc.chk, Oc.badN, h2])
    go_enter Tryd.func15, Tryd.ntmps15
    go_wp2
    go_ret
    rw [H.out]
    exact ⟨rfl, Below.refl _ _⟩
  obtain ⟨m, rfl⟩ := Int.eq_ofNat_of_zero_le (show 0 ≤ n by omega)
  have h3 : Oc.badN (m : Int) = false := by simp [Oc.badN]; omega
  by_cases h4 : ws.length = (m + 63) / 64
  · by_cases h0 : m = 0
    · subst h0
      have hnil : ws = [] := List.eq_nil_of_length_eq_zero (by omega)
      subst hnil
      have H := Lib.hid (show Oc.chk [] ((0 : Nat) : Int) = 0 by decide)
      clear h3 h4
      go_enter Tryd.func15, Tryd.ntmps15
      go_wp2_with (go_at_call 28; refine (oWordsOf _ _ (by omega) (by omega)).mono ?_; rintro e w' ⟨rfl, rfl⟩)
      go_ret
      rw [H.out]
      exact ⟨rfl, Below.refl _ _⟩
    · have k1 : ((ws.length : Int) != ((m : Int) + 63) / 64) = false := by simp; omega
      have k0 : 0 < (m : Int) := by omega
      have KW := check_word HW.out (show 0 < m by omega) h4
      have hpos : 0 < ws.length := by omega
      cases h5 : Oc.clearB ws m
      · have H := Lib.hid (show Oc.chk ws (m : Int) = 8 by simp [Oc.chk, h3, Oc.mayB, h5])
        rw [h5] at KW
        simp only [Bool.not_false] at KW
        have H4 := Lib.hid h4
        clear h3 h4 h5
        go_enter Tryd.func15, Tryd.ntmps15
        go_wp2_with (first | (go_at_call 28; refine (oWordsOf _ _ (by omega) (by omega)).mono ?_; rintro e w' ⟨rfl, rfl⟩) | (go_at_call 27; refine (oPart a ws.length cap _ _ _).mono ?_; rintro e w1 ⟨b1, b2, b3, rfl, hP, hb1⟩) | (go_at_call 40; refine (oWord' a cap ws _ _ _ (ws.length - 1) b1 b2 b3 _ hP (HL.out.below hb1) HW.out (by omega) (by omega) hn (by omega) (by omega) (by omega) (by omega)).mono ?_; rintro e w2 ⟨rfl, hb2⟩))
        go_ret
        rw [H.out]
        exact ⟨rfl, hb1.trans (hb2.mono hb1.size)⟩
      · have H := Lib.hid (show Oc.chk ws (m : Int) = 0 by simp [Oc.chk, h3, Oc.mayB, h5]; omega)
        rw [h5] at KW
        simp only [Bool.not_true] at KW
        have H4 := Lib.hid h4
        clear h3 h4 h5
        go_enter Tryd.func15, Tryd.ntmps15
        go_wp2_with (first | (go_at_call 28; refine (oWordsOf _ _ (by omega) (by omega)).mono ?_; rintro e w' ⟨rfl, rfl⟩) | (go_at_call 27; refine (oPart a ws.length cap _ _ _).mono ?_; rintro e w1 ⟨b1, b2, b3, rfl, hP, hb1⟩) | (go_at_call 40; refine (oWord' a cap ws _ _ _ (ws.length - 1) b1 b2 b3 _ hP (HL.out.below hb1) HW.out (by omega) (by omega) hn (by omega) (by omega) (by omega) (by omega)).mono ?_; rintro e w2 ⟨rfl, hb2⟩))
        go_ret
        rw [H.out]
        exact ⟨rfl, hb1.trans (hb2.mono hb1.size)⟩
  · have H := Lib.hid (show Oc.chk ws (m : Int) = 8 by simp [Oc.chk, h3, Oc.mayB, h4])
    have k1 : ((ws.length : Int) != ((m : Int) + 63) / 64) = true := by simp; omega
    clear h3 h4
    go_enter Tryd.func15, Tryd.ntmps15
    go_wp2_with (go_at_call 28; refine (oWordsOf _ _ (by omega) (by omega)).mono ?_; rintro e w' ⟨rfl, rfl⟩)
    go_ret
    rw [H.out]
    exact ⟨rfl, Below.refl _ _⟩

def Oc.placeE (ws : List Nat) (n s : Int) : Int := if Oc.chk ws n = 0 then (if s < 0 ∨ n < s then 2 else 0) else Oc.chk ws n
set_option maxHeartbeats 1000000 in
theorem oPlace (a : Option Addr) (cap : Nat) (ws : List Nat) (n s : Int) (w : World) (hl : Lst .u64 w a (ints ws)) (hw : Wide ws) (hn : ws.length ≤ 65536) :
    Calls Tryd.prog 30 #[.slice a ws.length cap, .int .i64 n, .int .i64 s] w fun e w' => e = .returned (.int .i64 (Oc.placeE ws n s)) ∧ Below w.heap.size w w' := by
  have HL := Lib.hid hl
  have HW := Lib.hid hw
  clear hl hw
  by_cases hc : Oc.chk ws n = 0
  · by_cases h1 : s < 0
    · have H := Lib.hid (show Oc.placeE ws n s = 2 by simp [Oc.placeE, hc, h1])
      go_enter Tryd.func30, Tryd.ntmps30
      go_wp2_with (go_at_call 15; refine (oCheck a cap ws _ _ HL.out HW.out hn).mono ?_; rintro e w1 ⟨rfl, hb1⟩; rw [hc])
      go_ret
      rw [H.out]
      exact ⟨rfl, hb1⟩
    by_cases h2 : n < s
    · have H := Lib.hid (show Oc.placeE ws n s = 2 by simp [Oc.placeE, hc, h2])
      go_enter Tryd.func30, Tryd.ntmps30
      go_wp2_with (go_at_call 15; refine (oCheck a cap ws _ _ HL.out HW.out hn).mono ?_; rintro e w1 ⟨rfl, hb1⟩; rw [hc])
      go_ret
      rw [H.out]
      exact ⟨rfl, hb1⟩
    · have H := Lib.hid (show Oc.placeE ws n s = 0 by simp [Oc.placeE, hc, h1, h2])
      go_enter Tryd.func30, Tryd.ntmps30
      go_wp2_with (go_at_call 15; refine (oCheck a cap ws _ _ HL.out HW.out hn).mono ?_; rintro e w1 ⟨rfl, hb1⟩; rw [hc])
      go_ret
      rw [H.out]
      exact ⟨rfl, hb1⟩
  · have H := Lib.hid (show Oc.placeE ws n s = Oc.chk ws n by simp [Oc.placeE, hc])
    have k1 : (Oc.chk ws n != 0) = true := by simp [hc]
    clear hc
    go_enter Tryd.func30, Tryd.ntmps30
    go_wp2_with (go_at_call 15; refine (oCheck a cap ws _ _ HL.out HW.out hn).mono ?_; rintro e w1 ⟨rfl, hb1⟩)
    go_ret
    rw [H.out]
    exact ⟨rfl, hb1⟩

set_option maxHeartbeats 1000000 in
theorem oSlot (a : Option Addr) (cap : Nat) (ws : List Nat) (n s : Int) (w : World) (hl : Lst .u64 w a (ints ws)) (hw : Wide ws) (hn : ws.length ≤ 65536) :
    Calls Tryd.prog 33 #[.slice a ws.length cap, .int .i64 n, .int .i64 s] w fun e w' => e = .returned (.int .i64 (Oc.hasE ws n s)) ∧ Below w.heap.size w w' := by
  have HL := Lib.hid hl
  have HW := Lib.hid hw
  clear hl hw
  by_cases hc : Oc.placeE ws n s = 0
  · have hc1 : Oc.chk ws n = 0 ∧ ¬ s < 0 ∧ ¬ n < s := by
      unfold Oc.placeE at hc
      split at hc
      · rename_i h; split at hc
        · omega
        · exact ⟨h, by omega, by omega⟩
      · contradiction
    by_cases h1 : s = n
    · subst h1
      have H := Lib.hid (show Oc.hasE ws s s = 2 by simp [Oc.hasE, hc1.1])
      clear hc1
      go_enter Tryd.func33, Tryd.ntmps33
      go_wp2_with (go_at_call 30; refine (oPlace a cap ws _ _ _ HL.out HW.out hn).mono ?_; rintro e w1 ⟨rfl, hb1⟩; rw [hc])
      go_ret
      rw [H.out]
      exact ⟨rfl, hb1⟩
    · have H := Lib.hid (show Oc.hasE ws n s = 0 by unfold Oc.hasE; rw [if_pos hc1.1, if_neg (by omega)])
      have k1 : (s == n) = false := by simp [h1]
      clear hc1 h1
      go_enter Tryd.func33, Tryd.ntmps33
      go_wp2_with (go_at_call 30; refine (oPlace a cap ws _ _ _ HL.out HW.out hn).mono ?_; rintro e w1 ⟨rfl, hb1⟩; rw [hc])
      go_ret
      rw [H.out]
      exact ⟨rfl, hb1⟩
  · have H := Lib.hid (show Oc.hasE ws n s = Oc.placeE ws n s by
      unfold Oc.placeE at hc ⊢
      unfold Oc.hasE
      split
      · rename_i h
        rw [if_pos h] at hc
        split at hc
        · rw [if_pos (by omega), if_pos (by omega)]
        · contradiction
      · rfl)
    have k1 : (Oc.placeE ws n s != 0) = true := by simp [hc]
    clear hc
    go_enter Tryd.func33, Tryd.ntmps33
    go_wp2_with (go_at_call 30; refine (oPlace a cap ws _ _ _ HL.out HW.out hn).mono ?_; rintro e w1 ⟨rfl, hb1⟩)
    go_ret
    rw [H.out]
    exact ⟨rfl, hb1⟩

theorem hasE_ok {ws : List Nat} {n s : Int} (h : Oc.hasE ws n s = 0) : ∃ m k : Nat, n = m ∧ s = k ∧ k < m ∧ m ≤ 65536 ∧ ws.length = (m + 63) / 64 := by
  unfold Oc.hasE at h
  split at h
  · rename_i hc
    obtain ⟨m, rfl, hm, hlen, _⟩ := Oc.chk_ok hc
    split at h
    · omega
    · exact ⟨m, s.toNat, rfl, by omega, by omega, hm, hlen⟩
  · contradiction
theorem has_word {ws : List Nat} (hw : Wide ws) (s : Nat) : (((Oc.wordAt ws (s / 64) (s : Int) ((s : Int) + 1) : Nat) : Int) != 0) = Oc.isB ws s := by
  unfold Oc.wordAt
  have e : (s : Int) + 1 = ((s + 1 : Nat) : Int) := by omega
  rw [e]
  have h1 := Oc.cut_zero (Oc.cut_lt (s / 64) (s : Int) ((s + 1 : Nat) : Int) (hw (s / 64)))
  have h2 := Oc.cut_places (ws := ws) (s / 64) s (s + 1) (hw _)
  rw [Nat.max_eq_left (by omega), Nat.min_eq_left (by omega), Oc.places_snoc _ _ _ (Nat.le_refl _), Oc.places_self] at h2
  have h3 : (((Oc.cut (ws.getD (s / 64) 0) (s / 64) (s : Int) ((s + 1 : Nat) : Int) : Nat) : Int) != 0) = (Oc.cut (ws.getD (s / 64) 0) (s / 64) (s : Int) ((s + 1 : Nat) : Int) != 0) := by
    rw [Bool.eq_iff_iff]; simp
  rw [h3, h1, ← List.isEmpty_map (f := (64 * (s / 64) + ·)), h2]
  cases Oc.isB ws s <;> rfl
set_option maxHeartbeats 1000000 in
theorem oHas (a : Option Addr) (cap : Nat) (ws : List Nat) (n s : Int) (w : World) (hl : Lst .u64 w a (ints ws)) (hw : Wide ws) (hn : ws.length ≤ 65536) :
    Calls Tryd.prog 13 #[.slice a ws.length cap, .int .i64 n, .int .i64 s] w fun e w' => e = .returned (.tuple #[.bool (Oc.hasV ws n s), .int .i64 (Oc.hasE ws n s)]) ∧ Below w.heap.size w w' := by
  have HL := Lib.hid hl
  have HW := Lib.hid hw
  clear hl hw
  by_cases hc : Oc.hasE ws n s = 0
  · have H := Lib.hid (show Oc.hasV ws n s = Oc.isB ws s.toNat by unfold Oc.hasV; rw [if_pos hc])
    obtain ⟨m, k, rfl, rfl, h1, h2, h3⟩ := hasE_ok hc
    rw [Int.toNat_natCast] at H
    have KW := has_word HW.out k
    have h4 : k / 64 < ws.length := by omega
    clear h3
    go_enter Tryd.func13, Tryd.ntmps13
    go_wp2_with fail
    refine (oSlot a cap ws _ _ _ HL.out HW.out hn).mono ?_
    rintro e w1 ⟨rfl, hb1⟩
    rw [hc]
    go_wp2_with fail
    refine (oPart a ws.length cap _ _ _).mono ?_
    rintro e w2 ⟨b1, b2, b3, rfl, hP, hb2⟩
    go_wp2_with fail
    refine (oWord' a cap ws _ _ _ (k / 64) b1 b2 b3 _ hP ((HL.out.below hb1).below hb2) HW.out (by omega) (by omega) hn (by omega) (by omega) (by omega) (by omega)).mono ?_
    rintro e w3 ⟨rfl, hb3⟩
    go_wp2_with fail
    go_ret2
    rw [H.out, hc]
    exact ⟨rfl, (hb1.trans (hb2.mono hb1.size)).trans (hb3.mono (hb1.trans (hb2.mono hb1.size)).size)⟩
  · have k1 : (Oc.hasE ws n s != 0) = true := by simp [hc]
    have H := Lib.hid (show Oc.hasV ws n s = false by unfold Oc.hasV; rw [if_neg hc])
    clear hc
    go_enter Tryd.func13, Tryd.ntmps13
    go_wp2_with (go_at_call 33; refine (oSlot a cap ws _ _ _ HL.out HW.out hn).mono ?_; rintro e w1 ⟨rfl, hb1⟩)
    go_ret2
    rw [H.out]
    exact ⟨rfl, hb1⟩
end Go.Proofs.YtgbgeedcfccclaaDoor
