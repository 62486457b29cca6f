/- What package win's small functions return: within, widthOf, window, mayBe, areSlots; High and Around. -/
import Derived.Test.YthnpmbbhbaaloaaRefA06
import Derived.Test.YthnpmbbhbaaloaaFracA
import Derived.Test.YthnpmbbhbaaloaaRow
import Derived.Deep.DeepCutAuto
import Derived.StillTailTactics
import Derived.LoopTactic
namespace Go.Proofs.Ythnpmbbhbaaloaa
open Go.RowKit
set_option linter.unusedVariables false
set_option linter.unusedSimpArgs false

namespace Wn
def inE (n last : Int) : Bool := decide (0 ≤ n) && decide (n ≤ last)
end Wn

set_option maxHeartbeats 400000 in
theorem vWithin (n last : Int) (w : World) :
    Calls Try.prog 23 #[.int .i64 n, .int .i64 last] w fun e w' => e = .returned (.bool (Wn.inE n last)) ∧ w = w' := by
  have H := Lib.hid (show Wn.inE n last = (decide (0 ≤ n) && decide (n ≤ last)) from rfl)
  rw [H.out]
  by_cases h1 : 0 ≤ n
  · rw [decide_eq_true h1]
    go_enter Try.func23, Try.ntmps23
    go_wp2
    go_ret
    exact ⟨rfl, rfl⟩
  · rw [decide_eq_false h1]
    go_enter Try.func23, Try.ntmps23
    go_wp2
    go_ret
    exact ⟨rfl, rfl⟩

set_option maxHeartbeats 400000 in
theorem vWidth (g h : Int) (w : World) (h1 : 4 ≤ g) (h2 : g ≤ 64) (h3 : 0 ≤ h) (h4 : h ≤ 14) :
    Calls Try.prog 26 #[.int .i64 g, .int .i64 h] w fun e w' => e = .returned (.int .i64 (Wn.wd g h)) ∧ w = w' := by
  have HW := Lib.hid (show wrap64 (g * 2 ^ h.toNat) = Wn.wd g h by have := Wn.wd_le h1 h2 h4; have := Wn.wd_pos h1 h; unfold Wn.wd at *; unfold wrap64; omega)
  go_enter Try.func26, Try.ntmps26
  go_wp2
  go_ret
  rw [← HW.out]
  exact ⟨rfl, rfl⟩

set_option maxHeartbeats 400000 in
theorem vWindow (g h a : Int) (w : World) (h1 : 4 ≤ g) (h2 : g ≤ 64) (h3 : 0 ≤ h) (h4 : h ≤ 14) (a0 : 0 ≤ a) (a1 : a ≤ 65536) :
    Calls Try.prog 25 #[.int .i64 g, .int .i64 h, .int .i64 a] w fun e w' => e = .returned (.agg #[.int .i64 (Wn.lo g h a), .int .i64 (Wn.hi g h a)]) ∧ Below w.heap.size w w' := by
  have hw4 := Wn.wd_pos h1 h
  have hw5 := Wn.wd_le h1 h2 h4
  have CW := Lib.hid (fun W => vWidth g h W h1 h2 h3 h4)
  have m0 := Int.emod_nonneg a (show Wn.wd g h ≠ 0 by omega)
  have m1 := Int.emod_lt_of_pos a (show 0 < Wn.wd g h by omega)
  have hm := Int.mul_ediv_add_emod a (Wn.wd g h)
  have hl0 : 0 ≤ a / Wn.wd g h * Wn.wd g h := Int.mul_nonneg (Int.ediv_nonneg a0 (by omega)) (by omega)
  rw [Int.mul_comm] at hm
  have E1 := Lib.hid (show a - a % Wn.wd g h = Wn.lo g h a by unfold Wn.lo; omega)
  have E2 := Lib.hid (show a - a % Wn.wd g h + Wn.wd g h = Wn.hi g h a by unfold Wn.hi Wn.lo; omega)
  obtain ⟨W, hW⟩ : ∃ W, W = Wn.wd g h := ⟨_, rfl⟩
  rw [← hW] at hw4 hw5 CW m0 m1 E1 E2 hm hl0
  have k0 : ¬ W = 0 := by omega
  have hle : a % W ≤ a := by omega
  clear hW hm hl0
  go_enter Try.func25, Try.ntmps25
  go_wp2_with fail
  refine (CW.out _).mono ?_
  rintro e w1 ⟨rfl, rfl⟩
  go_wp2
  refine bodyPost_ret (v := .agg #[.int .i64 (a - a % W), .int .i64 (a - a % W + W)]) (by simp [results, Try.results25, go_sem]) rfl ⟨by rw [E2.out, E1.out], ?_⟩
  exact ((Below.refl _ _).alloc (Nat.le_refl _) _)
theorem tdiv_smallW {m s : Int} (h1 : m < 1) (h2 : 4 ≤ s) : m.tdiv s ≤ 0 := by
  obtain ⟨k, rfl⟩ : ∃ k : Nat, m = -(k : Int) := ⟨(-m).toNat, by omega⟩
  rw [Int.neg_tdiv]
  have : 0 ≤ (k : Int).tdiv s := Int.tdiv_nonneg (by omega) (by omega)
  omega
theorem tdiv_lowW {m s : Int} (h0 : -9223372036854775808 ≤ m) (h1 : m < 1) (h2 : 4 ≤ s) : -9223372036854775808 ≤ m.tdiv s := by
  obtain ⟨k, rfl⟩ : ∃ k : Nat, m = -(k : Int) := ⟨(-m).toNat, by omega⟩
  rw [Int.neg_tdiv, Int.tdiv_eq_ediv_of_nonneg (by omega)]
  have := Int.ediv_le_self (a := (k : Int)) s (by omega)
  omega
set_option maxHeartbeats 1000000 in
theorem vMayBe (seg many : Int) (w : World) (hs : seg ≤ 9223372036854775807) (hm : -9223372036854775808 ≤ many ∧ many ≤ 9223372036854775807) :
    Calls Try.prog 21 #[.int .i64 seg, .int .i64 many] w fun e w' => e = .returned (.bool (Sl.fitsB seg many)) ∧ w = w' := by
  have HF := Lib.hid (show Sl.fitsB seg many = (decide (4 ≤ seg) && decide (seg ≤ 64) && Fr.powB seg && decide (1 ≤ many) && decide (many ≤ 65536) && decide (many % seg = 0) && Fr.powB (many / seg)) from rfl)
  obtain ⟨hm1, hm2⟩ := hm
  by_cases c1 : seg < 4
  · have H := Lib.hid (show Sl.fitsB seg many = false by rw [HF.out, show decide (4 ≤ seg) = false from by simp; omega]; rfl)
    go_enter Try.func21, Try.ntmps21
    go_wp2
    go_ret
    rw [H.out]
    exact ⟨rfl, rfl⟩
  by_cases c2 : 64 < seg
  · have H := Lib.hid (show Sl.fitsB seg many = false by rw [HF.out, show decide (seg ≤ 64) = false from by simp; omega, Bool.and_false]; rfl)
    go_enter Try.func21, Try.ntmps21
    go_wp2
    go_ret
    rw [H.out]
    exact ⟨rfl, rfl⟩
  clear hs
  have HP := Lib.hid (fPower seg w (by omega))
  cases hp : Fr.powB seg
  · have H := Lib.hid (show Sl.fitsB seg many = false by rw [HF.out, hp, Bool.and_false]; rfl)
    have hp' := Lib.hid hp
    clear hp
    go_enter Try.func21, Try.ntmps21
    go_wp2_with (go_at_call 33; refine HP.out.mono ?_; rintro e w' ⟨rfl, rfl⟩; rw [hp'.out])
    go_ret
    rw [H.out]
    exact ⟨rfl, rfl⟩
  have hp' := Lib.hid hp
  by_cases c4 : 65536 < many
  · have H := Lib.hid (show Sl.fitsB seg many = false by rw [HF.out, show decide (many ≤ 65536) = false from by simp; omega, Bool.and_false]; rfl)
    clear hp
    go_enter Try.func21, Try.ntmps21
    go_wp2_with (go_at_call 33; refine HP.out.mono ?_; rintro e w' ⟨rfl, rfl⟩; rw [hp'.out])
    go_ret
    rw [H.out]
    exact ⟨rfl, rfl⟩
  have k0 : ¬ seg = 0 := by omega
  by_cases c3 : many < 1
  · have H := Lib.hid (show Sl.fitsB seg many = false by rw [HF.out, show decide (1 ≤ many) = false from by simp; omega, Bool.and_false]; rfl)
    have q1 := tdiv_smallW c3 (show 4 ≤ seg by omega)
    have q2 := tdiv_lowW hm1 c3 (show 4 ≤ seg by omega)
    have q3 := Lib.hid (Fr.powB_not (n := many.tdiv seg) (by omega))
    clear hp
    by_cases c5 : many.tmod seg = 0
    · have k1 : (many.tmod seg == 0) = true := by simp [c5]
      clear c5
      go_enter Try.func21, Try.ntmps21
      go_wp2_with (go_at_call 33; first | ((with_reducible refine HP.out.mono ?_); rintro e w' ⟨rfl, rfl⟩; rw [hp'.out]) | (refine (fPower (many.tdiv seg) _ (by omega)).mono ?_; rintro e w' ⟨rfl, rfl⟩; rw [q3.out]))
      go_ret
      rw [H.out]
      exact ⟨rfl, rfl⟩
    · have k1 : (many.tmod seg == 0) = false := by simp [c5]
      clear c5
      go_enter Try.func21, Try.ntmps21
      go_wp2_with (go_at_call 33; first | ((with_reducible refine HP.out.mono ?_); rintro e w' ⟨rfl, rfl⟩; rw [hp'.out]) | (refine (fPower (many.tdiv seg) _ (by omega)).mono ?_; rintro e w' ⟨rfl, rfl⟩; rw [q3.out]))
      go_ret
      rw [H.out]
      exact ⟨rfl, rfl⟩
  have HX := Lib.hid (show Sl.fitsB seg many = (decide (many % seg = 0) && Fr.powB (many / seg)) by
    rw [HF.out, hp, show decide (4 ≤ seg) = true from by simp; omega, show decide (seg ≤ 64) = true from by simp; omega, show decide (1 ≤ many) = true from by simp; omega, show decide (many ≤ 65536) = true from by simp; omega]; simp)
  have hq : many / seg ≤ 65536 := by have := Int.ediv_le_self (a := many) seg (by omega); omega
  have hq0 : 0 ≤ many / seg := Int.ediv_nonneg (a := many) (b := seg) (by omega) (by omega)
  by_cases c5 : many % seg = 0
  · have H := Lib.hid (show Sl.fitsB seg many = Fr.powB (many / seg) by rw [HX.out, decide_eq_true c5, Bool.true_and])
    have k1 : (many % seg == 0) = true := by simp [c5]
    clear hp c5
    go_enter Try.func21, Try.ntmps21
    go_wp2_with (go_at_call 33; first | ((with_reducible refine HP.out.mono ?_); rintro e w' ⟨rfl, rfl⟩; rw [hp'.out]) | (refine (fPower (many / seg) _ (by omega)).mono ?_; rintro e w' ⟨rfl, rfl⟩))
    go_ret
    rw [H.out]
    exact ⟨rfl, rfl⟩
  · have H := Lib.hid (show Sl.fitsB seg many = false by rw [HX.out, decide_eq_false c5, Bool.false_and])
    have k1 : (many % seg == 0) = false := by simp [c5]
    clear hp c5
    go_enter Try.func21, Try.ntmps21
    go_wp2_with (go_at_call 33; first | ((with_reducible refine HP.out.mono ?_); rintro e w' ⟨rfl, rfl⟩; rw [hp'.out]) | (refine (fPower (many / seg) _ (by omega)).mono ?_; rintro e w' ⟨rfl, rfl⟩))
    go_ret
    rw [H.out]
    exact ⟨rfl, rfl⟩


set_option maxHeartbeats 400000 in
theorem vHigh (g s : Int) (w : World) (hg : g ≤ 9223372036854775807) (hs : -9223372036854775808 ≤ s ∧ s ≤ 9223372036854775807) :
    Calls Try.prog 9 #[.int .i64 g, .int .i64 s] w fun e w' => e = .returned (.tuple #[.int .i64 (Wn.highV g s), .int .i64 (Wn.highE g s)]) ∧ w = w' := by
  have CM := Lib.hid (vMayBe g s w hg hs)
  cases hf : Sl.fitsB g s
  · have E := Lib.hid (Wn.high_no hf)
    rw [hf] at CM
    clear hf
    go_enter Try.func9, Try.ntmps9
    go_wp2_with fail
    refine CM.out.mono ?_
    rintro e w1 ⟨rfl, rfl⟩
    go_wp2
    go_ret2
    rw [E.out.1, E.out.2]
    exact ⟨rfl, rfl⟩
  · have E := Lib.hid (Wn.high_yes hf)
    obtain ⟨H, f⟩ := Wn.fit_of hf
    have g1 := f.g1
    have h2 := f.seg
    have h3 := f.s1
    have q1 : 1 ≤ s / g := by have := Int.ediv_le_ediv (c := g) (by omega) h2; rw [Int.ediv_self (by omega)] at this; exact this
    have q2 : s / g ≤ s := Int.ediv_le_self (a := s) g (by omega)
    have CD := Lib.hid (fun W => fDown (s / g) W (by omega))
    rw [(Fr.down_yes q1).1, (Fr.down_yes q1).2, show Fr.lg (s / g) = Wn.high g s from rfl] at CD
    have k0 : ¬ g = 0 := by omega
    rw [hf] at CM
    clear f hf
    go_enter Try.func9, Try.ntmps9
    go_wp2_with fail
    refine CM.out.mono ?_
    rintro e w1 ⟨rfl, rfl⟩
    go_wp2_with fail
    refine (CD.out _).mono ?_
    rintro e w1 ⟨rfl, rfl⟩
    go_wp2
    go_ret2
    rw [E.out.1, E.out.2]
    exact ⟨rfl, rfl⟩

/-- Are all of a list slots? -/
def Wn.areB (s : Int) (zs : List Int) : Bool := zs.all fun z => Wn.inE z (s - 1)
theorem are_take {s : Int} {zs : List Int} {k : Nat} (h : k < zs.length) : Wn.areB s (zs.take (k + 1)) = (Wn.areB s (zs.take k) && Wn.inE (zs.getD k 0) (s - 1)) := by
  unfold Wn.areB
  rw [List.take_add_one, List.getElem?_eq_getElem h, List.all_append]
  simp [List.getD, h]
theorem are_false {s : Int} {zs : List Int} {k : Nat} (h : k < zs.length) (h2 : Wn.inE (zs.getD k 0) (s - 1) = false) : Wn.areB s zs = false := by
  unfold Wn.areB
  rw [List.all_eq_false]
  refine ⟨zs[k], List.getElem_mem h, ?_⟩
  simp only [List.getD, List.getElem?_eq_getElem h, Option.getD_some] at h2
  simp [h2]
def AreJ (s : Int) (zs : List Int) (w : World) (i : Value) (wr : World) : Prop := ∃ k : Nat, k ≤ zs.length ∧ i = .int .i64 k ∧ w = wr ∧ Wn.areB s (zs.take k) = true
set_option maxHeartbeats 400000 in
theorem vAre (s : Int) (a : Option Addr) (cap : Nat) (zs : List Int) (w : World) (hl : Lst .i64 w a zs) (hn : zs.length ≤ 65536) (s0 : 1 ≤ s) (s1 : s ≤ 65536) :
    Calls Try.prog 24 #[.int .i64 s, .slice a zs.length cap] w fun e w' => e = .returned (.bool (Wn.areB s zs)) ∧ w = w' := by
  have HL := Lib.hid hl
  clear hl
  go_enter Try.func24, Try.ntmps24
  go_wp2
  go_loopw [9] (AreJ s zs w) (fun i _ => zs.length - (intOf i).toNat)
  case atStart => exact ⟨0, Nat.zero_le _, rfl, rfl, rfl⟩
  case round =>
    obtain ⟨k, hk, rfl, rfl, ht⟩ := hrel
    have HT := Lib.hid ht
    clear ht
    by_cases hlt : k < zs.length
    · obtain ⟨b1, o1, rfl, _, c1⟩ := HL.out.cell hlt
      have HZ := Lib.hid (are_take (s := s) hlt)
      have HF := Lib.hid (fun h => are_false (s := s) hlt h)
      obtain ⟨x, hx⟩ : ∃ x, zs.getD k 0 = x := ⟨_, rfl⟩
      rw [hx] at c1 HZ HF
      clear hx
      have CW := Lib.hid (vWithin x (s - 1) w)
      cases he : Wn.inE x (s - 1)
      · have HE := Lib.hid (HF.out he)
        rw [he] at CW
        clear he HZ HF
        go_wp2_with fail
        refine CW.out.mono ?_
        rintro e w1 ⟨rfl, rfl⟩
        go_wp2
        go_ret
        rw [HE.out]
        exact ⟨rfl, rfl⟩
      · rw [he] at HZ CW
        clear he HF
        go_wp2_with fail
        refine CW.out.mono ?_
        rintro e w1 ⟨rfl, rfl⟩
        go_wp2
        go_roundw
        case rel => exact ⟨k + 1, by omega, by go_num, rfl, by rw [HZ.out, HT.out]; rfl⟩
        case measure => simp [intOf]; omega
    · have e : k = zs.length := by omega
      go_wp2
      go_ret
      have := HT.out
      rw [e, List.take_length] at this
      rw [this]
      exact ⟨rfl, rfl⟩

end Go.Proofs.Ythnpmbbhbaaloaa
