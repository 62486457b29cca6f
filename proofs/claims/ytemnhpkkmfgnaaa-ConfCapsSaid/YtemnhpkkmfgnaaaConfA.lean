/- What package conf's small functions return: within, all (and slices.Contains, slices.Index under it), atMost, slotsOf, heightOf. -/
import Derived.Test.YtemnhpkkmfgnaaaFracC
import Derived.Test.YtemnhpkkmfgnaaaCfv
import Derived.StillTailTactics
import Derived.Deep.DeepCutAuto
namespace Go.Proofs.Ytemnhpkkmfgnaaa
open Go.RowKit
set_option linter.unusedVariables false
set_option linter.unusedSimpArgs false

set_option maxHeartbeats 400000 in
theorem kIndex (bk off cap : Nat) (bs : List Bool) (w : World) (hl : bs.length ≤ 1000) (h : BLst w bk off bs) :
    Calls Try.prog 52 #[.slice (some ⟨bk, off, none⟩) bs.length cap, .bool false] w fun e w' => e = .returned (.int .i64 (idxB bs)) ∧ w = w' := by
  have HC := Lib.hid h
  clear h
  obtain ⟨n, hn⟩ : ∃ n, bs.length = n := ⟨_, rfl⟩
  rw [hn] at hl ⊢
  have HN := Lib.hid hn
  clear hn
  go_enter Try.func52, Try.ntmps52
  go_wp2
  go_loop [8] (fun i => ∃ k : Nat, k ≤ n ∧ i = .int .i64 k ∧ Hid ((bs.take k).all id = true)) (fun i => n - (intOf i).toNat)
  case atStart => exact ⟨0, Nat.zero_le _, rfl, Lib.hid rfl⟩
  case round =>
    obtain ⟨k, hk, rfl, HA⟩ := hrel
    by_cases hlt : k < n
    · have hcell := HC.out k (by rw [HN.out]; exact hlt)
      cases hb : bs.getD k false
      · rw [hb] at hcell
        have HI := Lib.hid (idx_at bs k (by rw [HN.out]; exact hlt) hb HA.out).1
        clear hb
        go_wp2
        go_ret
        rw [HI.out]
        exact ⟨rfl, rfl⟩
      · rw [hb] at hcell
        have HB := Lib.hid hb
        clear hb
        go_wp2
        go_round
        case rel => exact ⟨k + 1, by omega, by go_num, Lib.hid (all_take_b bs k (by rw [HN.out]; exact hlt) HB.out HA.out)⟩
        case measure => simp [intOf]; omega
    · go_wp2
      go_ret
      have := HA.out
      rw [List.take_of_length_le (by rw [HN.out]; omega)] at this
      unfold idxB
      rw [this]
      exact ⟨rfl, rfl⟩

set_option maxHeartbeats 400000 in
theorem kContains (bk off cap : Nat) (bs : List Bool) (w : World) (hl : bs.length ≤ 1000) (h : BLst w bk off bs) :
    Calls Try.prog 46 #[.slice (some ⟨bk, off, none⟩) bs.length cap, .bool false] w fun e w' => e = .returned (.bool (!bs.all id)) ∧ w = w' := by
  have CI := Lib.hid (kIndex bk off cap bs w hl h)
  have HG := Lib.hid (idx_ge bs)
  clear h hl
  obtain ⟨x, hx⟩ : ∃ x, idxB bs = x := ⟨_, rfl⟩
  obtain ⟨n, hn⟩ : ∃ n, bs.length = n := ⟨_, rfl⟩
  obtain ⟨b, hb⟩ : ∃ b, (!bs.all id) = b := ⟨_, rfl⟩
  rw [hx, hb] at HG
  rw [hx, hn] at CI
  rw [hn, hb]
  clear hx hn hb
  go_enter Try.func46, Try.ntmps46
  go_wp2_with fail
  refine CI.out.mono ?_
  rintro e w1 ⟨rfl, rfl⟩
  go_wp2
  go_ret
  rw [← HG.out]
  exact ⟨rfl, rfl⟩

set_option maxHeartbeats 400000 in
theorem kAll (bk off cap : Nat) (bs : List Bool) (w : World) (hl : bs.length ≤ 1000) (h : BLst w bk off bs) :
    Calls Try.prog 32 #[.slice (some ⟨bk, off, none⟩) bs.length cap] w fun e w' => e = .returned (.bool (bs.all id)) ∧ w = w' := by
  have CI := Lib.hid (kContains bk off cap bs w hl h)
  clear h hl
  obtain ⟨n, hn⟩ : ∃ n, bs.length = n := ⟨_, rfl⟩
  obtain ⟨b, hb⟩ : ∃ b, bs.all id = b := ⟨_, rfl⟩
  rw [hb, hn] at CI
  rw [hn, hb]
  clear hn hb
  go_enter Try.func32, Try.ntmps32
  go_wp2_with fail
  refine CI.out.mono ?_
  rintro e w1 ⟨rfl, rfl⟩
  go_wp2
  go_ret
  cases b <;> exact ⟨rfl, rfl⟩

def withinB (n lo hi : Int) : Bool := decide (lo ≤ n) && decide (n ≤ hi)
set_option maxHeartbeats 400000 in
theorem kWithin (n lo hi : Int) (w : World) :
    Calls Try.prog 26 #[.int .i64 n, .int .i64 lo, .int .i64 hi] w fun e w' => e = .returned (.bool (withinB n lo hi)) ∧ w = w' := by
  have H := Lib.hid (show withinB n lo hi = (decide (lo ≤ n) && decide (n ≤ hi)) from rfl)
  rw [H.out]
  by_cases h1 : lo ≤ n
  · rw [decide_eq_true h1]
    go_enter Try.func26, Try.ntmps26
    go_wp2
    go_ret
    exact ⟨rfl, rfl⟩
  · rw [decide_eq_false h1]
    go_enter Try.func26, Try.ntmps26
    go_wp2
    go_ret
    exact ⟨rfl, rfl⟩

def atMostB (a b c d : Int) : Bool := Fr.small4 a b c d && decide (a * d ≤ b * c)
theorem atMost_eq (a b c d : Int) : atMostB a b c d = (Fr.crossE a b c d == 0 && decide (Fr.crossV a b c d ≤ 0)) := by
  unfold atMostB Fr.crossE Fr.crossV
  cases Fr.small4 a b c d
  · rfl
  · simp only [if_true, Bool.true_and, Fr.sgn]
    rw [Bool.eq_iff_iff]
    simp only [Bool.and_eq_true, decide_eq_true_eq, beq_self_eq_true, true_and]
    split <;> first | omega | (split <;> omega)
set_option maxHeartbeats 400000 in
theorem kAtMost (a b c d : Int) (w : World) :
    Calls Try.prog 29 #[.int .i64 a, .int .i64 b, .int .i64 c, .int .i64 d] w fun e w' => e = .returned (.bool (atMostB a b c d)) ∧ Below w.heap.size w w' := by
  have H := Lib.hid (atMost_eq a b c d)
  have CC := Lib.hid (fCross a b c d w)
  rw [H.out]
  obtain ⟨x, hx⟩ : ∃ x, Fr.crossE a b c d = x := ⟨_, rfl⟩
  obtain ⟨y, hy⟩ : ∃ y, Fr.crossV a b c d = y := ⟨_, rfl⟩
  rw [hx, hy] at CC
  rw [hx, hy]
  clear hx hy H
  by_cases h1 : x = 0
  · have k1 : (x == 0) = true := by simp [h1]
    clear h1
    rw [k1]
    go_enter Try.func29, Try.ntmps29
    go_wp2_with fail
    refine CC.out.mono ?_
    rintro e w1 ⟨rfl, hb⟩
    go_wp2
    go_ret
    exact ⟨rfl, hb⟩
  · have k1 : (x == 0) = false := by simp [h1]
    clear h1
    rw [k1]
    go_enter Try.func29, Try.ntmps29
    go_wp2_with fail
    refine CC.out.mono ?_
    rintro e w1 ⟨rfl, hb⟩
    go_wp2
    go_ret
    exact ⟨rfl, hb⟩
end Go.Proofs.Ytemnhpkkmfgnaaa
