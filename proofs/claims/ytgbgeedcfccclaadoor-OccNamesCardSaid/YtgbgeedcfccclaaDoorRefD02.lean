/- What the document's own answers of layer 2 (package shelfmarkref02) return: Nth, Next, Last where there is one; then each whole. -/
import Derived.Test.YtgbgeedcfccclaaDoorRefC02
namespace Go.Proofs.YtgbgeedcfccclaaDoor
open Go.RowKit
set_option linter.unusedVariables false

set_option maxHeartbeats 400000 in
theorem r2Next_ok (a : Option Addr) (cap : Nat) (ws : List Nat) (n s : Nat) (w : World) (hl : Lst .u64 w a (ints ws)) (hw : Wide ws) (hn : ws.length ≤ 65536) (hc : Oc.chk ws (n : Int) = 0) (hm : n ≤ 64 * ws.length) (hk : n ≤ 65536) (h2 : s ≤ n) (hp : 0 < (Oc.places ws s n).length) (hq : (((Oc.places ws s n).length : Int) == 0) = false) : Calls Tryd.prog 25 #[.slice a ws.length cap, .int .i64 (n : Int), .int .i64 (s : Int)] w fun e w' => e = .returned (.tuple #[.int .i64 (((Oc.places ws s n).getD 0 0 : Nat) : Int), .int .i64 0]) ∧ Below w.heap.size w w' := by
  have HL := Lib.hid hl
  have HW := Lib.hid hw
  clear hl hw
  obtain ⟨z, hz⟩ : ∃ z, (Oc.places ws s n).getD 0 0 = z := ⟨_, rfl⟩
  have HZ := Lib.hid hz
  clear hz
  go_enter Tryd.func25, Tryd.ntmps25
  go_wp2_with (first | (go_at_call 21; refine (r2Check a cap ws _ _ HL.out HW.out hn).mono ?_; rintro e w' ⟨rfl, rfl⟩) | (go_at_call 36; refine (r2Places' a cap ws s n _ HL.out HW.out hn (by omega) (by omega)).mono ?_; rintro e w1 ⟨A, c, rfl, hL, hb⟩; obtain ⟨b0, o0, rfl, _, hcell⟩ := hL.num (i := 0) (by omega); clear hL; rw [Nat.add_zero] at hcell; rw [HZ.out] at hcell))
  go_ret2
  rw [HZ.out]
  exact ⟨rfl, hb⟩

set_option maxHeartbeats 400000 in
theorem r2Last_ok (a : Option Addr) (cap : Nat) (ws : List Nat) (n s : Nat) (w : World) (hl : Lst .u64 w a (ints ws)) (hw : Wide ws) (hn : ws.length ≤ 65536) (hc : Oc.chk ws (n : Int) = 0) (hm : n ≤ 64 * ws.length) (hk : n ≤ 65536) (h2 : s ≤ n) (hp : 0 < (Oc.places ws 0 s).length) (hq : (((Oc.places ws 0 s).length : Int) == 0) = false) : Calls Tryd.prog 26 #[.slice a ws.length cap, .int .i64 (n : Int), .int .i64 (s : Int)] w fun e w' => e = .returned (.tuple #[.int .i64 (((Oc.places ws 0 s).getD ((Oc.places ws 0 s).length - 1) 0 : Nat) : Int), .int .i64 0]) ∧ Below w.heap.size w w' := by
  have HL := Lib.hid hl
  have HW := Lib.hid hw
  clear hl hw
  obtain ⟨z, hz⟩ : ∃ z, (Oc.places ws 0 s).getD ((Oc.places ws 0 s).length - 1) 0 = z := ⟨_, rfl⟩
  have HZ := Lib.hid hz
  clear hz
  have hle := Oc.places_length_le ws 0 s
  go_enter Tryd.func26, Tryd.ntmps26
  go_wp2_with (first | (go_at_call 21; refine (r2Check a cap ws _ _ HL.out HW.out hn).mono ?_; rintro e w' ⟨rfl, rfl⟩) | (go_at_call 36; refine (r2Places' a cap ws 0 s _ HL.out HW.out hn (by omega) (by omega)).mono ?_; rintro e w1 ⟨A, c, rfl, hL, hb⟩; obtain ⟨b0, o0, rfl, _, hcell⟩ := hL.num (i := (Oc.places ws 0 s).length - 1) (by omega); clear hL; rw [HZ.out] at hcell))
  go_ret2
  rw [HZ.out]
  exact ⟨rfl, hb⟩

set_option maxHeartbeats 400000 in
theorem r2Nth_ok (a : Option Addr) (cap : Nat) (ws : List Nat) (n k : Nat) (w : World) (hl : Lst .u64 w a (ints ws)) (hw : Wide ws) (hn : ws.length ≤ 65536) (hc : Oc.chk ws (n : Int) = 0) (hm : n ≤ 64 * ws.length) (hk : n ≤ 65536) (hp : k < (Oc.places ws 0 n).length) : Calls Tryd.prog 20 #[.slice a ws.length cap, .int .i64 (n : Int), .int .i64 (k : Int)] w fun e w' => e = .returned (.tuple #[.int .i64 (((Oc.places ws 0 n).getD k 0 : Nat) : Int), .int .i64 0]) ∧ Below w.heap.size w w' := by
  have HL := Lib.hid hl
  have HW := Lib.hid hw
  clear hl hw
  obtain ⟨z, hz⟩ : ∃ z, (Oc.places ws 0 n).getD k 0 = z := ⟨_, rfl⟩
  have HZ := Lib.hid hz
  clear hz
  have hle := Oc.places_length_le ws 0 n
  go_enter Tryd.func20, Tryd.ntmps20
  go_wp2_with (first | (go_at_call 21; refine (r2Check a cap ws _ _ HL.out HW.out hn).mono ?_; rintro e w' ⟨rfl, rfl⟩) | (go_at_call 36; refine (r2Places' a cap ws 0 n _ HL.out HW.out hn (by omega) (by omega)).mono ?_; rintro e w1 ⟨A, c, rfl, hL, hb⟩; obtain ⟨b0, o0, rfl, _, hcell⟩ := hL.num (i := k) (by omega); clear hL; rw [HZ.out] at hcell))
  go_ret2
  rw [HZ.out]
  exact ⟨rfl, hb⟩

set_option maxHeartbeats 400000 in
theorem r2Nth_n1 (a : Option Addr) (cap : Nat) (ws : List Nat) (n : Nat) (k : Int) (w : World) (hl : Lst .u64 w a (ints ws)) (hw : Wide ws) (hn : ws.length ≤ 65536) (hc : Oc.chk ws (n : Int) = 0) (hm : n ≤ 64 * ws.length) (hk : n ≤ 65536) (hp : k < 0) : Calls Tryd.prog 20 #[.slice a ws.length cap, .int .i64 (n : Int), .int .i64 k] w fun e w' => e = .returned (.tuple #[.int .i64 0, .int .i64 6]) ∧ Below w.heap.size w w' := by
  have HL := Lib.hid hl
  have HW := Lib.hid hw
  clear hl hw
  go_enter Tryd.func20, Tryd.ntmps20
  go_wp2_with (first | (go_at_call 21; refine (r2Check a cap ws _ _ HL.out HW.out hn).mono ?_; rintro e w' ⟨rfl, rfl⟩) | (go_at_call 36; refine (r2Places' a cap ws 0 n _ HL.out HW.out hn (by omega) (by omega)).mono ?_; rintro e w1 ⟨A, c, rfl, hL, hb⟩))
  go_ret2
  exact ⟨rfl, hb⟩

set_option maxHeartbeats 400000 in
theorem r2Nth_n2 (a : Option Addr) (cap : Nat) (ws : List Nat) (n : Nat) (k : Int) (w : World) (hl : Lst .u64 w a (ints ws)) (hw : Wide ws) (hn : ws.length ≤ 65536) (hc : Oc.chk ws (n : Int) = 0) (hm : n ≤ 64 * ws.length) (hk : n ≤ 65536) (h0 : 0 ≤ k) (hp : ((Oc.places ws 0 n).length : Int) ≤ k) : Calls Tryd.prog 20 #[.slice a ws.length cap, .int .i64 (n : Int), .int .i64 k] w fun e w' => e = .returned (.tuple #[.int .i64 0, .int .i64 6]) ∧ Below w.heap.size w w' := by
  have HL := Lib.hid hl
  have HW := Lib.hid hw
  clear hl hw
  go_enter Tryd.func20, Tryd.ntmps20
  go_wp2_with (first | (go_at_call 21; refine (r2Check a cap ws _ _ HL.out HW.out hn).mono ?_; rintro e w' ⟨rfl, rfl⟩) | (go_at_call 36; refine (r2Places' a cap ws 0 n _ HL.out HW.out hn (by omega) (by omega)).mono ?_; rintro e w1 ⟨A, c, rfl, hL, hb⟩))
  go_ret2
  exact ⟨rfl, hb⟩

theorem r2Has (a : Option Addr) (cap : Nat) (ws : List Nat) (n s : Int) (w : World) (hl : Lst .u64 w a (ints ws)) (hw : Wide ws) (hn : ws.length ≤ 65536) : Calls Tryd.prog 23 #[.slice a ws.length cap, .int .i64 n, .int .i64 s] w fun e w' => e = .returned (.tuple #[.bool (Oc.hasV ws n s), .int .i64 (Oc.hasE ws n s)]) ∧ Below w.heap.size w w' := by
  by_cases hc : Oc.chk ws n = 0
  · obtain ⟨m, rfl, hm, hlen, _⟩ := Oc.chk_ok hc
    by_cases h1 : s < 0
    · have e1 : Oc.hasE ws (m : Int) s = 2 := by simp [Oc.hasE, hc, h1]
      have e2 : Oc.hasV ws (m : Int) s = false := by simp [Oc.hasV, e1]
      rw [e1, e2]
      exact (r2Has_a1 a cap ws _ s w hl hw hn hc h1).mono fun e w' h => ⟨h.1, h.2 ▸ Below.refl _ _⟩
    by_cases h2 : (m : Int) ≤ s
    · have e1 : Oc.hasE ws (m : Int) s = 2 := by simp [Oc.hasE, hc, h2]
      have e2 : Oc.hasV ws (m : Int) s = false := by simp [Oc.hasV, e1]
      rw [e1, e2]
      exact (r2Has_a2 a cap ws _ s w hl hw hn hc (by omega) h2).mono fun e w' h => ⟨h.1, h.2 ▸ Below.refl _ _⟩
    obtain ⟨s, rfl⟩ := Int.eq_ofNat_of_zero_le (show 0 ≤ s by omega)
    have e1 : Oc.hasE ws (m : Int) (s : Int) = 0 := by simp [Oc.hasE, hc]; omega
    have e2 : Oc.hasV ws (m : Int) (s : Int) = Oc.isB ws s := by simp [Oc.hasV, e1]
    rw [e1, e2]
    exact r2Has_ok a cap ws m s w hl hw hn hc (by omega) hm (by omega)
  · have e1 : Oc.hasE ws n s = Oc.chk ws n := by simp [Oc.hasE, hc]
    have e2 : Oc.hasV ws n s = false := by simp [Oc.hasV, e1, hc]
    rw [e1, e2]
    exact (r2Has_chk a cap ws n s w hl hw hn hc).mono fun e w' h => ⟨h.1, h.2 ▸ Below.refl _ _⟩

theorem r2Count (a : Option Addr) (cap : Nat) (ws : List Nat) (n p q : Int) (w : World) (hl : Lst .u64 w a (ints ws)) (hw : Wide ws) (hn : ws.length ≤ 65536) : Calls Tryd.prog 19 #[.slice a ws.length cap, .int .i64 n, .int .i64 p, .int .i64 q] w fun e w' => e = .returned (.tuple #[.int .i64 (Oc.countV ws n p q), .int .i64 (Oc.countE ws n p q)]) ∧ Below w.heap.size w w' := by
  by_cases hc : Oc.chk ws n = 0
  · obtain ⟨m, rfl, hm, hlen, _⟩ := Oc.chk_ok hc
    by_cases hbad : p < 0 ∨ q < p ∨ (m : Int) < q
    · have e1 : Oc.countE ws (m : Int) p q = 2 := by simp [Oc.countE, hc, hbad]
      have e2 : Oc.countV ws (m : Int) p q = 0 := by simp [Oc.countV, e1]
      rw [e1, e2]
      by_cases h1 : p < 0
      · exact (r2Count_a1 a cap ws _ p q w hl hw hn hc h1).mono fun e w' h => ⟨h.1, h.2 ▸ Below.refl _ _⟩
      by_cases h2 : q < p
      · exact (r2Count_a2 a cap ws _ p q w hl hw hn hc (by omega) h2).mono fun e w' h => ⟨h.1, h.2 ▸ Below.refl _ _⟩
      · exact (r2Count_a3 a cap ws _ p q w hl hw hn hc (by omega) (by omega) (by omega)).mono fun e w' h => ⟨h.1, h.2 ▸ Below.refl _ _⟩
    obtain ⟨p, rfl⟩ := Int.eq_ofNat_of_zero_le (show 0 ≤ p by omega)
    obtain ⟨q, rfl⟩ := Int.eq_ofNat_of_zero_le (show 0 ≤ q by omega)
    have e1 : Oc.countE ws (m : Int) (p : Int) (q : Int) = 0 := by unfold Oc.countE; rw [if_pos hc, if_neg hbad]
    have e2 : Oc.countV ws (m : Int) (p : Int) (q : Int) = ((Oc.places ws p q).length : Int) := by simp [Oc.countV, e1]
    rw [e1, e2]
    exact r2Count_ok a cap ws m p q w hl hw hn hc (by omega) hm (by omega) (by omega)
  · have e1 : Oc.countE ws n p q = Oc.chk ws n := by simp [Oc.countE, hc]
    have e2 : Oc.countV ws n p q = 0 := by simp [Oc.countV, e1, hc]
    rw [e1, e2]
    exact (r2Count_chk a cap ws n p q w hl hw hn hc).mono fun e w' h => ⟨h.1, h.2 ▸ Below.refl _ _⟩

theorem r2Nth (a : Option Addr) (cap : Nat) (ws : List Nat) (n s : Int) (w : World) (hl : Lst .u64 w a (ints ws)) (hw : Wide ws) (hn : ws.length ≤ 65536) : Calls Tryd.prog 20 #[.slice a ws.length cap, .int .i64 n, .int .i64 s] w fun e w' => e = .returned (.tuple #[.int .i64 (Oc.nthV ws n s), .int .i64 (Oc.nthE ws n s)]) ∧ Below w.heap.size w w' := by
  by_cases hc : Oc.chk ws n = 0
  · obtain ⟨m, rfl, hm, hlen, _⟩ := Oc.chk_ok hc
    by_cases hbad : s < 0 ∨ ((Oc.places ws 0 m).length : Int) ≤ s
    · have e1 : Oc.nthE ws (m : Int) s = 6 := by unfold Oc.nthE; rw [if_pos hc, Int.toNat_natCast, if_pos hbad]
      have e2 : Oc.nthV ws (m : Int) s = 0 := by simp [Oc.nthV, e1]
      rw [e1, e2]
      by_cases h1 : s < 0
      · exact r2Nth_n1 a cap ws m s w hl hw hn hc (by omega) hm h1
      · exact r2Nth_n2 a cap ws m s w hl hw hn hc (by omega) hm (by omega) (by omega)
    obtain ⟨s, rfl⟩ := Int.eq_ofNat_of_zero_le (show 0 ≤ s by omega)
    have e1 : Oc.nthE ws (m : Int) (s : Int) = 0 := by unfold Oc.nthE; rw [if_pos hc, Int.toNat_natCast, if_neg hbad]
    have e2 : Oc.nthV ws (m : Int) (s : Int) = (((Oc.places ws 0 m).getD s 0 : Nat) : Int) := by unfold Oc.nthV; rw [if_pos e1, Int.toNat_natCast, Int.toNat_natCast]
    rw [e1, e2]
    exact r2Nth_ok a cap ws m s w hl hw hn hc (by omega) hm (by omega)
  · have e1 : Oc.nthE ws n s = Oc.chk ws n := by simp [Oc.nthE, hc]
    have e2 : Oc.nthV ws n s = 0 := by simp [Oc.nthV, e1, hc]
    rw [e1, e2]
    exact (r2Nth_chk a cap ws n s w hl hw hn hc).mono fun e w' h => ⟨h.1, h.2 ▸ Below.refl _ _⟩

theorem r2Next (a : Option Addr) (cap : Nat) (ws : List Nat) (n s : Int) (w : World) (hl : Lst .u64 w a (ints ws)) (hw : Wide ws) (hn : ws.length ≤ 65536) : Calls Tryd.prog 25 #[.slice a ws.length cap, .int .i64 n, .int .i64 s] w fun e w' => e = .returned (.tuple #[.int .i64 (Oc.nextV ws n s), .int .i64 (Oc.nextE ws n s)]) ∧ Below w.heap.size w w' := by
  by_cases hc : Oc.chk ws n = 0
  · obtain ⟨m, rfl, hm, hlen, _⟩ := Oc.chk_ok hc
    by_cases hbad : s < 0 ∨ (m : Int) < s
    · have e1 : Oc.nextE ws (m : Int) s = 2 := by unfold Oc.nextE; rw [if_pos hc, if_pos hbad]
      have e2 : Oc.nextV ws (m : Int) s = 0 := by simp [Oc.nextV, e1]
      rw [e1, e2]
      by_cases h1 : s < 0
      · exact (r2Next_a1 a cap ws _ s w hl hw hn hc h1).mono fun e w' h => ⟨h.1, h.2 ▸ Below.refl _ _⟩
      · exact (r2Next_a2 a cap ws _ s w hl hw hn hc (by omega) (by omega)).mono fun e w' h => ⟨h.1, h.2 ▸ Below.refl _ _⟩
    obtain ⟨s, rfl⟩ := Int.eq_ofNat_of_zero_le (show 0 ≤ s by omega)
    by_cases h0 : (Oc.places ws s m).length = 0
    · have e1 : Oc.nextE ws (m : Int) (s : Int) = 6 := by unfold Oc.nextE; simp only [Int.toNat_natCast]; rw [if_pos hc, if_neg hbad, if_pos h0]
      have e2 : Oc.nextV ws (m : Int) (s : Int) = 0 := by simp [Oc.nextV, e1]
      rw [e1, e2]
      exact r2Next_none a cap ws m s w hl hw hn hc (by omega) hm (by omega) (by simp [h0])
    · have e1 : Oc.nextE ws (m : Int) (s : Int) = 0 := by unfold Oc.nextE; simp only [Int.toNat_natCast]; rw [if_pos hc, if_neg hbad, if_neg h0]
      have e2 : Oc.nextV ws (m : Int) (s : Int) = (((Oc.places ws s m).getD (0) 0 : Nat) : Int) := by unfold Oc.nextV; rw [if_pos e1]; simp only [Int.toNat_natCast]
      rw [e1, e2]
      exact r2Next_ok a cap ws m s w hl hw hn hc (by omega) hm (by omega) (by omega) (by rw [beq_eq_false_iff_ne]; omega)
  · have e1 : Oc.nextE ws n s = Oc.chk ws n := by simp [Oc.nextE, hc]
    have e2 : Oc.nextV ws n s = 0 := by simp [Oc.nextV, e1, hc]
    rw [e1, e2]
    exact (r2Next_chk a cap ws n s w hl hw hn hc).mono fun e w' h => ⟨h.1, h.2 ▸ Below.refl _ _⟩

theorem r2Last (a : Option Addr) (cap : Nat) (ws : List Nat) (n s : Int) (w : World) (hl : Lst .u64 w a (ints ws)) (hw : Wide ws) (hn : ws.length ≤ 65536) : Calls Tryd.prog 26 #[.slice a ws.length cap, .int .i64 n, .int .i64 s] w fun e w' => e = .returned (.tuple #[.int .i64 (Oc.lastV ws n s), .int .i64 (Oc.lastE ws n s)]) ∧ Below w.heap.size w w' := by
  by_cases hc : Oc.chk ws n = 0
  · obtain ⟨m, rfl, hm, hlen, _⟩ := Oc.chk_ok hc
    by_cases hbad : s < 0 ∨ (m : Int) < s
    · have e1 : Oc.lastE ws (m : Int) s = 2 := by unfold Oc.lastE; rw [if_pos hc, if_pos hbad]
      have e2 : Oc.lastV ws (m : Int) s = 0 := by simp [Oc.lastV, e1]
      rw [e1, e2]
      by_cases h1 : s < 0
      · exact (r2Last_a1 a cap ws _ s w hl hw hn hc h1).mono fun e w' h => ⟨h.1, h.2 ▸ Below.refl _ _⟩
      · exact (r2Last_a2 a cap ws _ s w hl hw hn hc (by omega) (by omega)).mono fun e w' h => ⟨h.1, h.2 ▸ Below.refl _ _⟩
    obtain ⟨s, rfl⟩ := Int.eq_ofNat_of_zero_le (show 0 ≤ s by omega)
    by_cases h0 : (Oc.places ws 0 s).length = 0
    · have e1 : Oc.lastE ws (m : Int) (s : Int) = 6 := by unfold Oc.lastE; simp only [Int.toNat_natCast]; rw [if_pos hc, if_neg hbad, if_pos h0]
      have e2 : Oc.lastV ws (m : Int) (s : Int) = 0 := by simp [Oc.lastV, e1]
      rw [e1, e2]
      exact r2Last_none a cap ws m s w hl hw hn hc (by omega) hm (by omega) (by simp [h0])
    · have e1 : Oc.lastE ws (m : Int) (s : Int) = 0 := by unfold Oc.lastE; simp only [Int.toNat_natCast]; rw [if_pos hc, if_neg hbad, if_neg h0]
      have e2 : Oc.lastV ws (m : Int) (s : Int) = (((Oc.places ws 0 s).getD ((Oc.places ws 0 s).length - 1) 0 : Nat) : Int) := by unfold Oc.lastV; rw [if_pos e1]; simp only [Int.toNat_natCast]
      rw [e1, e2]
      exact r2Last_ok a cap ws m s w hl hw hn hc (by omega) hm (by omega) (by omega) (by rw [beq_eq_false_iff_ne]; omega)
  · have e1 : Oc.lastE ws n s = Oc.chk ws n := by simp [Oc.lastE, hc]
    have e2 : Oc.lastV ws n s = 0 := by simp [Oc.lastV, e1, hc]
    rw [e1, e2]
    exact (r2Last_chk a cap ws n s w hl hw hn hc).mono fun e w' h => ⟨h.1, h.2 ▸ Below.refl _ _⟩
end Go.Proofs.YtgbgeedcfccclaaDoor
