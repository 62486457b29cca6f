/- What the document's own answers of layer 2 (package shelfmarkref02) return: Has, Count, Nth, Next, Last. -/
import Derived.Test.YtgbgeedcfccclaaDoorRefB02
namespace Go.Proofs.YtgbgeedcfccclaaDoor
open Go.RowKit
set_option linter.unusedVariables false

theorem own_lst {w : World} {base : Nat} {e : TypeId} {v : Value} {ps : List Nat} (h : w.ownsRow base e 1 v ps.length (ps.map fun s : Nat => Value.int .i64 (s : Int))) :
    ∃ A cap, v = .slice A ps.length cap ∧ Lst .i64 w A (ints ps) := by
  rcases h.2 with ⟨hv, h0⟩ | ⟨g, cap, cur, hv, _⟩
  · exact ⟨none, 0, by rw [hv, h0], by rw [List.eq_nil_of_length_eq_zero h0]; exact Or.inl rfl⟩
  · subst hv
    refine ⟨_, cap, rfl, ?_⟩
    by_cases h0 : ps = []
    · rw [h0]; exact Or.inl rfl
    · refine Or.inr ⟨g, 0, rfl, (World.ownsRow.lt h g rfl).2, fun i hi => ?_⟩
      rw [ints_length] at hi
      have := World.ownsRow.cells h (g := g) rfl i (.int .i64 ((ps.getD i 0 : Nat) : Int)) (by simp [List.getD, List.getElem?_eq_getElem hi])
      rw [ints_getD, ← this]
      congr 1
      unfold Addr.add
      split <;> simp_all

theorem r2Places' (a : Option Addr) (cap : Nat) (ws : List Nat) (lo hi : Nat) (w : World) (hl : Lst .u64 w a (ints ws)) (hw : Wide ws) (hn : ws.length ≤ 65536) (hh : hi ≤ 64 * ws.length) (hlo : lo ≤ 4194304) :
    Calls Tryd.prog 36 #[.slice a ws.length cap, .int .i64 (lo : Int), .int .i64 (hi : Int)] w fun e w' => ∃ A c, e = .returned (.slice A (Oc.places ws lo hi).length c) ∧ Lst .i64 w' A (ints (Oc.places ws lo hi)) ∧ Below w.heap.size w w' := by
  refine (r2Places a cap ws lo hi w hl hw hn hh hlo).mono ?_
  rintro e w' ⟨v, rfl, hown, hb⟩
  obtain ⟨A, c, rfl, hL⟩ := own_lst hown
  exact ⟨A, c, rfl, hL, hb⟩
theorem Lst.num {w : World} {a : Option Addr} {ps : List Nat} (h : Lst .i64 w a (ints ps)) {i : Nat} (hi : i < ps.length) :
    ∃ b off, a = some ⟨b, off, none⟩ ∧ b < w.heap.size ∧ w.cell? ⟨b, off + i, none⟩ = some (.int .i64 ((ps.getD i 0 : Nat) : Int)) := by
  have := h.cell (i := i) (by rw [ints_length]; exact hi)
  rw [ints_getD] at this
  exact this

set_option maxHeartbeats 400000 in
theorem r2Has_chk (a : Option Addr) (cap : Nat) (ws : List Nat) (n s : Int) (w : World) (hl : Lst .u64 w a (ints ws)) (hw : Wide ws) (hn : ws.length ≤ 65536) (hc : ¬ Oc.chk ws n = 0) : Calls Tryd.prog 23 #[.slice a ws.length cap, .int .i64 n, .int .i64 s] w fun e w' => e = .returned (.tuple #[.bool false, .int .i64 (Oc.chk ws n)]) ∧ w = w' := by
  have HL := Lib.hid hl
  have HW := Lib.hid hw
  have k1 : (Oc.chk ws n == 0) = false := by simp [hc]
  have k2 : (Oc.chk ws n != 0) = true := by simp [hc]
  clear hl hw hc
  go_enter Tryd.func23, Tryd.ntmps23
  go_wp2_with (go_at_call 21; refine (r2Check a cap ws _ _ HL.out HW.out hn).mono ?_; rintro e w' ⟨rfl, rfl⟩)
  go_ret2
  exact ⟨rfl, rfl⟩

set_option maxHeartbeats 400000 in
theorem r2Count_chk (a : Option Addr) (cap : Nat) (ws : List Nat) (n p q : Int) (w : World) (hl : Lst .u64 w a (ints ws)) (hw : Wide ws) (hn : ws.length ≤ 65536) (hc : ¬ Oc.chk ws n = 0) : Calls Tryd.prog 19 #[.slice a ws.length cap, .int .i64 n, .int .i64 p, .int .i64 q] w fun e w' => e = .returned (.tuple #[.int .i64 0, .int .i64 (Oc.chk ws n)]) ∧ w = w' := by
  have HL := Lib.hid hl
  have HW := Lib.hid hw
  have k1 : (Oc.chk ws n == 0) = false := by simp [hc]
  have k2 : (Oc.chk ws n != 0) = true := by simp [hc]
  clear hl hw hc
  go_enter Tryd.func19, Tryd.ntmps19
  go_wp2_with (go_at_call 21; refine (r2Check a cap ws _ _ HL.out HW.out hn).mono ?_; rintro e w' ⟨rfl, rfl⟩)
  go_ret2
  exact ⟨rfl, rfl⟩

set_option maxHeartbeats 400000 in
theorem r2Nth_chk (a : Option Addr) (cap : Nat) (ws : List Nat) (n s : Int) (w : World) (hl : Lst .u64 w a (ints ws)) (hw : Wide ws) (hn : ws.length ≤ 65536) (hc : ¬ Oc.chk ws n = 0) : Calls Tryd.prog 20 #[.slice a ws.length cap, .int .i64 n, .int .i64 s] w fun e w' => e = .returned (.tuple #[.int .i64 0, .int .i64 (Oc.chk ws n)]) ∧ w = w' := by
  have HL := Lib.hid hl
  have HW := Lib.hid hw
  have k1 : (Oc.chk ws n == 0) = false := by simp [hc]
  have k2 : (Oc.chk ws n != 0) = true := by simp [hc]
  clear hl hw hc
  go_enter Tryd.func20, Tryd.ntmps20
  go_wp2_with (go_at_call 21; refine (r2Check a cap ws _ _ HL.out HW.out hn).mono ?_; rintro e w' ⟨rfl, rfl⟩)
  go_ret2
  exact ⟨rfl, rfl⟩

set_option maxHeartbeats 400000 in
theorem r2Next_chk (a : Option Addr) (cap : Nat) (ws : List Nat) (n s : Int) (w : World) (hl : Lst .u64 w a (ints ws)) (hw : Wide ws) (hn : ws.length ≤ 65536) (hc : ¬ Oc.chk ws n = 0) : Calls Tryd.prog 25 #[.slice a ws.length cap, .int .i64 n, .int .i64 s] w fun e w' => e = .returned (.tuple #[.int .i64 0, .int .i64 (Oc.chk ws n)]) ∧ w = w' := by
  have HL := Lib.hid hl
  have HW := Lib.hid hw
  have k1 : (Oc.chk ws n == 0) = false := by simp [hc]
  have k2 : (Oc.chk ws n != 0) = true := by simp [hc]
  clear hl hw hc
  go_enter Tryd.func25, Tryd.ntmps25
  go_wp2_with (go_at_call 21; refine (r2Check a cap ws _ _ HL.out HW.out hn).mono ?_; rintro e w' ⟨rfl, rfl⟩)
  go_ret2
  exact ⟨rfl, rfl⟩

set_option maxHeartbeats 400000 in
theorem r2Last_chk (a : Option Addr) (cap : Nat) (ws : List Nat) (n s : Int) (w : World) (hl : Lst .u64 w a (ints ws)) (hw : Wide ws) (hn : ws.length ≤ 65536) (hc : ¬ Oc.chk ws n = 0) : Calls Tryd.prog 26 #[.slice a ws.length cap, .int .i64 n, .int .i64 s] w fun e w' => e = .returned (.tuple #[.int .i64 0, .int .i64 (Oc.chk ws n)]) ∧ w = w' := by
  have HL := Lib.hid hl
  have HW := Lib.hid hw
  have k1 : (Oc.chk ws n == 0) = false := by simp [hc]
  have k2 : (Oc.chk ws n != 0) = true := by simp [hc]
  clear hl hw hc
  go_enter Tryd.func26, Tryd.ntmps26
  go_wp2_with (go_at_call 21; refine (r2Check a cap ws _ _ HL.out HW.out hn).mono ?_; rintro e w' ⟨rfl, rfl⟩)
  go_ret2
  exact ⟨rfl, rfl⟩

set_option maxHeartbeats 400000 in
theorem r2Has_a1 (a : Option Addr) (cap : Nat) (ws : List Nat) (n s : Int) (w : World) (hl : Lst .u64 w a (ints ws)) (hw : Wide ws) (hn : ws.length ≤ 65536) (hc : Oc.chk ws n = 0) (h1 : s < 0) : Calls Tryd.prog 23 #[.slice a ws.length cap, .int .i64 n, .int .i64 s] w fun e w' => e = .returned (.tuple #[.bool false, .int .i64 2]) ∧ w = w' := by
  have HL := Lib.hid hl
  have HW := Lib.hid hw
  clear hl hw
  go_enter Tryd.func23, Tryd.ntmps23
  go_wp2_with (go_at_call 21; refine (r2Check a cap ws _ _ HL.out HW.out hn).mono ?_; rintro e w' ⟨rfl, rfl⟩)
  go_ret2
  exact ⟨rfl, rfl⟩

set_option maxHeartbeats 400000 in
theorem r2Has_a2 (a : Option Addr) (cap : Nat) (ws : List Nat) (n s : Int) (w : World) (hl : Lst .u64 w a (ints ws)) (hw : Wide ws) (hn : ws.length ≤ 65536) (hc : Oc.chk ws n = 0) (h1 : 0 ≤ s) (h2 : n ≤ s) : Calls Tryd.prog 23 #[.slice a ws.length cap, .int .i64 n, .int .i64 s] w fun e w' => e = .returned (.tuple #[.bool false, .int .i64 2]) ∧ w = w' := by
  have HL := Lib.hid hl
  have HW := Lib.hid hw
  clear hl hw
  go_enter Tryd.func23, Tryd.ntmps23
  go_wp2_with (go_at_call 21; refine (r2Check a cap ws _ _ HL.out HW.out hn).mono ?_; rintro e w' ⟨rfl, rfl⟩)
  go_ret2
  exact ⟨rfl, rfl⟩

set_option maxHeartbeats 400000 in
theorem r2Count_a1 (a : Option Addr) (cap : Nat) (ws : List Nat) (n p q : Int) (w : World) (hl : Lst .u64 w a (ints ws)) (hw : Wide ws) (hn : ws.length ≤ 65536) (hc : Oc.chk ws n = 0) (h1 : p < 0) : Calls Tryd.prog 19 #[.slice a ws.length cap, .int .i64 n, .int .i64 p, .int .i64 q] w fun e w' => e = .returned (.tuple #[.int .i64 0, .int .i64 2]) ∧ w = w' := by
  have HL := Lib.hid hl
  have HW := Lib.hid hw
  clear hl hw
  go_enter Tryd.func19, Tryd.ntmps19
  go_wp2_with (go_at_call 21; refine (r2Check a cap ws _ _ HL.out HW.out hn).mono ?_; rintro e w' ⟨rfl, rfl⟩)
  go_ret2
  exact ⟨rfl, rfl⟩

set_option maxHeartbeats 400000 in
theorem r2Count_a2 (a : Option Addr) (cap : Nat) (ws : List Nat) (n p q : Int) (w : World) (hl : Lst .u64 w a (ints ws)) (hw : Wide ws) (hn : ws.length ≤ 65536) (hc : Oc.chk ws n = 0) (h1 : 0 ≤ p) (h2 : q < p) : Calls Tryd.prog 19 #[.slice a ws.length cap, .int .i64 n, .int .i64 p, .int .i64 q] w fun e w' => e = .returned (.tuple #[.int .i64 0, .int .i64 2]) ∧ w = w' := by
  have HL := Lib.hid hl
  have HW := Lib.hid hw
  clear hl hw
  go_enter Tryd.func19, Tryd.ntmps19
  go_wp2_with (go_at_call 21; refine (r2Check a cap ws _ _ HL.out HW.out hn).mono ?_; rintro e w' ⟨rfl, rfl⟩)
  go_ret2
  exact ⟨rfl, rfl⟩

set_option maxHeartbeats 400000 in
theorem r2Count_a3 (a : Option Addr) (cap : Nat) (ws : List Nat) (n p q : Int) (w : World) (hl : Lst .u64 w a (ints ws)) (hw : Wide ws) (hn : ws.length ≤ 65536) (hc : Oc.chk ws n = 0) (h1 : 0 ≤ p) (h2 : p ≤ q) (h3 : n < q) : Calls Tryd.prog 19 #[.slice a ws.length cap, .int .i64 n, .int .i64 p, .int .i64 q] w fun e w' => e = .returned (.tuple #[.int .i64 0, .int .i64 2]) ∧ w = w' := by
  have HL := Lib.hid hl
  have HW := Lib.hid hw
  clear hl hw
  go_enter Tryd.func19, Tryd.ntmps19
  go_wp2_with (go_at_call 21; refine (r2Check a cap ws _ _ HL.out HW.out hn).mono ?_; rintro e w' ⟨rfl, rfl⟩)
  go_ret2
  exact ⟨rfl, rfl⟩

set_option maxHeartbeats 400000 in
theorem r2Next_a1 (a : Option Addr) (cap : Nat) (ws : List Nat) (n s : Int) (w : World) (hl : Lst .u64 w a (ints ws)) (hw : Wide ws) (hn : ws.length ≤ 65536) (hc : Oc.chk ws n = 0) (h1 : s < 0) : Calls Tryd.prog 25 #[.slice a ws.length cap, .int .i64 n, .int .i64 s] w fun e w' => e = .returned (.tuple #[.int .i64 0, .int .i64 2]) ∧ w = w' := by
  have HL := Lib.hid hl
  have HW := Lib.hid hw
  clear hl hw
  go_enter Tryd.func25, Tryd.ntmps25
  go_wp2_with (go_at_call 21; refine (r2Check a cap ws _ _ HL.out HW.out hn).mono ?_; rintro e w' ⟨rfl, rfl⟩)
  go_ret2
  exact ⟨rfl, rfl⟩

set_option maxHeartbeats 400000 in
theorem r2Next_a2 (a : Option Addr) (cap : Nat) (ws : List Nat) (n s : Int) (w : World) (hl : Lst .u64 w a (ints ws)) (hw : Wide ws) (hn : ws.length ≤ 65536) (hc : Oc.chk ws n = 0) (h1 : 0 ≤ s) (h2 : n < s) : Calls Tryd.prog 25 #[.slice a ws.length cap, .int .i64 n, .int .i64 s] w fun e w' => e = .returned (.tuple #[.int .i64 0, .int .i64 2]) ∧ w = w' := by
  have HL := Lib.hid hl
  have HW := Lib.hid hw
  clear hl hw
  go_enter Tryd.func25, Tryd.ntmps25
  go_wp2_with (go_at_call 21; refine (r2Check a cap ws _ _ HL.out HW.out hn).mono ?_; rintro e w' ⟨rfl, rfl⟩)
  go_ret2
  exact ⟨rfl, rfl⟩

set_option maxHeartbeats 400000 in
theorem r2Last_a1 (a : Option Addr) (cap : Nat) (ws : List Nat) (n s : Int) (w : World) (hl : Lst .u64 w a (ints ws)) (hw : Wide ws) (hn : ws.length ≤ 65536) (hc : Oc.chk ws n = 0) (h1 : s < 0) : Calls Tryd.prog 26 #[.slice a ws.length cap, .int .i64 n, .int .i64 s] w fun e w' => e = .returned (.tuple #[.int .i64 0, .int .i64 2]) ∧ w = w' := by
  have HL := Lib.hid hl
  have HW := Lib.hid hw
  clear hl hw
  go_enter Tryd.func26, Tryd.ntmps26
  go_wp2_with (go_at_call 21; refine (r2Check a cap ws _ _ HL.out HW.out hn).mono ?_; rintro e w' ⟨rfl, rfl⟩)
  go_ret2
  exact ⟨rfl, rfl⟩

set_option maxHeartbeats 400000 in
theorem r2Last_a2 (a : Option Addr) (cap : Nat) (ws : List Nat) (n s : Int) (w : World) (hl : Lst .u64 w a (ints ws)) (hw : Wide ws) (hn : ws.length ≤ 65536) (hc : Oc.chk ws n = 0) (h1 : 0 ≤ s) (h2 : n < s) : Calls Tryd.prog 26 #[.slice a ws.length cap, .int .i64 n, .int .i64 s] w fun e w' => e = .returned (.tuple #[.int .i64 0, .int .i64 2]) ∧ w = w' := by
  have HL := Lib.hid hl
  have HW := Lib.hid hw
  clear hl hw
  go_enter Tryd.func26, Tryd.ntmps26
  go_wp2_with (go_at_call 21; refine (r2Check a cap ws _ _ HL.out HW.out hn).mono ?_; rintro e w' ⟨rfl, rfl⟩)
  go_ret2
  exact ⟨rfl, rfl⟩

set_option maxHeartbeats 400000 in
theorem r2Has_ok (a : Option Addr) (cap : Nat) (ws : List Nat) (n s : Nat) (w : World) (hl : Lst .u64 w a (ints ws)) (hw : Wide ws) (hn : ws.length ≤ 65536) (hc : Oc.chk ws (n : Int) = 0) (hm : n ≤ 64 * ws.length) (hk : n ≤ 65536) (h2 : s < n) : Calls Tryd.prog 23 #[.slice a ws.length cap, .int .i64 (n : Int), .int .i64 (s : Int)] w fun e w' => e = .returned (.tuple #[.bool (Oc.isB ws s), .int .i64 0]) ∧ Below w.heap.size w w' := by
  have HL := Lib.hid hl
  have HW := Lib.hid hw
  clear hl hw
  go_enter Tryd.func23, Tryd.ntmps23
  go_wp2_with (first | (go_at_call 21; refine (r2Check a cap ws _ _ HL.out HW.out hn).mono ?_; rintro e w' ⟨rfl, rfl⟩) | (go_at_call 38; refine (r2Is a cap ws _ _ HL.out HW.out hn (by omega) (by omega)).mono ?_; rintro e w' ⟨rfl, rfl⟩; rw [Int.toNat_natCast]))
  go_ret2
  exact ⟨rfl, Below.refl _ _⟩

set_option maxHeartbeats 400000 in
theorem r2Count_ok (a : Option Addr) (cap : Nat) (ws : List Nat) (n p q : Nat) (w : World) (hl : Lst .u64 w a (ints ws)) (hw : Wide ws) (hn : ws.length ≤ 65536) (hc : Oc.chk ws (n : Int) = 0) (hm : n ≤ 64 * ws.length) (hk : n ≤ 65536) (h1 : p ≤ q) (h2 : q ≤ n) : Calls Tryd.prog 19 #[.slice a ws.length cap, .int .i64 (n : Int), .int .i64 (p : Int), .int .i64 (q : Int)] w fun e w' => e = .returned (.tuple #[.int .i64 ((Oc.places ws p q).length : Int), .int .i64 0]) ∧ Below w.heap.size w w' := by
  have HL := Lib.hid hl
  have HW := Lib.hid hw
  clear hl hw
  go_enter Tryd.func19, Tryd.ntmps19
  go_wp2_with (first | (go_at_call 21; refine (r2Check a cap ws _ _ HL.out HW.out hn).mono ?_; rintro e w' ⟨rfl, rfl⟩) | (go_at_call 36; refine (r2Places' a cap ws p q _ HL.out HW.out hn (by omega) (by omega)).mono ?_; rintro e w1 ⟨A, c, rfl, hL, hb⟩))
  go_ret2
  exact ⟨rfl, hb⟩

set_option maxHeartbeats 400000 in
theorem r2Next_none (a : Option Addr) (cap : Nat) (ws : List Nat) (n s : Nat) (w : World) (hl : Lst .u64 w a (ints ws)) (hw : Wide ws) (hn : ws.length ≤ 65536) (hc : Oc.chk ws (n : Int) = 0) (hm : n ≤ 64 * ws.length) (hk : n ≤ 65536) (h2 : s ≤ n) (hp : ((Oc.places ws s n).length : Int) == 0)  : Calls Tryd.prog 25 #[.slice a ws.length cap, .int .i64 (n : Int), .int .i64 (s : Int)] w fun e w' => e = .returned (.tuple #[.int .i64 0, .int .i64 6]) ∧ Below w.heap.size w w' := by
  have HL := Lib.hid hl
  have HW := Lib.hid hw
  clear hl hw
  go_enter Tryd.func25, Tryd.ntmps25
  go_wp2_with (first | (go_at_call 21; refine (r2Check a cap ws _ _ HL.out HW.out hn).mono ?_; rintro e w' ⟨rfl, rfl⟩) | (go_at_call 36; refine (r2Places' a cap ws s n _ HL.out HW.out hn (by omega) (by omega)).mono ?_; rintro e w1 ⟨A, c, rfl, hL, hb⟩))
  go_ret2
  exact ⟨rfl, hb⟩

set_option maxHeartbeats 400000 in
theorem r2Last_none (a : Option Addr) (cap : Nat) (ws : List Nat) (n s : Nat) (w : World) (hl : Lst .u64 w a (ints ws)) (hw : Wide ws) (hn : ws.length ≤ 65536) (hc : Oc.chk ws (n : Int) = 0) (hm : n ≤ 64 * ws.length) (hk : n ≤ 65536) (h2 : s ≤ n) (hp : ((Oc.places ws 0 s).length : Int) == 0)  : Calls Tryd.prog 26 #[.slice a ws.length cap, .int .i64 (n : Int), .int .i64 (s : Int)] w fun e w' => e = .returned (.tuple #[.int .i64 0, .int .i64 6]) ∧ Below w.heap.size w w' := by
  have HL := Lib.hid hl
  have HW := Lib.hid hw
  clear hl hw
  go_enter Tryd.func26, Tryd.ntmps26
  go_wp2_with (first | (go_at_call 21; refine (r2Check a cap ws _ _ HL.out HW.out hn).mono ?_; rintro e w' ⟨rfl, rfl⟩) | (go_at_call 36; refine (r2Places' a cap ws 0 s _ HL.out HW.out hn (by omega) (by omega)).mono ?_; rintro e w1 ⟨A, c, rfl, hL, hb⟩))
  go_ret2
  exact ⟨rfl, hb⟩
end Go.Proofs.YtgbgeedcfccclaaDoor
