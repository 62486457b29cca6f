/- What the document's own answers of layer 3 (package shelfmarkref03) return: step, Behind, Sum, Go, Of. They only read. -/
import Derived.Test.YthdondjhiflkaaaProg
import Derived.Test.YthdondjhiflkaaaFn03
import Derived.Test.YthdondjhiflkaaaMem
import Derived.Laws.BitsAllLaws
namespace Go.Proofs.Ythdondjhiflkaaa
open Go.RowKit
set_option linter.unusedVariables false

theorem xor_poly (s : Nat) (hs : s < 4294967296) : bits .xor .u32 ((s : Int) / 2) 3988292384 = ((s / 2 ^^^ Cr.poly : Nat) : Int) := by
  have := u32_xor_nat (s / 2) Cr.poly (by omega) (by decide)
  rw [show ((s / 2 : Nat) : Int) = (s : Int) / 2 from by omega] at this
  exact this
set_option maxHeartbeats 400000 in
theorem r3step (s b : Nat) (w : World) (hs : s < 4294967296) (hb : b < 2) : Calls Try.prog 29 #[.int .u32 (s : Int), .int .u32 (b : Int)] w fun e w' => e = .returned (.int .u32 (Cr.stepN s b : Int)) ∧ w = w' := by
  have HX := Lib.hid (xor_poly s hs)
  by_cases h : s % 2 = b
  · have H := Lib.hid (show Cr.stepN s b = s / 2 by unfold Cr.stepN; rw [if_pos h])
    have k1 : ((s : Int) % 2 != (b : Int)) = false := by simp; omega
    clear h
    go_enter Try.func29, Try.ntmps29
    go_wp2
    go_ret
    rw [H.out, show ((s / 2 : Nat) : Int) = (s : Int) / 2 from by omega]
    exact ⟨rfl, rfl⟩
  · have H := Lib.hid (show Cr.stepN s b = s / 2 ^^^ Cr.poly by unfold Cr.stepN; rw [if_neg h])
    have k1 : ((s : Int) % 2 != (b : Int)) = true := by simp; omega
    clear h
    go_enter Try.func29, Try.ntmps29
    go_wp2
    go_ret
    rw [H.out, HX.out]
    exact ⟨rfl, rfl⟩

def Bytes (bs : List Nat) : Prop := ∀ i, bs.getD i 0 < 256
theorem Bytes.small {bs : List Nat} (h : Bytes bs) : Cr.Small bs := fun c hc => by
  obtain ⟨i, hi, rfl⟩ := List.getElem_of_mem hc
  have := h i
  simpa [List.getD, List.getElem?_eq_getElem hi] using this
theorem Lst.byte {w : World} {a : Option Addr} {ws : List Nat} (h : Lst .u8 w a (ints ws)) {i : Nat} (hi : i < ws.length) :
    ∃ b off, a = some ⟨b, off, none⟩ ∧ b < w.heap.size ∧ w.cell? ⟨b, off + i, none⟩ = some (.int .u8 ((ws.getD i 0 : Nat) : Int)) := by
  have := h.cell (i := i) (by rw [ints_length]; exact hi)
  rw [ints_getD] at this
  exact this

/-- Behind's loops: the sum under way behind k bytes; behind j bits of one. -/
def BehindJ (s0 : Nat) (bs : List Nat) (s i : Value) : Prop := ∃ k : Nat, k ≤ bs.length ∧ i = .int .i64 k ∧ s = .int .u32 (Cr.behind s0 (bs.take k) : Int)
def ByteJ (s1 c : Nat) (s x k : Value) : Prop := ∃ j : Nat, j ≤ 8 ∧ k = .int .i64 j ∧ x = .int .u32 ((c / 2 ^ j : Nat) : Int) ∧ s = .int .u32 (Cr.feed j s1 c : Int)
theorem halved (c j : Nat) : c / 2 ^ (j + 1) = c / 2 ^ j / 2 := by rw [Nat.div_div_eq_div_mul, Nat.pow_succ]

set_option maxHeartbeats 1000000 in
theorem r3Behind (s0 : Nat) (a : Option Addr) (cap : Nat) (bs : List Nat) (w : World) (hs : s0 < 4294967296) (hl : Lst .u8 w a (ints bs)) (hw : Bytes bs) (hn : bs.length ≤ 2147483647) :
    Calls Try.prog 24 #[.int .u32 (s0 : Int), .slice a bs.length cap] w fun e w' => e = .returned (.int .u32 (Cr.behind s0 bs : Int)) ∧ w = w' := by
  have HL := Lib.hid hl
  have HW := Lib.hid hw
  clear hl hw
  go_enter Try.func24, Try.ntmps24
  go_wp2
  go_loop [0, 5] (BehindJ s0 bs) (fun _ i => bs.length - (intOf i).toNat)
  case atStart => exact ⟨0, Nat.zero_le _, rfl, by rw [List.take_zero]; rfl⟩
  case round =>
    obtain ⟨k, hk, rfl, rfl⟩ := hrel
    by_cases hlt : k < bs.length
    · obtain ⟨b, off, rfl, _, hc⟩ := HL.out.byte hlt
      have hx := HW.out k
      have HS := Lib.hid (Cr.behind_snoc s0 bs k hlt)
      have hs1 := Cr.behind_lt (t := bs.take k) hs
      obtain ⟨c, hce⟩ : ∃ c, c = bs.getD k 0 := ⟨_, rfl⟩
      obtain ⟨s1, hse⟩ : ∃ s1, s1 = Cr.behind s0 (bs.take k) := ⟨_, rfl⟩
      rw [← hce] at hc hx
      rw [← hse] at hs1 ⊢
      have HC := Lib.hid hce
      have H1 := Lib.hid hse
      clear hce hse
      go_wp2
      go_hide hQ
      go_loop [0, 6, 7] (ByteJ s1 c) (fun _ _ i => 8 - (intOf i).toNat)
      case atStart => exact ⟨0, by omega, rfl, by simp, by simp [Cr.feed]⟩
      case round =>
        obtain ⟨j, hj, rfl, rfl, rfl⟩ := hrel
        by_cases hj8 : j < 8
        · have HF := Lib.hid (Cr.feed_snoc j s1 c)
          have HH := Lib.hid (halved c j)
          have hf := Cr.feed_lt (k := j) (c := c) hs1
          have hd : c / 2 ^ j < 256 := Nat.lt_of_le_of_lt (Nat.div_le_self _ _) hx
          obtain ⟨x, hxe⟩ : ∃ x, x = c / 2 ^ j := ⟨_, rfl⟩
          obtain ⟨f, hfe⟩ : ∃ f, f = Cr.feed j s1 c := ⟨_, rfl⟩
          rw [← hxe] at hd ⊢
          rw [← hfe] at hf ⊢
          have HX := Lib.hid hxe
          have HFE := Lib.hid hfe
          clear hxe hfe
          go_wp2_with fail
          rw [show (x : Int) % 2 = ((x % 2 : Nat) : Int) from by omega]
          refine (r3step f (x % 2) _ hf (by omega)).mono ?_
          rintro e w' ⟨rfl, rfl⟩
          go_wp2
          subst hQ
          go_round
          case rel => exact ⟨j + 1, by omega, by go_num, by rw [HH.out, ← HX.out]; congr 1, by rw [HF.out, ← HX.out, ← HFE.out]⟩
          case measure => simp [intOf]; omega
        · obtain rfl : j = 8 := by omega
          go_wp2
          subst hQ
          go_wp2
          go_round
          case rel => exact ⟨k + 1, by omega, by go_num, by rw [HS.out, ← HC.out, ← H1.out]⟩
          case measure => simp [intOf]; omega
    · go_wp2
      go_ret
      rw [List.take_of_length_le (by omega)]
      exact ⟨rfl, rfl⟩

set_option maxHeartbeats 400000 in
theorem r3Sum (a : Option Addr) (cap : Nat) (bs : List Nat) (w : World) (hl : Lst .u8 w a (ints bs)) (hw : Bytes bs) (hn : bs.length ≤ 2147483647) :
    Calls Try.prog 25 #[.slice a bs.length cap] w fun e w' => e = .returned (.int .u32 (Cr.sumB bs : Int)) ∧ w = w' := by
  have HL := Lib.hid hl
  have HW := Lib.hid hw
  clear hl hw
  have hlt := Cr.behind_lt (s := 4294967295) (t := bs) (by decide)
  have H := Lib.hid (show (Cr.sumB bs : Int) = 4294967295 - (Cr.behind 4294967295 bs : Int) by unfold Cr.sumB; omega)
  go_enter Try.func25, Try.ntmps25
  go_wp2_with fail
  refine (r3Behind 4294967295 a cap bs _ (by decide) HL.out HW.out hn).mono ?_
  rintro e w' ⟨rfl, rfl⟩
  obtain ⟨x, hxe⟩ : ∃ x, x = Cr.behind 4294967295 bs := ⟨_, rfl⟩
  rw [← hxe] at hlt ⊢
  have HX := Lib.hid hxe
  clear hxe
  go_wp2
  go_ret
  rw [H.out, ← HX.out]
  exact ⟨rfl, rfl⟩

def Cr.goE (bs : List Nat) : Int := if 1048576 < bs.length then 4 else 0
def Cr.goV (s : Nat) (bs : List Nat) : Nat := if 1048576 < bs.length then 0 else Cr.behind s bs
def Cr.ofV (bs : List Nat) : Nat := if 1048576 < bs.length then 0 else Cr.sumB bs
set_option maxHeartbeats 400000 in
theorem r3Go (s : Nat) (a : Option Addr) (cap : Nat) (bs : List Nat) (w : World) (hs : s < 4294967296) (hl : Lst .u8 w a (ints bs)) (hw : Bytes bs) (hn : bs.length ≤ 2147483647) :
    Calls Try.prog 15 #[.int .u32 (s : Int), .slice a bs.length cap] w fun e w' => e = .returned (.tuple #[.int .u32 (Cr.goV s bs : Int), .int .i64 (Cr.goE bs)]) ∧ w = w' := by
  have HL := Lib.hid hl
  have HW := Lib.hid hw
  clear hl hw
  by_cases h : 1048576 < bs.length
  · have H := Lib.hid (show Cr.goE bs = 4 by unfold Cr.goE; rw [if_pos h])
    have H2 := Lib.hid (show Cr.goV s bs = 0 by unfold Cr.goV; rw [if_pos h])
    go_enter Try.func15, Try.ntmps15
    go_wp2
    go_ret2
    rw [H.out, H2.out]
    exact ⟨rfl, rfl⟩
  · have H := Lib.hid (show Cr.goE bs = 0 by unfold Cr.goE; rw [if_neg h])
    have H2 := Lib.hid (show Cr.goV s bs = Cr.behind s bs by unfold Cr.goV; rw [if_neg h])
    go_enter Try.func15, Try.ntmps15
    go_wp2_with fail
    refine (r3Behind s a cap bs _ hs HL.out HW.out hn).mono ?_
    rintro e w' ⟨rfl, rfl⟩
    go_wp2
    go_ret2
    rw [H.out, H2.out]
    exact ⟨rfl, rfl⟩
set_option maxHeartbeats 400000 in
theorem r3Of (a : Option Addr) (cap : Nat) (bs : List Nat) (w : World) (hl : Lst .u8 w a (ints bs)) (hw : Bytes bs) (hn : bs.length ≤ 2147483647) :
    Calls Try.prog 16 #[.slice a bs.length cap] w fun e w' => e = .returned (.tuple #[.int .u32 (Cr.ofV bs : Int), .int .i64 (Cr.goE bs)]) ∧ w = w' := by
  have HL := Lib.hid hl
  have HW := Lib.hid hw
  clear hl hw
  by_cases h : 1048576 < bs.length
  · have H := Lib.hid (show Cr.goE bs = 4 by unfold Cr.goE; rw [if_pos h])
    have H2 := Lib.hid (show Cr.ofV bs = 0 by unfold Cr.ofV; rw [if_pos h])
    go_enter Try.func16, Try.ntmps16
    go_wp2
    go_ret2
    rw [H.out, H2.out]
    exact ⟨rfl, rfl⟩
  · have H := Lib.hid (show Cr.goE bs = 0 by unfold Cr.goE; rw [if_neg h])
    have H2 := Lib.hid (show Cr.ofV bs = Cr.sumB bs by unfold Cr.ofV; rw [if_neg h])
    go_enter Try.func16, Try.ntmps16
    go_wp2_with fail
    refine (r3Sum a cap bs _ HL.out HW.out hn).mono ?_
    rintro e w' ⟨rfl, rfl⟩
    go_wp2
    go_ret2
    rw [H.out, H2.out]
    exact ⟨rfl, rfl⟩
end Go.Proofs.Ythdondjhiflkaaa
