/- What package crc's sums return: the closure of Go that shifts a bit in, Go, Of. -/
import Derived.Test.YthdondjhiflkaaaBytes03
import Derived.Test.YthdondjhiflkaaaRefD03
import Derived.RangeFuncBox
namespace Go.Proofs.Ythdondjhiflkaaa
open Go.RowKit
set_option linter.unusedVariables false

theorem shift_key (s b : Nat) (hs : s < 4294967296) (hb : b < 2) : bits .and .u32 (bits .xor .u32 (s : Int) (b : Int)) 1 = (((s ^^^ b) % 2 : Nat) : Int) := by
  rw [u32_xor_nat s b hs (by omega)]
  have := u32_and_nat (s ^^^ b) 1 (Nat.xor_lt_two_pow (n := 32) hs (by omega)) (by decide)
  rw [show ((1 : Nat) : Int) = 1 from rfl] at this
  rw [this, Nat.and_one_is_mod]
set_option maxHeartbeats 1000000 in
theorem cShift (s b B : Nat) (w : World) (hs : s < 4294967296) (hb : b < 2) (hB : Boxed w B 27 (.int .u32 (s : Int))) :
    Calls Try.prog 23 #[.int .u32 (b : Int), .pointer (some ⟨B, 0, none⟩)] w fun e w' => e = .returned (.tuple #[]) ∧ Boxed w' B 27 (.int .u32 (Cr.stepN s b : Int)) ∧ Below B w w' := by
  have HK := Lib.hid (shift_key s b hs hb)
  have HX := Lib.hid (xor_poly s hs)
  have HBx := Lib.hid hB
  have c1 := hB.cell
  have f1 := hB.frozen
  have c2 := (hB.set (.int .u32 ((s : Int) / 2))).cell
  have f2 := (hB.set (.int .u32 ((s : Int) / 2))).frozen
  have HE := Lib.hid (Cr.stepN_eq s b hb)
  clear hB
  have hm := Nat.mod_two_eq_zero_or_one (s ^^^ b)
  by_cases h : s % 2 = b
  · have H := Lib.hid (show Cr.stepN s b = s / 2 by unfold Cr.stepN; rw [if_pos h])
    have HK0 : bits .and .u32 (bits .xor .u32 (s : Int) (b : Int)) 1 = 0 := by
      rw [HK.out, show (s ^^^ b) % 2 = 0 from by have := @Nat.xor_mod_two_eq_one s b; omega]; rfl
    clear h hm
    go_enter Try.func23, Try.ntmps23
    go_wp2
    go_end0
    refine ⟨rfl, ?_, (Below.refl B w).setCell (p := ⟨B, 0, none⟩) (Nat.le_refl B) _⟩
    rw [H.out, show ((s / 2 : Nat) : Int) = (s : Int) / 2 from by omega]
    exact HBx.out.set _
  · have H := Lib.hid (show Cr.stepN s b = s / 2 ^^^ Cr.poly by unfold Cr.stepN; rw [if_neg h])
    have HK0 : bits .and .u32 (bits .xor .u32 (s : Int) (b : Int)) 1 = 1 := by
      rw [HK.out, show (s ^^^ b) % 2 = 1 from by have := @Nat.xor_mod_two_eq_one s b; omega]; rfl
    clear h hm
    go_enter Try.func23, Try.ntmps23
    go_wp2
    go_end0
    refine ⟨rfl, ?_, ((Below.refl B w).setCell (p := ⟨B, 0, none⟩) (Nat.le_refl B) _).setCell (p := ⟨B, 0, none⟩) (Nat.le_refl B) _⟩
    rw [H.out, ← HX.out]
    exact (HBx.out.set _).set _

/-- Go's loops: the sum under way behind k bytes, in its box; behind j bits of one. -/
def GoJ (s0 : Nat) (bs : List Nat) (w : World) (i : Value) (wr : World) : Prop :=
  ∃ k : Nat, k ≤ bs.length ∧ i = .int .i64 k ∧ Boxed wr w.heap.size 27 (.int .u32 (Cr.behind s0 (bs.take k) : Int)) ∧ Below w.heap.size w wr
def GoBitJ (s1 c : Nat) (w : World) (i : Value) (wr : World) : Prop :=
  ∃ j : Nat, j ≤ 8 ∧ i = .int .i64 j ∧ Boxed wr w.heap.size 27 (.int .u32 (Cr.feed j s1 c : Int)) ∧ Below w.heap.size w wr
theorem bit_key (c j : Nat) (hc : c < 256) : bits .and .u32 ((c : Int) / 2 ^ j % 4294967296) 1 = ((c / 2 ^ j % 2 : Nat) : Int) := by
  rw [show (c : Int) / 2 ^ j % 4294967296 = ((c / 2 ^ j : Nat) : Int) from by
    have h1 : ((c / 2 ^ j : Nat) : Int) = (c : Int) / 2 ^ j := by rw [Int.natCast_ediv, Int.natCast_pow]; rfl
    have h2 : c / 2 ^ j ≤ c := Nat.div_le_self _ _
    rw [← h1]
    generalize c / 2 ^ j = y at h2
    omega]
  have := u32_and_nat (c / 2 ^ j) 1 (Nat.lt_of_le_of_lt (Nat.div_le_self _ _) (by omega)) (by decide)
  rw [show ((1 : Nat) : Int) = 1 from rfl] at this
  rw [this, Nat.and_one_is_mod]
set_option maxHeartbeats 1000000 in
theorem cGo (s0 : Nat) (a : Option Addr) (cap : Nat) (bs : List Nat) (w : World) (hs : s0 < 4294967296) (hl : Lst .u8 w a (ints bs)) (hw : Bytes bs) (hn : bs.length ≤ 2147483647) (hnil : a = none → bs.length = 0 ∧ cap = 0) :
    Calls Try.prog 14 #[.int .u32 (s0 : Int), .slice a bs.length cap] w fun e w' => e = .returned (.tuple #[.int .u32 (Cr.goV s0 bs : Int), .int .i64 (Cr.goE bs)]) ∧ Below w.heap.size w w' := by
  have HL := Lib.hid hl
  have HW := Lib.hid hw
  clear hl hw hnil
  by_cases h : 1048576 < bs.length
  · have H := Lib.hid (show Cr.goE bs = 4 by unfold Cr.goE; rw [if_pos h])
    have H2 := Lib.hid (show Cr.goV s0 bs = 0 by unfold Cr.goV; rw [if_pos h])
    go_enter Try.func14, Try.ntmps14
    go_wp2
    go_ret2
    rw [H.out, H2.out]
    exact ⟨rfl, (Below.refl _ _).alloc (Nat.le_refl _) _⟩
  · have H := Lib.hid (show Cr.goE bs = 0 by unfold Cr.goE; rw [if_neg h])
    have H2 := Lib.hid (show Cr.goV s0 bs = Cr.behind s0 bs by unfold Cr.goV; rw [if_neg h])
    go_enter Try.func14, Try.ntmps14
    go_wp2
    go_loopw [15] (GoJ s0 bs w) (fun i _ => bs.length - (intOf i).toNat)
    case atStart => exact ⟨0, Nat.zero_le _, rfl, by rw [List.take_zero]; exact Boxed.new w _ _, (Below.refl _ _).alloc (Nat.le_refl _) _⟩
    case round =>
      obtain ⟨k, hk, rfl, hbx, hbr⟩ := hrel
      have HBx := Lib.hid hbx
      clear hbx
      by_cases hlt : k < bs.length
      · have HS := Lib.hid (Cr.behind_snoc s0 bs k hlt)
        have hs1 := Cr.behind_lt (t := bs.take k) hs
        have hx := HW.out k
        obtain ⟨b, off, ha, hb, hc⟩ := (HL.out.below hbr).byte hlt
        obtain ⟨b', off', ha', hb', hc'⟩ := HL.out.byte hlt
        obtain ⟨rfl, rfl⟩ : b' = b ∧ off' = off := by rw [ha] at ha'; injection ha' with e; injection e with e1 e2; exact ⟨e1.symm, e2.symm⟩
        subst ha
        obtain ⟨c, hce⟩ : ∃ c, c = bs.getD k 0 := ⟨_, rfl⟩
        obtain ⟨s1, hse⟩ : ∃ s1, s1 = Cr.behind s0 (bs.take k) := ⟨_, rfl⟩
        rw [← hce] at hc' hx
        rw [← hse] at hs1 HBx
        have HC := Lib.hid hce
        have H1 := Lib.hid hse
        have HC' := Lib.hid hc'
        have HB' := Lib.hid hb'
        clear hce hse hc hb ha' hc' hb'
        go_wp2
        go_hide hQ
        go_loopw [18] (GoBitJ s1 c w) (fun i _ => 8 - (intOf i).toNat)
        case atStart => exact ⟨0, by omega, rfl, HBx.out, hbr⟩
        case round =>
          obtain ⟨j, hj, rfl, hbx, hbr2⟩ := hrel
          have HBy := Lib.hid hbx
          clear hbx
          by_cases hj8 : j < 8
          · have cc := (hbr2.cell (p := ⟨b', off' + k, none⟩) HB'.out).trans HC'.out
            have HF := Lib.hid (Cr.feed_snoc j s1 c)
            have hf := Cr.feed_lt (k := j) (c := c) hs1
            have KB := Lib.hid (bit_key c j hx)
            go_wp2_with fail
            rw [KB.out]
            refine (cShift (Cr.feed j s1 c) (c / 2 ^ j % 2) w.heap.size _ hf (by omega) HBy.out).mono ?_
            rintro e w2 ⟨rfl, hbx2, hb2⟩
            have HBz := Lib.hid hbx2
            clear hbx2
            go_wp2
            go_roundw
            case rel => exact ⟨j + 1, by omega, by go_num, by rw [HF.out]; exact HBz.out, hbr2.trans hb2⟩
            case measure => simp [intOf]; omega
          · obtain rfl : j = 8 := by omega
            go_wp2
            subst hQ
            go_wp2
            go_roundw
            case rel => exact ⟨k + 1, by omega, by go_num, by rw [HS.out, ← HC.out, ← H1.out]; exact HBy.out, hbr2⟩
            case measure => simp [intOf]; omega
      · have cc := HBx.out.cell
        rw [List.take_of_length_le (by omega)] at cc
        go_wp2
        go_ret2
        rw [H.out, H2.out]
        exact ⟨rfl, hbr⟩

theorem flip_key (x : Nat) (h : x < 4294967296) : bits .xor .u32 IntKind.u32.max (x : Int) = ((4294967295 - x : Nat) : Int) := by
  have := u32_xor_nat 4294967295 x (by decide) h
  rw [show ((4294967295 : Nat) : Int) = IntKind.u32.max from rfl] at this
  rw [this, Cr.flip_eq h]
set_option maxHeartbeats 1000000 in
theorem cOf (a : Option Addr) (cap : Nat) (bs : List Nat) (w : World) (hl : Lst .u8 w a (ints bs)) (hw : Bytes bs) (hn : bs.length ≤ 2147483647) (hnil : a = none → bs.length = 0 ∧ cap = 0) :
    Calls Try.prog 12 #[.slice a bs.length cap] w fun e w' => e = .returned (.tuple #[.int .u32 (Cr.ofV bs : Int), .int .i64 (Cr.goE bs)]) ∧ Below w.heap.size w w' := by
  have HC := Lib.hid (cGo 4294967295 a cap bs w (by decide) hl hw hn hnil)
  clear hl hw hnil
  by_cases h : 1048576 < bs.length
  · have H := Lib.hid (show Cr.goE bs = 4 by unfold Cr.goE; rw [if_pos h])
    have H2 := Lib.hid (show Cr.ofV bs = 0 by unfold Cr.ofV; rw [if_pos h])
    go_enter Try.func12, Try.ntmps12
    go_wp2_with fail
    refine HC.out.mono ?_
    rintro e w1 ⟨rfl, hb1⟩
    rw [H.out]
    go_wp2
    go_ret2
    rw [H.out, H2.out]
    exact ⟨rfl, hb1⟩
  · have H := Lib.hid (show Cr.goE bs = 0 by unfold Cr.goE; rw [if_neg h])
    have H2 := Lib.hid (show Cr.ofV bs = Cr.sumB bs by unfold Cr.ofV; rw [if_neg h])
    have H3 := Lib.hid (show Cr.goV 4294967295 bs = Cr.behind 4294967295 bs by unfold Cr.goV; rw [if_neg h])
    have hlt := Cr.behind_lt (s := 4294967295) (t := bs) (by decide)
    have H4 := Lib.hid (show Cr.sumB bs = 4294967295 - Cr.behind 4294967295 bs from rfl)
    go_enter Try.func12, Try.ntmps12
    go_wp2_with fail
    refine HC.out.mono ?_
    rintro e w1 ⟨rfl, hb1⟩
    rw [H.out, H3.out]
    obtain ⟨x, hx⟩ : ∃ x, x = Cr.behind 4294967295 bs := ⟨_, rfl⟩
    rw [← hx] at hlt H4 ⊢
    clear hx
    go_wp2
    go_ret2
    rw [H.out, H2.out, H4.out, ← flip_key x hlt]
    exact ⟨rfl, hb1⟩
end Go.Proofs.Ythdondjhiflkaaa
