/- What part and its closure return: the words of a part, cut at both ends. -/
import Derived.Test.YtgbgeedcfccclaaDoorOccA
import Derived.Below
import Derived.RangeFuncBox
namespace Go.Proofs.YtgbgeedcfccclaaDoor
open Go.RowKit
set_option linter.unusedVariables false

theorem boxed_below {w w' : World} {n b : Nat} {t : TypeId} {v : Value} (h : Boxed w b t v) (hn : b < n) (hb : Below n w w') : Boxed w' b t v := (hb.block b hn).trans h
/-- The boxes of part's closure: of the words, of 'to' and of 'from'. -/
structure Part (w : World) (b1 b2 b3 : Nat) (a : Option Addr) (len cap : Nat) (p q : Int) : Prop where
  x1 : Boxed w b1 23 (.slice a len cap)
  x2 : Boxed w b2 3 (.int .i64 q)
  x3 : Boxed w b3 3 (.int .i64 p)
theorem Part.below {w w' : World} {b1 b2 b3 len cap : Nat} {a : Option Addr} {p q : Int} (h : Part w b1 b2 b3 a len cap p q) (hb : Below w.heap.size w w') : Part w' b1 b2 b3 a len cap p q :=
  ⟨boxed_below h.x1 h.x1.lt hb, boxed_below h.x2 h.x2.lt hb, boxed_below h.x3 h.x3.lt hb⟩

def PartPost (a : Option Addr) (len cap : Nat) (p q : Int) (w : World) (e : Ending) (w' : World) : Prop :=
  ∃ b1 b2 b3, e = .returned (.func (.func 40) #[] #[.pointer (some ⟨b1, 0, none⟩), .pointer (some ⟨b2, 0, none⟩), .pointer (some ⟨b3, 0, none⟩)]) ∧ Part w' b1 b2 b3 a len cap p q ∧ Below w.heap.size w w'
set_option maxHeartbeats 400000 in
theorem oPart (a : Option Addr) (len cap : Nat) (p q : Int) (w : World) : Calls Tryd.prog 27 #[.slice a len cap, .int .i64 p, .int .i64 q] w (PartPost a len cap p q w) := by
  go_enter Tryd.func27, Tryd.ntmps27
  go_wp2
  go_ret
  refine ⟨_, _, _, rfl, ?_, ?_⟩
  · exact ⟨((Boxed.new w _ _).alloc _).alloc _, by have := Boxed.new ((w.alloc (.cells #[.slice a len cap] 23)).alloc (.cells #[.int .i64 p] 3)) 3 (.int .i64 q); rwa [World.size_alloc, World.size_alloc] at this,
      by have := (Boxed.new (w.alloc (.cells #[.slice a len cap] 23)) 3 (.int .i64 p)).alloc (.cells #[.int .i64 q] 3); rwa [World.size_alloc] at this⟩
  · exact (((Below.refl _ _).alloc (Nat.le_refl _) _).alloc (by simp) _).alloc (by simp; omega) _

theorem cut_key (x i : Nat) (p q : Int) (hx : x < 18446744073709551616) : bits .andNot .u64 (bits .and .u64 (x : Int) (Oc.low (q - (i : Int) * 64) : Int)) (Oc.low (p - (i : Int) * 64) : Int) = (Oc.cut x i p q : Int) := by
  rw [bits_and_u64_nat x _ hx (Oc.low_lt _), u64_andNot_nat _ _ (Nat.lt_of_le_of_lt Nat.and_le_left hx) (Oc.low_lt _), Int.mul_comm (i : Int) 64]
  rfl
set_option maxHeartbeats 1000000 in
theorem oWord (a : Option Addr) (cap : Nat) (ws : List Nat) (p q : Int) (i b1 b2 b3 : Nat) (w : World) (hP : Part w b1 b2 b3 a ws.length cap p q) (hl : Lst .u64 w a (ints ws)) (hw : Wide ws) (hi : i < ws.length) (hn : ws.length ≤ 65536)
    (hp : 0 ≤ p) (hp1 : p ≤ 4194304) (hq : 0 ≤ q) (hq1 : q ≤ 4194304) :
    Calls Tryd.prog 40 #[.int .i64 (i : Int), .pointer (some ⟨b1, 0, none⟩), .pointer (some ⟨b2, 0, none⟩), .pointer (some ⟨b3, 0, none⟩)] w fun e w' => e = .returned (.int .u64 (Oc.cut (ws.getD i 0) i p q : Int)) ∧ Below w.heap.size w w' := by
  obtain ⟨b, off, rfl, _, hc⟩ := hl.word hi
  have hx := hw i
  have c1 := hP.x1.cell
  have c2 := hP.x2.cell
  have c3 := hP.x3.cell
  clear hl hw hP
  have H := Lib.hid (cut_key (ws.getD i 0) i p q hx)
  generalize ws.getD i 0 = x at *
  generalize ws.length = n at *
  go_enter Tryd.func40, Tryd.ntmps40
  go_wp2
  go_quiet ((go_at_call 41; exact Calls.quiet_of_same ((oLow _ _).mono fun _ _ h => ⟨h.1, h.2.symm⟩)))
  go_wp2
  go_ret
  rw [H.out]
  exact ⟨rfl, below_drewN (Below.refl _ _) nq⟩
theorem oWord' (a : Option Addr) (cap : Nat) (ws : List Nat) (p q i : Int) (k b1 b2 b3 : Nat) (w : World) (hP : Part w b1 b2 b3 a ws.length cap p q) (hl : Lst .u64 w a (ints ws)) (hw : Wide ws) (hk : i = k) (hi : k < ws.length) (hn : ws.length ≤ 65536)
    (hp : 0 ≤ p) (hp1 : p ≤ 4194304) (hq : 0 ≤ q) (hq1 : q ≤ 4194304) :
    Calls Tryd.prog 40 #[.int .i64 i, .pointer (some ⟨b1, 0, none⟩), .pointer (some ⟨b2, 0, none⟩), .pointer (some ⟨b3, 0, none⟩)] w fun e w' => e = .returned (.int .u64 (Oc.wordAt ws k p q : Int)) ∧ Below w.heap.size w w' := by
  subst hk
  exact oWord a cap ws p q k b1 b2 b3 w hP hl hw hi hn hp hp1 hq hq1
end Go.Proofs.YtgbgeedcfccclaaDoor
