/- What package win's heights returns: it yields 0, 1 and on, up to a height. -/
import Derived.Test.YthnpmbbhbaaloaaWinC
import Derived.Test.YthnpmbbhbaaloaaRangeM
namespace Go.Proofs.Ythnpmbbhbaaloaa
open Go.RowKit Go.Shelf
attribute [local go_sem] Oper.semAt_some
set_option linter.unusedVariables false
set_option linter.unusedSimpArgs false

def HtPost (x : Int) (w : World) (e : Ending) (w' : World) : Prop :=
  ∃ B, e = .returned (.func (.func 34) #[] #[.pointer (some ⟨B, 0, none⟩)]) ∧ Boxed w' B 3 (.int .i64 x) ∧ w.heap.size ≤ B ∧ Below w.heap.size w w'
set_option maxHeartbeats 400000 in
theorem vHeights (x : Int) (w : World) : Calls Try.prog 27 #[.int .i64 x] w (HtPost x w) := by
  go_enter Try.func27, Try.ntmps27
  go_wp2
  go_ret
  exact ⟨_, rfl, Boxed.new w _ _, Nat.le_refl _, (Below.refl _ _).alloc (Nat.le_refl _) _⟩

def HtJ (n : Nat) (J : List Nat → World → Prop) (p : Value) (wr : World) : Prop :=
  ∃ k : Nat, k ≤ n + 1 ∧ p = .int .i64 (k : Int) ∧ J (List.range k) wr
theorem range_pre {k n : Nat} (h : k ≤ n) : List.range k <+: List.range n := by
  refine ⟨(List.range (n - k)).map (k + ·), ?_⟩
  rw [← List.range_add, show k + (n - k) = n from by omega]
set_option maxRecDepth 100000 in
set_option maxHeartbeats 1000000 in
theorem ht_seq (Z : Nat → Prop) (n B : Nat) (w : World) (hB : Boxed w B 3 (.int .i64 (n : Int))) (hn : n ≤ 1000) :
    SeqP Try.prog 34 #[.pointer (some ⟨B, 0, none⟩)] Z (List.range (n + 1)) w := fun l J Jx W hW hJ hJx hY h0 => by
  have hc := (boxed_low hB hB.lt hW).cell
  have HY := Lib.hid hY
  clear hY hJ hJx hB
  refine callsIn_of_wp Try.func34 rfl trivial ?_ rfl
  simp only [Try.ntmps34, List.size_toArray, List.length_cons, List.length_nil, Nat.reduceAdd, Nat.reduceSub, Array.replicate_succ, Array.replicate_zero, List.push_toArray, List.append_toArray, List.nil_append, List.cons_append]
  gi_wp2
  gi_loopw [6] (HtJ n J) (fun p _ => n + 1 - (intOf p).toNat)
  case atStart => exact ⟨0, by omega, rfl, h0⟩
  case round =>
    obtain ⟨k, hk, rfl, hJr⟩ := hrel
    by_cases hlt : k < n + 1
    · obtain ⟨fn, tmps, assign, body, hy, hR⟩ := HY.out (List.range k) k wr hJr (by rw [← List.range_succ]; exact range_pre (by omega))
      rw [← List.range_succ] at hR
      gi_wp2
      refine hR.mono ?_
      rintro e W3 (⟨rfl, hJ3, hk3⟩ | ⟨rfl, hJx3⟩)
      · gi_wp2
        go_roundw
        case rel => exact ⟨k + 1, by omega, by go_num, hJ3⟩
        case measure => simp [intOf]; omega
      · gi_wp2
        refine bodyPost_ret (results_none rfl _ _ _) rfl ?_
        exact ⟨⟨_, rfl⟩, .inr ⟨List.range (k + 1), range_pre (by omega), hJx3⟩⟩
    · obtain rfl : k = n + 1 := by omega
      gi_wp2
      go_end0
      exact ⟨⟨_, rfl⟩, .inl hJr⟩
end Go.Proofs.Ythnpmbbhbaaloaa
