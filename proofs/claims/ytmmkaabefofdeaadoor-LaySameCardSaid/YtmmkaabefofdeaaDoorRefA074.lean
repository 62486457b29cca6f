/- What the document's own answers of layer 7 (package shelfmarkref07) return: May, Of, within, Places, Share, Rank. -/
import Derived.Test.YtmmkaabefofdeaaDoorRefW014
import Derived.Test.YtmmkaabefofdeaaDoorFn074
namespace Go.Proofs.YtmmkaabefofdeaaDoor
open Go.RowKit
set_option linter.unusedVariables false
set_option linter.unusedSimpArgs false

namespace Sp
theorem may_f0 {n f t : Int} (h : f < 0) : mayB n f t = false := by unfold mayB; rw [decide_eq_false (show ¬ 0 ≤ f by omega)]; rfl
theorem may_f1 {n f t : Int} (h : t < f) : mayB n f t = false := by unfold mayB; rw [decide_eq_false (show ¬ f ≤ t by omega), Bool.and_false]; rfl
theorem may_f2 {n f t : Int} (h : 65536 < t) : mayB n f t = false := by unfold mayB; rw [decide_eq_false (show ¬ t ≤ 65536 by omega), Bool.and_false]; rfl
theorem may_f3 {n f t : Int} (h : n < 0) : mayB n f t = false := by unfold mayB; rw [decide_eq_false (show ¬ 0 ≤ n by omega), Bool.false_and, Bool.and_false]
theorem may_f4 {n f t : Int} (h : t - f < n) : mayB n f t = false := by unfold mayB; rw [decide_eq_false (show ¬ n ≤ t - f by omega), Bool.and_false, Bool.and_false]
theorem may_mk {n f t : Int} (h1 : 0 ≤ f) (h2 : f ≤ t) (h3 : t ≤ 65536) (h4 : 0 ≤ n) (h5 : n ≤ t - f) : mayB n f t = true := by
  unfold mayB; rw [decide_eq_true h1, decide_eq_true h2, decide_eq_true h3, decide_eq_true h4, decide_eq_true h5]; rfl
end Sp

/-- Between two rounds: the numbers so far are a row of one's own. -/
def IRowJ (f : Nat → Int) (n : Nat) (w : World) (v i : Value) (wr : World) : Prop :=
  ∃ k : Nat, k ≤ n ∧ i = .int .i64 (k : Int) ∧ wr.ownsRow w.heap.size 3 1 v k (((List.range k).map f).map (Value.int .i64)) ∧ Below w.heap.size w wr
theorem ints_more (f : Nat → Int) (k : Nat) : ((List.range (k + 1)).map f).map (Value.int .i64) = ((List.range k).map f).map (Value.int .i64) ++ [.int .i64 (f k)] := by
  rw [List.range_succ, List.map_append, List.map_append]; rfl
set_option maxHeartbeats 2000000 in
theorem r7Of (n f t : Int) (w : World) (hm : Sp.mayB n f t = true) :
    Calls Tryd.prog 66 #[.int .i64 n, .int .i64 f, .int .i64 t] w fun e w' => ∃ v, e = .returned v ∧ IRow (Sp.ofs n f t) w v w' := by
  obtain ⟨m1, m2, m3, m4, m5⟩ := Sp.may_in hm
  obtain ⟨N, rfl⟩ : ∃ N : Nat, n = N := ⟨n.toNat, by omega⟩
  have EO := Lib.hid (show Sp.ofs N f t = (List.range N).map (Sp.plc N f t) by unfold Sp.ofs; rw [Int.toNat_natCast])
  have BD := Lib.hid (fun (i : Nat) (hi : i < N) => Sp.plc_bd hm (i := i) (by rw [Int.toNat_natCast]; exact hi))
  have PD := Lib.hid (fun i : Nat => (show Sp.plc N f t i = f + (i : Int) * (t - f) / (N : Int) from rfl))
  clear hm
  go_enter Tryd.func66, Tryd.ntmps66
  go_wp2
  go_loopw [7, 8] (fun v i wr => IRowJ (Sp.plc N f t) N w v i wr) (fun _ i _ => N - (intOf i).toNat)
  case atStart => exact ⟨0, Nat.zero_le _, rfl, World.ownsRow_nil _ _ _ _, Below.refl _ _⟩
  case round =>
    obtain ⟨k, hk, hi, hown, hbr⟩ := hrel
    subst hi
    have HO := Lib.hid hown
    have HB := Lib.hid hbr
    have zz := hbr.size
    clear hown hbr
    by_cases hlt : k < N
    · have bd := BD.out k hlt
      have HM := Lib.hid (ints_more (Sp.plc N f t) k)
      have hx0 : 0 ≤ (k : Int) * (t - f) := Int.mul_nonneg (by omega) (by omega)
      have hx1 : (k : Int) * (t - f) ≤ 65536 * 65536 := Int.mul_le_mul (by omega) (by omega) (by omega) (by omega)
      have pd := PD.out k
      have k0 : ¬ (N : Int) = 0 := by omega
      have hy0 : 0 ≤ (k : Int) * (t - f) / (N : Int) := Int.ediv_nonneg hx0 (by omega)
      rw [pd] at HM bd
      have hy1 : (k : Int) * (t - f) / (N : Int) ≤ 65536 := by omega
      obtain ⟨x, hx⟩ : ∃ x, x = (k : Int) * (t - f) := ⟨_, rfl⟩
      rw [← hx] at hx0 hx1 hy0 hy1 HM bd
      have XE := hx.symm
      have XE2 : wrap64 ((k : Int) * (t - f)) = x := by rw [← hx]; unfold wrap64; omega
      clear hx pd
      obtain ⟨y, hy⟩ : ∃ y, y = x / (N : Int) := ⟨_, rfl⟩
      rw [← hy] at hy0 hy1 HM bd
      have YE := hy.symm
      clear hy
      go_wp2_with (at_builtin; refine wpList_more elemI rfl (.tmp 14) (.tmp 24) rfl wr 3 (.int .i64 (f + y)) rfl w.heap.size k _ _ rfl rfl HO.out rfl zz (by unfold maxLen; omega) (by omega) ?_; intro v5 w5 hown5 hb5; rw [← HM.out] at hown5; have HO5 := Lib.hid hown5; have HB5 := Lib.hid (HB.out.trans hb5); clear hown5 hb5)
      go_roundw
      case rel => exact ⟨k + 1, by omega, by go_num, HO5.out, HB5.out⟩
      case measure => simp [intOf]; omega
    · obtain rfl : k = N := by omega
      go_wp2
      go_ret
      rw [EO.out]
      exact ⟨_, rfl, by simpa using HO.out, HB.out⟩
end Go.Proofs.YtmmkaabefofdeaaDoor
