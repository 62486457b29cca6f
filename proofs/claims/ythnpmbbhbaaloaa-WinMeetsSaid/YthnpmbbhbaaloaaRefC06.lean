/- What the document's own answer SameAll of layer 6 (package shelfmarkref06) returns. It only reads. -/
import Derived.Test.YthnpmbbhbaaloaaRefA06
import Derived.Laws.StructEq
namespace Go.Proofs.Ythnpmbbhbaaloaa
open Go.RowKit
set_option linter.unusedVariables false

theorem take_sameW (xs ys : List (Int × Int)) (k : Nat) (h1 : k < xs.length) (h2 : k < ys.length) (h : xs.take k = ys.take k) (he : xs.getD k (0, 0) = ys.getD k (0, 0)) : xs.take (k + 1) = ys.take (k + 1) := by
  rw [List.take_succ_eq_append_getElem h1, List.take_succ_eq_append_getElem h2, h]
  simp only [List.getD, List.getElem?_eq_getElem h1, List.getElem?_eq_getElem h2, Option.getD_some] at he
  rw [he]
theorem not_sameW (xs ys : List (Int × Int)) (k : Nat) (he : ¬ xs.getD k (0, 0) = ys.getD k (0, 0)) : (xs == ys) = false := by
  rw [beq_eq_false_iff_ne]; rintro rfl; exact he rfl
/-- Two arrays of two numbers, compared. -/
theorem eq_arr2 (d : Nat) (x1 x2 y1 y2 : Int) (w : World) : Sem.run Try.prog (Op.equalIn (d + 2) 33 (.agg #[.int .i64 x1, .int .i64 x2]) (.agg #[.int .i64 y1, .int .i64 y2])) w = .ok (x1 == y1 && x2 == y2) w := by
  have hs : Sem.run Try.prog (sizeOf 3) w = .ok 1 w := by first | rfl | kernel_rfl | simp [go_sem]
  have p0 : Sem.run Try.prog (part 3 #[.int .i64 x1, .int .i64 x2] 0) w = .ok (.int .i64 x1) w := by first | rfl | kernel_rfl | simp [go_sem]
  have p1 : Sem.run Try.prog (part 3 #[.int .i64 x1, .int .i64 x2] 1) w = .ok (.int .i64 x2) w := by first | rfl | kernel_rfl | simp [go_sem]
  have p2 : Sem.run Try.prog (part 3 #[.int .i64 y1, .int .i64 y2] 0) w = .ok (.int .i64 y1) w := by first | rfl | kernel_rfl | simp [go_sem]
  have p3 : Sem.run Try.prog (part 3 #[.int .i64 y1, .int .i64 y2] 1) w = .ok (.int .i64 y2) w := by first | rfl | kernel_rfl | simp [go_sem]
  have q1 := run_equalIn_int (P := Try.prog) w d 3 .i64 .i64 x1 y1 Try.underlying3
  have q2 := run_equalIn_int (P := Try.prog) w d 3 .i64 .i64 x2 y2 Try.underlying3
  rw [Op.equalIn]
  simp only [Sem.run_bind, run_underlying Try.underlying33, Result.andThen_ok, hs]
  first | simp only [Std.Legacy.Range.forIn_eq_forIn_range'] | skip
  generalize (x1 == y1) = b1 at q1 ⊢
  generalize (x2 == y2) = b2 at q2 ⊢
  cases b1 <;> cases b2 <;> simp [Sem.run_bind, p0, p1, p2, p3, q1, q2, Result.andThen, List.range']
def SameWJ (xs ys : List (Int × Int)) (w : World) (i : Value) (wr : World) : Prop := ∃ k q : Nat, k ≤ xs.length ∧ i = .int .i64 k ∧ wr = w.drewN q ∧ xs.take k = ys.take k
set_option maxRecDepth 100000 in
set_option maxHeartbeats 400000 in
theorem r6SameAll (a b : Option Addr) (ca cb : Nat) (xs ys : List (Int × Int)) (w : World) (ha : PLst w a xs) (hb : PLst w b ys) (hn : xs.length ≤ 2147483647) (hm : ys.length ≤ 2147483647) :
    Calls Try.prog 14 #[.slice a xs.length ca, .slice b ys.length cb] w fun e w' => e = .returned (.bool (xs == ys)) ∧ Below w.heap.size w w' := by
  have HA := Lib.hid ha
  have HB := Lib.hid hb
  clear ha hb
  by_cases hne : xs.length = ys.length
  · have k1 : ((xs.length : Int) != ys.length) = false := by simp; omega
    have HNE := Lib.hid hne
    clear hne
    go_enter Try.func14, Try.ntmps14
    go_wp2
    go_loopw [5] (SameWJ xs ys w) (fun i _ => xs.length - (intOf i).toNat)
    case atStart => exact ⟨0, 0, Nat.zero_le _, rfl, rfl, rfl⟩
    case round =>
      obtain ⟨k, q, hk, rfl, rfl, ht⟩ := hrel
      have HT := Lib.hid ht
      clear ht
      by_cases hlt : k < xs.length
      · have hltb : k < ys.length := by have := HNE.out; omega
        obtain ⟨b1, o1, rfl, _, c1, c2⟩ := HA.out.pair hlt
        obtain ⟨b2, o2, rfl, _, c3, c4⟩ := HB.out.pair hltb
        obtain ⟨x, hx⟩ : ∃ x, xs.getD k (0, 0) = x := ⟨_, rfl⟩
        obtain ⟨y, hy⟩ : ∃ y, ys.getD k (0, 0) = y := ⟨_, rfl⟩
        rw [hx] at c1 c2
        rw [hy] at c3 c4
        have HX := Lib.hid hx
        have HY := Lib.hid hy
        clear hx hy
        obtain ⟨x1, x2⟩ := x
        obtain ⟨y1, y2⟩ := y
        dsimp only at c1 c2 c3 c4
        cases e1 : (x1 == y1)
        · have HE := Lib.hid (show ¬ (x1, x2) = (y1, y2) by intro h; injection h with h1 h2; rw [h1] at e1; simp at e1)
          have hq : ∀ w' : World, Sem.run Try.prog (Op.equalIn 10000 33 (.agg #[.int .i64 x1, .int .i64 x2]) (.agg #[.int .i64 y1, .int .i64 y2])) w' = .ok false w' := fun w' => by
            have := eq_arr2 9998 x1 x2 y1 y2 w'
            rw [e1, Bool.false_and] at this
            exact this
          have hgd : Try.prog.eqGuardType Try.prog.depth 33 = false := by kernel_rfl
          go_wp2
          go_quiet (fail)
          go_wp2
          go_ret
          rw [not_sameW xs ys k (by rw [HX.out, HY.out]; exact HE.out)]
          exact ⟨rfl, below_drewN (below_drewN (Below.refl _ _) _) _⟩
        · cases e2 : (x2 == y2)
          · have HE := Lib.hid (show ¬ (x1, x2) = (y1, y2) by intro h; injection h with h1 h2; rw [h2] at e2; simp at e2)
            have hq : ∀ w' : World, Sem.run Try.prog (Op.equalIn 10000 33 (.agg #[.int .i64 x1, .int .i64 x2]) (.agg #[.int .i64 y1, .int .i64 y2])) w' = .ok false w' := fun w' => by
              have := eq_arr2 9998 x1 x2 y1 y2 w'
              rw [e1, e2, Bool.and_false] at this
              exact this
            have hgd : Try.prog.eqGuardType Try.prog.depth 33 = false := by kernel_rfl
            go_wp2
            go_quiet (fail)
            go_wp2
            go_ret
            rw [not_sameW xs ys k (by rw [HX.out, HY.out]; exact HE.out)]
            exact ⟨rfl, below_drewN (below_drewN (Below.refl _ _) _) _⟩
          · have HE := Lib.hid (show (x1, x2) = (y1, y2) by rw [beq_iff_eq.1 e1, beq_iff_eq.1 e2])
            have hq : ∀ w' : World, Sem.run Try.prog (Op.equalIn 10000 33 (.agg #[.int .i64 x1, .int .i64 x2]) (.agg #[.int .i64 y1, .int .i64 y2])) w' = .ok true w' := fun w' => by
              have := eq_arr2 9998 x1 x2 y1 y2 w'
              rw [e1, e2, Bool.and_self] at this
              exact this
            have hgd : Try.prog.eqGuardType Try.prog.depth 33 = false := by kernel_rfl
            go_wp2
            go_quiet (fail)
            go_wp2
            go_roundw
            case rel => exact ⟨k + 1, _, by omega, by go_num, rfl, take_sameW xs ys k hlt hltb HT.out (by rw [HX.out, HY.out, HE.out])⟩
            case measure => simp [intOf]; omega
      · go_wp2
        go_ret
        have e : xs = ys := by
          have := HT.out
          rwa [List.take_of_length_le (by omega), List.take_of_length_le (by have := HNE.out; omega)] at this
        rw [e]
        exact ⟨by simp, below_drewN (Below.refl _ _) _⟩
  · have k1 : ((xs.length : Int) != ys.length) = true := by simp; omega
    have H := Lib.hid (show (xs == ys) = false by rw [beq_eq_false_iff_ne]; rintro rfl; exact hne rfl)
    clear hne
    go_enter Try.func14, Try.ntmps14
    go_wp2
    go_ret
    rw [H.out]
    exact ⟨rfl, Below.refl _ _⟩
end Go.Proofs.Ythnpmbbhbaaloaa
