/- What the document's own answers of layer 1 on lists of numbers return: SameInts, Rises; rows of numbers of one's own. They only read. -/
import Derived.Test.YtephmejhglcdiaaRefP01
import Derived.Test.YtephmejhglcdiaaMem
import Derived.Test.YtephmejhglcdiaaRow
import Derived.BigQuiet
import Derived.LoopTactic
namespace Go.Proofs.Ytephmejhglcdiaa
open Go.RowKit
set_option linter.unusedVariables false
set_option linter.unusedSimpArgs false

theorem elemI : Elem Try.prog 22 3 (.int .i64 0) 1 8 :=
  ⟨Try.underlying22, info_parts (show (Try.prog.info? 3).map (fun i => (i.zero, i.size, i.bytes)) = some (some (.int .i64 0), 1, 8) by kernel_rfl), rfl, by decide⟩
theorem take_sameI (xs ys : List Int) (k : Nat) (h1 : k < xs.length) (h2 : k < ys.length) (h : xs.take k = ys.take k) (he : xs.getD k 0 = ys.getD k 0) : xs.take (k + 1) = ys.take (k + 1) := by
  rw [List.take_succ_eq_append_getElem h1, List.take_succ_eq_append_getElem h2, h]
  simp only [List.getD, List.getElem?_eq_getElem h1, List.getElem?_eq_getElem h2, Option.getD_some] at he
  rw [he]
theorem not_sameI (xs ys : List Int) (k : Nat) (he : ¬ xs.getD k 0 = ys.getD k 0) : (xs == ys) = false := by
  rw [beq_eq_false_iff_ne]; rintro rfl; exact he rfl
def SameIJ (xs ys : List Int) (w : World) (i : Value) (wr : World) : Prop := ∃ k q : Nat, k ≤ xs.length ∧ i = .int .i64 k ∧ wr = w.drewN q ∧ xs.take k = ys.take k
set_option maxHeartbeats 400000 in
theorem rSameInts (a b : Option Addr) (ca cb : Nat) (xs ys : List Int) (w : World) (ha : Lst .i64 w a xs) (hb : Lst .i64 w b ys) (hn : xs.length ≤ 2147483647) (hm : ys.length ≤ 2147483647) :
    Calls Try.prog 42 #[.slice a xs.length ca, .slice b ys.length cb] w fun e w' => e = .returned (.bool (xs == ys)) ∧ Below w.heap.size w w' := by
  have HA := Lib.hid ha
  have HB := Lib.hid hb
  clear ha hb
  by_cases hne : xs.length = ys.length
  · have k1 : ((xs.length : Int) != ys.length) = false := by simp; omega
    have HNE := Lib.hid hne
    clear hne
    go_enter Try.func42, Try.ntmps42
    go_wp2
    go_loopw [5] (SameIJ xs ys w) (fun i _ => xs.length - (intOf i).toNat)
    case atStart => exact ⟨0, 0, Nat.zero_le _, rfl, rfl, rfl⟩
    case round =>
      obtain ⟨k, q, hk, rfl, rfl, ht⟩ := hrel
      have HT := Lib.hid ht
      clear ht
      by_cases hlt : k < xs.length
      · have hltb : k < ys.length := by have := HNE.out; omega
        obtain ⟨b1, o1, rfl, _, c1⟩ := HA.out.cell hlt
        obtain ⟨b2, o2, rfl, _, c2⟩ := HB.out.cell hltb
        obtain ⟨x, hx⟩ : ∃ x, xs.getD k 0 = x := ⟨_, rfl⟩
        obtain ⟨y, hy⟩ : ∃ y, ys.getD k 0 = y := ⟨_, rfl⟩
        rw [hx] at c1
        rw [hy] at c2
        have HX := Lib.hid hx
        have HY := Lib.hid hy
        clear hx hy
        by_cases he : x = y
        · have k2 : (x != y) = false := by simp [he]
          have HE := Lib.hid he
          clear he
          go_wp2
          go_quiet (fail)
          go_wp2
          go_roundw
          case rel => exact ⟨k + 1, _, by omega, by go_num, rfl, take_sameI xs ys k hlt hltb HT.out (by rw [HX.out, HY.out, HE.out])⟩
          case measure => simp [intOf]; omega
        · have k2 : (x != y) = true := by simp; omega
          have HE := Lib.hid he
          clear he
          go_wp2
          go_quiet (fail)
          go_wp2
          go_ret
          rw [not_sameI xs ys k (by rw [HX.out, HY.out]; exact HE.out)]
          exact ⟨rfl, below_drewN (below_drewN (Below.refl _ _) _) _⟩
      · go_wp2
        go_ret
        have e : xs = ys := by
          have := HT.out
          rwa [List.take_of_length_le (by omega), List.take_of_length_le (by have := HNE.out; omega)] at this
        rw [e]
        exact ⟨by simp, below_drewN (Below.refl _ _) _⟩
  · have k1 : ((xs.length : Int) != ys.length) = true := by simp; omega
    have H := Lib.hid (show (xs == ys) = false by rw [beq_eq_false_iff_ne]; rintro rfl; exact hne rfl)
    clear hne
    go_enter Try.func42, Try.ntmps42
    go_wp2
    go_ret
    rw [H.out]
    exact ⟨rfl, Below.refl _ _⟩


/-- A new row of numbers. -/
def IRow (zs : List Int) (w : World) (v : Value) (w' : World) : Prop := w'.ownsRow w.heap.size 3 1 v zs.length (zs.map (Value.int .i64)) ∧ Below w.heap.size w w'
theorem irow_list {zs : List Int} {base : Nat} {w : World} {v : Value} (h : w.ownsRow base 3 1 v zs.length (zs.map (Value.int .i64))) : ∃ A c, v = .slice A zs.length c ∧ Lst .i64 w A zs := by
  obtain ⟨A, c, h1, h2, _⟩ := own_cells h
  exact ⟨A, c, h1, Cells.lst h2⟩
/-- Do numbers rise? -/
def risesB (zs : List Int) : Bool := (List.range (zs.length - 1)).all fun i => decide (zs.getD i 0 < zs.getD (i + 1) 0)
theorem rises_not {zs : List Int} {k : Nat} (h : k + 1 < zs.length) (h2 : zs.getD (k + 1) 0 ≤ zs.getD k 0) : risesB zs = false := by
  unfold risesB
  rw [List.all_eq_false]
  exact ⟨k, List.mem_range.2 (by omega), by rw [Bool.not_eq_true]; exact decide_eq_false (by omega)⟩
def RiseJW (zs : List Int) (w : World) (i : Value) (wr : World) : Prop := ∃ k q : Nat, 1 ≤ k ∧ (k ≤ zs.length ∨ k = 1) ∧ i = .int .i64 k ∧ wr = w.drewN q ∧ ∀ j, j + 1 < k → zs.getD j 0 < zs.getD (j + 1) 0
end Go.Proofs.Ytephmejhglcdiaa
