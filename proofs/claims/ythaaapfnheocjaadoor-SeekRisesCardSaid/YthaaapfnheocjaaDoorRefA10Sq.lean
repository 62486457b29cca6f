/- What the document's own answers of layer 10 (package shelfmarkref10) return: Below, Rising, Check, Rank. They only read. -/
import Derived.Test.YthaaapfnheocjaaDoorPlain10Sq
import Derived.Test.YthaaapfnheocjaaDoorM04Sq
import Derived.Test.YthaaapfnheocjaaDoorM03Sq
namespace Go.Proofs.YthaaapfnheocjaaDoor
open Go.RowKit
set_option linter.unusedVariables false
set_option linter.unusedSimpArgs false

namespace Sk
def belowN (ps : List (Int × Int)) (k : Int) : Nat := (ps.filter fun p => decide (p.1 < k)).length
theorem below_succ (ps : List (Int × Int)) (k : Int) {i : Nat} (h : i < ps.length) : belowN (ps.take (i + 1)) k = belowN (ps.take i) k + (if (ps.getD i (0, 0)).1 < k then 1 else 0) := by
  unfold belowN; rw [List.take_succ_eq_append_getElem h, List.filter_append, List.length_append]
  congr 1
  simp only [List.getD, List.getElem?_eq_getElem h, Option.getD_some]
  by_cases e : (ps[i]).1 < k <;> simp [e]
theorem below_le (ps : List (Int × Int)) (k : Int) (i : Nat) : belowN (ps.take i) k ≤ i := by
  unfold belowN; refine Nat.le_trans (List.length_filter_le _ _) ?_; rw [List.length_take]; omega
theorem below_low (s : Sl) (k : Int) : belowN (s.of 0 s.keys.length) k = (low s k).length := by
  unfold belowN low Sl.of all; rw [List.filter_map, List.length_map]
  rfl
/-- Keys of pairs that rise, k of them. -/
def RisesTo (ps : List (Int × Int)) (k : Nat) : Prop := ∀ i j : Nat, i < j → j < k → (ps.getD i (0, 0)).1 < (ps.getD j (0, 0)).1
theorem rises_one (ps : List (Int × Int)) : RisesTo ps 1 := fun i j h1 h2 => by omega
theorem RisesTo.next {ps : List (Int × Int)} {k : Nat} (h : RisesTo ps (k + 1)) (hk : (ps.getD k (0, 0)).1 < (ps.getD (k + 1) (0, 0)).1) : RisesTo ps (k + 1 + 1) := fun i j h1 h2 => by
  by_cases e : j < k + 1
  · exact h i j h1 e
  · obtain rfl : j = k + 1 := by omega
    by_cases e2 : i = k
    · subst e2; exact hk
    · have := h i k (by omega) (by omega); omega
def risesP (ps : List (Int × Int)) : Bool := decide ((ps.map fun p => p.1).Pairwise (· < ·))
theorem rises_iff10 (ps : List (Int × Int)) : (ps.map fun p => p.1).Pairwise (· < ·) ↔ RisesTo ps ps.length := by
  rw [List.pairwise_iff_getElem]
  constructor
  · intro h i j h1 h2
    have := h i j (by simp; omega) (by simp; omega) h1
    simpa [List.getD, List.getElem?_eq_getElem h2, List.getElem?_eq_getElem (show i < ps.length by omega)] using this
  · intro h i j hi hj h1
    simp only [List.length_map] at hi hj
    have := h i j h1 hj
    simpa [List.getD, List.getElem?_eq_getElem hi, List.getElem?_eq_getElem hj] using this
theorem risesP_yes {ps : List (Int × Int)} {k : Nat} (h : RisesTo ps k) (hk : ps.length ≤ k) : risesP ps = true := by
  unfold risesP; rw [decide_eq_true_eq, rises_iff10]; exact fun i j h1 h2 => h i j h1 (by omega)
theorem risesP_no {ps : List (Int × Int)} {k : Nat} (h2 : k + 1 < ps.length) (hk : (ps.getD (k + 1) (0, 0)).1 ≤ (ps.getD k (0, 0)).1) : risesP ps = false := by
  unfold risesP; rw [decide_eq_false_iff_not, rises_iff10]; intro h; have := h k (k + 1) (by omega) h2
  omega
theorem risesP_of (s : Sl) : risesP (s.of 0 s.keys.length) = risesB s := by
  unfold risesP risesB ks Sl.of all; rw [List.map_map]
  rfl
end Sk

def BelowJ (ps : List (Int × Int)) (k : Int) (w : World) (n i : Value) (wr : World) : Prop := ∃ j : Nat, j ≤ ps.length ∧ i = .int .i64 j ∧ n = .int .i64 (Sk.belowN (ps.take j) k : Nat) ∧ Below w.heap.size w wr
set_option maxRecDepth 100000 in
set_option maxHeartbeats 1000000 in
theorem r10Below (a : Option Addr) (c : Nat) (ps : List (Int × Int)) (k : Int) (w : World) (hp : PLst w a ps) (hn : ps.length ≤ 65536) :
    Calls Tryd.prog 36 #[.slice a ps.length c, .int .i64 k] w fun e w' => e = .returned (.int .i64 (Sk.belowN ps k : Nat)) ∧ Below w.heap.size w w' := by
  have HP := Lib.hid hp; clear hp
  go_enter Tryd.func36, Tryd.ntmps36
  go_wp2
  go_loopw [5, 6] (BelowJ ps k w) (fun _ i _ => ps.length - (intOf i).toNat)
  case atStart => exact ⟨0, Nat.zero_le _, rfl, rfl, Below.refl _ _⟩
  case round =>
    obtain ⟨j, hj, rfl, rfl, hb⟩ := hrel
    by_cases hlt : j < ps.length
    · obtain ⟨b1, o1, rfl, _, c1, c2⟩ := (HP.out.below hb).pair hlt
      have HS := Lib.hid (Sk.below_succ ps k hlt); have hle := Sk.below_le ps k j; obtain ⟨m, hm⟩ : ∃ m, Sk.belowN (ps.take j) k = m := ⟨_, rfl⟩; rw [hm] at HS hle ⊢; obtain ⟨x, hx⟩ : ∃ x, (ps.getD j (0, 0)).1 = x := ⟨_, rfl⟩; rw [hx] at c1 HS; clear hm hx
      by_cases hk : x < k
      · rw [if_pos hk] at HS
        have k1 : decide (x < k) = true := by simp [hk]
        clear hk; go_wp2
        go_roundw
        case rel => exact ⟨j + 1, by omega, by go_num, by rw [HS.out]; go_num, by first | exact hb | exact below_drewN hb _⟩
        case measure => simp [intOf]; omega
      · rw [if_neg hk] at HS
        have k1 : decide (x < k) = false := by simp [hk]
        clear hk; go_wp2
        go_roundw
        case rel => exact ⟨j + 1, by omega, by go_num, by rw [HS.out, Nat.add_zero], by first | exact hb | exact below_drewN hb _⟩
        case measure => simp [intOf]; omega
    · have HE := Lib.hid (show ps.take j = ps from List.take_of_length_le (by omega))
      go_wp2; go_ret; rw [HE.out]; exact ⟨rfl, by first | exact hb | exact below_drewN hb _⟩
def RisingJ (ps : List (Int × Int)) (w : World) (r i : Value) (wr : World) : Prop := ∃ j : Nat, (j + 1 ≤ ps.length ∨ j = 0) ∧ i = .int .i64 ((j : Int) + 1) ∧ Sk.RisesTo ps (j + 1) ∧ Below w.heap.size w wr
set_option maxRecDepth 100000 in
set_option maxHeartbeats 1000000 in
theorem r10Rising (a : Option Addr) (c : Nat) (ps : List (Int × Int)) (w : World) (hp : PLst w a ps) (hn : ps.length ≤ 65536) :
    Calls Tryd.prog 40 #[.slice a ps.length c] w fun e w' => e = .returned (.bool (Sk.risesP ps)) ∧ Below w.heap.size w w' := by
  have HP := Lib.hid hp; clear hp
  go_enter Tryd.func40, Tryd.ntmps40
  go_wp2
  go_loopw [2, 3] (RisingJ ps w) (fun _ i _ => ps.length - (intOf i).toNat)
  case atStart => exact ⟨0, Or.inr rfl, rfl, Sk.rises_one ps, Below.refl _ _⟩
  case round =>
    obtain ⟨j, hj, rfl, hr, hb⟩ := hrel
    by_cases hlt : j + 1 < ps.length
    · obtain ⟨b1, o1, rfl, _, c1, _⟩ := (HP.out.below hb).pair (i := j) (by omega)
      obtain ⟨b2, o2, hA, _, c2, _⟩ := (HP.out.below hb).pair hlt
      injection hA with hA
      injection hA with e1 e2
      subst e1 e2; have HN := Lib.hid (fun h => hr.next h); have HNO := Lib.hid (fun h => Sk.risesP_no (ps := ps) hlt h); obtain ⟨x, hx⟩ : ∃ x, (ps.getD j (0, 0)).1 = x := ⟨_, rfl⟩; obtain ⟨y, hy⟩ : ∃ y, (ps.getD (j + 1) (0, 0)).1 = y := ⟨_, rfl⟩; rw [hx] at c1 HN HNO; rw [hy] at c2 HN HNO; clear hx hy hr
      have i0 : (0 : Int) ≤ (j : Int) + 1 := by omega
      have i1 : (j : Int) + 1 < (ps.length : Int) := by omega
      have i2 : (j : Int) < (ps.length : Int) := by omega
      by_cases hk : y ≤ x
      · have E := Lib.hid (HNO.out hk)
        have k1 : decide (y ≤ x) = true := by simp [hk]
        clear hk; go_wp2
        go_quiet (fail)
        go_wp2; go_ret; rw [E.out]; exact ⟨rfl, by first | exact hb | exact below_drewN hb _⟩
      · have E := Lib.hid (HN.out (by omega))
        have k1 : decide (y ≤ x) = false := by simp [hk]
        clear hk; go_wp2
        go_quiet (fail)
        go_wp2
        go_roundw
        case rel => exact ⟨j + 1, Or.inl (by omega), by go_num, E.out, by first | exact hb | exact below_drewN hb _⟩
        case measure => simp [intOf]; omega
    · have E := Lib.hid (Sk.risesP_yes hr (by omega))
      have i1 : ¬ (j : Int) + 1 < (ps.length : Int) := by omega
      go_wp2; go_ret; rw [E.out]; exact ⟨rfl, by first | exact hb | exact below_drewN hb _⟩
end Go.Proofs.YthaaapfnheocjaaDoor
