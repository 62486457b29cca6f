/- What the document's own answers of layer 2 (package shelfmarkref02) return: Same, Places. -/
import Derived.Test.YtgbgeedcfccclaaDoorRefA02
import Derived.Deep.QuietTactic
import Derived.BigQuiet
import Derived.WalkSmall
namespace Go.Proofs.YtgbgeedcfccclaaDoor
open Go.RowKit
set_option linter.unusedVariables false

theorem take_same (xs ys : List Nat) (k : Nat) (h1 : k < xs.length) (h2 : k < ys.length) (h : xs.take k = ys.take k) (he : xs.getD k 0 = ys.getD k 0) : xs.take (k + 1) = ys.take (k + 1) := by
  rw [List.take_succ_eq_append_getElem h1, List.take_succ_eq_append_getElem h2, h]
  simp only [List.getD, List.getElem?_eq_getElem h1, List.getElem?_eq_getElem h2, Option.getD_some] at he
  rw [he]
theorem not_same (xs ys : List Nat) (k : Nat) (he : ¬ xs.getD k 0 = ys.getD k 0) : (xs == ys) = false := by
  rw [beq_eq_false_iff_ne]; rintro rfl; exact he rfl

def SameJ (xs ys : List Nat) (w : World) (i : Value) (wr : World) : Prop := ∃ k q : Nat, k ≤ xs.length ∧ i = .int .i64 k ∧ wr = w.drewN q ∧ xs.take k = ys.take k

set_option maxHeartbeats 400000 in
theorem r2Same (a b : Option Addr) (ca cb : Nat) (xs ys : List Nat) (w : World) (ha : Lst .u64 w a (ints xs)) (hb : Lst .u64 w b (ints ys)) (hn : xs.length ≤ 65536) (hm : ys.length ≤ 65536) :
    Calls Tryd.prog 22 #[.slice a xs.length ca, .slice b ys.length cb] w fun e w' => e = .returned (.bool (xs == ys)) ∧ Below w.heap.size w w' := by
  have HA := Lib.hid ha
  have HB := Lib.hid hb
  clear ha hb
  by_cases hne : xs.length = ys.length
  · have k1 : ((xs.length : Int) != ys.length) = false := by simp; omega
    have HNE := Lib.hid hne
    clear hne
    go_enter Tryd.func22, Tryd.ntmps22
    go_wp2
    go_loopw [5] (SameJ xs ys w) (fun i _ => xs.length - (intOf i).toNat)
    case atStart => exact ⟨0, 0, Nat.zero_le _, rfl, rfl, rfl⟩
    case round =>
      obtain ⟨k, q, hk, rfl, rfl, ht⟩ := hrel
      have HT := Lib.hid ht
      clear ht
      by_cases hlt : k < xs.length
      · have hltb : k < ys.length := by have := HNE.out; omega
        obtain ⟨b1, o1, rfl, _, c1⟩ := HA.out.word hlt
        obtain ⟨b2, o2, rfl, _, c2⟩ := HB.out.word hltb
        obtain ⟨x, hx⟩ : ∃ x, xs.getD k 0 = x := ⟨_, rfl⟩
        obtain ⟨y, hy⟩ : ∃ y, ys.getD k 0 = y := ⟨_, rfl⟩
        rw [hx] at c1
        rw [hy] at c2
        have HX := Lib.hid hx
        have HY := Lib.hid hy
        clear hx hy
        by_cases he : x = y
        · have k2 : ((x : Int) != (y : Int)) = false := by simp [he]
          have HE := Lib.hid he
          clear he
          go_wp2
          go_quiet (fail)
          go_wp2
          go_roundw
          case rel => exact ⟨k + 1, _, by omega, by go_num, rfl, take_same xs ys k hlt hltb HT.out (by rw [HX.out, HY.out, HE.out])⟩
          case measure => simp [intOf]; omega
        · have k2 : ((x : Int) != (y : Int)) = true := by simp; omega
          have HE := Lib.hid he
          clear he
          go_wp2
          go_quiet (fail)
          go_wp2
          go_ret
          rw [not_same xs ys k (by rw [HX.out, HY.out]; exact HE.out)]
          exact ⟨rfl, below_drewN (below_drewN (Below.refl _ _) _) _⟩
      · go_wp2
        go_ret
        have e : xs = ys := by
          have := HT.out
          rwa [List.take_of_length_le (by omega), List.take_of_length_le (by have := HNE.out; omega)] at this
        rw [e]
        exact ⟨by simp, below_drewN (Below.refl _ _) _⟩
  · have k1 : ((xs.length : Int) != ys.length) = true := by simp; omega
    have H := Lib.hid (show (xs == ys) = false by rw [beq_eq_false_iff_ne]; rintro rfl; exact hne rfl)
    clear hne
    go_enter Tryd.func22, Tryd.ntmps22
    go_wp2
    go_ret
    rw [H.out]
    exact ⟨rfl, Below.refl _ _⟩

theorem intInfo : (Tryd.prog.info? 3).map (fun i => (i.zero, i.size, i.bytes)) = some (some (.int .i64 0), 1, 8) := by kernel_rfl

/-- Places' loop: what has been gathered of the slots ahead of k. -/
def PlacesJ (ws : List Nat) (lo hi : Nat) (w : World) (v i : Value) (wr : World) : Prop :=
  ∃ k : Nat, lo ≤ k ∧ (k ≤ hi ∨ k = lo) ∧ i = .int .i64 k ∧ wr.ownsRow w.heap.size 3 1 v (Oc.places ws lo k).length ((Oc.places ws lo k).map fun s : Nat => Value.int .i64 (s : Int)) ∧ Below w.heap.size w wr

set_option maxHeartbeats 1000000 in
theorem r2Places (a : Option Addr) (cap : Nat) (ws : List Nat) (lo hi : Nat) (w : World) (hl : Lst .u64 w a (ints ws)) (hw : Wide ws) (hn : ws.length ≤ 65536) (hh : hi ≤ 64 * ws.length) (hlo : lo ≤ 4194304) :
    Calls Tryd.prog 36 #[.slice a ws.length cap, .int .i64 (lo : Int), .int .i64 (hi : Int)] w fun e w' => ∃ v, e = .returned v ∧ w'.ownsRow w.heap.size 3 1 v (Oc.places ws lo hi).length ((Oc.places ws lo hi).map fun s : Nat => Value.int .i64 (s : Int)) ∧ Below w.heap.size w w' := by
  have HL := Lib.hid hl
  have HW := Lib.hid hw
  clear hl hw
  obtain ⟨i0, hi0, hz0, hz1, hz2⟩ := info_parts intInfo
  have I0 := Lib.hid hi0
  have Z0 := Lib.hid hz0
  have Z1 := Lib.hid hz1
  have Z2 := Lib.hid hz2
  clear hi0 hz0 hz1 hz2
  go_enter Tryd.func36, Tryd.ntmps36
  go_wp2
  go_loopw [7, 8] (PlacesJ ws lo hi w) (fun _ i _ => hi - (intOf i).toNat)
  case atStart => exact ⟨lo, Nat.le_refl _, Or.inr rfl, rfl, by rw [Oc.places_self]; exact World.ownsRow_nil _ _ _ _, Below.refl _ _⟩
  case round =>
    obtain ⟨k, hk1, hk2, rfl, hown, hbel⟩ := hrel
    have hkb : k ≤ 4194304 := by omega
    have hpl := Oc.places_length_le ws lo k
    by_cases hlt : k < hi
    · have HL2 := Lib.hid (HL.out.below hbel)
      cases hi2 : Oc.isB ws k
      · have HS := Lib.hid (show Oc.places ws lo (k + 1) = Oc.places ws lo k by rw [Oc.places_snoc ws lo k hk1, hi2]; rfl)
        go_wp2_with (go_at_call 38; refine (r2Is a cap ws _ _ HL2.out HW.out hn (by omega) (by omega)).mono ?_; rintro e w' ⟨rfl, rfl⟩; rw [Int.toNat_natCast, hi2])
        go_roundw
        case rel => exact ⟨k + 1, by omega, Or.inl (by omega), by go_num, by rw [HS.out]; exact hown, hbel⟩
        case measure => simp [intOf]; omega
      · have HS := Lib.hid (show Oc.places ws lo (k + 1) = Oc.places ws lo k ++ [k] by rw [Oc.places_snoc ws lo k hk1, hi2]; rfl)
        go_wp2_with (first | (go_at_call 38; refine (r2Is a cap ws _ _ HL2.out HW.out hn (by omega) (by omega)).mono ?_; rintro e w' ⟨rfl, rfl⟩; rw [Int.toNat_natCast, hi2]) | (at_builtin; refine wpList_append_own _ rfl _ _ 56 rfl w.heap.size 3 i0 (.int .i64 0) 1 8 Tryd.underlying56 I0.out Z0.out Z1.out Z2.out rfl (by decide) _ _ _ rfl (hown.alloc _) ⟨wr.heap.size, 0, none⟩ 1 1 [.int .i64 (k : Int)] rfl rfl ?c1 ?c2 ?c3 ?c4 ?c5 ?_))
        case c1 =>
          intro j u hj
          match j, hj with
          | 0, hj => simp at hj; subst hj; simp [Addr.add]
        case c2 => intro u hu; simp at hu; subst hu; rfl
        case c3 => unfold maxLen; omega
        case c4 => omega
        case c5 => have := hbel.size; simp; omega
        intro v' w1 hown' hgrow _
        have R : Below w.heap.size w w1 := (hbel.alloc hbel.size _).grown hgrow (by have := hbel.size; simp; omega) (fun g hg => (World.ownsRow.lt hown g hg).1)
        have R2 : w1.ownsRow w.heap.size 3 1 v' (Oc.places ws lo (k + 1)).length ((Oc.places ws lo (k + 1)).map fun s : Nat => Value.int .i64 (s : Int)) := by
          rw [HS.out]; simpa using hown'
        clear hown' hgrow hown hbel
        go_wp2
        go_roundw
        case rel => exact ⟨k + 1, by omega, Or.inl (by omega), by go_num, R2, R⟩
        case measure => simp [intOf]; omega
    · have e : Oc.places ws lo k = Oc.places ws lo hi := by
        rcases hk2 with h | h
        · rw [show k = hi from by omega]
        · rw [h, Oc.places_self, Oc.places_ge _ _ _ (by omega)]
      rw [e] at hown
      clear e
      go_wp2
      go_ret
      exact ⟨_, rfl, hown, hbel⟩
end Go.Proofs.YtgbgeedcfccclaaDoor
