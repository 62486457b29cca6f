/- What the document's own answers of layer 3 (package shelfmarkref03) return: Sealed, Seal. -/
import Derived.Test.YthdondjhiflkaaaRefA03
import Derived.Test.YthdondjhiflkaaaRow
namespace Go.Proofs.Ythdondjhiflkaaa
open Go.RowKit
set_option linter.unusedVariables false

def valsB (bs : List Nat) : List Value := (ints bs).map (Value.int .u8)
theorem valsB_length (bs : List Nat) : (valsB bs).length = bs.length := by simp [valsB, ints]
theorem valsB_one (bs : List Nat) : ∀ u ∈ valsB bs, u.oneCell' = true := by
  intro u hu
  simp only [valsB, List.mem_map] at hu
  obtain ⟨x, _, rfl⟩ := hu
  rfl
theorem valsB_append (a b : List Nat) : valsB (a ++ b) = valsB a ++ valsB b := by simp [valsB, ints]
theorem valsB_set (bs : List Nat) (i x : Nat) : (valsB bs).set i (.int .u8 (x : Int)) = valsB (bs.set i x) := by simp [valsB, ints, List.map_set]
theorem elemB : Elem Try.prog 22 5 (.int .u8 0) 1 1 :=
  ⟨Try.underlying22, info_parts (show (Try.prog.info? 5).map (fun i => (i.zero, i.size, i.bytes)) = some (some (.int .u8 0), 1, 1) by kernel_rfl), rfl, by decide⟩
def RowPost (bs : List Nat) (w : World) (e : Ending) (w' : World) : Prop :=
  ∃ v, e = .returned v ∧ w'.ownsRow w.heap.size 5 1 v bs.length (valsB bs) ∧ Below w.heap.size w w'

def SealJ (bs : List Nat) (w : World) (s out i : Value) (wr : World) : Prop :=
  ∃ k : Nat, k ≤ 4 ∧ i = .int .i64 k ∧ s = .int .u32 ((Cr.sumB bs / 256 ^ k : Nat) : Int) ∧ wr.ownsRow w.heap.size 5 1 out (bs.length + k) (valsB (bs ++ (Cr.le4 (Cr.sumB bs)).take k)) ∧ Below w.heap.size w wr
theorem le4_at (v k : Nat) (hk : k < 4) : (Cr.le4 v).take (k + 1) = (Cr.le4 v).take k ++ [v / 256 ^ k % 256] := by
  unfold Cr.le4
  rcases (show k = 0 ∨ k = 1 ∨ k = 2 ∨ k = 3 by omega) with rfl | rfl | rfl | rfl <;> simp
set_option maxHeartbeats 1000000 in
theorem r3Sealed (a : Option Addr) (cap : Nat) (bs : List Nat) (w : World) (hl : Lst .u8 w a (ints bs)) (hw : Bytes bs) (hn : bs.length ≤ 2147483647) (hnil : a = none → bs.length = 0 ∧ cap = 0) :
    Calls Try.prog 26 #[.slice a bs.length cap] w (RowPost (Cr.sealed bs) w) := by
  have HL := Lib.hid hl
  have HW := Lib.hid hw
  have HN := Lib.hid hnil
  have HLen := Lib.hid (Cr.sealed_length bs)
  have hlt := Cr.sumB_lt bs
  clear hl hw hnil
  go_enter Try.func26, Try.ntmps26
  go_wp2_with fail
  refine (r3Sum a cap bs _ HL.out HW.out hn).mono ?_
  rintro e w' ⟨rfl, rfl⟩
  obtain ⟨x, hxe⟩ : ∃ x, x = Cr.sumB bs := ⟨_, rfl⟩
  rw [← hxe] at hlt ⊢
  have HX := Lib.hid hxe
  clear hxe
  go_wp2_with (at_builtin; refine wpList_copy elemB rfl (.tmp 8) (.tmp 9) rfl w rfl a bs.length cap (valsB bs) rfl rfl (Cells.of_lst HL.out) (by rw [valsB_length, Nat.mul_one]) (valsB_one bs) HN.out (by unfold maxLen; omega) (by omega) ?_; intro A c w1 hown1 _ hb1)
  have HO := Lib.hid hown1
  clear hown1
  go_loopw [3, 4, 5] (SealJ bs w) (fun _ _ i _ => 4 - (intOf i).toNat)
  case atStart => exact ⟨0, by omega, rfl, by rw [HX.out]; simp, by rw [List.take_zero, List.append_nil]; exact HO.out, hb1⟩
  case round =>
    obtain ⟨k, hk, rfl, rfl, hown, hbr⟩ := hrel
    by_cases hk4 : k < 4
    · have HT := Lib.hid (le4_at (Cr.sumB bs) k hk4)
      have hdl : Cr.sumB bs / 256 ^ k < 4294967296 := Nat.lt_of_le_of_lt (Nat.div_le_self _ _) (Cr.sumB_lt bs)
      have HD := Lib.hid (show Cr.sumB bs / 256 ^ (k + 1) = Cr.sumB bs / 256 ^ k / 256 by rw [Nat.div_div_eq_div_mul, Nat.pow_succ])
      obtain ⟨y, hye⟩ : ∃ y, y = Cr.sumB bs / 256 ^ k := ⟨_, rfl⟩
      rw [← hye] at hdl ⊢
      have HY := Lib.hid hye
      clear hye
      have HO2 := Lib.hid hown
      clear hown
      go_wp2_with (at_builtin; refine wpList_more elemB rfl _ _ rfl wr 5 (.int .u8 ((y : Int) % 256)) rfl w.heap.size (bs.length + k) _ _ rfl rfl HO2.out rfl hbr.size (by unfold maxLen; omega) (by omega) ?_)
      intro v' w2 hown2 hb2
      have R := Lib.hid (show w2.ownsRow w.heap.size 5 1 v' (bs.length + (k + 1)) (valsB (bs ++ (Cr.le4 (Cr.sumB bs)).take (k + 1))) by
        rw [show bs.length + (k + 1) = bs.length + k + 1 from by omega, HT.out, ← List.append_assoc, valsB_append _ [_], ← HY.out]
        simpa [valsB, ints] using hown2)
      clear hown2
      go_wp2
      go_roundw
      case rel => exact ⟨k + 1, by omega, by go_num, by rw [HD.out, ← HY.out]; congr 1, R.out, hbr.trans hb2⟩
      case measure => simp [intOf]; omega
    · obtain rfl : k = 4 := by omega
      have R := Lib.hid (show wr.ownsRow w.heap.size 5 1 u4 (Cr.sealed bs).length (valsB (Cr.sealed bs)) by
        rw [HLen.out]; exact hown)
      clear hown
      go_wp2
      go_ret
      exact ⟨_, rfl, R.out, hbr⟩

def Cr.sealV (bs : List Nat) : List Nat := if 1048576 < bs.length then [] else Cr.sealed bs
def RowPost2 (bs : List Nat) (er : Int) (w : World) (e : Ending) (w' : World) : Prop :=
  ∃ v, e = .returned (.tuple #[v, .int .i64 er]) ∧ w'.ownsRow w.heap.size 5 1 v bs.length (valsB bs) ∧ Below w.heap.size w w'
set_option maxHeartbeats 400000 in
theorem r3Seal (a : Option Addr) (cap : Nat) (bs : List Nat) (w : World) (hl : Lst .u8 w a (ints bs)) (hw : Bytes bs) (hn : bs.length ≤ 2147483647) (hnil : a = none → bs.length = 0 ∧ cap = 0) :
    Calls Try.prog 17 #[.slice a bs.length cap] w (RowPost2 (Cr.sealV bs) (Cr.goE bs) w) := by
  have HL := Lib.hid hl
  have HW := Lib.hid hw
  have HN := Lib.hid hnil
  clear hl hw hnil
  by_cases h : 1048576 < bs.length
  · have H := Lib.hid (show Cr.goE bs = 4 by unfold Cr.goE; rw [if_pos h])
    have H2 := Lib.hid (show Cr.sealV bs = [] by unfold Cr.sealV; rw [if_pos h])
    go_enter Try.func17, Try.ntmps17
    go_wp2
    go_ret2
    refine ⟨.slice none 0 0, by rw [H.out]; rfl, ?_, Below.refl _ _⟩
    rw [H2.out]
    exact World.ownsRow_nil _ _ _ _
  · have H := Lib.hid (show Cr.goE bs = 0 by unfold Cr.goE; rw [if_neg h])
    have H2 := Lib.hid (show Cr.sealV bs = Cr.sealed bs by unfold Cr.sealV; rw [if_neg h])
    go_enter Try.func17, Try.ntmps17
    go_wp2_with fail
    refine (r3Sealed a cap bs _ HL.out HW.out hn HN.out).mono ?_
    rintro e w1 ⟨v, rfl, hown, hb1⟩
    have R := Lib.hid hown
    clear hown
    go_wp2
    go_ret2
    refine ⟨v, by rw [H.out]; rfl, ?_, hb1⟩
    rw [H2.out]
    exact R.out
end Go.Proofs.Ythdondjhiflkaaa
