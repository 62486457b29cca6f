/- The walk of the law CrcTells: crc's Go and Of answer what the document's own do. -/
import Derived.Test.YthdondjhiflkaaaCrc
import Derived.Test.YthdondjhiflkaaaBytes03
namespace Go.Proofs.Ythdondjhiflkaaa.crcTells
open Go.RowKit
set_option linter.unusedVariables false

set_option maxRecDepth 100000 in
set_option maxHeartbeats 1000000 in
theorem short (s : Nat) (a : Option Addr) (cap : Nat) (bs : List Nat) (W : World) (hs : s < 4294967296) (hl : Lst .u8 W a (ints bs)) (hw : Bytes bs) (hnil : a = none → bs.length = 0 ∧ cap = 0) (h3 : bs.length ≤ 3000) :
    Calls Try.prog 4 #[.int .u32 (s : Int), .slice a bs.length cap] W fun e w' => e = .returned (.bool true) ∧ Below W.heap.size W w' := by
  have HL := Lib.hid hl
  have HW := Lib.hid hw
  have HN := Lib.hid hnil
  have h31 : bs.length ≤ 2147483647 := by omega
  clear hl hw hnil
  go_enter Try.func4, Try.ntmps4
  go_wp2_with (at_builtin; refine wpList_copy elemB rfl _ _ rfl W rfl a bs.length cap (valsB bs) rfl rfl (Cells.of_lst HL.out) (by rw [valsB_length, Nat.mul_one]) (valsB_one bs) HN.out (by unfold maxLen; omega) (by omega) ?_; intro A c w1 hown1 hC1 hb1)
  have HO := Lib.hid (own_cells hown1)
  have HB := Lib.hid hC1.lst
  replace HL := Lib.hid (HL.out.below hb1)
  have hb := hb1
  have HNA := Lib.hid (show A = none → bs.length = 0 ∧ c = 0 by
    obtain ⟨A', c', e, _, h, _⟩ := HO.out
    cases e
    exact h)
  clear hown1 hC1 hb1 HO
  go_wp2_with fail
  refine (cGo s A c bs _ hs HB.out HW.out h31 HNA.out).mono ?_
  rintro e w2 ⟨rfl, hb2⟩
  replace HL := Lib.hid (HL.out.below hb2)
  replace HB := Lib.hid (HB.out.below hb2)
  replace hb := hb.trans (hb2.mono hb.size)
  clear hb2
  go_wp2_with fail
  refine (r3Go s a cap bs _ hs HL.out HW.out h31).mono ?_
  rintro e w3 ⟨rfl, rfl⟩
  go_wp2_with fail
  refine (cOf A c bs _ HB.out HW.out h31 HNA.out).mono ?_
  rintro e w4 ⟨rfl, hb2⟩
  replace HL := Lib.hid (HL.out.below hb2)
  replace HB := Lib.hid (HB.out.below hb2)
  replace hb := hb.trans (hb2.mono hb.size)
  clear hb2
  go_wp2_with fail
  refine (r3Of a cap bs _ HL.out HW.out h31).mono ?_
  rintro e w5 ⟨rfl, rfl⟩
  have q1 := conv_bytes c HB.out
  have q2 := conv_bytes cap HL.out
  go_wp2
  go_ret
  exact ⟨rfl, hb⟩

theorem walk (s : Nat) (a : Option Addr) (cap : Nat) (bs : List Nat) (W : World) (hs : s < 4294967296) (hl : Lst .u8 W a (ints bs)) (hw : Bytes bs) (hnil : a = none → bs.length = 0 ∧ cap = 0) :
    Calls Try.prog 4 #[.int .u32 (s : Int), .slice a bs.length cap] W fun e w' => e = .returned (.bool true) ∧ Below W.heap.size W w' := by
  by_cases h3 : bs.length ≤ 3000
  · exact short s a cap bs W hs hl hw hnil h3
  · clear hl hw hnil
    go_enter Try.func4, Try.ntmps4
    go_wp2
    go_ret
    exact ⟨rfl, Below.refl _ _⟩
end Go.Proofs.Ythdondjhiflkaaa.crcTells
