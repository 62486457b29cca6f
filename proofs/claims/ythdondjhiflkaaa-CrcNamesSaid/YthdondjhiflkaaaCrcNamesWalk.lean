/- The walk of the law CrcNames: the limit and errors, and the examples. -/
import Derived.Test.YthdondjhiflkaaaLaw03
import Derived.Test.YthdondjhiflkaaaCrcFacts
namespace Go.Proofs.Ythdondjhiflkaaa.crcNames
open Go.RowKit
set_option linter.unusedVariables false

theorem lst_new (w : World) (t : TypeId) (bs : List Nat) (C : Array Value) (hC : C.toList = valsB bs) : Lst .u8 (w.alloc (.cells C t)) (some ⟨w.heap.size, 0, none⟩) (ints bs) := by
  refine Or.inr ⟨w.heap.size, 0, rfl, by simp, fun i hi => ?_⟩
  have hh : (w.alloc (.cells C t)).heap[w.heap.size]? = some (.cells C t) := World.alloc_heap_new w _
  simp only [World.cell?, hh, Nat.zero_add]
  have : C[i]? = (valsB bs)[i]? := by rw [← hC, Array.getElem?_toList]
  rw [show (C[i]? : Option Value) = some (.int .u8 ((ints bs).getD i 0)) from by
    rw [this]; simp only [valsB, List.getElem?_map, List.getElem?_eq_getElem hi, Option.map_some, List.getD, Option.getD_some]]
  rfl

theorem valsB_zeros (n : Nat) : List.replicate n (Value.int .u8 0) = valsB (List.replicate n 0) := by simp [valsB, ints]
theorem bytes_zeros (n : Nat) : Bytes (List.replicate n 0) := by
  intro i
  simp only [List.getD, List.getElem?_replicate]
  split <;> simp
theorem cOfN (n : Nat) (a : Option Addr) (cap : Nat) (bs : List Nat) (w : World) (hbn : bs.length = n) (hl : Lst .u8 w a (ints bs)) (hw : Bytes bs) (hn : bs.length ≤ 2147483647) (hnil : a = none → bs.length = 0 ∧ cap = 0) :
    Calls Try.prog 12 #[.slice a n cap] w fun e w' => e = .returned (.tuple #[.int .u32 (Cr.ofV bs : Int), .int .i64 (Cr.goE bs)]) ∧ Below w.heap.size w w' := by
  subst hbn
  exact cOf a cap bs w hl hw hn hnil

set_option maxRecDepth 100000 in
set_option maxHeartbeats 2000000 in
theorem walk (W : World) : Calls Try.prog 3 #[] W fun e w' => e = .returned (.bool true) ∧ Below W.heap.size W w' := by
  have HB0 := Lib.hid (bytes_all (bs := []) (by decide))
  have HB3 := Lib.hid (bytes_all (bs := [0, 0, 0]) (by decide))
  have HB4 := Lib.hid (bytes_all (bs := [0, 0, 0, 0]) (by decide))
  have HB5 := Lib.hid (bytes_all (bs := [1, 0, 0, 0]) (by decide))
  have HB2 := Lib.hid (bytes_all (bs := [0, 0]) (by decide))
  have V1 := Lib.hid (show Cr.sealV [] = [0, 0, 0, 0] by decide +kernel)
  have e1 : Cr.goE [] = 0 := by decide
  have e2 : Cr.openE [0, 0, 0] = 8 := by decide +kernel
  have V2 := Lib.hid (show Cr.openV [0, 0, 0] = [] by decide +kernel)
  have e3 : Cr.openE [0, 0, 0, 0] = 0 := by decide +kernel
  have V3 := Lib.hid (show Cr.openV [0, 0, 0, 0] = [] by decide +kernel)
  have e4 : Cr.openE [1, 0, 0, 0] = 8 := by decide +kernel
  have V4 := Lib.hid (show Cr.openV [1, 0, 0, 0] = [] by decide +kernel)
  have e5 : Cr.burstE [0, 0] 7 3 = 0 := by decide +kernel
  have V5 := Lib.hid (show Cr.burstV [0, 0] 7 3 = [128, 1] by decide +kernel)
  have e6 : Cr.burstE [0, 0] 15 2 = 2 := by decide +kernel
  have V6 := Lib.hid (show Cr.burstV [0, 0] 15 2 = [] by decide +kernel)
  have e7 : Cr.burstE [0, 0] (-1) 0 = 2 := by decide +kernel
  have V7 := Lib.hid (show Cr.burstV [0, 0] (-1) 0 = [] by decide +kernel)
  have e8 : Cr.burstE [] 99 0 = 0 := by decide +kernel
  have V8 := Lib.hid (show Cr.burstV [] 99 0 = [] by decide +kernel)
  have hb : Below W.heap.size W W := Below.refl _ _
  go_enter Try.func3, Try.ntmps3
  go_wp2_with fail
  refine (cSeal none 0 [] _ Lst.nil HB0.out (by simp) (fun _ => ⟨rfl, rfl⟩)).mono ?_
  rintro e w1 ⟨v1, rfl, hown, hb2⟩
  rw [V1.out] at hown
  replace hb := hb.trans (hb2.mono hb.size)
  obtain ⟨X, cx, hv, hC, _, _, _⟩ := own_cells hown
  rw [hv]
  have HX := Lib.hid hC.lst
  clear hown hb2 hv hC
  go_wp2_with fail
  have hlit := lst_new w1 5 [0, 0, 0] #[.int .u8 0, .int .u8 0, .int .u8 0] rfl
  have hba : Below w1.heap.size w1 (w1.alloc (.cells #[.int .u8 0, .int .u8 0, .int .u8 0] 5)) := (Below.refl _ _).alloc (Nat.le_refl _) _
  refine (cOpen (some ⟨w1.heap.size, 0, none⟩) 3 [0, 0, 0] _ hlit HB3.out (by simp) (by simp) (fun h => by cases h)).mono ?_
  rintro e w2 ⟨Z2, c2, cz, rfl, hown, hb2⟩
  rw [V2.out] at hown ⊢
  replace hb2 := hba.trans (hb2.mono hba.size)
  replace HX := Lib.hid (HX.out.below hb2)
  replace hb := hb.trans (hb2.mono hb.size)
  clear hown hb2 hba hlit
  go_wp2_with fail
  have hlit := lst_new w2 5 [0, 0, 0, 0] #[.int .u8 0, .int .u8 0, .int .u8 0, .int .u8 0] rfl
  have hba : Below w2.heap.size w2 (w2.alloc (.cells #[.int .u8 0, .int .u8 0, .int .u8 0, .int .u8 0] 5)) := (Below.refl _ _).alloc (Nat.le_refl _) _
  refine (cOpen (some ⟨w2.heap.size, 0, none⟩) 4 [0, 0, 0, 0] _ hlit HB4.out (by simp) (by simp) (fun h => by cases h)).mono ?_
  rintro e w3 ⟨B, c3, cz, rfl, hown, hb2⟩
  rw [V3.out] at hown ⊢
  replace hb2 := hba.trans (hb2.mono hba.size)
  replace HX := Lib.hid (HX.out.below hb2)
  replace hb := hb.trans (hb2.mono hb.size)
  clear hown hb2 hba hlit
  go_wp2_with fail
  have hlit := lst_new w3 5 [1, 0, 0, 0] #[.int .u8 1, .int .u8 0, .int .u8 0, .int .u8 0] rfl
  have hba : Below w3.heap.size w3 (w3.alloc (.cells #[.int .u8 1, .int .u8 0, .int .u8 0, .int .u8 0] 5)) := (Below.refl _ _).alloc (Nat.le_refl _) _
  refine (cOpen (some ⟨w3.heap.size, 0, none⟩) 4 [1, 0, 0, 0] _ hlit HB5.out (by simp) (by simp) (fun h => by cases h)).mono ?_
  rintro e w4 ⟨Z4, c4, cz, rfl, hown, hb2⟩
  rw [V4.out] at hown ⊢
  replace hb2 := hba.trans (hb2.mono hba.size)
  replace HX := Lib.hid (HX.out.below hb2)
  replace hb := hb.trans (hb2.mono hb.size)
  clear hown hb2 hba hlit
  go_wp2_with fail
  have hlit := lst_new w4 5 [0, 0] #[.int .u8 0, .int .u8 0] rfl
  have hba : Below w4.heap.size w4 (w4.alloc (.cells #[.int .u8 0, .int .u8 0] 5)) := (Below.refl _ _).alloc (Nat.le_refl _) _
  refine (cBurst (some ⟨w4.heap.size, 0, none⟩) 2 [0, 0] 7 3 _ hlit HB2.out (by simp) (by decide) (by decide) (fun h => by cases h)).mono ?_
  rintro e w5 ⟨v5, rfl, hown, hb2⟩
  rw [V5.out] at hown
  replace hb2 := hba.trans (hb2.mono hba.size)
  replace HX := Lib.hid (HX.out.below hb2)
  replace hb := hb.trans (hb2.mono hb.size)
  obtain ⟨Y, c5, hv, hC, _, _, _⟩ := own_cells hown
  rw [hv]
  have HY := Lib.hid hC.lst
  clear hown hb2 hv hC hba hlit
  go_wp2_with fail
  have hlit := lst_new w5 5 [0, 0] #[.int .u8 0, .int .u8 0] rfl
  have hba : Below w5.heap.size w5 (w5.alloc (.cells #[.int .u8 0, .int .u8 0] 5)) := (Below.refl _ _).alloc (Nat.le_refl _) _
  refine (cBurst (some ⟨w5.heap.size, 0, none⟩) 2 [0, 0] 15 2 _ hlit HB2.out (by simp) (by decide) (by decide) (fun h => by cases h)).mono ?_
  rintro e w6 ⟨v6, rfl, hown, hb2⟩
  rw [V6.out] at hown
  replace hb2 := hba.trans (hb2.mono hba.size)
  replace HX := Lib.hid (HX.out.below hb2)
  replace HY := Lib.hid (HY.out.below hb2)
  replace hb := hb.trans (hb2.mono hb.size)
  obtain ⟨Z6, c6, hv, hC, _, _, _⟩ := own_cells hown
  rw [hv]
  clear hown hb2 hv hC hba hlit
  go_wp2_with fail
  have hlit := lst_new w6 5 [0, 0] #[.int .u8 0, .int .u8 0] rfl
  have hba : Below w6.heap.size w6 (w6.alloc (.cells #[.int .u8 0, .int .u8 0] 5)) := (Below.refl _ _).alloc (Nat.le_refl _) _
  refine (cBurst (some ⟨w6.heap.size, 0, none⟩) 2 [0, 0] (-1) 0 _ hlit HB2.out (by simp) (by decide) (by decide) (fun h => by cases h)).mono ?_
  rintro e w7 ⟨v7, rfl, hown, hb2⟩
  rw [V7.out] at hown
  replace hb2 := hba.trans (hb2.mono hba.size)
  replace HX := Lib.hid (HX.out.below hb2)
  replace HY := Lib.hid (HY.out.below hb2)
  replace hb := hb.trans (hb2.mono hb.size)
  obtain ⟨Z7, c7, hv, hC, _, _, _⟩ := own_cells hown
  rw [hv]
  clear hown hb2 hv hC hba hlit
  go_wp2_with fail
  have hba : Below w7.heap.size w7 w7 := Below.refl _ _
  refine (cBurst none 0 [] 99 0 _ Lst.nil HB0.out (by simp) (by decide) (by decide) (fun _ => ⟨rfl, rfl⟩)).mono ?_
  rintro e w8 ⟨v8, rfl, hown, hb2⟩
  rw [V8.out] at hown
  replace hb2 := hba.trans (hb2.mono hba.size)
  replace HX := Lib.hid (HX.out.below hb2)
  replace HY := Lib.hid (HY.out.below hb2)
  replace hb := hb.trans (hb2.mono hb.size)
  obtain ⟨Z8, c8, hv, hC, _, _, _⟩ := own_cells hown
  rw [hv]
  clear hown hb2 hv hC hba
  have hbig : (List.replicate 1048577 0).length = 1048577 := List.length_replicate
  have HBig := Lib.hid (bytes_zeros 1048577)
  have HVZ := Lib.hid (valsB_zeros 1048577)
  obtain ⟨zs, hz⟩ : ∃ zs, zs = List.replicate 1048577 (0 : Nat) := ⟨_, rfl⟩
  rw [← hz] at hbig HBig HVZ
  have e9 : Cr.goE zs = 4 := by unfold Cr.goE; rw [if_pos (by omega)]
  clear hz
  have HL9 := Lib.hid hbig
  have hn9 : zs.length ≤ 2147483647 := by omega
  clear hbig
  go_wp2_with (at_make; refine wpList_zeros elemB rfl rfl _ _ rfl _ _ _ _ 1048577 rfl rfl rfl rfl (by omega) (by unfold maxLen; omega) ?_; intro w9 hown9 hb9; rw [HVZ.out] at hown9; have HO9 := Lib.hid hown9; have HB9 := Lib.hid hb9; clear hown9 hb9)
  obtain ⟨A9, c9, hv9, hC9, _, _, _⟩ := own_cells HO9.out
  injection hv9 with h91 h92 h93
  subst h91
  refine (cOfN 1048577 _ _ zs _ HL9.out hC9.lst HBig.out hn9 (fun h => by cases h)).mono ?_
  rintro e w10 ⟨rfl, hb2⟩
  replace HX := Lib.hid ((HX.out.below HB9.out).below hb2)
  replace HY := Lib.hid ((HY.out.below HB9.out).below hb2)
  replace hb := hb.trans (HB9.out.mono hb.size)
  replace hb := hb.trans (hb2.mono hb.size)
  clear hb2 HO9 HB9 hC9 h92 h93
  go_wp2_with fail
  refine (l3Alive _).mono ?_
  rintro e w11 ⟨rfl, hb2⟩
  replace HX := Lib.hid (HX.out.below hb2)
  replace HY := Lib.hid (HY.out.below hb2)
  replace hb := hb.trans (hb2.mono hb.size)
  clear hb2
  have q1 : Sem.run Try.prog (convert 22 9 (.slice X 4 cx)) w11 = .ok (.string (strB [0, 0, 0, 0])) w11 := conv_bytes cx HX.out
  have q2 : Sem.run Try.prog (convert 22 9 (.slice Y 2 c5)) w11 = .ok (.string (strB [128, 1])) w11 := conv_bytes c5 HY.out
  have t1 : (strB [0, 0, 0, 0]).toList = [0, 0, 0, 0] := by decide +kernel
  have t2 : (strB [128, 1]).toList = [128, 1] := by decide +kernel
  go_wp2
  go_ret
  exact ⟨rfl, hb⟩
end Go.Proofs.Ythdondjhiflkaaa.crcNames
