/- The walk of the law CrcGoes: a sum goes on behind parts; what is sealed is opened. -/
import Derived.Test.YthdondjhiflkaaaLaw03
import Derived.Test.YthdondjhiflkaaaCrcFacts
namespace Go.Proofs.Ythdondjhiflkaaa.crcGoes
open Go.RowKit
set_option linter.unusedVariables false

set_option maxRecDepth 100000 in
set_option maxHeartbeats 1000000 in
theorem short (s : Nat) (a b : Option Addr) (ca cb : Nat) (xs ys : List Nat) (W : World) (hs : s < 4294967296) (ha : Lst .u8 W a (ints xs)) (hb0 : Lst .u8 W b (ints ys)) (hx : Bytes xs) (hy : Bytes ys)
    (hna : a = none → xs.length = 0 ∧ ca = 0) (hnb : b = none → ys.length = 0 ∧ cb = 0) (h3 : xs.length ≤ 1500) (h4 : ys.length ≤ 1500) :
    Calls Try.prog 6 #[.int .u32 (s : Int), .slice a xs.length ca, .slice b ys.length cb] W fun e w' => e = .returned (.bool true) ∧ Below W.heap.size W w' := by
  have HA := Lib.hid ha
  have HB := Lib.hid hb0
  have HX := Lib.hid hx
  have HY := Lib.hid hy
  have HNA := Lib.hid hna
  have HNB := Lib.hid hnb
  obtain ⟨zs, hz⟩ : ∃ zs, zs = xs ++ ys := ⟨_, rfl⟩
  have HLn := Lib.hid (show xs.length + ys.length = zs.length by rw [hz, List.length_append])
  have HV := Lib.hid (show valsB xs ++ valsB ys = valsB zs by rw [hz, valsB_append])
  have HXY := Lib.hid (show Bytes zs by rw [hz]; exact HX.out.append HY.out)
  have hzl : zs.length ≤ 3000 := by have := HLn.out; omega
  have HS1 := Lib.hid (Cr.behind_lt (s := s) (t := xs) hs)
  have e1 := goE_short (bs := xs) (by omega)
  have e2 := goE_short (bs := ys) (by omega)
  have e3 := goE_short (bs := zs) (by omega)
  have V1 := Lib.hid (goV_short (s := s) (bs := xs) (by omega))
  have V2 := Lib.hid (goV_short (s := Cr.behind s xs) (bs := ys) (by omega))
  have V3 := Lib.hid (goV_short (s := s) (bs := zs) (by omega))
  have V4 := Lib.hid (sealV_short (bs := zs) (by omega))
  have E5 := openE_sealed HXY.out (by omega)
  have V5 := Lib.hid (openV_sealed HXY.out (by omega))
  have HSB := Lib.hid (bytes_sealed HXY.out)
  have HSL := Lib.hid (Cr.sealed_length zs)
  have VA := Lib.hid (show Cr.behind s zs = Cr.behind (Cr.behind s xs) ys by rw [hz, Cr.behind_append])
  obtain ⟨ss, hss⟩ : ∃ ss, ss = Cr.sealed zs := ⟨_, rfl⟩
  rw [← hss] at V4 E5 V5 HSB HSL
  have hsl : ss.length = zs.length + 4 := HSL.out
  have hsl1 : ss.length ≤ 3004 := by omega
  have k1 : (((ss.length : Nat) : Int) == ((zs.length : Nat) : Int) + 4) = true := by rw [hsl]; simp
  clear hz hss hsl
  clear ha hb0 hx hy hna hnb
  go_enter Try.func6, Try.ntmps6
  go_wp2_with fail
  refine (l3Alive _).mono ?_
  rintro e w1 ⟨rfl, hb⟩
  replace HA := Lib.hid (HA.out.below hb)
  replace HB := Lib.hid (HB.out.below hb)
  go_wp2_with (first | (at_builtin; refine wpList_copy elemB rfl _ _ rfl w1 rfl a xs.length ca (valsB xs) rfl rfl (Cells.of_lst HA.out) (by rw [valsB_length, Nat.mul_one]) (valsB_one xs) HNA.out (by unfold maxLen; omega) (by omega) ?_; intro A c w2 hown2 _ hb2; have HO2 := Lib.hid hown2; have HB2 := Lib.hid hb2; clear hown2 hb2) | (at_builtin; refine wpList_join elemB rfl _ _ rfl w1.heap.size xs.length _ (valsB xs) rfl HO2.out b ys.length cb (valsB ys) rfl (Cells.of_lst (HB.out.below HB2.out)) (by rw [valsB_length, Nat.mul_one]) (valsB_one ys) HNB.out HB2.out.size (by unfold maxLen; omega) (by omega) ?_; intro v3 w3 hown3 hb3; rw [HV.out, HLn.out] at hown3; obtain ⟨C, cc, hv, hC, hCn, _⟩ := own_cells hown3; rw [hv]; have HCn := Lib.hid hCn; have HC := Lib.hid hC.lst; have hb4 := HB2.out.trans hb3; replace HA := Lib.hid (HA.out.below hb4); replace HB := Lib.hid (HB.out.below hb4); replace hb := hb.trans (hb4.mono hb.size); clear hown3 hv hC hCn hb3 hb4 HO2 HB2))
  refine (cGo s a ca xs _ hs HA.out HX.out (by omega) HNA.out).mono ?_
  rintro e w4 ⟨rfl, hb2⟩
  rw [V1.out]
  replace HB := Lib.hid (HB.out.below hb2)
  replace HC := Lib.hid (HC.out.below hb2)
  replace hb := hb.trans (hb2.mono hb.size)
  clear hb2 HA
  go_wp2_with fail
  refine (cGo (Cr.behind s xs) b cb ys _ HS1.out HB.out HY.out (by omega) HNB.out).mono ?_
  rintro e w5 ⟨rfl, hb2⟩
  rw [V2.out, ← VA.out]
  replace HC := Lib.hid (HC.out.below hb2)
  replace hb := hb.trans (hb2.mono hb.size)
  clear hb2 HB
  go_wp2_with fail
  refine (cGo s C cc zs _ hs HC.out HXY.out (by omega) HCn.out).mono ?_
  rintro e w6 ⟨rfl, hb2⟩
  rw [V3.out]
  replace HC := Lib.hid (HC.out.below hb2)
  replace hb := hb.trans (hb2.mono hb.size)
  clear hb2
  go_wp2_with fail
  refine (cSeal C cc zs _ HC.out HXY.out (by omega) HCn.out).mono ?_
  rintro e w7 ⟨v7, rfl, hown7, hb2⟩
  rw [V4.out] at hown7
  replace HC := Lib.hid (HC.out.below hb2)
  replace hb := hb.trans (hb2.mono hb.size)
  obtain ⟨D, cd, hv, hD, hDn, _, hcd⟩ := own_cells hown7
  rw [hv]
  have HD := Lib.hid hD.lst
  have HDn := Lib.hid hDn
  clear hown7 hv hD hDn hb2
  go_wp2_with fail
  refine (cOpen D cd ss _ HD.out HSB.out (by omega) hcd HDn.out).mono ?_
  rintro e w8 ⟨E, ce, cz, rfl, hown8, hb2⟩
  rw [V5.out] at hown8 ⊢
  replace HC := Lib.hid (HC.out.below hb2)
  replace hb := hb.trans (hb2.mono hb.size)
  obtain ⟨hE, _⟩ := open_cells hown8
  have q1 := conv_bytes ce hE.lst
  have q2 := conv_bytes cc HC.out
  clear hown8 hE hb2
  go_wp2
  go_ret
  exact ⟨rfl, hb⟩

set_option maxHeartbeats 400000 in
theorem long (s : Nat) (a b : Option Addr) (ca cb la lb : Nat) (W : World) (h : 1500 < la ∨ 1500 < lb) :
    Calls Try.prog 6 #[.int .u32 (s : Int), .slice a la ca, .slice b lb cb] W fun e w' => e = .returned (.bool true) ∧ Below W.heap.size W w' := by
  rcases (show 1500 < la ∨ (la ≤ 1500 ∧ 1500 < lb) by omega) with h1 | h1
  all_goals
    clear h
    go_enter Try.func6, Try.ntmps6
    go_wp2_with fail
    refine (l3Alive _).mono ?_
    rintro e w1 ⟨rfl, hb⟩
    go_wp2
    go_ret
    exact ⟨rfl, hb⟩
theorem walk (s : Nat) (a b : Option Addr) (ca cb : Nat) (xs ys : List Nat) (W : World) (hs : s < 4294967296) (ha : Lst .u8 W a (ints xs)) (hb0 : Lst .u8 W b (ints ys)) (hx : Bytes xs) (hy : Bytes ys)
    (hna : a = none → xs.length = 0 ∧ ca = 0) (hnb : b = none → ys.length = 0 ∧ cb = 0) :
    Calls Try.prog 6 #[.int .u32 (s : Int), .slice a xs.length ca, .slice b ys.length cb] W fun e w' => e = .returned (.bool true) ∧ Below W.heap.size W w' := by
  by_cases h : 1500 < xs.length ∨ 1500 < ys.length
  · exact long s a b ca cb _ _ W h
  · exact short s a b ca cb xs ys W hs ha hb0 hx hy hna hnb (by omega) (by omega)
end Go.Proofs.Ythdondjhiflkaaa.crcGoes
