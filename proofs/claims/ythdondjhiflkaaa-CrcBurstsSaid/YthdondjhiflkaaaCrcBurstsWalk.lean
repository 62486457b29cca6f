/- The walk of the law CrcBursts: sealed bytes behind a burst that turns a bit are no sealed bytes; behind it again they are. -/
import Derived.Test.YthdondjhiflkaaaLaw03
import Derived.Test.YthdondjhiflkaaaCrcFacts
namespace Go.Proofs.Ythdondjhiflkaaa.crcBursts
open Go.RowKit
set_option linter.unusedVariables false

set_option maxRecDepth 100000 in
set_option maxHeartbeats 1000000 in
theorem refused (a : Option Addr) (ca : Nat) (bs : List Nat) (at_ : Int) (m : Nat) (W : World) (ha : Lst .u8 W a (ints bs)) (hx : Bytes bs) (hna : a = none → bs.length = 0 ∧ ca = 0) (h3 : bs.length ≤ 1500) (hm : m < 4294967296) (hat : at_ ≤ 9223372036854775807) (f1 : Cr.burstE (Cr.sealed bs) at_ m = 2) (f2 : Hid (Cr.burstV (Cr.sealed bs) at_ m = [])) :
    Calls Try.prog 8 #[.slice a bs.length ca, .int .i64 at_, .int .u32 (m : Int)] W fun e w' => e = .returned (.bool true) ∧ Below W.heap.size W w' := by
  have HA := Lib.hid ha
  have HX := Lib.hid hx
  have HNA := Lib.hid hna
  have e1 := goE_short (bs := bs) (by omega)
  have V1 := Lib.hid (sealV_short (bs := bs) (by omega))
  have HSB := Lib.hid (bytes_sealed HX.out)
  have HSL := Lib.hid (Cr.sealed_length bs)
  obtain ⟨ss, hss⟩ : ∃ ss, ss = Cr.sealed bs := ⟨_, rfl⟩
  rw [← hss] at V1 HSB HSL f1 f2
  have hsl1 : ss.length ≤ 1504 := by have := HSL.out; omega
  clear ha hx hna hss
  go_enter Try.func8, Try.ntmps8
  go_wp2_with fail
  refine (l3Alive _).mono ?_
  rintro e w1 ⟨rfl, hb⟩
  replace HA := Lib.hid (HA.out.below hb)
  go_wp2_with fail
  refine (cSeal a ca bs _ HA.out HX.out (by omega) HNA.out).mono ?_
  rintro e w2 ⟨v2, rfl, hown2, hb2⟩
  rw [V1.out] at hown2
  obtain ⟨T, ct, hv, hT, hTn, _, _⟩ := own_cells hown2
  rw [hv]
  have HT := Lib.hid hT.lst
  have HTn := Lib.hid hTn
  replace HA := Lib.hid (HA.out.below hb2)
  replace hb := hb.trans (hb2.mono hb.size)
  clear hown2 hv hT hTn hb2
  go_wp2_with fail
  refine (cBurst T ct ss at_ m _ HT.out HSB.out (by omega) hm hat HTn.out).mono ?_
  rintro e w3 ⟨v3, rfl, hown3, hb2⟩
  rw [f2.out] at hown3
  obtain ⟨X, cx, hv, _, _, _, _⟩ := own_cells hown3
  rw [hv]
  replace hb := hb.trans (hb2.mono hb.size)
  clear hown3 hv hb2
  go_wp2
  go_ret
  exact ⟨rfl, hb⟩

set_option maxRecDepth 100000 in
set_option maxHeartbeats 1000000 in
theorem none_ (a : Option Addr) (ca : Nat) (bs : List Nat) (at_ : Int) (m : Nat) (W : World) (ha : Lst .u8 W a (ints bs)) (hx : Bytes bs) (hna : a = none → bs.length = 0 ∧ ca = 0) (h3 : bs.length ≤ 1500) (hm : m < 4294967296) (hat : at_ ≤ 9223372036854775807) (x : List Nat) (f1 : Cr.burstE (Cr.sealed bs) at_ m = 0) (f2 : Hid (Cr.burstV (Cr.sealed bs) at_ m = x)) (hxl : x.length = bs.length + 4) (HXB : Hid (Bytes x)) (f3 : Cr.burstE x at_ m = 0) (f4 : Hid (Cr.burstV x at_ m = Cr.sealed bs)) (h0 : m = 0) (f5 : Cr.openE x = 0) (f6 : Hid (Cr.openV x = bs)) :
    Calls Try.prog 8 #[.slice a bs.length ca, .int .i64 at_, .int .u32 (m : Int)] W fun e w' => e = .returned (.bool true) ∧ Below W.heap.size W w' := by
  have hx1 : x.length ≤ 1504 := by omega
  have HXlen := Lib.hid hxl
  subst h0
  clear hxl
  have HA := Lib.hid ha
  have HX := Lib.hid hx
  have HNA := Lib.hid hna
  have e1 := goE_short (bs := bs) (by omega)
  have V1 := Lib.hid (sealV_short (bs := bs) (by omega))
  have HSB := Lib.hid (bytes_sealed HX.out)
  have HSL := Lib.hid (Cr.sealed_length bs)
  obtain ⟨ss, hss⟩ : ∃ ss, ss = Cr.sealed bs := ⟨_, rfl⟩
  rw [← hss] at V1 HSB HSL f1 f2 f4
  have hsl1 : ss.length ≤ 1504 := by have := HSL.out; omega
  clear ha hx hna hss
  go_enter Try.func8, Try.ntmps8
  go_wp2_with fail
  refine (l3Alive _).mono ?_
  rintro e w1 ⟨rfl, hb⟩
  replace HA := Lib.hid (HA.out.below hb)
  go_wp2_with fail
  refine (cSeal a ca bs _ HA.out HX.out (by omega) HNA.out).mono ?_
  rintro e w2 ⟨v2, rfl, hown2, hb2⟩
  rw [V1.out] at hown2
  obtain ⟨T, ct, hv, hT, hTn, _, _⟩ := own_cells hown2
  rw [hv]
  have HT := Lib.hid hT.lst
  have HTn := Lib.hid hTn
  replace HA := Lib.hid (HA.out.below hb2)
  replace hb := hb.trans (hb2.mono hb.size)
  clear hown2 hv hT hTn hb2
  go_wp2_with fail
  refine (cBurst T ct ss at_ 0 _ HT.out HSB.out (by omega) hm hat HTn.out).mono ?_
  rintro e w3 ⟨v3, rfl, hown3, hb2⟩
  rw [f2.out] at hown3
  obtain ⟨X, cx, hv, hX, hXn, _, hcx⟩ := own_cells hown3
  rw [hv]
  have HXL := Lib.hid hX.lst
  have HXn := Lib.hid hXn
  replace HA := Lib.hid (HA.out.below hb2)
  replace HT := Lib.hid (HT.out.below hb2)
  replace hb := hb.trans (hb2.mono hb.size)
  clear hown3 hv hX hXn hb2
  go_wp2_with fail
  refine (cBurst X cx x at_ 0 _ HXL.out HXB.out (by omega) hm hat HXn.out).mono ?_
  rintro e w4 ⟨v4, rfl, hown4, hb2⟩
  rw [f4.out] at hown4
  obtain ⟨K, ck, hv, hK, _, _, _⟩ := own_cells hown4
  rw [hv]
  replace HA := Lib.hid (HA.out.below hb2)
  replace HT := Lib.hid (HT.out.below hb2)
  replace HXL := Lib.hid (HXL.out.below hb2)
  replace hb := hb.trans (hb2.mono hb.size)
  have q1 := conv_bytes ck hK.lst
  have q2 := conv_bytes ct HT.out
  have k1 : (((x.length : Nat) : Int) != ((ss.length : Nat) : Int)) = false := by have := HSL.out; have := HXlen.out; simp; omega
  clear hown4 hv hK hb2
  go_wp2_with fail
  refine (cOpen X cx x _ HXL.out HXB.out (by omega) hcx HXn.out).mono ?_
  rintro e w5 ⟨Y, cy, cz, rfl, hown5, hb2⟩
  rw [f6.out] at hown5 ⊢
  obtain ⟨hY, _⟩ := open_cells hown5
  replace HA := Lib.hid (HA.out.below hb2)
  replace hb := hb.trans (hb2.mono hb.size)
  clear q1 q2 k1
  have q3 := conv_bytes cy hY.lst
  have q4 := conv_bytes ca HA.out
  clear hown5 hY hb2
  go_wp2
  go_ret
  exact ⟨rfl, hb⟩

set_option maxRecDepth 100000 in
set_option maxHeartbeats 1000000 in
theorem seen (a : Option Addr) (ca : Nat) (bs : List Nat) (at_ : Int) (m : Nat) (W : World) (ha : Lst .u8 W a (ints bs)) (hx : Bytes bs) (hna : a = none → bs.length = 0 ∧ ca = 0) (h3 : bs.length ≤ 1500) (hm : m < 4294967296) (hat : at_ ≤ 9223372036854775807) (x : List Nat) (f1 : Cr.burstE (Cr.sealed bs) at_ m = 0) (f2 : Hid (Cr.burstV (Cr.sealed bs) at_ m = x)) (hxl : x.length = bs.length + 4) (HXB : Hid (Bytes x)) (f3 : Cr.burstE x at_ m = 0) (f4 : Hid (Cr.burstV x at_ m = Cr.sealed bs)) (h0 : m ≠ 0) (f5 : Cr.openE x = 8) (f6 : Hid (Cr.openV x = [])) :
    Calls Try.prog 8 #[.slice a bs.length ca, .int .i64 at_, .int .u32 (m : Int)] W fun e w' => e = .returned (.bool true) ∧ Below W.heap.size W w' := by
  have hx1 : x.length ≤ 1504 := by omega
  have HXlen := Lib.hid hxl
  have k0 : ((m : Int) == 0) = false := by simp; omega
  clear hxl
  have HA := Lib.hid ha
  have HX := Lib.hid hx
  have HNA := Lib.hid hna
  have e1 := goE_short (bs := bs) (by omega)
  have V1 := Lib.hid (sealV_short (bs := bs) (by omega))
  have HSB := Lib.hid (bytes_sealed HX.out)
  have HSL := Lib.hid (Cr.sealed_length bs)
  obtain ⟨ss, hss⟩ : ∃ ss, ss = Cr.sealed bs := ⟨_, rfl⟩
  rw [← hss] at V1 HSB HSL f1 f2 f4
  have hsl1 : ss.length ≤ 1504 := by have := HSL.out; omega
  clear ha hx hna hss
  go_enter Try.func8, Try.ntmps8
  go_wp2_with fail
  refine (l3Alive _).mono ?_
  rintro e w1 ⟨rfl, hb⟩
  replace HA := Lib.hid (HA.out.below hb)
  go_wp2_with fail
  refine (cSeal a ca bs _ HA.out HX.out (by omega) HNA.out).mono ?_
  rintro e w2 ⟨v2, rfl, hown2, hb2⟩
  rw [V1.out] at hown2
  obtain ⟨T, ct, hv, hT, hTn, _, _⟩ := own_cells hown2
  rw [hv]
  have HT := Lib.hid hT.lst
  have HTn := Lib.hid hTn
  replace HA := Lib.hid (HA.out.below hb2)
  replace hb := hb.trans (hb2.mono hb.size)
  clear hown2 hv hT hTn hb2
  go_wp2_with fail
  refine (cBurst T ct ss at_ m _ HT.out HSB.out (by omega) hm hat HTn.out).mono ?_
  rintro e w3 ⟨v3, rfl, hown3, hb2⟩
  rw [f2.out] at hown3
  obtain ⟨X, cx, hv, hX, hXn, _, hcx⟩ := own_cells hown3
  rw [hv]
  have HXL := Lib.hid hX.lst
  have HXn := Lib.hid hXn
  replace HA := Lib.hid (HA.out.below hb2)
  replace HT := Lib.hid (HT.out.below hb2)
  replace hb := hb.trans (hb2.mono hb.size)
  clear hown3 hv hX hXn hb2
  go_wp2_with fail
  refine (cBurst X cx x at_ m _ HXL.out HXB.out (by omega) hm hat HXn.out).mono ?_
  rintro e w4 ⟨v4, rfl, hown4, hb2⟩
  rw [f4.out] at hown4
  obtain ⟨K, ck, hv, hK, _, _, _⟩ := own_cells hown4
  rw [hv]
  replace HA := Lib.hid (HA.out.below hb2)
  replace HT := Lib.hid (HT.out.below hb2)
  replace HXL := Lib.hid (HXL.out.below hb2)
  replace hb := hb.trans (hb2.mono hb.size)
  have q1 := conv_bytes ck hK.lst
  have q2 := conv_bytes ct HT.out
  have k1 : (((x.length : Nat) : Int) != ((ss.length : Nat) : Int)) = false := by have := HSL.out; have := HXlen.out; simp; omega
  clear hown4 hv hK hb2
  go_wp2_with fail
  refine (cOpen X cx x _ HXL.out HXB.out (by omega) hcx HXn.out).mono ?_
  rintro e w5 ⟨Y, cy, cz, rfl, hown5, hb2⟩
  rw [f6.out] at hown5 ⊢
  obtain ⟨hY, _⟩ := open_cells hown5
  replace HA := Lib.hid (HA.out.below hb2)
  replace hb := hb.trans (hb2.mono hb.size)
  clear q1 q2 k1
  clear hown5 hY hb2
  go_wp2
  go_ret
  exact ⟨rfl, hb⟩

theorem walk (a : Option Addr) (ca : Nat) (bs : List Nat) (at_ : Int) (m : Nat) (W : World) (ha : Lst .u8 W a (ints bs)) (hx : Bytes bs) (hna : a = none → bs.length = 0 ∧ ca = 0) (hm : m < 4294967296) (hat : at_ ≤ 9223372036854775807) :
    Calls Try.prog 8 #[.slice a bs.length ca, .int .i64 at_, .int .u32 (m : Int)] W fun e w' => e = .returned (.bool true) ∧ Below W.heap.size W w' := by
  by_cases h3 : bs.length ≤ 1500
  · rcases burst_facts hx h3 at_ m hm with ⟨f1, f2⟩ | ⟨f1, x, f2, hxl, hxb, f3, f4, ⟨h0, f5, f6⟩ | ⟨h0, f5, f6⟩⟩
    · exact refused a ca bs at_ m W ha hx hna h3 hm hat f1 (Lib.hid f2)
    · exact none_ a ca bs at_ m W ha hx hna h3 hm hat x f1 (Lib.hid f2) hxl (Lib.hid hxb) f3 (Lib.hid f4) h0 f5 (Lib.hid f6)
    · exact seen a ca bs at_ m W ha hx hna h3 hm hat x f1 (Lib.hid f2) hxl (Lib.hid hxb) f3 (Lib.hid f4) h0 f5 (Lib.hid f6)
  · clear ha hx hna
    go_enter Try.func8, Try.ntmps8
    go_wp2_with fail
    refine (l3Alive _).mono ?_
    rintro e w1 ⟨rfl, hb⟩
    go_wp2
    go_ret
    exact ⟨rfl, hb⟩
end Go.Proofs.Ythdondjhiflkaaa.crcBursts
