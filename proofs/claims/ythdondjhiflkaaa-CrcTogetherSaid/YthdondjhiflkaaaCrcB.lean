/- What package crc's Seal and Open return, with bytes.Equal under them. -/
import Derived.Test.YthdondjhiflkaaaCrcA
namespace Go.Proofs.Ythdondjhiflkaaa
open Go.RowKit
set_option linter.unusedVariables false

theorem le4_cell (v k : Nat) (hk : k < 4) : (Cr.le4 v).take (k + 1) = (Cr.le4 v).take k ++ [v / 2 ^ (k * 8) % 256] := by
  rw [le4_at v k hk, show (256 : Nat) = 2 ^ 8 from rfl, ← Nat.pow_mul, Nat.mul_comm 8 k]
def CSealJ (bs : List Nat) (w : World) (i out : Value) (wr : World) : Prop :=
  ∃ k : Nat, k ≤ 4 ∧ i = .int .i64 k ∧ wr.ownsRow w.heap.size 5 1 out (bs.length + k) (valsB (bs ++ (Cr.le4 (Cr.sumB bs)).take k)) ∧ Below w.heap.size w wr
theorem seal_cell (x k : Nat) : (x : Int) / 2 ^ (k * 8) % 256 = ((x / 2 ^ (k * 8) % 256 : Nat) : Int) := by
  rw [Int.natCast_emod, Int.natCast_ediv, Int.natCast_pow]; rfl
set_option maxHeartbeats 1000000 in
theorem cSeal (a : Option Addr) (cap : Nat) (bs : List Nat) (w : World) (hl : Lst .u8 w a (ints bs)) (hw : Bytes bs) (hn : bs.length ≤ 2147483647) (hnil : a = none → bs.length = 0 ∧ cap = 0) :
    Calls Try.prog 9 #[.slice a bs.length cap] w (RowPost2 (Cr.sealV bs) (Cr.goE bs) w) := by
  have HL := Lib.hid hl
  have HN := Lib.hid hnil
  have HC := Lib.hid (cOf a cap bs w hl hw hn hnil)
  clear hl hw hnil
  by_cases h : 1048576 < bs.length
  · have H := Lib.hid (show Cr.goE bs = 4 by unfold Cr.goE; rw [if_pos h])
    have H2 := Lib.hid (show Cr.sealV bs = [] by unfold Cr.sealV; rw [if_pos h])
    go_enter Try.func9, Try.ntmps9
    go_wp2_with fail
    refine HC.out.mono ?_
    rintro e w1 ⟨rfl, hb1⟩
    rw [H.out]
    go_wp2
    go_ret2
    refine ⟨.slice none 0 0, by rw [H.out]; rfl, ?_, hb1⟩
    rw [H2.out]
    exact World.ownsRow_nil _ _ _ _
  · have H := Lib.hid (show Cr.goE bs = 0 by unfold Cr.goE; rw [if_neg h])
    have H2 := Lib.hid (show Cr.sealV bs = Cr.sealed bs by unfold Cr.sealV; rw [if_neg h])
    have H3 := Lib.hid (show Cr.ofV bs = Cr.sumB bs by unfold Cr.ofV; rw [if_neg h])
    have HLen := Lib.hid (Cr.sealed_length bs)
    have hlt := Cr.sumB_lt bs
    obtain ⟨i0, hi0, hz0, hz1, hz2⟩ := elemB.info
    have I0 := Lib.hid hi0
    have Z0 := Lib.hid hz0
    have Z1 := Lib.hid hz1
    have Z2 := Lib.hid hz2
    clear hi0 hz0 hz1 hz2
    go_enter Try.func9, Try.ntmps9
    go_wp2_with fail
    refine HC.out.mono ?_
    rintro e w1 ⟨rfl, hb1⟩
    rw [H.out, H3.out]
    have HL1 := Lib.hid (HL.out.below hb1)
    obtain ⟨x, hxe⟩ : ∃ x, x = Cr.sumB bs := ⟨_, rfl⟩
    rw [← hxe] at hlt ⊢
    have HX := Lib.hid hxe
    clear hxe
    have g2 : IntKind.i64.wrap ((bs.length : Int) + 4) = (bs.length : Int) + 4 := IntWalk.i64_in _ (by omega)
    go_wp2_with (first | (at_make; refine wpList_make_own _ rfl _ _ 22 rfl w.heap.size 5 i0 (.int .u8 0) 1 Try.underlying22 I0.out Z0.out Z1.out _ _ _ (bs.length + 4) rfl rfl (by omega) (by rw [Z2.out]; omega) (by unfold maxLen; omega) hb1.size ?_; intro w2 hown2 hg2; have hb2 : Below w.heap.size w w2 := hb1.grown hg2 hb1.size (fun k e => by cases e); have HL2 := Lib.hid (HL1.out.below ((Below.refl _ _).grown hg2 (Nat.le_refl _) (fun k e => by cases e))); have HO2 := Lib.hid hown2; clear hown2 hg2) | (at_builtin; refine wpList_join elemB rfl (.tmp 20) (.tmp 21) rfl w.heap.size 0 _ [] rfl HO2.out a bs.length cap (valsB bs) rfl (Cells.of_lst HL2.out) (by rw [valsB_length, Nat.mul_one]) (valsB_one bs) HN.out hb2.size (by unfold maxLen; omega) (by omega) ?_; intro v3 w3 hown3 hb3; have HO3 := Lib.hid hown3; clear hown3))
    go_loopw [23, 6] (CSealJ bs w) (fun i _ _ => 4 - (intOf i).toNat)
    case atStart => exact ⟨0, by omega, rfl, by have := HO3.out; rw [Nat.zero_add, List.nil_append] at this; rw [List.take_zero, List.append_nil]; exact this, hb2.trans hb3⟩
    case round =>
      obtain ⟨k, hk, rfl, hown, hbr⟩ := hrel
      have HO4 := Lib.hid hown
      clear hown
      by_cases hk4 : k < 4
      · have HT := Lib.hid (le4_cell (Cr.sumB bs) k hk4)
        have HS := Lib.hid (seal_cell x k)
        go_wp2_with (at_builtin; refine wpList_more elemB rfl (.tmp 26) (.tmp 32) rfl wr 5 (.int .u8 ((x : Int) / 2 ^ (k * 8) % 256)) rfl w.heap.size (bs.length + k) _ _ rfl rfl HO4.out rfl hbr.size (by unfold maxLen; omega) (by omega) ?_; intro v5 w5 hown5 hb5; rw [HS.out, HX.out] at hown5; have HO5 := Lib.hid hown5; clear hown5)
        go_roundw
        case rel =>
          refine ⟨k + 1, by omega, by go_num, ?_, hbr.trans hb5⟩
          rw [show bs.length + (k + 1) = bs.length + k + 1 from by omega, HT.out, ← List.append_assoc, valsB_append _ [_]]
          simpa [valsB, ints] using HO5.out
        case measure => simp [intOf]; omega
      · obtain rfl : k = 4 := by omega
        go_wp2
        go_ret2
        refine ⟨_, by rw [H.out]; rfl, ?_, hbr⟩
        rw [H2.out, HLen.out]
        exact HO4.out

set_option maxHeartbeats 400000 in
theorem cEqual (a b : Option Addr) (ca cb n m : Nat) (xs ys : List Nat) (w : World) (hn : n = xs.length) (hm : m = ys.length) (ha : Lst .u8 w a (ints xs)) (hb : Lst .u8 w b (ints ys)) (hx : Bytes xs) (hy : Bytes ys) :
    Calls Try.prog 20 #[.slice a n ca, .slice b m cb] w fun e w' => e = .returned (.bool (xs == ys)) ∧ w = w' := by
  subst hn hm
  have q1 := conv_bytes ca ha
  have q2 := conv_bytes cb hb
  have H := Lib.hid (strB_beq hx hy)
  clear ha hb hx hy
  go_enter Try.func20, Try.ntmps20
  go_wp2
  go_ret
  rw [← H.out]
  exact ⟨rfl, rfl⟩

/-- The answer of Open: a row of its own, whatever room stands behind it. -/
def OpenPost (bs : List Nat) (er : Int) (w : World) (e : Ending) (w' : World) : Prop :=
  ∃ A c c', e = .returned (.tuple #[.slice A bs.length c, .int .i64 er]) ∧ w'.ownsRow w.heap.size 5 1 (.slice A bs.length c') bs.length (valsB bs) ∧ Below w.heap.size w w'
theorem own_part {w : World} {base : Nat} {e : TypeId} {g m c n : Nat} {xs : List Value} (h : w.ownsRow base e 1 (.slice (some ⟨g, 0, none⟩) m c) m xs) (hn : n ≤ m) : w.ownsRow base e 1 (.slice (some ⟨g, 0, none⟩) n c) n (xs.take n) := by
  have h1 := h.1
  refine ⟨by rw [List.length_take]; omega, ?_⟩
  rcases h.2 with ⟨hv, _⟩ | ⟨g', c', cur, hv, hb, hg, h2, h3, h4, h5⟩
  · cases hv
  · injection hv with e1 e2 e3
    injection e1 with e1
    injection e1 with e1
    subst e1 e3
    refine Or.inr ⟨g, c, cur, rfl, hb, hg, by omega, h3, h4, ?_⟩
    rw [← h5, List.take_take, Nat.mul_one, Nat.mul_one, Nat.min_eq_left hn]
theorem valsB_take (bs : List Nat) (n : Nat) : valsB (bs.take n) = (valsB bs).take n := by simp [valsB, ints, List.map_take]
theorem cSealN (n : Nat) (a : Option Addr) (cap : Nat) (bs : List Nat) (w : World) (hbn : n = bs.length) (hl : Lst .u8 w a (ints bs)) (hw : Bytes bs) (hn : bs.length ≤ 2147483647) (hnil : a = none → bs.length = 0 ∧ cap = 0) :
    Calls Try.prog 9 #[.slice a n cap] w (RowPost2 (Cr.sealV bs) (Cr.goE bs) w) := by
  subst hbn
  exact cSeal a cap bs w hl hw hn hnil
set_option maxHeartbeats 1000000 in
theorem cOpen_long (b off cap : Nat) (bs : List Nat) (w : World) (hl : Lst .u8 w (some ⟨b, off, none⟩) (ints bs)) (hw : Bytes bs) (hn : ¬ 1048576 < bs.length) (hcap : bs.length ≤ cap) (h4 : 4 ≤ bs.length) :
    Calls Try.prog 10 #[.slice (some ⟨b, off, none⟩) bs.length cap] w (OpenPost (Cr.openV bs) (Cr.openE bs) w) := by
  have HL := Lib.hid hl
  have HW := Lib.hid hw
  have HLT := Lib.hid (by have := hl.take (bs.length - 4); rw [← ints_take] at this; exact this)
  have HWT := Lib.hid (hw.take (bs.length - 4))
  have hTl : bs.length - 4 = (bs.take (bs.length - 4)).length := by rw [List.length_take]; omega
  have HTL := Lib.hid hTl
  have HG := Lib.hid (show Cr.goE (bs.take (bs.length - 4)) = 0 by unfold Cr.goE; rw [← hTl, if_neg (by omega)])
  have HV := Lib.hid (show Cr.sealV (bs.take (bs.length - 4)) = Cr.sealed (bs.take (bs.length - 4)) by unfold Cr.sealV; rw [← hTl, if_neg (by omega)])
  have HSL := Lib.hid (show (Cr.sealed (bs.take (bs.length - 4))).length = bs.length by rw [Cr.sealed_length, ← hTl]; omega)
  have HSB := Lib.hid (bytes_sealed HWT.out)
  have HIs := Lib.hid (show Cr.isSealed bs = (Cr.sealed (bs.take (bs.length - 4)) == bs) by unfold Cr.isSealed; rw [show decide (4 ≤ bs.length) = true from by simp [h4], Bool.true_and])
  clear hl hw hTl
  have HT : Hid ((Cr.sealed (bs.take (bs.length - 4))).take (bs.length - 4) = bs.take (bs.length - 4)) := by
    have := Cr.sealed_take (bs.take (bs.length - 4))
    rwa [HSL.out] at this
  obtain ⟨T, hT⟩ : ∃ T, T = bs.take (bs.length - 4) := ⟨_, rfl⟩
  rw [← hT] at HLT HWT HTL HG HV HSL HSB HIs HT
  obtain ⟨S, hS⟩ : ∃ S, S = Cr.sealed T := ⟨_, rfl⟩
  rw [← hS] at HV HSL HSB HIs HT
  have HTE := Lib.hid hT
  clear hT hS
  have g1 : (4 : Int) ≤ (bs.length : Int) := by omega
  have g2 : IntKind.i64.wrap ((bs.length : Int) - 4) = (bs.length : Int) - 4 := IntWalk.i64_in _ (by omega)
  have g3 : ((bs.length : Int) - 4).toNat = bs.length - 4 := by omega
  have g4 : (bs.length : Int) - 4 ≤ (cap : Int) := by omega
  have g5 : (0 : Int) ≤ (bs.length : Int) - 4 := by omega
  have hE : Cr.openE bs = if (S == bs) = true then 0 else 8 := by unfold Cr.openE; rw [if_neg hn, HIs.out]
  have HEr := Lib.hid hE
  clear hE
  go_enter Try.func10, Try.ntmps10
  go_wp2_with fail
  refine (cSealN (bs.length - 4) _ _ T _ HTL.out HLT.out HWT.out (by have := HTL.out; omega) (fun h => by cases h)).mono ?_
  rintro e w1 ⟨v, rfl, hown, hb1⟩
  rw [HV.out, HSL.out] at hown
  rw [HG.out]
  obtain ⟨A, c, hv, hC, _, _, hc⟩ := own_cells hown
  rw [hv] at hown ⊢
  obtain ⟨g, rfl⟩ : ∃ g, A = some ⟨g, 0, none⟩ := by
    rcases hown.2 with ⟨_, h0⟩ | ⟨g, c', cur, hv2, _⟩
    · omega
    · injection hv2 with e1; exact ⟨g, e1⟩
  have HO := Lib.hid hown
  have HS := Lib.hid (hC.lst (zs := ints S))
  have HL1 := Lib.hid (HL.out.below hb1)
  clear hown hv hC
  have g6 : (bs.length : Int) - 4 ≤ (c : Int) := by omega
  go_wp2_with fail
  refine (cEqual _ _ _ _ bs.length bs.length S bs _ HSL.out.symm rfl HS.out HL1.out HSB.out HW.out).mono ?_
  rintro e w2 ⟨rfl, rfl⟩
  cases hq : (S == bs)
  · have E := Lib.hid (show Cr.openE bs = 8 by rw [HEr.out, hq]; rfl)
    have V := Lib.hid (show Cr.openV bs = [] by unfold Cr.openV; rw [E.out]; rfl)
    go_wp2
    go_ret2
    refine ⟨none, 0, 0, by rw [E.out, V.out]; rfl, ?_, hb1⟩
    rw [V.out]
    exact World.ownsRow_nil _ _ _ _
  · have E := Lib.hid (show Cr.openE bs = 0 by rw [HEr.out, hq]; rfl)
    have V := Lib.hid (show Cr.openV bs = T by unfold Cr.openV; rw [E.out, if_pos rfl, HTE.out])
    go_wp2
    go_ret2
    refine ⟨some ⟨g, 0, none⟩, bs.length - 4, c, by rw [E.out, V.out, ← HTL.out]; rfl, ?_, hb1⟩
    have := own_part HO.out (show bs.length - 4 ≤ bs.length by omega)
    rw [← valsB_take, HT.out] at this
    rw [V.out, ← HTL.out]
    exact this
theorem cOpen (a : Option Addr) (cap : Nat) (bs : List Nat) (w : World) (hl : Lst .u8 w a (ints bs)) (hw : Bytes bs) (hn : bs.length ≤ 2147483647) (hcap : bs.length ≤ cap) (hnil : a = none → bs.length = 0 ∧ cap = 0) :
    Calls Try.prog 10 #[.slice a bs.length cap] w (OpenPost (Cr.openV bs) (Cr.openE bs) w) := by
  by_cases h : 1048576 < bs.length
  · have E := Lib.hid (show Cr.openE bs = 4 by unfold Cr.openE; rw [if_pos h])
    have V := Lib.hid (show Cr.openV bs = [] by unfold Cr.openV; rw [E.out]; rfl)
    clear hl hw hnil
    go_enter Try.func10, Try.ntmps10
    go_wp2
    go_ret2
    refine ⟨none, 0, 0, by rw [E.out, V.out]; rfl, ?_, Below.refl _ _⟩
    rw [V.out]
    exact World.ownsRow_nil _ _ _ _
  · by_cases h4 : 4 ≤ bs.length
    · obtain ⟨b, off, rfl, _, _⟩ := hl.byte (i := 0) (by omega)
      exact cOpen_long b off cap bs w hl hw h hcap h4
    · have E := Lib.hid (show Cr.openE bs = 8 by unfold Cr.openE Cr.isSealed; rw [if_neg h, show decide (4 ≤ bs.length) = false from by simp; omega]; rfl)
      have V := Lib.hid (show Cr.openV bs = [] by unfold Cr.openV; rw [E.out]; rfl)
      clear hl hw hnil
      go_enter Try.func10, Try.ntmps10
      go_wp2
      go_ret2
      refine ⟨none, 0, 0, by rw [E.out, V.out]; rfl, ?_, Below.refl _ _⟩
      rw [V.out]
      exact World.ownsRow_nil _ _ _ _
end Go.Proofs.Ythdondjhiflkaaa
