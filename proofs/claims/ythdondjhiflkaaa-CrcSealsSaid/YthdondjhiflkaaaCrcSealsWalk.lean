/- The walk of the law CrcSeals: sealed bytes, what was sealed, bursts, or the errors, are the document's; the bytes stay, and what is answered is new memory. -/
import Derived.Test.YthdondjhiflkaaaLaw03
import Derived.Test.YthdondjhiflkaaaCrcFacts
import Derived.Test.YthdondjhiflkaaaRefC03
import Derived.OneCell
namespace Go.Proofs.Ythdondjhiflkaaa.crcSeals
open Go.RowKit
set_option linter.unusedVariables false

def u8s (zs : List Int) : List Value := zs.map (Value.int .u8)
theorem u8s_valsB (bs : List Nat) : valsB bs = u8s (ints bs) := rfl
theorem row_at {w : World} {base : Nat} {e : TypeId} {A : Option Addr} {L c : Nat} {zs : List Int} (h : w.ownsRow base e 1 (.slice A L c) L (u8s zs)) {k : Nat} (hk : k < L) :
    ∃ g z, A = some ⟨g, 0, none⟩ ∧ base ≤ g ∧ w.cell? ⟨g, k, none⟩ = some (.int .u8 z) ∧ w.frozen? ⟨g, k, none⟩ = false := by
  have hx : k < (u8s zs).length := by have := h.1; omega
  rcases h.2 with ⟨_, h0⟩ | ⟨g, c', cur, hv, _⟩
  · omega
  · injection hv with hA _ _
    subst hA
    have := World.ownsRow.lt h g rfl
    refine ⟨g, zs[k]'(by simpa [u8s] using hx), rfl, this.1, ?_, h.frozenAt _⟩
    rw [h.cellAt k (by omega), List.getElem?_eq_getElem hx]
    simp [u8s]
theorem row_set {w : World} {base : Nat} {e : TypeId} {g L c : Nat} {zs : List Int} (h : w.ownsRow base e 1 (.slice (some ⟨g, 0, none⟩) L c) L (u8s zs)) (k : Nat) (z : Int) :
    ∃ zs', (w.setCell ⟨g, k, none⟩ (.int .u8 z)).ownsRow base e 1 (.slice (some ⟨g, 0, none⟩) L c) L (u8s zs') := by
  have := (h.stored k (.int .u8 z)).1
  refine ⟨zs.set k z, ?_⟩
  simpa [u8s, List.map_set] using this
theorem row_other {w : World} {base : Nat} {e : TypeId} {A : Option Addr} {L c : Nat} {xs : List Value} (h : w.ownsRow base e 1 (.slice A L c) L xs) {g k : Nat} (hg : g < base) (u : Value) :
    (w.setCell ⟨g, k, none⟩ u).ownsRow base e 1 (.slice A L c) L xs := by
  refine ownsRow_setCell_other h ?_ u
  intro e
  have := (World.ownsRow.lt h g e).1
  omega
theorem row_lst {w : World} {base : Nat} {e : TypeId} {A : Option Addr} {n c : Nat} {bs : List Nat} (h : w.ownsRow base e 1 (.slice A n c) n (valsB bs)) : Lst .u8 w A (ints bs) := by
  obtain ⟨A', c', hv, hC, _⟩ := own_cells h
  injection hv with hv1 _ _
  subst hv1
  exact hC.lst
def J1 (B : Nat) (wa : World) (bc bp : Nat) (A1 A2 A3 : Option Addr) (c1 c2 c3 L1 L2 L3 : Nat) (i : Value) (wr : World) : Prop :=
  ∃ (k : Nat) (xs ys zs : List Int), k ≤ L1 ∧ i = .int .i64 k ∧ wr.ownsRow B 5 1 (.slice A1 L1 c1) L1 (u8s xs) ∧ wr.ownsRow bc 5 1 (.slice A2 L2 c2) L2 (u8s ys) ∧ wr.ownsRow bp 5 1 (.slice A3 L3 c3) L3 (u8s zs) ∧ Below B wa wr
def J2 (B : Nat) (wa : World) (bc bp : Nat) (A2 A3 : Option Addr) (c2 c3 L2 L3 : Nat) (i : Value) (wr : World) : Prop :=
  ∃ (k : Nat) (ys zs : List Int), k ≤ L2 ∧ i = .int .i64 k ∧ wr.ownsRow bc 5 1 (.slice A2 L2 c2) L2 (u8s ys) ∧ wr.ownsRow bp 5 1 (.slice A3 L3 c3) L3 (u8s zs) ∧ Below B wa wr
def J3 (B : Nat) (wa : World) (bp : Nat) (A3 : Option Addr) (c3 L3 : Nat) (i : Value) (wr : World) : Prop :=
  ∃ (k : Nat) (zs : List Int), k ≤ L3 ∧ i = .int .i64 k ∧ wr.ownsRow bp 5 1 (.slice A3 L3 c3) L3 (u8s zs) ∧ Below B wa wr
theorem openE_mem (bs : List Nat) : 0 ≤ Cr.openE bs ∧ Cr.openE bs ≤ 8 := by unfold Cr.openE; split; decide; split <;> decide
theorem burstE_mem (bs : List Nat) (a : Int) (m : Nat) : 0 ≤ Cr.burstE bs a m ∧ Cr.burstE bs a m ≤ 8 := by unfold Cr.burstE; split; decide; split <;> decide

set_option maxRecDepth 100000 in
set_option maxHeartbeats 2000000 in
theorem full (a : Option Addr) (ca : Nat) (bs : List Nat) (at_ : Int) (m : Nat) (W : World) (ha : Lst .u8 W a (ints bs)) (hx : Bytes bs) (hna : a = none → bs.length = 0 ∧ ca = 0) (hca : bs.length ≤ ca) (h3 : bs.length ≤ 3000) (hm : m < 4294967296) (hlo : -9223372036854775808 ≤ at_) (hat : at_ ≤ 9223372036854775807)
    (sv ov bv : List Nat) (oe be : Int) (f1 : Hid (Cr.sealV bs = sv)) (f2 : Hid (Cr.openV bs = ov)) (f3 : Hid (Cr.burstV bs at_ m = bv)) (f4 : Hid (Cr.openE bs = oe)) (f5 : Hid (Cr.burstE bs at_ m = be)) (o1 : 0 ≤ oe) (o2 : oe ≤ 8) (o3 : 0 ≤ be) (o4 : be ≤ 8) (l1 : sv.length ≤ 4000) (l2 : ov.length ≤ 4000) (l3 : bv.length ≤ 4000) :
    Calls Try.prog 5 #[.slice a bs.length ca, .int .i64 at_, .int .u32 (m : Int)] W fun e w' => e = .returned (.bool true) ∧ Below W.heap.size W w' := by
  have HA := Lib.hid ha
  have HX := Lib.hid hx
  have HNA := Lib.hid hna
  have HCA := Lib.hid hca
  have G := Lib.hid (goE_short (bs := bs) (by omega))
  clear ha hx hna hca
  go_enter Try.func5, Try.ntmps5
  go_wp2_with (at_builtin; refine wpList_copy elemB rfl _ _ rfl W rfl a bs.length ca (valsB bs) rfl rfl (Cells.of_lst HA.out) (by rw [valsB_length, Nat.mul_one]) (valsB_one bs) HNA.out (by unfold maxLen; omega) (by omega) ?_; intro A0 c0 wa hown0 _ hb)
  obtain ⟨A, c0', hv, hC0, hn0, _, hc0⟩ := own_cells hown0
  injection hv with hv1 _ hv2
  subst hv1 hv2
  have H0 := Lib.hid (hC0.lst (zs := ints bs))
  have HN0 := Lib.hid hn0
  have HC0 := Lib.hid hc0
  replace HA := Lib.hid (HA.out.below hb)
  clear hown0 hC0 hn0 hc0
  have hc : Below wa.heap.size wa wa := Below.refl _ _
  have KA := Lib.hid HA.out
  have K0 := Lib.hid H0.out
  go_wp2_with fail
  refine (cSeal A0 c0 bs _ H0.out HX.out (by omega) HN0.out).mono ?_
  rintro e w1 ⟨v, rfl, hown, hb2⟩
  rw [f1.out] at hown
  obtain ⟨A1, c1, hv, _, _, hs, _⟩ := own_cells hown
  rw [hv] at hown ⊢
  rw [G.out]
  have R1 := Lib.hid hown
  have Sp1 := Lib.hid hs
  replace HA := Lib.hid (HA.out.below hb2)
  replace H0 := Lib.hid (H0.out.below hb2)
  have z1 := hb2.size
  replace hc := hc.trans (hb2.mono hc.size)
  clear hown hv hs hb2
  go_wp2_with fail
  refine (r3Seal a ca bs _ HA.out HX.out (by omega) HNA.out).mono ?_
  rintro e w2 ⟨v, rfl, hown, hb2⟩
  rw [f1.out] at hown
  obtain ⟨A2, c2, hv, _, _, hs, _⟩ := own_cells hown
  rw [hv] at hown ⊢
  rw [G.out]
  have R2 := Lib.hid hown
  have Sp2 := Lib.hid hs
  replace HA := Lib.hid (HA.out.below hb2)
  replace H0 := Lib.hid (H0.out.below hb2)
  replace R1 := Lib.hid (own_below R1.out hb2)
  have z2 := hb2.size
  replace hc := hc.trans (hb2.mono hc.size)
  clear hown hv hs hb2
  go_wp2_with fail
  refine (cOpen A0 c0 bs _ H0.out HX.out (by omega) HC0.out HN0.out).mono ?_
  rintro e w3 ⟨A3, c3, d3, rfl, hown, hb2⟩
  rw [f2.out] at hown ⊢
  rw [f4.out]
  obtain ⟨_, hs⟩ := open_cells hown
  have R3 := Lib.hid hown
  have Sp3 := Lib.hid hs
  replace HA := Lib.hid (HA.out.below hb2)
  replace H0 := Lib.hid (H0.out.below hb2)
  replace R1 := Lib.hid (own_below R1.out hb2)
  replace R2 := Lib.hid (own_below R2.out hb2)
  have z3 := hb2.size
  replace hc := hc.trans (hb2.mono hc.size)
  clear hown hs hb2
  go_wp2_with fail
  refine (r3Open a ca bs _ HA.out HX.out (by omega) HCA.out).mono ?_
  rintro e w4 ⟨v, rfl, hown, hb2⟩
  rw [f2.out] at hown
  obtain ⟨A4, c4, hv, _, _, hs, _⟩ := own_cells hown
  rw [hv] at hown ⊢
  rw [f4.out]
  have R4 := Lib.hid hown
  have Sp4 := Lib.hid hs
  replace HA := Lib.hid (HA.out.below hb2)
  replace H0 := Lib.hid (H0.out.below hb2)
  replace R1 := Lib.hid (own_below R1.out hb2)
  replace R2 := Lib.hid (own_below R2.out hb2)
  replace R3 := Lib.hid (own_below R3.out hb2)
  have z4 := hb2.size
  replace hc := hc.trans (hb2.mono hc.size)
  clear hown hv hs hb2
  go_wp2_with fail
  refine (cBurst A0 c0 bs at_ m _ H0.out HX.out (by omega) hm hat HN0.out).mono ?_
  rintro e w5 ⟨v, rfl, hown, hb2⟩
  rw [f3.out] at hown
  obtain ⟨A5, c5, hv, _, _, hs, _⟩ := own_cells hown
  rw [hv] at hown ⊢
  rw [f5.out]
  have R5 := Lib.hid hown
  have Sp5 := Lib.hid hs
  replace HA := Lib.hid (HA.out.below hb2)
  replace H0 := Lib.hid (H0.out.below hb2)
  replace R1 := Lib.hid (own_below R1.out hb2)
  replace R2 := Lib.hid (own_below R2.out hb2)
  replace R3 := Lib.hid (own_below R3.out hb2)
  replace R4 := Lib.hid (own_below R4.out hb2)
  have z5 := hb2.size
  replace hc := hc.trans (hb2.mono hc.size)
  clear hown hv hs hb2
  go_wp2_with fail
  refine (r3Burst a ca bs at_ m _ HA.out HX.out (by omega) HNA.out hm hlo hat).mono ?_
  rintro e w6 ⟨v, rfl, hown, hb2⟩
  rw [f3.out] at hown
  obtain ⟨A6, c6, hv, _, _, hs, _⟩ := own_cells hown
  rw [hv] at hown ⊢
  rw [f5.out]
  have R6 := Lib.hid hown
  have Sp6 := Lib.hid hs
  replace HA := Lib.hid (HA.out.below hb2)
  replace H0 := Lib.hid (H0.out.below hb2)
  replace R1 := Lib.hid (own_below R1.out hb2)
  replace R2 := Lib.hid (own_below R2.out hb2)
  replace R3 := Lib.hid (own_below R3.out hb2)
  replace R4 := Lib.hid (own_below R4.out hb2)
  replace R5 := Lib.hid (own_below R5.out hb2)
  have z6 := hb2.size
  replace hc := hc.trans (hb2.mono hc.size)
  clear hown hv hs hb2
  have q1 := conv_bytes c1 (row_lst R1.out)
  have q2 := conv_bytes c2 (row_lst R2.out)
  have q3 := conv_bytes c3 (row_lst R3.out)
  have q4 := conv_bytes c4 (row_lst R4.out)
  have q5 := conv_bytes c5 (row_lst R5.out)
  have q6 := conv_bytes c6 (row_lst R6.out)
  clear R2 R4 R6 Sp2 Sp4 Sp5 Sp6
  have S13 := Lib.hid (show ∀ g, A1 = some ⟨g, 0, none⟩ → g < w2.heap.size ∧ g < w4.heap.size from fun g e => by have := (Sp1.out _ e).2.2; simp only at this; omega)
  have S35 := Lib.hid (show ∀ g, A3 = some ⟨g, 0, none⟩ → wa.heap.size ≤ g ∧ g < w4.heap.size from fun g e => by have := (Sp3.out _ e).2.2; have := (Sp3.out _ e).1; simp only at *; omega)
  have Z := Lib.hid (show wa.heap.size ≤ w4.heap.size by omega)
  clear Sp1 Sp3
  go_wp2
  clear q1 q2 q3 q4 q5 q6
  go_loopw [21] (J1 wa.heap.size wa w2.heap.size w4.heap.size A1 A3 A5 c1 d3 c5 sv.length ov.length bv.length) (fun i _ => sv.length - (intOf i).toNat)
  case atStart => exact ⟨0, _, _, _, Nat.zero_le _, rfl, R1.out, R3.out, R5.out, hc⟩
  case round =>
    obtain ⟨k, xs, ys, zs, hk, rfl, r1, r3, r5, hd⟩ := hrel
    have Q1 := Lib.hid r1
    have Q3 := Lib.hid r3
    have Q5 := Lib.hid r5
    clear r1 r3 r5 R1 R3 R5
    by_cases hlt : k < sv.length
    · obtain ⟨g, z, rfl, hg, hcell, hfz⟩ := row_at Q1.out hlt
      have hsep := S13.out g rfl
      go_wp2
      go_roundw
      case rel => exact (row_set Q1.out k _).elim fun xs' S1 => ⟨k + 1, xs', ys, zs, by omega, by go_num, S1, row_other Q3.out hsep.1 _, row_other Q5.out hsep.2 _, hd.setCell hg _⟩
      case measure => simp [intOf]; omega
    · clear Q1 S13
      go_wp2
      go_loopw [22] (J2 wa.heap.size wa w2.heap.size w4.heap.size A3 A5 d3 c5 ov.length bv.length) (fun i _ => ov.length - (intOf i).toNat)
      case atStart => exact ⟨0, _, _, Nat.zero_le _, rfl, Q3.out, Q5.out, hd⟩
      case round =>
        obtain ⟨k2, ys2, zs2, hk2, rfl, r3, r5, hd2⟩ := hrel
        have P3 := Lib.hid r3
        have P5 := Lib.hid r5
        clear r3 r5 Q3 Q5 hd
        by_cases hlt2 : k2 < ov.length
        · obtain ⟨g, z, rfl, _, hcell, hfz⟩ := row_at P3.out hlt2
          have hsep := S35.out g rfl
          go_wp2
          go_roundw
          case rel => exact (row_set P3.out k2 _).elim fun ys' S1 => ⟨k2 + 1, ys', zs2, by omega, by go_num, S1, row_other P5.out hsep.2 _, hd2.setCell hsep.1 _⟩
          case measure => simp [intOf]; omega
        · clear P3 S35
          go_wp2
          go_loopw [23] (J3 wa.heap.size wa w4.heap.size A5 c5 bv.length) (fun i _ => bv.length - (intOf i).toNat)
          case atStart => exact ⟨0, _, Nat.zero_le _, rfl, P5.out, hd2⟩
          case round =>
            obtain ⟨k3, zs3, hk3, rfl, r5, hd3⟩ := hrel
            have O5 := Lib.hid r5
            clear r5 P5 hd2
            by_cases hlt3 : k3 < bv.length
            · obtain ⟨g, z, rfl, hg, hcell, hfz⟩ := row_at O5.out hlt3
              have hg2 : wa.heap.size ≤ g := Nat.le_trans Z.out hg
              go_wp2
              go_roundw
              case rel => exact (row_set O5.out k3 _).elim fun zs' S1 => ⟨k3 + 1, zs', by omega, by go_num, S1, hd3.setCell hg2 _⟩
              case measure => simp [intOf]; omega
            · clear O5
              have q7 := conv_bytes c0 (K0.out.below hd3)
              have q8 := conv_bytes ca (KA.out.below hd3)
              go_wp2
              go_ret
              exact ⟨rfl, hb.trans (hd3.mono hb.size)⟩

theorem openV_len (bs : List Nat) : (Cr.openV bs).length ≤ bs.length := by
  unfold Cr.openV
  split
  · rw [List.length_take]; omega
  · simp
theorem burstV_len (bs : List Nat) (a : Int) (m : Nat) : (Cr.burstV bs a m).length ≤ bs.length := by
  unfold Cr.burstV
  split
  · rw [Cr.xorAt_length]; exact Nat.le_refl _
  · simp
theorem walk (a : Option Addr) (ca : Nat) (bs : List Nat) (at_ : Int) (m : Nat) (W : World) (ha : Lst .u8 W a (ints bs)) (hx : Bytes bs) (hna : a = none → bs.length = 0 ∧ ca = 0) (hca : bs.length ≤ ca) (hm : m < 4294967296) (hlo : -9223372036854775808 ≤ at_) (hat : at_ ≤ 9223372036854775807) :
    Calls Try.prog 5 #[.slice a bs.length ca, .int .i64 at_, .int .u32 (m : Int)] W fun e w' => e = .returned (.bool true) ∧ Below W.heap.size W w' := by
  by_cases h3 : bs.length ≤ 3000
  · refine full a ca bs at_ m W ha hx hna hca h3 hm hlo hat _ _ _ _ _ (Lib.hid rfl) (Lib.hid rfl) (Lib.hid rfl) (Lib.hid rfl) (Lib.hid rfl) (openE_mem bs).1 (openE_mem bs).2 (burstE_mem bs at_ m).1 (burstE_mem bs at_ m).2 ?_ ?_ ?_
    · rw [sealV_short (by omega), Cr.sealed_length]; omega
    · exact Nat.le_trans (openV_len bs) (by omega)
    · exact Nat.le_trans (burstV_len bs at_ m) (by omega)
  · clear ha hx hna hca
    go_enter Try.func5, Try.ntmps5
    go_wp2
    go_ret
    exact ⟨rfl, Below.refl _ _⟩
end Go.Proofs.Ythdondjhiflkaaa.crcSeals
