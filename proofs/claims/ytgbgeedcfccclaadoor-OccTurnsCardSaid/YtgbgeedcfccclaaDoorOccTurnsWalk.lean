/- The walk of the law OccTurns: what occ tells of a slot, words in which it is turned, and the nearest ones, are the document's; what is answered is new memory. -/
import Derived.Test.YtgbgeedcfccclaaDoorLaw02
import Derived.Test.YtgbgeedcfccclaaDoorTurned
import Derived.OneCell
namespace Go.Proofs.YtgbgeedcfccclaaDoor.occTurns
open Go.RowKit
set_option linter.unusedVariables false

set_option maxRecDepth 100000 in
set_option maxHeartbeats 400000 in
theorem long1 (a o : Option Addr) (len cap lo cop : Nat) (n s : Int) (W : World) (hT : Tab W) (h20 : 20 < len) :
    Calls Tryd.prog 5 #[.slice a len cap, .int .i64 n, .int .i64 s, .slice o lo cop] W fun e w' => e = .returned (.bool true) ∧ Below W.heap.size W w' := by
  have HT := Lib.hid hT
  go_enter Tryd.func5, Tryd.ntmps5
  go_wp2
  go_ret
  exact ⟨rfl, Below.refl _ _⟩

set_option maxRecDepth 100000 in
set_option maxHeartbeats 400000 in
theorem long2 (a o : Option Addr) (len cap lo cop : Nat) (n s : Int) (W : World) (hT : Tab W) (h20 : len ≤ 20) (h21 : 20 < lo) :
    Calls Tryd.prog 5 #[.slice a len cap, .int .i64 n, .int .i64 s, .slice o lo cop] W fun e w' => e = .returned (.bool true) ∧ Below W.heap.size W w' := by
  have HT := Lib.hid hT
  go_enter Tryd.func5, Tryd.ntmps5
  go_wp2
  go_ret
  exact ⟨rfl, Below.refl _ _⟩

/-- The first loop: words of the call's own are overwritten; the other row and all that was there ahead of both stay. -/
def J1 (wa : World) (ba bc : Nat) (A1 A3 : Option Addr) (c1 c3 L L3 : Nat) (i : Value) (wr : World) : Prop :=
  ∃ (k : Nat) (xs ys : List Value), k ≤ L ∧ i = .int .i64 k ∧ wr.ownsRow ba 22 1 (.slice A1 L c1) L xs ∧ wr.ownsRow bc 22 1 (.slice A3 L3 c3) L3 ys ∧ Below wa.heap.size wa wr
def J2 (wa : World) (bc : Nat) (A3 : Option Addr) (c3 L3 : Nat) (i : Value) (wr : World) : Prop :=
  ∃ (k : Nat) (ys : List Value), k ≤ L3 ∧ i = .int .i64 k ∧ wr.ownsRow bc 22 1 (.slice A3 L3 c3) L3 ys ∧ Below wa.heap.size wa wr
theorem row_at {w : World} {base : Nat} {e : TypeId} {A : Option Addr} {L c : Nat} {xs : List Value} (h : w.ownsRow base e 1 (.slice A L c) L xs) (hL : 0 < L) : ∃ g, A = some ⟨g, 0, none⟩ ∧ base ≤ g ∧ g < w.heap.size := by
  rcases h.2 with ⟨_, h0⟩ | ⟨g, c', cur, hv, _⟩
  · omega
  · injection hv with hA _ _
    subst hA
    have := World.ownsRow.lt h g rfl
    exact ⟨g, rfl, this.1, this.2⟩
theorem cell_some {w : World} {base : Nat} {e : TypeId} {g L c : Nat} {xs : List Value} (h : w.ownsRow base e 1 (.slice (some ⟨g, 0, none⟩) L c) L xs) {k : Nat} (hk : k < L) : ∃ u, w.cell? ⟨g, k, none⟩ = some u := by
  have hx : k < xs.length := by have := h.1; omega
  exact ⟨xs[k], by rw [h.cellAt k (by omega), List.getElem?_eq_getElem hx]⟩

set_option maxRecDepth 100000 in
set_option maxHeartbeats 2000000 in
theorem full (a o : Option Addr) (cap cop : Nat) (ws os : List Nat) (n s : Int) (W : World) (hT : Tab W) (hl : Lst .u64 W a (ints ws)) (hw : Wide ws) (hnil : a = none → ws = [] ∧ cap = 0) (ho : Lst .u64 W o (ints os)) (h20 : ws.length ≤ 20) (h21 : os.length ≤ 20) (on off : List Nat) (q1 : Hid (Oc.withW ws n s true = on)) (q2 : Hid (Oc.withW ws n s false = off)) (l1 : on.length ≤ 65536) (l2 : off.length ≤ 65536) :
    Calls Tryd.prog 5 #[.slice a ws.length cap, .int .i64 n, .int .i64 s, .slice o os.length cop] W fun e w' => e = .returned (.bool true) ∧ Below W.heap.size W w' := by
  have HT := Lib.hid hT
  have HL := Lib.hid hl
  have HO := Lib.hid ho
  have HW := Lib.hid hw
  have HNil := Lib.hid hnil
  clear hl ho hw hnil
  have h65 : ws.length ≤ 65536 := by omega
  have h66 : os.length ≤ 65536 := by omega
  go_enter Tryd.func5, Tryd.ntmps5
  go_wp2_with (at_builtin; refine wpList_append_in rfl (.tmp 41) (.tmp 42) rfl W rfl a cap ws rfl rfl HL.out HNil.out h65 ?_)
  intro A0 c0 w1 _ hL0 hb
  have HB := Lib.hid hL0
  have HA := Lib.hid (HL.out.below hb)
  replace HO := Lib.hid (HO.out.below hb)
  clear hL0 HL HNil
  go_wp2_with fail
  refine (oHas A0 c0 ws n s _ HB.out HW.out h65).mono ?_
  rintro e w2 ⟨rfl, hb2⟩
  replace HA := Lib.hid (HA.out.below hb2)
  replace HB := Lib.hid (HB.out.below hb2)
  replace HO := Lib.hid (HO.out.below hb2)
  replace hb := hb.trans (hb2.mono hb.size)
  clear hb2
  go_wp2_with fail
  refine (r2Has a cap ws n s _ HA.out HW.out h65).mono ?_
  rintro e wa ⟨rfl, hb2⟩
  replace HA := Lib.hid (HA.out.below hb2)
  replace HB := Lib.hid (HB.out.below hb2)
  replace HO := Lib.hid (HO.out.below hb2)
  replace hb := hb.trans (hb2.mono hb.size)
  clear hb2
  have hc : Below wa.heap.size wa wa := Below.refl _ _
  have KA := HA
  have KB := HB
  have KO := HO
  go_wp2_with fail
  refine (oWith A0 c0 ws n s true _ HB.out HW.out h65).mono ?_
  rintro e w2 ⟨v, rfl, hown, hb2⟩
  replace HA := Lib.hid (HA.out.below hb2)
  replace HB := Lib.hid (HB.out.below hb2)
  rw [q1.out] at hown
  obtain ⟨A1, c1, hv, hL⟩ := own_words hown
  rw [hv] at hown
  have H1 := Lib.hid hL
  have R1 := Lib.hid hown
  rw [hv]
  clear hv hown hL
  replace hc := hc.trans (hb2.mono hc.size)
  clear hb2
  go_wp2_with fail
  refine (r2With a cap ws n s true _ HA.out HW.out h65).mono ?_
  rintro e w2 ⟨v, rfl, hown, hb2⟩
  replace HA := Lib.hid (HA.out.below hb2)
  replace HB := Lib.hid (HB.out.below hb2)
  replace H1 := Lib.hid (H1.out.below hb2)
  replace R1 := Lib.hid (own_kept R1.out hb2)
  rw [q1.out] at hown
  obtain ⟨A2, c2, hv, hL⟩ := own_words hown
  rw [hv] at hown
  have H2 := Lib.hid hL
  rw [hv]
  clear hv hown hL
  replace hc := hc.trans (hb2.mono hc.size)
  clear hb2
  have hsep : ∀ g, A1 = some ⟨g, 0, none⟩ → 0 < on.length → g < w2.heap.size := by
    intro g hg hpos
    obtain ⟨g', e1, _, e3⟩ := row_at R1.out hpos
    rw [hg] at e1
    injection e1 with e1
    injection e1 with e1
    omega
  have HSEP := Lib.hid hsep
  clear hsep
  obtain ⟨bc, hbc⟩ : ∃ bc, bc = w2.heap.size := ⟨_, rfl⟩
  have hbc1 : wa.heap.size ≤ bc := by rw [hbc]; exact hc.size
  rw [← hbc] at HSEP
  have HBC := Lib.hid hbc
  clear hbc
  go_wp2_with fail
  refine (oWith A0 c0 ws n s false _ HB.out HW.out h65).mono ?_
  rintro e w2 ⟨v, rfl, hown, hb2⟩
  replace HA := Lib.hid (HA.out.below hb2)
  replace HB := Lib.hid (HB.out.below hb2)
  replace H1 := Lib.hid (H1.out.below hb2)
  replace H2 := Lib.hid (H2.out.below hb2)
  replace R1 := Lib.hid (own_kept R1.out hb2)
  rw [← HBC.out] at hown
  rw [q2.out] at hown
  obtain ⟨A3, c3, hv, hL⟩ := own_words hown
  rw [hv] at hown
  have H3 := Lib.hid hL
  have R3 := Lib.hid hown
  rw [hv]
  clear hv hown hL
  replace hc := hc.trans (hb2.mono hc.size)
  clear hb2
  go_wp2_with fail
  refine (r2With a cap ws n s false _ HA.out HW.out h65).mono ?_
  rintro e w2 ⟨v, rfl, hown, hb2⟩
  replace HA := Lib.hid (HA.out.below hb2)
  replace HB := Lib.hid (HB.out.below hb2)
  replace H1 := Lib.hid (H1.out.below hb2)
  replace H2 := Lib.hid (H2.out.below hb2)
  replace H3 := Lib.hid (H3.out.below hb2)
  replace R1 := Lib.hid (own_kept R1.out hb2)
  replace R3 := Lib.hid (own_kept R3.out hb2)
  rw [q2.out] at hown
  obtain ⟨A4, c4, hv, hL⟩ := own_words hown
  rw [hv] at hown
  have H4 := Lib.hid hL
  rw [hv]
  clear hv hown hL
  replace hc := hc.trans (hb2.mono hc.size)
  clear hb2
  go_wp2_with fail
  refine (oNext A0 c0 ws n s _ HB.out HW.out h65 ((HT.out.below hb).below hc)).mono ?_
  rintro e w2 ⟨rfl, hb2⟩
  replace HA := Lib.hid (HA.out.below hb2)
  replace HB := Lib.hid (HB.out.below hb2)
  replace H1 := Lib.hid (H1.out.below hb2)
  replace H2 := Lib.hid (H2.out.below hb2)
  replace H3 := Lib.hid (H3.out.below hb2)
  replace H4 := Lib.hid (H4.out.below hb2)
  replace R1 := Lib.hid (own_kept R1.out hb2)
  replace R3 := Lib.hid (own_kept R3.out hb2)
  replace hc := hc.trans (hb2.mono hc.size)
  clear hb2
  go_wp2_with fail
  refine (r2Next a cap ws n s _ HA.out HW.out h65).mono ?_
  rintro e w2 ⟨rfl, hb2⟩
  replace HA := Lib.hid (HA.out.below hb2)
  replace HB := Lib.hid (HB.out.below hb2)
  replace H1 := Lib.hid (H1.out.below hb2)
  replace H2 := Lib.hid (H2.out.below hb2)
  replace H3 := Lib.hid (H3.out.below hb2)
  replace H4 := Lib.hid (H4.out.below hb2)
  replace R1 := Lib.hid (own_kept R1.out hb2)
  replace R3 := Lib.hid (own_kept R3.out hb2)
  replace hc := hc.trans (hb2.mono hc.size)
  clear hb2
  go_wp2_with fail
  refine (oLast A0 c0 ws n s _ HB.out HW.out h65).mono ?_
  rintro e w2 ⟨rfl, hb2⟩
  replace HA := Lib.hid (HA.out.below hb2)
  replace HB := Lib.hid (HB.out.below hb2)
  replace H1 := Lib.hid (H1.out.below hb2)
  replace H2 := Lib.hid (H2.out.below hb2)
  replace H3 := Lib.hid (H3.out.below hb2)
  replace H4 := Lib.hid (H4.out.below hb2)
  replace R1 := Lib.hid (own_kept R1.out hb2)
  replace R3 := Lib.hid (own_kept R3.out hb2)
  replace hc := hc.trans (hb2.mono hc.size)
  clear hb2
  go_wp2_with fail
  refine (r2Last a cap ws n s _ HA.out HW.out h65).mono ?_
  rintro e w2 ⟨rfl, hb2⟩
  replace HA := Lib.hid (HA.out.below hb2)
  replace HB := Lib.hid (HB.out.below hb2)
  replace H1 := Lib.hid (H1.out.below hb2)
  replace H2 := Lib.hid (H2.out.below hb2)
  replace H3 := Lib.hid (H3.out.below hb2)
  replace H4 := Lib.hid (H4.out.below hb2)
  replace R1 := Lib.hid (own_kept R1.out hb2)
  replace R3 := Lib.hid (own_kept R3.out hb2)
  replace hc := hc.trans (hb2.mono hc.size)
  clear hb2
  go_wp2_with fail
  refine (r2Same A1 A2 c1 c2 on on _ H1.out H2.out l1 l1).mono ?_
  rintro e w2 ⟨rfl, hb2⟩
  replace HA := Lib.hid (HA.out.below hb2)
  replace HB := Lib.hid (HB.out.below hb2)
  replace H1 := Lib.hid (H1.out.below hb2)
  replace H2 := Lib.hid (H2.out.below hb2)
  replace H3 := Lib.hid (H3.out.below hb2)
  replace H4 := Lib.hid (H4.out.below hb2)
  replace R1 := Lib.hid (own_kept R1.out hb2)
  replace R3 := Lib.hid (own_kept R3.out hb2)
  rw [beq_self_eq_true]
  replace hc := hc.trans (hb2.mono hc.size)
  clear hb2
  go_wp2_with fail
  refine (r2Same A3 A4 c3 c4 off off _ H3.out H4.out l2 l2).mono ?_
  rintro e w2 ⟨rfl, hb2⟩
  replace R1 := Lib.hid (own_kept R1.out hb2)
  replace R3 := Lib.hid (own_kept R3.out hb2)
  rw [beq_self_eq_true]
  replace hc := hc.trans (hb2.mono hc.size)
  clear hb2
  clear HA HB HO H1 H2 H3 H4 HBC
  go_wp2_with fail
  go_loopw [31] (J1 wa wa.heap.size bc A1 A3 c1 c3 on.length off.length) (fun i _ => on.length - (intOf i).toNat)
  case atStart => exact ⟨0, _, _, Nat.zero_le _, rfl, R1.out, R3.out, hc⟩
  case round =>
    obtain ⟨k, xs, ys, hk, rfl, r1, r3, hd⟩ := hrel
    have Q1 := Lib.hid r1
    have Q3 := Lib.hid r3
    clear r1 r3 R1 R3
    by_cases hlt : k < on.length
    · obtain ⟨g, rfl, hg1, hg2⟩ := row_at Q1.out (by omega)
      obtain ⟨u, hu⟩ := cell_some Q1.out hlt
      have hfz : wr.frozen? ⟨g, k, none⟩ = false := Q1.out.frozenAt _
      have S1 := Lib.hid (Q1.out.stored k (.int .u64 7)).1
      have S3 := Lib.hid (ownsRow_setCell_other Q3.out (a := ⟨g, k, none⟩) (by
        intro e
        have h1 := (World.ownsRow.lt Q3.out g e).1
        have h2 := HSEP.out g rfl (by omega)
        omega) (.int .u64 7))
      have hd' : Below wa.heap.size wa (wr.setCell ⟨g, k, none⟩ (.int .u64 7)) := hd.setCell hg1 _
      go_wp2
      go_roundw
      case rel => exact ⟨k + 1, _, _, by omega, by go_num, S1.out, S3.out, hd'⟩
      case measure => simp [intOf]; omega
    · clear HSEP Q1
      go_wp2
      go_loopw [32] (J2 wa bc A3 c3 off.length) (fun i _ => off.length - (intOf i).toNat)
      case atStart => exact ⟨0, _, Nat.zero_le _, rfl, Q3.out, hd⟩
      case round =>
        obtain ⟨k2, ys2, hk2, rfl, r3, hd2⟩ := hrel
        have Q3 := Lib.hid r3
        clear r3
        by_cases hlt2 : k2 < off.length
        · obtain ⟨g, rfl, hg1, hg2⟩ := row_at Q3.out (by omega)
          obtain ⟨u, hu⟩ := cell_some Q3.out hlt2
          have hfz := Q3.out.frozenAt k2
          have S3 := Lib.hid (Q3.out.stored k2 (.int .u64 7)).1
          go_wp2
          go_roundw
          case rel => exact ⟨k2 + 1, _, by omega, by go_num, S3.out, hd2.setCell (Nat.le_trans hbc1 hg1) _⟩
          case measure => simp [intOf]; omega
        · clear Q3
          replace hb := hb.trans (hd2.mono hb.size)
          replace KA := Lib.hid (KA.out.below hd2)
          replace KB := Lib.hid (KB.out.below hd2)
          replace KO := Lib.hid (KO.out.below hd2)
          clear hd hd2 hc
          go_wp2_with fail
          refine (oSame A0 o c0 cop ws os _ KB.out KO.out h65 h66).mono ?_
          rintro e w5 ⟨rfl, hb2⟩
          replace KA := Lib.hid (KA.out.below hb2)
          replace KB := Lib.hid (KB.out.below hb2)
          replace KO := Lib.hid (KO.out.below hb2)
          replace hb := hb.trans (hb2.mono hb.size)
          clear hb2
          go_wp2_with fail
          refine (r2Same a o cap cop ws os _ KA.out KO.out h65 h66).mono ?_
          rintro e w6 ⟨rfl, hb2⟩
          replace KA := Lib.hid (KA.out.below hb2)
          replace KB := Lib.hid (KB.out.below hb2)
          replace hb := hb.trans (hb2.mono hb.size)
          clear hb2
          go_wp2_with fail
          refine (r2Same A0 a c0 cap ws ws _ KB.out KA.out h65 h65).mono ?_
          rintro e w7 ⟨rfl, hb2⟩
          rw [beq_self_eq_true]
          replace hb := hb.trans (hb2.mono hb.size)
          clear hb2
          go_wp2_with fail
          go_ret
          exact ⟨rfl, hb⟩

theorem walk (a o : Option Addr) (cap cop : Nat) (ws os : List Nat) (n s : Int) (W : World) (hT : Tab W) (hl : Lst .u64 W a (ints ws)) (hw : Wide ws) (hnil : a = none → ws = [] ∧ cap = 0) (ho : Lst .u64 W o (ints os)) :
    Calls Tryd.prog 5 #[.slice a ws.length cap, .int .i64 n, .int .i64 s, .slice o os.length cop] W fun e w' => e = .returned (.bool true) ∧ Below W.heap.size W w' := by
  have HT := Lib.hid hT
  by_cases h20 : 20 < ws.length
  · exact long1 a o ws.length cap os.length cop n s W hT h20
  by_cases h21 : 20 < os.length
  · exact long2 a o ws.length cap os.length cop n s W hT (by omega) h21
  have hlen : ∀ is, (Oc.withW ws n s is).length ≤ 65536 := by
    intro is
    unfold Oc.withW
    split
    · rw [putW_length]; omega
    · simp
  exact full a o cap cop ws os n s W hT hl hw hnil ho (by omega) (by omega) _ _ (Lib.hid rfl) (Lib.hid rfl) (hlen true) (hlen false)
end Go.Proofs.YtgbgeedcfccclaaDoor.occTurns
