/- What Same, With and Count of package occ return, with slices.Equal and slices.Clone under them. -/
import Derived.Test.YtgbgeedcfccclaaDoorOccC
import Derived.Test.YtgbgeedcfccclaaDoorWords
namespace Go.Proofs.YtgbgeedcfccclaaDoor
open Go.RowKit
set_option linter.unusedVariables false

set_option maxHeartbeats 400000 in
theorem oEqual (a b : Option Addr) (ca cb : Nat) (xs ys : List Nat) (w : World) (ha : Lst .u64 w a (ints xs)) (hb : Lst .u64 w b (ints ys)) (hn : xs.length ≤ 65536) (hm : ys.length ≤ 65536) :
    Calls Tryd.prog 35 #[.slice a xs.length ca, .slice b ys.length cb] w fun e w' => e = .returned (.bool (xs == ys)) ∧ Below w.heap.size w w' := by
  have HA := Lib.hid ha
  have HB := Lib.hid hb
  clear ha hb
  by_cases hne : xs.length = ys.length
  · have k1 : ((xs.length : Int) != ys.length) = false := by simp; omega
    have HNE := Lib.hid hne
    clear hne
    go_enter Tryd.func35, Tryd.ntmps35
    go_wp2
    go_loopw [13] (SameJ xs ys w) (fun i _ => xs.length - (intOf i).toNat)
    case atStart => exact ⟨0, 0, Nat.zero_le _, rfl, rfl, rfl⟩
    case round =>
      obtain ⟨k, q, hk, rfl, rfl, ht⟩ := hrel
      have HT := Lib.hid ht
      clear ht
      by_cases hlt : k < xs.length
      · have hltb : k < ys.length := by have := HNE.out; omega
        obtain ⟨b1, o1, rfl, _, c1⟩ := HA.out.word hlt
        obtain ⟨b2, o2, rfl, _, c2⟩ := HB.out.word hltb
        obtain ⟨x, hx⟩ : ∃ x, xs.getD k 0 = x := ⟨_, rfl⟩
        obtain ⟨y, hy⟩ : ∃ y, ys.getD k 0 = y := ⟨_, rfl⟩
        rw [hx] at c1
        rw [hy] at c2
        have HX := Lib.hid hx
        have HY := Lib.hid hy
        clear hx hy
        by_cases he : x = y
        · have k2 : ((x : Int) != (y : Int)) = false := by simp [he]
          have HE := Lib.hid he
          clear he
          go_wp2
          go_quiet (fail)
          go_wp2
          go_roundw
          case rel => exact ⟨k + 1, _, by omega, by go_num, rfl, take_same xs ys k hlt hltb HT.out (by rw [HX.out, HY.out, HE.out])⟩
          case measure => simp [intOf]; omega
        · have k2 : ((x : Int) != (y : Int)) = true := by simp; omega
          have HE := Lib.hid he
          clear he
          go_wp2
          go_quiet (fail)
          go_wp2
          go_ret
          rw [not_same xs ys k (by rw [HX.out, HY.out]; exact HE.out)]
          exact ⟨rfl, below_drewN (below_drewN (Below.refl _ _) _) _⟩
      · go_wp2
        go_ret
        have e : xs = ys := by
          have := HT.out
          rwa [List.take_of_length_le (by omega), List.take_of_length_le (by have := HNE.out; omega)] at this
        rw [e]
        exact ⟨by simp, below_drewN (Below.refl _ _) _⟩
  · have k1 : ((xs.length : Int) != ys.length) = true := by simp; omega
    have H := Lib.hid (show (xs == ys) = false by rw [beq_eq_false_iff_ne]; rintro rfl; exact hne rfl)
    clear hne
    go_enter Tryd.func35, Tryd.ntmps35
    go_wp2
    go_ret
    rw [H.out]
    exact ⟨rfl, Below.refl _ _⟩


set_option maxHeartbeats 400000 in
theorem oSame (a b : Option Addr) (ca cb : Nat) (xs ys : List Nat) (w : World) (ha : Lst .u64 w a (ints xs)) (hb : Lst .u64 w b (ints ys)) (hn : xs.length ≤ 65536) (hm : ys.length ≤ 65536) :
    Calls Tryd.prog 18 #[.slice a xs.length ca, .slice b ys.length cb] w fun e w' => e = .returned (.bool (xs == ys)) ∧ Below w.heap.size w w' := by
  have HA := Lib.hid ha
  have HB := Lib.hid hb
  clear ha hb
  go_enter Tryd.func18, Tryd.ntmps18
  go_wp2_with fail
  refine (oEqual a b ca cb xs ys _ HA.out HB.out hn hm).mono ?_
  rintro e w1 ⟨rfl, hb1⟩
  obtain ⟨r, hr⟩ : ∃ r, r = (xs == ys) := ⟨_, rfl⟩
  rw [← hr]
  have HR := Lib.hid hr
  clear hr
  go_wp2
  go_ret
  rw [HR.out]
  exact ⟨rfl, hb1⟩

def ClonePost (ws : List Nat) (w : World) (e : Ending) (w' : World) : Prop :=
  ∃ g c, e = .returned (.slice (some ⟨g, 0, none⟩) ws.length c) ∧ w'.ownsRow w.heap.size 22 1 (.slice (some ⟨g, 0, none⟩) ws.length c) ws.length (vals ws) ∧ w.heap.size ≤ g ∧ Below w.heap.size w w'
set_option maxHeartbeats 1000000 in
theorem oClone (b off cap : Nat) (ws : List Nat) (w : World) (hl : Lst .u64 w (some ⟨b, off, none⟩) (ints ws)) (hn : ws.length ≤ 65536) (hpos : 0 < ws.length) :
    Calls Tryd.prog 34 #[.slice (some ⟨b, off, none⟩) ws.length cap] w (ClonePost ws w) := by
  have HN := Lib.hid (news_of hl)
  obtain ⟨i0, hi0, hz0, hz1, hz2⟩ := info_parts u64Info
  have I0 := Lib.hid hi0
  have Z0 := Lib.hid hz0
  have Z1 := Lib.hid hz1
  have Z2 := Lib.hid hz2
  clear hi0 hz0 hz1 hz2 hl
  have heq : ∀ w', Sem.run Tryd.prog (binOp BinOp.eql 23 (Value.slice (some ⟨b, off, none⟩) ws.length cap) (Value.slice none 0 0)) w' = .ok (.bool false) w' := fun _ => by kernel_rfl
  go_enter Tryd.func34, Tryd.ntmps34
  go_wp2_with (at_builtin; refine wpList_append_own _ rfl (.tmp 5) (.tmp 6) 23 rfl w.heap.size 22 i0 (.int .u64 0) 1 8 Tryd.underlying23 I0.out Z0.out Z1.out Z2.out rfl (by decide) (.slice (some ⟨w.heap.size, 0, none⟩) 0 0) 0 [] rfl (World.ownsRow_lit w #[] 0 (Nat.le_refl _) (Nat.zero_le _) rfl) ⟨b, off, none⟩ ws.length cap (vals ws) rfl (by simp [vals]) (fun j u hu => HN.out j u hu _) (vals_one ws) (by unfold maxLen; omega) (by omega) (by simp) ?_; intro v1 w1 hown1 hgrow1 _; obtain ⟨g, c1, hv, hown, hg⟩ := own_form hown1 hpos; rw [hv]; clear hv hown1; have hbel : Below w.heap.size w w1 := ((Below.refl _ _).alloc (Nat.le_refl _) _).grown hgrow1 (by simp) (by intro k hk; simp [Value.ownBlock] at hk; omega); clear hgrow1; have HO := Lib.hid hown; clear hown)
  go_ret
  exact ⟨g, c1, rfl, HO.out, hg, hbel⟩

theorem pow_wrap {k : Nat} (h : k < 64) : IntKind.u64.wrap ((2 : Int) ^ k) = ((2 ^ k : Nat) : Int) ∧ 2 ^ k < 18446744073709551616 := by
  have h1 : 2 ^ k < 2 ^ 64 := Nat.pow_lt_pow_right (by decide) h
  have h2 : (2 : Nat) ^ 64 = 18446744073709551616 := rfl
  have h3 : (2 : Int) ^ k = ((2 ^ k : Nat) : Int) := by simp
  rw [h3, IntKind.wrap_u64]
  generalize 2 ^ k = y at *
  omega
theorem turn_on {x k : Nat} (hx : x < 18446744073709551616) (h : k < 64) : bits BinOp.or IntKind.u64 (x : Int) (IntKind.u64.wrap ((2 : Int) ^ k)) = (Oc.putN x k true : Int) := by
  obtain ⟨h1, h2⟩ := pow_wrap h
  rw [h1, u64_or_nat x _ hx h2]
  congr 1
  apply Nat.eq_of_testBit_eq
  intro i
  rw [Oc.putN_bit, Nat.testBit_or, Nat.testBit_two_pow]
  by_cases hi : i = k
  · subst hi; simp
  · have : ¬ k = i := fun e => hi e.symm
    simp [hi, this]
theorem turn_off {x k : Nat} (hx : x < 18446744073709551616) (h : k < 64) : bits BinOp.andNot IntKind.u64 (x : Int) (IntKind.u64.wrap ((2 : Int) ^ k)) = (Oc.putN x k false : Int) := by
  obtain ⟨h1, h2⟩ := pow_wrap h
  rw [h1, u64_andNot_nat x _ hx h2]
  congr 1
  apply Nat.eq_of_testBit_eq
  intro i
  rw [Oc.putN_bit, Oc.andNot_bit h2 hx, Nat.testBit_two_pow]
  by_cases hi : i = k
  · subst hi; simp
  · have : ¬ k = i := fun e => hi e.symm
    simp [hi, this]
set_option maxHeartbeats 1000000 in
theorem oWith (a : Option Addr) (cap : Nat) (ws : List Nat) (n s : Int) (is : Bool) (w : World) (hl : Lst .u64 w a (ints ws)) (hw : Wide ws) (hn : ws.length ≤ 65536) :
    Calls Tryd.prog 14 #[.slice a ws.length cap, .int .i64 n, .int .i64 s, .bool is] w (WithPost ws n s is w) := by
  have HL := Lib.hid hl
  have HW := Lib.hid hw
  clear hl hw
  by_cases hc : Oc.hasE ws n s = 0
  · have HE := Lib.hid (show Oc.withW ws n s is = Oc.putW ws s.toNat is by unfold Oc.withW; rw [if_pos hc])
    obtain ⟨m, k, rfl, rfl, h1, h2, h3⟩ := hasE_ok hc
    rw [Int.toNat_natCast] at HE
    have h4 : k / 64 < ws.length := by omega
    have hpos : 0 < ws.length := by omega
    have HC := Lib.hid hc
    clear h3
    obtain ⟨b, off, rfl, _, _⟩ := HL.out.word h4
    obtain ⟨x, hx⟩ : ∃ x, ws.getD (k / 64) 0 = x := ⟨_, rfl⟩
    have hxl : x < 18446744073709551616 := by rw [← hx]; exact HW.out (k / 64)
    have HX := Lib.hid hx
    clear hx
    cases is
    · have KEY := Lib.hid (turn_off hxl (show k % 64 < 64 by omega))
      go_enter Tryd.func14, Tryd.ntmps14
      go_wp2_with fail
      refine (oSlot _ cap ws _ _ _ HL.out HW.out hn).mono ?_
      rintro e w1 ⟨rfl, hb1⟩
      rw [HC.out]
      go_wp2_with fail
      refine (oClone b off cap ws _ (HL.out.below hb1) hn hpos).mono ?_
      rintro e w2 ⟨g, c, rfl, hown, hg, hb2⟩
      have HO := Lib.hid hown
      clear hown
      have hcell : w2.cell? ⟨g, k / 64, none⟩ = some (.int .u64 (x : Int)) := by rw [HO.out.cellAt (k / 64) (by omega), vals_get ws _ h4, HX.out]
      have hfz : w2.frozen? ⟨g, k / 64, none⟩ = false := HO.out.frozenAt _
      go_wp2
      go_ret2
      refine ⟨_, by rw [HC.out]; rfl, ?_, (hb1.trans (hb2.mono hb1.size)).setCell (Nat.le_trans hb1.size hg) _⟩
      rw [HE.out, putW_length, KEY.out, Oc.putW, HX.out, ← vals_set]
      exact own_base (HO.out.stored (k / 64) _).1 hb1.size
    · have KEY := Lib.hid (turn_on hxl (show k % 64 < 64 by omega))
      go_enter Tryd.func14, Tryd.ntmps14
      go_wp2_with fail
      refine (oSlot _ cap ws _ _ _ HL.out HW.out hn).mono ?_
      rintro e w1 ⟨rfl, hb1⟩
      rw [HC.out]
      go_wp2_with fail
      refine (oClone b off cap ws _ (HL.out.below hb1) hn hpos).mono ?_
      rintro e w2 ⟨g, c, rfl, hown, hg, hb2⟩
      have HO := Lib.hid hown
      clear hown
      have hcell : w2.cell? ⟨g, k / 64, none⟩ = some (.int .u64 (x : Int)) := by rw [HO.out.cellAt (k / 64) (by omega), vals_get ws _ h4, HX.out]
      have hfz : w2.frozen? ⟨g, k / 64, none⟩ = false := HO.out.frozenAt _
      go_wp2
      go_ret2
      refine ⟨_, by rw [HC.out]; rfl, ?_, (hb1.trans (hb2.mono hb1.size)).setCell (Nat.le_trans hb1.size hg) _⟩
      rw [HE.out, putW_length, KEY.out, Oc.putW, HX.out, ← vals_set]
      exact own_base (HO.out.stored (k / 64) _).1 hb1.size
  · have k1 : (Oc.hasE ws n s != 0) = true := by simp [hc]
    have HE := Lib.hid (show Oc.withW ws n s is = [] by unfold Oc.withW; rw [if_neg hc])
    clear hc
    go_enter Tryd.func14, Tryd.ntmps14
    go_wp2_with fail
    refine (oSlot a cap ws _ _ _ HL.out HW.out hn).mono ?_
    rintro e w1 ⟨rfl, hb1⟩
    go_wp2
    go_ret2
    refine ⟨.slice none 0 0, rfl, ?_, hb1⟩
    rw [HE.out]
    exact World.ownsRow_nil _ _ _ _
end Go.Proofs.YtgbgeedcfccclaaDoor
