/- What package crc's Burst returns, with fits under it. -/
import Derived.Test.YthdondjhiflkaaaCrcB
import Derived.Test.YthdondjhiflkaaaCrcLen
import Derived.Laws.CopyOwn
import Derived.WalkMore
namespace Go.Proofs.Ythdondjhiflkaaa
open Go.RowKit
set_option linter.unusedVariables false

theorem fits_key (m a len : Nat) (h0 : m ≠ 0) : decide (((m.log2 + 1 : Nat) : Int) ≤ (len : Int) * 8 - (a : Int)) = decide (m * 2 ^ a < 256 ^ len) := by
  rw [decide_eq_decide, show (256 : Nat) = 2 ^ 8 from rfl, ← Nat.pow_mul]
  by_cases ha : a ≤ 8 * len
  · have e : 8 * len = (8 * len - a) + a := by omega
    have h1 := Nat.log2_lt (n := m) (k := 8 * len - a) h0
    rw [show (m * 2 ^ a < 2 ^ (8 * len)) ↔ m < 2 ^ (8 * len - a) from by
      conv => lhs; rw [e, Nat.pow_add]
      exact Nat.mul_lt_mul_right (Nat.two_pow_pos a)]
    rw [← h1]
    omega
  · constructor
    · intro h; omega
    · intro h
      have h1 : 2 ^ (8 * len) ≤ 2 ^ a := Nat.pow_le_pow_right (by decide) (by omega)
      have h2 : 1 * 2 ^ a ≤ m * 2 ^ a := Nat.mul_le_mul_right _ (by omega)
      omega
set_option maxHeartbeats 400000 in
theorem cFits (a : Option Addr) (cap : Nat) (bs : List Nat) (at_ m : Nat) (w : World) (hn : ¬ 1048576 < bs.length) (hm : m < 4294967296) (hat : at_ ≤ 9223372036854775807) :
    Calls Try.prog 21 #[.slice a bs.length cap, .int .i64 at_, .int .u32 (m : Int)] w fun e w' => e = .returned (.bool (Cr.fitsB bs at_ m)) ∧ w = w' := by
  by_cases h0 : m = 0
  · subst h0
    have H := Lib.hid (show Cr.fitsB bs at_ 0 = true by unfold Cr.fitsB; rw [Nat.zero_mul]; simp [Nat.pow_pos])
    go_enter Try.func21, Try.ntmps21
    go_wp2
    go_ret
    rw [H.out]
    exact ⟨rfl, rfl⟩
  · have H := Lib.hid (show Cr.fitsB bs at_ m = decide (((m.log2 + 1 : Nat) : Int) ≤ (bs.length : Int) * 8 - (at_ : Int)) by
      unfold Cr.fitsB; rw [fits_key m at_ bs.length h0, Int.toNat_natCast]; simp)
    have k1 : ((m : Int) == 0) = false := by simp; omega
    have hl : m.log2 < 32 := (Nat.log2_lt h0).2 hm
    have HC := Lib.hid (cLen m w hm h0)
    obtain ⟨l, hle⟩ : ∃ l, l = m.log2 + 1 := ⟨_, rfl⟩
    rw [← hle] at H HC
    have hl2 : l ≤ 32 := by omega
    have g1 : IntKind.i64.wrap ((bs.length : Int) * 8) = (bs.length : Int) * 8 := IntWalk.i64_in _ (by omega)
    have g2 : IntKind.i64.wrap ((bs.length : Int) * 8 - at_) = (bs.length : Int) * 8 - at_ := IntWalk.i64_in _ (by omega)
    clear h0 hl hle
    go_enter Try.func21, Try.ntmps21
    go_wp2_with fail
    refine HC.out.mono ?_
    rintro e w1 ⟨rfl, rfl⟩
    go_wp2
    go_ret
    rw [H.out]
    exact ⟨rfl, rfl⟩

/-- 'copy(v, w)' onto a row that is owned, of the same length: the row reads as w does. -/
theorem copied {P : Program} {T E : TypeId} {z : Value} {bytes : Nat} (hE : Elem P T E z 1 bytes) {W : World} (t base g n : Nat) (ys : List Value) (hown : W.ownsRow base E 1 (.slice (some ⟨g, 0, none⟩) n n) n ys) (a : Option Addr) (cap : Nat) (xs : List Value)
    (hl : Cells W a xs) (hlen : xs.length = n) (h1 : ∀ u ∈ xs, u.oneCell' = true) :
    ∃ w', Sem.run P (Builtin.copy_ #[T, T] t #[.slice (some ⟨g, 0, none⟩) n n, .slice a n cap]) W = .ok (.int .i64 n) w' ∧ w'.ownsRow base E 1 (.slice (some ⟨g, 0, none⟩) n n) n xs ∧ Below base W w' := by
  obtain ⟨i0, hi0, hz0, hz1, hz2⟩ := hE.info
  rcases hown.2 with ⟨hv, _⟩ | ⟨g', c', cur, hv, hb, hg, h2, h3, h4, h5⟩
  · cases hv
  · injection hv with e1 e2 e3
    injection e1 with e1
    injection e1 with e1
    subst e1 e3
    rw [Nat.mul_one] at h4
    have hsz : (P.info? E).map (·.size) = some 1 := by rw [hi0]; simp [hz1]
    by_cases h0 : n = 0
    · subst h0
      obtain rfl : xs = [] := List.eq_nil_of_length_eq_zero hlen
      refine ⟨W, run_copy_none (P := P) W T T t E _ a 0 0 0 cap hE.und hsz rfl, ?_, Below.refl _ _⟩
      refine ⟨rfl, Or.inr ⟨g, 0, cur, rfl, hb, hg, Nat.le_refl _, h3, by rw [Nat.mul_one]; exact h4, ?_⟩⟩
      simp
    · rcases hl with hx | ⟨b, off, rfl, hb2, hc⟩
      · subst hx; simp at hlen; omega
      · have hrun := run_copy_row (P := P) W T T t E g 0 n n ⟨b, off, none⟩ n cap cur E xs hE.und hsz hg (by rw [hlen]; exact (Nat.min_self n).symm) (fun j v hj => by
          have hjl : j < xs.length := (List.getElem?_eq_some_iff.1 hj).1
          rw [add_at, hc j hjl, hj]) (by omega) h1
        obtain ⟨cs, hcs⟩ : ∃ cs, cs = (cur.toList.take 0 ++ xs ++ cur.toList.drop (0 + xs.length)).toArray := ⟨_, rfl⟩
        rw [← hcs] at hrun
        refine ⟨W.setRow g cs, hrun.trans (by rw [hlen]; rfl), ?_, below_setRow (Below.refl _ _) hb _⟩
        refine ⟨by rw [hlen, Nat.mul_one], Or.inr ⟨g, n, cs, rfl, hb, setRow_heap W g _ _ E _ hg, Nat.le_refl _, h3, ?_, ?_⟩⟩
        · simp [hcs, hlen, h4]
        · simp [hcs, hlen]

def CBurstJ (bs : List Nat) (m at_ g : Nat) (w : World) (k : Value) (wr : World) : Prop :=
  ∃ j : Nat, j ≤ 32 ∧ k = .int .i64 j ∧ wr.ownsRow w.heap.size 5 1 (.slice (some ⟨g, 0, none⟩) bs.length bs.length) bs.length (valsB (Cr.xorAt bs (m % 2 ^ j * 2 ^ at_))) ∧ Below w.heap.size w wr
theorem mask_int (m j : Nat) : ((m / 2 ^ j : Nat) : Int) = (m : Int) / 2 ^ j := by rw [Int.natCast_ediv, Int.natCast_pow]; rfl
theorem mask_bit (m j : Nat) (hm : m < 4294967296) : bits .and .u32 ((m : Int) / 2 ^ j) 1 = ((m / 2 ^ j % 2 : Nat) : Int) := by
  rw [← mask_int]
  have := u32_and_nat (m / 2 ^ j) 1 (Nat.lt_of_le_of_lt (Nat.div_le_self _ _) hm) (by decide)
  rw [show ((1 : Nat) : Int) = 1 from rfl] at this
  rw [this, Nat.and_one_is_mod]
set_option maxHeartbeats 2000000 in
theorem cBurst_ok (a : Option Addr) (cap : Nat) (bs : List Nat) (at_ m : Nat) (w : World) (hl : Lst .u8 w a (ints bs)) (hw : Bytes bs) (hn : ¬ 1048576 < bs.length) (hm : m < 4294967296) (hat : at_ ≤ 9223372036854775807) (hf : Cr.fitsB bs at_ m = true) :
    Calls Try.prog 11 #[.slice a bs.length cap, .int .i64 at_, .int .u32 (m : Int)] w (RowPost2 (Cr.burstV bs at_ m) (Cr.burstE bs at_ m) w) := by
  have HL := Lib.hid hl
  have HW := Lib.hid hw
  have HF := Lib.hid (cFits a cap bs at_ m w hn hm hat)
  have HB := Lib.hid (burst_ok hn hf)
  have HFit := Lib.hid (show m * 2 ^ at_ < 256 ^ bs.length by
    have := hf; unfold Cr.fitsB at this; rw [Int.toNat_natCast] at this; simpa using this)
  have HFB := Lib.hid hf
  clear hl hw hf
  go_enter Try.func11, Try.ntmps11
  go_wp2_with fail
  go_step3
  go_wp2_with fail
  refine HF.out.mono ?_
  rintro e w1 ⟨rfl, rfl⟩
  rw [HFB.out]
  go_wp2_with (at_make; refine wpList_zeros elemB rfl rfl _ _ rfl _ _ _ _ bs.length rfl rfl rfl rfl (by omega) (by unfold maxLen; omega) ?_; intro w2 hown2 hb2; obtain ⟨w3, hrun, hown3, hb3⟩ := copied elemB 3 w.heap.size w.heap.size bs.length _ hown2 a cap (valsB bs) (Cells.of_lst (HL.out.below hb2)) (valsB_length bs) (valsB_one bs); have HO3 := Lib.hid hown3; clear hown2 hown3)
  clear hrun
  go_step3
  go_wp2
  go_loopw [29] (CBurstJ bs m at_ w.heap.size w) (fun k _ => 32 - (intOf k).toNat)
  case atStart => exact ⟨0, by omega, rfl, by rw [Nat.pow_zero, Nat.mod_one, Nat.zero_mul, Cr.xorAt_zero]; exact HO3.out, hb2.trans hb3⟩
  case round =>
    obtain ⟨j, hj, rfl, hown, hbr⟩ := hrel
    have HOr := Lib.hid hown
    clear hown
    by_cases hz : m < 2 ^ j
    · have HM := Lib.hid (Nat.mod_eq_of_lt hz)
      have k1 : ((m : Int) / 2 ^ j == 0) = true := by rw [← mask_int, Nat.div_eq_of_lt hz]; rfl
      clear hz
      by_cases hj32 : j < 32
      all_goals
        go_wp2
        try rw [Exit.noGoto_ret]
        go_ret2
        refine ⟨_, by rw [HB.out.1]; rfl, ?_, hbr⟩
        have := HOr.out
        rw [HM.out] at this
        rw [HB.out.2, Int.toNat_natCast, Cr.xorAt_length]
        exact this
    · have hj32 : j < 32 := by
        apply Nat.lt_of_not_le; intro hge
        exact hz (Nat.lt_of_lt_of_le hm (show 2 ^ 32 ≤ 2 ^ j from Nat.pow_le_pow_right (by decide) hge))
      have k1 : ((m : Int) / 2 ^ j == 0) = false := by
        rw [← mask_int, beq_eq_false_iff_ne]
        have : 0 < m / 2 ^ j := Nat.div_pos (by omega) (Nat.two_pow_pos j)
        omega
      clear hz
      by_cases hbit : m / 2 ^ j % 2 = 1
      · have k2 : bits .and .u32 ((m : Int) / 2 ^ j) 1 = 1 := by rw [mask_bit m j hm, hbit]; rfl
        have hfit : at_ + j < 8 * bs.length := Nat.lt_of_not_le fun hge => Cr.no_fit hbit hge HFit.out
        have hx8 : Cr.Small (Cr.xorAt bs (m % 2 ^ j * 2 ^ at_)) := Cr.xorAt_small _ _ HW.out.small
        have HN := Lib.hid (Cr.xorAt_next (t := bs) (m := m) (a := at_) hbit hfit)
        clear hbit
        obtain ⟨X, hX⟩ : ∃ X, X = Cr.xorAt bs (m % 2 ^ j * 2 ^ at_) := ⟨_, rfl⟩
        rw [← hX] at HOr HN hx8
        have hXl : X.length = bs.length := by rw [hX, Cr.xorAt_length]
        clear hX
        obtain ⟨p, hp⟩ : ∃ p, p = (at_ + j) / 8 := ⟨_, rfl⟩
        obtain ⟨q, hq⟩ : ∃ q, q = (at_ + j) % 8 := ⟨_, rfl⟩
        have hq8 : q < 8 := by omega
        have hpl : p < bs.length := by omega
        rw [← hp, ← hq] at HN
        have hcell : wr.cell? ⟨w.heap.size, p, none⟩ = some (.int .u8 ((X.getD p 0 : Nat) : Int)) := by
          have := HOr.out.cellAt p (by omega)
          rw [this]
          simp [valsB, ints, List.getD, List.getElem?_eq_getElem (show p < X.length by omega)]
        have hfz : wr.frozen? ⟨w.heap.size, p, none⟩ = false := HOr.out.frozenAt _
        have hy8 : X.getD p 0 < 256 := hx8 _ (by rw [List.getD_eq_getElem?_getD, List.getElem?_eq_getElem (show p < X.length by omega)]; exact List.getElem_mem _)
        have k4 : ((at_ : Int) + (j : Int)) % 8 = (q : Int) := by omega
        have k5 : ((at_ : Int) + (j : Int)) / 8 = (p : Int) := by omega
        have k6 : (p : Int) < (bs.length : Int) := by omega
        have k7 : (0 : Int) ≤ (p : Int) := by omega
        obtain ⟨y, hye⟩ : ∃ y, y = X.getD p 0 := ⟨_, rfl⟩
        rw [← hye] at hcell hy8 HN
        have HXl := Lib.hid hXl
        have HPp := Lib.hid hp
        have HQq := Lib.hid hq
        have HYe := Lib.hid hye
        have g1 : IntKind.i64.wrap ((at_ : Int) + j) = (at_ : Int) + j := IntWalk.i64_in _ (by omega)
        have g3 : IntKind.i64.wrap (((at_ : Int) + j).tdiv 8) = (p : Int) := by rw [Int.tdiv_eq_ediv_of_nonneg (by omega), k5]; exact IntWalk.i64_in _ (by omega)
        have g4 : ((at_ : Int) + j).tmod 8 = (q : Int) := by rw [Int.tmod_eq_emod_of_nonneg (by omega), k4]
        have g5 : ¬ (q : Int) < 0 := by omega
        have g6 : (0 : Int) ≤ (q : Int) := by omega
        clear hXl hp hq hye hx8
        go_wp2
        go_still_tail 10, (by kernel_rfl)
        go_wp2
        have K1 : ((2 : Int) ^ q % 256) = ((2 ^ q : Nat) : Int) := by
          have h2 : 2 ^ q < 2 ^ 8 := Nat.pow_lt_pow_right (by decide) hq8
          rw [show (2 : Int) ^ q = ((2 ^ q : Nat) : Int) from by rw [Int.natCast_pow]; rfl]
          generalize 2 ^ q = z at h2 ⊢
          omega
        have KX := u8_xor_nat y (2 ^ q) hy8 (by have h2 : 2 ^ q < 2 ^ 8 := Nat.pow_lt_pow_right (by decide) hq8; exact h2)
        refine ⟨⟨j + 1, by omega, by go_num, ?_, ?_⟩, by clear g1 g3 g4 K1 KX k4 k5; show 32 - ((j : Int) + 1).toNat < 32 - (j : Int).toNat; omega⟩
        · have h1 := (HOr.out.stored p (.int .u8 ((y ^^^ 2 ^ q : Nat) : Int))).1
          rw [valsB_set, HN.out] at h1
          rw [K1, KX]
          exact h1
        · exact below_drewN (hbr.setCell (Nat.le_refl _) _) 1
      · have k2 : bits .and .u32 ((m : Int) / 2 ^ j) 1 = 0 := by rw [mask_bit m j hm, show m / 2 ^ j % 2 = 0 from by omega]; rfl
        have HOff := Lib.hid (Cr.mask_off (show m / 2 ^ j % 2 = 0 by omega))
        clear hbit
        go_wp2
        go_roundw
        case rel => exact ⟨j + 1, by omega, by go_num, by rw [HOff.out]; exact HOr.out, hbr⟩
        case measure => simp [intOf]; omega
theorem cBurst (a : Option Addr) (cap : Nat) (bs : List Nat) (at_ : Int) (m : Nat) (w : World) (hl : Lst .u8 w a (ints bs)) (hw : Bytes bs) (hn : bs.length ≤ 2147483647) (hm : m < 4294967296) (hat : at_ ≤ 9223372036854775807) (hnil : a = none → bs.length = 0 ∧ cap = 0) :
    Calls Try.prog 11 #[.slice a bs.length cap, .int .i64 at_, .int .u32 (m : Int)] w (RowPost2 (Cr.burstV bs at_ m) (Cr.burstE bs at_ m) w) := by
  have nilV : Cr.burstE bs at_ m ≠ 0 → Cr.burstV bs at_ m = [] := fun h => by unfold Cr.burstV; rw [if_neg h]
  by_cases h : 1048576 < bs.length
  · have E := Lib.hid (show Cr.burstE bs at_ m = 4 by unfold Cr.burstE; rw [if_pos h])
    have V := Lib.hid (nilV (by rw [E.out]; decide))
    clear hl hw hnil nilV
    go_enter Try.func11, Try.ntmps11
    go_wp2_with fail
    go_step3
    go_wp2_with fail
    go_ret2
    refine ⟨.slice none 0 0, by rw [E.out]; rfl, ?_, Below.refl _ _⟩
    rw [V.out]
    exact World.ownsRow_nil _ _ _ _
  · by_cases h0 : at_ < 0
    · have E := Lib.hid (show Cr.burstE bs at_ m = 2 by unfold Cr.burstE Cr.fitsB; rw [if_neg h, show decide (0 ≤ at_) = false from by simp; omega]; rfl)
      have V := Lib.hid (nilV (by rw [E.out]; decide))
      clear hl hw hnil nilV
      go_enter Try.func11, Try.ntmps11
      go_wp2_with fail
      go_step3
      go_wp2_with fail
      go_ret2
      refine ⟨.slice none 0 0, by rw [E.out]; rfl, ?_, Below.refl _ _⟩
      rw [V.out]
      exact World.ownsRow_nil _ _ _ _
    · obtain ⟨k, rfl⟩ : ∃ k : Nat, at_ = k := ⟨at_.toNat, by omega⟩
      cases hf : Cr.fitsB bs k m
      · have E := Lib.hid (show Cr.burstE bs k m = 2 by unfold Cr.burstE; rw [if_neg h, hf]; simp)
        have V := Lib.hid (nilV (by rw [E.out]; decide))
        have HF := Lib.hid (cFits a cap bs k m w h hm (by omega))
        have HFB := Lib.hid hf
        clear hl hw hnil nilV hf
        go_enter Try.func11, Try.ntmps11
        go_wp2_with fail
        go_step3
        go_wp2_with fail
        refine HF.out.mono ?_
        rintro e w1 ⟨rfl, rfl⟩
        rw [HFB.out]
        go_wp2_with fail
        go_ret2
        refine ⟨.slice none 0 0, by rw [E.out]; rfl, ?_, Below.refl _ _⟩
        rw [V.out]
        exact World.ownsRow_nil _ _ _ _
      · exact cBurst_ok a cap bs k m w hl hw h hm (by omega) hf
end Go.Proofs.Ythdondjhiflkaaa
