/- What the document's own answers of layer 3 (package shelfmarkref03) return: Burst; and, as plain functions, what Open and Burst answer. -/
import Derived.Test.YthdondjhiflkaaaRefB03
import Derived.StillTailTactics
import Derived.WalkSmall
namespace Go.Proofs.Ythdondjhiflkaaa
open Go.RowKit
set_option linter.unusedVariables false

def Cr.openE (t : List Nat) : Int := if 1048576 < t.length then 4 else if Cr.isSealed t then 0 else 8
def Cr.openV (t : List Nat) : List Nat := if Cr.openE t = 0 then t.take (t.length - 4) else []
def Cr.fitsB (t : List Nat) (at_ : Int) (m : Nat) : Bool := decide (0 ≤ at_) && decide (m * 2 ^ at_.toNat < 256 ^ t.length)
def Cr.burstE (t : List Nat) (at_ : Int) (m : Nat) : Int := if 1048576 < t.length then 4 else if Cr.fitsB t at_ m then 0 else 2
def Cr.burstV (t : List Nat) (at_ : Int) (m : Nat) : List Nat := if Cr.burstE t at_ m = 0 then Cr.xorAt t (m * 2 ^ at_.toNat) else []

def BurstJ (bs : List Nat) (m at_ g c : Nat) (w : World) (mask k : Value) (wr : World) : Prop :=
  ∃ j : Nat, j ≤ 32 ∧ m % 2 ^ j * 2 ^ at_ < 256 ^ bs.length ∧ k = .int .i64 j ∧ mask = .int .u32 ((m / 2 ^ j : Nat) : Int) ∧ wr.ownsRow w.heap.size 5 1 (.slice (some ⟨g, 0, none⟩) bs.length c) bs.length (valsB (Cr.xorAt bs (m % 2 ^ j * 2 ^ at_))) ∧ Below w.heap.size w wr
def OneJ (e : Nat) (wr : World) (one i : Value) (w2 : World) : Prop := w2 = wr ∧ ∃ q : Nat, q ≤ e ∧ i = .int .i64 q ∧ one = .int .u8 ((2 ^ q : Nat) : Int)
theorem burst_many {bs : List Nat} {a : Int} {m : Nat} (h : 1048576 < bs.length) : Cr.burstE bs a m = 4 ∧ Cr.burstV bs a m = [] := by
  have hE : Cr.burstE bs a m = 4 := by unfold Cr.burstE; rw [if_pos h]
  exact ⟨hE, by unfold Cr.burstV; rw [hE]; rfl⟩
theorem burst_arg {bs : List Nat} {a : Int} {m : Nat} (h : ¬ 1048576 < bs.length) (hf : Cr.fitsB bs a m = false) : Cr.burstE bs a m = 2 ∧ Cr.burstV bs a m = [] := by
  have hE : Cr.burstE bs a m = 2 := by unfold Cr.burstE; rw [if_neg h, hf]; rfl
  exact ⟨hE, by unfold Cr.burstV; rw [hE]; rfl⟩
theorem burst_ok {bs : List Nat} {a : Int} {m : Nat} (h : ¬ 1048576 < bs.length) (hf : Cr.fitsB bs a m = true) : Cr.burstE bs a m = 0 ∧ Cr.burstV bs a m = Cr.xorAt bs (m * 2 ^ a.toNat) := by
  have hE : Cr.burstE bs a m = 0 := by unfold Cr.burstE; rw [if_neg h, hf]; rfl
  exact ⟨hE, by unfold Cr.burstV; rw [if_pos hE]⟩
set_option maxHeartbeats 1000000 in
theorem r3Burst_bits (g0 off cap : Nat) (bs : List Nat) (at_ m : Nat) (w : World) (hl : Lst .u8 w (some ⟨g0, off, none⟩) (ints bs)) (hw : Bytes bs) (hn : ¬ 1048576 < bs.length) (hpos : 0 < bs.length) (hm : m < 4294967296) (hat : at_ ≤ 9223372036854775807) :
    Calls Try.prog 19 #[.slice (some ⟨g0, off, none⟩) bs.length cap, .int .i64 at_, .int .u32 (m : Int)] w (RowPost2 (Cr.burstV bs at_ m) (Cr.burstE bs at_ m) w) := by
  have HL := Lib.hid hl
  have HW := Lib.hid hw
  clear hl hw
  go_enter Try.func19, Try.ntmps19
  go_wp2_with (at_builtin; refine wpList_copy elemB rfl _ _ rfl w rfl (some ⟨g0, off, none⟩) bs.length cap (valsB bs) rfl rfl (Cells.of_lst HL.out) (by rw [valsB_length, Nat.mul_one]) (valsB_one bs) (fun h => by cases h) (by unfold maxLen; omega) (by omega) ?_; intro A c w1 hown1 _ hb1)
  obtain ⟨g, c1, hvv, hgw⟩ : ∃ g c1, Value.slice A bs.length c = .slice (some ⟨g, 0, none⟩) bs.length c1 ∧ w.heap.size ≤ g := by
    rcases hown1.2 with ⟨_, h0⟩ | ⟨g, c1, cur, hv, hb, _⟩
    · omega
    · exact ⟨g, c1, hv, hb⟩
  rw [hvv] at hown1 ⊢
  have HO := Lib.hid hown1
  clear hown1 hvv
  go_loopw [2, 9] (BurstJ bs m at_ g c1 w) (fun _ k _ => 32 - (intOf k).toNat)
  case atStart => exact ⟨0, by omega, by rw [Nat.pow_zero, Nat.mod_one, Nat.zero_mul]; exact Nat.pow_pos (by decide), rfl, by simp, by rw [Nat.pow_zero, Nat.mod_one, Nat.zero_mul, Cr.xorAt_zero]; exact HO.out, hb1⟩
  case round =>
    obtain ⟨j, hj, hfit, rfl, rfl, hown, hbr⟩ := hrel
    have HF := Lib.hid hfit
    clear hfit
    have HOr := Lib.hid hown
    clear hown
    by_cases hz : m / 2 ^ j = 0
    · have hlt : m < 2 ^ j := (Nat.div_eq_zero_iff.1 hz).resolve_left (Nat.ne_of_gt (Nat.two_pow_pos j))
      have HM := Lib.hid (Nat.mod_eq_of_lt hlt)
      have hf : Cr.fitsB bs (at_ : Int) m = true := by
        unfold Cr.fitsB
        have := HF.out; rw [HM.out] at this
        simp [this]
      have HB := Lib.hid (burst_ok hn hf)
      have HZ := Lib.hid hz
      clear hlt hf
      have hz2 : ((m / 2 ^ j : Nat) : Int) = 0 := by omega
      rw [hz2]
      clear hz hz2
      go_wp2
      go_ret2
      refine ⟨_, by rw [HB.out.1]; rfl, ?_, hbr⟩
      · have := HOr.out
        rw [HM.out] at this
        rw [HB.out.2, Int.toNat_natCast]
        rw [Cr.xorAt_length]
        exact this
    · have hj32 : j < 32 := by
        apply Nat.lt_of_not_le; intro hge
        apply hz
        exact Nat.div_eq_of_lt (Nat.lt_of_lt_of_le hm (show 2 ^ 32 ≤ 2 ^ j from Nat.pow_le_pow_right (by decide) hge))
      have hml : m / 2 ^ j < 4294967296 := Nat.lt_of_le_of_lt (Nat.div_le_self _ _) hm
      have HH := Lib.hid (show m / 2 ^ (j + 1) = m / 2 ^ j / 2 by rw [Nat.div_div_eq_div_mul, Nat.pow_succ])
      by_cases hbit : m / 2 ^ j % 2 = 1
      · have HBit := Lib.hid hbit
        obtain ⟨y, hy⟩ : ∃ y, y = m / 2 ^ j := ⟨_, rfl⟩
        rw [← hy] at hz hml hbit ⊢
        have HY := Lib.hid hy
        have k1 : ((y : Int) % 2 == 1) = true := by rw [beq_iff_eq]; omega
        have k2 : 0 < (y : Int) := by omega
        clear hy hbit hz
        by_cases hge : 8 * bs.length ≤ at_ + j
        · have HB := Lib.hid (burst_arg (bs := bs) (a := (at_ : Int)) (m := m) hn (by unfold Cr.fitsB; simp [Cr.no_fit HBit.out hge]))
          have k3 : 8 * (bs.length : Int) - (j : Int) ≤ (at_ : Int) := by omega
          go_wp2
          go_ret2
          refine ⟨.slice none 0 0, by rw [HB.out.1]; rfl, ?_, hbr⟩
          rw [HB.out.2]
          exact World.ownsRow_nil _ _ _ _
        · have k3 : decide (8 * (bs.length : Int) - (j : Int) ≤ (at_ : Int)) = false := by simp; omega
          obtain ⟨e, he⟩ : ∃ e, e = (at_ + j) % 8 := ⟨_, rfl⟩
          have he8 : e < 8 := by omega
          have HE := Lib.hid he
          go_wp2
          go_loopw [10, 11] (OneJ e wr) (fun _ i _ => e - (intOf i).toNat)
          case atStart => exact ⟨rfl, 0, by omega, rfl, rfl⟩
          case round =>
            obtain ⟨rfl, q, hq, rfl, rfl⟩ := hrel
            by_cases hqe : q < e
            · have hpw : 2 ^ q < 128 := by
                have : 2 ^ q ≤ 2 ^ 6 := Nat.pow_le_pow_right (by decide) (by omega)
                omega
              have HP := Lib.hid (Nat.pow_succ 2 q)
              obtain ⟨z, hz⟩ : ∃ z, z = 2 ^ q := ⟨_, rfl⟩
              rw [← hz] at hpw ⊢
              have HZ := Lib.hid hz
              clear hz
              have k4 : (q : Int) < ((at_ : Int) + (j : Int)) % 8 := by omega
              go_wp2
              go_roundw
              case rel => exact ⟨rfl, q + 1, by omega, by go_num, by rw [HP.out, ← HZ.out]; congr 1; omega⟩
              case measure => simp [intOf]; omega
            · obtain rfl : q = e := by omega
              have hx8 : Cr.Small (Cr.xorAt bs (m % 2 ^ j * 2 ^ at_)) := Cr.xorAt_small _ _ HW.out.small
              have hpl : (at_ + j) / 8 < bs.length := by omega
              have HN := Lib.hid (Cr.xorAt_next (t := bs) (m := m) (a := at_) HBit.out (show at_ + j < 8 * bs.length by omega))
              have HFN := Lib.hid (Cr.fit_next (m := m) (len := bs.length) HBit.out (show at_ + j < 8 * bs.length by omega))
              obtain ⟨X, hX⟩ : ∃ X, X = Cr.xorAt bs (m % 2 ^ j * 2 ^ at_) := ⟨_, rfl⟩
              rw [← hX] at HOr HN hx8
              have hXl : X.length = bs.length := by rw [hX, Cr.xorAt_length]
              clear hX
              obtain ⟨p, hp⟩ : ∃ p, p = (at_ + j) / 8 := ⟨_, rfl⟩
              rw [← hp] at hpl HN
              have hcell : wr.cell? ⟨g, p, none⟩ = some (.int .u8 ((X.getD p 0 : Nat) : Int)) := by
                have := HOr.out.cellAt p (by omega)
                rw [this]
                simp [valsB, ints, List.getD, List.getElem?_eq_getElem (show p < X.length by omega)]
              have hfz : wr.frozen? ⟨g, p, none⟩ = false := HOr.out.frozenAt _
              have k4 : decide ((q : Int) < ((at_ : Int) + (j : Int)) % 8) = false := by simp; omega
              have k5 : ((at_ : Int) + (j : Int)) / 8 = (p : Int) := by omega
              have k6 : (p : Int) < (bs.length : Int) := by omega
              have k7 : (0 : Int) ≤ (p : Int) := by omega
              have HXl := Lib.hid hXl
              have HPp := Lib.hid hp
              clear hXl hp he
              go_wp2
              have KX := u8_xor_nat (X.getD p 0) (2 ^ q) (hx8 _ (by rw [List.getD_eq_getElem?_getD, List.getElem?_eq_getElem (show p < X.length by rw [HXl.out]; exact hpl)]; exact List.getElem_mem _)) (by
                have : 2 ^ q ≤ 2 ^ 7 := Nat.pow_le_pow_right (by decide) (by omega)
                omega)
              rw [List.getD_eq_getElem?_getD, Int.natCast_pow] at KX
              refine ⟨⟨j + 1, by omega, HFN.out, by go_num, by rw [HH.out, ← HY.out]; congr 1, ?_, hbr.setCell (by omega) _⟩, by simp [intOf]; omega⟩
              have h2 := (HOr.out.stored p (.int .u8 ((X.getD p 0 ^^^ 2 ^ q : Nat) : Int))).1
              rw [valsB_set, HE.out, HN.out] at h2
              rw [show (2 : Int) = ((2 : Nat) : Int) from rfl, KX, ← List.getD_eq_getElem?_getD, HE.out]
              exact h2
      · have HOff := Lib.hid (Cr.mask_off (show m / 2 ^ j % 2 = 0 by omega))
        obtain ⟨y, hy⟩ : ∃ y, y = m / 2 ^ j := ⟨_, rfl⟩
        rw [← hy] at hz hml hbit ⊢
        have HY := Lib.hid hy
        have k1 : ((y : Int) % 2 == 1) = false := by simp; omega
        have k2 : 0 < (y : Int) := by omega
        clear hy hbit hz
        go_wp2
        go_roundw
        case rel => exact ⟨j + 1, by omega, by rw [HOff.out]; exact HF.out, by go_num, by rw [HH.out, ← HY.out]; congr 1, by rw [HOff.out]; exact HOr.out, hbr⟩
        case measure => simp [intOf]; omega

def Burst0J (m : Nat) (wr : World) (mask k : Value) (w2 : World) : Prop :=
  w2 = wr ∧ ∃ j : Nat, j ≤ 32 ∧ m % 2 ^ j = 0 ∧ k = .int .i64 j ∧ mask = .int .u32 ((m / 2 ^ j : Nat) : Int)
set_option maxHeartbeats 1000000 in
theorem r3Burst_none (a : Option Addr) (cap : Nat) (bs : List Nat) (at_ m : Nat) (w : World) (hl : Lst .u8 w a (ints bs)) (hz : bs.length = 0) (hnil : a = none → bs.length = 0 ∧ cap = 0) (hm : m < 4294967296) (hat : at_ ≤ 9223372036854775807) :
    Calls Try.prog 19 #[.slice a bs.length cap, .int .i64 at_, .int .u32 (m : Int)] w (RowPost2 (Cr.burstV bs at_ m) (Cr.burstE bs at_ m) w) := by
  have HL := Lib.hid hl
  have HNil := Lib.hid hnil
  have HZ0 := Lib.hid hz
  have hn : ¬ 1048576 < bs.length := by omega
  clear hl hnil hz
  go_enter Try.func19, Try.ntmps19
  go_wp2_with (at_builtin; refine wpList_copy elemB rfl _ _ rfl w rfl a bs.length cap (valsB bs) rfl rfl (Cells.of_lst HL.out) (by rw [valsB_length, Nat.mul_one]) (valsB_one bs) HNil.out (by unfold maxLen; omega) (by omega) ?_; intro A c w1 hown1 _ hb1)
  have HO := Lib.hid hown1
  clear hown1
  go_loopw [2, 9] (Burst0J m w1) (fun _ k _ => 32 - (intOf k).toNat)
  case atStart => exact ⟨rfl, 0, by omega, by rw [Nat.pow_zero, Nat.mod_one], rfl, by simp⟩
  case round =>
    obtain ⟨rfl, j, hj, hm0, rfl, rfl⟩ := hrel
    have HM0 := Lib.hid hm0
    clear hm0
    by_cases hz : m / 2 ^ j = 0
    · have hlt : m < 2 ^ j := (Nat.div_eq_zero_iff.1 hz).resolve_left (Nat.ne_of_gt (Nat.two_pow_pos j))
      have HM := Lib.hid (show m = 0 by rw [← Nat.mod_eq_of_lt hlt]; exact HM0.out)
      have hf : Cr.fitsB bs (at_ : Int) m = true := by
        unfold Cr.fitsB
        rw [HM.out, HZ0.out]; simp
      have HB := Lib.hid (burst_ok hn hf)
      clear hlt hf
      have hz2 : ((m / 2 ^ j : Nat) : Int) = 0 := by omega
      rw [hz2]
      clear hz hz2
      go_wp2
      go_ret2
      refine ⟨_, by rw [HB.out.1]; rfl, ?_, hb1⟩
      rw [HB.out.2, HM.out, Nat.zero_mul, Cr.xorAt_zero]
      exact HO.out
    · have hj32 : j < 32 := by
        apply Nat.lt_of_not_le; intro hge
        apply hz
        exact Nat.div_eq_of_lt (Nat.lt_of_lt_of_le hm (show 2 ^ 32 ≤ 2 ^ j from Nat.pow_le_pow_right (by decide) hge))
      have hml : m / 2 ^ j < 4294967296 := Nat.lt_of_le_of_lt (Nat.div_le_self _ _) hm
      have HH := Lib.hid (show m / 2 ^ (j + 1) = m / 2 ^ j / 2 by rw [Nat.div_div_eq_div_mul, Nat.pow_succ])
      by_cases hbit : m / 2 ^ j % 2 = 1
      · have HB := Lib.hid (burst_arg (bs := bs) (a := (at_ : Int)) (m := m) hn (by unfold Cr.fitsB; simp [Cr.no_fit hbit (show 8 * bs.length ≤ at_ + j by rw [HZ0.out]; omega)]))
        obtain ⟨y, hy⟩ : ∃ y, y = m / 2 ^ j := ⟨_, rfl⟩
        rw [← hy] at hz hml hbit ⊢
        have k1 : ((y : Int) % 2 == 1) = true := by rw [beq_iff_eq]; omega
        have k2 : 0 < (y : Int) := by omega
        clear hy hbit hz
        have k3 : 8 * (bs.length : Int) - (j : Int) ≤ (at_ : Int) := by rw [HZ0.out]; omega
        go_wp2
        go_ret2
        refine ⟨.slice none 0 0, by rw [HB.out.1]; rfl, ?_, hb1⟩
        rw [HB.out.2]
        exact World.ownsRow_nil _ _ _ _
      · have HOff := Lib.hid (Cr.mask_off (show m / 2 ^ j % 2 = 0 by omega))
        obtain ⟨y, hy⟩ : ∃ y, y = m / 2 ^ j := ⟨_, rfl⟩
        rw [← hy] at hz hml hbit ⊢
        have HY := Lib.hid hy
        have k1 : ((y : Int) % 2 == 1) = false := by simp; omega
        have k2 : 0 < (y : Int) := by omega
        clear hy hbit hz
        go_wp2
        go_roundw
        case rel => exact ⟨rfl, j + 1, by omega, by rw [HOff.out]; exact HM0.out, by go_num, by rw [HH.out, ← HY.out]; congr 1⟩
        case measure => simp [intOf]; omega
theorem r3Burst (a : Option Addr) (cap : Nat) (bs : List Nat) (at_ : Int) (m : Nat) (w : World) (hl : Lst .u8 w a (ints bs)) (hw : Bytes bs) (hn : bs.length ≤ 2147483647) (hnil : a = none → bs.length = 0 ∧ cap = 0) (hm : m < 4294967296) (hlo : -9223372036854775808 ≤ at_) (hhi : at_ ≤ 9223372036854775807) :
    Calls Try.prog 19 #[.slice a bs.length cap, .int .i64 at_, .int .u32 (m : Int)] w (RowPost2 (Cr.burstV bs at_ m) (Cr.burstE bs at_ m) w) := by
  by_cases h : 1048576 < bs.length
  · have HB := Lib.hid (burst_many (a := at_) (m := m) h)
    clear hl hw hnil
    go_enter Try.func19, Try.ntmps19
    go_wp2
    go_ret2
    refine ⟨.slice none 0 0, by rw [HB.out.1]; rfl, ?_, Below.refl _ _⟩
    rw [HB.out.2]
    exact World.ownsRow_nil _ _ _ _
  · by_cases h0 : at_ < 0
    · have HB := Lib.hid (burst_arg (bs := bs) (a := at_) (m := m) h (by unfold Cr.fitsB; rw [show decide (0 ≤ at_) = false from by simp; omega]; rfl))
      clear hl hw hnil
      go_enter Try.func19, Try.ntmps19
      go_wp2
      go_ret2
      refine ⟨.slice none 0 0, by rw [HB.out.1]; rfl, ?_, Below.refl _ _⟩
      rw [HB.out.2]
      exact World.ownsRow_nil _ _ _ _
    · obtain ⟨n, rfl⟩ : ∃ n : Nat, at_ = n := ⟨at_.toNat, by omega⟩
      by_cases hz : bs.length = 0
      · exact r3Burst_none a cap bs n m w hl hz hnil hm (by omega)
      · obtain ⟨b, off, rfl, _, _⟩ := hl.byte (i := 0) (by omega)
        exact r3Burst_bits b off cap bs n m w hl hw h (by omega) hm (by omega)
end Go.Proofs.Ythdondjhiflkaaa
