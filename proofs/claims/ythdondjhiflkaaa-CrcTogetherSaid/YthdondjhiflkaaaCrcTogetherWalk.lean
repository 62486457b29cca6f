/- The walk of the law CrcTogether: sums go together as texts do. -/
import Derived.Test.YthdondjhiflkaaaLaw03
import Derived.Test.YthdondjhiflkaaaCrcFacts
import Derived.StillTailTactics
import Derived.Deep.DeepCutAuto
namespace Go.Proofs.Ythdondjhiflkaaa.crcTogether
open Go.RowKit
set_option linter.unusedVariables false

theorem cOfN (n : Nat) (a : Option Addr) (cap : Nat) (bs : List Nat) (w : World) (hbn : bs.length = n) (hl : Lst .u8 w a (ints bs)) (hw : Bytes bs) (hn : bs.length ≤ 2147483647) (hnil : a = none → bs.length = 0 ∧ cap = 0) :
    Calls Try.prog 12 #[.slice a n cap] w fun e w' => e = .returned (.tuple #[.int .u32 (Cr.ofV bs : Int), .int .i64 (Cr.goE bs)]) ∧ Below w.heap.size w w' := by
  subst hbn
  exact cOf a cap bs w hl hw hn hnil
/-- What the three lists give at i. -/
theorem xorL_at {a b : List Nat} {i : Nat} (h1 : i < a.length) (h2 : i < b.length) : (Cr.xorL a b).getD i 0 = a.getD i 0 ^^^ b.getD i 0 := by
  simp [Cr.xorL, List.getD, List.getElem?_zipWith, List.getElem?_eq_getElem h1, List.getElem?_eq_getElem h2]
theorem set_next (L : List Nat) (k n : Nat) (hk : k < n) (hL : L.length = n) : (L.take k ++ List.replicate (n - k) 0).set k (L.getD k 0) = L.take (k + 1) ++ List.replicate (n - (k + 1)) 0 := by
  obtain ⟨r, hr⟩ : ∃ r, n - k = r + 1 := ⟨n - k - 1, by omega⟩
  have hlen : (L.take k).length = k := by rw [List.length_take]; omega
  rw [hr, show n - (k + 1) = r from by omega, List.replicate_succ, List.set_append_right _ _ (by omega), hlen, Nat.sub_self, List.set_cons_zero, List.take_succ_eq_append_getElem (show k < L.length by omega)]
  rw [List.append_assoc]
  simp [List.getD, List.getElem?_eq_getElem (show k < L.length by omega)]
theorem xor3_key (x y z : Nat) (hx : x < 256) (hy : y < 256) (hz : z < 256) : bits .xor .u8 (bits .xor .u8 (x : Int) (y : Int)) (z : Int) = ((x ^^^ y ^^^ z : Nat) : Int) := by
  rw [u8_xor_nat x y hx hy, u8_xor_nat _ z (Nat.xor_lt_two_pow (n := 8) hx hy) hz]
theorem zero_at (L : List Nat) (k n : Nat) (hk : k < n) (hL : L.length = n) : (valsB (L.take k ++ List.replicate (n - k) 0))[k]? = some (.int .u8 0) := by
  have hlen : (L.take k).length = k := by rw [List.length_take]; omega
  obtain ⟨r, hr⟩ : ∃ r, n - k = r + 1 := ⟨n - k - 1, by omega⟩
  rw [valsB_append, List.getElem?_append_right (by rw [valsB_length, hlen]; exact Nat.le_refl _), valsB_length, hlen, Nat.sub_self, hr, List.replicate_succ]
  rfl
theorem xor3_sums (x y z : Nat) (hx : x < 4294967296) (hy : y < 4294967296) (hz : z < 4294967296) : bits .xor .u32 (bits .xor .u32 (x : Int) (y : Int)) (z : Int) = ((x ^^^ y ^^^ z : Nat) : Int) := by
  rw [u32_xor_nat x y hx hy, u32_xor_nat _ z (Nat.xor_lt_two_pow (n := 32) hx hy) hz]
def TogJ (L : List Nat) (n g : Nat) (w : World) (base : Nat) (i : Value) (wr : World) : Prop :=
  ∃ k : Nat, k ≤ n ∧ i = .int .i64 k ∧ wr.ownsRow base 5 1 (.slice (some ⟨g, 0, none⟩) n n) n (valsB (L.take k ++ List.replicate (n - k) 0)) ∧ Below base w wr

set_option maxRecDepth 100000 in
set_option maxHeartbeats 2000000 in
theorem short (a b c : Option Addr) (ca cb cc : Nat) (xs ys zs : List Nat) (W : World) (ha : Lst .u8 W a (ints xs)) (hb0 : Lst .u8 W b (ints ys)) (hc0 : Lst .u8 W c (ints zs)) (hx : Bytes xs) (hy : Bytes ys) (hz : Bytes zs)
    (hna : a = none → xs.length = 0 ∧ ca = 0) (hnb : b = none → ys.length = 0 ∧ cb = 0) (hnc : c = none → zs.length = 0 ∧ cc = 0) (hca : xs.length ≤ ca) (hcb : ys.length ≤ cb) (hcc : zs.length ≤ cc) (h3 : xs.length ≤ 1500) (h4 : ys.length ≤ 1500) (h5 : zs.length ≤ 1500) :
    Calls Try.prog 7 #[.slice a xs.length ca, .slice b ys.length cb, .slice c zs.length cc] W fun e w' => e = .returned (.bool true) ∧ Below W.heap.size W w' := by
  have HA := Lib.hid ha
  have HB := Lib.hid hb0
  have HC := Lib.hid hc0
  have HX := Lib.hid hx
  have HY := Lib.hid hy
  have HZ := Lib.hid hz
  have HNA := Lib.hid hna
  have HNB := Lib.hid hnb
  have HNC := Lib.hid hnc
  obtain ⟨n, hnd⟩ : ∃ n, n = min xs.length (min ys.length zs.length) := ⟨_, rfl⟩
  have hn1 : n ≤ xs.length := by omega
  have hn2 : n ≤ ys.length := by omega
  have hn3 : n ≤ zs.length := by omega
  have HMin := Lib.hid hnd
  clear ha hb0 hc0 hx hy hz hna hnb hnc hnd
  go_enter Try.func7, Try.ntmps7
  go_wp2_with fail
  refine (l3Alive _).mono ?_
  rintro e w1 ⟨rfl, hb⟩
  go_upto_region 4 with fail
  go_cut [8] (fun s8 wx => s8 = .int .i64 (n : Int) ∧ w1 = wx)
  case first =>
    go_wp2_with fail
    all_goals (go_meet; exact ⟨by have := HMin.out; congr 1; omega, rfl⟩)
  case rest =>
    obtain ⟨rfl, rfl⟩ := hcut
    have HV := Lib.hid (show List.replicate n (Value.int .u8 0) = valsB (List.replicate n 0) by simp [valsB, ints])
    go_wp2_with (at_make; refine wpList_zeros elemB rfl rfl _ _ rfl _ _ _ _ n rfl rfl rfl rfl (by omega) (by unfold maxLen; omega) ?_; intro w2 hown2 hb2; rw [HV.out] at hown2; have HO := Lib.hid hown2; have HB2 := Lib.hid hb2; clear hown2 hb2)
    have HL := Lib.hid (show (Cr.xorL (Cr.xorL (xs.take n) (ys.take n)) (zs.take n)).length = n by
      rw [Cr.xorL_length (by rw [Cr.xorL_length (by simp; omega)]; simp; omega), Cr.xorL_length (by simp; omega)]; simp; omega)
    have HAt := Lib.hid (show ∀ k, k < n → (Cr.xorL (Cr.xorL (xs.take n) (ys.take n)) (zs.take n)).getD k 0 = xs.getD k 0 ^^^ ys.getD k 0 ^^^ zs.getD k 0 by
      intro k hk
      rw [xorL_at (by rw [Cr.xorL_length (by simp; omega)]; simp; omega) (by simp; omega), xorL_at (by simp; omega) (by simp; omega)]
      simp [List.getD, hk])
    obtain ⟨L, hLd⟩ : ∃ L, L = Cr.xorL (Cr.xorL (xs.take n) (ys.take n)) (zs.take n) := ⟨_, rfl⟩
    rw [← hLd] at HL HAt
    have HLD := Lib.hid hLd
    clear hLd
    go_loopw [10] (TogJ L n w1.heap.size w1 w1.heap.size) (fun i _ => n - (intOf i).toNat)
    case atStart => exact ⟨0, Nat.zero_le _, rfl, by rw [List.take_zero, Nat.sub_zero, List.nil_append]; exact HO.out, HB2.out⟩
    case round =>
      obtain ⟨k, hk, rfl, hown, hbr⟩ := hrel
      have HOr := Lib.hid hown
      clear hown
      by_cases hlt : k < n
      · have hb1r : Below W.heap.size W wr := hb.trans (hbr.mono hb.size)
        obtain ⟨ba, oa, rfl, _, c1⟩ := (HA.out.below hb1r).byte (show k < xs.length by omega)
        obtain ⟨bb, ob, rfl, _, c2⟩ := (HB.out.below hb1r).byte (show k < ys.length by omega)
        obtain ⟨bc, oc, rfl, _, c3⟩ := (HC.out.below hb1r).byte (show k < zs.length by omega)
        have hx1 := HX.out k
        have hy1 := HY.out k
        have hz1 := HZ.out k
        have HS := Lib.hid (set_next L k n hlt HL.out)
        have HK := Lib.hid (HAt.out k hlt)
        have hcell : wr.cell? ⟨w1.heap.size, k, none⟩ = some (.int .u8 0) := by rw [HOr.out.cellAt k (by omega), zero_at L k n hlt HL.out]
        have hfz : wr.frozen? ⟨w1.heap.size, k, none⟩ = false := HOr.out.frozenAt _
        obtain ⟨x, hxe⟩ : ∃ x, x = xs.getD k 0 := ⟨_, rfl⟩
        obtain ⟨y, hye⟩ : ∃ y, y = ys.getD k 0 := ⟨_, rfl⟩
        obtain ⟨z, hze⟩ : ∃ z, z = zs.getD k 0 := ⟨_, rfl⟩
        rw [← hxe] at c1 hx1 HK
        rw [← hye] at c2 hy1 HK
        rw [← hze] at c3 hz1 HK
        have KX := Lib.hid (xor3_key x y z hx1 hy1 hz1)
        clear hxe hye hze
        have i0 : (0 : Int) ≤ (k : Int) := by omega
        have i1 : (k : Int) < (xs.length : Int) := by omega
        have i2 : (k : Int) < (ys.length : Int) := by omega
        have i3 : (k : Int) < (zs.length : Int) := by omega
        have i4 : (k : Int) < (n : Int) := by omega
        have j1 : k < xs.length := by omega
        have j2 : k < ys.length := by omega
        have j3 : k < zs.length := by omega
        go_wp2
        go_still_tail 17, (by kernel_rfl)
        go_wp2
        rw [KX.out, ← HK.out]
        refine ⟨⟨k + 1, by omega, by go_num, ?_, ?_⟩, by simp [intOf]; omega⟩
        · have := (HOr.out.stored k (.int .u8 ((L.getD k 0 : Nat) : Int))).1
          rw [valsB_set, HS.out] at this
          exact this
        · exact below_drewN (hbr.setCell (Nat.le_refl _) _) 1
      · have HOn := Lib.hid (show wr.ownsRow w1.heap.size 5 1 (.slice (some ⟨w1.heap.size, 0, none⟩) n n) n (valsB L) by
          have h1 := HOr.out
          rw [List.take_of_length_le (by rw [HL.out]; omega), show n - k = 0 from by omega, List.replicate_zero, List.append_nil] at h1
          exact h1)
        have hb1r : Below W.heap.size W wr := hb.trans (hbr.mono hb.size)
        replace HA := Lib.hid (show Lst .u8 wr a (ints (xs.take n)) by rw [ints_take]; exact (HA.out.below hb1r).take _)
        replace HB := Lib.hid (show Lst .u8 wr b (ints (ys.take n)) by rw [ints_take]; exact (HB.out.below hb1r).take _)
        replace HC := Lib.hid (show Lst .u8 wr c (ints (zs.take n)) by rw [ints_take]; exact (HC.out.below hb1r).take _)
        have i1 : (n : Int) ≤ (ca : Int) := by omega
        have i2 : (n : Int) ≤ (cb : Int) := by omega
        have i3 : (n : Int) ≤ (cc : Int) := by omega
        clear hk
        have L1 := Lib.hid (show (xs.take n).length = n by rw [List.length_take]; omega)
        have L2 := Lib.hid (show (ys.take n).length = n by rw [List.length_take]; omega)
        have L3 := Lib.hid (show (zs.take n).length = n by rw [List.length_take]; omega)
        have e1 := goE_short (bs := xs.take n) (by rw [L1.out]; omega)
        have e2 := goE_short (bs := ys.take n) (by rw [L2.out]; omega)
        have e3 := goE_short (bs := zs.take n) (by rw [L3.out]; omega)
        have e4 := goE_short (bs := L) (by rw [HL.out]; omega)
        have V1 := Lib.hid (ofV_short (bs := xs.take n) (by rw [L1.out]; omega))
        have V2 := Lib.hid (ofV_short (bs := ys.take n) (by rw [L2.out]; omega))
        have V3 := Lib.hid (ofV_short (bs := zs.take n) (by rw [L3.out]; omega))
        have V4 := Lib.hid (ofV_short (bs := L) (by rw [HL.out]; omega))
        have BL := Lib.hid (show Bytes L by rw [HLD.out]; exact Small.bytes (Cr.xorL_small (Cr.xorL_small (HX.out.take n).small (HY.out.take n).small) (HZ.out.take n).small))
        have HSum := Lib.hid (show Cr.sumB (xs.take n) ^^^ Cr.sumB (ys.take n) ^^^ Cr.sumB (zs.take n) = Cr.sumB L by
          rw [HLD.out]; exact Cr.sums_together (by rw [L1.out, L2.out]) (by rw [L1.out, L3.out]) (HX.out.take n).small (HY.out.take n).small (HZ.out.take n).small)
        have HNA' := Lib.hid (show a = none → (xs.take n).length = 0 ∧ ca = 0 from fun h => by have := HNA.out h; exact ⟨by rw [L1.out]; omega, this.2⟩)
        have HNB' := Lib.hid (show b = none → (ys.take n).length = 0 ∧ cb = 0 from fun h => by have := HNB.out h; exact ⟨by rw [L2.out]; omega, this.2⟩)
        have HNC' := Lib.hid (show c = none → (zs.take n).length = 0 ∧ cc = 0 from fun h => by have := HNC.out h; exact ⟨by rw [L3.out]; omega, this.2⟩)
        have BX := Lib.hid (HX.out.take n)
        have BY := Lib.hid (HY.out.take n)
        have BZ := Lib.hid (HZ.out.take n)
        obtain ⟨A9, c9, hv9, hC9, _, _, _⟩ := own_cells HOn.out
        injection hv9 with h91 h92 h93
        subst h91
        subst h93
        have HD := Lib.hid hC9.lst
        clear hC9 h92
        obtain ⟨xs', hx'⟩ : ∃ q, q = xs.take n := ⟨_, rfl⟩
        obtain ⟨ys', hy'⟩ : ∃ q, q = ys.take n := ⟨_, rfl⟩
        obtain ⟨zs', hz'⟩ : ∃ q, q = zs.take n := ⟨_, rfl⟩
        rw [← hx'] at L1 e1 V1 HSum HNA' BX HA
        rw [← hy'] at L2 e2 V2 HSum HNB' BY HB
        rw [← hz'] at L3 e3 V3 HSum HNC' BZ HC
        clear hx' hy' hz' HOr HOn HLD HAt
        replace hb := hb1r
        go_wp2_with fail
        refine (cOfN n a ca xs' _ L1.out HA.out BX.out (by rw [L1.out]; omega) HNA'.out).mono ?_
        rintro e w3 ⟨rfl, hb2⟩
        rw [V1.out]
        replace HB := Lib.hid (HB.out.below hb2)
        replace HC := Lib.hid (HC.out.below hb2)
        replace HD := Lib.hid (HD.out.below hb2)
        replace hb := hb.trans (hb2.mono hb.size)
        clear hb2
        go_wp2_with fail
        refine (cOfN n b cb ys' _ L2.out HB.out BY.out (by rw [L2.out]; omega) HNB'.out).mono ?_
        rintro e w4 ⟨rfl, hb2⟩
        rw [V2.out]
        replace HC := Lib.hid (HC.out.below hb2)
        replace HD := Lib.hid (HD.out.below hb2)
        replace hb := hb.trans (hb2.mono hb.size)
        clear hb2
        go_wp2_with fail
        refine (cOfN n c cc zs' _ L3.out HC.out BZ.out (by rw [L3.out]; omega) HNC'.out).mono ?_
        rintro e w5 ⟨rfl, hb2⟩
        rw [V3.out]
        replace HD := Lib.hid (HD.out.below hb2)
        replace hb := hb.trans (hb2.mono hb.size)
        clear hb2
        go_wp2_with fail
        refine (cOfN n _ _ L _ HL.out HD.out BL.out (by rw [HL.out]; omega) (fun h => by cases h)).mono ?_
        rintro e w6 ⟨rfl, hb2⟩
        rw [V4.out, ← HSum.out]
        replace hb := hb.trans (hb2.mono hb.size)
        have KS := xor3_sums _ _ _ (Cr.sumB_lt xs') (Cr.sumB_lt ys') (Cr.sumB_lt zs')
        clear hb2
        obtain ⟨s1, hs1⟩ : ∃ q, q = Cr.sumB xs' := ⟨_, rfl⟩
        obtain ⟨s2, hs2⟩ : ∃ q, q = Cr.sumB ys' := ⟨_, rfl⟩
        obtain ⟨s3, hs3⟩ : ∃ q, q = Cr.sumB zs' := ⟨_, rfl⟩
        rw [← hs1, ← hs2, ← hs3] at KS ⊢
        clear hs1 hs2 hs3
        go_wp2
        go_ret
        exact ⟨rfl, hb⟩

set_option maxHeartbeats 400000 in
theorem long (a b c : Option Addr) (ca cb cc la lb lc : Nat) (W : World) (h : 1500 < la ∨ 1500 < lb ∨ 1500 < lc) :
    Calls Try.prog 7 #[.slice a la ca, .slice b lb cb, .slice c lc cc] W fun e w' => e = .returned (.bool true) ∧ Below W.heap.size W w' := by
  rcases (show 1500 < la ∨ (la ≤ 1500 ∧ 1500 < lb) ∨ (la ≤ 1500 ∧ lb ≤ 1500 ∧ 1500 < lc) by omega) with h1 | h1 | h1
  all_goals
    clear h
    go_enter Try.func7, Try.ntmps7
    go_wp2_with fail
    refine (l3Alive _).mono ?_
    rintro e w1 ⟨rfl, hb⟩
    go_wp2
    go_ret
    exact ⟨rfl, hb⟩
theorem walk (a b c : Option Addr) (ca cb cc : Nat) (xs ys zs : List Nat) (W : World) (ha : Lst .u8 W a (ints xs)) (hb0 : Lst .u8 W b (ints ys)) (hc0 : Lst .u8 W c (ints zs)) (hx : Bytes xs) (hy : Bytes ys) (hz : Bytes zs)
    (hna : a = none → xs.length = 0 ∧ ca = 0) (hnb : b = none → ys.length = 0 ∧ cb = 0) (hnc : c = none → zs.length = 0 ∧ cc = 0) (hca : xs.length ≤ ca) (hcb : ys.length ≤ cb) (hcc : zs.length ≤ cc) :
    Calls Try.prog 7 #[.slice a xs.length ca, .slice b ys.length cb, .slice c zs.length cc] W fun e w' => e = .returned (.bool true) ∧ Below W.heap.size W w' := by
  by_cases h : 1500 < xs.length ∨ 1500 < ys.length ∨ 1500 < zs.length
  · exact long a b c ca cb cc _ _ _ W h
  · exact short a b c ca cb cc xs ys zs W ha hb0 hc0 hx hy hz hna hnb hnc hca hcb hcc (by omega) (by omega) (by omega)
end Go.Proofs.Ythdondjhiflkaaa.crcTogether
