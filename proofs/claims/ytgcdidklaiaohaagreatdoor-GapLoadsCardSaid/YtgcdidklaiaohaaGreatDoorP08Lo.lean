/- Plain facts of parts that are spread. -/
import Derived.Test.YtgcdidklaiaohaaGreatDoorTkLo
import Derived.Test.YtgcdidklaiaohaaGreatDoorM07Lo
import Derived.Test.YtgcdidklaiaohaaGreatDoorP07Lo
import Derived.Test.YtgcdidklaiaohaaGreatDoorP06Lo
import Derived.Deep.RegionHeld3
import Derived.Test.YtgcdidklaiaohaaGreatDoorM11Lo
import Derived.Test.YtgcdidklaiaohaaGreatDoorM23Lo
import Derived.Test.YtgcdidklaiaohaaGreatDoorM08Lo
namespace Go.Proofs.YtgcdidklaiaohaaGreatDoor
open Go.RowKit
set_option linter.unusedVariables false
set_option linter.unusedSimpArgs false

def In64P (ps : List (Int × Int)) : Prop := ∀ k, In64 (ps.getD k (0, 0)).1 ∧ In64 (ps.getD k (0, 0)).2
theorem spread_may {n lo hi : Nat} (h1 : lo + n ≤ hi) (h2 : hi ≤ 65536) : Sp.mayB n lo hi = true := by
  unfold Sp.mayB; rw [decide_eq_true (show (0 : Int) ≤ (lo : Int) by omega), decide_eq_true (show (lo : Int) ≤ (hi : Int) by omega), decide_eq_true (show (hi : Int) ≤ 65536 by omega), decide_eq_true (show (0 : Int) ≤ (n : Int) by omega), decide_eq_true (show (n : Int) ≤ (hi : Int) - (lo : Int) by omega)]
  rfl

set_option maxRecDepth 100000 in
set_option maxHeartbeats 4000000 in
theorem r8Spread (s : Sl) (a : Ads) (lo hi : Nat) (al : Option Addr) (cal : Nat) (ps : List (Int × Int)) (w : World) (h : Held w s a) (hf : s.Fit 64) (hhi : hi ≤ s.keys.length) (hlo : lo + ps.length ≤ hi) (hp : PLst w al ps) (h64 : In64P ps) :
    Calls Tryz.prog 93 #[slv s a, .int .i64 (lo : Int), .int .i64 (hi : Int), .slice al ps.length cal] w (SPost (Ly.spreadS s lo hi ps) w) := by
  have l2 := hf.short.keys; have hm := spread_may (n := ps.length) hlo (by omega); have CO := Lib.hid (fun W => r7Of ps.length lo hi W hm); have LN := Lib.hid (show (Sp.ofs ps.length lo hi).length = ps.length by rw [Sp.ofs_length, Int.toNat_natCast])
  have hin : ∀ k, k < (Sp.ofs ps.length lo hi).length → 0 ≤ (Sp.ofs ps.length lo hi).getD k 0 ∧ (Sp.ofs ps.length lo hi).getD k 0 < s.keys.length := by
    intro k hk; rw [LN.out] at hk
    have hk2 : k < (ps.length : Int).toNat := by rw [Int.toNat_natCast]; exact hk
    rw [Sp.ofs_at hk2]; have := Sp.plc_bd hm hk2
    omega
  obtain ⟨t, ht⟩ : ∃ t, t = Ly.spreadS s lo hi ps := ⟨_, rfl⟩; rw [← ht]
  have CF := Lib.hid (show ∀ W A c, Held W s a → Lst .i64 W A (Sp.ofs ps.length lo hi) → PLst W al ps → Calls Tryz.prog 140 #[.agg #[.int .i64 s.seg, .slice a.w s.words.length a.cw, .slice a.k s.keys.length a.ck, .slice a.v s.vals.length a.cv, .slice a.c s.counts.length a.cc, .int .u64 (s.laid : Int)], .int .i64 (lo : Int), .int .i64 (hi : Int), .slice A ps.length c, .slice al ps.length cal] W (SPost t W) from fun W A c h1 h2 h3 => by
    have q := r4Filled s a lo hi A al c cal (Sp.ofs ps.length lo hi) ps W h1 hf hhi (by omega) h2 h3 LN.out (by omega) hin h64; rw [LN.out] at q; rw [ht]
    exact q)
  have HH := Lib.hid h; obtain ⟨W0, hW0⟩ : ∃ W0, W0 = (w.alloc (.cells #[.int .i64 s.seg, .slice a.w s.words.length a.cw, .slice a.k s.keys.length a.ck, .slice a.v s.vals.length a.cv, .slice a.c s.counts.length a.cc, .int .u64 (s.laid : Int)] 27)).alloc (.cells #[.int .i64 0, .slice none 0 0, .slice none 0 0, .slice none 0 0, .slice none 0 0, .int .u64 0] 27) := ⟨_, rfl⟩; have HP := Lib.hid (show PLst W0 al ps by rw [hW0]; exact hp.below (((Below.refl w.heap.size w).alloc (Nat.le_refl _) _).alloc (by simp) _)); have BX := Lib.hid (show Box W0 w.heap.size s a by rw [hW0]; exact (Box.new w s a 27).below ((Below.refl _ _).alloc (Nat.le_refl _) _)); have BR := Lib.hid (show Box W0 (w.heap.size + 1) Sl.none adsNone by rw [hW0]; exact Box.second w _ Sl.none adsNone 27); have BB := Lib.hid (show Below w.heap.size w W0 by rw [hW0]; exact ((Below.refl w.heap.size w).alloc (Nat.le_refl _) _).alloc (by simp) _)
  have zz : w.heap.size + 2 ≤ W0.heap.size := by rw [hW0]; simp
  clear h hf hp h64 hin ht; generalize hzs : Sp.ofs ps.length lo hi = zs at *; clear hzs; unfold slv
  go_enter Tryz.func93, Tryz.ntmps93
  go_upto_region 1 with (fail)
  rw [← hW0]; clear hW0

  refine wp_region_held_drew (S := (fun w' => w'.cell? ⟨w.heap.size, 0, none⟩ = some (.int .i64 s.seg) ∧ w'.cell? ⟨w.heap.size, 1, none⟩ = some (.slice a.w s.words.length a.cw) ∧ w'.cell? ⟨w.heap.size, 2, none⟩ = some (.slice a.k s.keys.length a.ck) ∧ w'.cell? ⟨w.heap.size, 3, none⟩ = some (.slice a.v s.vals.length a.cv) ∧ w'.cell? ⟨w.heap.size, 4, none⟩ = some (.slice a.c s.counts.length a.cc) ∧ w'.cell? ⟨w.heap.size, 5, none⟩ = some (.int .u64 (s.laid : Int)))) (by kernel_rfl) (((BX.out.below ((Below.refl _ _).drew)).cellAt)) (fun hHeld => ?_); refine tk 0 ?_; refine tk 1 ?_; refine tk 2 ?_; refine tk 3 ?_; refine tk 4 ?_; refine tk 5 ?_; refine tk 6 ?_; refine tk 8 ?_; refine rdH 7 fun K hK => ?_; go_simp; have dr := (Below.refl W0.heap.size W0).drew; replace BX := Lib.hid (BX.out.below dr); replace BR := Lib.hid (BR.out.below dr); replace BB := Lib.hid (BB.out.trans (dr.mono BB.out.size)); replace HP := Lib.hid (HP.out.below dr); replace zz := Nat.le_trans zz dr.size; clear dr; refine (CO.out _).mono ?_; rintro e W5 ⟨v, rfl, hr, hb⟩; obtain ⟨A1, d1, rfl, hL⟩ := irow_list hr; rw [LN.out]; have L5 := Lib.hid hL; replace BX := Lib.hid (BX.out.below hb); replace BR := Lib.hid (BR.out.below hb); replace BB := Lib.hid (BB.out.trans (hb.mono BB.out.size)); replace HP := Lib.hid (HP.out.below hb); replace zz := Nat.le_trans zz hb.size; clear hr hb hL
  try (go_simp)
  refine hK.out _ _ (BX.out.cellAt) (fun hHelda1 => ?_); clear hK K hHeld
  try simp only [sP, sQ, sA, sB, sC]
  refine rdH 9 fun K hK => ?_; go_simp; refine (CF.out W5 A1 d1 (HH.out.below BB.out) L5.out HP.out).mono ?_; rintro e W6 ⟨a3, rfl, own, sep, lies, hb⟩; replace BX := Lib.hid (BX.out.below hb); replace BR := Lib.hid (BR.out.below hb); replace BB := Lib.hid (BB.out.trans (hb.mono BB.out.size)); have FIN := Lib.hid (put6_fin (r := w.heap.size + 1) own sep lies BB.out (by omega) (by omega)); replace zz := Nat.le_trans zz hb.size; clear own sep lies hb; obtain ⟨_, s0, s1, s2, s3, s4, s5, sf⟩ := BR.out; have sf0 := sf 0; have sf1 := sf 1; have sf2 := sf 2; have sf3 := sf 3; have sf4 := sf 4; have sf5 := sf 5; clear sf; unfold slv
  try (go_simp)
  refine hK.out _ _ (BX.out.cellAt) (fun hHelda2 => ?_); clear hK K hHelda1
  try simp only [sP, sQ, sA, sB, sC]
  refine rdH 10 fun K hK => ?_; go_simp; skip; refine hK.out _ _ (((BX.out.put6o (g' := w.heap.size + 1) (by omega) _ _ _ _ _ _).cellAt)) (fun hHelda3 => ?_); clear hK K hHelda2
  try simp only [sP, sQ, sA, sB, sC]
  refine wpAnyH_done (by kernel_rfl) ?_ _; go_wp2; refine bodyPost_ret (v := slv t a3) (by simp [results, Tryz.results93, go_sem, slv, s0, s1, s2, s3, s4, s5, sf0, sf1, sf2, sf3, sf4, sf5]) rfl ?_; exact ⟨_, rfl, FIN.out _ _ _ _ _ _⟩
end Go.Proofs.YtgcdidklaiaohaaGreatDoor
namespace Go.Proofs.YtgcdidklaiaohaaGreatDoor
open Go.RowKit
set_option linter.unusedVariables false

/-- The places of so many things over a part rise within it. -/
theorem ofs_rising {n : Nat} {a b : Nat} (h1 : a + n ≤ b) (h2 : b ≤ 65536) : Rising (Sp.ofs n a b) a b ∧ (Sp.ofs n a b).length = n := by
  have hm : Sp.mayB n a b = true := by
    unfold Sp.mayB; rw [decide_eq_true (show (0 : Int) ≤ (a : Int) by omega), decide_eq_true (show (a : Int) ≤ (b : Int) by omega), decide_eq_true (show (b : Int) ≤ 65536 by omega), decide_eq_true (show (0 : Int) ≤ (n : Int) by omega), decide_eq_true (show (n : Int) ≤ (b : Int) - (a : Int) by omega)]
    rfl
  have hl : (Sp.ofs n a b).length = n := by rw [Sp.ofs_length, Int.toNat_natCast]
  refine ⟨⟨fun k hk => ?_, fun i j hij hj => ?_⟩, hl⟩
  · rw [hl] at hk
    have hk2 : k < (n : Int).toNat := by rw [Int.toNat_natCast]; exact hk
    rw [Sp.ofs_at hk2]; have := Sp.plc_bd hm hk2
    omega
  · rw [hl] at hj
    have up : ∀ d : Nat, i + (d + 1) < n → Sp.plc n a b i < Sp.plc n a b (i + (d + 1)) := by
      intro d
      induction d with
      | zero =>
        intro h; have h3 := (Sp.plc_step (n := (n : Int)) (f := (a : Int)) (t := (b : Int)) (by omega) (by omega) i).1; have h4 := Sp.one_le_step (n := (n : Int)) (f := (a : Int)) (t := (b : Int)) (by omega) (by omega)
        show Sp.plc n a b i < Sp.plc n a b (i + 1)
        omega
      | succ d ih =>
        intro h; have h0 := ih (by omega); have h3 := (Sp.plc_step (n := (n : Int)) (f := (a : Int)) (t := (b : Int)) (by omega) (by omega) (i + (d + 1))).1; have h4 := Sp.one_le_step (n := (n : Int)) (f := (a : Int)) (t := (b : Int)) (by omega) (by omega)
        show Sp.plc n a b i < Sp.plc n a b (i + (d + 1) + 1)
        omega
    rw [Sp.ofs_at (by rw [Int.toNat_natCast]; omega), Sp.ofs_at (by rw [Int.toNat_natCast]; omega)]; have := up (j - i - 1) (by omega)
    rwa [show i + (j - i - 1 + 1) = j from by omega] at this

/-- Slot by slot: what is occupied of a part that is filled, and what stays. -/
structure FilledBits (s : Sl) (a b : Nat) (l : List Int) (ps : List (Int × Int)) : Prop where
  inn : ∀ j, a ≤ j → j < b → (Oc.isB (s.filled a b l ps).words j = true ↔ ∃ i, i < l.length ∧ l.getD i 0 = (j : Int))
  out : ∀ j, j < a ∨ b ≤ j → Oc.isB (s.filled a b l ps).words j = Oc.isB s.words j ∧ (s.filled a b l ps).pairAt j = s.pairAt j
  seg : (s.filled a b l ps).seg = s.seg
theorem filled_bits {s : Sl} (h : s.May) {a b : Nat} {l : List Int} {ps : List (Int × Int)} (hr : Rising l a b) (hab : a ≤ b) (hb : b ≤ s.keys.length) (hlen : l.length = ps.length) : FilledBits s a b l ps := by
  have ef : s.filled a b l ps = (s.wiped a (b - a)).laidIn l ps ps.length := by unfold Sl.filled; rw [Int.toNat_natCast, show ((b : Int) - (a : Int)).toNat = b - a from by omega]
  obtain ⟨h1, h2⟩ := wiped_may h a (b - a) (by omega); have hk1 : (s.wiped a (b - a)).keys.length = s.keys.length := wiped_keys _ _ _; have H := laidIn_all h1 ps hr (by rw [hk1]; exact hb) (fun j e1 e2 => by rw [h2, show (decide (a ≤ j) && decide (j < a + (b - a))) = true from by simp; omega]; simp) ps.length (by omega); refine ⟨fun j e1 e2 => ?_, fun j hj => ?_, ?_⟩
  · rw [ef, H.isB, h2, show (decide (a ≤ j) && decide (j < a + (b - a))) = true from by simp; omega]
    simp only [Bool.not_true, Bool.and_false, Bool.false_eq_true, false_or]
    rw [hlen]
  · have hn : ∀ i, i < ps.length → l.getD i 0 ≠ (j : Int) := fun i hi e => by have := hr.inn i (by omega); omega
    constructor
    · rw [Bool.eq_iff_iff, ef, H.isB, h2, show (decide (a ≤ j) && decide (j < a + (b - a))) = false from by simp; omega]
      simp only [Bool.not_false, Bool.and_true]
      exact ⟨fun e => e.resolve_right (fun ⟨i, hi, e⟩ => hn i hi e), Or.inl⟩
    · rw [ef, H.other j hn, wiped_pair s a j (b - a) (by omega)]
  · rw [ef, laidIn_seg, (wiped_seg s a _).1]

end Go.Proofs.YtgcdidklaiaohaaGreatDoor
namespace Go.Proofs.YtgcdidklaiaohaaGreatDoor
open Go.RowKit
set_option linter.unusedVariables false

theorem isB_zeros (n i : Nat) : Oc.isB (List.replicate n 0) i = false := by
  unfold Oc.isB; rw [getD_zerosN]
  simp
/-- What is known of an array without pairs. -/
structure Bare (s : Sl) (t : Sl) (m : Nat) : Prop where
  may : t.May
  keys : t.keys.length = m
  seg : t.seg = s.seg
  laid : t.laid = s.laid
  off : ∀ i, Oc.isB t.words i = false
  ok : t.Ok
  short : t.Short
theorem base_bare {s : Sl} {m : Nat} (hf : Sl.fitsB s.seg m = true) (hs : In64 s.seg) (hl : s.laid < 18446744073709551616) : Bare s (Ly.base s m) m := by
  obtain ⟨f1, f2, f3, f4, f5, f6, f7⟩ := fits_yes hf
  have hq : (m : Int) / s.seg ≤ 65536 := by have := Int.ediv_le_self (a := (m : Int)) s.seg (by omega); omega
  have hq0 : 0 ≤ (m : Int) / s.seg := Int.ediv_nonneg (by omega) (by omega)
  have hk : (Ly.base s m).keys.length = m := by show (List.replicate _ _).length = m; rw [List.length_replicate, Int.toNat_natCast]
  have hoff : ∀ i, Oc.isB (Ly.base s m).words i = false := fun i => isB_zeros _ i; refine ⟨⟨?_, ?_, ?_, fun i _ => hoff i, ?_, fun i _ => ⟨getD_zeros _ _, getD_zeros _ _⟩, fun j hj => ?_⟩, hk, rfl, rfl, hoff, ?_, ?_⟩
  · rw [hk]; exact hf
  · show (List.replicate _ _).length = (List.replicate _ _).length
    simp only [List.length_replicate]
  · rw [hk]
    show (List.replicate _ _).length = _
    rw [List.length_replicate]
    omega
  · rw [hk]
    show ((List.replicate _ _).length : Int) = _
    rw [List.length_replicate]; exact Int.toNat_of_nonneg hq0
  · have e : Oc.places (Ly.base s m).words (j * (Ly.base s m).seg.toNat) ((j + 1) * (Ly.base s m).seg.toNat) = [] := by
      rw [List.eq_nil_iff_forall_not_mem]; intro x hx; have := (Oc.mem_places.1 hx).2; rw [hoff] at this
      cases this
    unfold Sl.countOf; rw [e]; exact getD_zeros _ _
  · exact ⟨hs, wide_zeros _, all64_zeros _, all64_zeros _, all64_zeros _, hl⟩
  · refine ⟨?_, ?_, ?_, ?_⟩
    · show (List.replicate _ _).length ≤ _; rw [List.length_replicate]; omega
    · show (List.replicate _ _).length ≤ _; rw [List.length_replicate]; omega
    · show (List.replicate _ _).length ≤ _; rw [List.length_replicate]; omega
    · show (List.replicate _ _).length ≤ _; rw [List.length_replicate]; omega
end Go.Proofs.YtgcdidklaiaohaaGreatDoor
namespace Go.Proofs.YtgcdidklaiaohaaGreatDoor
open Go.RowKit
set_option linter.unusedVariables false
set_option linter.unusedSimpArgs false

set_option maxRecDepth 100000 in
set_option maxHeartbeats 4000000 in
theorem r8Wide (s : Sl) (a : Ads) (m : Nat) (al : Option Addr) (cal : Nat) (ps : List (Int × Int)) (w : World) (hok : s.Ok) (hf : Sl.fitsB s.seg m = true) (hn : ps.length ≤ m) (hp : PLst w al ps) (h64 : In64P ps) :
    Calls Tryz.prog 91 #[slv s a, .int .i64 (m : Int), .slice al ps.length cal] w (SPost (Ly.wide s m ps) w) := by
  obtain ⟨f1, f2, f3, f4, f5, f6, f7⟩ := fits_yes hf; have BA := base_bare hf hok.seg hok.laid; have FT := may_fit (may_iff.2 BA.may) BA.ok BA.short; obtain ⟨sg, hsg⟩ : ∃ sg : Nat, s.seg = sg := ⟨s.seg.toNat, by omega⟩; have EM := Lib.hid (show Ly.base s m = { slMade sg ((m + 63) / 64) m (m / sg) with laid := s.laid } by unfold Ly.base; rw [hsg, empty_made]); have CE := Lib.hid (fun W => r4Empty sg m _ _ W (by omega) (by omega) (by omega) (by omega) rfl rfl)
  have CS := Lib.hid (show ∀ W (a1 : Ads), Held W (Ly.base s m) a1 → PLst W al ps → Calls Tryz.prog 93 #[slv (Ly.base s m) a1, .int .i64 0, .int .i64 (m : Int), .slice al ps.length cal] W (SPost (Ly.wide s m ps) W) from fun W a1 h1 h2 => by
    have q := r8Spread (Ly.base s m) a1 0 m al cal ps W h1 FT (by rw [BA.keys]; exact Nat.le_refl _) (by omega) h2 h64
    exact q)
  have HP := Lib.hid hp; obtain ⟨t, ht⟩ : ∃ t, t = Ly.wide s m ps := ⟨_, rfl⟩; rw [← ht] at CS ⊢; rw [EM.out] at CS; obtain ⟨u, hu⟩ : ∃ u, u = slMade sg ((m + 63) / 64) m (m / sg) := ⟨_, rfl⟩; rw [← hu] at CS CE
  have hu1 : u.seg = (sg : Int) := by rw [hu]; rfl
  obtain ⟨W0, hW0⟩ : ∃ W0, W0 = (w.alloc (.cells #[.int .i64 s.seg, .slice a.w s.words.length a.cw, .slice a.k s.keys.length a.ck, .slice a.v s.vals.length a.cv, .slice a.c s.counts.length a.cc, .int .u64 (s.laid : Int)] 27)).alloc (.cells #[.int .i64 0, .slice none 0 0, .slice none 0 0, .slice none 0 0, .slice none 0 0, .int .u64 0] 27) := ⟨_, rfl⟩; have BX := Lib.hid (show Box W0 w.heap.size s a by rw [hW0]; exact (Box.new w s a 27).below ((Below.refl _ _).alloc (Nat.le_refl _) _)); have BR := Lib.hid (show Box W0 (w.heap.size + 1) Sl.none adsNone by rw [hW0]; exact Box.second w _ Sl.none adsNone 27); have BB := Lib.hid (show Below w.heap.size w W0 by rw [hW0]; exact ((Below.refl w.heap.size w).alloc (Nat.le_refl _) _).alloc (by simp) _)
  have zz : w.heap.size + 2 ≤ W0.heap.size := by rw [hW0]; simp
  have SG := Lib.hid hsg; clear hok hf hp h64 BA FT f1 f2 f3 f4 f5 f6 f7 ht hu hsg; unfold slv
  go_enter Tryz.func91, Tryz.ntmps91
  go_upto_region 1 with (fail)
  rw [← hW0]; clear hW0; obtain ⟨_, q0, q1, q2, q3, q4, q5, _⟩ := BX.out; rw [SG.out] at q0
  go_wp2_with fail
  refine (CE.out _).mono ?_; rintro e w1 ⟨a1, rfl, own, sep, lies, hb⟩; clear q0 q1 q2 q3 q4 q5; replace BX := Lib.hid (BX.out.below hb); replace BR := Lib.hid (BR.out.below hb); replace BB := Lib.hid (BB.out.trans (hb.mono BB.out.size)); have OW := Lib.hid own; replace zz := Nat.le_trans zz hb.size; clear own sep lies hb; obtain ⟨_, q0, q1, q2, q3, q4, q5, _⟩ := BX.out; have q5a := fun o => ((BX.out.below ((Below.refl _ _).alloc (Nat.le_refl _) o))).c5; unfold slv
  go_upto_region 3 with (fail)
  obtain ⟨W2, hW2⟩ : ∃ W2, W2 = w1.alloc (.cells #[.int .i64 (sg : Int), .slice a1.w u.words.length a1.cw, .slice a1.k u.keys.length a1.ck, .slice a1.v u.vals.length a1.cv, .slice a1.c u.counts.length a1.cc, .int .u64 (s.laid : Int)] 27) := ⟨_, rfl⟩
  have B12 : Below w1.heap.size w1 W2 := by rw [hW2]; exact (Below.refl _ _).alloc (Nat.le_refl _) _
  have X2 := Lib.hid (show Box W2 w1.heap.size { u with laid := s.laid } a1 by rw [hW2, ← hu1]; exact Box.new w1 { u with laid := s.laid } a1 27)
  have z2 : W2.heap.size = w1.heap.size + 1 := by rw [hW2]; simp
  rw [← hW2]; clear hW2 q0 q1 q2 q3 q4 q5 q5a; replace BR := Lib.hid (BR.out.below B12); replace BB := Lib.hid (BB.out.trans (B12.mono BB.out.size))
  have HT := Lib.hid (show Held W2 { u with laid := s.laid } a1 from by
    have h := OW.out.held.below B12
    exact ⟨h.words, h.keys, h.vals, h.counts, ⟨h.caps.w0, h.caps.k0, h.caps.v0, h.caps.c0, h.caps.w1, h.caps.k1, h.caps.v1, h.caps.c1⟩⟩)
  have CS1 := Lib.hid (CS.out W2 a1 HT.out (HP.out.below BB.out)); unfold slv at CS1
  dsimp only at CS1
  rw [hu1] at CS1; have X2o := X2.out; obtain ⟨_, q0, q1, q2, q3, q4, q5, _⟩ := X2o
  dsimp only at q0 q1 q2 q3 q4 q5
  rw [hu1] at q0; have Z2 := Lib.hid z2; clear B12 z2 OW CS BX X2 HT hu1
  go_wp2_with fail
  refine CS1.out.mono ?_; rintro e w3 ⟨a3, rfl, own, sep, lies, hb⟩; replace BR := Lib.hid (BR.out.below hb); obtain ⟨_, s0, s1, s2, s3, s4, s5, sf⟩ := BR.out; have sf0 := sf 0; have sf1 := sf 1; have sf2 := sf 2; have sf3 := sf 3; have sf4 := sf 4; have sf5 := sf 5; have FIN := Lib.hid (put6_fin (r := w.heap.size + 1) own sep lies (BB.out.trans (hb.mono BB.out.size)) (by have := Z2.out; omega) (by omega)); clear own sep lies hb sf q0 q1 q2 q3 q4 q5; unfold slv; go_wp2; refine bodyPost_ret (v := slv t a3) (by simp [results, Tryz.results91, go_sem, slv, s0, s1, s2, s3, s4, s5, sf0, sf1, sf2, sf3, sf4, sf5]) rfl ?_; exact ⟨_, rfl, FIN.out _ _ _ _ _ _⟩

namespace Ly
theorem into_no {s : Sl} {size : Int} {l : List (Int × Int)} (h : intoE s size l.length ≠ 0) : intoS s size l = Sl.none := by unfold intoS; rw [if_neg h]
theorem into_may {s : Sl} (h : s.mayB = true) (size : Int) (n : Nat) : intoE s size n = if Sl.fitsB s.seg size && decide ((n : Int) ≤ size) then 0 else 2 := by unfold intoE intoB; rw [if_pos h]
theorem into_bad {s : Sl} (h : s.mayB = false) (size : Int) (n : Nat) : intoE s size n = 8 := by unfold intoE; rw [h]; rfl
end Ly

end Go.Proofs.YtgcdidklaiaohaaGreatDoor
namespace Go.Proofs.YtgcdidklaiaohaaGreatDoor
open Go.RowKit
set_option linter.unusedVariables false

structure Fine (s : Sl) : Prop where
  ok : s.Ok
  short : s.Short
theorem fine_none : Fine Sl.none := ⟨ok_none, short_none⟩
theorem spread_fine {s : Sl} (h : s.Fit 64) (a b : Nat) (hb : b ≤ 65536) (ps : List (Int × Int)) (hn : ps.length ≤ 65536) (h64 : In64P ps) : Fine (Ly.spreadS s a b ps) := by
  have e : Ly.spreadS s a b ps = (s.wiped a ((b : Int) - (a : Int)).toNat).laidIn (Sp.ofs ps.length a b) ps ps.length := by
    unfold Ly.spreadS Sl.filled; rw [Int.toNat_natCast]
  have h1 := wiped_fit h a ((b : Int) - (a : Int)).toNat (by omega); have h2 := laidIn_fit h1 (Sp.ofs ps.length a b) ps ps.length (by omega) h64; rw [e]; exact ⟨h2.ok, h2.short⟩
end Go.Proofs.YtgcdidklaiaohaaGreatDoor
namespace Go.Proofs.YtgcdidklaiaohaaGreatDoor
open Go.RowKit
set_option linter.unusedVariables false

namespace Ly
/-- What a spread part has. -/
structure Laid (s : Sl) (a b : Nat) (ps : List (Int × Int)) : Prop where
  may : (spreadS s a b ps).mayB = true
  keys : (spreadS s a b ps).keys.length = s.keys.length
  inn : (spreadS s a b ps).of a b = ps
  low : (spreadS s a b ps).of 0 a = s.of 0 a
  high : (spreadS s a b ps).of b s.keys.length = s.of b s.keys.length
  laid : (spreadS s a b ps).laid = (s.laid + ps.length) % 18446744073709551616
  bits : FilledBits s a b (Sp.ofs ps.length a b) ps
  at_ : ∀ k, k < ps.length → (spreadS s a b ps).pairAt ((Sp.ofs ps.length a b).getD k 0).toNat = ps.getD k (0, 0)
theorem laid {s : Sl} (hm : s.May) (hl : s.laid < 18446744073709551616) (hk : s.keys.length ≤ 65536) {a b : Nat} (ps : List (Int × Int)) (hn : a + ps.length ≤ b) (hb : b ≤ s.keys.length) : Laid s a b ps := by
  obtain ⟨r1, r2⟩ := ofs_rising (n := ps.length) (a := a) (b := b) hn (by omega); have F := filled_ok hm hl r1 (by omega) hb r2; exact ⟨may_iff.2 F.may, F.keys, F.inn, F.low, F.high, F.laid, filled_bits hm r1 (by omega) hb r2, fun k hk2 => (F.at_ k (by omega)).2⟩
end Ly
end Go.Proofs.YtgcdidklaiaohaaGreatDoor
