/- What the document's own answers of layer 8 (package shelfmarkref08) return: Spread, Even. What they answer is new memory. -/
import Derived.Test.YtmmkaabefofdeaaDoorM07
import Derived.Test.YtmmkaabefofdeaaDoorRefA074
import Derived.Test.YtmmkaabefofdeaaDoorFn084
import Derived.Deep.RegionHeld3
namespace Go.Proofs.YtmmkaabefofdeaaDoor
open Go.RowKit
set_option linter.unusedVariables false
set_option linter.unusedSimpArgs false

/-- A new row of pairs reads as a list. -/
theorem prow_list {ps : List (Int × Int)} {base : Nat} {w : World} {v : Value} (h : w.ownsRow base 33 2 v ps.length (pcells ps)) : ∃ A c, v = .slice A ps.length c ∧ PLst w A ps := by
  obtain ⟨A, c, h1, h2, _⟩ := own_cells h
  exact ⟨A, c, h1, h2⟩
def In64P (ps : List (Int × Int)) : Prop := ∀ k, In64 (ps.getD k (0, 0)).1 ∧ In64 (ps.getD k (0, 0)).2
theorem of_in64 {s : Sl} (h : s.Ok) (a b : Nat) : In64P (s.of a b) := by
  intro k
  unfold Sl.of
  rw [List.getD_eq_getElem?_getD, List.getElem?_map]
  cases (Oc.places s.words a b)[k]? with
  | none => exact ⟨⟨by show (-9223372036854775808 : Int) ≤ 0; omega, by show (0 : Int) ≤ 9223372036854775807; omega⟩, ⟨by show (-9223372036854775808 : Int) ≤ 0; omega, by show (0 : Int) ≤ 9223372036854775807; omega⟩⟩
  | some j => exact ⟨h.keys j, h.vals j⟩
theorem spread_may {n lo hi : Nat} (h1 : lo + n ≤ hi) (h2 : hi ≤ 65536) : Sp.mayB n lo hi = true := by
  unfold Sp.mayB
  rw [decide_eq_true (show (0 : Int) ≤ (lo : Int) by omega), decide_eq_true (show (lo : Int) ≤ (hi : Int) by omega), decide_eq_true (show (hi : Int) ≤ 65536 by omega), decide_eq_true (show (0 : Int) ≤ (n : Int) by omega), decide_eq_true (show (n : Int) ≤ (hi : Int) - (lo : Int) by omega)]
  rfl

set_option maxRecDepth 100000 in
set_option maxHeartbeats 4000000 in
theorem r8Spread (s : Sl) (a : Ads) (lo hi : Nat) (al : Option Addr) (cal : Nat) (ps : List (Int × Int)) (w : World) (h : Held w s a) (hf : s.Fit 64) (hhi : hi ≤ s.keys.length) (hlo : lo + ps.length ≤ hi) (hp : PLst w al ps) (h64 : In64P ps) :
    Calls Tryd.prog 34 #[slv s a, .int .i64 (lo : Int), .int .i64 (hi : Int), .slice al ps.length cal] w (SPost (Ly.spreadS s lo hi ps) w) := by
  have l2 := hf.short.keys
  have hm := spread_may (n := ps.length) hlo (by omega)
  have CO := Lib.hid (fun W => r7Of ps.length lo hi W hm)
  have LN := Lib.hid (show (Sp.ofs ps.length lo hi).length = ps.length by rw [Sp.ofs_length, Int.toNat_natCast])
  have hin : ∀ k, k < (Sp.ofs ps.length lo hi).length → 0 ≤ (Sp.ofs ps.length lo hi).getD k 0 ∧ (Sp.ofs ps.length lo hi).getD k 0 < s.keys.length := by
    intro k hk
    rw [LN.out] at hk
    have hk2 : k < (ps.length : Int).toNat := by rw [Int.toNat_natCast]; exact hk
    rw [Sp.ofs_at hk2]
    have := Sp.plc_bd hm hk2
    omega
  obtain ⟨t, ht⟩ : ∃ t, t = Ly.spreadS s lo hi ps := ⟨_, rfl⟩
  rw [← ht]
  have CF := Lib.hid (show ∀ W A c, Held W s a → Lst .i64 W A (Sp.ofs ps.length lo hi) → PLst W al ps → Calls Tryd.prog 65 #[.agg #[.int .i64 s.seg, .slice a.w s.words.length a.cw, .slice a.k s.keys.length a.ck, .slice a.v s.vals.length a.cv, .slice a.c s.counts.length a.cc, .int .u64 (s.laid : Int)], .int .i64 (lo : Int), .int .i64 (hi : Int), .slice A ps.length c, .slice al ps.length cal] W (SPost t W) from fun W A c h1 h2 h3 => by
    have q := r4Filled s a lo hi A al c cal (Sp.ofs ps.length lo hi) ps W h1 hf hhi (by omega) h2 h3 LN.out (by omega) hin h64
    rw [LN.out] at q
    rw [ht]
    exact q)
  have HH := Lib.hid h
  obtain ⟨W0, hW0⟩ : ∃ W0, W0 = (w.alloc (.cells #[.int .i64 s.seg, .slice a.w s.words.length a.cw, .slice a.k s.keys.length a.ck, .slice a.v s.vals.length a.cv, .slice a.c s.counts.length a.cc, .int .u64 (s.laid : Int)] 27)).alloc (.cells #[.int .i64 0, .slice none 0 0, .slice none 0 0, .slice none 0 0, .slice none 0 0, .int .u64 0] 27) := ⟨_, rfl⟩
  have HP := Lib.hid (show PLst W0 al ps by rw [hW0]; exact hp.below (((Below.refl w.heap.size w).alloc (Nat.le_refl _) _).alloc (by simp) _))
  have BX := Lib.hid (show Box W0 w.heap.size s a by rw [hW0]; exact (Box.new w s a 27).below ((Below.refl _ _).alloc (Nat.le_refl _) _))
  have BR := Lib.hid (show Box W0 (w.heap.size + 1) Sl.none adsNone by rw [hW0]; exact Box.second w _ Sl.none adsNone 27)
  have BB := Lib.hid (show Below w.heap.size w W0 by rw [hW0]; exact ((Below.refl w.heap.size w).alloc (Nat.le_refl _) _).alloc (by simp) _)
  have zz : w.heap.size + 2 ≤ W0.heap.size := by rw [hW0]; simp
  clear h hf hp h64 hin ht
  generalize hzs : Sp.ofs ps.length lo hi = zs at *
  clear hzs
  unfold slv
  go_enter Tryd.func34, Tryd.ntmps34
  go_upto_region 1 with (fail)
  rw [← hW0]
  clear hW0

  refine wp_region_held_drew (S := (fun w' => w'.cell? ⟨w.heap.size, 0, none⟩ = some (.int .i64 s.seg) ∧ w'.cell? ⟨w.heap.size, 1, none⟩ = some (.slice a.w s.words.length a.cw) ∧ w'.cell? ⟨w.heap.size, 2, none⟩ = some (.slice a.k s.keys.length a.ck) ∧ w'.cell? ⟨w.heap.size, 3, none⟩ = some (.slice a.v s.vals.length a.cv) ∧ w'.cell? ⟨w.heap.size, 4, none⟩ = some (.slice a.c s.counts.length a.cc) ∧ w'.cell? ⟨w.heap.size, 5, none⟩ = some (.int .u64 (s.laid : Int)))) (by kernel_rfl) (((BX.out.below ((Below.refl _ _).drew)).cellAt)) (fun hHeld => ?_)
  refine wpAnyH_take (i := 0) (oi := Oper.mk _ _ _ _ _ _) (v := ?va0) rfl (by kernel_rfl) (by kernel_rfl) (by kernel_rfl) (fun _ _ _ h => h) (Or.inl ⟨by rfl, ?hya0⟩) (by assumption) ?resta0
  case hya0 =>
    intro w0 hSw
    try dsimp only at hSw
    go_simp
    all_goals with_reducible rfl
  try simp only [Act.put, List.setIfInBounds_toArray, List.set_cons_zero, List.set_cons_succ]
  refine wpAnyH_take (i := 1) (oi := Oper.mk _ _ _ _ _ _) (v := ?va1) rfl (by kernel_rfl) (by kernel_rfl) (by kernel_rfl) (fun _ _ _ h => h) (Or.inl ⟨by rfl, ?hya1⟩) (by assumption) ?resta1
  case hya1 =>
    intro w0 hSw
    try dsimp only at hSw
    go_simp
    all_goals with_reducible rfl
  try simp only [Act.put, List.setIfInBounds_toArray, List.set_cons_zero, List.set_cons_succ]
  refine wpAnyH_take (i := 2) (oi := Oper.mk _ _ _ _ _ _) (v := ?va2) rfl (by kernel_rfl) (by kernel_rfl) (by kernel_rfl) (fun _ _ _ h => h) (Or.inl ⟨by rfl, ?hya2⟩) (by assumption) ?resta2
  case hya2 =>
    intro w0 hSw
    try dsimp only at hSw
    go_simp
    all_goals with_reducible rfl
  try simp only [Act.put, List.setIfInBounds_toArray, List.set_cons_zero, List.set_cons_succ]
  refine wpAnyH_take (i := 3) (oi := Oper.mk _ _ _ _ _ _) (v := ?va3) rfl (by kernel_rfl) (by kernel_rfl) (by kernel_rfl) (fun _ _ _ h => h) (Or.inl ⟨by rfl, ?hya3⟩) (by assumption) ?resta3
  case hya3 =>
    intro w0 hSw
    try dsimp only at hSw
    go_simp
    all_goals with_reducible rfl
  try simp only [Act.put, List.setIfInBounds_toArray, List.set_cons_zero, List.set_cons_succ]
  refine wpAnyH_take (i := 4) (oi := Oper.mk _ _ _ _ _ _) (v := ?va4) rfl (by kernel_rfl) (by kernel_rfl) (by kernel_rfl) (fun _ _ _ h => h) (Or.inl ⟨by rfl, ?hya4⟩) (by assumption) ?resta4
  case hya4 =>
    intro w0 hSw
    try dsimp only at hSw
    go_simp
    all_goals with_reducible rfl
  try simp only [Act.put, List.setIfInBounds_toArray, List.set_cons_zero, List.set_cons_succ]
  refine wpAnyH_take (i := 5) (oi := Oper.mk _ _ _ _ _ _) (v := ?va5) rfl (by kernel_rfl) (by kernel_rfl) (by kernel_rfl) (fun _ _ _ h => h) (Or.inl ⟨by rfl, ?hya5⟩) (by assumption) ?resta5
  case hya5 =>
    intro w0 hSw
    try dsimp only at hSw
    go_simp
    all_goals with_reducible rfl
  try simp only [Act.put, List.setIfInBounds_toArray, List.set_cons_zero, List.set_cons_succ]
  refine wpAnyH_take (i := 6) (oi := Oper.mk _ _ _ _ _ _) (v := ?va6) rfl (by kernel_rfl) (by kernel_rfl) (by kernel_rfl) (fun _ _ _ h => h) (Or.inl ⟨by rfl, ?hya6⟩) (by assumption) ?resta6
  case hya6 =>
    intro w0 hSw
    try dsimp only at hSw
    go_simp
    all_goals with_reducible rfl
  try simp only [Act.put, List.setIfInBounds_toArray, List.set_cons_zero, List.set_cons_succ]
  refine wpAnyH_take (i := 8) (oi := Oper.mk _ _ _ _ _ _) (v := ?va8) rfl (by kernel_rfl) (by kernel_rfl) (by kernel_rfl) (fun _ _ _ h => h) (Or.inl ⟨by rfl, ?hya8⟩) (by assumption) ?resta8
  case hya8 =>
    intro w0 hSw
    try dsimp only at hSw
    go_simp
    all_goals with_reducible rfl
  try simp only [Act.put, List.setIfInBounds_toArray, List.set_cons_zero, List.set_cons_succ]
  refine wpAnyH_ready (rs := [7]) (by kernel_rfl) (by simp) ?_
  refine AllReadyH.cons (o := Oper.mk _ _ _ _ _ _) rfl (fun K hK => ?_) AllReadyH.nil
  go_simp
  have dr := (Below.refl W0.heap.size W0).drew
  replace BX := Lib.hid (BX.out.below dr)
  replace BR := Lib.hid (BR.out.below dr)
  replace BB := Lib.hid (BB.out.trans (dr.mono BB.out.size))
  replace HP := Lib.hid (HP.out.below dr)
  replace zz := Nat.le_trans zz dr.size
  clear dr
  refine (CO.out _).mono ?_
  rintro e W5 ⟨v, rfl, hr, hb⟩
  obtain ⟨A1, d1, rfl, hL⟩ := irow_list hr
  rw [LN.out]
  have L5 := Lib.hid hL
  replace BX := Lib.hid (BX.out.below hb)
  replace BR := Lib.hid (BR.out.below hb)
  replace BB := Lib.hid (BB.out.trans (hb.mono BB.out.size))
  replace HP := Lib.hid (HP.out.below hb)
  replace zz := Nat.le_trans zz hb.size
  clear hr hb hL
  try (go_simp)
  refine hK.out _ _ (BX.out.cellAt) (fun hHelda1 => ?_)
  clear hK K hHeld
  try simp only [Act.put, List.setIfInBounds_toArray, List.set_cons_zero, List.set_cons_succ]
  refine wpAnyH_ready (rs := [9]) (by kernel_rfl) (by simp) ?_
  refine AllReadyH.cons (o := Oper.mk _ _ _ _ _ _) rfl (fun K hK => ?_) AllReadyH.nil
  go_simp
  refine (CF.out W5 A1 d1 (HH.out.below BB.out) L5.out HP.out).mono ?_
  rintro e W6 ⟨a3, rfl, own, sep, lies, hb⟩
  replace BX := Lib.hid (BX.out.below hb)
  replace BR := Lib.hid (BR.out.below hb)
  replace BB := Lib.hid (BB.out.trans (hb.mono BB.out.size))
  have FIN := Lib.hid (put6_fin (r := w.heap.size + 1) own sep lies BB.out (by omega) (by omega))
  replace zz := Nat.le_trans zz hb.size
  clear own sep lies hb
  obtain ⟨_, s0, s1, s2, s3, s4, s5, sf⟩ := BR.out
  have sf0 := sf 0
  have sf1 := sf 1
  have sf2 := sf 2
  have sf3 := sf 3
  have sf4 := sf 4
  have sf5 := sf 5
  clear sf
  unfold slv
  try (go_simp)
  refine hK.out _ _ (BX.out.cellAt) (fun hHelda2 => ?_)
  clear hK K hHelda1
  try simp only [Act.put, List.setIfInBounds_toArray, List.set_cons_zero, List.set_cons_succ]
  refine wpAnyH_ready (rs := [10]) (by kernel_rfl) (by simp) ?_
  refine AllReadyH.cons (o := Oper.mk _ _ _ _ _ _) rfl (fun K hK => ?_) AllReadyH.nil
  go_simp
  skip
  refine hK.out _ _ (((BX.out.put6o (g' := w.heap.size + 1) (by omega) _ _ _ _ _ _).cellAt)) (fun hHelda3 => ?_)
  clear hK K hHelda2
  try simp only [Act.put, List.setIfInBounds_toArray, List.set_cons_zero, List.set_cons_succ]
  refine wpAnyH_done (by kernel_rfl) ?_ _
  go_wp2
  refine bodyPost_ret (v := slv t a3) (by simp [results, Tryd.results34, go_sem, slv, s0, s1, s2, s3, s4, s5, sf0, sf1, sf2, sf3, sf4, sf5]) rfl ?_
  exact ⟨_, rfl, FIN.out _ _ _ _ _ _⟩
end Go.Proofs.YtmmkaabefofdeaaDoor
