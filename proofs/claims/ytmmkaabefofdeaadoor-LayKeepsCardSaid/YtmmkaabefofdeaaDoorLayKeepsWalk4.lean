/- The walk of the law LayKeeps: no pair is lost, none doubled, and order stays; the ledger tells the part's pairs. -/
import Derived.Test.YtmmkaabefofdeaaDoorLaw084
import Derived.Test.YtmmkaabefofdeaaDoorPlain8c4
import Derived.Test.YtmmkaabefofdeaaDoorM19
import Derived.Test.YtmmkaabefofdeaaDoorM03
namespace Go.Proofs.YtmmkaabefofdeaaDoor.layKeeps
open Go.RowKit
set_option linter.unusedVariables false
set_option linter.unusedSimpArgs false

theorem wrap_add (m n : Nat) : (((m + n) % 18446744073709551616 : Nat) : Int) = IntKind.u64.wrap ((m : Int) + (n : Int)) := by
  rw [IntKind.wrap_u64]; omega
theorem pairs_short {s : Sl} (hs : s.Short) (a b : Int) : (s.pairsV a b).length ≤ 65536 := by
  by_cases h : s.pairsE a b = 0
  · obtain ⟨_, x, y, rfl, rfl, h1, h2⟩ := Ly.pairs_parts h
    rw [Ly.pairsV_ok h]
    have := Ly.of_len s x y
    have := hs.keys
    omega
  · rw [Ly.pairsV_no h]; exact Nat.zero_le _
/-- A new row of pairs: none at all, or in a block of its own. -/
theorem row8 {ps : List (Int × Int)} {base : Nat} {w : World} {v : Value} (h : w.ownsRow base 33 2 v ps.length (pcells ps)) :
    (ps = [] ∧ v = .slice none 0 0) ∨ ∃ b c, v = .slice (some ⟨b, 0, none⟩) ps.length c ∧ PLst w (some ⟨b, 0, none⟩) ps ∧ ps.length ≤ c := by
  obtain ⟨A, c1, h1, h2, h3, h4, h5⟩ := own_cells h
  rcases h.2 with ⟨hv, h0⟩ | ⟨g, cap, cur, hv, hb, hg, hnc, _, _, ht⟩
  · have hl := List.eq_nil_of_length_eq_zero h0
    subst hl
    exact Or.inl ⟨rfl, hv⟩
  · rw [h1] at hv
    injection hv with e1 e2 e3
    subst e1
    exact Or.inr ⟨g, c1, h1, h2, h5⟩
theorem plst_if {w : World} {b c : Nat} {ps : List (Int × Int)} (h : PLst w (some ⟨b, 0, none⟩) ps) (hc : ps.length ≤ c) (k : Nat) : PLst w (if c = k then some ⟨b, 0, none⟩ else some ⟨b, k * 2, none⟩) (ps.drop k) := by
  split
  · rw [List.drop_of_length_le (by omega)]
    exact Or.inl rfl
  · have := plst_drop h k
    rwa [Nat.zero_add] at this
theorem row9 {ps : List (Int × Int)} {base : Nat} {w : World} {v : Value} (h : w.ownsRow base 33 2 v ps.length (pcells ps)) :
    ∃ A c, v = .slice A ps.length c ∧ PLst w A ps ∧ ps.length ≤ c ∧ ((A = none ∧ ps = [] ∧ c = 0) ∨ ∃ b, A = some ⟨b, 0, none⟩) := by
  rcases row8 h with ⟨h1, h2⟩ | ⟨b, c, h1, h2, h3⟩
  · subst h1
    exact ⟨none, 0, h2, Or.inl rfl, Nat.le_refl _, Or.inl ⟨rfl, rfl, rfl⟩⟩
  · exact ⟨_, c, h1, h2, h3, Or.inr ⟨b, rfl⟩⟩
set_option maxRecDepth 100000 in
set_option maxHeartbeats 2000000 in
theorem great (s : Sl) (a : Ads) (t0 t1 k x1 x2 : Int) (W : World) (h : Held W s a) (hok : s.Ok) (hT : Tab W) (i0 : In64 t0) (i1 : In64 t1) (ik : In64 k) (ix : In64 x1) (iy : In64 x2) (hg : s.greatB 300 = true) :
    Calls Tryd.prog 6 #[slv s a, .agg #[.int .i64 t0, .int .i64 t1], .int .i64 k, pv (x1, x2)] W fun e w' => e = .returned (.bool true) ∧ Below W.heap.size W w' := by
  have HG := Lib.hid hg
  have HA0 := Lib.hid h
  have TB0 := Lib.hid hT
  obtain ⟨W0, hW0⟩ : ∃ W0, W0 = ((W.alloc (.cells #[.int .i64 s.seg, .slice a.w s.words.length a.cw, .slice a.k s.keys.length a.ck, .slice a.v s.vals.length a.cv, .slice a.c s.counts.length a.cc, .int .u64 (s.laid : Int)] 27)).alloc (.cells #[.int .i64 t0, .int .i64 t1] 39)).alloc (.cells #[.int .i64 x1, .int .i64 x2] 33) := ⟨_, rfl⟩
  have BS := Lib.hid (show Box W0 W.heap.size s a by rw [hW0]; exact ((Box.new W s a 27).below ((Below.refl _ _).alloc (Nat.le_refl _) _)).below ((Below.refl _ _).alloc (Nat.le_refl _) _))
  have PS := Lib.hid (show PBox W0 (W.heap.size + 1) (t0, t1) by rw [hW0]; exact (PBox.second W _ (t0, t1) 39).below ((Below.refl _ _).alloc (Nat.le_refl _) _))
  have PQ := Lib.hid (show PBox W0 (W.heap.size + 1 + 1) (x1, x2) by rw [hW0]; have q := PBox.second (W.alloc (.cells #[.int .i64 s.seg, .slice a.w s.words.length a.cw, .slice a.k s.keys.length a.ck, .slice a.v s.vals.length a.cv, .slice a.c s.counts.length a.cc, .int .u64 (s.laid : Int)] 27)) (.cells #[.int .i64 t0, .int .i64 t1] 39) (x1, x2) 33; rwa [World.size_alloc] at q)
  have BB := Lib.hid (show Below W.heap.size W W0 by rw [hW0]; exact (((Below.refl W.heap.size W).alloc (Nat.le_refl _) _).alloc (by simp) _).alloc (by simp; omega) _)
  have CA := Lib.hid (lAlive W0 (hT.below BB.out))
  clear h hok hT hg
  unfold slv pv
  go_enter Tryd.func6, Tryd.ntmps6
  go_upto_region 1 with (fail)
  rw [← hW0]
  clear hW0
  go_wp2_with fail
  refine CA.out.mono ?_
  rintro e w0 ⟨rfl, hb⟩
  replace BB := Lib.hid (BB.out.trans (hb.mono BB.out.size))
  replace BS := Lib.hid (BS.out.below hb)
  replace PS := Lib.hid (PS.out.below hb)
  replace PQ := Lib.hid (PQ.out.below hb)
  clear hb CA
  obtain ⟨_, p0, p1, p2, p3, p4, p5, _⟩ := BS.out
  go_wp2_with fail
  refine (r4Great s a 300 _).mono ?_
  rintro e w1 ⟨rfl, hb⟩
  rw [HG.out]
  replace BB := Lib.hid (BB.out.trans (hb.mono BB.out.size))
  replace BS := Lib.hid (BS.out.below hb)
  replace PS := Lib.hid (PS.out.below hb)
  replace PQ := Lib.hid (PQ.out.below hb)
  clear hb p0 p1 p2 p3 p4 p5
  go_wp2
  go_ret
  exact ⟨rfl, BB.out⟩
set_option maxRecDepth 100000 in
set_option maxHeartbeats 4000000 in
theorem none1 (s : Sl) (a : Ads) (t0 t1 k x1 x2 : Int) (W : World) (h : Held W s a) (hok : s.Ok) (hs : s.Short) (hT : Tab W) (i0 : In64 t0) (i1 : In64 t1) (ik : In64 k) (ix : In64 x1) (iy : In64 x2) (hg : s.greatB 300 = false) (hE : s.pairsE t0 t1 ≠ 0) (hE0 : s.pairsE 0 s.keys.length ≠ 0) :
    Calls Tryd.prog 6 #[slv s a, .agg #[.int .i64 t0, .int .i64 t1], .int .i64 k, pv (x1, x2)] W fun e w' => e = .returned (.bool true) ∧ Below W.heap.size W w' := by
  have HG := Lib.hid hg
  have HA0 := Lib.hid h
  have TB0 := Lib.hid hT
  obtain ⟨W0, hW0⟩ : ∃ W0, W0 = ((W.alloc (.cells #[.int .i64 s.seg, .slice a.w s.words.length a.cw, .slice a.k s.keys.length a.ck, .slice a.v s.vals.length a.cv, .slice a.c s.counts.length a.cc, .int .u64 (s.laid : Int)] 27)).alloc (.cells #[.int .i64 t0, .int .i64 t1] 39)).alloc (.cells #[.int .i64 x1, .int .i64 x2] 33) := ⟨_, rfl⟩
  have BS := Lib.hid (show Box W0 W.heap.size s a by rw [hW0]; exact ((Box.new W s a 27).below ((Below.refl _ _).alloc (Nat.le_refl _) _)).below ((Below.refl _ _).alloc (Nat.le_refl _) _))
  have PS := Lib.hid (show PBox W0 (W.heap.size + 1) (t0, t1) by rw [hW0]; exact (PBox.second W _ (t0, t1) 39).below ((Below.refl _ _).alloc (Nat.le_refl _) _))
  have PQ := Lib.hid (show PBox W0 (W.heap.size + 1 + 1) (x1, x2) by rw [hW0]; have q := PBox.second (W.alloc (.cells #[.int .i64 s.seg, .slice a.w s.words.length a.cw, .slice a.k s.keys.length a.ck, .slice a.v s.vals.length a.cv, .slice a.c s.counts.length a.cc, .int .u64 (s.laid : Int)] 27)) (.cells #[.int .i64 t0, .int .i64 t1] 39) (x1, x2) 33; rwa [World.size_alloc] at q)
  have BB := Lib.hid (show Below W.heap.size W W0 by rw [hW0]; exact (((Below.refl W.heap.size W).alloc (Nat.le_refl _) _).alloc (by simp) _).alloc (by simp; omega) _)
  have CA := Lib.hid (lAlive W0 (hT.below BB.out))
  have CW0 := Lib.hid (show ∀ A V, Held V s A → Tab V → Calls Tryd.prog 23 #[slv s A, .int .i64 0, .int .i64 (s.keys.length : Int)] V (POwn2 (s.pairsV 0 s.keys.length) (s.pairsE 0 s.keys.length) V) from fun A V hv tv => cPairs s A 0 s.keys.length V hv hok hs tv)
  have CIN := Lib.hid (show ∀ A V, Held V s A → Tab V → Calls Tryd.prog 23 #[slv s A, .int .i64 t0, .int .i64 t1] V (POwn2 (s.pairsV t0 t1) (s.pairsE t0 t1) V) from fun A V hv tv => cPairs s A t0 t1 V hv hok hs tv)
  have CE := Lib.hid (show ∀ A V, Held V s A → Tab V → Calls Tryd.prog 11 #[slv s A, .int .i64 t0, .int .i64 t1] V (Ans (Ly.evenS s t0 t1) (s.pairsE t0 t1) V) from fun A V hv tv => yEven s A t0 t1 V hv hok hs tv i0 i1)
  obtain ⟨E0, hEE⟩ : ∃ E, E = s.pairsE 0 s.keys.length := ⟨_, rfl⟩
  rw [← hEE] at hE0 CW0
  have k1 : (E0 != 0) = true := by simp [hE0]
  clear hEE
  obtain ⟨E1, hE1⟩ : ∃ E, E = s.pairsE t0 t1 := ⟨_, rfl⟩
  obtain ⟨S1, hS1⟩ : ∃ S, S = Ly.evenS s t0 t1 := ⟨_, rfl⟩
  have l1 : (S1.keys.length : Int) = 0 := by rw [hS1, Ly.even_no hE]; rfl
  have KL := Lib.hid l1
  rw [← hE1] at hE CE CIN
  rw [← hS1] at CE
  have k2 : (E1 != 0) = true := by simp [hE]
  have k3 : (E1 == E1) = true := by simp
  obtain ⟨L0, hL0⟩ : ∃ S, S = s.pairsV 0 s.keys.length := ⟨_, rfl⟩
  obtain ⟨L1, hL1⟩ : ∃ S, S = s.pairsV t0 t1 := ⟨_, rfl⟩
  rw [← hL0] at CW0
  rw [← hL1] at CIN
  clear h hok hs hT hg hE hE0 hE1 hS1 l1 hL0 hL1
  unfold slv at CE CW0 CIN
  unfold slv pv
  go_enter Tryd.func6, Tryd.ntmps6
  go_upto_region 1 with (fail)
  rw [← hW0]
  clear hW0
  go_wp2_with fail
  refine CA.out.mono ?_
  rintro e w0 ⟨rfl, hb⟩
  replace BB := Lib.hid (BB.out.trans (hb.mono BB.out.size))
  replace BS := Lib.hid (BS.out.below hb)
  replace PS := Lib.hid (PS.out.below hb)
  replace PQ := Lib.hid (PQ.out.below hb)
  clear hb CA
  obtain ⟨_, p0, p1, p2, p3, p4, p5, _⟩ := BS.out
  go_wp2_with fail
  refine (r4Great s a 300 _).mono ?_
  rintro e w1 ⟨rfl, hb⟩
  rw [HG.out]
  replace BB := Lib.hid (BB.out.trans (hb.mono BB.out.size))
  replace BS := Lib.hid (BS.out.below hb)
  replace PS := Lib.hid (PS.out.below hb)
  replace PQ := Lib.hid (PQ.out.below hb)
  clear hb p0 p1 p2 p3 p4 p5
  obtain ⟨_, p0, p1, p2, p3, p4, p5, _⟩ := BS.out
  go_wp2_with fail
  refine (CW0.out a _ (HA0.out.below BB.out) (TB0.out.below BB.out)).mono ?_
  rintro e w2 ⟨v0, rfl, hrow, hb⟩
  replace BB := Lib.hid (BB.out.trans (hb.mono BB.out.size))
  replace BS := Lib.hid (BS.out.below hb)
  replace PS := Lib.hid (PS.out.below hb)
  replace PQ := Lib.hid (PQ.out.below hb)
  clear hrow hb p0 p1 p2 p3 p4 p5
  obtain ⟨_, p0, p1, p2, p3, p4, p5, _⟩ := BS.out
  have d0 := PS.out.c0
  have d1 := PS.out.c1
  try dsimp only at d0 d1
  go_wp2_with fail
  refine (CIN.out a _ (HA0.out.below BB.out) (TB0.out.below BB.out)).mono ?_
  rintro e w3 ⟨v1, rfl, hrow, hb⟩
  replace BB := Lib.hid (BB.out.trans (hb.mono BB.out.size))
  replace BS := Lib.hid (BS.out.below hb)
  replace PS := Lib.hid (PS.out.below hb)
  replace PQ := Lib.hid (PQ.out.below hb)
  clear hrow hb p0 p1 p2 p3 p4 p5 d0 d1
  obtain ⟨_, p0, p1, p2, p3, p4, p5, _⟩ := BS.out
  have d0 := PS.out.c0
  have d1 := PS.out.c1
  try dsimp only at d0 d1
  go_wp2_with fail
  refine (CE.out a _ (HA0.out.below BB.out) (TB0.out.below BB.out)).mono ?_
  rintro e w4 ⟨A1, rfl, own, hb⟩
  replace BB := Lib.hid (BB.out.trans (hb.mono BB.out.size))
  replace BS := Lib.hid (BS.out.below hb)
  replace PS := Lib.hid (PS.out.below hb)
  replace PQ := Lib.hid (PQ.out.below hb)
  clear hb own p0 p1 p2 p3 p4 p5 d0 d1
  unfold slv
  go_upto_region 7 with (fail)
  obtain ⟨V1, hV⟩ : ∃ V, V = w4.alloc (.cells #[.int .i64 S1.seg, .slice A1.w S1.words.length A1.cw, .slice A1.k S1.keys.length A1.ck, .slice A1.v S1.vals.length A1.cv, .slice A1.c S1.counts.length A1.cc, .int .u64 (S1.laid : Int)] 27) := ⟨_, rfl⟩
  have hba : Below w4.heap.size w4 V1 := by rw [hV]; exact (Below.refl _ _).alloc (Nat.le_refl _) _
  have B1 := Lib.hid (show Box V1 w4.heap.size S1 A1 by rw [hV]; exact Box.new w4 S1 A1 27)
  first | rw [← hV] | skip
  replace BB := Lib.hid (BB.out.trans (hba.mono BB.out.size))
  replace BS := Lib.hid (BS.out.below hba)
  replace PS := Lib.hid (PS.out.below hba)
  replace PQ := Lib.hid (PQ.out.below hba)
  clear hV hba
  obtain ⟨_, p0, p1, p2, p3, p4, p5, _⟩ := B1.out
  rw [show S1.keys.length = 0 from by have := KL.out; omega] at p2
  go_wp2
  go_ret
  exact ⟨rfl, BB.out⟩
set_option maxRecDepth 100000 in
set_option maxHeartbeats 4000000 in
theorem none2 (s : Sl) (a : Ads) (t0 t1 k x1 x2 : Int) (W : World) (h : Held W s a) (hok : s.Ok) (hs : s.Short) (hT : Tab W) (i0 : In64 t0) (i1 : In64 t1) (ik : In64 k) (ix : In64 x1) (iy : In64 x2) (hg : s.greatB 300 = false) (hE : s.pairsE t0 t1 ≠ 0) (hE0 : s.pairsE 0 s.keys.length = 0) :
    Calls Tryd.prog 6 #[slv s a, .agg #[.int .i64 t0, .int .i64 t1], .int .i64 k, pv (x1, x2)] W fun e w' => e = .returned (.bool true) ∧ Below W.heap.size W w' := by
  have HG := Lib.hid hg
  have HA0 := Lib.hid h
  have TB0 := Lib.hid hT
  obtain ⟨W0, hW0⟩ : ∃ W0, W0 = ((W.alloc (.cells #[.int .i64 s.seg, .slice a.w s.words.length a.cw, .slice a.k s.keys.length a.ck, .slice a.v s.vals.length a.cv, .slice a.c s.counts.length a.cc, .int .u64 (s.laid : Int)] 27)).alloc (.cells #[.int .i64 t0, .int .i64 t1] 39)).alloc (.cells #[.int .i64 x1, .int .i64 x2] 33) := ⟨_, rfl⟩
  have BS := Lib.hid (show Box W0 W.heap.size s a by rw [hW0]; exact ((Box.new W s a 27).below ((Below.refl _ _).alloc (Nat.le_refl _) _)).below ((Below.refl _ _).alloc (Nat.le_refl _) _))
  have PS := Lib.hid (show PBox W0 (W.heap.size + 1) (t0, t1) by rw [hW0]; exact (PBox.second W _ (t0, t1) 39).below ((Below.refl _ _).alloc (Nat.le_refl _) _))
  have PQ := Lib.hid (show PBox W0 (W.heap.size + 1 + 1) (x1, x2) by rw [hW0]; have q := PBox.second (W.alloc (.cells #[.int .i64 s.seg, .slice a.w s.words.length a.cw, .slice a.k s.keys.length a.ck, .slice a.v s.vals.length a.cv, .slice a.c s.counts.length a.cc, .int .u64 (s.laid : Int)] 27)) (.cells #[.int .i64 t0, .int .i64 t1] 39) (x1, x2) 33; rwa [World.size_alloc] at q)
  have BB := Lib.hid (show Below W.heap.size W W0 by rw [hW0]; exact (((Below.refl W.heap.size W).alloc (Nat.le_refl _) _).alloc (by simp) _).alloc (by simp; omega) _)
  have CA := Lib.hid (lAlive W0 (hT.below BB.out))
  have CW0 := Lib.hid (show ∀ A V, Held V s A → Tab V → Calls Tryd.prog 23 #[slv s A, .int .i64 0, .int .i64 (s.keys.length : Int)] V (POwn2 (s.pairsV 0 s.keys.length) (s.pairsE 0 s.keys.length) V) from fun A V hv tv => cPairs s A 0 s.keys.length V hv hok hs tv)
  have CIN := Lib.hid (show ∀ A V, Held V s A → Tab V → Calls Tryd.prog 23 #[slv s A, .int .i64 t0, .int .i64 t1] V (POwn2 (s.pairsV t0 t1) (s.pairsE t0 t1) V) from fun A V hv tv => cPairs s A t0 t1 V hv hok hs tv)
  have CE := Lib.hid (show ∀ A V, Held V s A → Tab V → Calls Tryd.prog 11 #[slv s A, .int .i64 t0, .int .i64 t1] V (Ans (Ly.evenS s t0 t1) (s.pairsE t0 t1) V) from fun A V hv tv => yEven s A t0 t1 V hv hok hs tv i0 i1)
  rw [hE0] at CW0
  obtain ⟨E1, hE1⟩ : ∃ E, E = s.pairsE t0 t1 := ⟨_, rfl⟩
  obtain ⟨S1, hS1⟩ : ∃ S, S = Ly.evenS s t0 t1 := ⟨_, rfl⟩
  have l1 : (S1.keys.length : Int) = 0 := by rw [hS1, Ly.even_no hE]; rfl
  have KL := Lib.hid l1
  rw [← hE1] at hE CE CIN
  rw [← hS1] at CE
  have k2 : (E1 != 0) = true := by simp [hE]
  have k3 : (E1 == E1) = true := by simp
  obtain ⟨L0, hL0⟩ : ∃ S, S = s.pairsV 0 s.keys.length := ⟨_, rfl⟩
  obtain ⟨L1, hL1⟩ : ∃ S, S = s.pairsV t0 t1 := ⟨_, rfl⟩
  rw [← hL0] at CW0
  rw [← hL1] at CIN
  clear h hok hs hT hg hE hE0 hE1 hS1 l1 hL0 hL1
  unfold slv at CE CW0 CIN
  unfold slv pv
  go_enter Tryd.func6, Tryd.ntmps6
  go_upto_region 1 with (fail)
  rw [← hW0]
  clear hW0
  go_wp2_with fail
  refine CA.out.mono ?_
  rintro e w0 ⟨rfl, hb⟩
  replace BB := Lib.hid (BB.out.trans (hb.mono BB.out.size))
  replace BS := Lib.hid (BS.out.below hb)
  replace PS := Lib.hid (PS.out.below hb)
  replace PQ := Lib.hid (PQ.out.below hb)
  clear hb CA
  obtain ⟨_, p0, p1, p2, p3, p4, p5, _⟩ := BS.out
  go_wp2_with fail
  refine (r4Great s a 300 _).mono ?_
  rintro e w1 ⟨rfl, hb⟩
  rw [HG.out]
  replace BB := Lib.hid (BB.out.trans (hb.mono BB.out.size))
  replace BS := Lib.hid (BS.out.below hb)
  replace PS := Lib.hid (PS.out.below hb)
  replace PQ := Lib.hid (PQ.out.below hb)
  clear hb p0 p1 p2 p3 p4 p5
  obtain ⟨_, p0, p1, p2, p3, p4, p5, _⟩ := BS.out
  go_wp2_with fail
  refine (CW0.out a _ (HA0.out.below BB.out) (TB0.out.below BB.out)).mono ?_
  rintro e w2 ⟨v0, rfl, hrow, hb⟩
  replace BB := Lib.hid (BB.out.trans (hb.mono BB.out.size))
  replace BS := Lib.hid (BS.out.below hb)
  replace PS := Lib.hid (PS.out.below hb)
  replace PQ := Lib.hid (PQ.out.below hb)
  clear hrow hb p0 p1 p2 p3 p4 p5
  obtain ⟨_, p0, p1, p2, p3, p4, p5, _⟩ := BS.out
  have d0 := PS.out.c0
  have d1 := PS.out.c1
  try dsimp only at d0 d1
  go_wp2_with fail
  refine (CIN.out a _ (HA0.out.below BB.out) (TB0.out.below BB.out)).mono ?_
  rintro e w3 ⟨v1, rfl, hrow, hb⟩
  replace BB := Lib.hid (BB.out.trans (hb.mono BB.out.size))
  replace BS := Lib.hid (BS.out.below hb)
  replace PS := Lib.hid (PS.out.below hb)
  replace PQ := Lib.hid (PQ.out.below hb)
  clear hrow hb p0 p1 p2 p3 p4 p5 d0 d1
  obtain ⟨_, p0, p1, p2, p3, p4, p5, _⟩ := BS.out
  have d0 := PS.out.c0
  have d1 := PS.out.c1
  try dsimp only at d0 d1
  go_wp2_with fail
  refine (CE.out a _ (HA0.out.below BB.out) (TB0.out.below BB.out)).mono ?_
  rintro e w4 ⟨A1, rfl, own, hb⟩
  replace BB := Lib.hid (BB.out.trans (hb.mono BB.out.size))
  replace BS := Lib.hid (BS.out.below hb)
  replace PS := Lib.hid (PS.out.below hb)
  replace PQ := Lib.hid (PQ.out.below hb)
  clear hb own p0 p1 p2 p3 p4 p5 d0 d1
  unfold slv
  go_upto_region 7 with (fail)
  obtain ⟨V1, hV⟩ : ∃ V, V = w4.alloc (.cells #[.int .i64 S1.seg, .slice A1.w S1.words.length A1.cw, .slice A1.k S1.keys.length A1.ck, .slice A1.v S1.vals.length A1.cv, .slice A1.c S1.counts.length A1.cc, .int .u64 (S1.laid : Int)] 27) := ⟨_, rfl⟩
  have hba : Below w4.heap.size w4 V1 := by rw [hV]; exact (Below.refl _ _).alloc (Nat.le_refl _) _
  have B1 := Lib.hid (show Box V1 w4.heap.size S1 A1 by rw [hV]; exact Box.new w4 S1 A1 27)
  first | rw [← hV] | skip
  replace BB := Lib.hid (BB.out.trans (hba.mono BB.out.size))
  replace BS := Lib.hid (BS.out.below hba)
  replace PS := Lib.hid (PS.out.below hba)
  replace PQ := Lib.hid (PQ.out.below hba)
  clear hV hba
  obtain ⟨_, p0, p1, p2, p3, p4, p5, _⟩ := B1.out
  rw [show S1.keys.length = 0 from by have := KL.out; omega] at p2
  go_wp2
  go_ret
  exact ⟨rfl, BB.out⟩
set_option maxRecDepth 100000 in
set_option maxHeartbeats 8000000 in
theorem some1 (s : Sl) (a : Ads) (t0 t1 k x1 x2 : Int) (W : World) (h : Held W s a) (hok : s.Ok) (hs : s.Short) (hT : Tab W) (i0 : In64 t0) (i1 : In64 t1) (ik : In64 k) (ix : In64 x1) (iy : In64 x2) (hg : s.greatB 300 = false) (hE : s.pairsE t0 t1 = 0) (hw : Ly.withE s t0 t1 k ≠ 0) :
    Calls Tryd.prog 6 #[slv s a, .agg #[.int .i64 t0, .int .i64 t1], .int .i64 k, pv (x1, x2)] W fun e w' => e = .returned (.bool true) ∧ Below W.heap.size W w' := by
  have HG := Lib.hid hg
  have HA0 := Lib.hid h
  have TB0 := Lib.hid hT
  obtain ⟨W0, hW0⟩ : ∃ W0, W0 = ((W.alloc (.cells #[.int .i64 s.seg, .slice a.w s.words.length a.cw, .slice a.k s.keys.length a.ck, .slice a.v s.vals.length a.cv, .slice a.c s.counts.length a.cc, .int .u64 (s.laid : Int)] 27)).alloc (.cells #[.int .i64 t0, .int .i64 t1] 39)).alloc (.cells #[.int .i64 x1, .int .i64 x2] 33) := ⟨_, rfl⟩
  have BS := Lib.hid (show Box W0 W.heap.size s a by rw [hW0]; exact ((Box.new W s a 27).below ((Below.refl _ _).alloc (Nat.le_refl _) _)).below ((Below.refl _ _).alloc (Nat.le_refl _) _))
  have PS := Lib.hid (show PBox W0 (W.heap.size + 1) (t0, t1) by rw [hW0]; exact (PBox.second W _ (t0, t1) 39).below ((Below.refl _ _).alloc (Nat.le_refl _) _))
  have PQ := Lib.hid (show PBox W0 (W.heap.size + 1 + 1) (x1, x2) by rw [hW0]; have q := PBox.second (W.alloc (.cells #[.int .i64 s.seg, .slice a.w s.words.length a.cw, .slice a.k s.keys.length a.ck, .slice a.v s.vals.length a.cv, .slice a.c s.counts.length a.cc, .int .u64 (s.laid : Int)] 27)) (.cells #[.int .i64 t0, .int .i64 t1] 39) (x1, x2) 33; rwa [World.size_alloc] at q)
  have BB := Lib.hid (show Below W.heap.size W W0 by rw [hW0]; exact (((Below.refl W.heap.size W).alloc (Nat.le_refl _) _).alloc (by simp) _).alloc (by simp; omega) _)
  have CA := Lib.hid (lAlive W0 (hT.below BB.out))
  have CW0 := Lib.hid (show ∀ A V, Held V s A → Tab V → Calls Tryd.prog 23 #[slv s A, .int .i64 0, .int .i64 (s.keys.length : Int)] V (POwn2 (s.pairsV 0 s.keys.length) (s.pairsE 0 s.keys.length) V) from fun A V hv tv => cPairs s A 0 s.keys.length V hv hok hs tv)
  have CIN := Lib.hid (show ∀ A V, Held V s A → Tab V → Calls Tryd.prog 23 #[slv s A, .int .i64 t0, .int .i64 t1] V (POwn2 (s.pairsV t0 t1) (s.pairsE t0 t1) V) from fun A V hv tv => cPairs s A t0 t1 V hv hok hs tv)
  have CE := Lib.hid (show ∀ A V, Held V s A → Tab V → Calls Tryd.prog 11 #[slv s A, .int .i64 t0, .int .i64 t1] V (Ans (Ly.evenS s t0 t1) (s.pairsE t0 t1) V) from fun A V hv tv => yEven s A t0 t1 V hv hok hs tv i0 i1)
  obtain ⟨z0, z1, z2, z3, z4, z5⟩ := Ly.even_pairs hok hs hE
  have F1 := even_fine hok hs t0 t1
  have hln := pairs_short hs t0 t1
  have hl0 := pairs_short hs 0 s.keys.length
  have CNOW := Lib.hid (show ∀ A V, Held V (Ly.evenS s t0 t1) A → Tab V → Calls Tryd.prog 23 #[slv (Ly.evenS s t0 t1) A, .int .i64 0, .int .i64 ((Ly.evenS s t0 t1).keys.length : Int)] V (POwn2 ((Ly.evenS s t0 t1).pairsV 0 (Ly.evenS s t0 t1).keys.length) ((Ly.evenS s t0 t1).pairsE 0 (Ly.evenS s t0 t1).keys.length) V) from fun A V hv tv => cPairs (Ly.evenS s t0 t1) A 0 (Ly.evenS s t0 t1).keys.length V hv F1.ok F1.short tv)
  have CPART := Lib.hid (show ∀ A V, Held V (Ly.evenS s t0 t1) A → Tab V → Calls Tryd.prog 23 #[slv (Ly.evenS s t0 t1) A, .int .i64 t0, .int .i64 t1] V (POwn2 ((Ly.evenS s t0 t1).pairsV t0 t1) ((Ly.evenS s t0 t1).pairsE t0 t1) V) from fun A V hv tv => cPairs (Ly.evenS s t0 t1) A t0 t1 V hv F1.ok F1.short tv)
  have CWI := Lib.hid (show ∀ A V, Held V s A → Tab V → Calls Tryd.prog 9 #[slv s A, .int .i64 t0, .int .i64 t1, .int .i64 k, .agg #[.int .i64 x1, .int .i64 x2]] V (Ans (Ly.withS s t0 t1 k (x1, x2)) (Ly.withE s t0 t1 k) V) from fun A V hv tv => yWith s A t0 t1 k x1 x2 V hv hok hs tv i0 i1 ik ix iy)
  rw [z1, z2] at CNOW
  rw [z3, z4] at CPART
  rw [z0] at CW0
  rw [hE] at CIN CE
  obtain ⟨E2, hE2⟩ : ∃ E, E = Ly.withE s t0 t1 k := ⟨_, rfl⟩
  obtain ⟨S2, hS2⟩ : ∃ S, S = Ly.withS s t0 t1 k (x1, x2) := ⟨_, rfl⟩
  have l2 : (S2.keys.length : Int) = 0 := by rw [hS2, Ly.with_no hw]; rfl
  have KL := Lib.hid l2
  rw [← hE2] at hw CWI
  rw [← hS2] at CWI
  have k2 : (E2 != 0) = true := by simp [hw]
  obtain ⟨L0, hL0⟩ : ∃ S, S = s.pairsV 0 s.keys.length := ⟨_, rfl⟩
  obtain ⟨L1, hL1⟩ : ∃ S, S = s.pairsV t0 t1 := ⟨_, rfl⟩
  rw [← hL0] at CW0 CNOW hl0
  rw [← hL1] at CIN CPART hln z5
  obtain ⟨S1, hS1⟩ : ∃ S, S = Ly.evenS s t0 t1 := ⟨_, rfl⟩
  rw [← hS1] at CE CNOW CPART z5
  have k6 : IntKind.u64.wrap (L1.length : Int) = (L1.length : Int) := IntWalk.u64_in _ (by omega)
  have k7 : ((S1.laid : Int) != IntKind.u64.wrap ((s.laid : Int) + (L1.length : Int))) = false := by rw [z5, wrap_add]; simp
  clear l2 hE2 hS2
  clear h hok hs hT hg hE hw z0 z1 z2 z3 z4 z5 F1 hL0 hL1 hS1
  unfold slv at CE CW0 CIN CNOW CPART CWI
  unfold slv pv
  go_enter Tryd.func6, Tryd.ntmps6
  go_upto_region 1 with (fail)
  rw [← hW0]
  clear hW0
  go_wp2_with fail
  refine CA.out.mono ?_
  rintro e w0 ⟨rfl, hb⟩
  replace BB := Lib.hid (BB.out.trans (hb.mono BB.out.size))
  replace BS := Lib.hid (BS.out.below hb)
  replace PS := Lib.hid (PS.out.below hb)
  replace PQ := Lib.hid (PQ.out.below hb)
  clear hb CA
  obtain ⟨_, p0, p1, p2, p3, p4, p5, _⟩ := BS.out
  go_wp2_with fail
  refine (r4Great s a 300 _).mono ?_
  rintro e w1 ⟨rfl, hb⟩
  rw [HG.out]
  replace BB := Lib.hid (BB.out.trans (hb.mono BB.out.size))
  replace BS := Lib.hid (BS.out.below hb)
  replace PS := Lib.hid (PS.out.below hb)
  replace PQ := Lib.hid (PQ.out.below hb)
  clear hb p0 p1 p2 p3 p4 p5
  obtain ⟨_, p0, p1, p2, p3, p4, p5, _⟩ := BS.out
  go_wp2_with fail
  refine (CW0.out a _ (HA0.out.below BB.out) (TB0.out.below BB.out)).mono ?_
  rintro e w2 ⟨v0, rfl, hrow, hb⟩
  obtain ⟨AW, cW, rfl, hL⟩ := prow_list hrow
  have RW := Lib.hid hL
  clear hL
  replace BB := Lib.hid (BB.out.trans (hb.mono BB.out.size))
  replace BS := Lib.hid (BS.out.below hb)
  replace PS := Lib.hid (PS.out.below hb)
  replace PQ := Lib.hid (PQ.out.below hb)
  clear hrow hb p0 p1 p2 p3 p4 p5
  obtain ⟨_, p0, p1, p2, p3, p4, p5, _⟩ := BS.out
  have d0 := PS.out.c0
  have d1 := PS.out.c1
  try dsimp only at d0 d1
  go_wp2_with fail
  refine (CIN.out a _ (HA0.out.below BB.out) (TB0.out.below BB.out)).mono ?_
  rintro e w3 ⟨v1, rfl, hrow, hb⟩
  obtain ⟨AI, cI, rfl, hL⟩ := prow_list hrow
  have RI := Lib.hid hL
  clear hL
  replace BB := Lib.hid (BB.out.trans (hb.mono BB.out.size))
  replace BS := Lib.hid (BS.out.below hb)
  replace PS := Lib.hid (PS.out.below hb)
  replace PQ := Lib.hid (PQ.out.below hb)
  replace RW := Lib.hid (RW.out.below hb)
  clear hrow hb p0 p1 p2 p3 p4 p5 d0 d1
  obtain ⟨_, p0, p1, p2, p3, p4, p5, _⟩ := BS.out
  have d0 := PS.out.c0
  have d1 := PS.out.c1
  try dsimp only at d0 d1
  go_wp2_with fail
  refine (CE.out a _ (HA0.out.below BB.out) (TB0.out.below BB.out)).mono ?_
  rintro e w4 ⟨A1, rfl, own, hb⟩
  have O1 := Lib.hid own.held
  replace BB := Lib.hid (BB.out.trans (hb.mono BB.out.size))
  replace BS := Lib.hid (BS.out.below hb)
  replace PS := Lib.hid (PS.out.below hb)
  replace PQ := Lib.hid (PQ.out.below hb)
  replace RW := Lib.hid (RW.out.below hb)
  replace RI := Lib.hid (RI.out.below hb)
  clear hb own p0 p1 p2 p3 p4 p5 d0 d1
  unfold slv
  go_upto_region 7 with (fail)
  obtain ⟨V1, hV⟩ : ∃ V, V = w4.alloc (.cells #[.int .i64 S1.seg, .slice A1.w S1.words.length A1.cw, .slice A1.k S1.keys.length A1.ck, .slice A1.v S1.vals.length A1.cv, .slice A1.c S1.counts.length A1.cc, .int .u64 (S1.laid : Int)] 27) := ⟨_, rfl⟩
  have hba : Below w4.heap.size w4 V1 := by rw [hV]; exact (Below.refl _ _).alloc (Nat.le_refl _) _
  have B1 := Lib.hid (show Box V1 w4.heap.size S1 A1 by rw [hV]; exact Box.new w4 S1 A1 27)
  first | rw [← hV] | skip
  replace BB := Lib.hid (BB.out.trans (hba.mono BB.out.size))
  replace BS := Lib.hid (BS.out.below hba)
  replace PS := Lib.hid (PS.out.below hba)
  replace PQ := Lib.hid (PQ.out.below hba)
  replace RW := Lib.hid (RW.out.below hba)
  replace RI := Lib.hid (RI.out.below hba)
  replace O1 := Lib.hid (O1.out.below hba)
  clear hV hba
  obtain ⟨_, p0, p1, p2, p3, p4, p5, _⟩ := B1.out
  go_wp2_with fail
  refine (CNOW.out A1 _ O1.out (TB0.out.below BB.out)).mono ?_
  rintro e w5 ⟨v5, rfl, hrow, hb⟩
  obtain ⟨AN, cN, rfl, hL⟩ := prow_list hrow
  have RN := Lib.hid hL
  clear hL
  replace BB := Lib.hid (BB.out.trans (hb.mono BB.out.size))
  replace BS := Lib.hid (BS.out.below hb)
  replace PS := Lib.hid (PS.out.below hb)
  replace PQ := Lib.hid (PQ.out.below hb)
  replace RW := Lib.hid (RW.out.below hb)
  replace RI := Lib.hid (RI.out.below hb)
  replace O1 := Lib.hid (O1.out.below hb)
  replace B1 := Lib.hid (B1.out.below hb)
  clear hrow hb p0 p1 p2 p3 p4 p5
  obtain ⟨_, p0, p1, p2, p3, p4, p5, _⟩ := B1.out
  have d0 := PS.out.c0
  have d1 := PS.out.c1
  try dsimp only at d0 d1
  go_wp2_with fail
  refine (CPART.out A1 _ O1.out (TB0.out.below BB.out)).mono ?_
  rintro e w6 ⟨v6, rfl, hrow, hb⟩
  obtain ⟨AP, cP, rfl, hL⟩ := prow_list hrow
  have RP := Lib.hid hL
  clear hL
  replace BB := Lib.hid (BB.out.trans (hb.mono BB.out.size))
  replace BS := Lib.hid (BS.out.below hb)
  replace PS := Lib.hid (PS.out.below hb)
  replace PQ := Lib.hid (PQ.out.below hb)
  replace RW := Lib.hid (RW.out.below hb)
  replace RI := Lib.hid (RI.out.below hb)
  replace O1 := Lib.hid (O1.out.below hb)
  replace B1 := Lib.hid (B1.out.below hb)
  replace RN := Lib.hid (RN.out.below hb)
  clear hrow hb p0 p1 p2 p3 p4 p5 d0 d1
  go_wp2_with fail
  refine (r4SamePairs AN AW cN cW L0 L0 _ RN.out RW.out (by omega) (by omega)).mono ?_
  rintro e w7 ⟨rfl, hb⟩
  rw [show (L0 == L0) = true from beq_self_eq_true L0]
  replace BB := Lib.hid (BB.out.trans (hb.mono BB.out.size))
  replace BS := Lib.hid (BS.out.below hb)
  replace PS := Lib.hid (PS.out.below hb)
  replace PQ := Lib.hid (PQ.out.below hb)
  replace RW := Lib.hid (RW.out.below hb)
  replace RI := Lib.hid (RI.out.below hb)
  replace O1 := Lib.hid (O1.out.below hb)
  replace B1 := Lib.hid (B1.out.below hb)
  replace RN := Lib.hid (RN.out.below hb)
  replace RP := Lib.hid (RP.out.below hb)
  clear hb
  go_wp2_with fail
  refine (r4SamePairs AP AI cP cI L1 L1 _ RP.out RI.out (by omega) (by omega)).mono ?_
  rintro e w8 ⟨rfl, hb⟩
  rw [show (L1 == L1) = true from beq_self_eq_true L1]
  replace BB := Lib.hid (BB.out.trans (hb.mono BB.out.size))
  replace BS := Lib.hid (BS.out.below hb)
  replace PS := Lib.hid (PS.out.below hb)
  replace PQ := Lib.hid (PQ.out.below hb)
  replace RW := Lib.hid (RW.out.below hb)
  replace RI := Lib.hid (RI.out.below hb)
  replace O1 := Lib.hid (O1.out.below hb)
  replace B1 := Lib.hid (B1.out.below hb)
  replace RN := Lib.hid (RN.out.below hb)
  replace RP := Lib.hid (RP.out.below hb)
  clear hb RN RP RW O1
  obtain ⟨_, q0, q1, q2, q3, q4, q5, _⟩ := B1.out
  obtain ⟨_, p0, p1, p2, p3, p4, p5, _⟩ := BS.out
  have d0 := PS.out.c0
  have d1 := PS.out.c1
  try dsimp only at d0 d1
  have e0 := PQ.out.c0
  have e1 := PQ.out.c1
  try dsimp only at e0 e1
  go_wp2_with fail
  refine (CWI.out a _ (HA0.out.below BB.out) (TB0.out.below BB.out)).mono ?_
  rintro e w9 ⟨A2, rfl, own, hb⟩
  have O2 := Lib.hid own.held
  replace BB := Lib.hid (BB.out.trans (hb.mono BB.out.size))
  replace BS := Lib.hid (BS.out.below hb)
  replace PS := Lib.hid (PS.out.below hb)
  replace PQ := Lib.hid (PQ.out.below hb)
  replace RI := Lib.hid (RI.out.below hb)
  replace B1 := Lib.hid (B1.out.below hb)
  clear hb own p0 p1 p2 p3 p4 p5 d0 d1 e0 e1 q0 q1 q2 q3 q4 q5 B1
  unfold slv
  go_upto_region 14 with (fail)
  obtain ⟨V2, hV⟩ : ∃ V, V = w9.alloc (.cells #[.int .i64 S2.seg, .slice A2.w S2.words.length A2.cw, .slice A2.k S2.keys.length A2.ck, .slice A2.v S2.vals.length A2.cv, .slice A2.c S2.counts.length A2.cc, .int .u64 (S2.laid : Int)] 27) := ⟨_, rfl⟩
  have hba : Below w9.heap.size w9 V2 := by rw [hV]; exact (Below.refl _ _).alloc (Nat.le_refl _) _
  have B2 := Lib.hid (show Box V2 w9.heap.size S2 A2 by rw [hV]; exact Box.new w9 S2 A2 27)
  first | rw [← hV] | skip
  replace BB := Lib.hid (BB.out.trans (hba.mono BB.out.size))
  replace BS := Lib.hid (BS.out.below hba)
  replace PS := Lib.hid (PS.out.below hba)
  replace PQ := Lib.hid (PQ.out.below hba)
  replace RI := Lib.hid (RI.out.below hba)
  replace O2 := Lib.hid (O2.out.below hba)
  clear hV hba
  obtain ⟨_, p0, p1, p2, p3, p4, p5, _⟩ := B2.out
  rw [show S2.keys.length = 0 from by have := KL.out; omega] at p2
  go_wp2
  go_ret
  exact ⟨rfl, BB.out⟩
set_option maxRecDepth 100000 in
set_option maxHeartbeats 8000000 in
theorem some2 (s : Sl) (a : Ads) (t0 t1 k x1 x2 : Int) (W : World) (h : Held W s a) (hok : s.Ok) (hs : s.Short) (hT : Tab W) (i0 : In64 t0) (i1 : In64 t1) (ik : In64 k) (ix : In64 x1) (iy : In64 x2) (hg : s.greatB 300 = false) (hE : s.pairsE t0 t1 = 0) (hw : Ly.withE s t0 t1 k = 0) :
    Calls Tryd.prog 6 #[slv s a, .agg #[.int .i64 t0, .int .i64 t1], .int .i64 k, pv (x1, x2)] W fun e w' => e = .returned (.bool true) ∧ Below W.heap.size W w' := by
  have HG := Lib.hid hg
  have HA0 := Lib.hid h
  have TB0 := Lib.hid hT
  obtain ⟨W0, hW0⟩ : ∃ W0, W0 = ((W.alloc (.cells #[.int .i64 s.seg, .slice a.w s.words.length a.cw, .slice a.k s.keys.length a.ck, .slice a.v s.vals.length a.cv, .slice a.c s.counts.length a.cc, .int .u64 (s.laid : Int)] 27)).alloc (.cells #[.int .i64 t0, .int .i64 t1] 39)).alloc (.cells #[.int .i64 x1, .int .i64 x2] 33) := ⟨_, rfl⟩
  have BS := Lib.hid (show Box W0 W.heap.size s a by rw [hW0]; exact ((Box.new W s a 27).below ((Below.refl _ _).alloc (Nat.le_refl _) _)).below ((Below.refl _ _).alloc (Nat.le_refl _) _))
  have PS := Lib.hid (show PBox W0 (W.heap.size + 1) (t0, t1) by rw [hW0]; exact (PBox.second W _ (t0, t1) 39).below ((Below.refl _ _).alloc (Nat.le_refl _) _))
  have PQ := Lib.hid (show PBox W0 (W.heap.size + 1 + 1) (x1, x2) by rw [hW0]; have q := PBox.second (W.alloc (.cells #[.int .i64 s.seg, .slice a.w s.words.length a.cw, .slice a.k s.keys.length a.ck, .slice a.v s.vals.length a.cv, .slice a.c s.counts.length a.cc, .int .u64 (s.laid : Int)] 27)) (.cells #[.int .i64 t0, .int .i64 t1] 39) (x1, x2) 33; rwa [World.size_alloc] at q)
  have BB := Lib.hid (show Below W.heap.size W W0 by rw [hW0]; exact (((Below.refl W.heap.size W).alloc (Nat.le_refl _) _).alloc (by simp) _).alloc (by simp; omega) _)
  have CA := Lib.hid (lAlive W0 (hT.below BB.out))
  have CW0 := Lib.hid (show ∀ A V, Held V s A → Tab V → Calls Tryd.prog 23 #[slv s A, .int .i64 0, .int .i64 (s.keys.length : Int)] V (POwn2 (s.pairsV 0 s.keys.length) (s.pairsE 0 s.keys.length) V) from fun A V hv tv => cPairs s A 0 s.keys.length V hv hok hs tv)
  have CIN := Lib.hid (show ∀ A V, Held V s A → Tab V → Calls Tryd.prog 23 #[slv s A, .int .i64 t0, .int .i64 t1] V (POwn2 (s.pairsV t0 t1) (s.pairsE t0 t1) V) from fun A V hv tv => cPairs s A t0 t1 V hv hok hs tv)
  have CE := Lib.hid (show ∀ A V, Held V s A → Tab V → Calls Tryd.prog 11 #[slv s A, .int .i64 t0, .int .i64 t1] V (Ans (Ly.evenS s t0 t1) (s.pairsE t0 t1) V) from fun A V hv tv => yEven s A t0 t1 V hv hok hs tv i0 i1)
  obtain ⟨z0, z1, z2, z3, z4, z5⟩ := Ly.even_pairs hok hs hE
  have F1 := even_fine hok hs t0 t1
  have hln := pairs_short hs t0 t1
  have hl0 := pairs_short hs 0 s.keys.length
  have CNOW := Lib.hid (show ∀ A V, Held V (Ly.evenS s t0 t1) A → Tab V → Calls Tryd.prog 23 #[slv (Ly.evenS s t0 t1) A, .int .i64 0, .int .i64 ((Ly.evenS s t0 t1).keys.length : Int)] V (POwn2 ((Ly.evenS s t0 t1).pairsV 0 (Ly.evenS s t0 t1).keys.length) ((Ly.evenS s t0 t1).pairsE 0 (Ly.evenS s t0 t1).keys.length) V) from fun A V hv tv => cPairs (Ly.evenS s t0 t1) A 0 (Ly.evenS s t0 t1).keys.length V hv F1.ok F1.short tv)
  have CPART := Lib.hid (show ∀ A V, Held V (Ly.evenS s t0 t1) A → Tab V → Calls Tryd.prog 23 #[slv (Ly.evenS s t0 t1) A, .int .i64 t0, .int .i64 t1] V (POwn2 ((Ly.evenS s t0 t1).pairsV t0 t1) ((Ly.evenS s t0 t1).pairsE t0 t1) V) from fun A V hv tv => cPairs (Ly.evenS s t0 t1) A t0 t1 V hv F1.ok F1.short tv)
  have CWI := Lib.hid (show ∀ A V, Held V s A → Tab V → Calls Tryd.prog 9 #[slv s A, .int .i64 t0, .int .i64 t1, .int .i64 k, .agg #[.int .i64 x1, .int .i64 x2]] V (Ans (Ly.withS s t0 t1 k (x1, x2)) (Ly.withE s t0 t1 k) V) from fun A V hv tv => yWith s A t0 t1 k x1 x2 V hv hok hs tv i0 i1 ik ix iy)
  rw [z1, z2] at CNOW
  rw [z3, z4] at CPART
  rw [z0] at CW0
  rw [hE] at CIN CE
  obtain ⟨m, rfl, hm, y0, y1, y2, y3, y4, y5⟩ := Ly.with_pairs (p := (x1, x2)) hok hs hw
  have F2 := with_fine hok hs t0 t1 m (p := (x1, x2)) ix iy
  have CMORE := Lib.hid (show ∀ A V, Held V (Ly.withS s t0 t1 m (x1, x2)) A → Tab V → Calls Tryd.prog 23 #[slv (Ly.withS s t0 t1 m (x1, x2)) A, .int .i64 t0, .int .i64 t1] V (POwn2 ((Ly.withS s t0 t1 m (x1, x2)).pairsV t0 t1) ((Ly.withS s t0 t1 m (x1, x2)).pairsE t0 t1) V) from fun A V hv tv => cPairs (Ly.withS s t0 t1 m (x1, x2)) A t0 t1 V hv F2.ok F2.short tv)
  have CAH := Lib.hid (show ∀ A V, Held V (Ly.withS s t0 t1 m (x1, x2)) A → Tab V → Calls Tryd.prog 23 #[slv (Ly.withS s t0 t1 m (x1, x2)) A, .int .i64 0, .int .i64 t0] V (POwn2 ((Ly.withS s t0 t1 m (x1, x2)).pairsV 0 t0) ((Ly.withS s t0 t1 m (x1, x2)).pairsE 0 t0) V) from fun A V hv tv => cPairs (Ly.withS s t0 t1 m (x1, x2)) A 0 t0 V hv F2.ok F2.short tv)
  have CFI := Lib.hid (show ∀ A V, Held V s A → Tab V → Calls Tryd.prog 23 #[slv s A, .int .i64 0, .int .i64 t0] V (POwn2 (s.pairsV 0 t0) (s.pairsE 0 t0) V) from fun A V hv tv => cPairs s A 0 t0 V hv hok hs tv)
  have hl2 := pairs_short hs 0 t0
  rw [y0, y1] at CMORE
  rw [y2, y4] at CAH
  rw [y3] at CFI
  rw [hw] at CWI
  obtain ⟨L2, hL2⟩ : ∃ S, S = s.pairsV 0 t0 := ⟨_, rfl⟩
  rw [← hL2] at CAH CFI hl2
  obtain ⟨S2, hS2⟩ : ∃ S, S = Ly.withS s t0 t1 m (x1, x2) := ⟨_, rfl⟩
  rw [← hS2] at CMORE CAH CWI y5
  obtain ⟨L0, hL0⟩ : ∃ S, S = s.pairsV 0 s.keys.length := ⟨_, rfl⟩
  obtain ⟨L1, hL1⟩ : ∃ S, S = s.pairsV t0 t1 := ⟨_, rfl⟩
  rw [← hL0] at CW0 CNOW hl0
  rw [← hL1] at CIN CPART hln z5 CMORE hm y5
  obtain ⟨S1, hS1⟩ : ∃ S, S = Ly.evenS s t0 t1 := ⟨_, rfl⟩
  rw [← hS1] at CE CNOW CPART z5
  have k6 : IntKind.u64.wrap (L1.length : Int) = (L1.length : Int) := IntWalk.u64_in _ (by omega)
  have k7 : ((S1.laid : Int) != IntKind.u64.wrap ((s.laid : Int) + (L1.length : Int))) = false := by rw [z5, wrap_add]; simp
  obtain ⟨M, hM⟩ : ∃ M, M = Ly.among L1 m (x1, x2) := ⟨_, rfl⟩
  have mlen := Ly.among_length L1 m (x1, x2)
  obtain ⟨g0, g1, g2⟩ := Ly.among_at hm (x1, x2)
  rw [← hM] at CMORE mlen g0 g1 g2
  have k8 : IntKind.u64.wrap (M.length : Int) = (M.length : Int) := IntWalk.u64_in _ (by omega)
  have k9 : ((S2.laid : Int) != IntKind.u64.wrap ((s.laid : Int) + (M.length : Int))) = false := by rw [y5, wrap_add, mlen]; simp
  have j1 : decide ((m : Int) < 0) = false := by simp
  have j2 : decide ((m : Int) > (L1.length : Int)) = false := by simp; omega
  have j3 : IntKind.i64.wrap ((L1.length : Int) + 1) = (M.length : Int) := by rw [mlen]; exact IntWalk.i64_in _ (by omega)
  have j4 : ((M.length : Int) != (M.length : Int)) = false := by simp
  have j5 : IntKind.i64.wrap ((m : Int) + 1) = ((m + 1 : Nat) : Int) := IntWalk.i64_in _ (by omega)
  have hmM : m < M.length := by omega
  have GA := Lib.hid (And.intro g0 (And.intro g1 g2))
  have ML := Lib.hid mlen
  clear hM g0 g1 g2 mlen y0 y1 y2 y3 y4 y5 F2 hL2 hS2
  clear h hok hs hT hg hE hw z0 z1 z2 z3 z4 z5 F1 hL0 hL1 hS1
  unfold slv at CE CW0 CIN CNOW CPART CWI CMORE CAH CFI
  unfold slv pv
  go_enter Tryd.func6, Tryd.ntmps6
  go_upto_region 1 with (fail)
  rw [← hW0]
  clear hW0
  go_wp2_with fail
  refine CA.out.mono ?_
  rintro e w0 ⟨rfl, hb⟩
  replace BB := Lib.hid (BB.out.trans (hb.mono BB.out.size))
  replace BS := Lib.hid (BS.out.below hb)
  replace PS := Lib.hid (PS.out.below hb)
  replace PQ := Lib.hid (PQ.out.below hb)
  clear hb CA
  obtain ⟨_, p0, p1, p2, p3, p4, p5, _⟩ := BS.out
  go_wp2_with fail
  refine (r4Great s a 300 _).mono ?_
  rintro e w1 ⟨rfl, hb⟩
  rw [HG.out]
  replace BB := Lib.hid (BB.out.trans (hb.mono BB.out.size))
  replace BS := Lib.hid (BS.out.below hb)
  replace PS := Lib.hid (PS.out.below hb)
  replace PQ := Lib.hid (PQ.out.below hb)
  clear hb p0 p1 p2 p3 p4 p5
  obtain ⟨_, p0, p1, p2, p3, p4, p5, _⟩ := BS.out
  go_wp2_with fail
  refine (CW0.out a _ (HA0.out.below BB.out) (TB0.out.below BB.out)).mono ?_
  rintro e w2 ⟨v0, rfl, hrow, hb⟩
  obtain ⟨AW, cW, rfl, hL⟩ := prow_list hrow
  have RW := Lib.hid hL
  clear hL
  replace BB := Lib.hid (BB.out.trans (hb.mono BB.out.size))
  replace BS := Lib.hid (BS.out.below hb)
  replace PS := Lib.hid (PS.out.below hb)
  replace PQ := Lib.hid (PQ.out.below hb)
  clear hrow hb p0 p1 p2 p3 p4 p5
  obtain ⟨_, p0, p1, p2, p3, p4, p5, _⟩ := BS.out
  have d0 := PS.out.c0
  have d1 := PS.out.c1
  try dsimp only at d0 d1
  go_wp2_with fail
  refine (CIN.out a _ (HA0.out.below BB.out) (TB0.out.below BB.out)).mono ?_
  rintro e w3 ⟨v1, rfl, hrow, hb⟩
  have QI := Lib.hid (row9 hrow)
  replace BB := Lib.hid (BB.out.trans (hb.mono BB.out.size))
  replace BS := Lib.hid (BS.out.below hb)
  replace PS := Lib.hid (PS.out.below hb)
  replace PQ := Lib.hid (PQ.out.below hb)
  replace RW := Lib.hid (RW.out.below hb)
  clear hrow hb p0 p1 p2 p3 p4 p5 d0 d1
  obtain ⟨AI, cI, rfl, hRI, hcI, hA⟩ := QI.out
  have RI := Lib.hid hRI
  have KA := Lib.hid hA
  clear QI hRI hA
  obtain ⟨_, p0, p1, p2, p3, p4, p5, _⟩ := BS.out
  have d0 := PS.out.c0
  have d1 := PS.out.c1
  try dsimp only at d0 d1
  go_wp2_with fail
  refine (CE.out a _ (HA0.out.below BB.out) (TB0.out.below BB.out)).mono ?_
  rintro e w4 ⟨A1, rfl, own, hb⟩
  have O1 := Lib.hid own.held
  replace BB := Lib.hid (BB.out.trans (hb.mono BB.out.size))
  replace BS := Lib.hid (BS.out.below hb)
  replace PS := Lib.hid (PS.out.below hb)
  replace PQ := Lib.hid (PQ.out.below hb)
  replace RW := Lib.hid (RW.out.below hb)
  replace RI := Lib.hid (RI.out.below hb)
  clear hb own p0 p1 p2 p3 p4 p5 d0 d1
  unfold slv
  go_upto_region 7 with (fail)
  obtain ⟨V1, hV⟩ : ∃ V, V = w4.alloc (.cells #[.int .i64 S1.seg, .slice A1.w S1.words.length A1.cw, .slice A1.k S1.keys.length A1.ck, .slice A1.v S1.vals.length A1.cv, .slice A1.c S1.counts.length A1.cc, .int .u64 (S1.laid : Int)] 27) := ⟨_, rfl⟩
  have hba : Below w4.heap.size w4 V1 := by rw [hV]; exact (Below.refl _ _).alloc (Nat.le_refl _) _
  have B1 := Lib.hid (show Box V1 w4.heap.size S1 A1 by rw [hV]; exact Box.new w4 S1 A1 27)
  first | rw [← hV] | skip
  replace BB := Lib.hid (BB.out.trans (hba.mono BB.out.size))
  replace BS := Lib.hid (BS.out.below hba)
  replace PS := Lib.hid (PS.out.below hba)
  replace PQ := Lib.hid (PQ.out.below hba)
  replace RW := Lib.hid (RW.out.below hba)
  replace RI := Lib.hid (RI.out.below hba)
  replace O1 := Lib.hid (O1.out.below hba)
  clear hV hba
  obtain ⟨_, p0, p1, p2, p3, p4, p5, _⟩ := B1.out
  go_wp2_with fail
  refine (CNOW.out A1 _ O1.out (TB0.out.below BB.out)).mono ?_
  rintro e w5 ⟨v5, rfl, hrow, hb⟩
  obtain ⟨AN, cN, rfl, hL⟩ := prow_list hrow
  have RN := Lib.hid hL
  clear hL
  replace BB := Lib.hid (BB.out.trans (hb.mono BB.out.size))
  replace BS := Lib.hid (BS.out.below hb)
  replace PS := Lib.hid (PS.out.below hb)
  replace PQ := Lib.hid (PQ.out.below hb)
  replace RW := Lib.hid (RW.out.below hb)
  replace RI := Lib.hid (RI.out.below hb)
  replace O1 := Lib.hid (O1.out.below hb)
  replace B1 := Lib.hid (B1.out.below hb)
  clear hrow hb p0 p1 p2 p3 p4 p5
  obtain ⟨_, p0, p1, p2, p3, p4, p5, _⟩ := B1.out
  have d0 := PS.out.c0
  have d1 := PS.out.c1
  try dsimp only at d0 d1
  go_wp2_with fail
  refine (CPART.out A1 _ O1.out (TB0.out.below BB.out)).mono ?_
  rintro e w6 ⟨v6, rfl, hrow, hb⟩
  obtain ⟨AP, cP, rfl, hL⟩ := prow_list hrow
  have RP := Lib.hid hL
  clear hL
  replace BB := Lib.hid (BB.out.trans (hb.mono BB.out.size))
  replace BS := Lib.hid (BS.out.below hb)
  replace PS := Lib.hid (PS.out.below hb)
  replace PQ := Lib.hid (PQ.out.below hb)
  replace RW := Lib.hid (RW.out.below hb)
  replace RI := Lib.hid (RI.out.below hb)
  replace O1 := Lib.hid (O1.out.below hb)
  replace B1 := Lib.hid (B1.out.below hb)
  replace RN := Lib.hid (RN.out.below hb)
  clear hrow hb p0 p1 p2 p3 p4 p5 d0 d1
  go_wp2_with fail
  refine (r4SamePairs AN AW cN cW L0 L0 _ RN.out RW.out (by omega) (by omega)).mono ?_
  rintro e w7 ⟨rfl, hb⟩
  rw [show (L0 == L0) = true from beq_self_eq_true L0]
  replace BB := Lib.hid (BB.out.trans (hb.mono BB.out.size))
  replace BS := Lib.hid (BS.out.below hb)
  replace PS := Lib.hid (PS.out.below hb)
  replace PQ := Lib.hid (PQ.out.below hb)
  replace RW := Lib.hid (RW.out.below hb)
  replace RI := Lib.hid (RI.out.below hb)
  replace O1 := Lib.hid (O1.out.below hb)
  replace B1 := Lib.hid (B1.out.below hb)
  replace RN := Lib.hid (RN.out.below hb)
  replace RP := Lib.hid (RP.out.below hb)
  clear hb
  go_wp2_with fail
  refine (r4SamePairs AP AI cP cI L1 L1 _ RP.out RI.out (by omega) (by omega)).mono ?_
  rintro e w8 ⟨rfl, hb⟩
  rw [show (L1 == L1) = true from beq_self_eq_true L1]
  replace BB := Lib.hid (BB.out.trans (hb.mono BB.out.size))
  replace BS := Lib.hid (BS.out.below hb)
  replace PS := Lib.hid (PS.out.below hb)
  replace PQ := Lib.hid (PQ.out.below hb)
  replace RW := Lib.hid (RW.out.below hb)
  replace RI := Lib.hid (RI.out.below hb)
  replace O1 := Lib.hid (O1.out.below hb)
  replace B1 := Lib.hid (B1.out.below hb)
  replace RN := Lib.hid (RN.out.below hb)
  replace RP := Lib.hid (RP.out.below hb)
  clear hb RN RP RW O1
  obtain ⟨_, q0, q1, q2, q3, q4, q5, _⟩ := B1.out
  obtain ⟨_, p0, p1, p2, p3, p4, p5, _⟩ := BS.out
  have d0 := PS.out.c0
  have d1 := PS.out.c1
  try dsimp only at d0 d1
  have e0 := PQ.out.c0
  have e1 := PQ.out.c1
  try dsimp only at e0 e1
  go_wp2_with fail
  refine (CWI.out a _ (HA0.out.below BB.out) (TB0.out.below BB.out)).mono ?_
  rintro e w9 ⟨A2, rfl, own, hb⟩
  have O2 := Lib.hid own.held
  replace BB := Lib.hid (BB.out.trans (hb.mono BB.out.size))
  replace BS := Lib.hid (BS.out.below hb)
  replace PS := Lib.hid (PS.out.below hb)
  replace PQ := Lib.hid (PQ.out.below hb)
  replace RI := Lib.hid (RI.out.below hb)
  replace B1 := Lib.hid (B1.out.below hb)
  clear hb own p0 p1 p2 p3 p4 p5 d0 d1 e0 e1 q0 q1 q2 q3 q4 q5 B1
  unfold slv
  go_upto_region 14 with (fail)
  obtain ⟨V2, hV⟩ : ∃ V, V = w9.alloc (.cells #[.int .i64 S2.seg, .slice A2.w S2.words.length A2.cw, .slice A2.k S2.keys.length A2.ck, .slice A2.v S2.vals.length A2.cv, .slice A2.c S2.counts.length A2.cc, .int .u64 (S2.laid : Int)] 27) := ⟨_, rfl⟩
  have hba : Below w9.heap.size w9 V2 := by rw [hV]; exact (Below.refl _ _).alloc (Nat.le_refl _) _
  have B2 := Lib.hid (show Box V2 w9.heap.size S2 A2 by rw [hV]; exact Box.new w9 S2 A2 27)
  first | rw [← hV] | skip
  replace BB := Lib.hid (BB.out.trans (hba.mono BB.out.size))
  replace BS := Lib.hid (BS.out.below hba)
  replace PS := Lib.hid (PS.out.below hba)
  replace PQ := Lib.hid (PQ.out.below hba)
  replace RI := Lib.hid (RI.out.below hba)
  replace O2 := Lib.hid (O2.out.below hba)
  clear hV hba
  obtain ⟨_, p0, p1, p2, p3, p4, p5, _⟩ := B2.out
  have d0 := PS.out.c0
  have d1 := PS.out.c1
  try dsimp only at d0 d1
  go_wp2_with fail
  refine (CMORE.out A2 _ O2.out (TB0.out.below BB.out)).mono ?_
  rintro e w10 ⟨v10, rfl, hrow, hb⟩
  have QM := Lib.hid (row8 hrow)
  replace BB := Lib.hid (BB.out.trans (hb.mono BB.out.size))
  replace BS := Lib.hid (BS.out.below hb)
  replace PS := Lib.hid (PS.out.below hb)
  replace PQ := Lib.hid (PQ.out.below hb)
  replace RI := Lib.hid (RI.out.below hb)
  replace O2 := Lib.hid (O2.out.below hb)
  replace B2 := Lib.hid (B2.out.below hb)
  clear hrow hb p0 p1 p2 p3 p4 p5 d0 d1
  rcases QM.out with ⟨hnil, _⟩ | ⟨bM, cM, rfl, hRM, hcM⟩
  · subst hnil; simp at hmM
  have RM := Lib.hid hRM
  clear QM hRM
  obtain ⟨_, p0, p1, p2, p3, p4, p5, _⟩ := B2.out
  have d0 := PS.out.c0
  have d1 := PS.out.c1
  try dsimp only at d0 d1
  go_wp2_with fail
  refine (CAH.out A2 _ O2.out (TB0.out.below BB.out)).mono ?_
  rintro e w11 ⟨v11, rfl, hrow, hb⟩
  obtain ⟨AH, cH, rfl, hL⟩ := prow_list hrow
  have RH := Lib.hid hL
  clear hL
  replace BB := Lib.hid (BB.out.trans (hb.mono BB.out.size))
  replace BS := Lib.hid (BS.out.below hb)
  replace PS := Lib.hid (PS.out.below hb)
  replace PQ := Lib.hid (PQ.out.below hb)
  replace RI := Lib.hid (RI.out.below hb)
  replace O2 := Lib.hid (O2.out.below hb)
  replace B2 := Lib.hid (B2.out.below hb)
  replace RM := Lib.hid (RM.out.below hb)
  clear hrow hb p0 p1 p2 p3 p4 p5 d0 d1
  obtain ⟨_, p0, p1, p2, p3, p4, p5, _⟩ := BS.out
  have d0 := PS.out.c0
  have d1 := PS.out.c1
  try dsimp only at d0 d1
  go_wp2_with fail
  refine (CFI.out a _ (HA0.out.below BB.out) (TB0.out.below BB.out)).mono ?_
  rintro e w12 ⟨v12, rfl, hrow, hb⟩
  obtain ⟨AF, cF, rfl, hL⟩ := prow_list hrow
  have RF := Lib.hid hL
  clear hL
  replace BB := Lib.hid (BB.out.trans (hb.mono BB.out.size))
  replace BS := Lib.hid (BS.out.below hb)
  replace PS := Lib.hid (PS.out.below hb)
  replace PQ := Lib.hid (PQ.out.below hb)
  replace RI := Lib.hid (RI.out.below hb)
  replace O2 := Lib.hid (O2.out.below hb)
  replace B2 := Lib.hid (B2.out.below hb)
  replace RM := Lib.hid (RM.out.below hb)
  replace RH := Lib.hid (RH.out.below hb)
  clear hrow hb p0 p1 p2 p3 p4 p5 d0 d1
  obtain ⟨b9, o9, e9, _, c1, c2⟩ := RM.out.pair hmM
  injection e9 with e9; injection e9 with e9 e10; subst e9 e10
  rw [GA.out.1] at c1 c2
  dsimp only at c1 c2
  simp only [Nat.zero_add] at c1 c2
  obtain ⟨_, q0, q1, q2, q3, q4, q5, _⟩ := B2.out
  obtain ⟨_, p0, p1, p2, p3, p4, p5, _⟩ := BS.out
  have e0 := PQ.out.c0
  have e1 := PQ.out.c1
  try dsimp only at e0 e1
  go_wp2_with fail
  go_quiet (fail)
  go_wp2_with fail
  have CL1 := Lib.hid (show ∀ V, Hid (Below w12.heap.size w12 V) → Calls Tryd.prog 22 #[.slice AH L2.length cH, .slice AF L2.length cF] V (fun e w' => e = .returned (.bool true) ∧ Below V.heap.size V w') from fun V hv => by
    have := r4SamePairs AH AF cH cF L2 L2 V (RH.out.below hv.out) (RF.out.below hv.out) (by omega) (by omega)
    rwa [show (L2 == L2) = true from beq_self_eq_true L2] at this)
  have lM : M.length = L1.length + 1 := ML.out
  have lI := Lib.hid lM
  clear q0 q1 q2 q3 q4 q5 p0 p1 p2 p3 p4 p5 e0 e1 c1 c2 BS PS PQ B2 O2
  rcases KA.out with ⟨rfl, rfl, rfl⟩ | ⟨bI, rfl⟩
  · obtain rfl : m = 0 := by simpa using hm
    clear hm
    have CL2 := Lib.hid (show ∀ V, Hid (Below w12.heap.size w12 V) → Calls Tryd.prog 22 #[.slice (some ⟨bM, 0, none⟩) 0 cM, .slice none 0 0] V (fun e w' => e = .returned (.bool true) ∧ Below V.heap.size V w') from fun V hv => r4SamePairs (some ⟨bM, 0, none⟩) none cM 0 [] [] V (Or.inl rfl) (Or.inl rfl) (by simp) (by simp))
    have CL3 := Lib.hid (show ∀ A n c V, n = 0 → Hid (Below w12.heap.size w12 V) → Calls Tryd.prog 22 #[.slice A n c, .slice none 0 0] V (fun e w' => e = .returned (.bool true) ∧ Below V.heap.size V w') from fun A n c V hn hv => by
      subst hn
      exact r4SamePairs A none c 0 [] [] V (Or.inl rfl) (Or.inl rfl) (by simp) (by simp))
    have f0 : IntKind.i64.wrap 1 = 1 := by decide
    have f3 : 0 + 1 ≤ cM := by omega
    have f3b : 1 ≤ cM := by omega
    have f3c : ((1 : Nat) : Int) ≤ (M.length : Int) := by omega
    have f3d : 1 ≤ M.length := by omega
    have N0 := Lib.hid (show M.length - 1 = 0 by have := lI.out; simp at this; omega)
    have N1 := Lib.hid (show M.length - (0 + 1) = 0 by have := lI.out; simp at this; omega)
    refine wp_region_held_drew (S := (fun w' => Hid (Below w12.heap.size w12 w'))) (by kernel_rfl) (Lib.hid ((below_drewN (Below.refl _ _) _).drew)) (fun hHeld => ?_)
    refine wpAnyH_take (i := 0) (oi := Oper.mk _ _ _ _ _ _) (v := ?vn0) rfl (by kernel_rfl) (by kernel_rfl) (by kernel_rfl) (fun _ _ _ h => h) (Or.inl ⟨by rfl, ?hyn0⟩) (by assumption) ?restn0
    case hyn0 =>
      intro w0 hSw
      try dsimp only at hSw
      go_simp
      all_goals with_reducible rfl
    try simp only [Act.put, List.setIfInBounds_toArray, List.set_cons_zero, List.set_cons_succ]
    refine wpAnyH_take (i := 1) (oi := Oper.mk _ _ _ _ _ _) (v := ?vn1) rfl (by kernel_rfl) (by kernel_rfl) (by kernel_rfl) (fun _ _ _ h => h) (Or.inl ⟨by rfl, ?hyn1⟩) (by assumption) ?restn1
    case hyn1 =>
      intro w0 hSw
      try dsimp only at hSw
      go_simp
      all_goals with_reducible rfl
    try simp only [Act.put, List.setIfInBounds_toArray, List.set_cons_zero, List.set_cons_succ]
    refine wpAnyH_take (i := 2) (oi := Oper.mk _ _ _ _ _ _) (v := ?vn2) rfl (by kernel_rfl) (by kernel_rfl) (by kernel_rfl) (fun _ _ _ h => h) (Or.inl ⟨by rfl, ?hyn2⟩) (by assumption) ?restn2
    case hyn2 =>
      intro w0 hSw
      try dsimp only at hSw
      go_simp
      all_goals with_reducible rfl
    try simp only [Act.put, List.setIfInBounds_toArray, List.set_cons_zero, List.set_cons_succ]
    refine wpAnyH_take (i := 3) (oi := Oper.mk _ _ _ _ _ _) (v := ?vn3) rfl (by kernel_rfl) (by kernel_rfl) (by kernel_rfl) (fun _ _ _ h => h) (Or.inl ⟨by rfl, ?hyn3⟩) (by assumption) ?restn3
    case hyn3 =>
      intro w0 hSw
      try dsimp only at hSw
      go_simp
      all_goals with_reducible rfl
    try simp only [Act.put, List.setIfInBounds_toArray, List.set_cons_zero, List.set_cons_succ]
    refine wpAnyH_ready (rs := [4]) (by kernel_rfl) (by simp) ?_
    refine AllReadyH.cons (o := Oper.mk _ _ _ _ _ _) rfl (fun K hK => ?_) AllReadyH.nil
    go_simp
    refine (CL1.out _ hHeld).mono ?_
    rintro e W5 ⟨rfl, hb1⟩
    try (go_simp)
    refine hK.out _ _ (Lib.hid (hHeld.out.trans (hb1.mono hHeld.out.size))) (fun hHeldn1 => ?_)
    clear hK K hHeld
    try simp only [Act.put, List.setIfInBounds_toArray, List.set_cons_zero, List.set_cons_succ]
    refine wpAnyH_take (i := 5) (oi := Oper.mk _ _ _ _ _ _) (v := ?vn5) rfl (by kernel_rfl) (by kernel_rfl) (by kernel_rfl) (fun _ _ _ h => h) (Or.inl ⟨by rfl, ?hyn5⟩) (by assumption) ?restn5
    case hyn5 =>
      intro w0 hSw
      try dsimp only at hSw
      go_simp
      all_goals with_reducible rfl
    try simp only [Act.put, List.setIfInBounds_toArray, List.set_cons_zero, List.set_cons_succ]
    refine wpAnyH_take (i := 6) (oi := Oper.mk _ _ _ _ _ _) (v := ?vn6) rfl (by kernel_rfl) (by kernel_rfl) (by kernel_rfl) (fun _ _ _ h => h) (Or.inl ⟨by rfl, ?hyn6⟩) (by assumption) ?restn6
    case hyn6 =>
      intro w0 hSw
      try dsimp only at hSw
      go_simp
      all_goals with_reducible rfl
    try simp only [Act.put, List.setIfInBounds_toArray, List.set_cons_zero, List.set_cons_succ]
    refine wpAnyH_take (i := 7) (oi := Oper.mk _ _ _ _ _ _) (v := ?vn7) rfl (by kernel_rfl) (by kernel_rfl) (by kernel_rfl) (fun _ _ _ h => h) (Or.inl ⟨by rfl, ?hyn7⟩) (by assumption) ?restn7
    case hyn7 =>
      intro w0 hSw
      try dsimp only at hSw
      go_simp
      all_goals with_reducible rfl
    try simp only [Act.put, List.setIfInBounds_toArray, List.set_cons_zero, List.set_cons_succ]
    refine wpAnyH_take (i := 8) (oi := Oper.mk _ _ _ _ _ _) (v := ?vn8) rfl (by kernel_rfl) (by kernel_rfl) (by kernel_rfl) (fun _ _ _ h => h) (Or.inl ⟨by rfl, ?hyn8⟩) (by assumption) ?restn8
    case hyn8 =>
      intro w0 hSw
      try dsimp only at hSw
      go_simp
      all_goals with_reducible rfl
    try simp only [Act.put, List.setIfInBounds_toArray, List.set_cons_zero, List.set_cons_succ]
    refine wpAnyH_take (i := 9) (oi := Oper.mk _ _ _ _ _ _) (v := ?vn9) rfl (by kernel_rfl) (by kernel_rfl) (by kernel_rfl) (fun _ _ _ h => h) (Or.inl ⟨by rfl, ?hyn9⟩) (by assumption) ?restn9
    case hyn9 =>
      intro w0 hSw
      try dsimp only at hSw
      go_simp
      all_goals with_reducible rfl
    try simp only [Act.put, List.setIfInBounds_toArray, List.set_cons_zero, List.set_cons_succ]
    refine wpAnyH_take (i := 10) (oi := Oper.mk _ _ _ _ _ _) (v := ?vn10) rfl (by kernel_rfl) (by kernel_rfl) (by kernel_rfl) (fun _ _ _ h => h) (Or.inl ⟨by rfl, ?hyn10⟩) (by assumption) ?restn10
    case hyn10 =>
      intro w0 hSw
      try dsimp only at hSw
      go_simp
      all_goals with_reducible rfl
    try simp only [Act.put, List.setIfInBounds_toArray, List.set_cons_zero, List.set_cons_succ]
    refine wpAnyH_take (i := 11) (oi := Oper.mk _ _ _ _ _ _) (v := ?vn11) rfl (by kernel_rfl) (by kernel_rfl) (by kernel_rfl) (fun _ _ _ h => h) (Or.inl ⟨by rfl, ?hyn11⟩) (by assumption) ?restn11
    case hyn11 =>
      intro w0 hSw
      try dsimp only at hSw
      go_simp
      all_goals with_reducible rfl
    try simp only [Act.put, List.setIfInBounds_toArray, List.set_cons_zero, List.set_cons_succ]
    refine wpAnyH_take (i := 12) (oi := Oper.mk _ _ _ _ _ _) (v := ?vn12) rfl (by kernel_rfl) (by kernel_rfl) (by kernel_rfl) (fun _ _ _ h => h) (Or.inl ⟨by rfl, ?hyn12⟩) (by assumption) ?restn12
    case hyn12 =>
      intro w0 hSw
      try dsimp only at hSw
      go_simp
      all_goals with_reducible rfl
    try simp only [Act.put, List.setIfInBounds_toArray, List.set_cons_zero, List.set_cons_succ]
    refine wpAnyH_ready (rs := [13]) (by kernel_rfl) (by simp) ?_
    refine AllReadyH.cons (o := Oper.mk _ _ _ _ _ _) rfl (fun K hK => ?_) AllReadyH.nil
    go_simp
    refine (CL2.out _ hHeldn1).mono ?_
    rintro e W6 ⟨rfl, hb2⟩
    try (go_simp)
    refine hK.out _ _ (Lib.hid (hHeldn1.out.trans (hb2.mono hHeldn1.out.size))) (fun hHeldn2 => ?_)
    clear hK K hHeldn1
    try simp only [Act.put, List.setIfInBounds_toArray, List.set_cons_zero, List.set_cons_succ]
    refine wpAnyH_take (i := 14) (oi := Oper.mk _ _ _ _ _ _) (v := ?vn14) rfl (by kernel_rfl) (by kernel_rfl) (by kernel_rfl) (fun _ _ _ h => h) (Or.inl ⟨by rfl, ?hyn14⟩) (by assumption) ?restn14
    case hyn14 =>
      intro w0 hSw
      try dsimp only at hSw
      go_simp
      all_goals with_reducible rfl
    try simp only [Act.put, List.setIfInBounds_toArray, List.set_cons_zero, List.set_cons_succ]
    refine wpAnyH_take (i := 15) (oi := Oper.mk _ _ _ _ _ _) (v := ?vn15) rfl (by kernel_rfl) (by kernel_rfl) (by kernel_rfl) (fun _ _ _ h => h) (Or.inl ⟨by rfl, ?hyn15⟩) (by assumption) ?restn15
    case hyn15 =>
      intro w0 hSw
      try dsimp only at hSw
      go_simp
      all_goals with_reducible rfl
    try simp only [Act.put, List.setIfInBounds_toArray, List.set_cons_zero, List.set_cons_succ]
    refine wpAnyH_take (i := 16) (oi := Oper.mk _ _ _ _ _ _) (v := ?vn16) rfl (by kernel_rfl) (by kernel_rfl) (by kernel_rfl) (fun _ _ _ h => h) (Or.inl ⟨by rfl, ?hyn16⟩) (by assumption) ?restn16
    case hyn16 =>
      intro w0 hSw
      try dsimp only at hSw
      go_simp
      all_goals with_reducible rfl
    try simp only [Act.put, List.setIfInBounds_toArray, List.set_cons_zero, List.set_cons_succ]
    refine wpAnyH_take (i := 17) (oi := Oper.mk _ _ _ _ _ _) (v := ?vn17) rfl (by kernel_rfl) (by kernel_rfl) (by kernel_rfl) (fun _ _ _ h => h) (Or.inl ⟨by rfl, ?hyn17⟩) (by assumption) ?restn17
    case hyn17 =>
      intro w0 hSw
      try dsimp only at hSw
      go_simp
      all_goals with_reducible rfl
    try simp only [Act.put, List.setIfInBounds_toArray, List.set_cons_zero, List.set_cons_succ]
    refine wpAnyH_take (i := 18) (oi := Oper.mk _ _ _ _ _ _) (v := ?vn18) rfl (by kernel_rfl) (by kernel_rfl) (by kernel_rfl) (fun _ _ _ h => h) (Or.inl ⟨by rfl, ?hyn18⟩) (by assumption) ?restn18
    case hyn18 =>
      intro w0 hSw
      try dsimp only at hSw
      go_simp
      all_goals with_reducible rfl
    try simp only [Act.put, List.setIfInBounds_toArray, List.set_cons_zero, List.set_cons_succ]
    refine wpAnyH_take (i := 19) (oi := Oper.mk _ _ _ _ _ _) (v := ?vn19) rfl (by kernel_rfl) (by kernel_rfl) (by kernel_rfl) (fun _ _ _ h => h) (Or.inl ⟨by rfl, ?hyn19⟩) (by assumption) ?restn19
    case hyn19 =>
      intro w0 hSw
      try dsimp only at hSw
      go_simp
      all_goals with_reducible rfl
    try simp only [Act.put, List.setIfInBounds_toArray, List.set_cons_zero, List.set_cons_succ]
    refine wpAnyH_take (i := 20) (oi := Oper.mk _ _ _ _ _ _) (v := ?vn20) rfl (by kernel_rfl) (by kernel_rfl) (by kernel_rfl) (fun _ _ _ h => h) (Or.inl ⟨by rfl, ?hyn20⟩) (by assumption) ?restn20
    case hyn20 =>
      intro w0 hSw
      try dsimp only at hSw
      go_simp
      all_goals with_reducible rfl
    try simp only [Act.put, List.setIfInBounds_toArray, List.set_cons_zero, List.set_cons_succ]
    refine wpAnyH_take (i := 21) (oi := Oper.mk _ _ _ _ _ _) (v := ?vn21) rfl (by kernel_rfl) (by kernel_rfl) (by kernel_rfl) (fun _ _ _ h => h) (Or.inl ⟨by rfl, ?hyn21⟩) (by assumption) ?restn21
    case hyn21 =>
      intro w0 hSw
      try dsimp only at hSw
      go_simp
      all_goals with_reducible rfl
    try simp only [Act.put, List.setIfInBounds_toArray, List.set_cons_zero, List.set_cons_succ]
    refine wpAnyH_take (i := 22) (oi := Oper.mk _ _ _ _ _ _) (v := ?vn22) rfl (by kernel_rfl) (by kernel_rfl) (by kernel_rfl) (fun _ _ _ h => h) (Or.inl ⟨by rfl, ?hyn22⟩) (by assumption) ?restn22
    case hyn22 =>
      intro w0 hSw
      try dsimp only at hSw
      go_simp
      all_goals with_reducible rfl
    try simp only [Act.put, List.setIfInBounds_toArray, List.set_cons_zero, List.set_cons_succ]
    refine wpAnyH_ready (rs := [23]) (by kernel_rfl) (by simp) ?_
    refine AllReadyH.cons (o := Oper.mk _ _ _ _ _ _) rfl (fun K hK => ?_) AllReadyH.nil
    go_simp
    refine (CL3.out _ _ _ _ (by first | exact N0.out | exact N1.out | rfl | simp) hHeldn2).mono ?_
    rintro e W7 ⟨rfl, hb3⟩
    try (go_simp)
    refine hK.out _ _ (Lib.hid (hHeldn2.out.trans (hb3.mono hHeldn2.out.size))) (fun hHeldn3 => ?_)
    clear hK K hHeldn2
    try simp only [Act.put, List.setIfInBounds_toArray, List.set_cons_zero, List.set_cons_succ]
    refine wpAnyH_take (i := 24) (oi := Oper.mk _ _ _ _ _ _) (v := ?vn24) rfl (by kernel_rfl) (by kernel_rfl) (by kernel_rfl) (fun _ _ _ h => h) (Or.inl ⟨by rfl, ?hyn24⟩) (by assumption) ?restn24
    case hyn24 =>
      intro w0 hSw
      try dsimp only at hSw
      go_simp
      all_goals with_reducible rfl
    try simp only [Act.put, List.setIfInBounds_toArray, List.set_cons_zero, List.set_cons_succ]
    refine wpAnyH_take (i := 25) (oi := Oper.mk _ _ _ _ _ _) (v := ?vn25) rfl (by kernel_rfl) (by kernel_rfl) (by kernel_rfl) (fun _ _ _ h => h) (Or.inl ⟨by rfl, ?hyn25⟩) (by assumption) ?restn25
    case hyn25 =>
      intro w0 hSw
      try dsimp only at hSw
      go_simp
      all_goals with_reducible rfl
    try simp only [Act.put, List.setIfInBounds_toArray, List.set_cons_zero, List.set_cons_succ]
    refine wpAnyH_done (by kernel_rfl) ?_ _
    go_wp2
    all_goals
      go_ret
      exact ⟨rfl, BB.out.trans (hHeldn3.out.mono BB.out.size)⟩
  · have CL2 := Lib.hid (show ∀ V, Hid (Below w12.heap.size w12 V) → Calls Tryd.prog 22 #[.slice (some ⟨bM, 0, none⟩) m cM, .slice (some ⟨bI, 0, none⟩) m cI] V (fun e w' => e = .returned (.bool true) ∧ Below V.heap.size V w') from fun V hv => by
      have h1 := r4SamePairs (some ⟨bM, 0, none⟩) (some ⟨bI, 0, none⟩) cM cI (M.take m) (L1.take m) V (plst_take (RM.out.below hv.out) m) (plst_take (RI.out.below hv.out) m) (by rw [List.length_take]; omega) (by rw [List.length_take]; omega)
      rw [GA.out.2.1, show (L1.take m == L1.take m) = true from beq_self_eq_true _] at h1
      rwa [show (L1.take m).length = m from by rw [List.length_take]; omega] at h1)
    have CL3 := Lib.hid (show ∀ A B n1 c1 n2 c2 V, n1 = M.length - (m + 1) → n2 = L1.length - m → Hid (Below w12.heap.size w12 V) → (∀ W', PLst W' (some ⟨bM, 0, none⟩) M → PLst W' A (M.drop (m + 1))) → (∀ W', PLst W' (some ⟨bI, 0, none⟩) L1 → PLst W' B (L1.drop m)) → Calls Tryd.prog 22 #[.slice A n1 c1, .slice B n2 c2] V (fun e w' => e = .returned (.bool true) ∧ Below V.heap.size V w') from fun A B n1 c1 n2 c2 V e1 e2 hv hA hB => by
      have h1 := r4SamePairs A B c1 c2 (M.drop (m + 1)) (L1.drop m) V (hA _ (RM.out.below hv.out)) (hB _ (RI.out.below hv.out)) (by rw [List.length_drop]; omega) (by rw [List.length_drop]; omega)
      rw [show (M.drop (m + 1) == L1.drop m) = true from by rw [GA.out.2.2]; exact beq_self_eq_true _, List.length_drop, List.length_drop, ← e1, ← e2] at h1
      exact h1)
    have f1 : m ≤ cM := by omega
    have f2 : m ≤ cI := by omega
    have f3 : m + 1 ≤ cM := by omega
    have f4 : m + 1 ≤ M.length := by omega
    have f5 : (m : Int) ≤ (cM : Int) := by omega
    have f6 : (m : Int) ≤ (cI : Int) := by omega
    have f7 : ((m + 1 : Nat) : Int) ≤ (M.length : Int) := by omega
    have f8 : ((m + 1 : Nat) : Int) ≤ (cM : Int) := by omega
    have f9 : (m : Int) ≤ (L1.length : Int) := by omega
    have f10 : (0 : Int) ≤ (m : Int) + 1 := by omega
    have HC := Lib.hid (And.intro hcM hcI)
    refine wp_region_held_drew (S := (fun w' => Hid (Below w12.heap.size w12 w'))) (by kernel_rfl) (Lib.hid ((below_drewN (Below.refl _ _) _).drew)) (fun hHeld => ?_)
    refine wpAnyH_take (i := 0) (oi := Oper.mk _ _ _ _ _ _) (v := ?vs0) rfl (by kernel_rfl) (by kernel_rfl) (by kernel_rfl) (fun _ _ _ h => h) (Or.inl ⟨by rfl, ?hys0⟩) (by assumption) ?rests0
    case hys0 =>
      intro w0 hSw
      try dsimp only at hSw
      go_simp
      all_goals with_reducible rfl
    try simp only [Act.put, List.setIfInBounds_toArray, List.set_cons_zero, List.set_cons_succ]
    refine wpAnyH_take (i := 1) (oi := Oper.mk _ _ _ _ _ _) (v := ?vs1) rfl (by kernel_rfl) (by kernel_rfl) (by kernel_rfl) (fun _ _ _ h => h) (Or.inl ⟨by rfl, ?hys1⟩) (by assumption) ?rests1
    case hys1 =>
      intro w0 hSw
      try dsimp only at hSw
      go_simp
      all_goals with_reducible rfl
    try simp only [Act.put, List.setIfInBounds_toArray, List.set_cons_zero, List.set_cons_succ]
    refine wpAnyH_take (i := 2) (oi := Oper.mk _ _ _ _ _ _) (v := ?vs2) rfl (by kernel_rfl) (by kernel_rfl) (by kernel_rfl) (fun _ _ _ h => h) (Or.inl ⟨by rfl, ?hys2⟩) (by assumption) ?rests2
    case hys2 =>
      intro w0 hSw
      try dsimp only at hSw
      go_simp
      all_goals with_reducible rfl
    try simp only [Act.put, List.setIfInBounds_toArray, List.set_cons_zero, List.set_cons_succ]
    refine wpAnyH_take (i := 3) (oi := Oper.mk _ _ _ _ _ _) (v := ?vs3) rfl (by kernel_rfl) (by kernel_rfl) (by kernel_rfl) (fun _ _ _ h => h) (Or.inl ⟨by rfl, ?hys3⟩) (by assumption) ?rests3
    case hys3 =>
      intro w0 hSw
      try dsimp only at hSw
      go_simp
      all_goals with_reducible rfl
    try simp only [Act.put, List.setIfInBounds_toArray, List.set_cons_zero, List.set_cons_succ]
    refine wpAnyH_ready (rs := [4]) (by kernel_rfl) (by simp) ?_
    refine AllReadyH.cons (o := Oper.mk _ _ _ _ _ _) rfl (fun K hK => ?_) AllReadyH.nil
    go_simp
    refine (CL1.out _ hHeld).mono ?_
    rintro e W5 ⟨rfl, hb1⟩
    try (go_simp)
    refine hK.out _ _ (Lib.hid (hHeld.out.trans (hb1.mono hHeld.out.size))) (fun hHelds1 => ?_)
    clear hK K hHeld
    try simp only [Act.put, List.setIfInBounds_toArray, List.set_cons_zero, List.set_cons_succ]
    refine wpAnyH_take (i := 5) (oi := Oper.mk _ _ _ _ _ _) (v := ?vs5) rfl (by kernel_rfl) (by kernel_rfl) (by kernel_rfl) (fun _ _ _ h => h) (Or.inl ⟨by rfl, ?hys5⟩) (by assumption) ?rests5
    case hys5 =>
      intro w0 hSw
      try dsimp only at hSw
      go_simp
      all_goals with_reducible rfl
    try simp only [Act.put, List.setIfInBounds_toArray, List.set_cons_zero, List.set_cons_succ]
    refine wpAnyH_take (i := 6) (oi := Oper.mk _ _ _ _ _ _) (v := ?vs6) rfl (by kernel_rfl) (by kernel_rfl) (by kernel_rfl) (fun _ _ _ h => h) (Or.inl ⟨by rfl, ?hys6⟩) (by assumption) ?rests6
    case hys6 =>
      intro w0 hSw
      try dsimp only at hSw
      go_simp
      all_goals with_reducible rfl
    try simp only [Act.put, List.setIfInBounds_toArray, List.set_cons_zero, List.set_cons_succ]
    refine wpAnyH_take (i := 7) (oi := Oper.mk _ _ _ _ _ _) (v := ?vs7) rfl (by kernel_rfl) (by kernel_rfl) (by kernel_rfl) (fun _ _ _ h => h) (Or.inl ⟨by rfl, ?hys7⟩) (by assumption) ?rests7
    case hys7 =>
      intro w0 hSw
      try dsimp only at hSw
      go_simp
      all_goals with_reducible rfl
    try simp only [Act.put, List.setIfInBounds_toArray, List.set_cons_zero, List.set_cons_succ]
    refine wpAnyH_take (i := 8) (oi := Oper.mk _ _ _ _ _ _) (v := ?vs8) rfl (by kernel_rfl) (by kernel_rfl) (by kernel_rfl) (fun _ _ _ h => h) (Or.inl ⟨by rfl, ?hys8⟩) (by assumption) ?rests8
    case hys8 =>
      intro w0 hSw
      try dsimp only at hSw
      go_simp
      all_goals with_reducible rfl
    try simp only [Act.put, List.setIfInBounds_toArray, List.set_cons_zero, List.set_cons_succ]
    refine wpAnyH_take (i := 9) (oi := Oper.mk _ _ _ _ _ _) (v := ?vs9) rfl (by kernel_rfl) (by kernel_rfl) (by kernel_rfl) (fun _ _ _ h => h) (Or.inl ⟨by rfl, ?hys9⟩) (by assumption) ?rests9
    case hys9 =>
      intro w0 hSw
      try dsimp only at hSw
      go_simp
      all_goals with_reducible rfl
    try simp only [Act.put, List.setIfInBounds_toArray, List.set_cons_zero, List.set_cons_succ]
    refine wpAnyH_take (i := 10) (oi := Oper.mk _ _ _ _ _ _) (v := ?vs10) rfl (by kernel_rfl) (by kernel_rfl) (by kernel_rfl) (fun _ _ _ h => h) (Or.inl ⟨by rfl, ?hys10⟩) (by assumption) ?rests10
    case hys10 =>
      intro w0 hSw
      try dsimp only at hSw
      go_simp
      all_goals with_reducible rfl
    try simp only [Act.put, List.setIfInBounds_toArray, List.set_cons_zero, List.set_cons_succ]
    refine wpAnyH_take (i := 11) (oi := Oper.mk _ _ _ _ _ _) (v := ?vs11) rfl (by kernel_rfl) (by kernel_rfl) (by kernel_rfl) (fun _ _ _ h => h) (Or.inl ⟨by rfl, ?hys11⟩) (by assumption) ?rests11
    case hys11 =>
      intro w0 hSw
      try dsimp only at hSw
      go_simp
      all_goals with_reducible rfl
    try simp only [Act.put, List.setIfInBounds_toArray, List.set_cons_zero, List.set_cons_succ]
    refine wpAnyH_take (i := 12) (oi := Oper.mk _ _ _ _ _ _) (v := ?vs12) rfl (by kernel_rfl) (by kernel_rfl) (by kernel_rfl) (fun _ _ _ h => h) (Or.inl ⟨by rfl, ?hys12⟩) (by assumption) ?rests12
    case hys12 =>
      intro w0 hSw
      try dsimp only at hSw
      go_simp
      all_goals with_reducible rfl
    try simp only [Act.put, List.setIfInBounds_toArray, List.set_cons_zero, List.set_cons_succ]
    refine wpAnyH_ready (rs := [13]) (by kernel_rfl) (by simp) ?_
    refine AllReadyH.cons (o := Oper.mk _ _ _ _ _ _) rfl (fun K hK => ?_) AllReadyH.nil
    go_simp
    refine (CL2.out _ hHelds1).mono ?_
    rintro e W6 ⟨rfl, hb2⟩
    try (go_simp)
    refine hK.out _ _ (Lib.hid (hHelds1.out.trans (hb2.mono hHelds1.out.size))) (fun hHelds2 => ?_)
    clear hK K hHelds1
    try simp only [Act.put, List.setIfInBounds_toArray, List.set_cons_zero, List.set_cons_succ]
    refine wpAnyH_take (i := 14) (oi := Oper.mk _ _ _ _ _ _) (v := ?vs14) rfl (by kernel_rfl) (by kernel_rfl) (by kernel_rfl) (fun _ _ _ h => h) (Or.inl ⟨by rfl, ?hys14⟩) (by assumption) ?rests14
    case hys14 =>
      intro w0 hSw
      try dsimp only at hSw
      go_simp
      all_goals with_reducible rfl
    try simp only [Act.put, List.setIfInBounds_toArray, List.set_cons_zero, List.set_cons_succ]
    refine wpAnyH_take (i := 15) (oi := Oper.mk _ _ _ _ _ _) (v := ?vs15) rfl (by kernel_rfl) (by kernel_rfl) (by kernel_rfl) (fun _ _ _ h => h) (Or.inl ⟨by rfl, ?hys15⟩) (by assumption) ?rests15
    case hys15 =>
      intro w0 hSw
      try dsimp only at hSw
      go_simp
      all_goals with_reducible rfl
    try simp only [Act.put, List.setIfInBounds_toArray, List.set_cons_zero, List.set_cons_succ]
    refine wpAnyH_take (i := 16) (oi := Oper.mk _ _ _ _ _ _) (v := ?vs16) rfl (by kernel_rfl) (by kernel_rfl) (by kernel_rfl) (fun _ _ _ h => h) (Or.inl ⟨by rfl, ?hys16⟩) (by assumption) ?rests16
    case hys16 =>
      intro w0 hSw
      try dsimp only at hSw
      go_simp
      all_goals with_reducible rfl
    try simp only [Act.put, List.setIfInBounds_toArray, List.set_cons_zero, List.set_cons_succ]
    refine wpAnyH_take (i := 17) (oi := Oper.mk _ _ _ _ _ _) (v := ?vs17) rfl (by kernel_rfl) (by kernel_rfl) (by kernel_rfl) (fun _ _ _ h => h) (Or.inl ⟨by rfl, ?hys17⟩) (by assumption) ?rests17
    case hys17 =>
      intro w0 hSw
      try dsimp only at hSw
      go_simp
      all_goals with_reducible rfl
    try simp only [Act.put, List.setIfInBounds_toArray, List.set_cons_zero, List.set_cons_succ]
    refine wpAnyH_take (i := 18) (oi := Oper.mk _ _ _ _ _ _) (v := ?vs18) rfl (by kernel_rfl) (by kernel_rfl) (by kernel_rfl) (fun _ _ _ h => h) (Or.inl ⟨by rfl, ?hys18⟩) (by assumption) ?rests18
    case hys18 =>
      intro w0 hSw
      try dsimp only at hSw
      go_simp
      all_goals with_reducible rfl
    try simp only [Act.put, List.setIfInBounds_toArray, List.set_cons_zero, List.set_cons_succ]
    refine wpAnyH_take (i := 19) (oi := Oper.mk _ _ _ _ _ _) (v := ?vs19) rfl (by kernel_rfl) (by kernel_rfl) (by kernel_rfl) (fun _ _ _ h => h) (Or.inl ⟨by rfl, ?hys19⟩) (by assumption) ?rests19
    case hys19 =>
      intro w0 hSw
      try dsimp only at hSw
      go_simp
      all_goals with_reducible rfl
    try simp only [Act.put, List.setIfInBounds_toArray, List.set_cons_zero, List.set_cons_succ]
    refine wpAnyH_take (i := 20) (oi := Oper.mk _ _ _ _ _ _) (v := ?vs20) rfl (by kernel_rfl) (by kernel_rfl) (by kernel_rfl) (fun _ _ _ h => h) (Or.inl ⟨by rfl, ?hys20⟩) (by assumption) ?rests20
    case hys20 =>
      intro w0 hSw
      try dsimp only at hSw
      go_simp
      all_goals with_reducible rfl
    try simp only [Act.put, List.setIfInBounds_toArray, List.set_cons_zero, List.set_cons_succ]
    refine wpAnyH_take (i := 21) (oi := Oper.mk _ _ _ _ _ _) (v := ?vs21) rfl (by kernel_rfl) (by kernel_rfl) (by kernel_rfl) (fun _ _ _ h => h) (Or.inl ⟨by rfl, ?hys21⟩) (by assumption) ?rests21
    case hys21 =>
      intro w0 hSw
      try dsimp only at hSw
      go_simp
      all_goals with_reducible rfl
    try simp only [Act.put, List.setIfInBounds_toArray, List.set_cons_zero, List.set_cons_succ]
    refine wpAnyH_take (i := 22) (oi := Oper.mk _ _ _ _ _ _) (v := ?vs22) rfl (by kernel_rfl) (by kernel_rfl) (by kernel_rfl) (fun _ _ _ h => h) (Or.inl ⟨by rfl, ?hys22⟩) (by assumption) ?rests22
    case hys22 =>
      intro w0 hSw
      try dsimp only at hSw
      go_simp
      all_goals with_reducible rfl
    try simp only [Act.put, List.setIfInBounds_toArray, List.set_cons_zero, List.set_cons_succ]
    refine wpAnyH_ready (rs := [23]) (by kernel_rfl) (by simp) ?_
    refine AllReadyH.cons (o := Oper.mk _ _ _ _ _ _) rfl (fun K hK => ?_) AllReadyH.nil
    go_simp
    refine (CL3.out _ _ _ _ _ _ _ (by have := lI.out; omega) (by omega) hHelds2 (fun W' q => plst_if q HC.out.1 _) (fun W' q => plst_if q HC.out.2 _)).mono ?_
    rintro e W7 ⟨rfl, hb3⟩
    try (go_simp)
    refine hK.out _ _ (Lib.hid (hHelds2.out.trans (hb3.mono hHelds2.out.size))) (fun hHelds3 => ?_)
    clear hK K hHelds2
    try simp only [Act.put, List.setIfInBounds_toArray, List.set_cons_zero, List.set_cons_succ]
    refine wpAnyH_take (i := 24) (oi := Oper.mk _ _ _ _ _ _) (v := ?vs24) rfl (by kernel_rfl) (by kernel_rfl) (by kernel_rfl) (fun _ _ _ h => h) (Or.inl ⟨by rfl, ?hys24⟩) (by assumption) ?rests24
    case hys24 =>
      intro w0 hSw
      try dsimp only at hSw
      go_simp
      all_goals with_reducible rfl
    try simp only [Act.put, List.setIfInBounds_toArray, List.set_cons_zero, List.set_cons_succ]
    refine wpAnyH_take (i := 25) (oi := Oper.mk _ _ _ _ _ _) (v := ?vs25) rfl (by kernel_rfl) (by kernel_rfl) (by kernel_rfl) (fun _ _ _ h => h) (Or.inl ⟨by rfl, ?hys25⟩) (by assumption) ?rests25
    case hys25 =>
      intro w0 hSw
      try dsimp only at hSw
      go_simp
      all_goals with_reducible rfl
    try simp only [Act.put, List.setIfInBounds_toArray, List.set_cons_zero, List.set_cons_succ]
    refine wpAnyH_done (by kernel_rfl) ?_ _
    go_wp2
    all_goals
      go_ret
      exact ⟨rfl, BB.out.trans (hHelds3.out.mono BB.out.size)⟩
theorem walk (s : Sl) (a : Ads) (t0 t1 k x1 x2 : Int) (W : World) (h : Held W s a) (hok : s.Ok) (hT : Tab W) (i0 : In64 t0) (i1 : In64 t1) (ik : In64 k) (ix : In64 x1) (iy : In64 x2) :
    Calls Tryd.prog 6 #[slv s a, .agg #[.int .i64 t0, .int .i64 t1], .int .i64 k, pv (x1, x2)] W fun e w' => e = .returned (.bool true) ∧ Below W.heap.size W w' := by
  cases hg : s.greatB 300
  · have hs : s.Short := by
      unfold Sl.greatB at hg
      simp only [Bool.or_eq_false_iff, decide_eq_false_iff_not] at hg
      exact ⟨by omega, by omega, by omega, by omega⟩
    by_cases hE : s.pairsE t0 t1 = 0
    · by_cases hw : Ly.withE s t0 t1 k = 0
      · exact some2 s a t0 t1 k x1 x2 W h hok hs hT i0 i1 ik ix iy hg hE hw
      · exact some1 s a t0 t1 k x1 x2 W h hok hs hT i0 i1 ik ix iy hg hE hw
    · by_cases hE0 : s.pairsE 0 s.keys.length = 0
      · exact none2 s a t0 t1 k x1 x2 W h hok hs hT i0 i1 ik ix iy hg hE hE0
      · exact none1 s a t0 t1 k x1 x2 W h hok hs hT i0 i1 ik ix iy hg hE hE0
  · exact great s a t0 t1 k x1 x2 W h hok hT i0 i1 ik ix iy hg
end Go.Proofs.YtmmkaabefofdeaaDoor.layKeeps
