/- The walk of the law GapOrder: the pairs are those that there were, with the new one among them, without the one that was taken; of Load just its pairs. -/
import Derived.Test.YtgcdidklaiaohaaGreatDoorTkKa
import Derived.Test.YtgcdidklaiaohaaGreatDoorLaw09Ka
import Derived.Test.YtgcdidklaiaohaaGreatDoorP09Ka
import Derived.Test.YtgcdidklaiaohaaGreatDoorM19Ka
import Derived.Test.YtgcdidklaiaohaaGreatDoorM03Ka
namespace Go.Proofs.YtgcdidklaiaohaaGreatDoor.gapOrder
open Go.RowKit
set_option linter.unusedVariables false
set_option linter.unusedSimpArgs false

theorem wrap_add (m n : Nat) : (((m + n) % 18446744073709551616 : Nat) : Int) = IntKind.u64.wrap ((m : Int) + (n : Int)) := by
  rw [IntKind.wrap_u64]; omega
theorem pairs_short {s : Sl} (hs : s.Short) (a b : Int) : (s.pairsV a b).length ≤ 65536 := by
  by_cases h : s.pairsE a b = 0
  · obtain ⟨_, x, y, rfl, rfl, h1, h2⟩ := Ly.pairs_parts h
    rw [Ly.pairsV_ok h]; have := Ly.of_len s x y; have := hs.keys
    omega
  · rw [Ly.pairsV_no h]; exact Nat.zero_le _
/-- A new row of pairs: none at all, or in a block of its own. -/
theorem row8 {ps : List (Int × Int)} {base : Nat} {w : World} {v : Value} (h : w.ownsRow base 36 2 v ps.length (pcells ps)) :
    ∃ A c, v = .slice A ps.length c ∧ PLst w A ps ∧ ps.length ≤ c ∧ ((A = none ∧ ps = [] ∧ c = 0) ∨ ∃ b, A = some ⟨b, 0, none⟩) := by
  obtain ⟨A, c1, h1, h2, h3, h4, h5⟩ := own_cells h
  rcases h.2 with ⟨hv, h0⟩ | ⟨g, cap, cur, hv, hb, hg, hnc, _, _, ht⟩
  · have hl := List.eq_nil_of_length_eq_zero h0
    subst hl; exact ⟨none, 0, hv, Or.inl rfl, Nat.le_refl _, Or.inl ⟨rfl, rfl, rfl⟩⟩
  · rw [h1] at hv
    injection hv with e1 e2 e3
    subst e1; exact ⟨_, c1, h1, h2, h5, Or.inr ⟨g, rfl⟩⟩
theorem plst_if {w : World} {b c : Nat} {ps : List (Int × Int)} (h : PLst w (some ⟨b, 0, none⟩) ps) (hc : ps.length ≤ c) (k : Nat) : PLst w (if c = k then some ⟨b, 0, none⟩ else some ⟨b, k * 2, none⟩) (ps.drop k) := by
  split
  · rw [List.drop_of_length_le (by omega)]
    exact Or.inl rfl
  · have := plst_drop h k
    rwa [Nat.zero_add] at this
def AllPost (L : List (Int × Int)) (b : Bool) (w : World) (e : Ending) (w' : World) : Prop :=
  ∃ v, e = .returned (.tuple #[v, .bool b]) ∧ w'.ownsRow w.heap.size 36 2 v L.length (pcells L) ∧ Below w.heap.size w w'
set_option maxRecDepth 100000 in
set_option maxHeartbeats 1000000 in
theorem l9All (s : Sl) (a : Ads) (w : World) (h : Held w s a) (hok : s.Ok) (hs : s.Short) (hT : Tab w) :
    Calls Tryz.prog 26 #[slv s a] w (AllPost (s.pairsV 0 s.keys.length) (s.pairsE 0 s.keys.length == 0) w) := by
  have HA := Lib.hid h; have TB := Lib.hid hT; have BX := Lib.hid (Box.new w s a 27); have HB := Lib.hid (fun o => (Below.refl w.heap.size w).alloc (Nat.le_refl _) o); have CP := Lib.hid (show ∀ V, Held V s a → Tab V → Calls Tryz.prog 49 #[slv s a, .int .i64 0, .int .i64 (s.keys.length : Int)] V (POwn2 (s.pairsV 0 s.keys.length) (s.pairsE 0 s.keys.length) V) from fun V hv tv => cPairs s a 0 s.keys.length V hv hok hs tv); obtain ⟨E, hE⟩ : ∃ E, E = s.pairsE 0 s.keys.length := ⟨_, rfl⟩; obtain ⟨L, hL⟩ : ∃ E, E = s.pairsV 0 s.keys.length := ⟨_, rfl⟩; rw [← hE, ← hL] at CP ⊢; clear h hok hs hT hE hL; unfold slv at CP; unfold slv
  go_enter Tryz.func26, Tryz.ntmps26
  obtain ⟨_, p0, p1, p2, p3, p4, p5, _⟩ := BX.out
  go_wp2_with fail
  refine (CP.out _ (HA.out.below (HB.out _)) (TB.out.below (HB.out _))).mono ?_; rintro e w1 ⟨v, rfl, hrow, hb⟩; have BB := Lib.hid ((HB.out _).trans (hb.mono (by simp))); have RW := Lib.hid (own_lower hrow (show w.heap.size ≤ (w.alloc _).heap.size by simp)); clear hrow hb; go_wp2; go_ret2; exact ⟨v, rfl, RW.out, BB.out⟩
set_option maxRecDepth 100000 in
set_option maxHeartbeats 16000000 in
theorem full (c : Cf) (s : Sl) (a : Ads) (k : Int) (pa : Option Addr) (pc : Nat) (ps : List (Int × Int)) (W : World) (hc : c.In) (h : Held W s a) (hok : s.Ok) (hs : s.Short) (hT : Tab W) (hk : In64 k) (hp : PLst W pa ps) (h64 : In64P ps) (hg : s.greatB 600 = false) (hn : ps.length ≤ 300) :
    Calls Tryz.prog 7 #[cfv c, slv s a, .int .i64 k, .slice pa ps.length pc] W fun e w' => e = .returned (.bool true) ∧ Below W.heap.size W w' := by
  have HG := Lib.hid hg; have HOK := Lib.hid hok; have HSH := Lib.hid hs; have HC := Lib.hid hc; have HK := Lib.hid hk; have H64 := Lib.hid h64
  have k1 : decide ((ps.length : Int) > 300) = false := by simp; omega
  have i3 : In64 3 := i64s (by omega) (by omega); have i4 : In64 4 := i64s (by omega) (by omega); have IP := Lib.hid (And.intro i3 i4); have HA := Lib.hid h; have HP := Lib.hid hp; have TB := Lib.hid hT; have BC0 := Lib.hid (fun o => (CBox.new W c 32).below ((Below.refl _ _).alloc (Nat.le_refl _) o)); have BS0 := Lib.hid (fun o => box_second W o s a 27); have BB0 := Lib.hid (fun o o' => ((Below.refl W.heap.size W).alloc (Nat.le_refl _) o).alloc (by simp) o'); have CA := Lib.hid (fun o o' => l9Alive ((W.alloc o).alloc o') (hT.below (BB0.out o o'))); have CW := Lib.hid (show ∀ A V, Held V s A → Tab V → Calls Tryz.prog 26 #[slv s A] V (AllPost (s.pairsV 0 s.keys.length) (s.pairsE 0 s.keys.length == 0) V) from fun A V hv tv => l9All s A V hv hok hs tv); have C1 := Lib.hid (show ∀ A V, Held V s A → Tab V → Calls Tryz.prog 12 #[cfv c, slv s A, .int .i64 k, .agg #[.int .i64 3, .int .i64 4]] V (Ans (Gp.putS c s k (3, 4)) (Gp.putE c s k) V) from fun A V hv tv => gPut c s A k 3 4 V hc hv hok hs tv hk i3 i4); have C2 := Lib.hid (show ∀ A V, Held V s A → Tab V → Calls Tryz.prog 13 #[cfv c, slv s A, .int .i64 k] V (Ans (Gp.takeS c s k) (Gp.takeE c s k) V) from fun A V hv tv => gTake c s A k V hc hv hok hs tv hk); have C3 := Lib.hid (show ∀ A PA PC V, Held V s A → Tab V → PLst V PA ps → Calls Tryz.prog 11 #[cfv c, slv s A, .slice PA ps.length PC] V (Ans (Gp.loadS c s ps) (Gp.loadE c s ps.length) V) from fun A PA PC V hv tv hl => gLoad c s A PA PC ps V hc hv hok hs tv (by omega) hl h64); have F3 := Gp.load_fine (c := c) hok hs ps h64
  have CZ := Lib.hid (show ∀ A V, Held V (Gp.loadS c s ps) A → Tab V → Calls Tryz.prog 26 #[slv (Gp.loadS c s ps) A] V (AllPost ((Gp.loadS c s ps).pairsV 0 (Gp.loadS c s ps).keys.length) ((Gp.loadS c s ps).pairsE 0 (Gp.loadS c s ps).keys.length == 0) V) from fun A V hv tv => l9All _ A V hv F3.ok F3.short tv); have DZ := Lib.hid (show Gp.loadE c s ps.length = 0 → _ from fun e => Gp.ord_load hok e); have lz := pairs_short F3.short 0 (Gp.loadS c s ps).keys.length; have lw := pairs_short hs 0 s.keys.length; obtain ⟨b0, hb0⟩ : ∃ b, b = (s.pairsE 0 s.keys.length == 0) := ⟨_, rfl⟩; obtain ⟨L, hL⟩ : ∃ b, b = s.pairsV 0 s.keys.length := ⟨_, rfl⟩; obtain ⟨E1, hE1⟩ : ∃ E, E = Gp.putE c s k := ⟨_, rfl⟩; obtain ⟨S1, hS1⟩ : ∃ E, E = Gp.putS c s k (3, 4) := ⟨_, rfl⟩; obtain ⟨E2, hE2⟩ : ∃ E, E = Gp.takeE c s k := ⟨_, rfl⟩; obtain ⟨S2, hS2⟩ : ∃ E, E = Gp.takeS c s k := ⟨_, rfl⟩; obtain ⟨S3, hS3⟩ : ∃ E, E = Gp.loadS c s ps := ⟨_, rfl⟩; obtain ⟨E3, hE3⟩ : ∃ E, E = Gp.loadE c s ps.length := ⟨_, rfl⟩; rw [← hS3] at C3 CZ DZ lz; rw [← hE3] at C3 DZ; obtain ⟨b3, hb3⟩ : ∃ b, b = (S3.pairsE 0 S3.keys.length == 0) := ⟨_, rfl⟩; obtain ⟨L3, hL3⟩ : ∃ b, b = S3.pairsV 0 S3.keys.length := ⟨_, rfl⟩; rw [← hb3, ← hL3] at CZ; rw [← hL3] at lz; rw [← hb0, ← hL] at CW; rw [← hL] at lw; rw [← hE1, ← hS1] at C1; rw [← hE2, ← hS2] at C2; have DB0 := Lib.hid hb0; have DL := Lib.hid hL; have DB3 := Lib.hid hb3; have DL3 := Lib.hid hL3; have DE1 := Lib.hid hE1; have DS1 := Lib.hid hS1; have DE2 := Lib.hid hE2; have DS2 := Lib.hid hS2
  have LW := Lib.hid lw; have LZ := Lib.hid lz; have HN := Lib.hid hn; clear h hok hs hT hp hg h64 hk hc i3 i4 hb0 hL hE1 hS1 hE2 hS2 hS3 hE3 hb3 hL3 F3 lw lz hn; unfold slv at CW C1 C2 C3 CZ; unfold cfv at C1 C2 C3; unfold slv cfv
  go_enter Tryz.func7, Tryz.ntmps7
  go_wp2_with fail
  refine (CA.out _ _).mono ?_; rintro e w0 ⟨rfl, hb⟩; have BB := Lib.hid ((BB0.out _ _).trans (hb.mono (by simp; omega))); have BC := Lib.hid ((BC0.out _).below hb); have BS := Lib.hid ((BS0.out _).below hb); replace HA := Lib.hid (HA.out.below BB.out); replace HP := Lib.hid (HP.out.below BB.out); replace TB := Lib.hid (TB.out.below BB.out); clear hb BB0 BS0 BC0 CA
  go_upto_region 3 with (fail)
  obtain ⟨u0, hV⟩ : ∃ V, V = w0.alloc (.cells #[.int .i64 3, .int .i64 4] 36) := ⟨_, rfl⟩
  have hba : Below w0.heap.size w0 u0 := by rw [hV]; exact (Below.refl _ _).alloc (Nat.le_refl _) _
  have PX := Lib.hid (show PBox u0 w0.heap.size (3, 4) by rw [hV]; exact PBox.new w0 (3, 4) 36)
  first | rw [← hV] | skip
  replace BB := Lib.hid (BB.out.trans (hba.mono BB.out.size)); replace BC := Lib.hid (BC.out.below hba); replace BS := Lib.hid (BS.out.below hba); replace HA := Lib.hid (HA.out.below hba); replace HP := Lib.hid (HP.out.below hba); replace TB := Lib.hid (TB.out.below hba); clear hV hba; obtain ⟨_, p0, p1, p2, p3, p4, p5, _⟩ := BS.out
  go_wp2_with fail
  refine (r4Great s a 600 _).mono ?_; rintro e w1 ⟨rfl, hb⟩; rw [HG.out]; replace BB := Lib.hid (BB.out.trans (hb.mono BB.out.size)); replace BC := Lib.hid (BC.out.below hb); replace BS := Lib.hid (BS.out.below hb); replace HA := Lib.hid (HA.out.below hb); replace HP := Lib.hid (HP.out.below hb); replace TB := Lib.hid (TB.out.below hb); replace PX := Lib.hid (PX.out.below hb); clear hb p0 p1 p2 p3 p4 p5; obtain ⟨_, p0, p1, p2, p3, p4, p5, _⟩ := BS.out
  go_wp2_with fail
  refine (CW.out a _ HA.out TB.out).mono ?_; rintro e w2 ⟨v0, rfl, hrow, hb⟩; obtain ⟨A0, c0, rfl, hL0, hc0, ka0⟩ := row8 hrow; have RW := Lib.hid hL0; have KC := Lib.hid hc0; have KA := Lib.hid ka0; replace BB := Lib.hid (BB.out.trans (hb.mono BB.out.size)); replace BC := Lib.hid (BC.out.below hb); replace BS := Lib.hid (BS.out.below hb); replace HA := Lib.hid (HA.out.below hb); replace HP := Lib.hid (HP.out.below hb); replace TB := Lib.hid (TB.out.below hb); replace PX := Lib.hid (PX.out.below hb); clear hb hrow hL0 hc0 ka0 CW p0 p1 p2 p3 p4 p5; obtain ⟨_, c0, c1, c2, c3, c4, c5, c6, c7, c8, _⟩ := BC.out; obtain ⟨_, p0, p1, p2, p3, p4, p5, _⟩ := BS.out; have e0 := PX.out.c0; have e1 := PX.out.c1
  try dsimp only at e0 e1
  go_wp2_with fail
  refine (C1.out a _ HA.out TB.out).mono ?_; rintro e w3 ⟨A1, rfl, own, hb⟩; have O1 := Lib.hid own.held; replace BB := Lib.hid (BB.out.trans (hb.mono BB.out.size)); replace BC := Lib.hid (BC.out.below hb); replace BS := Lib.hid (BS.out.below hb); replace HA := Lib.hid (HA.out.below hb); replace HP := Lib.hid (HP.out.below hb); replace TB := Lib.hid (TB.out.below hb); replace PX := Lib.hid (PX.out.below hb); replace RW := Lib.hid (RW.out.below hb); clear hb own e0 e1 C1; clear c0 c1 c2 c3 c4 c5 c6 c7 c8 p0 p1 p2 p3 p4 p5; unfold slv
  go_upto_region 7 with (fail)
  obtain ⟨V1, hV⟩ : ∃ V, V = w3.alloc (.cells #[.int .i64 S1.seg, .slice A1.w S1.words.length A1.cw, .slice A1.k S1.keys.length A1.ck, .slice A1.v S1.vals.length A1.cv, .slice A1.c S1.counts.length A1.cc, .int .u64 (S1.laid : Int)] 27) := ⟨_, rfl⟩
  have hba : Below w3.heap.size w3 V1 := by rw [hV]; exact (Below.refl _ _).alloc (Nat.le_refl _) _
  have B1 := Lib.hid (show Box V1 w3.heap.size S1 A1 by rw [hV]; exact Box.new w3 S1 A1 27)
  first | rw [← hV] | skip
  replace BB := Lib.hid (BB.out.trans (hba.mono BB.out.size)); replace BC := Lib.hid (BC.out.below hba); replace BS := Lib.hid (BS.out.below hba); replace HA := Lib.hid (HA.out.below hba); replace HP := Lib.hid (HP.out.below hba); replace TB := Lib.hid (TB.out.below hba); replace PX := Lib.hid (PX.out.below hba); replace RW := Lib.hid (RW.out.below hba); replace O1 := Lib.hid (O1.out.below hba); clear hV hba
  go_upto_if 57 with (fail)
  go_cut [9] from 15 (fun s9 wx => s9 = .bool true ∧ Below V1.heap.size V1 wx)
  case first =>
    by_cases e1 : E1 = 0
    · as_aux_lemma =>
      subst e1; obtain ⟨m, OP⟩ := Gp.ord_put (c := c) (p := (3, 4)) HOK.out HSH.out IP.out.1 IP.out.2 DE1.out.symm
      have hLa : L = Gp.all s := by rw [DL.out, OP.was.2]
      have hbt : b0 = true := by rw [DB0.out, OP.was.1]; rfl
      obtain ⟨num, hm, _, now, tk, back⟩ := OP; subst num hbt; have F1 := Gp.put_fine (c := c) HOK.out HSH.out m (p := (3, 4)) IP.out.1 IP.out.2; have F4 := Gp.take_fine (c := c) F1.ok F1.short m; rw [← hLa] at now back hm; rw [← DS1.out] at now tk back F1 F4; have hM := Ly.among_length L m (3, 4); obtain ⟨g1, g2, g3⟩ := Ly.among_at hm (3, 4); obtain ⟨S4, hS4⟩ : ∃ S, S = Gp.takeS c S1 m := ⟨_, rfl⟩; have CT := Lib.hid (show ∀ A V, Held V S1 A → Tab V → Calls Tryz.prog 13 #[cfv c, slv S1 A, .int .i64 m] V (Ans S4 0 V) from fun A V hv tv => by have := gTake c S1 A m V HC.out hv F1.ok F1.short tv HK.out; rwa [tk, ← hS4] at this); rw [← hS4] at back F4; have CN := Lib.hid (show ∀ A V, Held V S1 A → Tab V → Calls Tryz.prog 26 #[slv S1 A] V (AllPost (Ly.among L m (3, 4)) true V) from fun A V hv tv => by have := l9All S1 A V hv F1.ok F1.short tv; rwa [now.1, now.2] at this); have CG := Lib.hid (show ∀ A V, Held V S4 A → Tab V → Calls Tryz.prog 26 #[slv S4 A] V (AllPost L true V) from fun A V hv tv => by have := l9All S4 A V hv F4.ok F4.short tv; rwa [back.1, back.2] at this); obtain ⟨M, hMd⟩ : ∃ M, M = Ly.among L m (3, 4) := ⟨_, rfl⟩; rw [← hMd] at CN hM g1 g2 g3; have GA := Lib.hid (And.intro g1 (And.intro g2 g3)); have ML := Lib.hid hM; have HM := Lib.hid hm; clear now tk back F1 F4 hS4 hMd hM g1 g2 g3 hm hLa; unfold slv at CT CN CG; unfold cfv at CT; have k5 : ((0 : Int) == 0) = true := rfl; obtain ⟨_, p0, p1, p2, p3, p4, p5, _⟩ := B1.out
      go_wp2_with fail
      refine (CN.out A1 _ O1.out TB.out).mono ?_; have BV := Lib.hid (Below.refl V1.heap.size V1); rintro e w4 ⟨v1, rfl, hrow, hb⟩; obtain ⟨AM, cM, rfl, hRM, hcM, kM⟩ := row8 hrow
      obtain ⟨bM, rfl⟩ : ∃ bM, AM = some ⟨bM, 0, none⟩ := by
        rcases kM with ⟨_, h0, _⟩ | h0
        · have := ML.out; rw [h0] at this; simp at this
        · exact h0
      have RM := Lib.hid hRM; have KM := Lib.hid hcM; replace BB := Lib.hid (BB.out.trans (hb.mono BB.out.size)); replace BC := Lib.hid (BC.out.below hb); replace BS := Lib.hid (BS.out.below hb); replace HA := Lib.hid (HA.out.below hb); replace HP := Lib.hid (HP.out.below hb); replace TB := Lib.hid (TB.out.below hb); replace PX := Lib.hid (PX.out.below hb); replace RW := Lib.hid (RW.out.below hb); replace O1 := Lib.hid (O1.out.below hb); replace B1 := Lib.hid (B1.out.below hb); replace BV := Lib.hid (BV.out.trans (hb.mono BV.out.size)); clear hb hrow hRM hcM kM CN p0 p1 p2 p3 p4 p5; obtain ⟨_, c0, c1, c2, c3, c4, c5, c6, c7, c8, _⟩ := BC.out; obtain ⟨_, p0, p1, p2, p3, p4, p5, _⟩ := B1.out
      go_wp2_with fail
      refine (CT.out A1 _ O1.out TB.out).mono ?_; rintro e w5 ⟨A4, rfl, own, hb⟩; have O4 := Lib.hid own.held; replace BB := Lib.hid (BB.out.trans (hb.mono BB.out.size)); replace BC := Lib.hid (BC.out.below hb); replace BS := Lib.hid (BS.out.below hb); replace HA := Lib.hid (HA.out.below hb); replace HP := Lib.hid (HP.out.below hb); replace TB := Lib.hid (TB.out.below hb); replace PX := Lib.hid (PX.out.below hb); replace RW := Lib.hid (RW.out.below hb); replace O1 := Lib.hid (O1.out.below hb); replace B1 := Lib.hid (B1.out.below hb); replace RM := Lib.hid (RM.out.below hb); replace BV := Lib.hid (BV.out.trans (hb.mono BV.out.size)); clear hb own CT; clear c0 c1 c2 c3 c4 c5 c6 c7 c8 p0 p1 p2 p3 p4 p5; unfold slv
      go_upto_region 10 with (fail)
      obtain ⟨V4, hV⟩ : ∃ V, V = w5.alloc (.cells #[.int .i64 S4.seg, .slice A4.w S4.words.length A4.cw, .slice A4.k S4.keys.length A4.ck, .slice A4.v S4.vals.length A4.cv, .slice A4.c S4.counts.length A4.cc, .int .u64 (S4.laid : Int)] 27) := ⟨_, rfl⟩
      have hba : Below w5.heap.size w5 V4 := by rw [hV]; exact (Below.refl _ _).alloc (Nat.le_refl _) _
      have B4 := Lib.hid (show Box V4 w5.heap.size S4 A4 by rw [hV]; exact Box.new w5 S4 A4 27)
      first | rw [← hV] | skip
      replace BB := Lib.hid (BB.out.trans (hba.mono BB.out.size)); replace BC := Lib.hid (BC.out.below hba); replace BS := Lib.hid (BS.out.below hba); replace HA := Lib.hid (HA.out.below hba); replace HP := Lib.hid (HP.out.below hba); replace TB := Lib.hid (TB.out.below hba); replace PX := Lib.hid (PX.out.below hba); replace RW := Lib.hid (RW.out.below hba); replace O1 := Lib.hid (O1.out.below hba); replace B1 := Lib.hid (B1.out.below hba); replace RM := Lib.hid (RM.out.below hba); replace O4 := Lib.hid (O4.out.below hba); replace BV := Lib.hid (BV.out.trans (hba.mono BV.out.size)); clear hV hba; obtain ⟨_, p0, p1, p2, p3, p4, p5, _⟩ := B4.out
      go_wp2_with fail
      refine (CG.out A4 _ O4.out TB.out).mono ?_; rintro e w6 ⟨v2, rfl, hrow, hb⟩; obtain ⟨AG, cG, rfl, hRG, _, _⟩ := row8 hrow; have RG := Lib.hid hRG; replace BB := Lib.hid (BB.out.trans (hb.mono BB.out.size)); replace BC := Lib.hid (BC.out.below hb); replace BS := Lib.hid (BS.out.below hb); replace HA := Lib.hid (HA.out.below hb); replace HP := Lib.hid (HP.out.below hb); replace TB := Lib.hid (TB.out.below hb); replace PX := Lib.hid (PX.out.below hb); replace RW := Lib.hid (RW.out.below hb); replace O1 := Lib.hid (O1.out.below hb); replace B1 := Lib.hid (B1.out.below hb); replace RM := Lib.hid (RM.out.below hb); replace O4 := Lib.hid (O4.out.below hb); replace B4 := Lib.hid (B4.out.below hb); replace BV := Lib.hid (BV.out.trans (hb.mono BV.out.size)); clear hb hrow hRG CG p0 p1 p2 p3 p4 p5; have hm := HM.out; have hM := ML.out; have hw := LW.out; have hcM := KM.out; have hcW := KC.out; obtain ⟨b9, o9, e9, _, c1, c2⟩ := RM.out.pair (i := m) (by omega)
      injection e9 with e9; injection e9 with e9 e10; subst e9 e10
      rw [GA.out.1] at c1 c2
      dsimp only at c1 c2
      simp only [Nat.zero_add] at c1 c2
      have e0 := PX.out.c0; have e1 := PX.out.c1
      have KS := Lib.hid (show ∀ V, Below w6.heap.size w6 V → V.cell? ⟨bM, m * 2, none⟩ = some (.int .i64 3) ∧ V.cell? ⟨bM, m * 2 + 1, none⟩ = some (.int .i64 4) ∧ V.cell? ⟨w0.heap.size, 0, none⟩ = some (.int .i64 3) ∧ V.cell? ⟨w0.heap.size, 1, none⟩ = some (.int .i64 4) from fun V hv => by
        have q := (RM.out.below hv).pair (i := m) (by omega); obtain ⟨b9, o9, e9, _, d1, d2⟩ := q
        injection e9 with e9; injection e9 with e9 e10; subst e9 e10
        rw [GA.out.1] at d1 d2
        simp only [Nat.zero_add] at d1 d2
        exact ⟨d1, d2, (PX.out.below hv).c0, (PX.out.below hv).c1⟩)
      have f0 : IntKind.i64.wrap ((L.length : Int) + 1) = (L.length : Int) + 1 := IntWalk.i64_in _ (by omega)
      have f1 : ((M.length : Int) != (L.length : Int) + 1) = false := by simp; omega
      have f2 : decide ((m : Int) < 0) = false := by simp
      have f3 : decide ((m : Int) > (L.length : Int)) = false := by simp; omega
      have f3b : decide ((L.length : Int) < (m : Int)) = false := by simp; omega
      have f3c : decide (L.length < m) = false := by simp; omega
      have f4 : IntKind.i64.wrap ((m : Int) + 1) = (m : Int) + 1 := IntWalk.i64_in _ (by omega)
      have f5 : m < M.length := by omega
      have f6 : (m : Int) < (M.length : Int) := by omega
      have f7 : (0 : Int) ≤ (m : Int) := by omega
      have CL1 := Lib.hid (show ∀ A cA V, PLst V A L → Calls Tryz.prog 25 #[.slice AG L.length cG, .slice A L.length cA] V (fun e w' => e = .returned (.bool true) ∧ Below V.heap.size V w') → True from fun _ _ _ _ _ => trivial); clear CL1
      rcases KA.out with ⟨rfl, hnil, rfl⟩ | ⟨bI, rfl⟩
      · as_aux_lemma =>
        subst hnil
        obtain rfl : m = 0 := by simpa using hm
        have CL2 := Lib.hid (show ∀ V, Hid (Below w6.heap.size w6 V) → Calls Tryz.prog 25 #[.slice (some ⟨bM, 0, none⟩) 0 cM, .slice none 0 0] V (fun e w' => e = .returned (.bool true) ∧ Below V.heap.size V w') from fun V hv => r4SamePairs (some ⟨bM, 0, none⟩) none cM 0 [] [] V (Or.inl rfl) (Or.inl rfl) (by simp) (by simp))
        have CL3 := Lib.hid (show ∀ A n c V, n = 0 → Hid (Below w6.heap.size w6 V) → Calls Tryz.prog 25 #[.slice A n c, .slice none 0 0] V (fun e w' => e = .returned (.bool true) ∧ Below V.heap.size V w') from fun A n c V hn hv => by
          subst hn
          exact r4SamePairs A none c 0 [] [] V (Or.inl rfl) (Or.inl rfl) (by simp) (by simp))
        have CL4 := Lib.hid (show ∀ V, Hid (Below w6.heap.size w6 V) → Calls Tryz.prog 25 #[.slice AG 0 cG, .slice none 0 0] V (fun e w' => e = .returned (.bool true) ∧ Below V.heap.size V w') from fun V hv => r4SamePairs AG none cG 0 [] [] V (Or.inl rfl) (Or.inl rfl) (by simp) (by simp))
        have M1 : M.length = 1 := by simpa using hM
        have N0 := Lib.hid (show M.length - 1 = 0 by omega); have N1 := Lib.hid (show M.length - (0 + 1) = 0 by omega)
        have g0 : IntKind.i64.wrap 1 = 1 := by decide
        have g1 : ((M.length : Int) != 1) = false := by rw [M1]; rfl
        have g3 : 0 + 1 ≤ cM := by omega
        have g3b : 1 ≤ cM := by omega
        have g3c : ((1 : Nat) : Int) ≤ (M.length : Int) := by omega
        have g3d : 1 ≤ M.length := by omega
        have g3e : (1 : Int) ≤ (M.length : Int) := by omega
        have g3f : (1 : Int) ≤ (cM : Int) := by omega
        have g5 : 0 < M.length := by omega
        have g6 : (0 : Int) < (M.length : Int) := by omega
        have KS0 := Lib.hid (show ∀ V, Below w6.heap.size w6 V → V.cell? ⟨bM, 0, none⟩ = some (.int .i64 3) ∧ V.cell? ⟨bM, 1, none⟩ = some (.int .i64 4) ∧ V.cell? ⟨w0.heap.size, 0, none⟩ = some (.int .i64 3) ∧ V.cell? ⟨w0.heap.size, 1, none⟩ = some (.int .i64 4) from fun V hv => by simpa using KS.out V hv); clear hm hM hw hcW HM ML LW KC KA GA c1 c2 f0 f1 f2 f3 f3b f3c f4 f5 f6 f7 M1 RW RG RM KS
        go_upto_region 11 with (fail)
        refine wp_region_held_drew (S := fun w' => w'.cell? ⟨bM, 0, none⟩ = some (.int .i64 3) ∧ w'.cell? ⟨bM, 1, none⟩ = some (.int .i64 4) ∧ w'.cell? ⟨w0.heap.size, 0, none⟩ = some (.int .i64 3) ∧ w'.cell? ⟨w0.heap.size, 1, none⟩ = some (.int .i64 4) ∧ Hid (Below w6.heap.size w6 w')) (by kernel_rfl) (⟨(KS0.out _ (Lib.hid ((Below.refl w6.heap.size w6).drew)).out).1, (KS0.out _ (Lib.hid ((Below.refl w6.heap.size w6).drew)).out).2.1, (KS0.out _ (Lib.hid ((Below.refl w6.heap.size w6).drew)).out).2.2.1, (KS0.out _ (Lib.hid ((Below.refl w6.heap.size w6).drew)).out).2.2.2, (Lib.hid ((Below.refl w6.heap.size w6).drew))⟩) (fun hHeld => ?_); have BLn0 := Lib.hid (show Below w6.heap.size w6 w6.drew from (Below.refl _ _).drew); refine tk 0 ?_; refine tk 1 ?_; refine tk 2 ?_; refine tk 3 ?_; refine tk 4 ?_; refine tk 5 ?_; refine tk 6 ?_; refine tk 7 ?_; refine tk 8 ?_; refine tk 9 ?_; refine tk 10 ?_; refine tk 11 ?_; refine tk 12 ?_; refine tk 13 ?_; refine tk 14 ?_; refine tk 15 ?_; refine tk 16 ?_; refine tk 17 ?_; refine tk 18 ?_; refine tk 19 ?_; refine tk 20 ?_; refine tk 21 ?_; refine tk 22 ?_; refine tk 23 ?_; refine tk 24 ?_; refine tk 25 ?_; refine tk 26 ?_; refine tk 27 ?_; refine tk 28 ?_; refine tk 29 ?_; refine tk 30 ?_; refine tk 31 ?_; refine tk 32 ?_; refine tk 33 ?_; refine tk 34 ?_; refine tk 35 ?_; refine tk 36 ?_; refine tk 37 ?_; refine tk 38 ?_; refine tk 39 ?_; refine tk 40 ?_; refine tk 41 ?_; refine tk 42 ?_; refine tk 43 ?_; refine tk 44 ?_; refine tk 45 ?_; refine tk 46 ?_
        refine rdH 47 fun K hK => ?_; go_simp; refine (CL2.out _ BLn0).mono ?_; rintro e Un0 ⟨rfl, hb⟩
        try (go_simp)
        have BLn1 := Lib.hid (BLn0.out.trans (hb.mono BLn0.out.size)); clear hb; refine hK.out _ _ (⟨(KS0.out _ BLn1.out).1, (KS0.out _ BLn1.out).2.1, (KS0.out _ BLn1.out).2.2.1, (KS0.out _ BLn1.out).2.2.2, BLn1⟩) (fun hHeldn47 => ?_); clear hK K hHeld
        try simp only [sP, sQ, sA, sB, sC]
        refine tk 48 ?_; refine tk 49 ?_; refine tk 50 ?_; refine tk 51 ?_; refine tk 52 ?_; refine tk 53 ?_; refine tk 54 ?_; refine tk 55 ?_; refine tk 56 ?_; refine tk 57 ?_; refine rdH 58 fun K hK => ?_; go_simp; refine (CL3.out _ _ _ _ (by first | exact N0.out | exact N1.out | rfl | simp) BLn1).mono ?_; rintro e Un1 ⟨rfl, hb⟩
        try (go_simp)
        have BLn2 := Lib.hid (BLn1.out.trans (hb.mono BLn1.out.size)); clear hb; refine hK.out _ _ (⟨(KS0.out _ BLn2.out).1, (KS0.out _ BLn2.out).2.1, (KS0.out _ BLn2.out).2.2.1, (KS0.out _ BLn2.out).2.2.2, BLn2⟩) (fun hHeldn58 => ?_); clear hK K hHeldn47
        try simp only [sP, sQ, sA, sB, sC]
        refine tk 59 ?_; refine tk 60 ?_; refine tk 61 ?_; refine tk 62 ?_; refine tk 63 ?_; refine rdH 64 fun K hK => ?_; go_simp; refine (CL4.out _ BLn2).mono ?_; rintro e Un2 ⟨rfl, hb⟩
        try (go_simp)
        have BLn3 := Lib.hid (BLn2.out.trans (hb.mono BLn2.out.size)); clear hb; refine hK.out _ _ (⟨(KS0.out _ BLn3.out).1, (KS0.out _ BLn3.out).2.1, (KS0.out _ BLn3.out).2.2.1, (KS0.out _ BLn3.out).2.2.2, BLn3⟩) (fun hHeldn64 => ?_); clear hK K hHeldn58
        try simp only [sP, sQ, sA, sB, sC]
        refine tk 65 ?_; refine tk 66 ?_; refine wpAnyH_done (by kernel_rfl) ?_ _; generalize (if cM = 0 + 1 then (some (⟨bM, 0, none⟩ : Addr)) else some ⟨bM, (0 + 1) * 2, none⟩) = q2; generalize (if cM = 1 then (some (⟨bM, 0, none⟩ : Addr)) else some ⟨bM, 2, none⟩) = q3
        go_wp2_with fail
        all_goals
          go_meet
          exact ⟨rfl, BV.out.trans (BLn3.out.mono BV.out.size)⟩
      · as_aux_lemma =>
        have CL2 := Lib.hid (show ∀ V, Hid (Below w6.heap.size w6 V) → Calls Tryz.prog 25 #[.slice (some ⟨bM, 0, none⟩) m cM, .slice (some ⟨bI, 0, none⟩) m c0] V (fun e w' => e = .returned (.bool true) ∧ Below V.heap.size V w') from fun V hv => by
          have h1 := r4SamePairs (some ⟨bM, 0, none⟩) (some ⟨bI, 0, none⟩) cM c0 (M.take m) (L.take m) V (plst_take (RM.out.below hv.out) m) (plst_take (RW.out.below hv.out) m) (by rw [List.length_take]; omega) (by rw [List.length_take]; omega); rw [GA.out.2.1, show (L.take m == L.take m) = true from beq_self_eq_true _] at h1
          rwa [show (L.take m).length = m from by rw [List.length_take]; omega] at h1)
        have CL3 := Lib.hid (show ∀ A B n1 c1 n2 c2 V, n1 = M.length - (m + 1) → n2 = L.length - m → Hid (Below w6.heap.size w6 V) → (∀ W', PLst W' (some ⟨bM, 0, none⟩) M → PLst W' A (M.drop (m + 1))) → (∀ W', PLst W' (some ⟨bI, 0, none⟩) L → PLst W' B (L.drop m)) → Calls Tryz.prog 25 #[.slice A n1 c1, .slice B n2 c2] V (fun e w' => e = .returned (.bool true) ∧ Below V.heap.size V w') from fun A B n1 c1 n2 c2 V e1 e2 hv hA hB => by
          have h1 := r4SamePairs A B c1 c2 (M.drop (m + 1)) (L.drop m) V (hA _ (RM.out.below hv.out)) (hB _ (RW.out.below hv.out)) (by rw [List.length_drop]; omega) (by rw [List.length_drop]; omega); rw [show (M.drop (m + 1) == L.drop m) = true from by rw [GA.out.2.2]; exact beq_self_eq_true _, List.length_drop, List.length_drop, ← e1, ← e2] at h1
          exact h1)
        have CL4 := Lib.hid (show ∀ V, Hid (Below w6.heap.size w6 V) → Calls Tryz.prog 25 #[.slice AG L.length cG, .slice (some ⟨bI, 0, none⟩) L.length c0] V (fun e w' => e = .returned (.bool true) ∧ Below V.heap.size V w') from fun V hv => by
          have h1 := r4SamePairs AG (some ⟨bI, 0, none⟩) cG c0 L L V (RG.out.below hv.out) (RW.out.below hv.out) (by omega) (by omega)
          rwa [show (L == L) = true from beq_self_eq_true L] at h1)
        have h1 : m ≤ cM := by omega
        have h2 : m ≤ c0 := by omega
        have h3 : m + 1 ≤ cM := by omega
        have h4 : m + 1 ≤ M.length := by omega
        have h5 : (m : Int) ≤ (cM : Int) := by omega
        have h6 : (m : Int) ≤ (c0 : Int) := by omega
        have h7 : ((m + 1 : Nat) : Int) ≤ (M.length : Int) := by omega
        have h8 : ((m + 1 : Nat) : Int) ≤ (cM : Int) := by omega
        have h9 : (m : Int) ≤ (L.length : Int) := by omega
        have h10 : (0 : Int) ≤ (m : Int) + 1 := by omega
        have h11 : (m : Int) + 1 ≤ (M.length : Int) := by omega
        have h12 : (m : Int) + 1 ≤ (cM : Int) := by omega
        have HC2 := Lib.hid (And.intro hcM hcW); have IM := Lib.hid (show M.length = L.length + 1 from hM); clear hM hw hcM hcW
        go_upto_region 11 with (fail)
        refine wp_region_held_drew (S := fun w' => w'.cell? ⟨bM, m * 2, none⟩ = some (.int .i64 3) ∧ w'.cell? ⟨bM, m * 2 + 1, none⟩ = some (.int .i64 4) ∧ w'.cell? ⟨w0.heap.size, 0, none⟩ = some (.int .i64 3) ∧ w'.cell? ⟨w0.heap.size, 1, none⟩ = some (.int .i64 4) ∧ Hid (Below w6.heap.size w6 w')) (by kernel_rfl) (⟨(KS.out _ (Lib.hid ((Below.refl w6.heap.size w6).drew)).out).1, (KS.out _ (Lib.hid ((Below.refl w6.heap.size w6).drew)).out).2.1, (KS.out _ (Lib.hid ((Below.refl w6.heap.size w6).drew)).out).2.2.1, (KS.out _ (Lib.hid ((Below.refl w6.heap.size w6).drew)).out).2.2.2, (Lib.hid ((Below.refl w6.heap.size w6).drew))⟩) (fun hHeld => ?_); have BLs0 := Lib.hid (show Below w6.heap.size w6 w6.drew from (Below.refl _ _).drew); refine tk 0 ?_; refine tk 1 ?_; refine tk 2 ?_; refine tk 3 ?_; refine tk 4 ?_; refine tk 5 ?_; refine tk 6 ?_; refine tk 7 ?_; refine tk 8 ?_; refine tk 9 ?_; refine tk 10 ?_; refine tk 11 ?_; refine tk 12 ?_; refine tk 13 ?_; refine tk 14 ?_; refine tk 15 ?_; refine tk 16 ?_; refine tk 17 ?_; refine tk 18 ?_; refine tk 19 ?_; refine tk 20 ?_; refine tk 21 ?_; refine tk 22 ?_; refine tk 23 ?_; refine tk 24 ?_; refine tk 25 ?_; refine tk 26 ?_; refine tk 27 ?_; refine tk 28 ?_; refine tk 29 ?_; refine tk 30 ?_; refine tk 31 ?_; refine tk 32 ?_; refine tk 33 ?_; refine tk 34 ?_; refine tk 35 ?_; refine tk 36 ?_; refine tk 37 ?_; refine tk 38 ?_; refine tk 39 ?_; refine tk 40 ?_; refine tk 41 ?_; refine tk 42 ?_; refine tk 43 ?_; refine tk 44 ?_; refine tk 45 ?_; refine tk 46 ?_
        refine rdH 47 fun K hK => ?_; go_simp; refine (CL2.out _ BLs0).mono ?_; rintro e Us0 ⟨rfl, hb⟩
        try (go_simp)
        have BLs1 := Lib.hid (BLs0.out.trans (hb.mono BLs0.out.size)); clear hb; refine hK.out _ _ (⟨(KS.out _ BLs1.out).1, (KS.out _ BLs1.out).2.1, (KS.out _ BLs1.out).2.2.1, (KS.out _ BLs1.out).2.2.2, BLs1⟩) (fun hHelds47 => ?_); clear hK K hHeld
        try simp only [sP, sQ, sA, sB, sC]
        refine tk 48 ?_; refine tk 49 ?_; refine tk 50 ?_; refine tk 51 ?_; refine tk 52 ?_; refine tk 53 ?_; refine tk 54 ?_; refine tk 55 ?_; refine tk 56 ?_; refine tk 57 ?_; refine rdH 58 fun K hK => ?_; go_simp; refine (CL3.out _ _ _ _ _ _ _ (by have := IM.out; omega) (by omega) BLs1 (fun W' q => plst_if q HC2.out.1 _) (fun W' q => plst_if q HC2.out.2 _)).mono ?_; rintro e Us1 ⟨rfl, hb⟩
        try (go_simp)
        have BLs2 := Lib.hid (BLs1.out.trans (hb.mono BLs1.out.size)); clear hb; refine hK.out _ _ (⟨(KS.out _ BLs2.out).1, (KS.out _ BLs2.out).2.1, (KS.out _ BLs2.out).2.2.1, (KS.out _ BLs2.out).2.2.2, BLs2⟩) (fun hHelds58 => ?_); clear hK K hHelds47
        try simp only [sP, sQ, sA, sB, sC]
        refine tk 59 ?_; refine tk 60 ?_; refine tk 61 ?_; refine tk 62 ?_; refine tk 63 ?_; refine rdH 64 fun K hK => ?_; go_simp; refine (CL4.out _ BLs2).mono ?_; rintro e Us2 ⟨rfl, hb⟩
        try (go_simp)
        have BLs3 := Lib.hid (BLs2.out.trans (hb.mono BLs2.out.size)); clear hb; refine hK.out _ _ (⟨(KS.out _ BLs3.out).1, (KS.out _ BLs3.out).2.1, (KS.out _ BLs3.out).2.2.1, (KS.out _ BLs3.out).2.2.2, BLs3⟩) (fun hHelds64 => ?_); clear hK K hHelds58
        try simp only [sP, sQ, sA, sB, sC]
        refine tk 65 ?_; refine tk 66 ?_; refine wpAnyH_done (by kernel_rfl) ?_ _; generalize (if c0 = m then (some (⟨bI, 0, none⟩ : Addr)) else some ⟨bI, m * 2, none⟩) = q1; generalize (if cM = m + 1 then (some (⟨bM, 0, none⟩ : Addr)) else some ⟨bM, (m + 1) * 2, none⟩) = q2
        go_wp2_with fail
        all_goals
          go_meet
          exact ⟨rfl, BV.out.trans (BLs3.out.mono BV.out.size)⟩
    · have n1 : (E1 == 0) = false := by simp [e1]
      go_wp2_with fail
      go_meet
      exact ⟨rfl, Below.refl _ _⟩
  case rest =>
    as_aux_lemma =>
    obtain ⟨rfl, hb⟩ := hcut; obtain ⟨y1, hy⟩ : ∃ y, y = wc := ⟨_, rfl⟩; rw [← hy] at hb ⊢; clear hy; clear O1 B1 PX DE1 DS1; replace BB := Lib.hid (BB.out.trans (hb.mono BB.out.size)); replace BC := Lib.hid (BC.out.below hb); replace BS := Lib.hid (BS.out.below hb); replace HA := Lib.hid (HA.out.below hb); replace HP := Lib.hid (HP.out.below hb); replace TB := Lib.hid (TB.out.below hb); replace RW := Lib.hid (RW.out.below hb); clear hb; obtain ⟨_, c0, c1, c2, c3, c4, c5, c6, c7, c8, _⟩ := BC.out; obtain ⟨_, p0, p1, p2, p3, p4, p5, _⟩ := BS.out
    go_wp2_with fail
    refine (C2.out a _ HA.out TB.out).mono ?_; rintro e z3 ⟨A2, rfl, own, hb⟩; have O2 := Lib.hid own.held; replace BB := Lib.hid (BB.out.trans (hb.mono BB.out.size)); replace BC := Lib.hid (BC.out.below hb); replace BS := Lib.hid (BS.out.below hb); replace HA := Lib.hid (HA.out.below hb); replace HP := Lib.hid (HP.out.below hb); replace TB := Lib.hid (TB.out.below hb); replace RW := Lib.hid (RW.out.below hb); clear hb own C2; clear c0 c1 c2 c3 c4 c5 c6 c7 c8 p0 p1 p2 p3 p4 p5; unfold slv
    go_upto_region 14 with (fail)
    obtain ⟨V2, hV⟩ : ∃ V, V = z3.alloc (.cells #[.int .i64 S2.seg, .slice A2.w S2.words.length A2.cw, .slice A2.k S2.keys.length A2.ck, .slice A2.v S2.vals.length A2.cv, .slice A2.c S2.counts.length A2.cc, .int .u64 (S2.laid : Int)] 27) := ⟨_, rfl⟩
    have hba : Below z3.heap.size z3 V2 := by rw [hV]; exact (Below.refl _ _).alloc (Nat.le_refl _) _
    have B2 := Lib.hid (show Box V2 z3.heap.size S2 A2 by rw [hV]; exact Box.new z3 S2 A2 27)
    first | rw [← hV] | skip
    replace BB := Lib.hid (BB.out.trans (hba.mono BB.out.size)); replace BC := Lib.hid (BC.out.below hba); replace BS := Lib.hid (BS.out.below hba); replace HA := Lib.hid (HA.out.below hba); replace HP := Lib.hid (HP.out.below hba); replace TB := Lib.hid (TB.out.below hba); replace RW := Lib.hid (RW.out.below hba); replace O2 := Lib.hid (O2.out.below hba); clear hV hba
    go_upto_if 150 with (fail)
    go_cut [9] from 23 (fun s9 wx => s9 = .bool true ∧ Below V2.heap.size V2 wx)
    case first =>
      by_cases e2 : E2 = 0
      · as_aux_lemma =>
        subst e2; obtain ⟨m, OT⟩ := Gp.ord_take (c := c) HOK.out DE2.out.symm
        have hLa : L = Gp.all s := by rw [DL.out, OT.was.2]
        have hbt : b0 = true := by rw [DB0.out, OT.was.1]; rfl
        obtain ⟨num, hm, _, now⟩ := OT; subst num hbt; have F2 := Gp.take_fine (c := c) HOK.out HSH.out m; rw [← hLa] at now hm; rw [← DS2.out] at now F2; obtain ⟨g1, g2, g3⟩ := Gp.cut_facts hm; have CN := Lib.hid (show ∀ A V, Held V S2 A → Tab V → Calls Tryz.prog 26 #[slv S2 A] V (AllPost (L.take m ++ L.drop (m + 1)) true V) from fun A V hv tv => by have := l9All S2 A V hv F2.ok F2.short tv; rwa [now.1, now.2] at this); obtain ⟨N, hNd⟩ : ∃ N, N = L.take m ++ L.drop (m + 1) := ⟨_, rfl⟩; rw [← hNd] at CN g1 g2 g3; have GA := Lib.hid (And.intro g2 g3); have NL := Lib.hid g1; have HM := Lib.hid hm; clear now F2 hNd g1 g2 g3 hm hLa; unfold slv at CN; have k5 : ((0 : Int) == 0) = true := rfl; obtain ⟨_, p0, p1, p2, p3, p4, p5, _⟩ := B2.out
        go_wp2_with fail
        have BV := Lib.hid (Below.refl V2.heap.size V2); refine (CN.out A2 _ O2.out TB.out).mono ?_; rintro e z4 ⟨v1, rfl, hrow, hb⟩; obtain ⟨AN, cN, rfl, hRN, hcN, kN⟩ := row8 hrow; have RN := Lib.hid hRN; replace BB := Lib.hid (BB.out.trans (hb.mono BB.out.size)); replace BC := Lib.hid (BC.out.below hb); replace BS := Lib.hid (BS.out.below hb); replace HA := Lib.hid (HA.out.below hb); replace HP := Lib.hid (HP.out.below hb); replace TB := Lib.hid (TB.out.below hb); replace RW := Lib.hid (RW.out.below hb); replace O2 := Lib.hid (O2.out.below hb); replace B2 := Lib.hid (B2.out.below hb); replace BV := Lib.hid (BV.out.trans (hb.mono BV.out.size)); clear hb hrow hRN CN p0 p1 p2 p3 p4 p5; have hm := HM.out; have hN := NL.out; have hw := LW.out; have hcW := KC.out
        obtain ⟨bI, rfl⟩ : ∃ bI, A0 = some ⟨bI, 0, none⟩ := by
          rcases KA.out with ⟨_, h0, _⟩ | h0
          · rw [h0] at hm; simp at hm
          · exact h0
        have f0 : IntKind.i64.wrap ((L.length : Int) - 1) = (L.length : Int) - 1 := IntWalk.i64_in _ (by omega)
        have f1 : ((N.length : Int) != (L.length : Int) - 1) = false := by simp; omega
        have f2 : decide ((m : Int) < 0) = false := by simp
        have f3 : decide ((m : Int) ≥ (L.length : Int)) = false := by simp; omega
        have f3b : decide ((L.length : Int) ≤ (m : Int)) = false := by simp; omega
        have f3c : decide (L.length ≤ m) = false := by simp; omega
        have f4 : IntKind.i64.wrap ((m : Int) + 1) = (m : Int) + 1 := IntWalk.i64_in _ (by omega)
        rcases kN with ⟨rfl, hnil, rfl⟩ | ⟨bN, rfl⟩
        · as_aux_lemma =>
          subst hnil
          have L1 : L.length = 1 := by have h9 : (0 : Nat) = L.length - 1 := hN; omega
          obtain rfl : m = 0 := by omega
          have CL2 := Lib.hid (show ∀ V, Hid (Below z4.heap.size z4 V) → Calls Tryz.prog 25 #[.slice none 0 0, .slice (some ⟨bI, 0, none⟩) 0 c0] V (fun e w' => e = .returned (.bool true) ∧ Below V.heap.size V w') from fun V hv => r4SamePairs none (some ⟨bI, 0, none⟩) 0 c0 [] [] V (Or.inl rfl) (Or.inl rfl) (by simp) (by simp))
          have CL3 := Lib.hid (show ∀ A n c V, n = 0 → Hid (Below z4.heap.size z4 V) → Calls Tryz.prog 25 #[.slice none 0 0, .slice A n c] V (fun e w' => e = .returned (.bool true) ∧ Below V.heap.size V w') from fun A n c V hn hv => by
            subst hn
            exact r4SamePairs none A 0 c [] [] V (Or.inl rfl) (Or.inl rfl) (by simp) (by simp))
          have N0 := Lib.hid (show L.length - 1 = 0 by omega); have N1 := Lib.hid (show L.length - (0 + 1) = 0 by omega)
          have g0 : IntKind.i64.wrap 1 = 1 := by decide
          have g1 : ((0 : Int) != (L.length : Int) - 1) = false := by rw [L1]; rfl
          have g3 : 0 + 1 ≤ c0 := by omega
          have g3b : 1 ≤ c0 := by omega
          have g3c : ((1 : Nat) : Int) ≤ (L.length : Int) := by omega
          have g3d : 1 ≤ L.length := by omega
          have g3e : (1 : Int) ≤ (L.length : Int) := by omega
          have g3f : (1 : Int) ≤ (c0 : Int) := by omega
          have g5 : decide ((L.length : Int) ≤ 0) = false := decide_eq_false (by omega); have g6 : decide (L.length ≤ 0) = false := decide_eq_false (by omega)
          have g7 : 0 < L.length := by omega
          have g8 : ¬ L = [] := by intro e; rw [e] at L1; simp at L1
          have g9 : ¬ L.length = 0 := by omega
          have g10 : decide ((0 : Int) ≥ (L.length : Int)) = false := decide_eq_false (by omega); clear hm hN hw hcN hcW HM NL LW KC KA GA f1 f2 f3 f3b f3c f4 L1 RW RN
          go_upto_region 16 with (fail)
          refine wp_region_held_drew (S := (fun w' => Hid (Below z4.heap.size z4 w'))) (by kernel_rfl) ((Lib.hid ((Below.refl z4.heap.size z4).drew))) (fun hHeld => ?_); have BLtn0 := Lib.hid (show Below z4.heap.size z4 z4.drew from (Below.refl _ _).drew); refine tk 0 ?_; refine tk 1 ?_; refine tk 2 ?_; refine tk 3 ?_; refine tk 4 ?_; refine tk 5 ?_; refine tk 6 ?_; refine tk 7 ?_; refine tk 8 ?_; refine tk 9 ?_; refine tk 10 ?_; refine tk 11 ?_; refine tk 12 ?_; refine tk 13 ?_; refine tk 14 ?_; refine tk 15 ?_; refine tk 16 ?_; refine tk 17 ?_; refine tk 18 ?_; refine tk 19 ?_; refine tk 20 ?_; refine tk 21 ?_; refine tk 22 ?_; refine tk 23 ?_; refine tk 24 ?_; refine tk 25 ?_; refine tk 26 ?_; refine tk 27 ?_; refine tk 28 ?_; refine tk 29 ?_; refine tk 30 ?_; refine rdH 31 fun K hK => ?_; go_simp; refine (CL2.out _ BLtn0).mono ?_; rintro e Utn0 ⟨rfl, hb⟩
          try (go_simp)
          have BLtn1 := Lib.hid (BLtn0.out.trans (hb.mono BLtn0.out.size)); clear hb; refine hK.out _ _ (BLtn1) (fun hHeldtn31 => ?_); clear hK K hHeld
          try simp only [sP, sQ, sA, sB, sC]
          refine tk 32 ?_; refine tk 33 ?_; refine tk 34 ?_; refine tk 35 ?_; refine tk 36 ?_; refine tk 37 ?_; refine tk 38 ?_; refine tk 39 ?_; refine tk 40 ?_; refine tk 41 ?_; refine rdH 42 fun K hK => ?_; go_simp; refine (CL3.out _ _ _ _ (by first | exact N0.out | exact N1.out | rfl | simp) BLtn1).mono ?_; rintro e Utn1 ⟨rfl, hb⟩
          try (go_simp)
          have BLtn2 := Lib.hid (BLtn1.out.trans (hb.mono BLtn1.out.size)); clear hb; refine hK.out _ _ (BLtn2) (fun hHeldtn42 => ?_); clear hK K hHeldtn31
          try simp only [sP, sQ, sA, sB, sC]
          refine tk 43 ?_; refine tk 44 ?_; refine wpAnyH_done (by kernel_rfl) ?_ _; generalize (if c0 = 0 + 1 then (some (⟨bI, 0, none⟩ : Addr)) else some ⟨bI, (0 + 1) * 2, none⟩) = q2; generalize (if c0 = 1 then (some (⟨bI, 0, none⟩ : Addr)) else some ⟨bI, 2, none⟩) = q3
          go_wp2_with fail
          all_goals
            go_meet
            exact ⟨rfl, BV.out.trans (BLtn2.out.mono BV.out.size)⟩
        · as_aux_lemma =>
          have CL2 := Lib.hid (show ∀ V, Hid (Below z4.heap.size z4 V) → Calls Tryz.prog 25 #[.slice (some ⟨bN, 0, none⟩) m cN, .slice (some ⟨bI, 0, none⟩) m c0] V (fun e w' => e = .returned (.bool true) ∧ Below V.heap.size V w') from fun V hv => by
            have h1 := r4SamePairs (some ⟨bN, 0, none⟩) (some ⟨bI, 0, none⟩) cN c0 (N.take m) (L.take m) V (plst_take (RN.out.below hv.out) m) (plst_take (RW.out.below hv.out) m) (by rw [List.length_take]; omega) (by rw [List.length_take]; omega); rw [GA.out.1, show (L.take m == L.take m) = true from beq_self_eq_true _] at h1
            rwa [show (L.take m).length = m from by rw [List.length_take]; omega] at h1)
          have CL3 := Lib.hid (show ∀ A B n1 c1 n2 c2 V, n1 = N.length - m → n2 = L.length - (m + 1) → Hid (Below z4.heap.size z4 V) → (∀ W', PLst W' (some ⟨bN, 0, none⟩) N → PLst W' A (N.drop m)) → (∀ W', PLst W' (some ⟨bI, 0, none⟩) L → PLst W' B (L.drop (m + 1))) → Calls Tryz.prog 25 #[.slice A n1 c1, .slice B n2 c2] V (fun e w' => e = .returned (.bool true) ∧ Below V.heap.size V w') from fun A B n1 c1 n2 c2 V e1 e2 hv hA hB => by
            have h1 := r4SamePairs A B c1 c2 (N.drop m) (L.drop (m + 1)) V (hA _ (RN.out.below hv.out)) (hB _ (RW.out.below hv.out)) (by rw [List.length_drop]; omega) (by rw [List.length_drop]; omega); rw [show (N.drop m == L.drop (m + 1)) = true from by rw [GA.out.2]; exact beq_self_eq_true _, List.length_drop, List.length_drop, ← e1, ← e2] at h1
            exact h1)
          have h1 : m ≤ cN := by omega
          have h2 : m ≤ c0 := by omega
          have h3 : m + 1 ≤ c0 := by omega
          have h4 : m + 1 ≤ L.length := by omega
          have h5 : (m : Int) ≤ (cN : Int) := by omega
          have h6 : (m : Int) ≤ (c0 : Int) := by omega
          have h7 : ((m + 1 : Nat) : Int) ≤ (L.length : Int) := by omega
          have h8 : (m : Int) ≤ (N.length : Int) := by omega
          have h9 : (m : Int) ≤ (L.length : Int) := by omega
          have h10 : (0 : Int) ≤ (m : Int) + 1 := by omega
          have h11 : (m : Int) + 1 ≤ (L.length : Int) := by omega
          have h12 : (m : Int) + 1 ≤ (c0 : Int) := by omega
          have h13 : m ≤ N.length := by omega
          have HC2 := Lib.hid (And.intro hcN hcW); clear hN hw hcN hcW
          go_upto_region 16 with (fail)
          refine wp_region_held_drew (S := (fun w' => Hid (Below z4.heap.size z4 w'))) (by kernel_rfl) ((Lib.hid ((Below.refl z4.heap.size z4).drew))) (fun hHeld => ?_); have BLts0 := Lib.hid (show Below z4.heap.size z4 z4.drew from (Below.refl _ _).drew); refine tk 0 ?_; refine tk 1 ?_; refine tk 2 ?_; refine tk 3 ?_; refine tk 4 ?_; refine tk 5 ?_; refine tk 6 ?_; refine tk 7 ?_; refine tk 8 ?_; refine tk 9 ?_; refine tk 10 ?_; refine tk 11 ?_; refine tk 12 ?_; refine tk 13 ?_; refine tk 14 ?_; refine tk 15 ?_; refine tk 16 ?_; refine tk 17 ?_; refine tk 18 ?_; refine tk 19 ?_; refine tk 20 ?_; refine tk 21 ?_; refine tk 22 ?_; refine tk 23 ?_; refine tk 24 ?_; refine tk 25 ?_; refine tk 26 ?_; refine tk 27 ?_; refine tk 28 ?_; refine tk 29 ?_; refine tk 30 ?_; refine rdH 31 fun K hK => ?_; go_simp; refine (CL2.out _ BLts0).mono ?_; rintro e Uts0 ⟨rfl, hb⟩
          try (go_simp)
          have BLts1 := Lib.hid (BLts0.out.trans (hb.mono BLts0.out.size)); clear hb; refine hK.out _ _ (BLts1) (fun hHeldts31 => ?_); clear hK K hHeld
          try simp only [sP, sQ, sA, sB, sC]
          refine tk 32 ?_; refine tk 33 ?_; refine tk 34 ?_; refine tk 35 ?_; refine tk 36 ?_; refine tk 37 ?_; refine tk 38 ?_; refine tk 39 ?_; refine tk 40 ?_; refine tk 41 ?_; refine rdH 42 fun K hK => ?_; go_simp; refine (CL3.out _ _ _ _ _ _ _ (by omega) (by omega) BLts1 (fun W' q => plst_if q HC2.out.1 _) (fun W' q => plst_if q HC2.out.2 _)).mono ?_; rintro e Uts1 ⟨rfl, hb⟩
          try (go_simp)
          have BLts2 := Lib.hid (BLts1.out.trans (hb.mono BLts1.out.size)); clear hb; refine hK.out _ _ (BLts2) (fun hHeldts42 => ?_); clear hK K hHeldts31
          try simp only [sP, sQ, sA, sB, sC]
          refine tk 43 ?_; refine tk 44 ?_; refine wpAnyH_done (by kernel_rfl) ?_ _; generalize (if cN = m then (some (⟨bN, 0, none⟩ : Addr)) else some ⟨bN, m * 2, none⟩) = q1; generalize (if c0 = m + 1 then (some (⟨bI, 0, none⟩ : Addr)) else some ⟨bI, (m + 1) * 2, none⟩) = q2
          go_wp2_with fail
          all_goals
            go_meet
            exact ⟨rfl, BV.out.trans (BLts2.out.mono BV.out.size)⟩
      · have n1 : (E2 == 0) = false := by simp [e2]
        go_wp2_with fail
        go_meet
        exact ⟨rfl, Below.refl _ _⟩
    case rest =>
      as_aux_lemma =>
      obtain ⟨rfl, hb⟩ := hcut; obtain ⟨y2, hy⟩ : ∃ y, y = wc := ⟨_, rfl⟩; rw [← hy] at hb ⊢; clear hy; clear O2 B2 DE2 DS2 RW; replace BB := Lib.hid (BB.out.trans (hb.mono BB.out.size)); replace BC := Lib.hid (BC.out.below hb); replace BS := Lib.hid (BS.out.below hb); replace HA := Lib.hid (HA.out.below hb); replace HP := Lib.hid (HP.out.below hb); replace TB := Lib.hid (TB.out.below hb); clear hb; obtain ⟨_, c0, c1, c2, c3, c4, c5, c6, c7, c8, _⟩ := BC.out; obtain ⟨_, p0, p1, p2, p3, p4, p5, _⟩ := BS.out
      go_wp2_with fail
      refine (C3.out a pa pc _ HA.out TB.out HP.out).mono ?_; rintro e t3 ⟨A3, rfl, own, hb⟩; have O3 := Lib.hid own.held; replace BB := Lib.hid (BB.out.trans (hb.mono BB.out.size)); replace BC := Lib.hid (BC.out.below hb); replace BS := Lib.hid (BS.out.below hb); replace HA := Lib.hid (HA.out.below hb); replace HP := Lib.hid (HP.out.below hb); replace TB := Lib.hid (TB.out.below hb); clear hb own C3; clear c0 c1 c2 c3 c4 c5 c6 c7 c8 p0 p1 p2 p3 p4 p5; unfold slv
      go_upto_region 19 with (fail)
      obtain ⟨V3, hV⟩ : ∃ V, V = t3.alloc (.cells #[.int .i64 S3.seg, .slice A3.w S3.words.length A3.cw, .slice A3.k S3.keys.length A3.ck, .slice A3.v S3.vals.length A3.cv, .slice A3.c S3.counts.length A3.cc, .int .u64 (S3.laid : Int)] 27) := ⟨_, rfl⟩
      have hba : Below t3.heap.size t3 V3 := by rw [hV]; exact (Below.refl _ _).alloc (Nat.le_refl _) _
      have B3 := Lib.hid (show Box V3 t3.heap.size S3 A3 by rw [hV]; exact Box.new t3 S3 A3 27)
      first | rw [← hV] | skip
      replace BB := Lib.hid (BB.out.trans (hba.mono BB.out.size)); replace BC := Lib.hid (BC.out.below hba); replace BS := Lib.hid (BS.out.below hba); replace HA := Lib.hid (HA.out.below hba); replace HP := Lib.hid (HP.out.below hba); replace TB := Lib.hid (TB.out.below hba); replace O3 := Lib.hid (O3.out.below hba); clear hV hba; obtain ⟨_, p0, p1, p2, p3, p4, p5, _⟩ := B3.out
      go_wp2_with fail
      refine (CZ.out A3 _ O3.out TB.out).mono ?_; rintro e t4 ⟨v3, rfl, hrow, hb⟩; obtain ⟨A9, c9, rfl, hR9, _, _⟩ := row8 hrow; have R9 := Lib.hid hR9; replace BB := Lib.hid (BB.out.trans (hb.mono BB.out.size)); replace BC := Lib.hid (BC.out.below hb); replace BS := Lib.hid (BS.out.below hb); replace HA := Lib.hid (HA.out.below hb); replace HP := Lib.hid (HP.out.below hb); replace TB := Lib.hid (TB.out.below hb); replace O3 := Lib.hid (O3.out.below hb); replace B3 := Lib.hid (B3.out.below hb); clear hb hrow hR9 CZ p0 p1 p2 p3 p4 p5
      by_cases e3 : E3 = 0
      · obtain ⟨z1, z2, z4⟩ := DZ.out e3
        have hL3 : L3 = ps := by rw [DL3.out, z2]
        have hbt : b3 = true := by rw [DB3.out, z1]; rfl
        subst e3; subst hbt; rw [hL3] at R9; have hn := HN.out; have k6 : IntKind.u64.wrap (ps.length : Int) = (ps.length : Int) := IntWalk.u64_in _ (by omega)
        have k7 : ((S3.laid : Int) == IntKind.u64.wrap ((s.laid : Int) + (ps.length : Int))) = true := by rw [z4, wrap_add]; simp
        have k8 : ((0 : Int) != 0) = false := rfl; have RL := Lib.hid hL3; clear z1 z2 z4 hL3 hn
        go_wp2_with fail
        rw [RL.out]; refine (r4SamePairs A9 pa c9 pc ps ps _ R9.out HP.out (by have := HN.out; omega) (by have := HN.out; omega)).mono ?_; rintro e t5 ⟨rfl, hb⟩; rw [show (ps == ps) = true from beq_self_eq_true ps]; replace BB := Lib.hid (BB.out.trans (hb.mono BB.out.size)); replace BS := Lib.hid (BS.out.below hb); replace B3 := Lib.hid (B3.out.below hb); clear hb; obtain ⟨_, p0, p1, p2, p3, p4, p5, _⟩ := BS.out; obtain ⟨_, q0, q1, q2, q3, q4, q5, _⟩ := B3.out; go_wp2; go_ret; exact ⟨rfl, BB.out⟩
      · have k8 : (E3 != 0) = true := by simp [e3]
        go_wp2; go_ret; exact ⟨rfl, BB.out⟩
set_option maxRecDepth 100000 in
set_option maxHeartbeats 2000000 in
theorem great (c : Cf) (s : Sl) (a : Ads) (k : Int) (pa : Option Addr) (pc : Nat) (ps : List (Int × Int)) (W : World) (hc : c.In) (h : Held W s a) (hok : s.Ok) (hT : Tab W) (hk : In64 k) (hp : PLst W pa ps) (h64 : In64P ps) (hg : s.greatB 600 = true) :
    Calls Tryz.prog 7 #[cfv c, slv s a, .int .i64 k, .slice pa ps.length pc] W fun e w' => e = .returned (.bool true) ∧ Below W.heap.size W w' := by
  have HG := Lib.hid hg; have HA := Lib.hid h; have HP := Lib.hid hp; have TB := Lib.hid hT; have BC0 := Lib.hid (fun o => (CBox.new W c 32).below ((Below.refl _ _).alloc (Nat.le_refl _) o)); have BS0 := Lib.hid (fun o => box_second W o s a 27); have BB0 := Lib.hid (fun o o' => ((Below.refl W.heap.size W).alloc (Nat.le_refl _) o).alloc (by simp) o'); have CA := Lib.hid (fun o o' => l9Alive ((W.alloc o).alloc o') (hT.below (BB0.out o o'))); clear h hok hT hg hp h64 hk hc ; unfold slv cfv
  go_enter Tryz.func7, Tryz.ntmps7
  go_wp2_with fail
  refine (CA.out _ _).mono ?_; rintro e w0 ⟨rfl, hb⟩; have BB := Lib.hid ((BB0.out _ _).trans (hb.mono (by simp; omega))); have BC := Lib.hid ((BC0.out _).below hb); have BS := Lib.hid ((BS0.out _).below hb); replace HA := Lib.hid (HA.out.below BB.out); replace HP := Lib.hid (HP.out.below BB.out); replace TB := Lib.hid (TB.out.below BB.out); clear hb BB0 BS0 BC0 CA
  go_upto_region 3 with (fail)
  obtain ⟨u0, hV⟩ : ∃ V, V = w0.alloc (.cells #[.int .i64 3, .int .i64 4] 36) := ⟨_, rfl⟩
  have hba : Below w0.heap.size w0 u0 := by rw [hV]; exact (Below.refl _ _).alloc (Nat.le_refl _) _
  have PX := Lib.hid (show PBox u0 w0.heap.size (3, 4) by rw [hV]; exact PBox.new w0 (3, 4) 36)
  first | rw [← hV] | skip
  replace BB := Lib.hid (BB.out.trans (hba.mono BB.out.size)); replace BC := Lib.hid (BC.out.below hba); replace BS := Lib.hid (BS.out.below hba); replace HA := Lib.hid (HA.out.below hba); replace HP := Lib.hid (HP.out.below hba); replace TB := Lib.hid (TB.out.below hba); clear hV hba; obtain ⟨_, p0, p1, p2, p3, p4, p5, _⟩ := BS.out
  go_wp2_with fail
  refine (r4Great s a 600 _).mono ?_; rintro e w1 ⟨rfl, hb⟩; rw [HG.out]; replace BB := Lib.hid (BB.out.trans (hb.mono BB.out.size)); replace BC := Lib.hid (BC.out.below hb); replace BS := Lib.hid (BS.out.below hb); replace HA := Lib.hid (HA.out.below hb); replace HP := Lib.hid (HP.out.below hb); replace TB := Lib.hid (TB.out.below hb); replace PX := Lib.hid (PX.out.below hb); clear hb p0 p1 p2 p3 p4 p5; go_wp2; go_ret; exact ⟨rfl, BB.out⟩
set_option maxRecDepth 100000 in
set_option maxHeartbeats 2000000 in
theorem long (c : Cf) (s : Sl) (a : Ads) (k : Int) (pa : Option Addr) (pc : Nat) (ps : List (Int × Int)) (W : World) (hc : c.In) (h : Held W s a) (hok : s.Ok) (hT : Tab W) (hk : In64 k) (hp : PLst W pa ps) (h64 : In64P ps) (hg : s.greatB 600 = false) (hn : ¬ ps.length ≤ 300) :
    Calls Tryz.prog 7 #[cfv c, slv s a, .int .i64 k, .slice pa ps.length pc] W fun e w' => e = .returned (.bool true) ∧ Below W.heap.size W w' := by
  have HG := Lib.hid hg
  have k1 : decide ((ps.length : Int) > 300) = true := by simp; omega
  have HA := Lib.hid h; have HP := Lib.hid hp; have TB := Lib.hid hT; have BC0 := Lib.hid (fun o => (CBox.new W c 32).below ((Below.refl _ _).alloc (Nat.le_refl _) o)); have BS0 := Lib.hid (fun o => box_second W o s a 27); have BB0 := Lib.hid (fun o o' => ((Below.refl W.heap.size W).alloc (Nat.le_refl _) o).alloc (by simp) o'); have CA := Lib.hid (fun o o' => l9Alive ((W.alloc o).alloc o') (hT.below (BB0.out o o'))); clear h hok hT hg hp h64 hk hc hn; unfold slv cfv
  go_enter Tryz.func7, Tryz.ntmps7
  go_wp2_with fail
  refine (CA.out _ _).mono ?_; rintro e w0 ⟨rfl, hb⟩; have BB := Lib.hid ((BB0.out _ _).trans (hb.mono (by simp; omega))); have BC := Lib.hid ((BC0.out _).below hb); have BS := Lib.hid ((BS0.out _).below hb); replace HA := Lib.hid (HA.out.below BB.out); replace HP := Lib.hid (HP.out.below BB.out); replace TB := Lib.hid (TB.out.below BB.out); clear hb BB0 BS0 BC0 CA
  go_upto_region 3 with (fail)
  obtain ⟨u0, hV⟩ : ∃ V, V = w0.alloc (.cells #[.int .i64 3, .int .i64 4] 36) := ⟨_, rfl⟩
  have hba : Below w0.heap.size w0 u0 := by rw [hV]; exact (Below.refl _ _).alloc (Nat.le_refl _) _
  have PX := Lib.hid (show PBox u0 w0.heap.size (3, 4) by rw [hV]; exact PBox.new w0 (3, 4) 36)
  first | rw [← hV] | skip
  replace BB := Lib.hid (BB.out.trans (hba.mono BB.out.size)); replace BC := Lib.hid (BC.out.below hba); replace BS := Lib.hid (BS.out.below hba); replace HA := Lib.hid (HA.out.below hba); replace HP := Lib.hid (HP.out.below hba); replace TB := Lib.hid (TB.out.below hba); clear hV hba; obtain ⟨_, p0, p1, p2, p3, p4, p5, _⟩ := BS.out
  go_wp2_with fail
  refine (r4Great s a 600 _).mono ?_; rintro e w1 ⟨rfl, hb⟩; rw [HG.out]; replace BB := Lib.hid (BB.out.trans (hb.mono BB.out.size)); replace BC := Lib.hid (BC.out.below hb); replace BS := Lib.hid (BS.out.below hb); replace HA := Lib.hid (HA.out.below hb); replace HP := Lib.hid (HP.out.below hb); replace TB := Lib.hid (TB.out.below hb); replace PX := Lib.hid (PX.out.below hb); clear hb p0 p1 p2 p3 p4 p5; go_wp2; go_ret; exact ⟨rfl, BB.out⟩
theorem walk (c : Cf) (s : Sl) (a : Ads) (k : Int) (pa : Option Addr) (pc : Nat) (ps : List (Int × Int)) (W : World) (hc : c.In) (h : Held W s a) (hok : s.Ok) (hT : Tab W) (hk : In64 k) (hp : PLst W pa ps) (h64 : In64P ps) :
    Calls Tryz.prog 7 #[cfv c, slv s a, .int .i64 k, .slice pa ps.length pc] W fun e w' => e = .returned (.bool true) ∧ Below W.heap.size W w' := by
  cases hg : s.greatB 600
  · have hs : s.Short := by
      unfold Sl.greatB at hg
      simp only [Bool.or_eq_false_iff, decide_eq_false_iff_not] at hg
      exact ⟨by omega, by omega, by omega, by omega⟩
    by_cases hn : ps.length ≤ 300
    · exact full c s a k pa pc ps W hc h hok hs hT hk hp h64 hg hn
    · exact long c s a k pa pc ps W hc h hok hT hk hp h64 hg hn
  · exact great c s a k pa pc ps W hc h hok hT hk hp h64 hg
end Go.Proofs.YtgcdidklaiaohaaGreatDoor.gapOrder
