/- The walk of the law SlotsTells: which gapped arrays may be, new ones, copies, whether two are the same, what slots and parts have, or the errors, are the document's; they stay, what is answered is new memory. -/
import Derived.Test.YtgngipkfbckhpaaDoorM19
import Derived.Test.YtgngipkfbckhpaaDoorM03
import Derived.Test.YtgngipkfbckhpaaDoorM18
import Derived.Test.YtgngipkfbckhpaaDoorM08
import Derived.Test.YtgngipkfbckhpaaDoorM06
import Derived.Test.YtgngipkfbckhpaaDoorM08
import Derived.Test.YtgngipkfbckhpaaDoorM23
import Derived.Deep.RegionHeld3
namespace Go.Proofs.YtgngipkfbckhpaaDoor.slotsTells
open Go.RowKit
set_option linter.unusedVariables false
set_option linter.unusedSimpArgs false

/-- Under way through the pairs that are written over. -/
def XJ (U : Nat) (A : Option Addr) (n : Nat) (W : World) (i : Value) (wr : World) : Prop := ∃ k : Nat, k ≤ n ∧ i = .int .i64 k ∧ Below U W wr ∧ Soft .i64 wr A (n * 2)
theorem soft_pairs {w : World} {B : Nat} {e : TypeId} {v : Value} {ps : List (Int × Int)} (h : w.ownsRow B e 2 v ps.length (pcells ps)) :
    ∃ A c, v = .slice A ps.length c ∧ PLst w A ps ∧ Soft .i64 w A (ps.length * 2) ∧ From B w.heap.size A (ps.length * 2) := by
  obtain ⟨A, c, rfl, hC, _, hblk, _⟩ := own_cells h
  refine ⟨A, c, rfl, hC, ?_, ?_⟩
  · rcases hC with h0 | ⟨b, off, hA, hlt, hc⟩
    · left
      have := pcells_length ps
      rw [h0] at this
      simpa using this.symm
    · subst hA
      obtain ⟨_, ho, _⟩ := hblk _ rfl
      dsimp only at ho
      subst ho
      refine Or.inr ⟨b, 0, rfl, hlt, fun i hi => ⟨?_, h.frozenAt _⟩⟩
      rw [hc i (by rw [pcells_length]; exact hi)]
      have hp := pcells_at ps (i / 2) (by omega)
      rcases Nat.mod_two_eq_zero_or_one i with h2 | h2
      · have e : i = i / 2 * 2 := by omega
        rw [e, hp.1]; exact ⟨_, rfl⟩
      · have e : i = i / 2 * 2 + 1 := by omega
        rw [e, hp.2]; exact ⟨_, rfl⟩
  · exact Or.inr fun p hp => ⟨(hblk p hp).1, (hblk p hp).2.2⟩
theorem xj_step {U : Nat} {A : Option Addr} {n k : Nat} {W wr : World} (hB : Below U W wr) (hS : Soft .i64 wr A (n * 2)) (hf : ∀ p, A = some p → U ≤ p.block) (hk : k < n) :
    ∃ b off z, A = some ⟨b, off, none⟩ ∧ wr.cell? ⟨b, off + k * 2, none⟩ = some (.int .i64 z) ∧ wr.frozen? ⟨b, off + k * 2, none⟩ = false ∧ ∀ x, Below U W (wr.setCell ⟨b, off + k * 2, none⟩ (.int .i64 x)) ∧ Soft .i64 (wr.setCell ⟨b, off + k * 2, none⟩ (.int .i64 x)) A (n * 2) := by
  rcases hS with h0 | ⟨b, off, h1, h2, h3⟩
  · omega
  obtain ⟨⟨z, hz⟩, hfz⟩ := h3 (k * 2) (by omega)
  exact ⟨b, off, z, h1, hz, hfz, fun x => ⟨hB.setCell (p := ⟨b, off + k * 2, none⟩) (hf ⟨b, off, none⟩ h1) _, Soft.set (Or.inr ⟨b, off, h1, h2, h3⟩) hz x⟩⟩
theorem pairs_short (s : Sl) (u v : Int) (hs : s.Short) : (s.pairsV u v).length ≤ 2147483647 := by
  unfold Sl.pairsV
  split
  · rename_i h
    have hp2 : Sl.partB s.keys.length u v = true := by
      unfold Sl.pairsE at h
      cases hm : s.mayB
      · rw [hm] at h; simp at h
      · cases hq : Sl.partB s.keys.length u v
        · rw [hm, hq] at h; simp at h
        · rfl
    obtain ⟨g1, g2, g3⟩ := part_iff.1 hp2
    have l2 := hs.keys
    unfold Sl.of
    rw [List.length_map]
    have := Oc.places_length_le s.words u.toNat v.toNat
    omega
  · exact Nat.zero_le _
theorem pairs_self (ps : List (Int × Int)) : (ps == ps) = true := by simp

set_option maxRecDepth 100000 in
set_option maxHeartbeats 16000000 in
theorem full (s t : Sl) (a b : Ads) (i j : Int) (W : World) (h : Held W s a) (hok : s.Ok) (hs : s.Short) (h2 : Held W t b) (hs2 : t.Short) (hg : s.greatB 300 = false) (hg2 : t.greatB 300 = false) (hi : In64 i) (hj : In64 j) (hT : Tab W) :
    Calls Tryd.prog 4 #[slv s a, slv t b, .int .i64 i, .int .i64 j] W fun e w' => e = .returned (.bool true) ∧ Below W.heap.size W w' := by
  have HSh := Lib.hid hs
  have HG := Lib.hid hg
  have HG2 := Lib.hid hg2
  have TB0 := Lib.hid hT
  have HA0 := Lib.hid h
  have HT0 := Lib.hid h2
  have hps : (s.pairsV i j).length ≤ 2147483647 := pairs_short s i j hs
  have CA1 := Lib.hid (fun A V hv tv => sAt s A i V hv hok hs tv)
  have CA2 := Lib.hid (fun A V hv => r4At s A i V hv hok hs)
  unfold AtPost pv at CA1 CA2
  have CP1 := Lib.hid (fun A V hv tv => cPairs s A i j V hv hok hs tv)
  have CP2 := Lib.hid (fun A V hv => r4Pairs s A i j V hv hok hs)
  have CK1 := Lib.hid (fun A V hv tv => sCheck s A V hv hok hs tv)
  have CK2 := Lib.hid (fun A V hv => r4Check s A V hv hok hs)
  have CS1 := Lib.hid (fun A B V hv hv2 => sSame s t A B V hv hv2 hs hs2)
  have CS2 := Lib.hid (fun A B V hv hv2 => r4Same s t A B V hv hv2 hs hs2)
  have CS3 := Lib.hid (fun A B V hv hv2 => sSame s s A B V hv hv2 hs hs)
  have CS4 := Lib.hid (fun A B V hv hv2 => r4Same s s A B V hv hv2 hs hs)
  rw [same_self] at CS3 CS4
  have CQ := Lib.hid (fun A B ca cb V hv hv2 => r4SamePairs A B ca cb (s.pairsV i j) (s.pairsV i j) V hv hv2 (by omega) (by omega))
  rw [pairs_self] at CQ
  have CT := Lib.hid (fun A V hv => sTwin s A V hv hs)
  have CX := Lib.hid (fun A B U V hv hB => l4Spoil s A B U V hv hB hs)
  have CN1 := Lib.hid (fun V => sNew i j V hi hj)
  have CN2 := Lib.hid (fun V => r4New i j V hj.2 hi.2)
  have CN3 := Lib.hid (fun A B V hv hv2 => r4Same (Sl.newS i j) (Sl.newS i j) A B V hv hv2 short_new short_new)
  rw [same_self] at CN3
  obtain ⟨E1, hE⟩ : ∃ x, x = s.atE i := ⟨_, rfl⟩
  rw [← hE] at CA1 CA2
  clear hE
  obtain ⟨y1, hE⟩ : ∃ x, x = (s.atV i).1 := ⟨_, rfl⟩
  rw [← hE] at CA1 CA2
  clear hE
  obtain ⟨y2, hE⟩ : ∃ x, x = (s.atV i).2 := ⟨_, rfl⟩
  rw [← hE] at CA1 CA2
  clear hE
  obtain ⟨ps, hE⟩ : ∃ x, x = s.pairsV i j := ⟨_, rfl⟩
  rw [← hE] at CP1 CP2 CQ hps
  clear hE
  obtain ⟨E2, hE⟩ : ∃ x, x = s.pairsE i j := ⟨_, rfl⟩
  rw [← hE] at CP1 CP2
  clear hE
  obtain ⟨E3, hE⟩ : ∃ x, x = s.chk := ⟨_, rfl⟩
  rw [← hE] at CK1 CK2
  clear hE
  obtain ⟨E4, hE⟩ : ∃ x, x = s.sameB t := ⟨_, rfl⟩
  rw [← hE] at CS1 CS2
  clear hE
  obtain ⟨S5, hE⟩ : ∃ x, x = Sl.newS i j := ⟨_, rfl⟩
  rw [← hE] at CN1 CN2 CN3
  clear hE
  obtain ⟨E5, hE⟩ : ∃ x, x = Sl.newE i j := ⟨_, rfl⟩
  rw [← hE] at CN1 CN2
  clear hE
  clear h hok hs h2 hs2 hg hg2 hT hi hj
  have BS0 := Lib.hid (fun o => (Box.new W s a 27).below ((Below.refl _ _).alloc (Nat.le_refl _) o))
  have BO0 := Lib.hid (fun o => Box.second W o t b 27)
  have BB0 := Lib.hid (fun o o' => ((Below.refl W.heap.size W).alloc (Nat.le_refl _) o).alloc (by simp) o')
  unfold slv at CA1 CA2 CP1 CP2 CK1 CK2 CS1 CS2 CS3 CS4 CT CX CN3
  unfold slv
  go_enter Tryd.func4, Tryd.ntmps4
  go_wp2_with fail
  refine (r4Great s a 300 _).mono ?_
  rintro e w0 ⟨rfl, hb⟩
  rw [HG.out]
  have BB := Lib.hid ((BB0.out _ _).trans (hb.mono (by simp; omega)))
  have BS := Lib.hid ((BS0.out _).below hb)
  have BO := Lib.hid ((BO0.out _).below hb)
  clear hb BB0 BS0 BO0
  obtain ⟨_, p0, p1, p2, p3, p4, p5, _⟩ := BO.out
  go_wp2_with fail
  refine (r4Great t b 300 _).mono ?_
  rintro e w1 ⟨rfl, hb⟩
  rw [HG2.out]
  replace BB := Lib.hid (BB.out.trans (hb.mono BB.out.size))
  replace BS := Lib.hid (BS.out.below hb)
  replace BO := Lib.hid (BO.out.below hb)
  clear hb p0 p1 p2 p3 p4 p5
  obtain ⟨_, p0, p1, p2, p3, p4, p5, _⟩ := BS.out
  go_wp2_with fail
  refine (r4Twin s a _ (HA0.out.below BB.out) HSh.out).mono ?_
  rintro e w2 ⟨A1, rfl, own, _, _, hb⟩
  have O1 := Lib.hid own.held
  replace BB := Lib.hid (BB.out.trans (hb.mono BB.out.size))
  replace BS := Lib.hid (BS.out.below hb)
  replace BO := Lib.hid (BO.out.below hb)
  clear own hb p0 p1 p2 p3 p4 p5
  unfold slv
  go_upto_region 4 with (fail)
  obtain ⟨V1, hV⟩ : ∃ V, V = w2.alloc (.cells #[.int .i64 s.seg, .slice A1.w s.words.length A1.cw, .slice A1.k s.keys.length A1.ck, .slice A1.v s.vals.length A1.cv, .slice A1.c s.counts.length A1.cc, .int .u64 (s.laid : Int)] 27) := ⟨_, rfl⟩
  have hba : Below w2.heap.size w2 V1 := by rw [hV]; exact (Below.refl _ _).alloc (Nat.le_refl _) _
  have B1 := Lib.hid (show Box V1 w2.heap.size s A1 by rw [hV]; exact Box.new w2 s A1 27)
  rw [← hV]
  clear hV
  replace BB := Lib.hid (BB.out.trans (hba.mono BB.out.size))
  replace BS := Lib.hid (BS.out.below hba)
  replace BO := Lib.hid (BO.out.below hba)
  replace O1 := Lib.hid (O1.out.below hba)
  clear hba
  have HA := Lib.hid (HA0.out.below BB.out)
  have HT := Lib.hid (HT0.out.below BB.out)
  have TB := Lib.hid (TB0.out.below BB.out)
  have D := Lib.hid (Below.refl V1.heap.size V1)
  -- the copy
  obtain ⟨_, p0, p1, p2, p3, p4, p5, _⟩ := B1.out
  go_wp2_with fail
  refine (CT.out A1 _ O1.out).mono ?_
  rintro e w3 ⟨A2, rfl, own, _, _, hb⟩
  have OS := Lib.hid own.soft
  have O2 := Lib.hid own.held
  have uz := hb.size
  replace D := Lib.hid (D.out.trans hb)
  clear own hb p0 p1 p2 p3 p4 p5
  unfold slv
  go_upto_region 5 with (fail)
  obtain ⟨V2, hV⟩ : ∃ V, V = w3.alloc (.cells #[.int .i64 s.seg, .slice A2.w s.words.length A2.cw, .slice A2.k s.keys.length A2.ck, .slice A2.v s.vals.length A2.cv, .slice A2.c s.counts.length A2.cc, .int .u64 (s.laid : Int)] 27) := ⟨_, rfl⟩
  have hba : Below w3.heap.size w3 V2 := by rw [hV]; exact (Below.refl _ _).alloc (Nat.le_refl _) _
  have B2 := Lib.hid (show Box V2 w3.heap.size s A2 by rw [hV]; exact Box.new w3 s A2 27)
  rw [← hV]
  clear hV
  replace D := Lib.hid (D.out.trans (hba.mono D.out.size))
  replace OS := Lib.hid (OS.out.below hba)
  replace O2 := Lib.hid (O2.out.below hba)
  clear hba
  -- At
  obtain ⟨_, p0, p1, p2, p3, p4, p5, _⟩ := B1.out.below D.out
  go_wp2_with fail
  refine (CA1.out A1 _ (O1.out.below D.out) (TB.out.below D.out)).mono ?_
  rintro e w4 ⟨rfl, hb⟩
  replace D := Lib.hid (D.out.trans (hb.mono D.out.size))
  replace OS := Lib.hid (OS.out.below hb)
  replace O2 := Lib.hid (O2.out.below hb)
  replace B2 := Lib.hid (B2.out.below hb)
  clear hb p0 p1 p2 p3 p4 p5
  go_upto_region 6 with (fail)
  obtain ⟨V4, hV⟩ : ∃ V, V = w4.alloc (.cells #[.int .i64 y1, .int .i64 y2] 33) := ⟨_, rfl⟩
  have hba : Below w4.heap.size w4 V4 := by rw [hV]; exact (Below.refl _ _).alloc (Nat.le_refl _) _
  have P1 := Lib.hid (show PBox V4 w4.heap.size (y1, y2) by rw [hV]; exact PBox.new w4 (y1, y2) 33)
  rw [← hV]
  clear hV
  replace D := Lib.hid (D.out.trans (hba.mono D.out.size))
  replace OS := Lib.hid (OS.out.below hba)
  replace O2 := Lib.hid (O2.out.below hba)
  replace B2 := Lib.hid (B2.out.below hba)
  clear hba
  obtain ⟨_, p0, p1, p2, p3, p4, p5, _⟩ := BS.out.below D.out
  go_wp2_with fail
  refine (CA2.out a _ (HA.out.below D.out)).mono ?_
  rintro e w5 ⟨rfl, hb⟩
  replace D := Lib.hid (D.out.trans (hb.mono D.out.size))
  replace OS := Lib.hid (OS.out.below hb)
  replace O2 := Lib.hid (O2.out.below hb)
  replace B2 := Lib.hid (B2.out.below hb)
  replace P1 := Lib.hid (P1.out.below hb)
  clear hb p0 p1 p2 p3 p4 p5
  go_upto_region 7 with (fail)
  obtain ⟨V5, hV⟩ : ∃ V, V = w5.alloc (.cells #[.int .i64 y1, .int .i64 y2] 33) := ⟨_, rfl⟩
  have hba : Below w5.heap.size w5 V5 := by rw [hV]; exact (Below.refl _ _).alloc (Nat.le_refl _) _
  have P2 := Lib.hid (show PBox V5 w5.heap.size (y1, y2) by rw [hV]; exact PBox.new w5 (y1, y2) 33)
  rw [← hV]
  clear hV
  replace D := Lib.hid (D.out.trans (hba.mono D.out.size))
  replace OS := Lib.hid (OS.out.below hba)
  replace O2 := Lib.hid (O2.out.below hba)
  replace B2 := Lib.hid (B2.out.below hba)
  replace P1 := Lib.hid (P1.out.below hba)
  clear hba
  -- Pairs
  obtain ⟨_, p0, p1, p2, p3, p4, p5, _⟩ := B1.out.below D.out
  go_wp2_with fail
  refine (CP1.out A1 _ (O1.out.below D.out) (TB.out.below D.out)).mono ?_
  rintro e w6 ⟨v6, rfl, hown, hb⟩
  obtain ⟨AX, cX, rfl, lx, sx, fx⟩ := soft_pairs hown
  have LX := Lib.hid lx
  have SX := Lib.hid sx
  have ux := D.out.size
  have FX := Lib.hid (show ps.length * 2 = 0 ∨ ∀ p, AX = some p → V1.heap.size ≤ p.block by
    rcases fx with h0 | h0
    · exact Or.inl h0
    · exact Or.inr fun p hp => Nat.le_trans ux (h0 p hp).1)
  replace D := Lib.hid (D.out.trans (hb.mono D.out.size))
  replace OS := Lib.hid (OS.out.below hb)
  replace O2 := Lib.hid (O2.out.below hb)
  replace B2 := Lib.hid (B2.out.below hb)
  replace P1 := Lib.hid (P1.out.below hb)
  replace P2 := Lib.hid (P2.out.below hb)
  clear hb p0 p1 p2 p3 p4 p5 lx sx fx hown
  go_upto_region 8 with (fail)
  obtain ⟨_, p0, p1, p2, p3, p4, p5, _⟩ := BS.out.below D.out
  go_wp2_with fail
  refine (CP2.out a _ (HA.out.below D.out)).mono ?_
  rintro e w7 ⟨v7, rfl, hown, hb⟩
  obtain ⟨AY, cY, rfl, ly, _, _⟩ := soft_pairs hown
  have LY := Lib.hid ly
  replace D := Lib.hid (D.out.trans (hb.mono D.out.size))
  replace OS := Lib.hid (OS.out.below hb)
  replace O2 := Lib.hid (O2.out.below hb)
  replace B2 := Lib.hid (B2.out.below hb)
  replace P1 := Lib.hid (P1.out.below hb)
  replace P2 := Lib.hid (P2.out.below hb)
  replace LX := Lib.hid (LX.out.below hb)
  replace SX := Lib.hid (SX.out.below hb)
  clear hb p0 p1 p2 p3 p4 p5 ly hown
  go_upto_region 9 with (fail)
  -- what is compared
  have R := Lib.hid (show ∀ V, Below w7.heap.size w7 V → (V.cell? ⟨W.heap.size, 0, none⟩ = some (.int .i64 s.seg) ∧ V.cell? ⟨W.heap.size, 1, none⟩ = some (.slice a.w s.words.length a.cw) ∧ V.cell? ⟨W.heap.size, 2, none⟩ = some (.slice a.k s.keys.length a.ck) ∧ V.cell? ⟨W.heap.size, 3, none⟩ = some (.slice a.v s.vals.length a.cv) ∧ V.cell? ⟨W.heap.size, 4, none⟩ = some (.slice a.c s.counts.length a.cc) ∧ V.cell? ⟨W.heap.size, 5, none⟩ = some (.int .u64 (s.laid : Int)) ∧ V.cell? ⟨W.heap.size + 1, 0, none⟩ = some (.int .i64 t.seg) ∧ V.cell? ⟨W.heap.size + 1, 1, none⟩ = some (.slice b.w t.words.length b.cw) ∧ V.cell? ⟨W.heap.size + 1, 2, none⟩ = some (.slice b.k t.keys.length b.ck) ∧ V.cell? ⟨W.heap.size + 1, 3, none⟩ = some (.slice b.v t.vals.length b.cv) ∧ V.cell? ⟨W.heap.size + 1, 4, none⟩ = some (.slice b.c t.counts.length b.cc) ∧ V.cell? ⟨W.heap.size + 1, 5, none⟩ = some (.int .u64 (t.laid : Int)) ∧ V.cell? ⟨w2.heap.size, 0, none⟩ = some (.int .i64 s.seg) ∧ V.cell? ⟨w2.heap.size, 1, none⟩ = some (.slice A1.w s.words.length A1.cw) ∧ V.cell? ⟨w2.heap.size, 2, none⟩ = some (.slice A1.k s.keys.length A1.ck) ∧ V.cell? ⟨w2.heap.size, 3, none⟩ = some (.slice A1.v s.vals.length A1.cv) ∧ V.cell? ⟨w2.heap.size, 4, none⟩ = some (.slice A1.c s.counts.length A1.cc) ∧ V.cell? ⟨w2.heap.size, 5, none⟩ = some (.int .u64 (s.laid : Int)) ∧ V.cell? ⟨w3.heap.size, 0, none⟩ = some (.int .i64 s.seg) ∧ V.cell? ⟨w3.heap.size, 1, none⟩ = some (.slice A2.w s.words.length A2.cw) ∧ V.cell? ⟨w3.heap.size, 2, none⟩ = some (.slice A2.k s.keys.length A2.ck) ∧ V.cell? ⟨w3.heap.size, 3, none⟩ = some (.slice A2.v s.vals.length A2.cv) ∧ V.cell? ⟨w3.heap.size, 4, none⟩ = some (.slice A2.c s.counts.length A2.cc) ∧ V.cell? ⟨w3.heap.size, 5, none⟩ = some (.int .u64 (s.laid : Int)) ∧ V.cell? ⟨w4.heap.size, 0, none⟩ = some (.int .i64 y1) ∧ V.cell? ⟨w4.heap.size, 1, none⟩ = some (.int .i64 y2) ∧ V.cell? ⟨w5.heap.size, 0, none⟩ = some (.int .i64 y1) ∧ V.cell? ⟨w5.heap.size, 1, none⟩ = some (.int .i64 y2)) from fun V hb =>
    ⟨((BS.out.below D.out).below hb).c0, ((BS.out.below D.out).below hb).c1, ((BS.out.below D.out).below hb).c2, ((BS.out.below D.out).below hb).c3, ((BS.out.below D.out).below hb).c4, ((BS.out.below D.out).below hb).c5, ((BO.out.below D.out).below hb).c0, ((BO.out.below D.out).below hb).c1, ((BO.out.below D.out).below hb).c2, ((BO.out.below D.out).below hb).c3, ((BO.out.below D.out).below hb).c4, ((BO.out.below D.out).below hb).c5, ((B1.out.below D.out).below hb).c0, ((B1.out.below D.out).below hb).c1, ((B1.out.below D.out).below hb).c2, ((B1.out.below D.out).below hb).c3, ((B1.out.below D.out).below hb).c4, ((B1.out.below D.out).below hb).c5, (B2.out.below hb).c0, (B2.out.below hb).c1, (B2.out.below hb).c2, (B2.out.below hb).c3, (B2.out.below hb).c4, (B2.out.below hb).c5, (P1.out.below hb).c0, (P1.out.below hb).c1, (P2.out.below hb).c0, (P2.out.below hb).c1⟩)
  have D0 := Lib.hid (Below.refl w7.heap.size w7).drew
  have hold := Lib.hid (fun V (hb : Below w7.heap.size w7 V) => D.out.trans (hb.mono D.out.size))
  go_region_held3 (fun w' => w'.cell? ⟨W.heap.size, 0, none⟩ = some (.int .i64 s.seg) ∧ w'.cell? ⟨W.heap.size, 1, none⟩ = some (.slice a.w s.words.length a.cw) ∧ w'.cell? ⟨W.heap.size, 2, none⟩ = some (.slice a.k s.keys.length a.ck) ∧ w'.cell? ⟨W.heap.size, 3, none⟩ = some (.slice a.v s.vals.length a.cv) ∧ w'.cell? ⟨W.heap.size, 4, none⟩ = some (.slice a.c s.counts.length a.cc) ∧ w'.cell? ⟨W.heap.size, 5, none⟩ = some (.int .u64 (s.laid : Int)) ∧ w'.cell? ⟨W.heap.size + 1, 0, none⟩ = some (.int .i64 t.seg) ∧ w'.cell? ⟨W.heap.size + 1, 1, none⟩ = some (.slice b.w t.words.length b.cw) ∧ w'.cell? ⟨W.heap.size + 1, 2, none⟩ = some (.slice b.k t.keys.length b.ck) ∧ w'.cell? ⟨W.heap.size + 1, 3, none⟩ = some (.slice b.v t.vals.length b.cv) ∧ w'.cell? ⟨W.heap.size + 1, 4, none⟩ = some (.slice b.c t.counts.length b.cc) ∧ w'.cell? ⟨W.heap.size + 1, 5, none⟩ = some (.int .u64 (t.laid : Int)) ∧ w'.cell? ⟨w2.heap.size, 0, none⟩ = some (.int .i64 s.seg) ∧ w'.cell? ⟨w2.heap.size, 1, none⟩ = some (.slice A1.w s.words.length A1.cw) ∧ w'.cell? ⟨w2.heap.size, 2, none⟩ = some (.slice A1.k s.keys.length A1.ck) ∧ w'.cell? ⟨w2.heap.size, 3, none⟩ = some (.slice A1.v s.vals.length A1.cv) ∧ w'.cell? ⟨w2.heap.size, 4, none⟩ = some (.slice A1.c s.counts.length A1.cc) ∧ w'.cell? ⟨w2.heap.size, 5, none⟩ = some (.int .u64 (s.laid : Int)) ∧ w'.cell? ⟨w3.heap.size, 0, none⟩ = some (.int .i64 s.seg) ∧ w'.cell? ⟨w3.heap.size, 1, none⟩ = some (.slice A2.w s.words.length A2.cw) ∧ w'.cell? ⟨w3.heap.size, 2, none⟩ = some (.slice A2.k s.keys.length A2.ck) ∧ w'.cell? ⟨w3.heap.size, 3, none⟩ = some (.slice A2.v s.vals.length A2.cv) ∧ w'.cell? ⟨w3.heap.size, 4, none⟩ = some (.slice A2.c s.counts.length A2.cc) ∧ w'.cell? ⟨w3.heap.size, 5, none⟩ = some (.int .u64 (s.laid : Int)) ∧ w'.cell? ⟨w4.heap.size, 0, none⟩ = some (.int .i64 y1) ∧ w'.cell? ⟨w4.heap.size, 1, none⟩ = some (.int .i64 y2) ∧ w'.cell? ⟨w5.heap.size, 0, none⟩ = some (.int .i64 y1) ∧ w'.cell? ⟨w5.heap.size, 1, none⟩ = some (.int .i64 y2))
    (first | (with_reducible exact R.out _ D0.out) | (with_reducible exact R.out _ D1.out) | (with_reducible exact R.out _ D2.out) | (with_reducible exact R.out _ D3.out) | (with_reducible exact R.out _ D4.out) | (with_reducible exact R.out _ D5.out) | (with_reducible exact R.out _ D6.out) | (with_reducible exact R.out _ D7.out))
    (first | (go_at_call 11; (with_reducible refine (CK1.out A1 _ (O1.out.below (hold.out _ D0.out)) (TB.out.below (hold.out _ D0.out))).mono ?_); rintro e u1 ⟨rfl, hb⟩; have D1 := Lib.hid (D0.out.trans (hb.mono D0.out.size)); clear hb) | (go_at_call 19; (with_reducible refine (CK2.out a _ (HA.out.below (hold.out _ D1.out))).mono ?_); rintro e u2 ⟨rfl, hb⟩; have D2 := Lib.hid (D1.out.trans (hb.mono D1.out.size)); clear hb) | (go_at_call 20; (with_reducible refine (CS1.out A1 b _ (O1.out.below (hold.out _ D2.out)) (HT.out.below (hold.out _ D2.out))).mono ?_); rintro e u3 ⟨rfl, hb⟩; have D3 := Lib.hid (D2.out.trans (hb.mono D2.out.size)); clear hb) | (go_at_call 21; (with_reducible refine (CS2.out a b _ (HA.out.below (hold.out _ D3.out)) (HT.out.below (hold.out _ D3.out))).mono ?_); rintro e u4 ⟨rfl, hb⟩; have D4 := Lib.hid (D3.out.trans (hb.mono D3.out.size)); clear hb) | (go_at_call 20; (with_reducible refine (CS3.out A1 a _ (O1.out.below (hold.out _ D4.out)) (HA.out.below (hold.out _ D4.out))).mono ?_); rintro e u5 ⟨rfl, hb⟩; have D5 := Lib.hid (D4.out.trans (hb.mono D4.out.size)); clear hb) | (go_at_call 21; (with_reducible refine (CS4.out A2 a _ (O2.out.below D5.out) (HA.out.below (hold.out _ D5.out))).mono ?_); rintro e u6 ⟨rfl, hb⟩; have D6 := Lib.hid (D5.out.trans (hb.mono D5.out.size)); clear hb) | (go_at_call 22; (with_reducible refine (CQ.out AX AY cX cY _ (LX.out.below D6.out) (LY.out.below D6.out)).mono ?_); rintro e u7 ⟨rfl, hb⟩; have D7 := Lib.hid (D6.out.trans (hb.mono D6.out.size)); clear hb))
  replace D := Lib.hid (hold.out _ D7.out)
  replace OS := Lib.hid (OS.out.below D7.out)
  replace SX := Lib.hid (SX.out.below D7.out)
  replace B2 := Lib.hid (B2.out.below D7.out)
  clear R hold D0 D1 D2 D3 D4 D5 D6 D7 P1 P2 LX LY O2 CA1 CA2 CP1 CP2 CK1 CK2 CS1 CS2 CS3 CQ CT
  go_upto_region 10 with (fail)
  obtain ⟨_, p0, p1, p2, p3, p4, p5, _⟩ := B2.out
  go_wp2_with fail
  refine (CX.out A2 _ _ _ OS.out D.out.size).mono ?_
  rintro e u8 ⟨rfl, hsp⟩
  replace D := Lib.hid (D.out.trans hsp.1)
  replace SX := Lib.hid (hsp.2.1 _ _ _ SX.out)
  clear hsp p0 p1 p2 p3 p4 p5 B2 OS CX
  obtain ⟨n, hn⟩ : ∃ n, n = ps.length := ⟨_, rfl⟩
  rw [← hn] at SX FX hps
  rw [← hn]
  clear hn
  go_wp2
  go_loopw [20] (XJ V1.heap.size AX n V1) (fun i _ => n - (intOf i).toNat)
  case atStart => exact ⟨0, Nat.zero_le _, rfl, D.out, SX.out⟩
  case round =>
    obtain ⟨k, hk, rfl, hB, hS⟩ := hrel
    have HB := Lib.hid hB
    have HS := Lib.hid hS
    clear hB hS D SX
    by_cases hlt : k < n
    · obtain ⟨bb, off, z, hA, hc, hf, hst⟩ := xj_step HB.out HS.out (FX.out.elim (fun h0 => absurd h0 (by omega)) id) hlt
      have HST := Lib.hid hst
      subst hA
      have i0 : (0 : Int) ≤ (k : Int) := by omega
      have i1 : (k : Int) < (n : Int) := by omega
      clear hst
      go_wp2
      go_roundw
      case rel => exact ⟨k + 1, by omega, by go_num, (HST.out _).1, (HST.out _).2⟩
      case measure => simp [intOf]; omega
    · obtain rfl : k = n := by omega
      clear HS
      have X1 := Lib.hid (B1.out.below HB.out)
      have X2 := Lib.hid (BS.out.below HB.out)
      by_cases j1 : j ≤ 300 ∨ 65536 < j
      · rcases j1 with j1 | j1
        · go_wp2_with fail
          refine (CN1.out _).mono ?_
          rintro e u9 ⟨A3, rfl, own, hb⟩
          have O3 := Lib.hid own.held
          replace HB := Lib.hid (HB.out.trans (hb.mono HB.out.size))
          clear own hb
          unfold slv
          go_upto_region 17 with (fail)
          obtain ⟨V9, hV⟩ : ∃ V, V = u9.alloc (.cells #[.int .i64 S5.seg, .slice A3.w S5.words.length A3.cw, .slice A3.k S5.keys.length A3.ck, .slice A3.v S5.vals.length A3.cv, .slice A3.c S5.counts.length A3.cc, .int .u64 (S5.laid : Int)] 27) := ⟨_, rfl⟩
          have hba : Below u9.heap.size u9 V9 := by rw [hV]; exact (Below.refl _ _).alloc (Nat.le_refl _) _
          have B3 := Lib.hid (show Box V9 u9.heap.size S5 A3 by rw [hV]; exact Box.new u9 S5 A3 27)
          rw [← hV]
          clear hV
          replace HB := Lib.hid (HB.out.trans (hba.mono HB.out.size))
          replace O3 := Lib.hid (O3.out.below hba)
          clear hba
          go_wp2_with fail
          refine (CN2.out _).mono ?_
          rintro e u10 ⟨A4, rfl, own, _, _, hb⟩
          have O4 := Lib.hid own.held
          replace HB := Lib.hid (HB.out.trans (hb.mono HB.out.size))
          replace O3 := Lib.hid (O3.out.below hb)
          replace B3 := Lib.hid (B3.out.below hb)
          clear own hb
          unfold slv
          go_upto_region 18 with (fail)
          obtain ⟨V10, hV⟩ : ∃ V, V = u10.alloc (.cells #[.int .i64 S5.seg, .slice A4.w S5.words.length A4.cw, .slice A4.k S5.keys.length A4.ck, .slice A4.v S5.vals.length A4.cv, .slice A4.c S5.counts.length A4.cc, .int .u64 (S5.laid : Int)] 27) := ⟨_, rfl⟩
          have hba : Below u10.heap.size u10 V10 := by rw [hV]; exact (Below.refl _ _).alloc (Nat.le_refl _) _
          have B4 := Lib.hid (show Box V10 u10.heap.size S5 A4 by rw [hV]; exact Box.new u10 S5 A4 27)
          rw [← hV]
          clear hV
          replace HB := Lib.hid (HB.out.trans (hba.mono HB.out.size))
          replace O3 := Lib.hid (O3.out.below hba)
          replace O4 := Lib.hid (O4.out.below hba)
          replace B3 := Lib.hid (B3.out.below hba)
          clear hba
          obtain ⟨_, p0, p1, p2, p3, p4, p5, _⟩ := B3.out
          obtain ⟨_, q0, q1, q2, q3, q4, q5, _⟩ := B4.out
          go_wp2_with fail
          refine (CN3.out A3 A4 _ O3.out O4.out).mono ?_
          rintro e u11 ⟨rfl, hb⟩
          replace HB := Lib.hid (HB.out.trans (hb.mono HB.out.size))
          replace X1 := Lib.hid (B1.out.below HB.out)
          replace X2 := Lib.hid (BS.out.below HB.out)
          clear hb p0 p1 p2 p3 p4 p5 q0 q1 q2 q3 q4 q5
          obtain ⟨_, p0, p1, p2, p3, p4, p5, _⟩ := X1.out
          obtain ⟨_, q0, q1, q2, q3, q4, q5, _⟩ := X2.out
          go_wp2_with fail
          refine (CS4.out A1 a _ (O1.out.below HB.out) (HA.out.below HB.out)).mono ?_
          rintro e u9 ⟨rfl, hb⟩
          go_wp2
          go_ret
          exact ⟨rfl, BB.out.trans ((HB.out.trans (hb.mono HB.out.size)).mono BB.out.size)⟩
        · have j2 : ¬ j ≤ 300 := by omega
          go_wp2_with fail
          refine (CN1.out _).mono ?_
          rintro e u9 ⟨A3, rfl, own, hb⟩
          have O3 := Lib.hid own.held
          replace HB := Lib.hid (HB.out.trans (hb.mono HB.out.size))
          clear own hb
          unfold slv
          go_upto_region 17 with (fail)
          obtain ⟨V9, hV⟩ : ∃ V, V = u9.alloc (.cells #[.int .i64 S5.seg, .slice A3.w S5.words.length A3.cw, .slice A3.k S5.keys.length A3.ck, .slice A3.v S5.vals.length A3.cv, .slice A3.c S5.counts.length A3.cc, .int .u64 (S5.laid : Int)] 27) := ⟨_, rfl⟩
          have hba : Below u9.heap.size u9 V9 := by rw [hV]; exact (Below.refl _ _).alloc (Nat.le_refl _) _
          have B3 := Lib.hid (show Box V9 u9.heap.size S5 A3 by rw [hV]; exact Box.new u9 S5 A3 27)
          rw [← hV]
          clear hV
          replace HB := Lib.hid (HB.out.trans (hba.mono HB.out.size))
          replace O3 := Lib.hid (O3.out.below hba)
          clear hba
          go_wp2_with fail
          refine (CN2.out _).mono ?_
          rintro e u10 ⟨A4, rfl, own, _, _, hb⟩
          have O4 := Lib.hid own.held
          replace HB := Lib.hid (HB.out.trans (hb.mono HB.out.size))
          replace O3 := Lib.hid (O3.out.below hb)
          replace B3 := Lib.hid (B3.out.below hb)
          clear own hb
          unfold slv
          go_upto_region 18 with (fail)
          obtain ⟨V10, hV⟩ : ∃ V, V = u10.alloc (.cells #[.int .i64 S5.seg, .slice A4.w S5.words.length A4.cw, .slice A4.k S5.keys.length A4.ck, .slice A4.v S5.vals.length A4.cv, .slice A4.c S5.counts.length A4.cc, .int .u64 (S5.laid : Int)] 27) := ⟨_, rfl⟩
          have hba : Below u10.heap.size u10 V10 := by rw [hV]; exact (Below.refl _ _).alloc (Nat.le_refl _) _
          have B4 := Lib.hid (show Box V10 u10.heap.size S5 A4 by rw [hV]; exact Box.new u10 S5 A4 27)
          rw [← hV]
          clear hV
          replace HB := Lib.hid (HB.out.trans (hba.mono HB.out.size))
          replace O3 := Lib.hid (O3.out.below hba)
          replace O4 := Lib.hid (O4.out.below hba)
          replace B3 := Lib.hid (B3.out.below hba)
          clear hba
          obtain ⟨_, p0, p1, p2, p3, p4, p5, _⟩ := B3.out
          obtain ⟨_, q0, q1, q2, q3, q4, q5, _⟩ := B4.out
          go_wp2_with fail
          refine (CN3.out A3 A4 _ O3.out O4.out).mono ?_
          rintro e u11 ⟨rfl, hb⟩
          replace HB := Lib.hid (HB.out.trans (hb.mono HB.out.size))
          replace X1 := Lib.hid (B1.out.below HB.out)
          replace X2 := Lib.hid (BS.out.below HB.out)
          clear hb p0 p1 p2 p3 p4 p5 q0 q1 q2 q3 q4 q5
          obtain ⟨_, p0, p1, p2, p3, p4, p5, _⟩ := X1.out
          obtain ⟨_, q0, q1, q2, q3, q4, q5, _⟩ := X2.out
          go_wp2_with fail
          refine (CS4.out A1 a _ (O1.out.below HB.out) (HA.out.below HB.out)).mono ?_
          rintro e u9 ⟨rfl, hb⟩
          go_wp2
          go_ret
          exact ⟨rfl, BB.out.trans ((HB.out.trans (hb.mono HB.out.size)).mono BB.out.size)⟩
      · have j2 : ¬ j ≤ 300 := by omega
        have j3 : ¬ 65536 < j := by omega
        clear j1
        obtain ⟨_, p0, p1, p2, p3, p4, p5, _⟩ := X1.out
        obtain ⟨_, q0, q1, q2, q3, q4, q5, _⟩ := X2.out
        go_wp2_with fail
        refine (CS4.out A1 a _ (O1.out.below HB.out) (HA.out.below HB.out)).mono ?_
        rintro e u9 ⟨rfl, hb⟩
        go_wp2
        go_ret
        exact ⟨rfl, BB.out.trans ((HB.out.trans (hb.mono HB.out.size)).mono BB.out.size)⟩

theorem walk (s t : Sl) (a b : Ads) (i j : Int) (W : World) (h : Held W s a) (hok : s.Ok) (h2 : Held W t b) (hi : In64 i) (hj : In64 j) (hT : Tab W) :
    Calls Tryd.prog 4 #[slv s a, slv t b, .int .i64 i, .int .i64 j] W fun e w' => e = .returned (.bool true) ∧ Below W.heap.size W w' := by
  cases hg : s.greatB 300
  · cases hg2 : t.greatB 300
    · refine full s t a b i j W h hok ?_ h2 ?_ hg hg2 hi hj hT
      · unfold Sl.greatB at hg
        simp only [Bool.or_eq_false_iff, decide_eq_false_iff_not] at hg
        exact ⟨by omega, by omega, by omega, by omega⟩
      · unfold Sl.greatB at hg2
        simp only [Bool.or_eq_false_iff, decide_eq_false_iff_not] at hg2
        exact ⟨by omega, by omega, by omega, by omega⟩
    · have HG := Lib.hid hg
      have HG2 := Lib.hid hg2
      have BO0 := Lib.hid (fun o => Box.second W o t b 27)
      have BB0 := Lib.hid (fun o o' => ((Below.refl W.heap.size W).alloc (Nat.le_refl _) o).alloc (by simp) o')
      clear h h2 hok hg hg2 hT hi hj
      unfold slv
      go_enter Tryd.func4, Tryd.ntmps4
      go_wp2_with fail
      refine (r4Great s a 300 _).mono ?_
      rintro e w0 ⟨rfl, hb⟩
      rw [HG.out]
      have BB := Lib.hid ((BB0.out _ _).trans (hb.mono (by simp; omega)))
      obtain ⟨_, p0, p1, p2, p3, p4, p5, _⟩ := (BO0.out _).below hb
      clear hb BB0 BO0
      go_wp2_with fail
      refine (r4Great t b 300 _).mono ?_
      rintro e w1 ⟨rfl, hb⟩
      rw [HG2.out]
      go_wp2
      go_ret
      exact ⟨rfl, BB.out.trans (hb.mono BB.out.size)⟩
  · have HG := Lib.hid hg
    have BB0 := Lib.hid (fun o o' => ((Below.refl W.heap.size W).alloc (Nat.le_refl _) o).alloc (by simp) o')
    clear h h2 hok hg hT hi hj
    unfold slv
    go_enter Tryd.func4, Tryd.ntmps4
    go_wp2_with fail
    refine (r4Great s a 300 _).mono ?_
    rintro e w0 ⟨rfl, hb⟩
    rw [HG.out]
    go_wp2
    go_ret
    exact ⟨rfl, (BB0.out _ _).trans (hb.mono (by simp; omega))⟩
end Go.Proofs.YtgngipkfbckhpaaDoor.slotsTells
