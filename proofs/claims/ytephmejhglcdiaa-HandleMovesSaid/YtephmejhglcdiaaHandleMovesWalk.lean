/- The walk of the law HandleMoves: what is moved is there, and nothing else is. -/
import Derived.Test.YtephmejhglcdiaaAlive14
namespace Go.Proofs.Ytephmejhglcdiaa.handleMoves
open Go.RowKit
set_option linter.unusedVariables false
set_option linter.unusedSimpArgs false

set_option maxRecDepth 100000 in
set_option maxHeartbeats 16000000 in
theorem bad (t : Ht) (A : HAds) (x o : Int × Int) (p : Int) (W : World) (h : HHeld W t A) (ok : t.Ok) (x1 : In64 x.1) (x2 : In64 x.2) (o1 : In64 o.1) (o2 : In64 o.2) (hp : In64 p) (g1 : t.gens.length ≤ 300) (g2 : t.ats.length ≤ 300) (hc : ¬ Hn.setE t x p = 0) (hv0 : Hn.setV t x p = Ht.zero) :
    Calls Try.prog 8 #[hv t A, pv x, pv o, .int .i64 p] W fun e w' => e = .returned (.bool true) ∧ Below W.heap.size W w' := by
  have hs : t.Short := ⟨by omega, by omega⟩
  have HB := Lib.hid (fun a b c => (((Below.refl W.heap.size W).alloc (Nat.le_refl _) a).alloc (by simp) b).alloc (by simp; omega) c)
  have HT := Lib.hid (fun a b => ((HBox.new W t A 24).below ((Below.refl _ _).alloc (Nat.le_refl _) a)).below ((Below.refl _ _).alloc (Nat.le_refl _) b))
  have HX := Lib.hid (fun a b => (PBox.new (W.alloc a) x 26).below ((Below.refl _ _).alloc (Nat.le_refl _) b))
  have HP := Lib.hid (fun a b => PBox.new ((W.alloc a).alloc b) o 26)
  have c0 := Lib.hid (fun V => l14Alive V)
  have c1 := Lib.hid (fun V (hb : Below W.heap.size W V) => hSet t A x p V (h.below hb) ok hs x1 x2 hp)
  rw [hv0] at c1
  obtain ⟨E1, hE1⟩ : ∃ E, E = Hn.setE t x p := ⟨_, rfl⟩
  rw [← hE1] at c1 hc
  have k1 : (E1 != 0) = true := by simp [hc]
  obtain ⟨M, hM⟩ : ∃ M, M = Ht.zero := ⟨_, rfl⟩
  rw [← hM] at c1
  have m0 := Lib.hid (show M.gens.length = 0 by rw [hM]; rfl)
  clear hE1 hc hM hv0
  clear h ok hs hp x1 x2 o1 o2
  unfold hv pv at c1
  unfold hv pv
  go_enter Try.func8, Try.ntmps8
  go_upto_region 1 with (fail)
  obtain ⟨W0, hW0⟩ : ∃ V, V = ((W.alloc (.cells #[.slice A.g t.gens.length A.cg, .slice A.a t.ats.length A.ca] 24)).alloc (.cells #[.int .i64 x.1, .int .i64 x.2] 26)).alloc (.cells #[.int .i64 o.1, .int .i64 o.2] 26) := ⟨_, rfl⟩
  have BT := Lib.hid (show HBox W0 W.heap.size t A by rw [hW0]; exact HT.out _ _)
  have BX := Lib.hid (show PBox W0 (W.heap.size + 1) x by rw [hW0]; have := HX.out (.cells #[.slice A.g t.gens.length A.cg, .slice A.a t.ats.length A.ca] 24) (.cells #[.int .i64 o.1, .int .i64 o.2] 26); rw [World.size_alloc] at this; exact this)
  have BP := Lib.hid (show PBox W0 (W.heap.size + 1 + 1) o by rw [hW0]; have := HP.out (.cells #[.slice A.g t.gens.length A.cg, .slice A.a t.ats.length A.ca] 24) (.cells #[.int .i64 x.1, .int .i64 x.2] 26); rw [World.size_alloc, World.size_alloc] at this; exact this)
  have BB := Lib.hid (show Below W.heap.size W W0 by rw [hW0]; exact HB.out _ _ _)
  rw [← hW0]
  clear hW0 HB HT HX HP
  go_wp2_with fail
  refine (c0.out W0).mono ?_
  rintro e x1 ⟨rfl, hb⟩
  have zzx1 : W0.heap.size ≤ x1.heap.size := hb.size
  replace BT := Lib.hid (BT.out.below hb)
  replace BX := Lib.hid (BX.out.below hb)
  replace BP := Lib.hid (BP.out.below hb)
  replace BB := Lib.hid (BB.out.trans (hb.mono BB.out.size))
  clear hb 
  obtain ⟨_, hBT0, hBT1, _, _⟩ := BT.out
  obtain ⟨_, hBX0, hBX1, _, _⟩ := BX.out
  try dsimp only at hBT0 hBT1 hBX0 hBX1
  go_wp2_with fail
  refine (c1.out x1 BB.out).mono ?_
  rintro e x2 ⟨A1, rfl, own, hb⟩
  have zzx2 : x1.heap.size ≤ x2.heap.size := hb.size
  replace BT := Lib.hid (BT.out.below hb)
  replace BX := Lib.hid (BX.out.below hb)
  replace BP := Lib.hid (BP.out.below hb)
  replace BB := Lib.hid (BB.out.trans (hb.mono BB.out.size))
  have O1 := Lib.hid own
  clear own
  clear hb hBT0 hBT1 hBX0 hBX1
  clear O1
  try unfold hv
  try unfold pv
  go_upto_region 5 with (fail)
  obtain ⟨V3, hV⟩ : ∃ V, V = (x2).alloc (.cells #[.slice A1.g M.gens.length A1.cg, .slice A1.a M.ats.length A1.ca] 24) := ⟨_, rfl⟩
  have hba : Below x2.heap.size x2 V3 := by rw [hV]; exact (Below.refl _ _).alloc (Nat.le_refl _) _
  have zzV3 : x2.heap.size + 1 ≤ V3.heap.size := by rw [hV]; simp
  have BM := Lib.hid (show HBox V3 (x2.heap.size) M A1 by rw [hV]; have := HBox.new (x2) M A1 24; (try (simp only [World.size_alloc] at this)); exact this)
  rw [← hV]
  replace BT := Lib.hid (BT.out.below hba)
  replace BX := Lib.hid (BX.out.below hba)
  replace BP := Lib.hid (BP.out.below hba)
  replace BB := Lib.hid (BB.out.trans (hba.mono BB.out.size))
  clear hV hba
  obtain ⟨_, hBM0, hBM1, _, _⟩ := BM.out
  try dsimp only at hBM0 hBM1
  rw [m0.out] at hBM0
  go_wp2
  go_ret
  exact ⟨rfl, BB.out⟩
set_option maxRecDepth 100000 in
set_option maxHeartbeats 16000000 in
theorem good (t : Ht) (A : HAds) (x o : Int × Int) (p : Int) (W : World) (h : HHeld W t A) (ok : t.Ok) (x1 : In64 x.1) (x2 : In64 x.2) (o1 : In64 o.1) (o2 : In64 o.2) (hp : In64 p) (g1 : t.gens.length ≤ 300) (g2 : t.ats.length ≤ 300) (hm : Hn.May t) (h0 : 0 ≤ p) (hi : Hn.isB t x = true) (hc : Hn.setE t x p = 0) (hv0 : Hn.setV t x p = Hn.moved t x.1.toNat p) :
    Calls Try.prog 8 #[hv t A, pv x, pv o, .int .i64 p] W fun e w' => e = .returned (.bool true) ∧ Below W.heap.size W w' := by
  have hs : t.Short := ⟨by omega, by omega⟩
  have HB := Lib.hid (fun a b c => (((Below.refl W.heap.size W).alloc (Nat.le_refl _) a).alloc (by simp) b).alloc (by simp; omega) c)
  have HT := Lib.hid (fun a b => ((HBox.new W t A 24).below ((Below.refl _ _).alloc (Nat.le_refl _) a)).below ((Below.refl _ _).alloc (Nat.le_refl _) b))
  have HX := Lib.hid (fun a b => (PBox.new (W.alloc a) x 26).below ((Below.refl _ _).alloc (Nat.le_refl _) b))
  have HP := Lib.hid (fun a b => PBox.new ((W.alloc a).alloc b) o 26)
  have c0 := Lib.hid (fun V => l14Alive V)
  have c1 := Lib.hid (fun V (hb : Below W.heap.size W V) => hSet t A x p V (h.below hb) ok hs x1 x2 hp)
  have okm := ok_set ok x hp
  have hsm := short_set t hs x p
  have i64v : In64 (Hn.a t x.1.toNat) := ok.ats _
  have hix := (Hn.is_iff t x).1 hi
  have c2 := Lib.hid (fun V (hb : Below W.heap.size W V) => hFind t A x V (h.below hb) ok hs x1 x2)
  have c3 := Lib.hid (fun A1 V (q : HHeld V (Hn.setV t x p) A1) => hSet (Hn.setV t x p) A1 x (Hn.a t x.1.toNat) V q okm hsm x1 x2 i64v)
  have c4 := Lib.hid (fun V (hb : Below W.heap.size W V) => hFind t A o V (h.below hb) ok hs o1 o2)
  have c5 := Lib.hid (fun A1 V (q : HHeld V (Hn.setV t x p) A1) => hFind (Hn.setV t x p) A1 o V q okm hsm o1 o2)
  have c6 := Lib.hid (fun A1 V (q : HHeld V (Hn.setV t x p) A1) => l14At (Hn.setV t x p) A1 x p V q okm hsm x1 x2)
  have c7 := Lib.hid (fun A1 V (q : HHeld V t A1) (hb : Below W.heap.size W V) => r14Same t t A1 A V q (h.below hb) hs hs)
  clear okm hsm i64v
  have hm' := Hn.may_moved hm hi h0
  have mf := Hn.moved_found hm hi h0
  have HO := Lib.hid (fun (q : o ≠ x) => Hn.moved_other hm hi h0 q)
  have fE : Hn.findE t x = 0 := by rw [Hn.find_of hm, hi, if_pos rfl]
  have fV : Hn.findV t x = Hn.a t x.1.toNat := by rw [Hn.findV_of hm, hi, if_pos rfl]
  have iM : Hn.isB (Hn.moved t x.1.toNat p) x = true := by
    have := mf.1
    rw [Hn.find_of hm'] at this
    cases e : Hn.isB (Hn.moved t x.1.toNat p) x
    · rw [e, if_neg (by simp)] at this; cases this
    · rfl
  have sE : Hn.setE (Hn.moved t x.1.toNat p) x (Hn.a t x.1.toNat) = 0 := by
    unfold Hn.setE
    rw [if_pos (Hn.chk_may.2 hm'), if_neg (by omega), iM, if_pos rfl]
  have sV : Hn.setV (Hn.moved t x.1.toNat p) x (Hn.a t x.1.toNat) = t := by
    unfold Hn.setV
    rw [sE, if_pos rfl, Hn.moved_back (by have := hm.len; omega)]
  rw [hv0, hc] at c1
  rw [fE, fV] at c2
  rw [hv0, sE, sV] at c3
  rw [hv0] at c5
  rw [hv0, mf.1, mf.2] at c6
  rw [sameB_self] at c7
  obtain ⟨V, hV⟩ : ∃ E, E = Hn.a t x.1.toNat := ⟨_, rfl⟩
  rw [← hV] at c2 c3
  obtain ⟨M, hM⟩ : ∃ M, M = Hn.moved t x.1.toNat p := ⟨_, rfl⟩
  rw [← hM] at c1 c3 c5 c6 HO
  obtain ⟨V1, hV1⟩ : ∃ E, E = Hn.findV t o := ⟨_, rfl⟩
  obtain ⟨E1, hE1⟩ : ∃ E, E = Hn.findE t o := ⟨_, rfl⟩
  obtain ⟨V2, hV2⟩ : ∃ E, E = Hn.findV M o := ⟨_, rfl⟩
  obtain ⟨E2, hE2⟩ : ∃ E, E = Hn.findE M o := ⟨_, rfl⟩
  rw [← hV1, ← hE1] at c4 HO
  rw [← hV2, ← hE2] at c5 HO
  have t1 : (decide ((0 : Int) = 0) && decide (p = p)) = true := by simp
  rw [t1] at c6
  clear hV hM hV1 hE1 hV2 hE2 hv0 hc fE fV mf iM sE sV hm' hix hm hi h0 t1
  unfold hv pv at c2 c3 c4 c5 c6
  unfold hv at c7
  clear h ok hs hp x1 x2 o1 o2
  unfold hv pv at c1
  unfold hv pv
  go_enter Try.func8, Try.ntmps8
  go_upto_region 1 with (fail)
  obtain ⟨W0, hW0⟩ : ∃ V, V = ((W.alloc (.cells #[.slice A.g t.gens.length A.cg, .slice A.a t.ats.length A.ca] 24)).alloc (.cells #[.int .i64 x.1, .int .i64 x.2] 26)).alloc (.cells #[.int .i64 o.1, .int .i64 o.2] 26) := ⟨_, rfl⟩
  have BT := Lib.hid (show HBox W0 W.heap.size t A by rw [hW0]; exact HT.out _ _)
  have BX := Lib.hid (show PBox W0 (W.heap.size + 1) x by rw [hW0]; have := HX.out (.cells #[.slice A.g t.gens.length A.cg, .slice A.a t.ats.length A.ca] 24) (.cells #[.int .i64 o.1, .int .i64 o.2] 26); rw [World.size_alloc] at this; exact this)
  have BP := Lib.hid (show PBox W0 (W.heap.size + 1 + 1) o by rw [hW0]; have := HP.out (.cells #[.slice A.g t.gens.length A.cg, .slice A.a t.ats.length A.ca] 24) (.cells #[.int .i64 x.1, .int .i64 x.2] 26); rw [World.size_alloc, World.size_alloc] at this; exact this)
  have BB := Lib.hid (show Below W.heap.size W W0 by rw [hW0]; exact HB.out _ _ _)
  rw [← hW0]
  clear hW0 HB HT HX HP
  go_wp2_with fail
  refine (c0.out W0).mono ?_
  rintro e x4 ⟨rfl, hb⟩
  have zzx4 : W0.heap.size ≤ x4.heap.size := hb.size
  replace BT := Lib.hid (BT.out.below hb)
  replace BX := Lib.hid (BX.out.below hb)
  replace BP := Lib.hid (BP.out.below hb)
  replace BB := Lib.hid (BB.out.trans (hb.mono BB.out.size))
  clear hb 
  obtain ⟨_, hBT0, hBT1, _, _⟩ := BT.out
  obtain ⟨_, hBX0, hBX1, _, _⟩ := BX.out
  try dsimp only at hBT0 hBT1 hBX0 hBX1
  go_wp2_with fail
  refine (c1.out x4 BB.out).mono ?_
  rintro e x5 ⟨A1, rfl, own, hb⟩
  have zzx5 : x4.heap.size ≤ x5.heap.size := hb.size
  replace BT := Lib.hid (BT.out.below hb)
  replace BX := Lib.hid (BX.out.below hb)
  replace BP := Lib.hid (BP.out.below hb)
  replace BB := Lib.hid (BB.out.trans (hb.mono BB.out.size))
  have O1 := Lib.hid own
  clear own
  clear hb hBT0 hBT1 hBX0 hBX1
  have HM := Lib.hid O1.out.held
  clear O1
  try unfold hv
  try unfold pv
  go_upto_region 5 with (fail)
  obtain ⟨V6, hV⟩ : ∃ V, V = (x5).alloc (.cells #[.slice A1.g M.gens.length A1.cg, .slice A1.a M.ats.length A1.ca] 24) := ⟨_, rfl⟩
  have hba : Below x5.heap.size x5 V6 := by rw [hV]; exact (Below.refl _ _).alloc (Nat.le_refl _) _
  have zzV6 : x5.heap.size + 1 ≤ V6.heap.size := by rw [hV]; simp
  have BM := Lib.hid (show HBox V6 (x5.heap.size) M A1 by rw [hV]; have := HBox.new (x5) M A1 24; (try (simp only [World.size_alloc] at this)); exact this)
  rw [← hV]
  replace BT := Lib.hid (BT.out.below hba)
  replace BX := Lib.hid (BX.out.below hba)
  replace BP := Lib.hid (BP.out.below hba)
  replace HM := Lib.hid (HM.out.below hba)
  replace BB := Lib.hid (BB.out.trans (hba.mono BB.out.size))
  clear hV hba
  obtain ⟨_, hBT0, hBT1, _, _⟩ := BT.out
  obtain ⟨_, hBX0, hBX1, _, _⟩ := BX.out
  try dsimp only at hBT0 hBT1 hBX0 hBX1
  go_wp2_with fail
  refine (c2.out V6 BB.out).mono ?_
  rintro e x7 ⟨rfl, hb⟩
  have zzx7 : V6.heap.size ≤ x7.heap.size := hb.size
  replace BT := Lib.hid (BT.out.below hb)
  replace BX := Lib.hid (BX.out.below hb)
  replace BP := Lib.hid (BP.out.below hb)
  replace HM := Lib.hid (HM.out.below hb)
  replace BM := Lib.hid (BM.out.below hb)
  replace BB := Lib.hid (BB.out.trans (hb.mono BB.out.size))
  clear hb hBT0 hBT1 hBX0 hBX1
  obtain ⟨_, hBM0, hBM1, _, _⟩ := BM.out
  obtain ⟨_, hBX0, hBX1, _, _⟩ := BX.out
  try dsimp only at hBM0 hBM1 hBX0 hBX1
  go_wp2_with fail
  refine (c3.out A1 x7 HM.out).mono ?_
  rintro e x8 ⟨A2, rfl, own, hb⟩
  have zzx8 : x7.heap.size ≤ x8.heap.size := hb.size
  replace BT := Lib.hid (BT.out.below hb)
  replace BX := Lib.hid (BX.out.below hb)
  replace BP := Lib.hid (BP.out.below hb)
  replace HM := Lib.hid (HM.out.below hb)
  replace BM := Lib.hid (BM.out.below hb)
  replace BB := Lib.hid (BB.out.trans (hb.mono BB.out.size))
  have O2 := Lib.hid own
  clear own
  clear hb hBM0 hBM1 hBX0 hBX1
  have HY := Lib.hid O2.out.held
  clear O2
  try unfold hv
  try unfold pv
  go_upto_region 9 with (fail)
  obtain ⟨V9, hV⟩ : ∃ V, V = (x8).alloc (.cells #[.slice A2.g t.gens.length A2.cg, .slice A2.a t.ats.length A2.ca] 24) := ⟨_, rfl⟩
  have hba : Below x8.heap.size x8 V9 := by rw [hV]; exact (Below.refl _ _).alloc (Nat.le_refl _) _
  have zzV9 : x8.heap.size + 1 ≤ V9.heap.size := by rw [hV]; simp
  have BY := Lib.hid (show HBox V9 (x8.heap.size) t A2 by rw [hV]; have := HBox.new (x8) t A2 24; (try (simp only [World.size_alloc] at this)); exact this)
  rw [← hV]
  replace BT := Lib.hid (BT.out.below hba)
  replace BX := Lib.hid (BX.out.below hba)
  replace BP := Lib.hid (BP.out.below hba)
  replace HM := Lib.hid (HM.out.below hba)
  replace BM := Lib.hid (BM.out.below hba)
  replace HY := Lib.hid (HY.out.below hba)
  replace BB := Lib.hid (BB.out.trans (hba.mono BB.out.size))
  clear hV hba
  obtain ⟨_, hBT0, hBT1, _, _⟩ := BT.out
  obtain ⟨_, hBP0, hBP1, _, _⟩ := BP.out
  try dsimp only at hBT0 hBT1 hBP0 hBP1
  go_wp2_with fail
  refine (c4.out V9 BB.out).mono ?_
  rintro e x10 ⟨rfl, hb⟩
  have zzx10 : V9.heap.size ≤ x10.heap.size := hb.size
  replace BT := Lib.hid (BT.out.below hb)
  replace BX := Lib.hid (BX.out.below hb)
  replace BP := Lib.hid (BP.out.below hb)
  replace HM := Lib.hid (HM.out.below hb)
  replace BM := Lib.hid (BM.out.below hb)
  replace HY := Lib.hid (HY.out.below hb)
  replace BY := Lib.hid (BY.out.below hb)
  replace BB := Lib.hid (BB.out.trans (hb.mono BB.out.size))
  clear hb hBT0 hBT1 hBP0 hBP1
  obtain ⟨_, hBM0, hBM1, _, _⟩ := BM.out
  obtain ⟨_, hBP0, hBP1, _, _⟩ := BP.out
  try dsimp only at hBM0 hBM1 hBP0 hBP1
  go_wp2_with fail
  refine (c5.out A1 x10 HM.out).mono ?_
  rintro e x11 ⟨rfl, hb⟩
  have zzx11 : x10.heap.size ≤ x11.heap.size := hb.size
  replace BT := Lib.hid (BT.out.below hb)
  replace BX := Lib.hid (BX.out.below hb)
  replace BP := Lib.hid (BP.out.below hb)
  replace HM := Lib.hid (HM.out.below hb)
  replace BM := Lib.hid (BM.out.below hb)
  replace HY := Lib.hid (HY.out.below hb)
  replace BY := Lib.hid (BY.out.below hb)
  replace BB := Lib.hid (BB.out.trans (hb.mono BB.out.size))
  clear hb hBM0 hBM1 hBP0 hBP1
  obtain ⟨_, hBM0, hBM1, _, _⟩ := BM.out
  obtain ⟨_, hBX0, hBX1, _, _⟩ := BX.out
  try dsimp only at hBM0 hBM1 hBX0 hBX1
  go_wp2_with fail
  refine (c6.out A1 x11 HM.out).mono ?_
  rintro e x12 ⟨rfl, hb⟩
  have zzx12 : x11.heap.size ≤ x12.heap.size := hb.size
  replace BT := Lib.hid (BT.out.below hb)
  replace BX := Lib.hid (BX.out.below hb)
  replace BP := Lib.hid (BP.out.below hb)
  replace HM := Lib.hid (HM.out.below hb)
  replace BM := Lib.hid (BM.out.below hb)
  replace HY := Lib.hid (HY.out.below hb)
  replace BY := Lib.hid (BY.out.below hb)
  replace BB := Lib.hid (BB.out.trans (hb.mono BB.out.size))
  clear hb hBM0 hBM1 hBX0 hBX1
  obtain ⟨_, hBY0, hBY1, _, _⟩ := BY.out
  obtain ⟨_, hBT0, hBT1, _, _⟩ := BT.out
  try dsimp only at hBY0 hBY1 hBT0 hBT1
  go_wp2_with fail
  refine (c7.out A2 x12 HY.out BB.out).mono ?_
  rintro e x13 ⟨rfl, hb⟩
  have zzx13 : x12.heap.size ≤ x13.heap.size := hb.size
  replace BT := Lib.hid (BT.out.below hb)
  replace BX := Lib.hid (BX.out.below hb)
  replace BP := Lib.hid (BP.out.below hb)
  replace HM := Lib.hid (HM.out.below hb)
  replace BM := Lib.hid (BM.out.below hb)
  replace HY := Lib.hid (HY.out.below hb)
  replace BY := Lib.hid (BY.out.below hb)
  replace BB := Lib.hid (BB.out.trans (hb.mono BB.out.size))
  clear hb hBY0 hBY1 hBT0 hBT1
  obtain ⟨_, hBP0, hBP1, _, _⟩ := BP.out
  obtain ⟨_, hBX0, hBX1, _, _⟩ := BX.out
  try dsimp only at hBP0 hBP1 hBX0 hBX1
  have DF := Lib.hid (show ((o.1 == x.1) && (o.2 == x.2)) = false → V1 = V2 ∧ E1 = E2 from fun q => by
      have := HO.out (by rintro rfl; simp at q)
      exact ⟨this.2, this.1⟩)
  clear HO
  cases k1 : (o.1 == x.1)
  all_goals cases k2 : (o.2 == x.2)
  all_goals rw [k1, k2] at DF
  all_goals try (obtain ⟨rfl, rfl⟩ := DF.out rfl)
  all_goals
    clear DF
    go_wp2
    go_ret
    exact ⟨rfl, BB.out⟩
set_option maxRecDepth 100000 in
set_option maxHeartbeats 16000000 in
theorem great (t : Ht) (A : HAds) (x o : Int × Int) (p : Int) (W : World) (h : HHeld W t A) (ok : t.Ok) (x1 : In64 x.1) (x2 : In64 x.2) (o1 : In64 o.1) (o2 : In64 o.2) (hp : In64 p) (hg : ¬ (t.gens.length ≤ 300 ∧ t.ats.length ≤ 300)) :
    Calls Try.prog 8 #[hv t A, pv x, pv o, .int .i64 p] W fun e w' => e = .returned (.bool true) ∧ Below W.heap.size W w' := by
  have HB := Lib.hid (fun a b c => (((Below.refl W.heap.size W).alloc (Nat.le_refl _) a).alloc (by simp) b).alloc (by simp; omega) c)
  have HT := Lib.hid (fun a b => ((HBox.new W t A 24).below ((Below.refl _ _).alloc (Nat.le_refl _) a)).below ((Below.refl _ _).alloc (Nat.le_refl _) b))
  have HX := Lib.hid (fun a b => (PBox.new (W.alloc a) x 26).below ((Below.refl _ _).alloc (Nat.le_refl _) b))
  have HP := Lib.hid (fun a b => PBox.new ((W.alloc a).alloc b) o 26)
  have c0 := Lib.hid (fun V => l14Alive V)
  clear h ok hp x1 x2 o1 o2
  unfold hv pv
  by_cases g1 : t.gens.length ≤ 300
  all_goals by_cases g2 : t.ats.length ≤ 300
  all_goals first
  | exact absurd (And.intro g1 g2) hg
  | skip
  all_goals
    clear hg
    go_enter Try.func8, Try.ntmps8
    go_upto_region 1 with (fail)
    obtain ⟨W0, hW0⟩ : ∃ V, V = ((W.alloc (.cells #[.slice A.g t.gens.length A.cg, .slice A.a t.ats.length A.ca] 24)).alloc (.cells #[.int .i64 x.1, .int .i64 x.2] 26)).alloc (.cells #[.int .i64 o.1, .int .i64 o.2] 26) := ⟨_, rfl⟩
    have BT := Lib.hid (show HBox W0 W.heap.size t A by rw [hW0]; exact HT.out _ _)
    have BX := Lib.hid (show PBox W0 (W.heap.size + 1) x by rw [hW0]; have := HX.out (.cells #[.slice A.g t.gens.length A.cg, .slice A.a t.ats.length A.ca] 24) (.cells #[.int .i64 o.1, .int .i64 o.2] 26); rw [World.size_alloc] at this; exact this)
    have BP := Lib.hid (show PBox W0 (W.heap.size + 1 + 1) o by rw [hW0]; have := HP.out (.cells #[.slice A.g t.gens.length A.cg, .slice A.a t.ats.length A.ca] 24) (.cells #[.int .i64 x.1, .int .i64 x.2] 26); rw [World.size_alloc, World.size_alloc] at this; exact this)
    have BB := Lib.hid (show Below W.heap.size W W0 by rw [hW0]; exact HB.out _ _ _)
    rw [← hW0]
    clear hW0 HB HT HX HP
    go_wp2_with fail
    refine (c0.out W0).mono ?_
    rintro e w1 ⟨rfl, hb⟩
    replace BB := Lib.hid (BB.out.trans (hb.mono BB.out.size))
    obtain ⟨_, p0, p1, _, _⟩ := BT.out.below hb
    clear hb c0 BT BX BP
    go_wp2
    go_ret
    exact ⟨rfl, BB.out⟩
theorem walk (t : Ht) (A : HAds) (x o : Int × Int) (p : Int) (W : World) (h : HHeld W t A) (ok : t.Ok) (x1 : In64 x.1) (x2 : In64 x.2) (o1 : In64 o.1) (o2 : In64 o.2) (hp : In64 p) :
    Calls Try.prog 8 #[hv t A, pv x, pv o, .int .i64 p] W fun e w' => e = .returned (.bool true) ∧ Below W.heap.size W w' := by
  by_cases hg : t.gens.length ≤ 300 ∧ t.ats.length ≤ 300
  · rcases Hn.set_cases t x p with ⟨e, hm, h0, hi, v⟩ | ⟨e, v⟩
    · exact good t A x o p W h ok x1 x2 o1 o2 hp hg.1 hg.2 hm h0 hi e v
    · exact bad t A x o p W h ok x1 x2 o1 o2 hp hg.1 hg.2 e v
  · exact great t A x o p W h ok x1 x2 o1 o2 hp hg
end Go.Proofs.Ytephmejhglcdiaa.handleMoves
