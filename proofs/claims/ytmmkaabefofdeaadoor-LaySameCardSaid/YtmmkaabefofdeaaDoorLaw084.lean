/- What the law package of layer 8's own functions return: spoil (writes over). -/
import Derived.Test.YtmmkaabefofdeaaDoorLay4
import Derived.Test.YtmmkaabefofdeaaDoorM23
import Derived.Test.YtmmkaabefofdeaaDoorM17
import Derived.Test.YtmmkaabefofdeaaDoorM15
import Derived.Test.YtmmkaabefofdeaaDoorM18
import Derived.Test.YtmmkaabefofdeaaDoorM08
namespace Go.Proofs.YtmmkaabefofdeaaDoor
open Go.RowKit
set_option linter.unusedVariables false
set_option linter.unusedSimpArgs false

set_option maxRecDepth 100000 in
set_option maxHeartbeats 1000000 in
theorem l8Spoil (s : Sl) (a : Ads) (B U : Nat) (w : World) (h : SoftS w B U s a) (hB : B ≤ w.heap.size) (hs : s.Short) :
    Calls Tryd.prog 20 #[slv s a] w fun e w' => e = .returned (.tuple #[]) ∧ Spoilt B U w w' := by
  have H := Lib.hid h
  have HS0 := Lib.hid (show ∀ o, Spoilt B U w (w.alloc o) from fun o => ⟨(Below.refl _ _).alloc hB o, fun k a n hs => hs.below ((Below.refl _ _).alloc (Nat.le_refl _) o), fun g _ hg => Below.heap_alloc w o g hg⟩)
  have HX0 := Lib.hid (Box.new w s a 27)
  have l1 := hs.words
  have l2 := hs.keys
  have l3 := hs.vals
  have l4 := hs.counts
  clear h hs
  unfold slv
  go_enter Tryd.func20, Tryd.ntmps20
  go_wp2
  go_loopw [2] (SpJ B U s a w s.keys.length) (fun i _ => s.keys.length - (intOf i).toNat)
  case atStart => exact ⟨0, Nat.zero_le _, rfl, HS0.out _, HX0.out⟩
  case round =>
    obtain ⟨k1, hk1, rfl, hs, hx⟩ := hrel
    have HS1 := Lib.hid hs
    have HX1 := Lib.hid hx
    clear hs hx HS0 HX0
    obtain ⟨_, p0, p1, p2, p3, p4, p5, _⟩ := HX1.out
    by_cases hlt : k1 < s.keys.length
    · obtain ⟨b, off, z, hA, hc, hf, hst⟩ := sp_step HS1.out HX1.out H.out.k H.out.fk hlt
      have HST := Lib.hid hst
      rw [hA] at p2
      have HA := Lib.hid hA
      have i0 : (0 : Int) ≤ (k1 : Int) := by omega
      have i1 : (k1 : Int) < (s.keys.length : Int) := by omega
      clear hst hA
      go_wp2
      go_roundw
      case rel => exact ⟨k1 + 1, by omega, by go_num, (HST.out _).1, (HST.out _).2⟩
      case measure => simp [intOf]; omega
    · obtain rfl : k1 = s.keys.length := by omega
      go_wp2
      clear p0 p1 p2 p3 p4 p5
      go_loopw [3] (SpJ B U s a w s.words.length) (fun i _ => s.words.length - (intOf i).toNat)
      case atStart => exact ⟨0, Nat.zero_le _, rfl, HS1.out, HX1.out⟩
      case round =>
        obtain ⟨k2, hk2, rfl, hs, hx⟩ := hrel
        have HS2 := Lib.hid hs
        have HX2 := Lib.hid hx
        clear hs hx HS1 HX1
        obtain ⟨_, p0, p1, p2, p3, p4, p5, _⟩ := HX2.out
        by_cases hlt : k2 < s.words.length
        · obtain ⟨b, off, z, hA, hc, hf, hst⟩ := sp_step HS2.out HX2.out H.out.w H.out.fw hlt
          have HST := Lib.hid hst
          rw [hA] at p1
          have HA := Lib.hid hA
          have i0 : (0 : Int) ≤ (k2 : Int) := by omega
          have i1 : (k2 : Int) < (s.words.length : Int) := by omega
          clear hst hA
          go_wp2
          go_roundw
          case rel => exact ⟨k2 + 1, by omega, by go_num, (HST.out _).1, (HST.out _).2⟩
          case measure => simp [intOf]; omega
        · obtain rfl : k2 = s.words.length := by omega
          go_wp2
          clear p0 p1 p2 p3 p4 p5
          go_loopw [4] (SpJ B U s a w s.counts.length) (fun i _ => s.counts.length - (intOf i).toNat)
          case atStart => exact ⟨0, Nat.zero_le _, rfl, HS2.out, HX2.out⟩
          case round =>
            obtain ⟨k3, hk3, rfl, hs, hx⟩ := hrel
            have HS3 := Lib.hid hs
            have HX3 := Lib.hid hx
            clear hs hx HS2 HX2
            obtain ⟨_, p0, p1, p2, p3, p4, p5, _⟩ := HX3.out
            by_cases hlt : k3 < s.counts.length
            · obtain ⟨b, off, z, hA, hc, hf, hst⟩ := sp_step HS3.out HX3.out H.out.c H.out.fc hlt
              have HST := Lib.hid hst
              rw [hA] at p4
              have HA := Lib.hid hA
              have i0 : (0 : Int) ≤ (k3 : Int) := by omega
              have i1 : (k3 : Int) < (s.counts.length : Int) := by omega
              clear hst hA
              go_wp2
              go_roundw
              case rel => exact ⟨k3 + 1, by omega, by go_num, (HST.out _).1, (HST.out _).2⟩
              case measure => simp [intOf]; omega
            · obtain rfl : k3 = s.counts.length := by omega
              go_wp2
              clear p0 p1 p2 p3 p4 p5
              go_end0
              exact ⟨rfl, HS3.out⟩
/-- The chapter's slots. -/
def Ly.ch : Sl := ((Sl.newS 4 4).layS 0 (5, 0)).layS 1 (6, 0)
theorem small64 {z : Int} (h1 : -1000 ≤ z) (h2 : z ≤ 1000) : In64 z := ⟨by omega, by omega⟩
theorem ch_fine : Fine Ly.ch :=
  have ok0 := ok_new (seg := 4) (many := 4) (small64 (by omega) (by omega))
  have sh0 := short_new (seg := 4) (many := 4)
  have ok1 := ok_lay ok0 sh0 0 (p := (5, 0)) (small64 (by decide) (by decide)) (small64 (by decide) (by decide))
  ⟨ok_lay ok1 (short_lay sh0 0 (5, 0)) 1 (p := (6, 0)) (small64 (by decide) (by decide)) (small64 (by decide) (by decide)), short_lay (short_lay sh0 0 (5, 0)) 1 (6, 0)⟩
set_option maxRecDepth 100000 in
set_option maxHeartbeats 4000000 in
theorem l8Chapter (w : World) (hT : Tab w) :
    Calls Tryd.prog 10 #[] w fun e w' => ∃ a, e = .returned (slv Ly.ch a) ∧ Own w' w.heap.size Ly.ch a ∧ Below w.heap.size w w' := by
  have ok0 := Lib.hid (ok_new (seg := 4) (many := 4) (small64 (by omega) (by omega)))
  have sh0 := Lib.hid (short_new (seg := 4) (many := 4))
  have ok1 := Lib.hid (ok_lay ok0.out sh0.out 0 (p := (5, 0)) (small64 (by decide) (by decide)) (small64 (by decide) (by decide)))
  have sh1 := Lib.hid (short_lay sh0.out 0 (5, 0))
  have CN := Lib.hid (fun V => sNew 4 4 V (small64 (by omega) (by omega)) (small64 (by omega) (by omega)))
  have CL1 := Lib.hid (fun A V (hv : Held V (Sl.newS 4 4) A) tv => cLay (Sl.newS 4 4) A 0 (5, 0) V hv ok0.out sh0.out tv)
  have CL2 := Lib.hid (fun A V (hv : Held V ((Sl.newS 4 4).layS 0 (5, 0)) A) tv => cLay ((Sl.newS 4 4).layS 0 (5, 0)) A 1 (6, 0) V hv ok1.out sh1.out tv)
  unfold Ly.ch
  obtain ⟨S2, hS2⟩ : ∃ S, S = ((Sl.newS 4 4).layS 0 (5, 0)).layS 1 (6, 0) := ⟨_, rfl⟩
  obtain ⟨E2, hE2⟩ : ∃ S, S = ((Sl.newS 4 4).layS 0 (5, 0)).layE 1 := ⟨_, rfl⟩
  rw [← hS2] at CL2 ⊢
  rw [← hE2] at CL2
  clear hS2 hE2
  obtain ⟨S1, hS1⟩ : ∃ S, S = (Sl.newS 4 4).layS 0 (5, 0) := ⟨_, rfl⟩
  obtain ⟨E1, hE1⟩ : ∃ S, S = (Sl.newS 4 4).layE 0 := ⟨_, rfl⟩
  rw [← hS1] at CL1 CL2
  rw [← hE1] at CL1
  clear hE1
  obtain ⟨S0, hS0⟩ : ∃ S, S = Sl.newS 4 4 := ⟨_, rfl⟩
  obtain ⟨E0, hE0⟩ : ∃ S, S = Sl.newE 4 4 := ⟨_, rfl⟩
  rw [← hS0, ← hE0] at CN
  rw [← hS0] at CL1
  have TB0 := Lib.hid hT
  have HR := Lib.hid (Box.new w Sl.none adsNone 27)
  have HB := Lib.hid (fun o => (Below.refl w.heap.size w).alloc (Nat.le_refl _) o)
  clear hS0 hE0 hS1 ok0 sh0 ok1 sh1 hT
  unfold slv pv at CL1 CL2
  go_enter Tryd.func10, Tryd.ntmps10
  go_wp2_with fail
  refine (CN.out _).mono ?_
  rintro e w1 ⟨A0, rfl, own, hb⟩
  have zz : w.heap.size < w1.heap.size := by have := hb.size; simp at this; omega
  have BB := Lib.hid ((HB.out _).trans (hb.mono (by simp)))
  have BR := Lib.hid (HR.out.below hb)
  have O0 := Lib.hid own
  clear hb own HR HB
  unfold slv
  go_upto_region 2 with (fail)
  obtain ⟨V0, hV⟩ : ∃ V, V = w1.alloc (.cells #[.int .i64 S0.seg, .slice A0.w S0.words.length A0.cw, .slice A0.k S0.keys.length A0.ck, .slice A0.v S0.vals.length A0.cv, .slice A0.c S0.counts.length A0.cc, .int .u64 (S0.laid : Int)] 27) := ⟨_, rfl⟩
  have hba : Below w1.heap.size w1 V0 := by rw [hV]; exact (Below.refl _ _).alloc (Nat.le_refl _) _
  have BX := Lib.hid (show Box V0 w1.heap.size S0 A0 by rw [hV]; exact Box.new w1 S0 A0 27)
  first | rw [← hV] | skip
  replace O0 := Lib.hid (O0.out.below hba)
  replace BR := Lib.hid (BR.out.below hba)
  replace BB := Lib.hid (BB.out.trans (hba.mono BB.out.size))
  have TB := Lib.hid (TB0.out.below BB.out)
  clear hV hba
  obtain ⟨_, p0, p1, p2, p3, p4, p5, _⟩ := BX.out
  go_wp2_with fail
  refine (CL1.out A0 _ O0.out.held TB.out).mono ?_
  rintro e w2 ⟨A1, rfl, own, hb⟩
  replace BB := Lib.hid (BB.out.trans (hb.mono BB.out.size))
  replace BX := Lib.hid (BX.out.below hb)
  replace BR := Lib.hid (BR.out.below hb)
  have O1 := Lib.hid own
  have z2 := hb.size
  have g0 := BX.out.lt
  clear hb own p0 p1 p2 p3 p4 p5 O0
  unfold slv
  obtain ⟨_, p0, p1, p2, p3, p4, p5, pf⟩ := BX.out
  have pf0 := pf 0
  have pf1 := pf 1
  have pf2 := pf 2
  have pf3 := pf 3
  have pf4 := pf 4
  have pf5 := pf 5
  clear pf
  go_upto_region 3 with (fail)
  obtain ⟨V1, hV⟩ : ∃ V, V = put6 w2 w1.heap.size (.int .i64 S1.seg) (.slice A1.w S1.words.length A1.cw) (.slice A1.k S1.keys.length A1.ck) (.slice A1.v S1.vals.length A1.cv) (.slice A1.c S1.counts.length A1.cc) (.int .u64 (S1.laid : Int)) := ⟨_, rfl⟩
  replace BX := Lib.hid (show Box V1 w1.heap.size S1 A1 by rw [hV]; exact BX.out.put6 S1 A1)
  replace BR := Lib.hid (show Box V1 w.heap.size Sl.none adsNone by rw [hV]; exact BR.out.put6o (by omega) _ _ _ _ _ _)
  replace O1 := Lib.hid (show Own V1 w1.heap.size S1 A1 by rw [hV]; exact ⟨(O1.out.words.put6 (by omega) _ _ _ _ _ _).lower (by omega), (O1.out.keys.put6 (by omega) _ _ _ _ _ _).lower (by omega), (O1.out.vals.put6 (by omega) _ _ _ _ _ _).lower (by omega), (O1.out.counts.put6 (by omega) _ _ _ _ _ _).lower (by omega), O1.out.caps⟩)
  replace BB := Lib.hid (show Below w.heap.size w V1 by rw [hV]; exact below_put6 BB.out (Nat.le_of_lt zz) _ _ _ _ _ _)
  replace TB := Lib.hid (TB0.out.below BB.out)
  unfold put6 at hV
  first | rw [← hV] | skip
  have y1 : w1.heap.size < V1.heap.size := BX.out.lt
  clear hV p0 p1 p2 p3 p4 p5 pf0 pf1 pf2 pf3 pf4 pf5 z2 g0
  obtain ⟨_, p0, p1, p2, p3, p4, p5, _⟩ := BX.out
  go_wp2_with fail
  refine (CL2.out A1 _ O1.out.held TB.out).mono ?_
  rintro e w3 ⟨A2, rfl, own, hb⟩
  replace BB := Lib.hid (BB.out.trans (hb.mono BB.out.size))
  replace BX := Lib.hid (BX.out.below hb)
  replace BR := Lib.hid (BR.out.below hb)
  have O2 := Lib.hid own
  have z3 := hb.size
  have g0 := BX.out.lt
  clear hb own p0 p1 p2 p3 p4 p5 O1
  unfold slv
  obtain ⟨_, p0, p1, p2, p3, p4, p5, pf⟩ := BX.out
  have pf0 := pf 0
  have pf1 := pf 1
  have pf2 := pf 2
  have pf3 := pf 3
  have pf4 := pf 4
  have pf5 := pf 5
  clear pf
  go_upto_region 4 with (fail)
  obtain ⟨V2, hV⟩ : ∃ V, V = put6 w3 w1.heap.size (.int .i64 S2.seg) (.slice A2.w S2.words.length A2.cw) (.slice A2.k S2.keys.length A2.ck) (.slice A2.v S2.vals.length A2.cv) (.slice A2.c S2.counts.length A2.cc) (.int .u64 (S2.laid : Int)) := ⟨_, rfl⟩
  replace BX := Lib.hid (show Box V2 w1.heap.size S2 A2 by rw [hV]; exact BX.out.put6 S2 A2)
  replace BR := Lib.hid (show Box V2 w.heap.size Sl.none adsNone by rw [hV]; exact BR.out.put6o (by omega) _ _ _ _ _ _)
  replace O2 := Lib.hid (show Own V2 w1.heap.size S2 A2 by rw [hV]; exact ⟨(O2.out.words.put6 (by omega) _ _ _ _ _ _).lower (by omega), (O2.out.keys.put6 (by omega) _ _ _ _ _ _).lower (by omega), (O2.out.vals.put6 (by omega) _ _ _ _ _ _).lower (by omega), (O2.out.counts.put6 (by omega) _ _ _ _ _ _).lower (by omega), O2.out.caps⟩)
  replace BB := Lib.hid (show Below w.heap.size w V2 by rw [hV]; exact below_put6 BB.out (Nat.le_of_lt zz) _ _ _ _ _ _)
  replace TB := Lib.hid (TB0.out.below BB.out)
  unfold put6 at hV
  first | rw [← hV] | skip
  have y2 : w1.heap.size < V2.heap.size := BX.out.lt
  clear hV p0 p1 p2 p3 p4 p5 pf0 pf1 pf2 pf3 pf4 pf5 z3 g0
  obtain ⟨_, p0, p1, p2, p3, p4, p5, _⟩ := BX.out
  obtain ⟨_, s0, s1, s2, s3, s4, s5, sf⟩ := BR.out
  have pf0 := sf 0
  have pf1 := sf 1
  have pf2 := sf 2
  have pf3 := sf 3
  have pf4 := sf 4
  have pf5 := sf 5
  clear sf
  have y0 : w.heap.size < V2.heap.size := BR.out.lt
  go_wp2
  refine bodyPost_ret (v := slv S2 A2) (by simp [results, Tryd.results10, go_sem, slv, s0, s1, s2, s3, s4, s5, pf0, pf1, pf2, pf3, pf4, pf5]) rfl ⟨_, rfl, ?_, ?_⟩
  · exact ⟨(O2.out.words.put6 (by omega) _ _ _ _ _ _).lower (by omega), (O2.out.keys.put6 (by omega) _ _ _ _ _ _).lower (by omega), (O2.out.vals.put6 (by omega) _ _ _ _ _ _).lower (by omega), (O2.out.counts.put6 (by omega) _ _ _ _ _ _).lower (by omega), O2.out.caps⟩
  · exact below_put6 BB.out (Nat.le_refl _) _ _ _ _ _ _
/-- Has an array these keys? -/
theorem lst8 (zs : List Int) (w : World) (t : TypeId) : Lst .i64 (w.alloc (.cells (zs.map (Value.int .i64)).toArray t)) (some ⟨w.heap.size, 0, none⟩) zs := by
  refine Or.inr ⟨w.heap.size, 0, rfl, by simp, fun i hi => ?_⟩
  have hh : (w.alloc (.cells (zs.map (Value.int .i64)).toArray t)).heap[w.heap.size]? = some (.cells (zs.map (Value.int .i64)).toArray t) := by show (w.heap.push _)[w.heap.size]? = _; exact Array.getElem?_push_size
  simp only [World.cell?, hh, Nat.zero_add]
  simp [hi, List.getD]
set_option maxRecDepth 100000 in
set_option maxHeartbeats 1000000 in
theorem l8Keys (s : Sl) (a : Ads) (b : Option Addr) (cb : Nat) (ys : List Int) (w : World) (h : Held w s a) (hs : s.Short) (hl : Lst .i64 w b ys) (hy : ys.length ≤ 65536) :
    Calls Tryd.prog 14 #[slv s a, .slice b ys.length cb] w fun e w' => e = .returned (.bool (s.keys == ys)) ∧ Below w.heap.size w w' := by
  have H := Lib.hid h
  have HL := Lib.hid hl
  have l2 := hs.keys
  have HX := Lib.hid (Box.new w s a 27)
  have HB := Lib.hid (fun o => (Below.refl w.heap.size w).alloc (Nat.le_refl _) o)
  clear h hs hl
  unfold slv
  go_enter Tryd.func14, Tryd.ntmps14
  obtain ⟨_, p0, p1, p2, p3, p4, p5, _⟩ := HX.out
  go_wp2_with fail
  refine (r4SameKeys a.k b a.ck cb s.keys ys _ (H.out.below (HB.out _)).keys (HL.out.below (HB.out _)) (by omega) (by omega)).mono ?_
  rintro e w1 ⟨rfl, hb⟩
  have BB := Lib.hid ((HB.out _).trans (hb.mono (by simp)))
  clear hb
  go_wp2
  go_ret
  exact ⟨rfl, BB.out⟩
theorem alive8_facts : (Ly.evenS Ly.ch 0 4).keys = [5, 0, 6, 0] ∧ (Ly.evenS Ly.ch 0 4).laid = 4 ∧ Ly.ch.pairsE 0 4 = 0 ∧ (Ly.withS Ly.ch 0 4 0 (9, 0)).keys = [9, 5, 6, 0] ∧ (Ly.withS Ly.ch 0 4 0 (9, 0)).laid = 5 ∧ Ly.withE Ly.ch 0 4 0 = 0 := by decide +kernel
set_option maxRecDepth 100000 in
set_option maxHeartbeats 4000000 in
theorem lAlive (w : World) (hT : Tab w) :
    Calls Tryd.prog 13 #[] w fun e w' => e = .returned (.bool true) ∧ Below w.heap.size w w' := by
  obtain ⟨f0, f1, f2, f3, f4, f5⟩ := alive8_facts
  have CF := Lib.hid ch_fine
  have z4 : In64 4 := small64 (by omega) (by omega)
  have z0 : In64 0 := small64 (by omega) (by omega)
  have z9 : In64 9 := small64 (by omega) (by omega)
  have sh1 := Lib.hid (even_fine CF.out.ok CF.out.short 0 4).short
  have sh2 := Lib.hid (with_fine CF.out.ok CF.out.short 0 4 0 (p := (9, 0)) z9 z0).short
  have CC := Lib.hid (fun V tv => l8Chapter V tv)
  have CE := Lib.hid (fun A V (hv : Held V Ly.ch A) tv => yEven Ly.ch A 0 4 V hv CF.out.ok CF.out.short tv z0 z4)
  have CW := Lib.hid (fun A V (hv : Held V Ly.ch A) tv => yWith Ly.ch A 0 4 0 9 0 V hv CF.out.ok CF.out.short tv z0 z4 z0 z9 z0)
  rw [f2] at CE
  rw [f5] at CW
  obtain ⟨S1, hS1⟩ : ∃ S, S = Ly.evenS Ly.ch 0 4 := ⟨_, rfl⟩
  obtain ⟨S2, hS2⟩ : ∃ S, S = Ly.withS Ly.ch 0 4 0 (9, 0) := ⟨_, rfl⟩
  rw [← hS1] at CE f0 f1 sh1
  rw [← hS2] at CW f3 f4 sh2
  clear hS1 hS2
  obtain ⟨S0, hS0⟩ : ∃ S, S = Ly.ch := ⟨_, rfl⟩
  rw [← hS0] at CC CE CW
  have q1 : (S1.keys == [5, 0, 6, 0]) = true := by rw [f0]; rfl
  have q2 : (S2.keys == [9, 5, 6, 0]) = true := by rw [f3]; rfl
  have Q1 := Lib.hid q1
  have Q2 := Lib.hid q2
  have l1 : (S1.laid : Int) = 4 := by rw [f1]; rfl
  have l2 : (S2.laid : Int) = 5 := by rw [f4]; rfl
  have L1 := Lib.hid l1
  have L2 := Lib.hid l2
  have TB0 := Lib.hid hT
  clear f0 f1 f2 f3 f4 f5 q1 q2 l1 l2 hS0 hT CF z0 z4 z9
  unfold slv at CE CW
  go_enter Tryd.func13, Tryd.ntmps13
  go_wp2_with fail
  refine (CC.out _ TB0.out).mono ?_
  rintro e w1 ⟨A0, rfl, own, hb⟩
  have BB := Lib.hid hb
  have TB := Lib.hid (TB0.out.below BB.out)
  have O0 := Lib.hid own.held
  clear hb own
  unfold slv
  go_wp2_with fail
  refine (CE.out A0 _ O0.out TB.out).mono ?_
  rintro e w2 ⟨A1, rfl, own, hb⟩
  replace BB := Lib.hid (BB.out.trans (hb.mono BB.out.size))
  have O1 := Lib.hid own.held
  clear hb own O0 TB
  unfold slv
  go_upto_region 2 with (fail)
  obtain ⟨V1, hV⟩ : ∃ V, V = w2.alloc (.cells #[.int .i64 S1.seg, .slice A1.w S1.words.length A1.cw, .slice A1.k S1.keys.length A1.ck, .slice A1.v S1.vals.length A1.cv, .slice A1.c S1.counts.length A1.cc, .int .u64 (S1.laid : Int)] 27) := ⟨_, rfl⟩
  have hba : Below w2.heap.size w2 V1 := by rw [hV]; exact (Below.refl _ _).alloc (Nat.le_refl _) _
  have B1 := Lib.hid (show Box V1 w2.heap.size S1 A1 by rw [hV]; exact Box.new w2 S1 A1 27)
  first | rw [← hV] | skip
  replace O1 := Lib.hid (O1.out.below hba)
  replace BB := Lib.hid (BB.out.trans (hba.mono BB.out.size))
  clear hV hba
  have TB := Lib.hid (TB0.out.below BB.out)
  go_wp2_with fail
  refine (CC.out _ TB.out).mono ?_
  rintro e w3 ⟨A2, rfl, own, hb⟩
  replace BB := Lib.hid (BB.out.trans (hb.mono BB.out.size))
  replace O1 := Lib.hid (O1.out.below hb)
  replace B1 := Lib.hid (B1.out.below hb)
  have O2 := Lib.hid own.held
  clear hb own TB
  unfold slv
  have TB := Lib.hid (TB0.out.below BB.out)
  go_wp2_with fail
  refine (CW.out A2 _ O2.out TB.out).mono ?_
  rintro e w4 ⟨A3, rfl, own, hb⟩
  replace BB := Lib.hid (BB.out.trans (hb.mono BB.out.size))
  replace O1 := Lib.hid (O1.out.below hb)
  replace B1 := Lib.hid (B1.out.below hb)
  have O3 := Lib.hid own.held
  clear hb own O2 TB
  unfold slv
  go_upto_region 3 with (fail)
  obtain ⟨V3, hV⟩ : ∃ V, V = w4.alloc (.cells #[.int .i64 S2.seg, .slice A3.w S2.words.length A3.cw, .slice A3.k S2.keys.length A3.ck, .slice A3.v S2.vals.length A3.cv, .slice A3.c S2.counts.length A3.cc, .int .u64 (S2.laid : Int)] 27) := ⟨_, rfl⟩
  have hba : Below w4.heap.size w4 V3 := by rw [hV]; exact (Below.refl _ _).alloc (Nat.le_refl _) _
  have B3 := Lib.hid (show Box V3 w4.heap.size S2 A3 by rw [hV]; exact Box.new w4 S2 A3 27)
  first | rw [← hV] | skip
  replace O1 := Lib.hid (O1.out.below hba)
  replace B1 := Lib.hid (B1.out.below hba)
  replace O3 := Lib.hid (O3.out.below hba)
  replace BB := Lib.hid (BB.out.trans (hba.mono BB.out.size))
  clear hV hba
  obtain ⟨_, p0, p1, p2, p3, p4, p5, _⟩ := B1.out
  have L4 := Lib.hid (lst8 [5, 0, 6, 0] V3 2)
  have hba := Lib.hid (fun o => (Below.refl V3.heap.size V3).alloc (Nat.le_refl _) o)
  go_wp2_with fail
  refine (l8Keys S1 A1 _ 4 [5, 0, 6, 0] _ (O1.out.below (hba.out _)) sh1.out L4.out (by decide)).mono ?_
  rintro e w5 ⟨rfl, hb⟩
  rw [Q1.out]
  replace BB := Lib.hid ((BB.out.trans ((hba.out _).mono BB.out.size)).trans (hb.mono (by have := BB.out.size; simp; omega)))
  replace B1 := Lib.hid ((B1.out.below (hba.out _)).below hb)
  replace B3 := Lib.hid ((B3.out.below (hba.out _)).below hb)
  replace O3 := Lib.hid ((O3.out.below (hba.out _)).below hb)
  clear hb hba L4 p0 p1 p2 p3 p4 p5
  obtain ⟨_, p0, p1, p2, p3, p4, p5, _⟩ := B1.out
  obtain ⟨_, r0, r1, r2, r3, r4, r5, _⟩ := B3.out
  rw [L1.out] at p5
  have L5 := Lib.hid (lst8 [9, 5, 6, 0] w5 2)
  have hba := Lib.hid (fun o => (Below.refl w5.heap.size w5).alloc (Nat.le_refl _) o)
  go_wp2_with fail
  refine (l8Keys S2 A3 _ 4 [9, 5, 6, 0] _ (O3.out.below (hba.out _)) sh2.out L5.out (by decide)).mono ?_
  rintro e w6 ⟨rfl, hb⟩
  rw [Q2.out]
  replace BB := Lib.hid ((BB.out.trans ((hba.out _).mono BB.out.size)).trans (hb.mono (by have := BB.out.size; simp; omega)))
  replace B3 := Lib.hid ((B3.out.below (hba.out _)).below hb)
  clear hb hba L5 p0 p1 p2 p3 p4 p5 r0 r1 r2 r3 r4 r5
  obtain ⟨_, r0, r1, r2, r3, r4, r5, _⟩ := B3.out
  rw [L2.out] at r5
  go_wp2
  go_ret
  exact ⟨rfl, BB.out⟩
end Go.Proofs.YtmmkaabefofdeaaDoor
