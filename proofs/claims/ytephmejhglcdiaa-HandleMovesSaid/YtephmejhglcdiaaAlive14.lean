/- What the law package of layer 14's alive returns: the chapter's examples. -/
import Derived.Test.YtephmejhglcdiaaLaw14
import Derived.Test.YtephmejhglcdiaaPlain14
namespace Go.Proofs.Ytephmejhglcdiaa
open Go.RowKit
set_option linter.unusedVariables false
set_option linter.unusedSimpArgs false

def al1 : Ht := Hn.makeV Ht.zero 3
def al0 : Int × Int := Hn.makeH Ht.zero 3
def al2 : Ht := Hn.dropV al1 al0
def al3 : Ht := Hn.makeV al2 5
def al4 : Int × Int := Hn.makeH al2 5
theorem alive14 : Hn.makeE Ht.zero 3 = 0 ∧ (al0.1 == 0) = true ∧ (al0.2 == 0) = true ∧ Hn.findE al1 al0 = 0 ∧ (decide (Hn.findE al1 al0 = 0) && decide (Hn.findV al1 al0 = 3)) = true ∧ decide (Hn.findE al2 al0 = 140) = true ∧ Hn.makeE al2 5 = 0 ∧ (al4.1 == 0) = true ∧ (al4.2 == 1) = true ∧ (decide (Hn.findE al3 al4 = 0) && decide (Hn.findV al3 al4 = 5)) = true ∧ decide (Hn.findE al3 al0 = 140) = true := by decide +kernel
set_option maxRecDepth 100000 in
set_option maxHeartbeats 16000000 in
theorem l14Alive (W : World) :
    Calls Try.prog 13 #[] W fun e w' => e = .returned (.bool true) ∧ Below W.heap.size W w' := by
  obtain ⟨f0, f1, f2, f3, f4, f5, f6, f7, f8, f9, f10⟩ := alive14
  have i3 : In64 3 := ⟨by omega, by omega⟩
  have i5 : In64 5 := ⟨by omega, by omega⟩
  have o1 : al1.Ok := ok_make Ht.Ok.zero i3
  have o2 : al2.Ok := ok_drop o1 _
  have o3 : al3.Ok := ok_make o2 i5
  have s1 : al1.Short := short_make _ _
  have s2 : al2.Short := short_drop _ s1 _
  have s3 : al3.Short := short_make _ _
  have x0 := hnd_64 Ht.zero Ht.Ok.zero 3
  have x4 := hnd_64 al2 o2 5
  have c1 := Lib.hid (fun V => hMake Ht.zero hNone 3 V (own_zero V 0).held Ht.Ok.zero Ht.Short.zero i3)
  have c2 := Lib.hid (fun A V (q : HHeld V al1 A) => hDrop al1 A al0 V q o1 s1 x0.1 x0.2)
  have c3 := Lib.hid (fun A V (q : HHeld V al2 A) => hMake al2 A 5 V q o2 s2 i5)
  have c4 := Lib.hid (fun A V (q : HHeld V al1 A) => l14At al1 A al0 3 V q o1 s1 x0.1 x0.2)
  have c5 := Lib.hid (fun A V (q : HHeld V al2 A) => l14Lost al2 A al0 V q o2 s2 x0.1 x0.2)
  have c6 := Lib.hid (fun A V (q : HHeld V al3 A) => l14At al3 A al4 5 V q o3 s3 x4.1 x4.2)
  have c7 := Lib.hid (fun A V (q : HHeld V al3 A) => l14Lost al3 A al0 V q o3 s3 x0.1 x0.2)
  rw [f0, show Hn.makeV Ht.zero 3 = al1 from rfl, show Hn.makeH Ht.zero 3 = al0 from rfl] at c1
  rw [f3, show Hn.dropV al1 al0 = al2 from rfl] at c2
  rw [f6, show Hn.makeV al2 5 = al3 from rfl, show Hn.makeH al2 5 = al4 from rfl] at c3
  rw [f4] at c4
  rw [f5] at c5
  rw [f9] at c6
  rw [f10] at c7
  clear f0 f3 f4 f5 f6 f9 f10 o1 o2 o3 s1 s2 s3 x0 x4 i3 i5
  obtain ⟨M1, h1⟩ : ∃ M, M = al1 := ⟨_, rfl⟩
  obtain ⟨M2, h2⟩ : ∃ M, M = al2 := ⟨_, rfl⟩
  obtain ⟨M3, h3⟩ : ∃ M, M = al3 := ⟨_, rfl⟩
  obtain ⟨X, h4⟩ : ∃ M, M = al0 := ⟨_, rfl⟩
  obtain ⟨Y, h5⟩ : ∃ M, M = al4 := ⟨_, rfl⟩
  rw [← h1, ← h4] at c1 c2 c4
  rw [← h2] at c2 c3 c5
  rw [← h3] at c3 c6 c7
  rw [← h4] at c5 c7 f1 f2
  rw [← h5] at c3 c6 f7 f8
  clear h1 h2 h3 h4 h5
  unfold hv at c1 c3
  unfold hv pv at c2 c4 c5 c6 c7
  dsimp only [Ht.zero, hNone, List.length_nil] at c1
  have BB := Lib.hid (Below.refl W.heap.size W)
  go_enter Try.func13, Try.ntmps13
  go_wp2_with fail
  refine (c1.out W).mono ?_
  rintro e x1 ⟨A1, rfl, own, hb⟩
  have zzx1 : W.heap.size ≤ x1.heap.size := hb.size
  replace BB := Lib.hid (BB.out.trans (hb.mono BB.out.size))
  have O1 := Lib.hid own
  clear own
  clear hb 
  have H1 := Lib.hid O1.out.held
  clear O1
  try unfold hv
  try unfold pv
  go_upto_region 2 with (fail)
  obtain ⟨V2, hV⟩ : ∃ V, V = ((x1).alloc (.cells #[.slice A1.g M1.gens.length A1.cg, .slice A1.a M1.ats.length A1.ca] 24)).alloc (.cells #[.int .i64 X.1, .int .i64 X.2] 26) := ⟨_, rfl⟩
  have hba : Below x1.heap.size x1 V2 := by rw [hV]; exact ((Below.refl _ _).alloc (Nat.le_refl _) _).alloc (by simp) _
  have zzV2 : x1.heap.size + 2 ≤ V2.heap.size := by rw [hV]; simp
  have B1 := Lib.hid (show HBox V2 (x1.heap.size) M1 A1 by rw [hV]; have := HBox.new (x1) M1 A1 24; (try (simp only [World.size_alloc] at this)); exact (this).below ((Below.refl _ _).alloc (Nat.le_refl _) _))
  have BX := Lib.hid (show PBox V2 (x1.heap.size + 1) X by rw [hV]; have := PBox.new ((x1).alloc (.cells #[.slice A1.g M1.gens.length A1.cg, .slice A1.a M1.ats.length A1.ca] 24)) X 26; (try (simp only [World.size_alloc] at this)); exact this)
  rw [← hV]
  replace H1 := Lib.hid (H1.out.below hba)
  replace BB := Lib.hid (BB.out.trans (hba.mono BB.out.size))
  clear hV hba
  obtain ⟨_, hB10, hB11, _, _⟩ := B1.out
  obtain ⟨_, hBX0, hBX1, _, _⟩ := BX.out
  try dsimp only at hB10 hB11 hBX0 hBX1
  go_wp2_with fail
  refine (c2.out A1 V2 H1.out).mono ?_
  rintro e x3 ⟨A2, rfl, own, hb⟩
  have zzx3 : V2.heap.size ≤ x3.heap.size := hb.size
  replace H1 := Lib.hid (H1.out.below hb)
  replace B1 := Lib.hid (B1.out.below hb)
  replace BX := Lib.hid (BX.out.below hb)
  replace BB := Lib.hid (BB.out.trans (hb.mono BB.out.size))
  have O2 := Lib.hid own
  clear own
  clear hb hB10 hB11 hBX0 hBX1
  have H2 := Lib.hid O2.out.held
  clear O2
  try unfold hv
  try unfold pv
  go_upto_region 3 with (fail)
  obtain ⟨V4, hV⟩ : ∃ V, V = (x3).alloc (.cells #[.slice A2.g M2.gens.length A2.cg, .slice A2.a M2.ats.length A2.ca] 24) := ⟨_, rfl⟩
  have hba : Below x3.heap.size x3 V4 := by rw [hV]; exact (Below.refl _ _).alloc (Nat.le_refl _) _
  have zzV4 : x3.heap.size + 1 ≤ V4.heap.size := by rw [hV]; simp
  have B2 := Lib.hid (show HBox V4 (x3.heap.size) M2 A2 by rw [hV]; have := HBox.new (x3) M2 A2 24; (try (simp only [World.size_alloc] at this)); exact this)
  rw [← hV]
  replace H1 := Lib.hid (H1.out.below hba)
  replace B1 := Lib.hid (B1.out.below hba)
  replace BX := Lib.hid (BX.out.below hba)
  replace H2 := Lib.hid (H2.out.below hba)
  replace BB := Lib.hid (BB.out.trans (hba.mono BB.out.size))
  clear hV hba
  obtain ⟨_, hB20, hB21, _, _⟩ := B2.out
  try dsimp only at hB20 hB21
  go_wp2_with fail
  refine (c3.out A2 V4 H2.out).mono ?_
  rintro e x5 ⟨A3, rfl, own, hb⟩
  have zzx5 : V4.heap.size ≤ x5.heap.size := hb.size
  replace H1 := Lib.hid (H1.out.below hb)
  replace B1 := Lib.hid (B1.out.below hb)
  replace BX := Lib.hid (BX.out.below hb)
  replace H2 := Lib.hid (H2.out.below hb)
  replace B2 := Lib.hid (B2.out.below hb)
  replace BB := Lib.hid (BB.out.trans (hb.mono BB.out.size))
  have O3 := Lib.hid own
  clear own
  clear hb hB20 hB21
  have H3 := Lib.hid O3.out.held
  clear O3
  try unfold hv
  try unfold pv
  go_upto_region 4 with (fail)
  obtain ⟨V6, hV⟩ : ∃ V, V = ((x5).alloc (.cells #[.slice A3.g M3.gens.length A3.cg, .slice A3.a M3.ats.length A3.ca] 24)).alloc (.cells #[.int .i64 Y.1, .int .i64 Y.2] 26) := ⟨_, rfl⟩
  have hba : Below x5.heap.size x5 V6 := by rw [hV]; exact ((Below.refl _ _).alloc (Nat.le_refl _) _).alloc (by simp) _
  have zzV6 : x5.heap.size + 2 ≤ V6.heap.size := by rw [hV]; simp
  have B3 := Lib.hid (show HBox V6 (x5.heap.size) M3 A3 by rw [hV]; have := HBox.new (x5) M3 A3 24; (try (simp only [World.size_alloc] at this)); exact (this).below ((Below.refl _ _).alloc (Nat.le_refl _) _))
  have BY := Lib.hid (show PBox V6 (x5.heap.size + 1) Y by rw [hV]; have := PBox.new ((x5).alloc (.cells #[.slice A3.g M3.gens.length A3.cg, .slice A3.a M3.ats.length A3.ca] 24)) Y 26; (try (simp only [World.size_alloc] at this)); exact this)
  rw [← hV]
  replace H1 := Lib.hid (H1.out.below hba)
  replace B1 := Lib.hid (B1.out.below hba)
  replace BX := Lib.hid (BX.out.below hba)
  replace H2 := Lib.hid (H2.out.below hba)
  replace B2 := Lib.hid (B2.out.below hba)
  replace H3 := Lib.hid (H3.out.below hba)
  replace BB := Lib.hid (BB.out.trans (hba.mono BB.out.size))
  clear hV hba
  obtain ⟨_, hB10, hB11, _, _⟩ := B1.out
  obtain ⟨_, hBX0, hBX1, _, _⟩ := BX.out
  try dsimp only at hB10 hB11 hBX0 hBX1
  go_wp2_with fail
  refine (c4.out A1 V6 H1.out).mono ?_
  rintro e x7 ⟨rfl, hb⟩
  have zzx7 : V6.heap.size ≤ x7.heap.size := hb.size
  replace H1 := Lib.hid (H1.out.below hb)
  replace B1 := Lib.hid (B1.out.below hb)
  replace BX := Lib.hid (BX.out.below hb)
  replace H2 := Lib.hid (H2.out.below hb)
  replace B2 := Lib.hid (B2.out.below hb)
  replace H3 := Lib.hid (H3.out.below hb)
  replace B3 := Lib.hid (B3.out.below hb)
  replace BY := Lib.hid (BY.out.below hb)
  replace BB := Lib.hid (BB.out.trans (hb.mono BB.out.size))
  clear hb hB10 hB11 hBX0 hBX1
  obtain ⟨_, hB20, hB21, _, _⟩ := B2.out
  obtain ⟨_, hBX0, hBX1, _, _⟩ := BX.out
  try dsimp only at hB20 hB21 hBX0 hBX1
  go_wp2_with fail
  refine (c5.out A2 x7 H2.out).mono ?_
  rintro e x8 ⟨rfl, hb⟩
  have zzx8 : x7.heap.size ≤ x8.heap.size := hb.size
  replace H1 := Lib.hid (H1.out.below hb)
  replace B1 := Lib.hid (B1.out.below hb)
  replace BX := Lib.hid (BX.out.below hb)
  replace H2 := Lib.hid (H2.out.below hb)
  replace B2 := Lib.hid (B2.out.below hb)
  replace H3 := Lib.hid (H3.out.below hb)
  replace B3 := Lib.hid (B3.out.below hb)
  replace BY := Lib.hid (BY.out.below hb)
  replace BB := Lib.hid (BB.out.trans (hb.mono BB.out.size))
  clear hb hB20 hB21 hBX0 hBX1
  obtain ⟨_, hB30, hB31, _, _⟩ := B3.out
  obtain ⟨_, hBY0, hBY1, _, _⟩ := BY.out
  try dsimp only at hB30 hB31 hBY0 hBY1
  go_wp2_with fail
  refine (c6.out A3 x8 H3.out).mono ?_
  rintro e x9 ⟨rfl, hb⟩
  have zzx9 : x8.heap.size ≤ x9.heap.size := hb.size
  replace H1 := Lib.hid (H1.out.below hb)
  replace B1 := Lib.hid (B1.out.below hb)
  replace BX := Lib.hid (BX.out.below hb)
  replace H2 := Lib.hid (H2.out.below hb)
  replace B2 := Lib.hid (B2.out.below hb)
  replace H3 := Lib.hid (H3.out.below hb)
  replace B3 := Lib.hid (B3.out.below hb)
  replace BY := Lib.hid (BY.out.below hb)
  replace BB := Lib.hid (BB.out.trans (hb.mono BB.out.size))
  clear hb hB30 hB31 hBY0 hBY1
  obtain ⟨_, hB30, hB31, _, _⟩ := B3.out
  obtain ⟨_, hBX0, hBX1, _, _⟩ := BX.out
  try dsimp only at hB30 hB31 hBX0 hBX1
  go_wp2_with fail
  refine (c7.out A3 x9 H3.out).mono ?_
  rintro e x10 ⟨rfl, hb⟩
  have zzx10 : x9.heap.size ≤ x10.heap.size := hb.size
  replace H1 := Lib.hid (H1.out.below hb)
  replace B1 := Lib.hid (B1.out.below hb)
  replace BX := Lib.hid (BX.out.below hb)
  replace H2 := Lib.hid (H2.out.below hb)
  replace B2 := Lib.hid (B2.out.below hb)
  replace H3 := Lib.hid (H3.out.below hb)
  replace B3 := Lib.hid (B3.out.below hb)
  replace BY := Lib.hid (BY.out.below hb)
  replace BB := Lib.hid (BB.out.trans (hb.mono BB.out.size))
  clear hb hB30 hB31 hBX0 hBX1
  go_wp2
  go_ret
  exact ⟨rfl, BB.out⟩
end Go.Proofs.Ytephmejhglcdiaa
