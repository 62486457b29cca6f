/- The walk of the law HandleNames: the limit's and errors' numbers, and more examples. -/
import Derived.Test.YtephmejhglcdiaaAlive14
namespace Go.Proofs.Ytephmejhglcdiaa.handleNames
open Go.RowKit
set_option linter.unusedVariables false
set_option linter.unusedSimpArgs false

def t0 : Ht := ⟨[2147483646, 2147483647, 4], [0, -1, -1]⟩
def m1 : Ht := Hn.makeV t0 7
def x1 : Int × Int := Hn.makeH t0 7
def m2 : Ht := Hn.dropV t0 (0, 2147483646)
def m3 : Ht := Hn.makeV m2 1
def x3 : Int × Int := Hn.makeH m2 1
def m4 : Ht := Hn.makeV m3 2
def x4 : Int × Int := Hn.makeH m3 2
def b1 : Ht := ⟨[2147483647], [0]⟩
def b2 : Ht := ⟨[0], []⟩
def b3 : Ht := ⟨[0], [-2]⟩
theorem facts1 : Hn.makeE t0 7 = 0 ∧ (x1.1 == 2) = true ∧ (x1.2 == 4) = true ∧ (decide (Hn.findE m1 x1 = 0) && decide (Hn.findV m1 x1 = 7)) = true ∧ Hn.findE t0 (0, 2147483646) = 0 ∧ Hn.makeE m2 1 = 0 ∧ (x3.1 == 2) = true ∧ Hn.makeE m3 2 = 0 ∧ (x4.1 == 3) = true ∧ (x4.2 == 0) = true ∧ (decide (Hn.findE m4 x4 = 0) && decide (Hn.findV m4 x4 = 2)) = true := by decide +kernel
theorem facts2 : Hn.makeE t0 (-1) = 2 ∧ Hn.setE t0 (0, 2147483646) (-1) = 2 ∧ Hn.chkE b1 = 8 ∧ Hn.chkE b2 = 8 ∧ Hn.chkE b3 = 8 ∧ decide (Hn.findE t0 (-1, 0) = 140) = true ∧ decide (Hn.findE t0 (3, 0) = 140) = true ∧ decide (Hn.findE t0 (2, 4) = 140) = true := by decide +kernel
theorem in_64 {z : Int} (h : -9223372036854775808 ≤ z ∧ z ≤ 9223372036854775807) : In64 z := h
theorem all_of {zs : List Int} (h : ∀ z ∈ zs, In64 z) : All64 zs := by
  intro i
  simp only [List.getD]
  cases e : zs[i]? with
  | none => exact ⟨by simp, by simp⟩
  | some z => exact h z (List.mem_of_getElem? e)
theorem ok0 : t0.Ok := ⟨all_of (by intro z hz; simp [t0] at hz; rcases hz with rfl | rfl | rfl <;> exact ⟨by omega, by omega⟩), all_of (by intro z hz; simp [t0] at hz; rcases hz with rfl | rfl <;> exact ⟨by omega, by omega⟩)⟩
theorem okb1 : b1.Ok := ⟨all_of (by intro z hz; simp [b1] at hz; subst hz; exact ⟨by omega, by omega⟩), all_of (by intro z hz; simp [b1] at hz; subst hz; exact ⟨by omega, by omega⟩)⟩
theorem okb2 : b2.Ok := ⟨all_of (by intro z hz; simp [b2] at hz; subst hz; exact ⟨by omega, by omega⟩), all_of (by intro z hz; simp [b2] at hz)⟩
theorem okb3 : b3.Ok := ⟨all_of (by intro z hz; simp [b3] at hz; subst hz; exact ⟨by omega, by omega⟩), all_of (by intro z hz; simp [b3] at hz; subst hz; exact ⟨by omega, by omega⟩)⟩
theorem short0 : t0.Short := ⟨by decide, by decide⟩
theorem shortb1 : b1.Short := ⟨by decide, by decide⟩
theorem shortb2 : b2.Short := ⟨by decide, by decide⟩
theorem shortb3 : b3.Short := ⟨by decide, by decide⟩
/-- A row that was just laid. -/
theorem lst_new (V : World) (zs : List Int) (T : TypeId) : Lst .i64 (V.alloc (.cells (zs.map (Value.int .i64)).toArray T)) (some ⟨V.heap.size, 0, none⟩) zs := by
  refine Or.inr ⟨V.heap.size, 0, rfl, by simp, fun i hi => ?_⟩
  have hh : (V.alloc (.cells (zs.map (Value.int .i64)).toArray T)).heap[V.heap.size]? = some (.cells (zs.map (Value.int .i64)).toArray T) := by show (V.heap.push _)[V.heap.size]? = _; exact Array.getElem?_push_size
  unfold World.cell?
  rw [hh]
  simp [List.getD, hi]
theorem held_new (V : World) (gs zs : List Int) (T : TypeId) : HHeld ((V.alloc (.cells (gs.map (Value.int .i64)).toArray T)).alloc (.cells (zs.map (Value.int .i64)).toArray T)) ⟨gs, zs⟩ ⟨some ⟨V.heap.size, 0, none⟩, some ⟨V.heap.size + 1, 0, none⟩, gs.length, zs.length⟩ := by
  refine ⟨(lst_new V gs T).below ((Below.refl _ _).alloc (Nat.le_refl _) _), ?_, ⟨fun e => (by cases e), fun e => (by cases e), Nat.le_refl _, Nat.le_refl _⟩⟩
  have := lst_new (V.alloc (.cells (gs.map (Value.int .i64)).toArray T)) zs T
  rw [World.size_alloc] at this
  exact this
theorem held_bare (V : World) (gs : List Int) (T : TypeId) : HHeld (V.alloc (.cells (gs.map (Value.int .i64)).toArray T)) ⟨gs, []⟩ ⟨some ⟨V.heap.size, 0, none⟩, none, gs.length, 0⟩ :=
  ⟨lst_new V gs T, Or.inl rfl, ⟨fun e => (by cases e), fun _ => ⟨rfl, rfl⟩, Nat.le_refl _, Nat.le_refl _⟩⟩
set_option maxRecDepth 100000 in
set_option maxHeartbeats 32000000 in
theorem walk (W : World) :
    Calls Try.prog 3 #[] W fun e w' => e = .returned (.bool true) ∧ Below W.heap.size W w' := by
  obtain ⟨f0, f1, f2, f3, f4, f5, f6, f7, f8, f9, f10⟩ := facts1
  obtain ⟨p0, p1, p2, p3, p4, p5, p6, p7⟩ := facts2
  have i7 : In64 7 := ⟨by omega, by omega⟩
  have i1 : In64 1 := ⟨by omega, by omega⟩
  have i2 : In64 2 := ⟨by omega, by omega⟩
  have iN : In64 (-1) := ⟨by omega, by omega⟩
  have ib : In64 2147483646 := ⟨by omega, by omega⟩
  have i0 : In64 0 := ⟨by omega, by omega⟩
  have i3 : In64 3 := ⟨by omega, by omega⟩
  have i4 : In64 4 := ⟨by omega, by omega⟩
  have o1 : m1.Ok := ok_make ok0 i7
  have o2 : m2.Ok := ok_drop ok0 _
  have o3 : m3.Ok := ok_make o2 i1
  have o4 : m4.Ok := ok_make o3 i2
  have s1 : m1.Short := short_make _ _
  have s2 : m2.Short := short_drop _ short0 _
  have s3 : m3.Short := short_make _ _
  have s4 : m4.Short := short_make _ _
  have y1 := hnd_64 t0 ok0 7
  have y4 := hnd_64 m3 o3 2
  have c1 := Lib.hid (fun A V (q : HHeld V t0 A) => hMake t0 A 7 V q ok0 short0 i7)
  have c2 := Lib.hid (fun A V (q : HHeld V t0 A) => hDrop t0 A (0, 2147483646) V q ok0 short0 i0 ib)
  have c3 := Lib.hid (fun A V (q : HHeld V m2 A) => hMake m2 A 1 V q o2 s2 i1)
  have c4 := Lib.hid (fun A V (q : HHeld V m3 A) => hMake m3 A 2 V q o3 s3 i2)
  have c5 := Lib.hid (fun A V (q : HHeld V t0 A) => hMake t0 A (-1) V q ok0 short0 iN)
  have c6 := Lib.hid (fun A V (q : HHeld V t0 A) => hSet t0 A (0, 2147483646) (-1) V q ok0 short0 i0 ib iN)
  have c7 := Lib.hid (fun V => hCheck b1 _ _ (held_new V [2147483647] [0] 3) okb1 shortb1)
  have c8 := Lib.hid (fun V => hCheck b2 _ _ (held_bare V [0] 3) okb2 shortb2)
  have c9 := Lib.hid (fun V => hCheck b3 _ _ (held_new V [0] [-2] 3) okb3 shortb3)
  have d0 := Lib.hid (fun V => l14Alive V)
  have d1 := Lib.hid (fun A V (q : HHeld V m1 A) => l14At m1 A x1 7 V q o1 s1 y1.1 y1.2)
  have d2 := Lib.hid (fun A V (q : HHeld V m4 A) => l14At m4 A x4 2 V q o4 s4 y4.1 y4.2)
  have d3 := Lib.hid (fun A V (q : HHeld V t0 A) => l14Lost t0 A (-1, 0) V q ok0 short0 iN i0)
  have d4 := Lib.hid (fun A V (q : HHeld V t0 A) => l14Lost t0 A (3, 0) V q ok0 short0 i3 i0)
  have d5 := Lib.hid (fun A V (q : HHeld V t0 A) => l14Lost t0 A (2, 4) V q ok0 short0 i2 i4)
  rw [f0, show Hn.makeV t0 7 = m1 from rfl, show Hn.makeH t0 7 = x1 from rfl] at c1
  rw [f4, show Hn.dropV t0 (0, 2147483646) = m2 from rfl] at c2
  rw [f5, show Hn.makeV m2 1 = m3 from rfl, show Hn.makeH m2 1 = x3 from rfl] at c3
  rw [f7, show Hn.makeV m3 2 = m4 from rfl, show Hn.makeH m3 2 = x4 from rfl] at c4
  rw [p0] at c5
  rw [p1] at c6
  rw [p2] at c7
  rw [p3] at c8
  rw [p4] at c9
  rw [f3] at d1
  rw [f10] at d2
  rw [p5] at d3
  rw [p6] at d4
  rw [p7] at d5
  clear f0 f3 f4 f5 f7 f10 p0 p1 p2 p3 p4 p5 p6 p7 o1 o2 o3 o4 s1 s2 s3 s4 y1 y4 i7 i1 i2 iN ib i0 i3 i4
  obtain ⟨M1, h1⟩ : ∃ M, M = m1 := ⟨_, rfl⟩
  obtain ⟨X1, h2⟩ : ∃ M, M = x1 := ⟨_, rfl⟩
  obtain ⟨M2, h3⟩ : ∃ M, M = m2 := ⟨_, rfl⟩
  obtain ⟨M3, h4⟩ : ∃ M, M = m3 := ⟨_, rfl⟩
  obtain ⟨X3, h5⟩ : ∃ M, M = x3 := ⟨_, rfl⟩
  obtain ⟨M4, h6⟩ : ∃ M, M = m4 := ⟨_, rfl⟩
  obtain ⟨X4, h7⟩ : ∃ M, M = x4 := ⟨_, rfl⟩
  rw [← h1, ← h2] at c1 d1
  rw [← h2] at f1 f2
  rw [← h3] at c2 c3
  rw [← h4, ← h5] at c3
  rw [← h5] at f6
  rw [← h4, ← h6, ← h7] at c4
  rw [← h6, ← h7] at d2
  rw [← h7] at f8 f9
  clear h1 h2 h3 h4 h5 h6 h7
  obtain ⟨Z, hZ⟩ : ∃ Z, Z = Hn.makeV t0 (-1) := ⟨_, rfl⟩
  obtain ⟨ZX, hX⟩ : ∃ Z, Z = Hn.makeH t0 (-1) := ⟨_, rfl⟩
  obtain ⟨ZS, hS⟩ : ∃ Z, Z = Hn.setV t0 (0, 2147483646) (-1) := ⟨_, rfl⟩
  rw [← hZ, ← hX] at c5
  rw [← hS] at c6
  clear hZ hX hS
  obtain ⟨T0, hT0⟩ : ∃ T, T = t0 := ⟨_, rfl⟩
  have HT := Lib.hid (show T0.gens.length = 3 ∧ T0.ats.length = 3 by rw [hT0]; exact ⟨rfl, rfl⟩)
  have HD := Lib.hid (show ∀ V : World, HHeld ((V.alloc (.cells #[.int .i64 2147483646, .int .i64 2147483647, .int .i64 4] 3)).alloc (.cells #[.int .i64 0, .int .i64 (-1), .int .i64 (-1)] 3)) T0 ⟨some ⟨V.heap.size, 0, none⟩, some ⟨V.heap.size + 1, 0, none⟩, 3, 3⟩ from fun V => by rw [hT0]; exact held_new V [2147483646, 2147483647, 4] [0, -1, -1] 3)
  rw [← hT0] at c1 c2 c5 c6 d3 d4 d5
  clear hT0
  unfold hv at c1 c3 c4 c5 c7 c8 c9
  unfold hv pv at c2 c6 d1 d2 d3 d4 d5
  dsimp only at c2 c6 d3 d4 d5
  dsimp only [b1, b2, b3, List.length_cons, List.length_nil, List.map_cons, List.map_nil] at c7 c8 c9
  have BB := Lib.hid (Below.refl W.heap.size W)
  go_enter Try.func3, Try.ntmps3
  go_upto_region 2 with (fail)
  obtain ⟨W0, hW0⟩ : ∃ V, V = (((W.alloc (.cells #[.int .i64 2147483646, .int .i64 2147483647, .int .i64 4] 3)).alloc (.cells #[.int .i64 0, .int .i64 (-1), .int .i64 (-1)] 3)).alloc (.cells #[.slice (some ⟨W.heap.size, 0, none⟩) 3 3, .slice (some ⟨W.heap.size + 1, 0, none⟩) 3 3] 24)) := ⟨_, rfl⟩
  have hb : Below W.heap.size W W0 := by rw [hW0]; exact (((Below.refl _ _).alloc (Nat.le_refl _) _).alloc (by simp) _).alloc (by simp; omega) _
  have H0 := Lib.hid (show HHeld W0 T0 ⟨some ⟨W.heap.size, 0, none⟩, some ⟨W.heap.size + 1, 0, none⟩, 3, 3⟩ by rw [hW0]; exact (HD.out W).below ((Below.refl _ _).alloc (Nat.le_refl _) _))
  have B0 := Lib.hid (show HBox W0 (W.heap.size + 1 + 1) T0 ⟨some ⟨W.heap.size, 0, none⟩, some ⟨W.heap.size + 1, 0, none⟩, 3, 3⟩ by
    have := HBox.new ((W.alloc (.cells #[.int .i64 2147483646, .int .i64 2147483647, .int .i64 4] 3)).alloc (.cells #[.int .i64 0, .int .i64 (-1), .int .i64 (-1)] 3)) T0 ⟨some ⟨W.heap.size, 0, none⟩, some ⟨W.heap.size + 1, 0, none⟩, 3, 3⟩ 24
    unfold hCells at this
    dsimp only at this
    rw [World.size_alloc, World.size_alloc, HT.out.1, HT.out.2] at this
    rw [hW0]
    exact this)
  obtain ⟨A0, hA0⟩ : ∃ A : HAds, A = ⟨some ⟨W.heap.size, 0, none⟩, some ⟨W.heap.size + 1, 0, none⟩, 3, 3⟩ := ⟨_, rfl⟩
  rw [← hA0] at H0 B0
  replace BB := Lib.hid hb
  rw [← hW0]
  clear hb hW0 hA0 HT HD
  obtain ⟨_, hB00, hB01, _, _⟩ := B0.out
  try dsimp only at hB00 hB01
  go_wp2_with fail
  refine (c1.out A0 W0 H0.out).mono ?_
  rintro e x1 ⟨A1, rfl, own, hb⟩
  have zzx1 : W0.heap.size ≤ x1.heap.size := hb.size
  replace H0 := Lib.hid (H0.out.below hb)
  replace B0 := Lib.hid (B0.out.below hb)
  replace BB := Lib.hid (BB.out.trans (hb.mono BB.out.size))
  have Oa := Lib.hid own
  clear own
  clear hb hB00 hB01
  have Ha := Lib.hid Oa.out.held
  clear Oa
  try unfold hv
  try unfold pv
  go_upto_region 3 with (fail)
  obtain ⟨V2, hV⟩ : ∃ V, V = ((x1).alloc (.cells #[.slice A1.g M1.gens.length A1.cg, .slice A1.a M1.ats.length A1.ca] 24)).alloc (.cells #[.int .i64 X1.1, .int .i64 X1.2] 26) := ⟨_, rfl⟩
  have hba : Below x1.heap.size x1 V2 := by rw [hV]; exact ((Below.refl _ _).alloc (Nat.le_refl _) _).alloc (by simp) _
  have zzV2 : x1.heap.size + 2 ≤ V2.heap.size := by rw [hV]; simp
  have B1 := Lib.hid (show HBox V2 (x1.heap.size) M1 A1 by rw [hV]; have := HBox.new (x1) M1 A1 24; (try (simp only [World.size_alloc] at this)); exact (this).below ((Below.refl _ _).alloc (Nat.le_refl _) _))
  have BX1 := Lib.hid (show PBox V2 (x1.heap.size + 1) X1 by rw [hV]; have := PBox.new ((x1).alloc (.cells #[.slice A1.g M1.gens.length A1.cg, .slice A1.a M1.ats.length A1.ca] 24)) X1 26; (try (simp only [World.size_alloc] at this)); exact this)
  rw [← hV]
  replace H0 := Lib.hid (H0.out.below hba)
  replace B0 := Lib.hid (B0.out.below hba)
  replace Ha := Lib.hid (Ha.out.below hba)
  replace BB := Lib.hid (BB.out.trans (hba.mono BB.out.size))
  clear hV hba
  obtain ⟨_, hB00, hB01, _, _⟩ := B0.out
  try dsimp only at hB00 hB01
  go_wp2_with fail
  refine (c2.out A0 V2 H0.out).mono ?_
  rintro e x3 ⟨A2, rfl, own, hb⟩
  have zzx3 : V2.heap.size ≤ x3.heap.size := hb.size
  replace H0 := Lib.hid (H0.out.below hb)
  replace B0 := Lib.hid (B0.out.below hb)
  replace Ha := Lib.hid (Ha.out.below hb)
  replace B1 := Lib.hid (B1.out.below hb)
  replace BX1 := Lib.hid (BX1.out.below hb)
  replace BB := Lib.hid (BB.out.trans (hb.mono BB.out.size))
  have Ob := Lib.hid own
  clear own
  clear hb hB00 hB01
  have Hb := Lib.hid Ob.out.held
  clear Ob
  try unfold hv
  try unfold pv
  go_upto_region 4 with (fail)
  obtain ⟨V4, hV⟩ : ∃ V, V = (x3).alloc (.cells #[.slice A2.g M2.gens.length A2.cg, .slice A2.a M2.ats.length A2.ca] 24) := ⟨_, rfl⟩
  have hba : Below x3.heap.size x3 V4 := by rw [hV]; exact (Below.refl _ _).alloc (Nat.le_refl _) _
  have zzV4 : x3.heap.size + 1 ≤ V4.heap.size := by rw [hV]; simp
  have B2 := Lib.hid (show HBox V4 (x3.heap.size) M2 A2 by rw [hV]; have := HBox.new (x3) M2 A2 24; (try (simp only [World.size_alloc] at this)); exact this)
  rw [← hV]
  replace H0 := Lib.hid (H0.out.below hba)
  replace B0 := Lib.hid (B0.out.below hba)
  replace Ha := Lib.hid (Ha.out.below hba)
  replace B1 := Lib.hid (B1.out.below hba)
  replace BX1 := Lib.hid (BX1.out.below hba)
  replace Hb := Lib.hid (Hb.out.below hba)
  replace BB := Lib.hid (BB.out.trans (hba.mono BB.out.size))
  clear hV hba
  obtain ⟨_, hB20, hB21, _, _⟩ := B2.out
  try dsimp only at hB20 hB21
  go_wp2_with fail
  refine (c3.out A2 V4 Hb.out).mono ?_
  rintro e x5 ⟨A3, rfl, own, hb⟩
  have zzx5 : V4.heap.size ≤ x5.heap.size := hb.size
  replace H0 := Lib.hid (H0.out.below hb)
  replace B0 := Lib.hid (B0.out.below hb)
  replace Ha := Lib.hid (Ha.out.below hb)
  replace B1 := Lib.hid (B1.out.below hb)
  replace BX1 := Lib.hid (BX1.out.below hb)
  replace Hb := Lib.hid (Hb.out.below hb)
  replace B2 := Lib.hid (B2.out.below hb)
  replace BB := Lib.hid (BB.out.trans (hb.mono BB.out.size))
  have Oc := Lib.hid own
  clear own
  clear hb hB20 hB21
  have Hc := Lib.hid Oc.out.held
  clear Oc
  try unfold hv
  try unfold pv
  go_upto_region 5 with (fail)
  obtain ⟨V6, hV⟩ : ∃ V, V = ((x5).alloc (.cells #[.slice A3.g M3.gens.length A3.cg, .slice A3.a M3.ats.length A3.ca] 24)).alloc (.cells #[.int .i64 X3.1, .int .i64 X3.2] 26) := ⟨_, rfl⟩
  have hba : Below x5.heap.size x5 V6 := by rw [hV]; exact ((Below.refl _ _).alloc (Nat.le_refl _) _).alloc (by simp) _
  have zzV6 : x5.heap.size + 2 ≤ V6.heap.size := by rw [hV]; simp
  have B3 := Lib.hid (show HBox V6 (x5.heap.size) M3 A3 by rw [hV]; have := HBox.new (x5) M3 A3 24; (try (simp only [World.size_alloc] at this)); exact (this).below ((Below.refl _ _).alloc (Nat.le_refl _) _))
  have BX3 := Lib.hid (show PBox V6 (x5.heap.size + 1) X3 by rw [hV]; have := PBox.new ((x5).alloc (.cells #[.slice A3.g M3.gens.length A3.cg, .slice A3.a M3.ats.length A3.ca] 24)) X3 26; (try (simp only [World.size_alloc] at this)); exact this)
  rw [← hV]
  replace H0 := Lib.hid (H0.out.below hba)
  replace B0 := Lib.hid (B0.out.below hba)
  replace Ha := Lib.hid (Ha.out.below hba)
  replace B1 := Lib.hid (B1.out.below hba)
  replace BX1 := Lib.hid (BX1.out.below hba)
  replace Hb := Lib.hid (Hb.out.below hba)
  replace B2 := Lib.hid (B2.out.below hba)
  replace Hc := Lib.hid (Hc.out.below hba)
  replace BB := Lib.hid (BB.out.trans (hba.mono BB.out.size))
  clear hV hba
  obtain ⟨_, hB30, hB31, _, _⟩ := B3.out
  try dsimp only at hB30 hB31
  go_wp2_with fail
  refine (c4.out A3 V6 Hc.out).mono ?_
  rintro e x7 ⟨A4, rfl, own, hb⟩
  have zzx7 : V6.heap.size ≤ x7.heap.size := hb.size
  replace H0 := Lib.hid (H0.out.below hb)
  replace B0 := Lib.hid (B0.out.below hb)
  replace Ha := Lib.hid (Ha.out.below hb)
  replace B1 := Lib.hid (B1.out.below hb)
  replace BX1 := Lib.hid (BX1.out.below hb)
  replace Hb := Lib.hid (Hb.out.below hb)
  replace B2 := Lib.hid (B2.out.below hb)
  replace Hc := Lib.hid (Hc.out.below hb)
  replace B3 := Lib.hid (B3.out.below hb)
  replace BX3 := Lib.hid (BX3.out.below hb)
  replace BB := Lib.hid (BB.out.trans (hb.mono BB.out.size))
  have Od := Lib.hid own
  clear own
  clear hb hB30 hB31
  have Hd := Lib.hid Od.out.held
  clear Od
  try unfold hv
  try unfold pv
  go_upto_region 6 with (fail)
  obtain ⟨V8, hV⟩ : ∃ V, V = ((x7).alloc (.cells #[.slice A4.g M4.gens.length A4.cg, .slice A4.a M4.ats.length A4.ca] 24)).alloc (.cells #[.int .i64 X4.1, .int .i64 X4.2] 26) := ⟨_, rfl⟩
  have hba : Below x7.heap.size x7 V8 := by rw [hV]; exact ((Below.refl _ _).alloc (Nat.le_refl _) _).alloc (by simp) _
  have zzV8 : x7.heap.size + 2 ≤ V8.heap.size := by rw [hV]; simp
  have B4 := Lib.hid (show HBox V8 (x7.heap.size) M4 A4 by rw [hV]; have := HBox.new (x7) M4 A4 24; (try (simp only [World.size_alloc] at this)); exact (this).below ((Below.refl _ _).alloc (Nat.le_refl _) _))
  have BX4 := Lib.hid (show PBox V8 (x7.heap.size + 1) X4 by rw [hV]; have := PBox.new ((x7).alloc (.cells #[.slice A4.g M4.gens.length A4.cg, .slice A4.a M4.ats.length A4.ca] 24)) X4 26; (try (simp only [World.size_alloc] at this)); exact this)
  rw [← hV]
  replace H0 := Lib.hid (H0.out.below hba)
  replace B0 := Lib.hid (B0.out.below hba)
  replace Ha := Lib.hid (Ha.out.below hba)
  replace B1 := Lib.hid (B1.out.below hba)
  replace BX1 := Lib.hid (BX1.out.below hba)
  replace Hb := Lib.hid (Hb.out.below hba)
  replace B2 := Lib.hid (B2.out.below hba)
  replace Hc := Lib.hid (Hc.out.below hba)
  replace B3 := Lib.hid (B3.out.below hba)
  replace BX3 := Lib.hid (BX3.out.below hba)
  replace Hd := Lib.hid (Hd.out.below hba)
  replace BB := Lib.hid (BB.out.trans (hba.mono BB.out.size))
  clear hV hba
  obtain ⟨_, hB00, hB01, _, _⟩ := B0.out
  try dsimp only at hB00 hB01
  go_wp2_with fail
  refine (c5.out A0 V8 H0.out).mono ?_
  rintro e x9 ⟨A5, rfl, own, hb⟩
  have zzx9 : V8.heap.size ≤ x9.heap.size := hb.size
  replace H0 := Lib.hid (H0.out.below hb)
  replace B0 := Lib.hid (B0.out.below hb)
  replace Ha := Lib.hid (Ha.out.below hb)
  replace B1 := Lib.hid (B1.out.below hb)
  replace BX1 := Lib.hid (BX1.out.below hb)
  replace Hb := Lib.hid (Hb.out.below hb)
  replace B2 := Lib.hid (B2.out.below hb)
  replace Hc := Lib.hid (Hc.out.below hb)
  replace B3 := Lib.hid (B3.out.below hb)
  replace BX3 := Lib.hid (BX3.out.below hb)
  replace Hd := Lib.hid (Hd.out.below hb)
  replace B4 := Lib.hid (B4.out.below hb)
  replace BX4 := Lib.hid (BX4.out.below hb)
  replace BB := Lib.hid (BB.out.trans (hb.mono BB.out.size))
  have Oe := Lib.hid own
  clear own
  clear hb hB00 hB01
  have He := Lib.hid Oe.out.held
  clear Oe
  try unfold hv
  try unfold pv
  go_upto_region 7 with (fail)
  obtain ⟨V10, hV⟩ : ∃ V, V = ((x9).alloc (.cells #[.slice A5.g Z.gens.length A5.cg, .slice A5.a Z.ats.length A5.ca] 24)).alloc (.cells #[.int .i64 ZX.1, .int .i64 ZX.2] 26) := ⟨_, rfl⟩
  have hba : Below x9.heap.size x9 V10 := by rw [hV]; exact ((Below.refl _ _).alloc (Nat.le_refl _) _).alloc (by simp) _
  have zzV10 : x9.heap.size + 2 ≤ V10.heap.size := by rw [hV]; simp
  have B5 := Lib.hid (show HBox V10 (x9.heap.size) Z A5 by rw [hV]; have := HBox.new (x9) Z A5 24; (try (simp only [World.size_alloc] at this)); exact (this).below ((Below.refl _ _).alloc (Nat.le_refl _) _))
  have BX5 := Lib.hid (show PBox V10 (x9.heap.size + 1) ZX by rw [hV]; have := PBox.new ((x9).alloc (.cells #[.slice A5.g Z.gens.length A5.cg, .slice A5.a Z.ats.length A5.ca] 24)) ZX 26; (try (simp only [World.size_alloc] at this)); exact this)
  rw [← hV]
  replace H0 := Lib.hid (H0.out.below hba)
  replace B0 := Lib.hid (B0.out.below hba)
  replace Ha := Lib.hid (Ha.out.below hba)
  replace B1 := Lib.hid (B1.out.below hba)
  replace BX1 := Lib.hid (BX1.out.below hba)
  replace Hb := Lib.hid (Hb.out.below hba)
  replace B2 := Lib.hid (B2.out.below hba)
  replace Hc := Lib.hid (Hc.out.below hba)
  replace B3 := Lib.hid (B3.out.below hba)
  replace BX3 := Lib.hid (BX3.out.below hba)
  replace Hd := Lib.hid (Hd.out.below hba)
  replace B4 := Lib.hid (B4.out.below hba)
  replace BX4 := Lib.hid (BX4.out.below hba)
  replace He := Lib.hid (He.out.below hba)
  replace BB := Lib.hid (BB.out.trans (hba.mono BB.out.size))
  clear hV hba
  obtain ⟨_, hB00, hB01, _, _⟩ := B0.out
  try dsimp only at hB00 hB01
  go_wp2_with fail
  refine (c6.out A0 V10 H0.out).mono ?_
  rintro e x11 ⟨A6, rfl, own, hb⟩
  have zzx11 : V10.heap.size ≤ x11.heap.size := hb.size
  replace H0 := Lib.hid (H0.out.below hb)
  replace B0 := Lib.hid (B0.out.below hb)
  replace Ha := Lib.hid (Ha.out.below hb)
  replace B1 := Lib.hid (B1.out.below hb)
  replace BX1 := Lib.hid (BX1.out.below hb)
  replace Hb := Lib.hid (Hb.out.below hb)
  replace B2 := Lib.hid (B2.out.below hb)
  replace Hc := Lib.hid (Hc.out.below hb)
  replace B3 := Lib.hid (B3.out.below hb)
  replace BX3 := Lib.hid (BX3.out.below hb)
  replace Hd := Lib.hid (Hd.out.below hb)
  replace B4 := Lib.hid (B4.out.below hb)
  replace BX4 := Lib.hid (BX4.out.below hb)
  replace He := Lib.hid (He.out.below hb)
  replace B5 := Lib.hid (B5.out.below hb)
  replace BX5 := Lib.hid (BX5.out.below hb)
  replace BB := Lib.hid (BB.out.trans (hb.mono BB.out.size))
  have Of := Lib.hid own
  clear own
  clear hb hB00 hB01
  have Hf := Lib.hid Of.out.held
  clear Of
  try unfold hv
  try unfold pv
  go_upto_region 8 with (fail)
  obtain ⟨V12, hV⟩ : ∃ V, V = (x11).alloc (.cells #[.slice A6.g ZS.gens.length A6.cg, .slice A6.a ZS.ats.length A6.ca] 24) := ⟨_, rfl⟩
  have hba : Below x11.heap.size x11 V12 := by rw [hV]; exact (Below.refl _ _).alloc (Nat.le_refl _) _
  have zzV12 : x11.heap.size + 1 ≤ V12.heap.size := by rw [hV]; simp
  have B6 := Lib.hid (show HBox V12 (x11.heap.size) ZS A6 by rw [hV]; have := HBox.new (x11) ZS A6 24; (try (simp only [World.size_alloc] at this)); exact this)
  rw [← hV]
  replace H0 := Lib.hid (H0.out.below hba)
  replace B0 := Lib.hid (B0.out.below hba)
  replace Ha := Lib.hid (Ha.out.below hba)
  replace B1 := Lib.hid (B1.out.below hba)
  replace BX1 := Lib.hid (BX1.out.below hba)
  replace Hb := Lib.hid (Hb.out.below hba)
  replace B2 := Lib.hid (B2.out.below hba)
  replace Hc := Lib.hid (Hc.out.below hba)
  replace B3 := Lib.hid (B3.out.below hba)
  replace BX3 := Lib.hid (BX3.out.below hba)
  replace Hd := Lib.hid (Hd.out.below hba)
  replace B4 := Lib.hid (B4.out.below hba)
  replace BX4 := Lib.hid (BX4.out.below hba)
  replace He := Lib.hid (He.out.below hba)
  replace B5 := Lib.hid (B5.out.below hba)
  replace BX5 := Lib.hid (BX5.out.below hba)
  replace Hf := Lib.hid (Hf.out.below hba)
  replace BB := Lib.hid (BB.out.trans (hba.mono BB.out.size))
  clear hV hba
  clear He Hf B5 BX5 B6
  go_wp2_with fail
  refine (c7.out V12).mono ?_
  rintro e x13 ⟨rfl, hb0⟩
  have hb : Below V12.heap.size V12 x13 := (show Below V12.heap.size V12 (((V12).alloc (.cells #[.int .i64 2147483647] 3)).alloc (.cells #[.int .i64 0] 3)) from ((Below.refl _ _).alloc (Nat.le_refl _) _).alloc (by simp) _).trans (hb0.mono (by simp; try omega))
  clear hb0
  replace H0 := Lib.hid (H0.out.below hb)
  replace B0 := Lib.hid (B0.out.below hb)
  replace Ha := Lib.hid (Ha.out.below hb)
  replace B1 := Lib.hid (B1.out.below hb)
  replace BX1 := Lib.hid (BX1.out.below hb)
  replace Hb := Lib.hid (Hb.out.below hb)
  replace B2 := Lib.hid (B2.out.below hb)
  replace Hc := Lib.hid (Hc.out.below hb)
  replace B3 := Lib.hid (B3.out.below hb)
  replace BX3 := Lib.hid (BX3.out.below hb)
  replace Hd := Lib.hid (Hd.out.below hb)
  replace B4 := Lib.hid (B4.out.below hb)
  replace BX4 := Lib.hid (BX4.out.below hb)
  replace BB := Lib.hid (BB.out.trans (hb.mono BB.out.size))
  clear hb
  go_wp2_with fail
  refine (c8.out x13).mono ?_
  rintro e x14 ⟨rfl, hb0⟩
  have hb : Below x13.heap.size x13 x14 := (show Below x13.heap.size x13 ((x13).alloc (.cells #[.int .i64 0] 3)) from (Below.refl _ _).alloc (Nat.le_refl _) _).trans (hb0.mono (by simp; try omega))
  clear hb0
  replace H0 := Lib.hid (H0.out.below hb)
  replace B0 := Lib.hid (B0.out.below hb)
  replace Ha := Lib.hid (Ha.out.below hb)
  replace B1 := Lib.hid (B1.out.below hb)
  replace BX1 := Lib.hid (BX1.out.below hb)
  replace Hb := Lib.hid (Hb.out.below hb)
  replace B2 := Lib.hid (B2.out.below hb)
  replace Hc := Lib.hid (Hc.out.below hb)
  replace B3 := Lib.hid (B3.out.below hb)
  replace BX3 := Lib.hid (BX3.out.below hb)
  replace Hd := Lib.hid (Hd.out.below hb)
  replace B4 := Lib.hid (B4.out.below hb)
  replace BX4 := Lib.hid (BX4.out.below hb)
  replace BB := Lib.hid (BB.out.trans (hb.mono BB.out.size))
  clear hb
  go_wp2_with fail
  refine (c9.out x14).mono ?_
  rintro e x15 ⟨rfl, hb0⟩
  have hb : Below x14.heap.size x14 x15 := (show Below x14.heap.size x14 (((x14).alloc (.cells #[.int .i64 0] 3)).alloc (.cells #[.int .i64 (-2)] 3)) from ((Below.refl _ _).alloc (Nat.le_refl _) _).alloc (by simp) _).trans (hb0.mono (by simp; try omega))
  clear hb0
  replace H0 := Lib.hid (H0.out.below hb)
  replace B0 := Lib.hid (B0.out.below hb)
  replace Ha := Lib.hid (Ha.out.below hb)
  replace B1 := Lib.hid (B1.out.below hb)
  replace BX1 := Lib.hid (BX1.out.below hb)
  replace Hb := Lib.hid (Hb.out.below hb)
  replace B2 := Lib.hid (B2.out.below hb)
  replace Hc := Lib.hid (Hc.out.below hb)
  replace B3 := Lib.hid (B3.out.below hb)
  replace BX3 := Lib.hid (BX3.out.below hb)
  replace Hd := Lib.hid (Hd.out.below hb)
  replace B4 := Lib.hid (B4.out.below hb)
  replace BX4 := Lib.hid (BX4.out.below hb)
  replace BB := Lib.hid (BB.out.trans (hb.mono BB.out.size))
  clear hb
  go_wp2_with fail
  refine (d0.out x15).mono ?_
  rintro e x16 ⟨rfl, hb⟩
  have zzx16 : x15.heap.size ≤ x16.heap.size := hb.size
  replace H0 := Lib.hid (H0.out.below hb)
  replace B0 := Lib.hid (B0.out.below hb)
  replace Ha := Lib.hid (Ha.out.below hb)
  replace B1 := Lib.hid (B1.out.below hb)
  replace BX1 := Lib.hid (BX1.out.below hb)
  replace Hb := Lib.hid (Hb.out.below hb)
  replace B2 := Lib.hid (B2.out.below hb)
  replace Hc := Lib.hid (Hc.out.below hb)
  replace B3 := Lib.hid (B3.out.below hb)
  replace BX3 := Lib.hid (BX3.out.below hb)
  replace Hd := Lib.hid (Hd.out.below hb)
  replace B4 := Lib.hid (B4.out.below hb)
  replace BX4 := Lib.hid (BX4.out.below hb)
  replace BB := Lib.hid (BB.out.trans (hb.mono BB.out.size))
  clear hb 
  obtain ⟨_, hB10, hB11, _, _⟩ := B1.out
  obtain ⟨_, hBX10, hBX11, _, _⟩ := BX1.out
  try dsimp only at hB10 hB11 hBX10 hBX11
  go_wp2_with fail
  refine (d1.out A1 x16 Ha.out).mono ?_
  rintro e x17 ⟨rfl, hb⟩
  have zzx17 : x16.heap.size ≤ x17.heap.size := hb.size
  replace H0 := Lib.hid (H0.out.below hb)
  replace B0 := Lib.hid (B0.out.below hb)
  replace Ha := Lib.hid (Ha.out.below hb)
  replace B1 := Lib.hid (B1.out.below hb)
  replace BX1 := Lib.hid (BX1.out.below hb)
  replace Hb := Lib.hid (Hb.out.below hb)
  replace B2 := Lib.hid (B2.out.below hb)
  replace Hc := Lib.hid (Hc.out.below hb)
  replace B3 := Lib.hid (B3.out.below hb)
  replace BX3 := Lib.hid (BX3.out.below hb)
  replace Hd := Lib.hid (Hd.out.below hb)
  replace B4 := Lib.hid (B4.out.below hb)
  replace BX4 := Lib.hid (BX4.out.below hb)
  replace BB := Lib.hid (BB.out.trans (hb.mono BB.out.size))
  clear hb hB10 hB11 hBX10 hBX11
  obtain ⟨_, hB40, hB41, _, _⟩ := B4.out
  obtain ⟨_, hBX40, hBX41, _, _⟩ := BX4.out
  obtain ⟨_, hBX30, hBX31, _, _⟩ := BX3.out
  try dsimp only at hB40 hB41 hBX40 hBX41 hBX30 hBX31
  go_wp2_with fail
  refine (d2.out A4 x17 Hd.out).mono ?_
  rintro e x18 ⟨rfl, hb⟩
  have zzx18 : x17.heap.size ≤ x18.heap.size := hb.size
  replace H0 := Lib.hid (H0.out.below hb)
  replace B0 := Lib.hid (B0.out.below hb)
  replace Ha := Lib.hid (Ha.out.below hb)
  replace B1 := Lib.hid (B1.out.below hb)
  replace BX1 := Lib.hid (BX1.out.below hb)
  replace Hb := Lib.hid (Hb.out.below hb)
  replace B2 := Lib.hid (B2.out.below hb)
  replace Hc := Lib.hid (Hc.out.below hb)
  replace B3 := Lib.hid (B3.out.below hb)
  replace BX3 := Lib.hid (BX3.out.below hb)
  replace Hd := Lib.hid (Hd.out.below hb)
  replace B4 := Lib.hid (B4.out.below hb)
  replace BX4 := Lib.hid (BX4.out.below hb)
  replace BB := Lib.hid (BB.out.trans (hb.mono BB.out.size))
  clear hb hB40 hB41 hBX40 hBX41 hBX30 hBX31
  obtain ⟨_, hB00, hB01, _, _⟩ := B0.out
  try dsimp only at hB00 hB01
  go_wp2_with fail
  refine (d3.out A0 x18 H0.out).mono ?_
  rintro e x19 ⟨rfl, hb⟩
  have zzx19 : x18.heap.size ≤ x19.heap.size := hb.size
  replace H0 := Lib.hid (H0.out.below hb)
  replace B0 := Lib.hid (B0.out.below hb)
  replace Ha := Lib.hid (Ha.out.below hb)
  replace B1 := Lib.hid (B1.out.below hb)
  replace BX1 := Lib.hid (BX1.out.below hb)
  replace Hb := Lib.hid (Hb.out.below hb)
  replace B2 := Lib.hid (B2.out.below hb)
  replace Hc := Lib.hid (Hc.out.below hb)
  replace B3 := Lib.hid (B3.out.below hb)
  replace BX3 := Lib.hid (BX3.out.below hb)
  replace Hd := Lib.hid (Hd.out.below hb)
  replace B4 := Lib.hid (B4.out.below hb)
  replace BX4 := Lib.hid (BX4.out.below hb)
  replace BB := Lib.hid (BB.out.trans (hb.mono BB.out.size))
  clear hb hB00 hB01
  obtain ⟨_, hB00, hB01, _, _⟩ := B0.out
  try dsimp only at hB00 hB01
  go_wp2_with fail
  refine (d4.out A0 x19 H0.out).mono ?_
  rintro e x20 ⟨rfl, hb⟩
  have zzx20 : x19.heap.size ≤ x20.heap.size := hb.size
  replace H0 := Lib.hid (H0.out.below hb)
  replace B0 := Lib.hid (B0.out.below hb)
  replace Ha := Lib.hid (Ha.out.below hb)
  replace B1 := Lib.hid (B1.out.below hb)
  replace BX1 := Lib.hid (BX1.out.below hb)
  replace Hb := Lib.hid (Hb.out.below hb)
  replace B2 := Lib.hid (B2.out.below hb)
  replace Hc := Lib.hid (Hc.out.below hb)
  replace B3 := Lib.hid (B3.out.below hb)
  replace BX3 := Lib.hid (BX3.out.below hb)
  replace Hd := Lib.hid (Hd.out.below hb)
  replace B4 := Lib.hid (B4.out.below hb)
  replace BX4 := Lib.hid (BX4.out.below hb)
  replace BB := Lib.hid (BB.out.trans (hb.mono BB.out.size))
  clear hb hB00 hB01
  obtain ⟨_, hB00, hB01, _, _⟩ := B0.out
  try dsimp only at hB00 hB01
  go_wp2_with fail
  refine (d5.out A0 x20 H0.out).mono ?_
  rintro e x21 ⟨rfl, hb⟩
  have zzx21 : x20.heap.size ≤ x21.heap.size := hb.size
  replace H0 := Lib.hid (H0.out.below hb)
  replace B0 := Lib.hid (B0.out.below hb)
  replace Ha := Lib.hid (Ha.out.below hb)
  replace B1 := Lib.hid (B1.out.below hb)
  replace BX1 := Lib.hid (BX1.out.below hb)
  replace Hb := Lib.hid (Hb.out.below hb)
  replace B2 := Lib.hid (B2.out.below hb)
  replace Hc := Lib.hid (Hc.out.below hb)
  replace B3 := Lib.hid (B3.out.below hb)
  replace BX3 := Lib.hid (BX3.out.below hb)
  replace Hd := Lib.hid (Hd.out.below hb)
  replace B4 := Lib.hid (B4.out.below hb)
  replace BX4 := Lib.hid (BX4.out.below hb)
  replace BB := Lib.hid (BB.out.trans (hb.mono BB.out.size))
  clear hb hB00 hB01
  go_wp2
  go_ret
  exact ⟨rfl, BB.out⟩
end Go.Proofs.Ytephmejhglcdiaa.handleNames
