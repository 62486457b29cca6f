/- What package handle's copied and lay return: a table under way is one of the call's own; lay writes one number of it. -/
import Derived.Test.YtephmejhglcdiaaHnD
import Derived.Deep.CutRange
namespace Go.Proofs.Ytephmejhglcdiaa
open Go.RowKit
set_option linter.unusedVariables false
set_option linter.unusedSimpArgs false

theorem HBox.same {w w' : World} {b : Nat} {t : Ht} {A : HAds} (h : HBox w b t A) (e : w'.heap[b]? = w.heap[b]?) (hs : w.heap.size ≤ w'.heap.size) : HBox w' b t A :=
  ⟨Nat.lt_of_lt_of_le h.lt hs, (World.cell?_of_block (a := ⟨b, 0, none⟩) e).trans h.c0, (World.cell?_of_block (a := ⟨b, 1, none⟩) e).trans h.c1, (World.frozen?_of_block (a := ⟨b, 0, none⟩) e).trans h.f0, (World.frozen?_of_block (a := ⟨b, 1, none⟩) e).trans h.f1⟩
theorem PBox.same {w w' : World} {b : Nat} {x : Int × Int} (h : PBox w b x) (e : w'.heap[b]? = w.heap[b]?) (hs : w.heap.size ≤ w'.heap.size) : PBox w' b x :=
  ⟨Nat.lt_of_lt_of_le h.lt hs, (World.cell?_of_block (a := ⟨b, 0, none⟩) e).trans h.c0, (World.cell?_of_block (a := ⟨b, 1, none⟩) e).trans h.c1, (World.frozen?_of_block (a := ⟨b, 0, none⟩) e).trans h.f0, (World.frozen?_of_block (a := ⟨b, 1, none⟩) e).trans h.f1⟩
/-- The call's own table, under way. -/
def CopPost (t : Ht) (w : World) (e : Ending) (w' : World) : Prop := ∃ A, e = .returned (hv t A) ∧ HRows 3 w' w.heap.size t A ∧ Below w.heap.size w w'
set_option maxRecDepth 100000 in
set_option maxHeartbeats 8000000 in
theorem hCopied (t : Ht) (A : HAds) (w : World) (h : HHeld w t A) (hs : t.Short) :
    Calls Try.prog 31 #[hv t A] w (CopPost t w) := by
  have CT := Lib.hid (fun V (hb : Below w.heap.size w V) => hTwinR t A V (h.below hb) hs)
  have HX := Lib.hid (fun x => (HBox.new w t A 24).below ((Below.refl _ _).alloc (Nat.le_refl _) x))
  have HY := Lib.hid (fun x => HBox.new (w.alloc x) Ht.zero hNone 59)
  clear h hs
  unfold hv at CT ⊢
  go_enter Try.func31, Try.ntmps31
  go_upto_region 1 with (fail)
  obtain ⟨W1, hW1⟩ : ∃ W, W = (w.alloc (.cells #[.slice A.g t.gens.length A.cg, .slice A.a t.ats.length A.ca] 24)).alloc (.cells #[.slice none 0 0, .slice none 0 0] 59) := ⟨_, rfl⟩
  have BX := Lib.hid (show HBox W1 w.heap.size t A by rw [hW1]; exact HX.out _)
  have BR := Lib.hid (show HBox W1 (w.heap.size + 1) Ht.zero hNone by rw [hW1]; have := HY.out (.cells #[.slice A.g t.gens.length A.cg, .slice A.a t.ats.length A.ca] 24); rw [World.size_alloc] at this; exact this)
  have BB := Lib.hid (show Below w.heap.size w W1 by rw [hW1]; exact ((Below.refl _ _).alloc (Nat.le_refl _) _).alloc (by simp) _)
  have zz : w.heap.size + 2 ≤ W1.heap.size := by rw [hW1]; simp
  rw [← hW1]
  clear hW1 HX HY
  obtain ⟨_, p0, p1, _, _⟩ := BX.out
  go_wp2_with fail
  refine (CT.out _ BB.out).mono ?_
  rintro e W2 ⟨A1, rfl, own, hb⟩
  have OR := Lib.hid own
  have BR2 := Lib.hid (BR.out.below hb)
  have BB2 := Lib.hid (BB.out.trans (hb.mono BB.out.size))
  clear own hb p0 p1 BX CT
  obtain ⟨_, q0, q1, qf0, qf1⟩ := BR2.out
  dsimp only [Ht.zero, hNone, List.length_nil] at q0 q1
  unfold hv
  go_wp2
  obtain ⟨U, hU⟩ : ∃ U, U = wput2 W2 (w.heap.size + 1) (.slice A1.g t.gens.length A1.cg) (.slice A1.a t.ats.length A1.ca) := ⟨_, rfl⟩
  have BY := Lib.hid (show HBox U (w.heap.size + 1) t A1 by rw [hU]; exact BR2.out.put2 t A1)
  have OZ := Lib.hid (show HRows 3 U w.heap.size t A1 by rw [hU]; exact (OR.out.put2 (by omega) _ _).lower (by omega))
  have BZ := Lib.hid (show Below w.heap.size w U by rw [hU]; exact below_put2 BB2.out (by omega) _ _)
  unfold wput2 at hU
  rw [← hU]
  clear hU q0 q1 qf0 qf1
  obtain ⟨_, s0, s1, _, _⟩ := BY.out
  refine bodyPost_ret (v := hv t A1) (by simp [results, Try.results31, go_sem, hv, s0, s1]) rfl ⟨_, rfl, OZ.out, BZ.out⟩
/-- One number of a table of one's own, written: only its rows are turned. -/
def LayPost (t : Ht) (A : HAds) (k : Nat) (g a : Int) (B : Nat) (w : World) (e : Ending) (w' : World) : Prop :=
  e = .returned (hv ⟨t.gens.set k g, t.ats.set k a⟩ A) ∧ HOwn w' B ⟨t.gens.set k g, t.ats.set k a⟩ A ∧ Below B w w' ∧ ∀ b, b < w.heap.size → (∀ p, A.g = some p → p.block ≠ b) → (∀ p, A.a = some p → p.block ≠ b) → w'.heap[b]? = w.heap[b]?
set_option maxRecDepth 100000 in
set_option maxHeartbeats 8000000 in
theorem hLay (t : Ht) (A : HAds) (k : Nat) (g a : Int) (B : Nat) (w : World) (own : HOwn w B t A) (hB : B ≤ w.heap.size) (hk : k < t.gens.length) (hl : t.ats.length = t.gens.length) :
    Calls Try.prog 34 #[hv t A, .int .i64 k, .agg #[.int .i64 g, .int .i64 a]] w (LayPost t A k g a B w) := by
  have HX := Lib.hid (fun x y => ((HBox.new w t A 59).below ((Below.refl _ _).alloc (Nat.le_refl _) x)).below ((Below.refl _ _).alloc (Nat.le_refl _) y))
  have HN := Lib.hid (fun x y => (PBox.new (w.alloc x) (g, a) 64).below ((Below.refl _ _).alloc (Nat.le_refl _) y))
  have HY := Lib.hid (fun x y => HBox.new ((w.alloc x).alloc y) Ht.zero hNone 24)
  have LL := Lib.hid hl
  clear hl
  unfold hv
  go_enter Try.func34, Try.ntmps34
  go_upto_region 1 with (fail)
  obtain ⟨W1, hW1⟩ : ∃ W, W = ((w.alloc (.cells #[.slice A.g t.gens.length A.cg, .slice A.a t.ats.length A.ca] 59)).alloc (.cells #[.int .i64 g, .int .i64 a] 64)).alloc (.cells #[.slice none 0 0, .slice none 0 0] 24) := ⟨_, rfl⟩
  have BX := Lib.hid (show HBox W1 w.heap.size t A by rw [hW1]; exact HX.out _ _)
  have BN := Lib.hid (show PBox W1 (w.heap.size + 1) (g, a) by rw [hW1]; have := HN.out (.cells #[.slice A.g t.gens.length A.cg, .slice A.a t.ats.length A.ca] 59) (.cells #[.slice none 0 0, .slice none 0 0] 24); rw [World.size_alloc] at this; exact this)
  have BR := Lib.hid (show HBox W1 (w.heap.size + 1 + 1) Ht.zero hNone by rw [hW1]; have := HY.out (.cells #[.slice A.g t.gens.length A.cg, .slice A.a t.ats.length A.ca] 59) (.cells #[.int .i64 g, .int .i64 a] 64); rw [World.size_alloc, World.size_alloc] at this; exact this)
  have b1 : Below w.heap.size w W1 := by rw [hW1]; exact (((Below.refl _ _).alloc (Nat.le_refl _) _).alloc (by simp) _).alloc (by simp; omega) _
  have zz : w.heap.size + 3 ≤ W1.heap.size := by rw [hW1]; simp
  have O1 := Lib.hid (own.below b1)
  have BB := Lib.hid (Below.mono b1 hB)
  have KB := Lib.hid (fun b (hb : b < w.heap.size) => b1.block b hb)
  rw [← hW1]
  clear hW1 HX HN HY
  obtain ⟨gb, go, hAg, hg1, hg2, _⟩ := own.setG hk
  obtain ⟨ab, ao, hAa, ha1, ha2, _⟩ := own.setA (i := k) (by have := LL.out; omega)
  clear own b1
  obtain ⟨ag, aa, cg, ca⟩ := A
  dsimp only at hAg hAa BX O1 ⊢
  subst hAg hAa
  refine wp_region_held_drew (S := fun w' => w'.cell? ⟨w.heap.size, 0, none⟩ = some (.slice (some ⟨gb, go, none⟩) t.gens.length cg) ∧ w'.cell? ⟨w.heap.size, 1, none⟩ = some (.slice (some ⟨ab, ao, none⟩) t.ats.length ca) ∧ w'.cell? ⟨w.heap.size + 1, 0, none⟩ = some (.int .i64 g) ∧ w'.cell? ⟨w.heap.size + 1, 1, none⟩ = some (.int .i64 a)) (by kernel_rfl) (by exact ⟨(BX.out.below ((Below.refl _ _).drew)).c0, (BX.out.below ((Below.refl _ _).drew)).c1, (BN.out.below ((Below.refl _ _).drew)).c0, (BN.out.below ((Below.refl _ _).drew)).c1⟩) (fun hHeld => ?_)
  obtain ⟨V0, hV0⟩ : ∃ V, V = W1.drew := ⟨_, rfl⟩
  replace BX := Lib.hid (show HBox V0 w.heap.size t ⟨some ⟨gb, go, none⟩, some ⟨ab, ao, none⟩, cg, ca⟩ by rw [hV0]; exact BX.out.below ((Below.refl _ _).drew))
  replace BN := Lib.hid (show PBox V0 (w.heap.size + 1) (g, a) by rw [hV0]; exact BN.out.below ((Below.refl _ _).drew))
  replace BR := Lib.hid (show HBox V0 (w.heap.size + 1 + 1) Ht.zero hNone by rw [hV0]; exact BR.out.below ((Below.refl _ _).drew))
  replace BB := Lib.hid (show Below B w V0 by rw [hV0]; exact BB.out.drew)
  replace KB := Lib.hid (show ∀ b, b < w.heap.size → b ≠ gb → b ≠ ab → V0.heap[b]? = w.heap[b]? from fun b h1 _ _ => by rw [hV0]; exact KB.out b h1)
  have O0 := show HOwn V0 B t ⟨some ⟨gb, go, none⟩, some ⟨ab, ao, none⟩, cg, ca⟩ by rw [hV0]; exact O1.out.below ((Below.refl _ _).drew)
  rw [← hV0] at hHeld ⊢
  clear hV0 O1
  obtain ⟨gb2, go2, e2, _, _, cg1, fg1, sg⟩ := O0.setG hk
  cases e2
  have CG := Lib.hid cg1
  have FG := Lib.hid fg1
  have SG := Lib.hid sg
  clear cg1 fg1 sg O0
  have i1 : (k : Int) < (t.gens.length : Int) := by omega
  have i2 : (k : Int) < (t.ats.length : Int) := by have := LL.out; omega
  refine wpAnyH_take (i := 0) (oi := Oper.mk _ _ _ _ _ _) (v := ?vl0) rfl (by kernel_rfl) (by kernel_rfl) (by kernel_rfl) (fun _ _ _ h => h) (Or.inl ⟨by rfl, ?hyl0⟩) (by assumption) ?restl0
  case hyl0 =>
    intro w0 hSw
    try dsimp only at hSw
    go_simp
    all_goals with_reducible rfl
  try simp only [Act.put, List.setIfInBounds_toArray, List.set_cons_zero, List.set_cons_succ]
  refine wpAnyH_take (i := 1) (oi := Oper.mk _ _ _ _ _ _) (v := ?vl1) rfl (by kernel_rfl) (by kernel_rfl) (by kernel_rfl) (fun _ _ _ h => h) (Or.inl ⟨by rfl, ?hyl1⟩) (by assumption) ?restl1
  case hyl1 =>
    intro w0 hSw
    try dsimp only at hSw
    go_simp
    all_goals with_reducible rfl
  try simp only [Act.put, List.setIfInBounds_toArray, List.set_cons_zero, List.set_cons_succ]
  refine wpAnyH_take (i := 2) (oi := Oper.mk _ _ _ _ _ _) (v := ?vl2) rfl (by kernel_rfl) (by kernel_rfl) (by kernel_rfl) (fun _ _ _ h => h) (Or.inl ⟨by rfl, ?hyl2⟩) (by assumption) ?restl2
  case hyl2 =>
    intro w0 hSw
    try dsimp only at hSw
    go_simp
    all_goals with_reducible rfl
  try simp only [Act.put, List.setIfInBounds_toArray, List.set_cons_zero, List.set_cons_succ]
  refine wpAnyH_take (i := 3) (oi := Oper.mk _ _ _ _ _ _) (v := ?vl3) rfl (by kernel_rfl) (by kernel_rfl) (by kernel_rfl) (fun _ _ _ h => h) (Or.inl ⟨by rfl, ?hyl3⟩) (by assumption) ?restl3
  case hyl3 =>
    intro w0 hSw
    try dsimp only at hSw
    go_simp
    all_goals with_reducible rfl
  try simp only [Act.put, List.setIfInBounds_toArray, List.set_cons_zero, List.set_cons_succ]
  refine wpAnyH_take (i := 4) (oi := Oper.mk _ _ _ _ _ _) (v := ?vl4) rfl (by kernel_rfl) (by kernel_rfl) (by kernel_rfl) (fun _ _ _ h => h) (Or.inl ⟨by rfl, ?hyl4⟩) (by assumption) ?restl4
  case hyl4 =>
    intro w0 hSw
    try dsimp only at hSw
    go_simp
    all_goals with_reducible rfl
  try simp only [Act.put, List.setIfInBounds_toArray, List.set_cons_zero, List.set_cons_succ]
  refine wpAnyH_take (i := 5) (oi := Oper.mk _ _ _ _ _ _) (v := ?vl5) rfl (by kernel_rfl) (by kernel_rfl) (by kernel_rfl) (fun _ _ _ h => h) (Or.inl ⟨by rfl, ?hyl5⟩) (by assumption) ?restl5
  case hyl5 =>
    intro w0 hSw
    try dsimp only at hSw
    go_simp
    all_goals with_reducible rfl
  try simp only [Act.put, List.setIfInBounds_toArray, List.set_cons_zero, List.set_cons_succ]
  refine wpAnyH_take (i := 6) (oi := Oper.mk _ _ _ _ _ _) (v := ?vl6) rfl (by kernel_rfl) (by kernel_rfl) (by kernel_rfl) (fun _ _ _ h => h) (Or.inl ⟨by rfl, ?hyl6⟩) (by assumption) ?restl6
  case hyl6 =>
    intro w0 hSw
    try dsimp only at hSw
    go_simp
    all_goals with_reducible rfl
  try simp only [Act.put, List.setIfInBounds_toArray, List.set_cons_zero, List.set_cons_succ]
  refine wpAnyH_take (i := 7) (oi := Oper.mk _ _ _ _ _ _) (v := ?vl7) rfl (by kernel_rfl) (by kernel_rfl) (by kernel_rfl) (fun _ _ _ h => h) (Or.inl ⟨by rfl, ?hyl7⟩) (by assumption) ?restl7
  case hyl7 =>
    intro w0 hSw
    try dsimp only at hSw
    go_simp
    all_goals with_reducible rfl
  try simp only [Act.put, List.setIfInBounds_toArray, List.set_cons_zero, List.set_cons_succ]
  refine wpAnyH_take (i := 8) (oi := Oper.mk _ _ _ _ _ _) (v := ?vl8) rfl (by kernel_rfl) (by kernel_rfl) (by kernel_rfl) (fun _ _ _ h => h) (Or.inl ⟨by rfl, ?hyl8⟩) (by assumption) ?restl8
  case hyl8 =>
    intro w0 hSw
    try dsimp only at hSw
    go_simp
    all_goals with_reducible rfl
  try simp only [Act.put, List.setIfInBounds_toArray, List.set_cons_zero, List.set_cons_succ]
  refine wpAnyH_take (i := 9) (oi := Oper.mk _ _ _ _ _ _) (v := ?vl9) rfl (by kernel_rfl) (by kernel_rfl) (by kernel_rfl) (fun _ _ _ h => h) (Or.inl ⟨by rfl, ?hyl9⟩) (by assumption) ?restl9
  case hyl9 =>
    intro w0 hSw
    try dsimp only at hSw
    go_simp
    all_goals with_reducible rfl
  try simp only [Act.put, List.setIfInBounds_toArray, List.set_cons_zero, List.set_cons_succ]
  refine wpAnyH_take (i := 10) (oi := Oper.mk _ _ _ _ _ _) (v := ?vl10) rfl (by kernel_rfl) (by kernel_rfl) (by kernel_rfl) (fun _ _ _ h => h) (Or.inl ⟨by rfl, ?hyl10⟩) (by assumption) ?restl10
  case hyl10 =>
    intro w0 hSw
    try dsimp only at hSw
    go_simp
    all_goals with_reducible rfl
  try simp only [Act.put, List.setIfInBounds_toArray, List.set_cons_zero, List.set_cons_succ]
  refine wpAnyH_take (i := 11) (oi := Oper.mk _ _ _ _ _ _) (v := ?vl11) rfl (by kernel_rfl) (by kernel_rfl) (by kernel_rfl) (fun _ _ _ h => h) (Or.inl ⟨by rfl, ?hyl11⟩) (by assumption) ?restl11
  case hyl11 =>
    intro w0 hSw
    try dsimp only at hSw
    go_simp
    all_goals with_reducible rfl
  try simp only [Act.put, List.setIfInBounds_toArray, List.set_cons_zero, List.set_cons_succ]
  refine wpAnyH_take (i := 12) (oi := Oper.mk _ _ _ _ _ _) (v := ?vl12) rfl (by kernel_rfl) (by kernel_rfl) (by kernel_rfl) (fun _ _ _ h => h) (Or.inl ⟨by rfl, ?hyl12⟩) (by assumption) ?restl12
  case hyl12 =>
    intro w0 hSw
    try dsimp only at hSw
    go_simp
    all_goals with_reducible rfl
  try simp only [Act.put, List.setIfInBounds_toArray, List.set_cons_zero, List.set_cons_succ]
  refine wpAnyH_ready (rs := [13]) (by kernel_rfl) (by simp) ?_
  refine AllReadyH.cons (o := Oper.mk _ _ _ _ _ _) rfl (fun K hK => ?_) AllReadyH.nil
  have fc := CG.out
  have ff := FG.out
  go_simp
  obtain ⟨U1, hU⟩ : ∃ U, U = V0.setCell ⟨gb, go + k, none⟩ (.int .i64 g) := ⟨_, rfl⟩
  have OY := Lib.hid (show HOwn U1 B ⟨t.gens.set k g, t.ats⟩ ⟨some ⟨gb, go, none⟩, some ⟨ab, ao, none⟩, cg, ca⟩ by rw [hU]; exact SG.out g)
  replace BX := Lib.hid (show HBox U1 w.heap.size t ⟨some ⟨gb, go, none⟩, some ⟨ab, ao, none⟩, cg, ca⟩ by rw [hU]; exact BX.out.setOther (p := ⟨gb, go + k, none⟩) (by show gb ≠ w.heap.size; omega) _)
  replace BN := Lib.hid (show PBox U1 (w.heap.size + 1) (g, a) by rw [hU]; exact BN.out.apart (p := ⟨gb, go + k, none⟩) (by show gb ≠ w.heap.size + 1; omega) _)
  replace BR := Lib.hid (show HBox U1 (w.heap.size + 1 + 1) Ht.zero hNone by rw [hU]; exact BR.out.setOther (p := ⟨gb, go + k, none⟩) (by show gb ≠ w.heap.size + 1 + 1; omega) _)
  replace BB := Lib.hid (show Below B w U1 by rw [hU]; exact BB.out.setCell (p := ⟨gb, go + k, none⟩) (by show B ≤ gb; omega) _)
  replace KB := Lib.hid (show ∀ b, b < w.heap.size → b ≠ gb → b ≠ ab → U1.heap[b]? = w.heap[b]? from fun b h1 h2 h3 => by rw [hU]; exact (Below.heap_setCell V0 ⟨gb, go + k, none⟩ _ b (by show b ≠ gb; assumption)).trans (KB.out b h1 h2 h3))
  rw [← hU]
  clear hU
  clear fc ff CG FG SG
  obtain ⟨ab2, ao2, e2, _, _, ca1, fa1, sa⟩ := OY.out.setA (i := k) (by show k < t.ats.length; have := LL.out; omega)
  cases e2
  have CA := Lib.hid ca1
  have FA := Lib.hid fa1
  have SA := Lib.hid (sa a)
  clear ca1 fa1 sa OY
  refine hK.out _ _ (by exact ⟨BX.out.c0, BX.out.c1, BN.out.c0, BN.out.c1⟩) (fun hHeldl13 => ?_)
  clear hK K hHeld
  try simp only [Act.put, List.setIfInBounds_toArray, List.set_cons_zero, List.set_cons_succ]
  refine wpAnyH_take (i := 14) (oi := Oper.mk _ _ _ _ _ _) (v := ?vl14) rfl (by kernel_rfl) (by kernel_rfl) (by kernel_rfl) (fun _ _ _ h => h) (Or.inl ⟨by rfl, ?hyl14⟩) (by assumption) ?restl14
  case hyl14 =>
    intro w0 hSw
    try dsimp only at hSw
    go_simp
    all_goals with_reducible rfl
  try simp only [Act.put, List.setIfInBounds_toArray, List.set_cons_zero, List.set_cons_succ]
  refine wpAnyH_ready (rs := [15]) (by kernel_rfl) (by simp) ?_
  refine AllReadyH.cons (o := Oper.mk _ _ _ _ _ _) rfl (fun K hK => ?_) AllReadyH.nil
  have fc := CA.out
  have ff := FA.out
  go_simp
  obtain ⟨U2, hU⟩ : ∃ U, U = U1.setCell ⟨ab, ao + k, none⟩ (.int .i64 a) := ⟨_, rfl⟩
  have OY := Lib.hid (show HOwn U2 B ⟨t.gens.set k g, t.ats.set k a⟩ ⟨some ⟨gb, go, none⟩, some ⟨ab, ao, none⟩, cg, ca⟩ by rw [hU]; exact SA.out)
  replace BX := Lib.hid (show HBox U2 w.heap.size t ⟨some ⟨gb, go, none⟩, some ⟨ab, ao, none⟩, cg, ca⟩ by rw [hU]; exact BX.out.setOther (p := ⟨ab, ao + k, none⟩) (by show ab ≠ w.heap.size; omega) _)
  replace BN := Lib.hid (show PBox U2 (w.heap.size + 1) (g, a) by rw [hU]; exact BN.out.apart (p := ⟨ab, ao + k, none⟩) (by show ab ≠ w.heap.size + 1; omega) _)
  replace BR := Lib.hid (show HBox U2 (w.heap.size + 1 + 1) Ht.zero hNone by rw [hU]; exact BR.out.setOther (p := ⟨ab, ao + k, none⟩) (by show ab ≠ w.heap.size + 1 + 1; omega) _)
  replace BB := Lib.hid (show Below B w U2 by rw [hU]; exact BB.out.setCell (p := ⟨ab, ao + k, none⟩) (by show B ≤ ab; omega) _)
  replace KB := Lib.hid (show ∀ b, b < w.heap.size → b ≠ gb → b ≠ ab → U2.heap[b]? = w.heap[b]? from fun b h1 h2 h3 => by rw [hU]; exact (Below.heap_setCell U1 ⟨ab, ao + k, none⟩ _ b (by show b ≠ ab; assumption)).trans (KB.out b h1 h2 h3))
  rw [← hU]
  clear hU
  clear fc ff CA FA SA
  refine hK.out _ _ (by exact ⟨BX.out.c0, BX.out.c1, BN.out.c0, BN.out.c1⟩) (fun hHeldl15 => ?_)
  clear hK K hHeldl13
  try simp only [Act.put, List.setIfInBounds_toArray, List.set_cons_zero, List.set_cons_succ]
  refine wpAnyH_done (by kernel_rfl) ?_ _
  obtain ⟨_, p0, p1, _, _⟩ := BX.out
  obtain ⟨_, q0, q1, qf0, qf1⟩ := BR.out
  dsimp only [Ht.zero, hNone, List.length_nil] at p0 p1 q0 q1
  go_wp2
  obtain ⟨U, hU⟩ : ∃ U, U = wput2 U2 (w.heap.size + 1 + 1) (.slice (some ⟨gb, go, none⟩) t.gens.length cg) (.slice (some ⟨ab, ao, none⟩) t.ats.length ca) := ⟨_, rfl⟩
  have BY := Lib.hid (show HBox U (w.heap.size + 1 + 1) t ⟨some ⟨gb, go, none⟩, some ⟨ab, ao, none⟩, cg, ca⟩ by rw [hU]; exact BR.out.put2 t ⟨some ⟨gb, go, none⟩, some ⟨ab, ao, none⟩, cg, ca⟩)
  have OZ := Lib.hid (show HOwn U B ⟨t.gens.set k g, t.ats.set k a⟩ ⟨some ⟨gb, go, none⟩, some ⟨ab, ao, none⟩, cg, ca⟩ by rw [hU]; exact OY.out.put2o ⟨Or.inr (fun p hp => by cases hp; show gb ≠ w.heap.size + 1 + 1; omega), Or.inr (fun p hp => by cases hp; show ab ≠ w.heap.size + 1 + 1; omega)⟩ _ _)
  have BZ := Lib.hid (show Below B w U by rw [hU]; exact below_put2 BB.out (by omega) _ _)
  have KZ := Lib.hid (show ∀ b, b < w.heap.size → b ≠ gb → b ≠ ab → U.heap[b]? = w.heap[b]? from fun b h1 h2 h3 => by rw [hU]; unfold wput2; exact (Below.heap_setCell _ ⟨w.heap.size + 1 + 1, 1, none⟩ _ b (by show b ≠ w.heap.size + 1 + 1; omega)).trans ((Below.heap_setCell _ ⟨w.heap.size + 1 + 1, 0, none⟩ _ b (by show b ≠ w.heap.size + 1 + 1; omega)).trans (KB.out b h1 h2 h3)))
  unfold wput2 at hU
  rw [← hU]
  clear hU p0 p1 q0 q1 qf0 qf1
  obtain ⟨_, s0, s1, _, _⟩ := BY.out
  dsimp only at s0 s1
  refine bodyPost_ret (v := hv ⟨t.gens.set k g, t.ats.set k a⟩ ⟨some ⟨gb, go, none⟩, some ⟨ab, ao, none⟩, cg, ca⟩) (by simp [results, Try.results34, go_sem, hv, s0, s1]) rfl ⟨rfl, OZ.out, BZ.out, fun b h1 h2 h3 => KZ.out b h1 (fun e => h2 _ rfl e.symm) (fun e => h3 _ rfl e.symm)⟩
end Go.Proofs.Ytephmejhglcdiaa
