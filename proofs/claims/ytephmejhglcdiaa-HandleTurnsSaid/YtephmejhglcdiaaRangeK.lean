/- A range over a function whose iterator reads memory: what the body must keep of it, told as a set of blocks; what stays where only other kinds of blocks are turned. No program is named here. -/
import Derived.Test.YtephmejhglcdiaaMarks
import Derived.Test.YtephmejhglcdiaaSlv
namespace Go.Proofs.Ytephmejhglcdiaa
open Go.RowKit Go.Shelf
set_option linter.unusedVariables false

/-- The blocks of Z lie as they lay. -/
structure Kept (Z : Nat → Prop) (A B : World) : Prop where
  size : A.heap.size ≤ B.heap.size
  block : ∀ k, Z k → B.heap[k]? = A.heap[k]?
theorem Kept.refl (Z : Nat → Prop) (A : World) : Kept Z A A := ⟨Nat.le_refl _, fun _ _ => rfl⟩
theorem Kept.trans {Z : Nat → Prop} {A B C : World} (h : Kept Z A B) (k : Kept Z B C) : Kept Z A C := ⟨Nat.le_trans h.size k.size, fun i hi => (k.block i hi).trans (h.block i hi)⟩
theorem Kept.of_below {Z : Nat → Prop} {n : Nat} {A B : World} (h : Below n A B) (hz : ∀ k, Z k → k < n) : Kept Z A B := ⟨h.size, fun k hk => h.block k (hz k hk)⟩
theorem Kept.setCell {Z : Nat → Prop} {A B : World} (h : Kept Z A B) {p : Addr} (hp : ¬ Z p.block) (v : Value) : Kept Z A (B.setCell p v) :=
  ⟨by rw [World.size_setCell]; exact h.size, fun k hk => (Below.heap_setCell B p v k (fun e => hp (e ▸ hk))).trans (h.block k hk)⟩
theorem Kept.cell {Z : Nat → Prop} {A B : World} (h : Kept Z A B) {p : Addr} (hp : Z p.block) : B.cell? p = A.cell? p := World.cell?_of_block (h.block _ hp)
theorem Kept.frozen {Z : Nat → Prop} {A B : World} (h : Kept Z A B) {p : Addr} (hp : Z p.block) : B.frozen? p = A.frozen? p := World.frozen?_of_block (h.block _ hp)
theorem Kept.lst {Z : Nat → Prop} {A B : World} (h : Kept Z A B) {k : IntKind} {a : Option Addr} {zs : List Int} (hl : Lst k A a zs) (ha : ∀ p, a = some p → Z p.block) : Lst k B a zs := by
  rcases hl with h0 | ⟨b, off, h1, h2, h3⟩
  · exact Or.inl h0
  · exact Or.inr ⟨b, off, h1, Nat.lt_of_lt_of_le h2 h.size, fun i hi => (h.cell (p := ⟨b, off + i, none⟩) (ha ⟨b, off, none⟩ h1)).trans (h3 i hi)⟩
theorem Kept.boxed {Z : Nat → Prop} {A B : World} (h : Kept Z A B) {b : Nat} {t : TypeId} {v : Value} (hb : Boxed A b t v) (hz : Z b) : Boxed B b t v := (h.block b hz).trans hb
theorem Kept.box {Z : Nat → Prop} {A B : World} (h : Kept Z A B) {g : Nat} {s : Sl} {a : Ads} (hb : Box A g s a) (hz : Z g) : Box B g s a :=
  have hc : ∀ o, B.cell? ⟨g, o, none⟩ = A.cell? ⟨g, o, none⟩ := fun o => h.cell (p := ⟨g, o, none⟩) hz
  ⟨Nat.lt_of_lt_of_le hb.lt h.size, (hc 0).trans hb.c0, (hc 1).trans hb.c1, (hc 2).trans hb.c2, (hc 3).trans hb.c3, (hc 4).trans hb.c4, (hc 5).trans hb.c5, fun o => (h.frozen (p := ⟨g, o, none⟩) hz).trans (hb.fz o)⟩
theorem keptK_b {Z : Nat → Prop} {w : World} (hz : ∀ k, Z k → k < w.heap.size) (W : World) (l : Nat) (o o' : Obj) (hl : w.heap.size ≤ l) (h : W.heap[l]? = some o) (_ : o.isCells = false) (_ : o.isWalk = false) : Kept Z W (W.putObj l o') :=
  ⟨by simp, fun k hk => World.putObj_heap_other (fun e => by have := hz k hk; omega)⟩

/-- An iterator that yields the numbers of L, in order: a round may lean on what came before. -/
def SeqP (P : Program) (gf : Nat) (lb : Array Value) (Z : Nat → Prop) (L : List Nat) (w : World) : Prop :=
  ∀ (l : Nat) (J Jx : List Nat → World → Prop) (W : World), Below w.heap.size w W → AbidesFrom W.heap.size J → AbidesFrom W.heap.size Jx →
    (∀ (pre : List Nat) (x : Nat) (W1 : World), J pre W1 → pre ++ [x] <+: L → YieldAt Fence.wide 7 P l #[.int .i64 (x : Int)] W1 fun e W' => (e = .returned (.bool true) ∧ J (pre ++ [x]) W' ∧ Kept Z W1 W') ∨ (e = .returned (.bool false) ∧ Jx (pre ++ [x]) W')) →
    J [] W → CallsIn Fence.wide 8 P gf (#[.func (.yield l) #[] #[]] ++ lb) W fun e W' => (∃ v, e = .returned v) ∧ (J L W' ∨ ∃ pre, pre <+: L ∧ Jx pre W')
/-- How a round may be left. -/
abbrev RoundPost (Z : Nat → Prop) (I : List Nat → World → Prop) (Ix : Code → List Nat → World → Prop) (xs : List Nat) (W : World) : Exit → Act → World → Prop := ownPostK (Kept Z) I Ix xs W
/-- What the loop's two blocks hold, beside what the caller says. -/
structure AtLoop (B : Nat) (r : Loop) (W : World) : Prop where
  loop : W.heap[B + 1]? = some (.loop r)
  mark : W.heap[B]? = some (.deferred (some []))
theorem AtLoop.put {B : Nat} {r : Loop} {W : World} (h : AtLoop B r W) (r' : Loop) : AtLoop B r' (W.putObj (B + 1) (.loop r')) :=
  ⟨World.putObj_heap_same (Array.getElem?_eq_some_iff.1 h.loop).1, (World.putObj_heap_other (by omega)).trans h.mark⟩
theorem AtLoop.keeps {B : Nat} {r : Loop} {A W : World} (h : AtLoop B r A) (hk : KeepsOthers A W) : AtLoop B r W := ⟨hk.same _ _ h.loop rfl, hk.same _ _ h.mark rfl⟩
theorem AtLoop.grown {B : Nat} {r : Loop} {A W : World} {row : Option Nat} {n : Nat} (h : AtLoop B r A) (hn : B + 1 < n) (hg : A.grownBy W row) (hr : ∀ q, row = some q → n ≤ q ∧ ∃ o : Obj, A.heap[q]? = some o ∧ o.isWalk = true) : AtLoop B r W := by
  have hne : ∀ k, k ≤ B + 1 → some k ≠ row := fun k hk e => by have := (hr k e.symm).1; omega
  exact ⟨(hg.block _ (Array.getElem?_eq_some_iff.1 h.loop).1 (hne _ (Nat.le_refl _))).trans h.loop, (hg.block _ (Array.getElem?_eq_some_iff.1 h.mark).1 (hne _ (by omega))).trans h.mark⟩
theorem own_abides {I : List Nat → World → Prop} {B n : Nat} (h : OwnFrom B I) (hn : B ≤ n) {s : List Nat} {A W : World} {row : Option Nat} (hs : I s A) (hg : A.grownBy W row) (hr : ∀ q, row = some q → n ≤ q ∧ ∃ o : Obj, A.heap[q]? = some o ∧ o.isWalk = true) : I s W :=
  h s A W row hs hg fun q e => by obtain ⟨h1, o, h2, h3⟩ := hr q e; exact ⟨by omega, o, h2, Obj.not_cells_of_walk h3⟩

theorem wpIn_rangeP {P : Program} {g : Operand} {p : Tmp} {assign body : Code} {Q : Exit → Act → World → Prop} {a : Act} {w : World}
    {gf : Nat} {lb : Array Value} (hg : a.eval g = .func (.func gf) #[] lb) (eg : ∀ args w, (callFunc gf args).run P w = .ok (.enter gf args) w)
    {Z : Nat → Prop} {L : List Nat} (hseq : SeqP P gf lb Z L w) (hz : ∀ k, Z k → k < w.heap.size)
    (I : List Nat → World → Prop) (Ix : Code → List Nat → World → Prop) (hI : OwnFrom w.heap.size I) (hIx : ∀ c, OwnFrom w.heap.size (Ix c)) (h0 : I [] w) (a₁ : Nat → Act)
    (hassign : ∀ (l : Nat) (x : Nat) (W : World) (K : Act → World → Prop), K (a₁ x) W →
      assign.wpIn (Fence.wide.inRound l) 7 P (Exit.then K (fun _ _ _ => False)) { tmps := ((#[p] : Array Tmp).zip #[Value.int .i64 (x : Int)]).foldl (fun t (p, v) => t.setIfInBounds p v) a.tmps, defers := [] } W)
    (hbody : ∀ (l : Nat) (pre : List Nat) (x : Nat) (W : World), I pre W → pre ++ [x] <+: L → body.wpIn (Fence.wide.inRound l) 7 P (RoundPost Z I Ix (pre ++ [x]) W) (a₁ x) W)
    (hdone : ∀ (D : Nat) (W : World), w.heap.size ≤ D → I L W → W.heap[D]? = some (.deferred (some [])) → Q .normal { a with defers := { target := .collected D, args := #[] } :: a.defers } W)
    (hstop : ∀ (D : Nat) (c : Code) (pre : List Nat) (W : World), w.heap.size ≤ D → pre <+: L → Ix c pre W → W.heap[D]? = some (.deferred (some [])) → c.wpIn Fence.wide 9 P Q { a with defers := { target := .collected D, args := #[] } :: a.defers } W) :
    (Code.rangeFunc g #[p] assign body).wpIn Fence.wide 9 P Q a w := by
  refine wpIn_rangeFunc fun fn hfn => ?_
  obtain ⟨B, hB⟩ : ∃ B, B = w.heap.size := ⟨_, rfl⟩
  obtain ⟨R, hR⟩ : ∃ R : LoopState → Option Code → Loop, R = fun st pe => { state := st, pending := pe, fn, tmps := a.tmps, params := #[p], assign, body, defers := B } := ⟨_, rfl⟩
  obtain ⟨V, hV⟩ : ∃ V, V = (w.alloc (.deferred (some []))).alloc (.loop (R .ready none)) := ⟨_, rfl⟩
  have sV : V.heap.size = B + 2 := by rw [hV, hB]; simp
  have bV : Below w.heap.size w V := by rw [hV]; exact ((Below.refl _ _).alloc (Nat.le_refl _) _).alloc (by simp) _
  have LV : AtLoop B (R .ready none) V := by
    rw [hV, hB]
    refine ⟨?_, (Below.heap_alloc _ _ _ (by simp)).trans (World.alloc_heap_new w _)⟩
    have := World.alloc_heap_new (w.alloc (.deferred (some []))) (.loop (R .ready none))
    rwa [World.size_alloc] at this
  have IV : I [] V := by rw [hV]; exact hI.alloc _ (hI.alloc _ h0)
  have put : ∀ {s W} (r r' : Loop), AtLoop B r W → I s W → I s (W.putObj (B + 1) (.loop r')) := fun r r' h hs => hI.putObj _ hs (by omega) h.loop rfl
  have putx : ∀ {c s W} (r r' : Loop), AtLoop B r W → Ix c s W → Ix c s (W.putObj (B + 1) (.loop r')) := fun r r' h hs => (hIx _).putObj _ hs (by omega) h.loop rfl
  have kp : ∀ {W} (r r' : Loop), AtLoop B r W → Kept Z W (W.putObj (B + 1) (.loop r')) := fun r r' h => keptK_b hz _ _ _ _ (by omega) h.loop rfl rfl
  have enter : (Instr.enterLoop fn a.tmps #[p] assign body Fence.wide.round).run P w = .ok (B + 1, [{ target := .collected B, args := #[] }]) V := by
    rw [hV, hR, hB]; exact run_enterLoop_outer _ _ _ _ _
  refine ⟨B + 1, [{ target := .collected B, args := #[] }], V, { target := .fn (.func gf) lb, args := #[.func (.yield (B + 1)) #[] #[]] }, V, gf, #[.func (.yield (B + 1)) #[] #[]] ++ lb, V, enter, ?_, fun _ _ => trivial, ?_, fun _ => by decide, ?_⟩
  · simp only [resolve, hg]; simp [go_sem]
  · simp [invoke, go_sem, eg]
  refine (hseq (B + 1) (fun s W => I s W ∧ AtLoop B (R .ready none) W) (fun s W => ∃ c, Ix c s W ∧ AtLoop B (R .done (some c)) W) V bV
    (fun s A W row hs hg' hr => ⟨own_abides hI (by omega) hs.1 hg' hr, hs.2.grown (by omega) hg' hr⟩)
    (fun s A W row ⟨c, hc, hl⟩ hg' hr => ⟨c, own_abides (hIx c) (by omega) hc hg' hr, hl.grown (by omega) hg' hr⟩) ?_ ⟨IV, LV⟩).mono ?_
  · rintro pre x W ⟨hi, hl⟩ hpre
    have hy := run_yield (P := P) (args := #[.int .i64 (x : Int)]) hl.loop (by rw [hR]; rfl)
    have hbusy := hl.put (R .busy none)
    rw [hR] at hy
    refine ⟨fn, _, assign, body, hy, roundIn_of_wpIn hfn ?_⟩
    have hbegin := run_beginRound (P := P) hl.loop (by rw [hR])
    have e1 : ({ R .ready none with state := .busy } : Loop) = R .busy none := by rw [hR]
    rw [e1] at hbegin
    refine hassign _ x W _ ?_
    refine ⟨_, hbegin, ?_⟩
    refine wpIn_mono (hbody _ pre x _ (put _ _ hl hi) hpre) ?_
    have stop : ∀ (jump : Option Code) (W3 : World), KeepsOthers (W.putObj (B + 1) (.loop (R .busy none))) W3 → (Instr.endRound (B + 1) jump).run P W3 = .ok (.bool jump.isNone) (W3.putObj (B + 1) (.loop (R (if jump.isNone then .ready else .done) jump))) := fun jump W3 hk => by
      have := run_endRound (P := P) jump (hbusy.keeps hk).loop
      rw [hR] at this ⊢
      exact this
    intro ex a3 W3 hp
    cases ex with
    | normal => exact ⟨_, _, stop none W3 hp.1, .inl ⟨rfl, ⟨put _ _ (hbusy.keeps hp.1) hp.2.2, (hbusy.keeps hp.1).put _⟩, ((kp _ _ hl).trans hp.2.1).trans (kp _ _ (hbusy.keeps hp.1))⟩⟩
    | ret => exact ⟨_, _, stop (some .ret) W3 hp.1, .inr ⟨rfl, _, putx _ _ (hbusy.keeps hp.1) hp.2, (hbusy.keeps hp.1).put _⟩⟩
    | exit id => exact ⟨_, _, stop (some (.exit id)) W3 hp.1, .inr ⟨rfl, _, putx _ _ (hbusy.keeps hp.1) hp.2, (hbusy.keeps hp.1).put _⟩⟩
    | goto t => exact ⟨_, _, stop (some (.goto t)) W3 hp.1, .inr ⟨rfl, _, putx _ _ (hbusy.keeps hp.1) hp.2, (hbusy.keeps hp.1).put _⟩⟩
    | panic ch => exact hp.elim
    | outgrown => exact hp.elim
  · rintro e W2 ⟨⟨v, rfl⟩, (⟨hi, hl⟩ | ⟨pre, hp, c, hi, hl⟩)⟩
    · have q := run_endLoop (P := P) hl.loop (by rw [hR]; simp)
      exact ⟨none, _, q.trans (by rw [hR]), hdone B _ (by omega) (put _ _ hl hi) (hl.put _).mark⟩
    · have q := run_endLoop (P := P) hl.loop (by rw [hR]; simp)
      exact ⟨some c, _, q.trans (by rw [hR]), hstop B c pre _ (by omega) hp (putx _ _ hl hi) (hl.put _).mark⟩

theorem wp_rangeP {P : Program} {g : Operand} {p : Tmp} {assign body : Code} {Q : Exit → Act → World → Prop} {a : Act} {w : World}
    {gf : Nat} {lb : Array Value} (hg : a.eval g = .func (.func gf) #[] lb) (eg : ∀ args w, (callFunc gf args).run P w = .ok (.enter gf args) w)
    {Z : Nat → Prop} {L : List Nat} (hseq : SeqP P gf lb Z L w) (hz : ∀ k, Z k → k < w.heap.size)
    (I : List Nat → World → Prop) (Ix : Code → List Nat → World → Prop) (hI : OwnFrom w.heap.size I) (hIx : ∀ c, OwnFrom w.heap.size (Ix c)) (h0 : I [] w) (a₁ : Nat → Act)
    (hassign : ∀ (l : Nat) (x : Nat) (W : World) (K : Act → World → Prop), K (a₁ x) W →
      assign.wpIn (Fence.wide.inRound l) 7 P (Exit.then K (fun _ _ _ => False)) { tmps := ((#[p] : Array Tmp).zip #[Value.int .i64 (x : Int)]).foldl (fun t (p, v) => t.setIfInBounds p v) a.tmps, defers := [] } W)
    (hbody : ∀ (l : Nat) (pre : List Nat) (x : Nat) (W : World), I pre W → pre ++ [x] <+: L → body.wpIn (Fence.wide.inRound l) 7 P (RoundPost Z I Ix (pre ++ [x]) W) (a₁ x) W)
    (hdone : ∀ (D : Nat) (W : World), w.heap.size ≤ D → I L W → W.heap[D]? = some (.deferred (some [])) → Q .normal { a with defers := { target := .collected D, args := #[] } :: a.defers } W)
    (hstop : ∀ (D : Nat) (c : Code) (pre : List Nat) (W : World), w.heap.size ≤ D → pre <+: L → Ix c pre W → W.heap[D]? = some (.deferred (some [])) → c.wp P Q { a with defers := { target := .collected D, args := #[] } :: a.defers } W) :
    (Code.rangeFunc g #[p] assign body).wp P Q a w :=
  wpIn_wide.1 (wpIn_rangeP hg eg hseq hz I Ix hI hIx h0 a₁ hassign hbody hdone (fun D c pre W h1 h2 h3 h4 => wpIn_wide.2 (hstop D c pre W h1 h2 h3 h4)))

/-- What is said of cells stays, whatever other kinds of blocks are turned. -/
structure Over (A B : World) : Prop where
  size : A.heap.size ≤ B.heap.size
  cells : ∀ (k : Nat) (o : Obj), A.heap[k]? = some o → o.isCells = true → B.heap[k]? = some o
theorem Over.of_grown {A B : World} {row : Option Nat} {n : Nat} (hg : A.grownBy B row) (hr : ∀ r, row = some r → n ≤ r ∧ ∃ o : Obj, A.heap[r]? = some o ∧ o.isCells = false) : Over A B :=
  ⟨hg.size, fun k o hk ho => (hg.block k (Array.getElem?_eq_some_iff.1 hk).1 (fun e => by
    obtain ⟨_, o', h1, h2⟩ := hr k e.symm
    rw [hk] at h1; cases h1; rw [ho] at h2; cases h2)).trans hk⟩
theorem ownFrom_over {β : Type} {n : Nat} {I : β → World → Prop} (h : ∀ s A B, Over A B → I s A → I s B) : OwnFrom n I := fun s A B row hs hg hr => h s A B (Over.of_grown hg hr) hs
theorem Over.block {A B : World} (h : Over A B) {p : Addr} {v : Value} (hc : A.cell? p = some v) : B.heap[p.block]? = A.heap[p.block]? := by
  obtain ⟨o, h1, h2⟩ := cells_of_cell hc
  rw [h1, h.cells _ o h1 h2]
theorem Over.cell {A B : World} (h : Over A B) {p : Addr} {v : Value} (hc : A.cell? p = some v) : B.cell? p = some v := (World.cell?_of_block (h.block hc)).trans hc
theorem Over.lst {A B : World} (h : Over A B) {k : IntKind} {a : Option Addr} {zs : List Int} (hl : Lst k A a zs) : Lst k B a zs := by
  rcases hl with h0 | ⟨b, off, h1, h2, h3⟩
  · exact Or.inl h0
  · exact Or.inr ⟨b, off, h1, Nat.lt_of_lt_of_le h2 h.size, fun i hi => h.cell (h3 i hi)⟩
theorem Over.new {A B : World} (h : Over A B) {k : IntKind} {n : Nat} {a : Option Addr} {zs : List Int} (hl : New k A n a zs) : New k B n a zs := by
  rcases hl with h0 | ⟨b, off, h1, hn, h2, h3⟩
  · exact Or.inl h0
  · exact Or.inr ⟨b, off, h1, hn, Nat.lt_of_lt_of_le h2 h.size, fun i hi => ⟨h.cell (h3 i hi).1, (World.frozen?_of_block (h.block (h3 i hi).1)).trans (h3 i hi).2⟩⟩
theorem Over.box {A B : World} (h : Over A B) {g : Nat} {s : Sl} {a : Ads} (hb : Box A g s a) : Box B g s a :=
  ⟨Nat.lt_of_lt_of_le hb.lt h.size, h.cell hb.c0, h.cell hb.c1, h.cell hb.c2, h.cell hb.c3, h.cell hb.c4, h.cell hb.c5, fun o => (World.frozen?_of_block (a := ⟨g, o, none⟩) (h.block (p := ⟨g, 0, none⟩) hb.c0)).trans (hb.fz o)⟩
theorem Over.own {A B : World} (h : Over A B) {n : Nat} {s : Sl} {a : Ads} (ho : Own A n s a) : Own B n s a := ⟨h.new ho.words, h.new ho.keys, h.new ho.vals, h.new ho.counts, ho.caps⟩
theorem Over.boxed {A B : World} (h : Over A B) {b : Nat} {t : TypeId} {v : Value} (hb : Boxed A b t v) : Boxed B b t v := h.cells b _ hb rfl
theorem Over.ownsRow {A B : World} (h : Over A B) {base : Nat} {e : TypeId} {size : Nat} {v : Value} {n : Nat} {xs : List Value} (ho : A.ownsRow base e size v n xs) : B.ownsRow base e size v n xs := by
  refine ⟨ho.1, ?_⟩
  rcases ho.2 with h2 | ⟨g, c, cur, hv, hg, hh, r⟩
  · exact Or.inl h2
  · exact Or.inr ⟨g, c, cur, hv, hg, h.cells g _ hh rfl, r⟩
end Go.Proofs.Ytephmejhglcdiaa
