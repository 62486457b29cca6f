/- What the law package 04's spoil does: a gapped array in new memory is written over; all else stays, and rows that may be written may be written still. -/
import Derived.Test.YtephmejhglcdiaaSteps
import Derived.Test.YtephmejhglcdiaaRefP01
namespace Go.Proofs.Ytephmejhglcdiaa
open Go.RowKit
set_option linter.unusedVariables false

/-- A row of numbers of one kind, whatever they are, that may be written. -/
def Soft (k : IntKind) (w : World) (a : Option Addr) (n : Nat) : Prop :=
  n = 0 ∨ ∃ b off, a = some ⟨b, off, none⟩ ∧ b < w.heap.size ∧ ∀ i, i < n → (∃ z, w.cell? ⟨b, off + i, none⟩ = some (.int k z)) ∧ w.frozen? ⟨b, off + i, none⟩ = false
theorem New.soft {k : IntKind} {w : World} {B : Nat} {a : Option Addr} {zs : List Int} (h : New k w B a zs) : Soft k w a zs.length := by
  rcases h with h0 | ⟨b, off, h1, _, h2, h3⟩
  · left; rw [h0]; rfl
  · exact Or.inr ⟨b, off, h1, h2, fun i hi => ⟨⟨_, (h3 i hi).1⟩, (h3 i hi).2⟩⟩
theorem Soft.below {k : IntKind} {w w' : World} {a : Option Addr} {n : Nat} (h : Soft k w a n) (hb : Below w.heap.size w w') : Soft k w' a n := by
  rcases h with h0 | ⟨b, off, h1, h2, h3⟩
  · exact Or.inl h0
  · refine Or.inr ⟨b, off, h1, Nat.lt_of_lt_of_le h2 hb.size, fun i hi => ?_⟩
    obtain ⟨⟨z, hz⟩, hf⟩ := h3 i hi
    exact ⟨⟨z, (hb.cell (p := ⟨b, off + i, none⟩) h2).trans hz⟩, (hb.frozen (p := ⟨b, off + i, none⟩) h2).trans hf⟩
theorem Soft.set {k k' : IntKind} {w : World} {a : Option Addr} {n : Nat} (h : Soft k w a n) {p : Addr} {z : Int} (hp : w.cell? p = some (.int k' z)) (x : Int) : Soft k (w.setCell p (.int k' x)) a n := by
  rcases h with h0 | ⟨b, off, h1, h2, h3⟩
  · exact Or.inl h0
  · refine Or.inr ⟨b, off, h1, by rw [World.size_setCell]; exact h2, fun i hi => ?_⟩
    obtain ⟨⟨z2, hz⟩, hf⟩ := h3 i hi
    refine ⟨?_, by rw [World.frozen?_setCell]; exact hf⟩
    by_cases e : p = ⟨b, off + i, none⟩
    · subst e
      rw [hz] at hp
      injection hp with hp
      injection hp with hk _
      subst hk
      exact ⟨x, World.cell?_setCell_same _ _ _ hz⟩
    · exact ⟨z2, by rw [World.cell?_setCell_other _ _ _ _ e]; exact hz⟩
/-- What lies in blocks from B on, ahead of U, was written over: what may be written may be written still, other blocks stay. -/
def Spoilt (B U : Nat) (w w' : World) : Prop := Below B w w' ∧ (∀ k a n, Soft k w a n → Soft k w' a n) ∧ ∀ g, U ≤ g → g < w.heap.size → w'.heap[g]? = w.heap[g]?
/-- A row lies in blocks from B on, ahead of U, if it has an element. -/
def From (B U : Nat) (a : Option Addr) (n : Nat) : Prop := n = 0 ∨ ∀ p, a = some p → B ≤ p.block ∧ p.block < U
theorem New.from {k : IntKind} {w : World} {B : Nat} {a : Option Addr} {zs : List Int} (h : New k w B a zs) : From B w.heap.size a zs.length := by
  rcases h with h0 | ⟨b, off, h1, hB, hU, _⟩
  · left; rw [h0]; rfl
  · right; intro p hp; rw [h1] at hp; injection hp with hp; subst hp; exact ⟨hB, hU⟩
theorem Box.of_heap {w w' : World} {g : Nat} {s : Sl} {a : Ads} (h : Box w g s a) (e : w'.heap[g]? = w.heap[g]?) (hs : w.heap.size ≤ w'.heap.size) : Box w' g s a := by
  have hc : ∀ o, w'.cell? ⟨g, o, none⟩ = w.cell? ⟨g, o, none⟩ := fun o => World.cell?_of_block (w := w) (a := ⟨g, o, none⟩) e
  exact ⟨Nat.lt_of_lt_of_le h.lt hs, (hc 0).trans h.c0, (hc 1).trans h.c1, (hc 2).trans h.c2, (hc 3).trans h.c3, (hc 4).trans h.c4, (hc 5).trans h.c5, fun o => (World.frozen?_of_block (w := w) (a := ⟨g, o, none⟩) e).trans (h.fz o)⟩
structure SoftS (W : World) (B U : Nat) (s : Sl) (a : Ads) : Prop where
  w : Soft .u64 W a.w s.words.length
  k : Soft .i64 W a.k s.keys.length
  v : Soft .i64 W a.v s.vals.length
  c : Soft .i64 W a.c s.counts.length
  fw : From B U a.w s.words.length
  fk : From B U a.k s.keys.length
  fv : From B U a.v s.vals.length
  fc : From B U a.c s.counts.length
theorem Own.soft {w : World} {B : Nat} {s : Sl} {a : Ads} (h : Own w B s a) : SoftS w B w.heap.size s a := by
  have h1 := h.words.soft
  have h2 := h.words.from
  rw [ints_length] at h1 h2
  exact ⟨h1, h.keys.soft, h.vals.soft, h.counts.soft, h2, h.keys.from, h.vals.from, h.counts.from⟩
theorem SoftS.keep {w w' : World} {B U : Nat} {s : Sl} {a : Ads} (h : SoftS w B U s a) (hk : ∀ k a n, Soft k w a n → Soft k w' a n) : SoftS w' B U s a := ⟨hk _ _ _ h.w, hk _ _ _ h.k, hk _ _ _ h.v, hk _ _ _ h.c, h.fw, h.fk, h.fv, h.fc⟩
theorem SoftS.below {w w' : World} {B U : Nat} {s : Sl} {a : Ads} (h : SoftS w B U s a) (hb : Below w.heap.size w w') : SoftS w' B U s a := h.keep (fun _ _ _ hs => hs.below hb)
def SpJ (B U : Nat) (s : Sl) (a : Ads) (w : World) (n : Nat) (i : Value) (wr : World) : Prop := ∃ k : Nat, k ≤ n ∧ i = .int .i64 k ∧ Spoilt B U w wr ∧ Box wr w.heap.size s a
/-- One element written. -/
theorem sp_step {B U : Nat} {s : Sl} {a : Ads} {w wr : World} {k : IntKind} {A : Option Addr} {n i : Nat} (hB : Spoilt B U w wr) (hb : Box wr w.heap.size s a) (h : Soft k w A n) (hf : From B U A n) (hi : i < n) :
    ∃ b off z, A = some ⟨b, off, none⟩ ∧ wr.cell? ⟨b, off + i, none⟩ = some (.int k z) ∧ wr.frozen? ⟨b, off + i, none⟩ = false ∧ ∀ x, Spoilt B U w (wr.setCell ⟨b, off + i, none⟩ (.int k x)) ∧ Box (wr.setCell ⟨b, off + i, none⟩ (.int k x)) w.heap.size s a := by
  rcases h with h0 | ⟨b0, off0, e0, hlt, _⟩
  · omega
  have hs := hB.2.1 k A n (Or.inr ⟨b0, off0, e0, hlt, by assumption⟩)
  rcases hs with h0 | ⟨b, off, h1, h2, h3⟩
  · omega
  obtain ⟨⟨z, hz⟩, hfz⟩ := h3 i hi
  have hbb : B ≤ b ∧ b < U := by
    rcases hf with h0 | h0
    · omega
    · exact h0 _ h1
  have hbl : b < w.heap.size := by rw [h1] at e0; injection e0 with e0; injection e0 with e1 e2; omega
  refine ⟨b, off, z, h1, hz, hfz, fun x => ⟨⟨hB.1.setCell (p := ⟨b, off + i, none⟩) hbb.1 _, fun k2 a2 n2 hs2 => (hB.2.1 k2 a2 n2 hs2).set hz x, fun g hg hg2 => (Below.heap_setCell wr ⟨b, off + i, none⟩ _ g (by show g ≠ b; omega)).trans (hB.2.2 g hg hg2)⟩, hb.setOther (by omega) _ _⟩⟩
end Go.Proofs.Ytephmejhglcdiaa
