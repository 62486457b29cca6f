/- Words in memory: what an owned row of words reads as; what append is handed. -/
import Derived.Test.YtgbgeedcfccclaaDoorRefF02
import Derived.Laws.AppendOwnNone
namespace Go.Proofs.YtgbgeedcfccclaaDoor
open Go.RowKit

theorem wide_nil : Wide [] := fun i => by simp
theorem own_words {w : World} {base : Nat} {e : TypeId} {v : Value} {ps : List Nat} (h : w.ownsRow base e 1 v ps.length (vals ps)) :
    ∃ A cap, v = .slice A ps.length cap ∧ Lst .u64 w A (ints ps) := by
  rcases h.2 with ⟨hv, h0⟩ | ⟨g, cap, cur, hv, _⟩
  · exact ⟨none, 0, by rw [hv, h0], by rw [List.eq_nil_of_length_eq_zero h0]; exact Or.inl rfl⟩
  · subst hv
    refine ⟨_, cap, rfl, ?_⟩
    by_cases h0 : ps = []
    · rw [h0]; exact Or.inl rfl
    · refine Or.inr ⟨g, 0, rfl, (World.ownsRow.lt h g rfl).2, fun i hi => ?_⟩
      rw [ints_length] at hi
      have := World.ownsRow.cells h (g := g) rfl i (.int .u64 ((ps.getD i 0 : Nat) : Int)) (vals_get ps i hi)
      rw [ints_getD, ← this]
      congr 1
      unfold Addr.add
      split <;> simp_all
theorem news_any {w : World} {ad : Addr} {ws : List Nat} (h : Lst .u64 w (some ad) (ints ws)) : ∀ (j : Nat) (u : Value), (vals ws)[j]? = some u → ∀ o : Obj, (w.alloc o).cell? (ad.add j) = some u := by
  intro j u hu o
  rcases h with h0 | ⟨b, off, e, hb, hc⟩
  · have : ws = [] := by simpa [ints] using h0
    subst this
    simp [vals] at hu
  · injection e with e
    subst e
    exact news_of (Or.inr ⟨b, off, rfl, hb, hc⟩) j u hu o


/-- 'append([]uint64{}, w...)', whatever w is: a row of its own with the same words. -/
theorem wpList_append_in {w : World} {ops : Array Oper} {rest : List Oper} {o : Oper} {act : Act} {Q : Exit → Act → World → Prop} (hgd : o.guard = none) (s x : Operand)
    (ho : o.op = .call { callee := .builtin .append, args := #[s, x], argTypes := #[23, 23] })
    (W : World) (hW : w = W.alloc (.cells #[] 22)) (a : Option Addr) (cap : Nat) (ws : List Nat) (hs : act.eval s = .slice (some ⟨W.heap.size, 0, none⟩) 0 0) (hx : act.eval x = .slice a ws.length cap)
    (hl : Lst .u64 W a (ints ws)) (hnil : a = none → ws = [] ∧ cap = 0) (h63 : ws.length ≤ 65536)
    (h : ∀ A c w', w'.ownsRow W.heap.size 22 1 (.slice A ws.length c) ws.length (vals ws) → Lst .u64 w' A (ints ws) → Below W.heap.size W w' → wpList Tryd.prog ops Q rest (act.put o.dst (.slice A ws.length c)) w') : wpList Tryd.prog ops Q (o :: rest) act w := by
  subst hW
  obtain ⟨i0, hi0, hz0, hz1, hz2⟩ := info_parts u64Info
  have hown := World.ownsRow_lit (base := W.heap.size) (e := 22) (size := 1) W #[] 0 (Nat.le_refl _) (Nat.zero_le _) rfl
  cases a with
  | none =>
    obtain ⟨rfl, rfl⟩ := hnil rfl
    refine wpList_append_own_none hgd s x 23 ho W.heap.size 22 i0 1 Tryd.underlying23 hi0 _ 0 [] hs hown hx ?_
    exact h _ _ _ hown (Or.inl rfl) ((Below.refl _ _).alloc (Nat.le_refl _) _)
  | some ad =>
    refine wpList_append_own _ hgd s x 23 ho W.heap.size 22 i0 (.int .u64 0) 1 8 Tryd.underlying23 hi0 hz0 hz1 hz2 rfl (by decide) _ 0 [] hs hown ad ws.length cap (vals ws) hx (by simp [vals]) (fun j u hu => news_any hl j u hu _) (vals_one ws) (by unfold maxLen; omega) (by omega) (by simp) ?_
    intro v1 w1 hown1 hgrow1 _
    rw [Nat.zero_add, List.nil_append] at hown1
    have hb : Below W.heap.size W w1 := ((Below.refl _ _).alloc (Nat.le_refl _) _).grown hgrow1 (by simp) (by intro k hk; simp [Value.ownBlock] at hk; omega)
    obtain ⟨A, c, rfl, hL⟩ := own_words hown1
    exact h A c w1 hown1 hL hb
theorem own_kept {w w' : World} {base : Nat} {e : TypeId} {size : Nat} {v : Value} {n : Nat} {xs : List Value} (h : w.ownsRow base e size v n xs) (hb : Below w.heap.size w w') : w'.ownsRow base e size v n xs := by
  refine ⟨h.1, ?_⟩
  rcases h.2 with h2 | ⟨g, c, cur, hv, hg, hh, r⟩
  · exact Or.inl h2
  · refine Or.inr ⟨g, c, cur, hv, hg, ?_, r⟩
    rw [hb.block g ?_]
    · exact hh
    · rcases Nat.lt_or_ge g w.heap.size with h1 | h1
      · exact h1
      · rw [Array.getElem?_eq_none h1] at hh; cases hh
end Go.Proofs.YtgbgeedcfccclaaDoor
