/- Rows in memory, of elements of one or of several cells: what a slice reads as; append onto an empty literal, and of one more; rows that are owned. No program is named here. -/
import Derived.Test.YtephmejhglcdiaaMem
import Derived.Laws.AppendOwnNone
namespace Go.Proofs.Ytephmejhglcdiaa
open Go.RowKit

/-- The slice that begins at 'a' reads as these cells (of none nothing is said). -/
def Cells (w : World) (a : Option Addr) (xs : List Value) : Prop :=
  xs = [] ∨ ∃ b off, a = some ⟨b, off, none⟩ ∧ b < w.heap.size ∧ ∀ i, i < xs.length → w.cell? ⟨b, off + i, none⟩ = xs[i]?
theorem Cells.nil {w : World} {a : Option Addr} : Cells w a [] := Or.inl rfl
theorem Cells.below {w w' : World} {a : Option Addr} {xs : List Value} (h : Cells w a xs) (hb : Below w.heap.size w w') : Cells w' a xs := by
  rcases h with rfl | ⟨b, off, h1, h2, h3⟩
  · exact Or.inl rfl
  · exact Or.inr ⟨b, off, h1, Nat.lt_of_lt_of_le h2 hb.size, fun i hi => (hb.cell (p := ⟨b, off + i, none⟩) h2).trans (h3 i hi)⟩
theorem Cells.of_lst {k : IntKind} {w : World} {a : Option Addr} {zs : List Int} (h : Lst k w a zs) : Cells w a (zs.map (Value.int k)) := by
  rcases h with rfl | ⟨b, off, h1, h2, h3⟩
  · exact Or.inl rfl
  · refine Or.inr ⟨b, off, h1, h2, fun i hi => ?_⟩
    rw [List.length_map] at hi
    rw [h3 i hi, List.getElem?_map, List.getElem?_eq_getElem hi]
    simp [List.getD, List.getElem?_eq_getElem hi]
theorem Cells.lst {k : IntKind} {w : World} {a : Option Addr} {zs : List Int} (h : Cells w a (zs.map (Value.int k))) : Lst k w a zs := by
  rcases h with h0 | ⟨b, off, h1, h2, h3⟩
  · exact Or.inl (by simpa using h0)
  · refine Or.inr ⟨b, off, h1, h2, fun i hi => ?_⟩
    rw [h3 i (by rw [List.length_map]; exact hi), List.getElem?_map, List.getElem?_eq_getElem hi]
    simp [List.getD, List.getElem?_eq_getElem hi]
theorem add_at (b off j : Nat) : (⟨b, off, none⟩ : Addr).add j = ⟨b, off + j, none⟩ := by
  unfold Addr.add
  split <;> simp_all
theorem Cells.news {w : World} {ad : Addr} {xs : List Value} (h : Cells w (some ad) xs) : ∀ (j : Nat) (u : Value), xs[j]? = some u → ∀ o : Obj, (w.alloc o).cell? (ad.add j) = some u := by
  intro j u hu o
  have hj : j < xs.length := (List.getElem?_eq_some_iff.1 hu).1
  rcases h with h0 | ⟨b, off, e, hb, hc⟩
  · subst h0; simp at hj
  · injection e with e
    subst e
    rw [add_at, World.cell?_alloc_past _ _ _ hb, hc j hj, hu]

theorem own_cells {w : World} {base : Nat} {e : TypeId} {size : Nat} {v : Value} {n : Nat} {xs : List Value} (h : w.ownsRow base e size v n xs) :
    ∃ A cap, v = .slice A n cap ∧ Cells w A xs ∧ (A = none → n = 0 ∧ cap = 0) ∧ (∀ ad, A = some ad → base ≤ ad.block ∧ ad.off = 0 ∧ ad.block < w.heap.size) ∧ n ≤ cap := by
  have h1 := h.1
  rcases h.2 with ⟨hv, h0⟩ | ⟨g, cap, cur, hv, hb, hg, hnc, _, _, ht⟩
  · subst h0
    rw [Nat.zero_mul] at h1
    exact ⟨none, 0, hv, by rw [List.eq_nil_of_length_eq_zero h1]; exact Or.inl rfl, fun _ => ⟨rfl, rfl⟩, fun ad e => (by cases e), Nat.le_refl _⟩
  · refine ⟨some ⟨g, 0, none⟩, cap, hv, Or.inr ⟨g, 0, rfl, (Array.getElem?_eq_some_iff.1 hg).1, fun i hi => ?_⟩, fun e => (by cases e), fun ad e => (by cases e; exact ⟨hb, rfl, (Array.getElem?_eq_some_iff.1 hg).1⟩), hnc⟩
    subst hv
    cases hx : xs[i]? with
    | none => exact absurd (List.getElem?_eq_none_iff.1 hx) (by omega)
    | some u =>
      have := World.ownsRow.cells h (g := g) rfl i u hx
      rw [add_at] at this
      exact this
theorem own_below {w w' : World} {base : Nat} {e : TypeId} {size : Nat} {v : Value} {n : Nat} {xs : List Value} (h : w.ownsRow base e size v n xs) (hb : Below w.heap.size w w') : w'.ownsRow base e size v n xs := by
  refine ⟨h.1, ?_⟩
  rcases h.2 with h2 | ⟨g, c, cur, hv, hg, hh, r⟩
  · exact Or.inl h2
  · refine Or.inr ⟨g, c, cur, hv, hg, ?_, r⟩
    rw [hb.block g (Array.getElem?_eq_some_iff.1 hh).1]
    exact hh
theorem own_lower {w : World} {base base' : Nat} {e : TypeId} {size : Nat} {v : Value} {n : Nat} {xs : List Value} (h : w.ownsRow base e size v n xs) (hb : base' ≤ base) : w.ownsRow base' e size v n xs := by
  refine ⟨h.1, ?_⟩
  rcases h.2 with h2 | ⟨g, c, cur, hv, hg, r⟩
  · exact Or.inl h2
  · exact Or.inr ⟨g, c, cur, hv, Nat.le_trans hb hg, r⟩

/-- What the laws of append ask of a slice's type. -/
structure Elem (P : Program) (T E : TypeId) (z : Value) (size bytes : Nat) : Prop where
  und : P.underlying T = some (.slice E)
  info : ∃ i, P.info? E = some i ∧ i.zero = some z ∧ i.size = size ∧ i.bytes = bytes
  zero : z.cells.size = size
  pos : 0 < size
/-- 'append([]T{}, w...)', whatever w is: a row of its own with the same cells. -/
theorem wpList_copy {P : Program} {T E : TypeId} {z : Value} {size bytes : Nat} (hE : Elem P T E z size bytes) {w : World} {ops : Array Oper} {rest : List Oper} {o : Oper} {act : Act} {Q : Exit → Act → World → Prop} (hgd : o.guard = none) (s x : Operand)
    (ho : o.op = .call { callee := .builtin .append, args := #[s, x], argTypes := #[T, T] })
    (W : World) (hW : w = W.alloc (.cells #[] E)) (a : Option Addr) (n cap : Nat) (xs : List Value) (hs : act.eval s = .slice (some ⟨W.heap.size, 0, none⟩) 0 0) (hx : act.eval x = .slice a n cap)
    (hl : Cells W a xs) (hlen : xs.length = n * size) (h1 : ∀ u ∈ xs, u.oneCell' = true) (hnil : a = none → n = 0 ∧ cap = 0) (h63 : n ≤ maxLen) (hby : n * bytes ≤ 140737488355328)
    (h : ∀ A c w', w'.ownsRow W.heap.size E size (.slice A n c) n xs → Cells w' A xs → Below W.heap.size W w' → wpList P ops Q rest (act.put o.dst (.slice A n c)) w') : wpList P ops Q (o :: rest) act w := by
  subst hW
  obtain ⟨i0, hi0, hz0, hz1, hz2⟩ := hE.info
  have hown := World.ownsRow_lit (base := W.heap.size) (e := E) (size := size) W #[] 0 (Nat.le_refl _) (Nat.zero_le _) (by simp)
  cases a with
  | none =>
    obtain ⟨rfl, rfl⟩ := hnil rfl
    have hxs : xs = [] := List.eq_nil_of_length_eq_zero (by rw [hlen, Nat.zero_mul])
    subst hxs
    refine wpList_append_own_none hgd s x T ho W.heap.size E i0 size hE.und hi0 _ 0 [] hs hown hx ?_
    exact h _ _ _ hown (Or.inl rfl) ((Below.refl _ _).alloc (Nat.le_refl _) _)
  | some ad =>
    refine wpList_append_own _ hgd s x T ho W.heap.size E i0 z size bytes hE.und hi0 hz0 hz1 hz2 hE.zero hE.pos _ 0 [] hs hown ad n cap xs hx hlen (fun j u hu => hl.news j u hu _) h1 (by omega) (by rw [Nat.zero_add]; exact hby) (by simp) ?_
    intro v1 w1 hown1 hgrow1 _
    rw [Nat.zero_add, List.nil_append] at hown1
    have hb : Below W.heap.size W w1 := ((Below.refl _ _).alloc (Nat.le_refl _) _).grown hgrow1 (by simp) (by intro k hk; simp [Value.ownBlock] at hk; omega)
    obtain ⟨A, c, rfl, hL, _⟩ := own_cells hown1
    exact h A c w1 hown1 hL hb
/-- 'append(v, w...)', whatever w is, onto a row that is owned. -/
theorem wpList_join {P : Program} {T E : TypeId} {z : Value} {size bytes : Nat} (hE : Elem P T E z size bytes) {W : World} {ops : Array Oper} {rest : List Oper} {o : Oper} {act : Act} {Q : Exit → Act → World → Prop} (hgd : o.guard = none) (s x : Operand)
    (ho : o.op = .call { callee := .builtin .append, args := #[s, x], argTypes := #[T, T] })
    (base n : Nat) (v : Value) (ys : List Value) (hs : act.eval s = v) (hown : W.ownsRow base E size v n ys) (a : Option Addr) (m cap : Nat) (xs : List Value) (hx : act.eval x = .slice a m cap)
    (hl : Cells W a xs) (hlen : xs.length = m * size) (h1 : ∀ u ∈ xs, u.oneCell' = true) (hnil : a = none → m = 0 ∧ cap = 0) (hbase : base ≤ W.heap.size) (h63 : n + m ≤ maxLen) (hby : (n + m) * bytes ≤ 140737488355328)
    (h : ∀ v' w', w'.ownsRow base E size v' (n + m) (ys ++ xs) → Below base W w' → wpList P ops Q rest (act.put o.dst v') w') : wpList P ops Q (o :: rest) act W := by
  obtain ⟨i0, hi0, hz0, hz1, hz2⟩ := hE.info
  cases a with
  | none =>
    obtain ⟨rfl, rfl⟩ := hnil rfl
    have hxs : xs = [] := List.eq_nil_of_length_eq_zero (by rw [hlen, Nat.zero_mul])
    subst hxs
    refine wpList_append_own_none hgd s x T ho base E i0 size hE.und hi0 v n ys hs hown hx ?_
    exact h _ _ (by rw [Nat.add_zero, List.append_nil]; exact hown) (Below.refl _ _)
  | some ad =>
    have hnews : ∀ j u, xs[j]? = some u → W.cell? (ad.add j) = some u := by
      intro j u hu
      have hj : j < xs.length := (List.getElem?_eq_some_iff.1 hu).1
      rcases hl with h0 | ⟨b, off, e, hb, hc⟩
      · subst h0; simp at hj
      · injection e with e
        subst e
        rw [add_at, hc j hj, hu]
    refine wpList_append_own _ hgd s x T ho base E i0 z size bytes hE.und hi0 hz0 hz1 hz2 hE.zero hE.pos v n ys hs hown ad m cap xs hx hlen hnews h1 h63 hby hbase ?_
    intro v1 w1 hown1 hgrow1 _
    exact h v1 w1 hown1 ((Below.refl _ _).grown hgrow1 hbase (fun g hg => (World.ownsRow.lt hown g hg).1))
/-- 'append(v, x)' of one element of one cell, which the walk has laid in a block of its own: onto a row that is owned. -/
theorem wpList_more {P : Program} {T E : TypeId} {z : Value} {bytes : Nat} (hE : Elem P T E z 1 bytes) {w : World} {ops : Array Oper} {rest : List Oper} {o : Oper} {act : Act} {Q : Exit → Act → World → Prop} (hgd : o.guard = none) (s x : Operand)
    (ho : o.op = .call { callee := .builtin .append, args := #[s, x], argTypes := #[T, T] })
    (W : World) (t : TypeId) (u : Value) (hW : w = W.alloc (.cells #[u] t)) (base n : Nat) (v : Value) (xs : List Value) (hs : act.eval s = v) (hx : act.eval x = .slice (some ⟨W.heap.size, 0, none⟩) 1 1)
    (hown : W.ownsRow base E 1 v n xs) (h1 : u.oneCell' = true) (hbase : base ≤ W.heap.size) (h63 : n + 1 ≤ maxLen) (hby : (n + 1) * bytes ≤ 140737488355328)
    (h : ∀ v' w', w'.ownsRow base E 1 v' (n + 1) (xs ++ [u]) → Below base W w' → wpList P ops Q rest (act.put o.dst v') w') : wpList P ops Q (o :: rest) act w := by
  subst hW
  obtain ⟨i0, hi0, hz0, hz1, hz2⟩ := hE.info
  refine wpList_append_own _ hgd s x T ho base E i0 z 1 bytes hE.und hi0 hz0 hz1 hz2 hE.zero hE.pos v n xs hs (hown.alloc _) ⟨W.heap.size, 0, none⟩ 1 1 [u] hx rfl ?_ (fun y hy => by simp at hy; subst hy; exact h1) h63 hby (by simp; omega) ?_
  · intro j y hj
    match j, hj with
    | 0, hj => simp at hj; subst hj; simp [add_at]
  · intro v1 w1 hown1 hgrow1 _
    exact h v1 w1 hown1 (((Below.refl _ _).alloc hbase _).grown hgrow1 (by simp; omega) (fun g hg => (World.ownsRow.lt hown g hg).1))
theorem made_one (z : Value) (n : Nat) : (madeCells #[z] (n * 1)).toList = List.replicate n z := by
  apply List.ext_getElem
  · simp [madeCells]
  · intro i h1 h2
    simp [madeCells, Nat.mod_one]
/-- 'make([]T, n)' of elements of one cell: n zeros, in a row of its own. -/
theorem wpList_zeros {P : Program} {T E : TypeId} {z : Value} {bytes : Nat} (hE : Elem P T E z 1 bytes) (hz : z.cells = #[z]) {w : World} {ops : Array Oper} {rest : List Oper} {o : Oper} {act : Act} {Q : Exit → Act → World → Prop} (hg : o.guard = none) (l c : Operand)
    (hop : o.op = Op.makeSlice T l c) (kl kc : IntKind) (L C : Int) (n : Nat) (hl : act.eval l = .int kl L) (hc : act.eval c = .int kc C) (hL : L = (n : Int)) (hC : C = (n : Int)) (b2 : bytes * n ≤ 281474976710656) (b3 : n ≤ maxLen)
    (h : ∀ w', w'.ownsRow w.heap.size E 1 (.slice (some ⟨w.heap.size, 0, none⟩) n n) n (List.replicate n z) → Below w.heap.size w w' → wpList P ops Q rest (act.put o.dst (.slice (some ⟨w.heap.size, 0, none⟩) n n)) w') : wpList P ops Q (o :: rest) act w := by
  obtain ⟨i0, hi0, hz0, hz1, hz2⟩ := hE.info
  refine wpList_make_full w hg l c T hop w.heap.size E i0 z 1 hE.und hi0 hz0 hz1 kl kc L C n hl hc hL hC (by rw [hz2]; exact b2) b3 (Nat.le_refl _) ?_
  intro w' hown hgrow
  rw [hz, made_one] at hown
  exact h w' hown ((Below.refl _ _).grown hgrow (Nat.le_refl _) (fun k e => by cases e))
/-- 'make([]T, 0, n)': the head of a new row, of which nothing is owned yet. -/
theorem wpList_make0 {P : Program} {T E : TypeId} {z : Value} {size bytes : Nat} (hE : Elem P T E z size bytes) {w : World} {ops : Array Oper} {rest : List Oper} {o : Oper} {act : Act} {Q : Exit → Act → World → Prop} (hg : o.guard = none) (l c : Operand)
    (hop : o.op = Op.makeSlice T l c) (kl kc : IntKind) (C : Int) (n base : Nat) (hl : act.eval l = .int kl 0) (hc : act.eval c = .int kc C) (hC : C = (n : Int)) (b2 : bytes * n ≤ 281474976710656) (b3 : n ≤ maxLen) (b4 : base ≤ w.heap.size)
    (h : ∀ w', w'.ownsRow base E size (.slice (some ⟨w.heap.size, 0, none⟩) 0 n) 0 [] → Below base w w' → wpList P ops Q rest (act.put o.dst (.slice (some ⟨w.heap.size, 0, none⟩) 0 n)) w') : wpList P ops Q (o :: rest) act w := by
  obtain ⟨i0, hi0, hz0, hz1, hz2⟩ := hE.info
  refine wpList_make_own w hg l c T hop base E i0 z size hE.und hi0 hz0 hz1 kl kc C n hl hc hC (by rw [hz2]; exact b2) b3 b4 ?_
  intro w' hown hgrow
  exact h w' hown ((Below.refl _ _).grown hgrow b4 (fun k e => by cases e))
end Go.Proofs.Ytephmejhglcdiaa
