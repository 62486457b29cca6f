/- Gapped arrays in memory: rows of numbers that may be written, the value of a gapped array. No program is named here. -/
import Derived.Test.YtephmejhglcdiaaFn04
import Derived.Test.YtephmejhglcdiaaRow
import Derived.WalkSmall
namespace Go.Proofs.Ytephmejhglcdiaa
open Go.RowKit

theorem bcell {W w1 : World} (hb : Below W.heap.size W w1) : (∀ b o, b < W.heap.size → w1.cell? ⟨b, o, none⟩ = W.cell? ⟨b, o, none⟩) ∧ (∀ b o, b < W.heap.size → w1.frozen? ⟨b, o, none⟩ = W.frozen? ⟨b, o, none⟩) :=
  ⟨fun b o h => hb.cell (p := ⟨b, o, none⟩) h, fun b o h => hb.frozen (p := ⟨b, o, none⟩) h⟩
/-- Numbers of 64 bits. -/
def In64 (z : Int) : Prop := -9223372036854775808 ≤ z ∧ z ≤ 9223372036854775807
def All64 (zs : List Int) : Prop := ∀ i, In64 (zs.getD i 0)

/-- A row of numbers of one kind, in blocks from B on, that may be written. -/
def New (k : IntKind) (w : World) (B : Nat) (a : Option Addr) (zs : List Int) : Prop :=
  zs = [] ∨ ∃ b off, a = some ⟨b, off, none⟩ ∧ B ≤ b ∧ b < w.heap.size ∧ ∀ i, i < zs.length → w.cell? ⟨b, off + i, none⟩ = some (.int k (zs.getD i 0)) ∧ w.frozen? ⟨b, off + i, none⟩ = false
theorem New.lst {k : IntKind} {w : World} {B : Nat} {a : Option Addr} {zs : List Int} (h : New k w B a zs) : Lst k w a zs := by
  rcases h with h0 | ⟨b, off, h1, _, h2, h3⟩
  · exact Or.inl h0
  · exact Or.inr ⟨b, off, h1, h2, fun i hi => (h3 i hi).1⟩
theorem New.below {k : IntKind} {w w' : World} {B : Nat} {a : Option Addr} {zs : List Int} (h : New k w B a zs) (hb : Below w.heap.size w w') : New k w' B a zs := by
  rcases h with h0 | ⟨b, off, h1, hB, h2, h3⟩
  · exact Or.inl h0
  · exact Or.inr ⟨b, off, h1, hB, Nat.lt_of_lt_of_le h2 hb.size, fun i hi => ⟨(hb.cell (p := ⟨b, off + i, none⟩) h2).trans (h3 i hi).1, (hb.frozen (p := ⟨b, off + i, none⟩) h2).trans (h3 i hi).2⟩⟩
theorem New.lower {k : IntKind} {w : World} {B B' : Nat} {a : Option Addr} {zs : List Int} (h : New k w B a zs) (hB : B' ≤ B) : New k w B' a zs := by
  rcases h with h0 | ⟨b, off, h1, hB2, h2⟩
  · exact Or.inl h0
  · exact Or.inr ⟨b, off, h1, Nat.le_trans hB hB2, h2⟩
theorem New.item {k : IntKind} {w : World} {B : Nat} {a : Option Addr} {zs : List Int} (h : New k w B a zs) {i : Nat} (hi : i < zs.length) :
    ∃ b off, a = some ⟨b, off, none⟩ ∧ B ≤ b ∧ b < w.heap.size ∧ w.cell? ⟨b, off + i, none⟩ = some (.int k (zs.getD i 0)) ∧ w.frozen? ⟨b, off + i, none⟩ = false := by
  rcases h with h0 | ⟨b, off, h1, hB, h2, h3⟩
  · subst h0; simp at hi
  · exact ⟨b, off, h1, hB, h2, (h3 i hi).1, (h3 i hi).2⟩
theorem New.of_own {k : IntKind} {w : World} {B : Nat} {e : TypeId} {a : Option Addr} {n c : Nat} {zs : List Int} (h : w.ownsRow B e 1 (.slice a n c) n (zs.map (Value.int k))) : New k w B a zs := by
  rcases h.2 with ⟨_, h0⟩ | ⟨g, c', cur, hv, hb, hg, _, _, hs, _⟩
  · left
    have := h.1
    rw [List.length_map, h0] at this
    exact List.eq_nil_of_length_eq_zero (by omega)
  · injection hv with hA _ _
    subst hA
    refine Or.inr ⟨g, 0, rfl, hb, (Array.getElem?_eq_some_iff.1 hg).1, fun i hi => ⟨?_, ?_⟩⟩
    · have h1 := h.cellAt i (by have := h.1; rw [List.length_map] at this; omega)
      rw [Nat.zero_add, h1, List.getElem?_map, List.getElem?_eq_getElem hi]
      simp [List.getD, List.getElem?_eq_getElem hi]
    · exact h.frozenAt _
theorem New.set {k : IntKind} {w : World} {B b off : Nat} {zs : List Int} (h : New k w B (some ⟨b, off, none⟩) zs) {i : Nat} (hi : i < zs.length) (x : Int) :
    New k (w.setCell ⟨b, off + i, none⟩ (.int k x)) B (some ⟨b, off, none⟩) (zs.set i x) := by
  rcases h with h0 | ⟨b', off', h1, hB, h2, h3⟩
  · subst h0; simp at hi
  · injection h1 with h1
    injection h1 with e1 e2
    subst e1 e2
    have hc := (h3 i hi).1
    refine Or.inr ⟨b, off, rfl, hB, by rw [World.size_setCell]; exact h2, fun j hj => ?_⟩
    rw [List.length_set] at hj
    refine ⟨?_, by rw [World.frozen?_setCell]; exact (h3 j hj).2⟩
    by_cases e : i = j
    · subst e
      rw [World.cell?_setCell_same _ _ _ hc]
      simp [List.getD, hi]
    · rw [World.cell?_setCell_other _ _ _ _ (by intro h; simp only [Addr.mk.injEq] at h; omega), (h3 j hj).1]
      simp [List.getD, e]
theorem New.other {k : IntKind} {w : World} {B : Nat} {a : Option Addr} {zs : List Int} (h : New k w B a zs) {p : Addr} (hp : ∀ q, a = some q → q.block ≠ p.block) (u : Value) : New k (w.setCell p u) B a zs := by
  rcases h with h0 | ⟨b, off, h1, hB, h2, h3⟩
  · exact Or.inl h0
  · subst h1
    refine Or.inr ⟨b, off, rfl, hB, by rw [World.size_setCell]; exact h2, fun j hj => ⟨?_, by rw [World.frozen?_setCell]; exact (h3 j hj).2⟩⟩
    rw [World.cell?_setCell_other _ _ _ _ (by intro h; exact hp _ rfl (by rw [h])), (h3 j hj).1]

/-- Where the four lists of a gapped array begin, and their capacities. -/
structure Ads where
  w : Option Addr
  k : Option Addr
  v : Option Addr
  c : Option Addr
  cw : Nat
  ck : Nat
  cv : Nat
  cc : Nat
def slv (s : Sl) (a : Ads) : Value := .agg #[.int .i64 s.seg, .slice a.w s.words.length a.cw, .slice a.k s.keys.length a.ck, .slice a.v s.vals.length a.cv, .slice a.c s.counts.length a.cc, .int .u64 (s.laid : Int)]
def slCells (s : Sl) (a : Ads) : Array Value := #[.int .i64 s.seg, .slice a.w s.words.length a.cw, .slice a.k s.keys.length a.ck, .slice a.v s.vals.length a.cv, .slice a.c s.counts.length a.cc, .int .u64 (s.laid : Int)]
/-- A gapped array in a box of its own: block g. -/
structure Box (w : World) (g : Nat) (s : Sl) (a : Ads) : Prop where
  lt : g < w.heap.size
  c0 : w.cell? ⟨g, 0, none⟩ = some (.int .i64 s.seg)
  c1 : w.cell? ⟨g, 1, none⟩ = some (.slice a.w s.words.length a.cw)
  c2 : w.cell? ⟨g, 2, none⟩ = some (.slice a.k s.keys.length a.ck)
  c3 : w.cell? ⟨g, 3, none⟩ = some (.slice a.v s.vals.length a.cv)
  c4 : w.cell? ⟨g, 4, none⟩ = some (.slice a.c s.counts.length a.cc)
  c5 : w.cell? ⟨g, 5, none⟩ = some (.int .u64 (s.laid : Int))
  fz : ∀ o, w.frozen? ⟨g, o, none⟩ = false
theorem Box.below {w w' : World} {g : Nat} {s : Sl} {a : Ads} (h : Box w g s a) (hb : Below w.heap.size w w') : Box w' g s a :=
  have hc : ∀ o, w'.cell? ⟨g, o, none⟩ = w.cell? ⟨g, o, none⟩ := fun o => hb.cell (p := ⟨g, o, none⟩) h.lt
  ⟨Nat.lt_of_lt_of_le h.lt hb.size, (hc 0).trans h.c0, (hc 1).trans h.c1, (hc 2).trans h.c2, (hc 3).trans h.c3, (hc 4).trans h.c4, (hc 5).trans h.c5, fun o => (hb.frozen (p := ⟨g, o, none⟩) h.lt).trans (h.fz o)⟩
theorem Box.of_block {w : World} {g : Nat} {s : Sl} {a : Ads} {t : TypeId} (h : w.heap[g]? = some (.cells (slCells s a) t (0, 0))) : Box w g s a := by
  have hlt : g < w.heap.size := (Array.getElem?_eq_some_iff.1 h).1
  refine ⟨hlt, ?_, ?_, ?_, ?_, ?_, ?_, ?_⟩
  all_goals first | (intro o; simp [World.frozen?, h]) | (simp [World.cell?, h, slCells])
theorem Box.new (w : World) (s : Sl) (a : Ads) (t : TypeId) : Box (w.alloc (.cells (slCells s a) t)) w.heap.size s a := Box.of_block (t := t) (by show (w.heap.push _)[w.heap.size]? = _; exact Array.getElem?_push_size)
structure Sl.Ok (s : Sl) : Prop where
  seg : In64 s.seg
  words : Wide s.words
  keys : All64 s.keys
  vals : All64 s.vals
  counts : All64 s.counts
  laid : s.laid < 18446744073709551616
structure Sl.Short (s : Sl) : Prop where
  words : s.words.length ≤ 65536
  keys : s.keys.length ≤ 65536
  vals : s.vals.length ≤ 65536
  counts : s.counts.length ≤ 65536
/-- No list, no room; no more elements than room. -/
structure Caps (s : Sl) (a : Ads) : Prop where
  w0 : a.w = none → s.words.length = 0 ∧ a.cw = 0
  k0 : a.k = none → s.keys.length = 0 ∧ a.ck = 0
  v0 : a.v = none → s.vals.length = 0 ∧ a.cv = 0
  c0 : a.c = none → s.counts.length = 0 ∧ a.cc = 0
  w1 : s.words.length ≤ a.cw
  k1 : s.keys.length ≤ a.ck
  v1 : s.vals.length ≤ a.cv
  c1 : s.counts.length ≤ a.cc
structure Held (w : World) (s : Sl) (a : Ads) : Prop where
  words : Lst .u64 w a.w (ints s.words)
  keys : Lst .i64 w a.k s.keys
  vals : Lst .i64 w a.v s.vals
  counts : Lst .i64 w a.c s.counts
  caps : Caps s a
theorem Held.below {w w' : World} {s : Sl} {a : Ads} (h : Held w s a) (hb : Below w.heap.size w w') : Held w' s a := ⟨h.words.below hb, h.keys.below hb, h.vals.below hb, h.counts.below hb, h.caps⟩
theorem Held.alloc {w : World} {s : Sl} {a : Ads} (h : Held w s a) (o : Obj) : Held (w.alloc o) s a := h.below ((Below.refl _ _).alloc (Nat.le_refl _) o)
/-- The same, in blocks from B on, that may be written. -/
structure Own (w : World) (B : Nat) (s : Sl) (a : Ads) : Prop where
  words : New .u64 w B a.w (ints s.words)
  keys : New .i64 w B a.k s.keys
  vals : New .i64 w B a.v s.vals
  counts : New .i64 w B a.c s.counts
  caps : Caps s a
theorem Own.held {w : World} {B : Nat} {s : Sl} {a : Ads} (h : Own w B s a) : Held w s a := ⟨h.words.lst, h.keys.lst, h.vals.lst, h.counts.lst, h.caps⟩
theorem Own.below {w w' : World} {B : Nat} {s : Sl} {a : Ads} (h : Own w B s a) (hb : Below w.heap.size w w') : Own w' B s a := ⟨h.words.below hb, h.keys.below hb, h.vals.below hb, h.counts.below hb, h.caps⟩
theorem Own.lower {w : World} {B B' : Nat} {s : Sl} {a : Ads} (h : Own w B s a) (hB : B' ≤ B) : Own w B' s a := ⟨h.words.lower hB, h.keys.lower hB, h.vals.lower hB, h.counts.lower hB, h.caps⟩
def Apart (a b : Option Addr) : Prop := ∀ p q, a = some p → b = some q → p.block ≠ q.block
/-- No two of the four lists lie in one block. -/
structure Sep (a : Ads) : Prop where
  wk : Apart a.w a.k
  wv : Apart a.w a.v
  wc : Apart a.w a.c
  kv : Apart a.k a.v
  kc : Apart a.k a.c
  vc : Apart a.v a.c
theorem Apart.symm {a b : Option Addr} (h : Apart a b) : Apart b a := fun p q hp hq e => h q p hq hp e.symm
/-- A box of one pair: block g. -/
structure PBox (w : World) (g : Nat) (p : Int × Int) : Prop where
  lt : g < w.heap.size
  c0 : w.cell? ⟨g, 0, none⟩ = some (.int .i64 p.1)
  c1 : w.cell? ⟨g, 1, none⟩ = some (.int .i64 p.2)
  f0 : w.frozen? ⟨g, 0, none⟩ = false
  f1 : w.frozen? ⟨g, 1, none⟩ = false
theorem PBox.below {w w' : World} {g : Nat} {p : Int × Int} (h : PBox w g p) (hb : Below w.heap.size w w') : PBox w' g p :=
  ⟨Nat.lt_of_lt_of_le h.lt hb.size, (hb.cell (p := ⟨g, 0, none⟩) h.lt).trans h.c0, (hb.cell (p := ⟨g, 1, none⟩) h.lt).trans h.c1, (hb.frozen (p := ⟨g, 0, none⟩) h.lt).trans h.f0, (hb.frozen (p := ⟨g, 1, none⟩) h.lt).trans h.f1⟩
theorem PBox.of_block {w : World} {g : Nat} {p : Int × Int} {t : TypeId} (h : w.heap[g]? = some (.cells #[.int .i64 p.1, .int .i64 p.2] t (0, 0))) : PBox w g p := by
  have hlt : g < w.heap.size := (Array.getElem?_eq_some_iff.1 h).1
  refine ⟨hlt, ?_, ?_, ?_, ?_⟩
  all_goals first | (simp [World.cell?, h]) | (simp [World.frozen?, h])
theorem PBox.new (w : World) (p : Int × Int) (t : TypeId) : PBox (w.alloc (.cells #[.int .i64 p.1, .int .i64 p.2] t)) w.heap.size p := PBox.of_block (t := t) (by show (w.heap.push _)[w.heap.size]? = _; exact Array.getElem?_push_size)
def pv (p : Int × Int) : Value := .agg #[.int .i64 p.1, .int .i64 p.2]
/-- The cells of pairs, one behind the other. -/
def pcells (ps : List (Int × Int)) : List Value := ps.flatMap fun p => [.int .i64 p.1, .int .i64 p.2]
theorem pcells_length (ps : List (Int × Int)) : (pcells ps).length = ps.length * 2 := by
  induction ps with
  | nil => rfl
  | cons p r ih => rw [pcells, List.flatMap_cons, List.length_append, ← pcells, ih, List.length_cons]; simp; omega
theorem pcells_snoc (ps : List (Int × Int)) (p : Int × Int) : pcells (ps ++ [p]) = pcells ps ++ [.int .i64 p.1, .int .i64 p.2] := by simp [pcells]
theorem pcells_append (ps qs : List (Int × Int)) : pcells (ps ++ qs) = pcells ps ++ pcells qs := by simp [pcells]
theorem pcells_one (ps : List (Int × Int)) : ∀ u ∈ pcells ps, u.oneCell' = true := by
  intro u hu
  simp only [pcells, List.mem_flatMap, List.mem_cons, List.not_mem_nil, or_false] at hu
  obtain ⟨p, _, rfl | rfl⟩ := hu <;> rfl
theorem pcells_at (ps : List (Int × Int)) (i : Nat) (h : i < ps.length) : (pcells ps)[i * 2]? = some (.int .i64 (ps.getD i (0, 0)).1) ∧ (pcells ps)[i * 2 + 1]? = some (.int .i64 (ps.getD i (0, 0)).2) := by
  induction ps generalizing i with
  | nil => simp at h
  | cons p r ih =>
    have e : pcells (p :: r) = .int .i64 p.1 :: .int .i64 p.2 :: pcells r := by simp [pcells]
    rw [e]
    cases i with
    | zero => simp
    | succ i =>
      have := ih i (by simpa using h)
      rw [show (i + 1) * 2 = i * 2 + 1 + 1 from by omega, show i * 2 + 1 + 1 + 1 = (i * 2 + 1) + 1 + 1 from rfl]
      simpa using this
/-- The slice that begins at 'a' reads as these pairs. -/
def PLst (w : World) (a : Option Addr) (ps : List (Int × Int)) : Prop := Cells w a (pcells ps)
theorem PLst.below {w w' : World} {a : Option Addr} {ps : List (Int × Int)} (h : PLst w a ps) (hb : Below w.heap.size w w') : PLst w' a ps := Cells.below h hb
theorem PLst.pair {w : World} {a : Option Addr} {ps : List (Int × Int)} (h : PLst w a ps) {i : Nat} (hi : i < ps.length) :
    ∃ b off, a = some ⟨b, off, none⟩ ∧ b < w.heap.size ∧ w.cell? ⟨b, off + i * 2, none⟩ = some (.int .i64 (ps.getD i (0, 0)).1) ∧ w.cell? ⟨b, off + i * 2 + 1, none⟩ = some (.int .i64 (ps.getD i (0, 0)).2) := by
  have hl := pcells_length ps
  rcases h with h0 | ⟨b, off, h1, h2, h3⟩
  · rw [h0] at hl; simp at hl; omega
  · exact ⟨b, off, h1, h2, (h3 _ (by omega)).trans (pcells_at ps i hi).1, (h3 _ (by omega)).trans (pcells_at ps i hi).2⟩
/-- 'append(v, x)' of one element of several cells, which the walk has laid in a block of its own: onto a row that is owned. -/
theorem wpList_moreN {P : Program} {T E : TypeId} {z : Value} {size bytes : Nat} (hE : Elem P T E z size bytes) {w : World} {ops : Array Oper} {rest : List Oper} {o : Oper} {act : Act} {Q : Exit → Act → World → Prop} (hgd : o.guard = none) (s x : Operand)
    (ho : o.op = .call { callee := .builtin .append, args := #[s, x], argTypes := #[T, T] })
    (W : World) (t : TypeId) (us : List Value) (hW : w = W.alloc (.cells us.toArray t)) (hus : us.length = size) (base n : Nat) (v : Value) (xs : List Value) (hs : act.eval s = v) (hx : act.eval x = .slice (some ⟨W.heap.size, 0, none⟩) 1 1)
    (hown : W.ownsRow base E size v n xs) (h1 : ∀ u ∈ us, u.oneCell' = true) (hbase : base ≤ W.heap.size) (h63 : n + 1 ≤ maxLen) (hby : (n + 1) * bytes ≤ 140737488355328)
    (h : ∀ v' w', w'.ownsRow base E size v' (n + 1) (xs ++ us) → Below base W w' → wpList P ops Q rest (act.put o.dst v') w') : wpList P ops Q (o :: rest) act w := by
  subst hW
  obtain ⟨i0, hi0, hz0, hz1, hz2⟩ := hE.info
  refine wpList_append_own _ hgd s x T ho base E i0 z size bytes hE.und hi0 hz0 hz1 hz2 hE.zero hE.pos v n xs hs (hown.alloc _) ⟨W.heap.size, 0, none⟩ 1 1 us hx (by rw [hus, Nat.one_mul]) ?_ h1 h63 hby (by simp; omega) ?_
  · intro j y hj
    have hjl : j < us.length := (List.getElem?_eq_some_iff.1 hj).1
    have hh : (W.alloc (.cells us.toArray t)).heap[W.heap.size]? = some (.cells us.toArray t) := by show (W.heap.push _)[W.heap.size]? = _; exact Array.getElem?_push_size
    rw [add_at, Nat.zero_add]
    simp only [World.cell?, hh]
    simpa using hj
  · intro v1 w1 hown1 hgrow1 _
    exact h v1 w1 hown1 (((Below.refl _ _).alloc hbase _).grown hgrow1 (by simp; omega) (fun g hg => (World.ownsRow.lt hown g hg).1))
theorem getD_64 {zs : List Int} (h : All64 zs) (i : Nat) : In64 (zs.getD i 0) := h i
end Go.Proofs.Ytephmejhglcdiaa
