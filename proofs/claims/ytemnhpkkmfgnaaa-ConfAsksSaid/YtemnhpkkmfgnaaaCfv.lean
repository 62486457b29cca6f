/- Configs in memory: the value of a config, its box. No program is named here. -/
import Derived.Test.YtemnhpkkmfgnaaaFn05
import Derived.WalkKit
import Derived.Lib.Hide
import Derived.Below
namespace Go.Proofs.Ytemnhpkkmfgnaaa
open Go.RowKit

def cfv (c : Cf) : Value := .agg #[.int .u8 c.tag, .int .i64 c.most, .int .i64 c.seg, .int .i64 c.least, .int .i64 c.den, .int .i64 c.ll, .int .i64 c.rl, .int .i64 c.rh, .int .i64 c.lh]
def cfCells (c : Cf) : Array Value := #[.int .u8 c.tag, .int .i64 c.most, .int .i64 c.seg, .int .i64 c.least, .int .i64 c.den, .int .i64 c.ll, .int .i64 c.rl, .int .i64 c.rh, .int .i64 c.lh]
def I64 (z : Int) : Prop := -9223372036854775808 ≤ z ∧ z ≤ 9223372036854775807
/-- The numbers of a config are numbers of their types. -/
structure Cf.In (c : Cf) : Prop where
  tag0 : 0 ≤ c.tag
  tag1 : c.tag ≤ 255
  most : I64 c.most
  seg : I64 c.seg
  least : I64 c.least
  den : I64 c.den
  ll : I64 c.ll
  rl : I64 c.rl
  rh : I64 c.rh
  lh : I64 c.lh
/-- A config in a box of its own: block g. -/
structure CBox (w : World) (g : Nat) (c : Cf) : Prop where
  lt : g < w.heap.size
  c0 : w.cell? ⟨g, 0, none⟩ = some (.int .u8 c.tag)
  c1 : w.cell? ⟨g, 1, none⟩ = some (.int .i64 c.most)
  c2 : w.cell? ⟨g, 2, none⟩ = some (.int .i64 c.seg)
  c3 : w.cell? ⟨g, 3, none⟩ = some (.int .i64 c.least)
  c4 : w.cell? ⟨g, 4, none⟩ = some (.int .i64 c.den)
  c5 : w.cell? ⟨g, 5, none⟩ = some (.int .i64 c.ll)
  c6 : w.cell? ⟨g, 6, none⟩ = some (.int .i64 c.rl)
  c7 : w.cell? ⟨g, 7, none⟩ = some (.int .i64 c.rh)
  c8 : w.cell? ⟨g, 8, none⟩ = some (.int .i64 c.lh)
  fz : ∀ o, w.frozen? ⟨g, o, none⟩ = false
theorem CBox.below {w w' : World} {g : Nat} {c : Cf} (h : CBox w g c) (hb : Below w.heap.size w w') : CBox w' g c :=
  have hc : ∀ o, w'.cell? ⟨g, o, none⟩ = w.cell? ⟨g, o, none⟩ := fun o => hb.cell (p := ⟨g, o, none⟩) h.lt
  ⟨Nat.lt_of_lt_of_le h.lt hb.size, (hc 0).trans h.c0, (hc 1).trans h.c1, (hc 2).trans h.c2, (hc 3).trans h.c3, (hc 4).trans h.c4, (hc 5).trans h.c5, (hc 6).trans h.c6, (hc 7).trans h.c7, (hc 8).trans h.c8, fun o => (hb.frozen (p := ⟨g, o, none⟩) h.lt).trans (h.fz o)⟩
theorem CBox.of_block {w : World} {g : Nat} {c : Cf} {t : TypeId} (h : w.heap[g]? = some (.cells (cfCells c) t (0, 0))) : CBox w g c := by
  have hlt : g < w.heap.size := (Array.getElem?_eq_some_iff.1 h).1
  refine ⟨hlt, ?_, ?_, ?_, ?_, ?_, ?_, ?_, ?_, ?_, ?_⟩
  all_goals first | (intro o; simp [World.frozen?, h]) | (simp [World.cell?, h, cfCells])
theorem CBox.new (w : World) (c : Cf) (t : TypeId) : CBox (w.alloc (.cells (cfCells c) t)) w.heap.size c := CBox.of_block (t := t) (by show (w.heap.push _)[w.heap.size]? = _; exact Array.getElem?_push_size)

/-- A list of bools in memory. -/
def BLst (w : World) (bk off : Nat) (bs : List Bool) : Prop := ∀ j, j < bs.length → w.cell? ⟨bk, off + j, none⟩ = some (.bool (bs.getD j false))
def idxB (bs : List Bool) : Int := if bs.all id then -1 else ((bs.takeWhile id).length : Int)
theorem all_take_b (bs : List Bool) (k : Nat) (h : k < bs.length) (hb : bs.getD k false = true) (ha : (bs.take k).all id = true) : (bs.take (k + 1)).all id = true := by
  rw [List.take_succ_eq_append_getElem h]
  simp only [List.getD, List.getElem?_eq_getElem h, Option.getD_some] at hb
  rw [List.all_append, ha, hb]; rfl
theorem idx_at (bs : List Bool) : ∀ k, k < bs.length → bs.getD k false = false → (bs.take k).all id = true → idxB bs = k ∧ bs.all id = false := by
  induction bs with
  | nil => intro k hk; simp at hk
  | cons b bs ih =>
    intro k hk hb ha
    cases k with
    | zero =>
      have : b = false := by simpa using hb
      subst this
      simp [idxB]
    | succ k =>
      have hbt : b = true := by simp at ha; exact ha.1
      subst hbt
      have ha' : (bs.take k).all id = true := by simpa using ha
      obtain ⟨i1, i2⟩ := ih k (by simpa using hk) (by simpa using hb) ha'
      unfold idxB at i1 ⊢
      rw [i2] at i1
      have e : (true :: bs).all id = false := by rw [List.all_cons, i2]; rfl
      have e2 : (true :: bs).takeWhile id = true :: bs.takeWhile id := by rw [List.takeWhile_cons]; rfl
      rw [e, e2]
      simp only [Bool.false_eq_true, if_false] at i1 ⊢
      rw [List.length_cons]
      exact ⟨by push_cast; omega, trivial⟩
theorem idx_ge (bs : List Bool) : decide (0 ≤ idxB bs) = !bs.all id := by
  unfold idxB
  cases bs.all id
  · simp
  · simp
theorem idx_lo (bs : List Bool) : -1 ≤ idxB bs := by unfold idxB; split <;> omega
theorem idx_hi (bs : List Bool) : idxB bs ≤ bs.length := by
  unfold idxB
  split
  · omega
  · have : (bs.takeWhile id).length ≤ bs.length := List.Sublist.length_le (List.takeWhile_sublist _)
    omega
end Go.Proofs.Ytemnhpkkmfgnaaa
