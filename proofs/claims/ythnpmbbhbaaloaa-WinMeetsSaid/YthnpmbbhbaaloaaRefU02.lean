/- What the document's own answers of layer 2 (package shelfmarkref02) return: Put. What they answer is new memory. -/
import Derived.Test.YthnpmbbhbaaloaaRefS02
import Derived.Test.YthnpmbbhbaaloaaFn04
namespace Go.Proofs.Ythnpmbbhbaaloaa
open Go.RowKit
set_option linter.unusedVariables false

def vals (ws : List Nat) : List Value := ws.map fun x : Nat => Value.int .u64 (x : Int)
theorem vals_one (ws : List Nat) : ∀ u ∈ vals ws, u.oneCell' = true := by
  intro u hu
  simp only [vals, List.mem_map] at hu
  obtain ⟨x, _, rfl⟩ := hu
  rfl
theorem vals_get (ws : List Nat) (i : Nat) (h : i < ws.length) : (vals ws)[i]? = some (.int .u64 ((ws.getD i 0 : Nat) : Int)) := by
  simp [vals, List.getD, List.getElem?_eq_getElem h]
theorem vals_set (ws : List Nat) (i x : Nat) : (vals ws).set i (.int .u64 (x : Int)) = vals (ws.set i x) := by
  simp [vals, List.map_set]
theorem news_of {w : World} {b off : Nat} {ws : List Nat} (h : Lst .u64 w (some ⟨b, off, none⟩) (ints ws)) : ∀ (j : Nat) (u : Value), (vals ws)[j]? = some u → ∀ o : Obj, (w.alloc o).cell? ((⟨b, off, none⟩ : Addr).add j) = some u := by
  intro j u hu o
  have hj : j < ws.length := by
    rcases Nat.lt_or_ge j ws.length with h1 | h1
    · exact h1
    · rw [List.getElem?_eq_none (by simp [vals]; exact h1)] at hu; cases hu
  rw [vals_get ws j hj] at hu
  injection hu with hu
  subst hu
  obtain ⟨b', o', e, hb, hc⟩ := h.word hj
  injection e with e
  injection e with e1 e2
  subst e1 e2
  have : (⟨b, off, none⟩ : Addr).add j = ⟨b, off + j, none⟩ := by
    unfold Addr.add
    split <;> simp_all
  rw [this, World.cell?_alloc_past _ _ _ hb]
  exact hc
theorem own_base {w : World} {base base' : Nat} {e : TypeId} {size : Nat} {v : Value} {n : Nat} {xs : List Value} (h : w.ownsRow base e size v n xs) (hb : base' ≤ base) : w.ownsRow base' e size v n xs := by
  refine ⟨h.1, ?_⟩
  rcases h.2 with h2 | ⟨g, c, cur, hv, hg, r⟩
  · exact Or.inl h2
  · exact Or.inr ⟨g, c, cur, hv, Nat.le_trans hb hg, r⟩
theorem own_form {w1 : World} {base : Nat} {e : TypeId} {v1 : Value} {ws : List Nat} (h : w1.ownsRow base e 1 v1 (0 + ws.length) ([] ++ vals ws)) (hpos : 0 < ws.length) :
    ∃ g c1, v1 = .slice (some ⟨g, 0, none⟩) ws.length c1 ∧ w1.ownsRow base e 1 (.slice (some ⟨g, 0, none⟩) ws.length c1) ws.length (vals ws) ∧ base ≤ g := by
  rw [Nat.zero_add, List.nil_append] at h
  rcases h.2 with ⟨_, h0⟩ | ⟨g, c1, cur, hv, hb, _⟩
  · omega
  · subst hv
    exact ⟨g, c1, rfl, h, hb⟩

theorem putW_length (ws : List Nat) (s : Nat) (is : Bool) : (Oc.putW ws s is).length = ws.length := by simp [Oc.putW]
theorem putW_same {ws : List Nat} {s : Nat} {is : Bool} (h : Oc.isB ws s = is) : Oc.putW ws s is = ws := by
  unfold Oc.isB at h
  unfold Oc.putW Oc.putN
  rw [if_pos h]
  apply List.ext_getElem?
  intro i
  rw [List.getElem?_set]
  split
  · rename_i e
    subst e
    split
    · rename_i h2
      simp [List.getD, List.getElem?_eq_getElem h2]
    · rename_i h2
      rw [List.getElem?_eq_none (by omega)]
  · rfl

theorem pow_le63 (k : Nat) (h : k ≤ 63) : (2 : Int) ^ k ≤ 9223372036854775808 := by
  have : 2 ^ k ≤ 2 ^ 63 := Nat.pow_le_pow_right (by decide) h
  have e1 : ((2 ^ k : Nat) : Int) = 2 ^ k := by simp
  omega
theorem pow_pos' (k : Nat) : (1 : Int) ≤ 2 ^ k := by
  have := Nat.two_pow_pos k
  have e1 : ((2 ^ k : Nat) : Int) = 2 ^ k := by simp
  omega
theorem pow_succ' (k : Nat) : (2 : Int) ^ (k + 1) = 2 * 2 ^ k := by rw [Int.pow_succ, Int.mul_comm]
theorem cast_add (x j : Nat) : ((x + 2 ^ j : Nat) : Int) = (x : Int) + 2 ^ j := by simp
theorem cast_sub (x j : Nat) (h : 2 ^ j ≤ x) : ((x - 2 ^ j : Nat) : Int) = (x : Int) - 2 ^ j := by rw [Int.ofNat_sub h]; simp

end Go.Proofs.Ythnpmbbhbaaloaa
