/- Rows of one's own inside a range over a function: append as a step of a region, what stays where a box is turned, a function's return past one mark. No program is named here. -/
import Derived.Test.YtephmejhglcdiaaRangeK
import Derived.Test.YtephmejhglcdiaaRow
namespace Go.Proofs.Ytephmejhglcdiaa
open Go.RowKit Go.Shelf
attribute [local go_sem] Oper.semAt_some
set_option linter.unusedVariables false
set_option linter.unusedSimpArgs false

theorem own_keeps {W W' : World} {base : Nat} {e : TypeId} {size : Nat} {v : Value} {n : Nat} {xs : List Value} (h : W.ownsRow base e size v n xs) (hg : W.grownBy W' v.ownBlock) : KeepsOthers W W' := by
  refine KeepsOthers.of_grownBy hg fun j o hj ho => ?_
  rcases h.2 with ⟨hv, _⟩ | ⟨g, c, cur, hv, _, hh, _⟩
  · subst hv; simp [Value.ownBlock] at hj
  · subst hv
    simp [Value.ownBlock] at hj
    subst hj
    rw [hh] at ho; cases ho; rfl
/-- 'append(v, x)' of one element, which the walk has laid in a block of its own, onto a row that is owned: one step of a region, inside a round. -/
theorem step_moreIn {F : Fence} {m : Nat} {P : Program} {T E : TypeId} {z : Value} {size bytes : Nat} (hE : Elem P T E z size bytes) {w : World} {ops : Array Oper} {o : Oper} {act : Act} {K : Act → World → Prop} {Q : Exit → Act → World → Prop} {FF : Prop} (hgd : o.guard = none) (s x : Operand)
    (ho : o.op = .call { callee := .builtin .append, args := #[s, x], argTypes := #[T, T] })
    (W : World) (t : TypeId) (us : List Value) (hW : w = W.alloc (.cells us.toArray t)) (hus : us.length = size) (base n : Nat) (v : Value) (xs : List Value) (hs : act.eval s = v) (hx : act.eval x = .slice (some ⟨W.heap.size, 0, none⟩) 1 1)
    (hown : W.ownsRow base E size v n xs) (h1 : ∀ u ∈ us, u.oneCell' = true) (hbase : base ≤ W.heap.size) (h63 : n + 1 ≤ maxLen) (hby : (n + 1) * bytes ≤ 140737488355328)
    (h : ∀ v' w', w'.ownsRow base E size v' (n + 1) (xs ++ us) → Below base W w' → KeepsOthers W w' → K (act.put o.dst v') w') : if Region.wanted o (yielded ops act.tmps) = true then Oper.wpIn F m P o act w K Q else FF := by
  have hw : Region.wanted o (yielded ops act.tmps) = true := by simp [Region.wanted, hgd]
  rw [if_pos hw]
  subst hW
  obtain ⟨i0, hi0, hz0, hz1, hz2⟩ := hE.info
  obtain ⟨v', w', hrun, r1, r2, _⟩ := run_append_own (P := P) (w := W.alloc (.cells us.toArray t)) base T o.type E i0 z size bytes hE.und hi0 hz0 hz1 hz2 hE.zero hE.pos v n xs (hown.alloc _) ⟨W.heap.size, 0, none⟩ 1 1 us (by rw [hus, Nat.one_mul]) (by
    intro j y hj
    have hjl : j < us.length := (List.getElem?_eq_some_iff.1 hj).1
    have hh : (W.alloc (.cells us.toArray t)).heap[W.heap.size]? = some (.cells us.toArray t) := by show (W.heap.push _)[W.heap.size]? = _; exact Array.getElem?_push_size
    rw [add_at, Nat.zero_add]
    simp only [World.cell?, hh]
    simpa using hj) h1 h63 hby (by simp; omega)
  unfold Oper.wpIn
  refine ⟨?_, ?_⟩
  · simp [Oper.about, ho, resolve, Target.leads, Sem.run_pure]
  · rw [Oper.semAt_plain F _ _ (by rw [ho]; intro c hc'; cases hc')]
    simp [execOp, ho, resolve, invoke, builtin, hs, hx, hrun, Result.andThen]
    exact h _ _ r1 (((Below.refl _ _).alloc hbase _).grown r2 (by simp; omega) (fun g hg => (World.ownsRow.lt hown g hg).1)) ((KeepsOthers.alloc _ _).trans (own_keeps (hown.alloc _) r2))
/-- A function returns past one mark: only that is turned. -/
theorem leaves_one {F : Fence} {n : Nat} {P : Program} {fn : Func} {tmps : Array Value} {R : Ending → World → Prop} {D : Nat} {w : World} (hD : w.heap[D]? = some (.deferred (some [])))
    (hL : LeavesIn F n P fn tmps R [] .returning (w.putObj D (.deferred none))) : LeavesInM F n P fn tmps R [{ target := .collected D, args := #[] }] .returning w :=
  ⟨by simp, .inl ⟨D, _, rfl, run_takeDeferred hD, hL⟩⟩
theorem none_ownFrom (n : Nat) : OwnFrom n (fun (_ : List Nat) (_ : World) => False) := fun _ _ _ _ h _ _ => h
theorem row_far {w : World} {base : Nat} {e : TypeId} {size : Nat} {v : Value} {n : Nat} {xs : List Value} (h : w.ownsRow base e size v n xs) {b : Nat} (hb : b < base) (u : Value) : (w.setCell ⟨b, 0, none⟩ u).ownsRow base e size v n xs := by
  refine ⟨h.1, ?_⟩
  rcases h.2 with h2 | ⟨g, c, cur, hv, hg, hh, r⟩
  · exact Or.inl h2
  · exact Or.inr ⟨g, c, cur, hv, hg, (Below.heap_setCell w ⟨b, 0, none⟩ u g (by show g ≠ b; omega)).trans hh, r⟩
/-- A box of another type stays where a row grows. -/
theorem box_grown {W W' : World} {base : Nat} {e t : TypeId} {size : Nat} {v u : Value} {n b : Nat} {xs : List Value} (h : W.ownsRow base e size v n xs) (hg : W.grownBy W' v.ownBlock) (hb : Boxed W b t u) (ht : t ≠ e) : Boxed W' b t u := by
  refine (hg.block b hb.lt ?_).trans hb
  intro hE
  rcases h.2 with ⟨hv, _⟩ | ⟨g, c, cur, hv, _, hh, _⟩
  · subst hv; simp [Value.ownBlock] at hE
  · subst hv
    simp [Value.ownBlock] at hE
    subst hE
    rw [show W.heap[b]? = _ from hb] at hh
    cases hh
    exact ht rfl
/-- As 'step_moreIn': what is said of boxes of other types stays, wherever they lie. -/
theorem step_moreBx {F : Fence} {m : Nat} {P : Program} {T E : TypeId} {z : Value} {size bytes : Nat} (hE : Elem P T E z size bytes) {w : World} {ops : Array Oper} {o : Oper} {act : Act} {K : Act → World → Prop} {Q : Exit → Act → World → Prop} {FF : Prop} (hgd : o.guard = none) (s x : Operand)
    (ho : o.op = .call { callee := .builtin .append, args := #[s, x], argTypes := #[T, T] })
    (W : World) (t : TypeId) (us : List Value) (hW : w = W.alloc (.cells us.toArray t)) (hus : us.length = size) (base n : Nat) (v : Value) (xs : List Value) (hs : act.eval s = v) (hx : act.eval x = .slice (some ⟨W.heap.size, 0, none⟩) 1 1)
    (hown : W.ownsRow base E size v n xs) (h1 : ∀ u ∈ us, u.oneCell' = true) (hbase : base ≤ W.heap.size) (h63 : n + 1 ≤ maxLen) (hby : (n + 1) * bytes ≤ 140737488355328)
    (h : ∀ v' w', w'.ownsRow base E size v' (n + 1) (xs ++ us) → Below base W w' → KeepsOthers W w' → (∀ b t u, t ≠ E → Boxed W b t u → Boxed w' b t u) → K (act.put o.dst v') w') : if Region.wanted o (yielded ops act.tmps) = true then Oper.wpIn F m P o act w K Q else FF := by
  have hw : Region.wanted o (yielded ops act.tmps) = true := by simp [Region.wanted, hgd]
  rw [if_pos hw]
  subst hW
  obtain ⟨i0, hi0, hz0, hz1, hz2⟩ := hE.info
  obtain ⟨v', w', hrun, r1, r2, _⟩ := run_append_own (P := P) (w := W.alloc (.cells us.toArray t)) base T o.type E i0 z size bytes hE.und hi0 hz0 hz1 hz2 hE.zero hE.pos v n xs (hown.alloc _) ⟨W.heap.size, 0, none⟩ 1 1 us (by rw [hus, Nat.one_mul]) (by
    intro j y hj
    have hjl : j < us.length := (List.getElem?_eq_some_iff.1 hj).1
    have hh : (W.alloc (.cells us.toArray t)).heap[W.heap.size]? = some (.cells us.toArray t) := by show (W.heap.push _)[W.heap.size]? = _; exact Array.getElem?_push_size
    rw [add_at, Nat.zero_add]
    simp only [World.cell?, hh]
    simpa using hj) h1 h63 hby (by simp; omega)
  unfold Oper.wpIn
  refine ⟨?_, ?_⟩
  · simp [Oper.about, ho, resolve, Target.leads, Sem.run_pure]
  · rw [Oper.semAt_plain F _ _ (by rw [ho]; intro c hc'; cases hc')]
    simp [execOp, ho, resolve, invoke, builtin, hs, hx, hrun, Result.andThen]
    exact h _ _ r1 (((Below.refl _ _).alloc hbase _).grown r2 (by simp; omega) (fun g hg => (World.ownsRow.lt hown g hg).1)) ((KeepsOthers.alloc _ _).trans (own_keeps (hown.alloc _) r2)) (fun b t u ht hb => box_grown (hown.alloc _) r2 (hb.alloc _) ht)
/-- A row stays where a box of another type is turned. -/
theorem row_off {w : World} {base : Nat} {e t : TypeId} {size : Nat} {v u : Value} {n b : Nat} {xs : List Value} (h : w.ownsRow base e size v n xs) (hb : Boxed w b t u) (ht : t ≠ e) (u' : Value) : (w.setCell ⟨b, 0, none⟩ u').ownsRow base e size v n xs := by
  refine ⟨h.1, ?_⟩
  rcases h.2 with h2 | ⟨g, c, cur, hv, hg, hh, r⟩
  · exact Or.inl h2
  · refine Or.inr ⟨g, c, cur, hv, hg, (Below.heap_setCell w ⟨b, 0, none⟩ u' g ?_).trans hh, r⟩
    show g ≠ b
    rintro rfl
    rw [show w.heap[g]? = _ from hb] at hh
    cases hh
    exact ht rfl
theorem boxed_low {w w' : World} {n b : Nat} {t : TypeId} {v : Value} (h : Boxed w b t v) (hn : b < n) (hb : Below n w w') : Boxed w' b t v := (hb.block b hn).trans h
end Go.Proofs.Ytephmejhglcdiaa
