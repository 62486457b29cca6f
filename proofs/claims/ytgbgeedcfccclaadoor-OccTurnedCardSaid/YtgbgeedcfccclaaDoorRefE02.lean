/- What the document's own answers of layer 2 (package shelfmarkref02) return: Put, With. What they answer is new memory. -/
import Derived.Test.YtgbgeedcfccclaaDoorRefD02
import Derived.Test.YtgbgeedcfccclaaDoorBits
namespace Go.Proofs.YtgbgeedcfccclaaDoor
open Go.RowKit
set_option linter.unusedVariables false

theorem u64Info : (Tryd.prog.info? 22).map (fun i => (i.zero, i.size, i.bytes)) = some (some (.int .u64 0), 1, 8) := by kernel_rfl
def vals (ws : List Nat) : List Value := ws.map fun x : Nat => Value.int .u64 (x : Int)
theorem vals_one (ws : List Nat) : ∀ u ∈ vals ws, u.oneCell' = true := by
  intro u hu
  simp only [vals, List.mem_map] at hu
  obtain ⟨x, _, rfl⟩ := hu
  rfl
theorem vals_get (ws : List Nat) (i : Nat) (h : i < ws.length) : (vals ws)[i]? = some (.int .u64 ((ws.getD i 0 : Nat) : Int)) := by
  simp [vals, List.getD, List.getElem?_eq_getElem h]
theorem vals_set (ws : List Nat) (i x : Nat) : (vals ws).set i (.int .u64 (x : Int)) = vals (ws.set i x) := by
  simp [vals, List.map_set]
theorem news_of {w : World} {b off : Nat} {ws : List Nat} (h : Lst .u64 w (some ⟨b, off, none⟩) (ints ws)) : ∀ (j : Nat) (u : Value), (vals ws)[j]? = some u → ∀ o : Obj, (w.alloc o).cell? ((⟨b, off, none⟩ : Addr).add j) = some u := by
  intro j u hu o
  have hj : j < ws.length := by
    rcases Nat.lt_or_ge j ws.length with h1 | h1
    · exact h1
    · rw [List.getElem?_eq_none (by simp [vals]; exact h1)] at hu; cases hu
  rw [vals_get ws j hj] at hu
  injection hu with hu
  subst hu
  obtain ⟨b', o', e, hb, hc⟩ := h.word hj
  injection e with e
  injection e with e1 e2
  subst e1 e2
  have : (⟨b, off, none⟩ : Addr).add j = ⟨b, off + j, none⟩ := by
    unfold Addr.add
    split <;> simp_all
  rw [this, World.cell?_alloc_past _ _ _ hb]
  exact hc
theorem own_base {w : World} {base base' : Nat} {e : TypeId} {size : Nat} {v : Value} {n : Nat} {xs : List Value} (h : w.ownsRow base e size v n xs) (hb : base' ≤ base) : w.ownsRow base' e size v n xs := by
  refine ⟨h.1, ?_⟩
  rcases h.2 with h2 | ⟨g, c, cur, hv, hg, r⟩
  · exact Or.inl h2
  · exact Or.inr ⟨g, c, cur, hv, Nat.le_trans hb hg, r⟩
theorem own_form {w1 : World} {base : Nat} {e : TypeId} {v1 : Value} {ws : List Nat} (h : w1.ownsRow base e 1 v1 (0 + ws.length) ([] ++ vals ws)) (hpos : 0 < ws.length) :
    ∃ g c1, v1 = .slice (some ⟨g, 0, none⟩) ws.length c1 ∧ w1.ownsRow base e 1 (.slice (some ⟨g, 0, none⟩) ws.length c1) ws.length (vals ws) ∧ base ≤ g := by
  rw [Nat.zero_add, List.nil_append] at h
  rcases h.2 with ⟨_, h0⟩ | ⟨g, c1, cur, hv, hb, _⟩
  · omega
  · subst hv
    exact ⟨g, c1, rfl, h, hb⟩

def Oc.putW (ws : List Nat) (s : Nat) (is : Bool) : List Nat := ws.set (s / 64) (Oc.putN (ws.getD (s / 64) 0) (s % 64) is)
theorem putW_length (ws : List Nat) (s : Nat) (is : Bool) : (Oc.putW ws s is).length = ws.length := by simp [Oc.putW]
theorem putW_same {ws : List Nat} {s : Nat} {is : Bool} (h : Oc.isB ws s = is) : Oc.putW ws s is = ws := by
  unfold Oc.isB at h
  unfold Oc.putW Oc.putN
  rw [if_pos h]
  apply List.ext_getElem?
  intro i
  rw [List.getElem?_set]
  split
  · rename_i e
    subst e
    split
    · rename_i h2
      simp [List.getD, List.getElem?_eq_getElem h2]
    · rename_i h2
      rw [List.getElem?_eq_none (by omega)]
  · rfl

def PutPost (ws : List Nat) (s : Nat) (is : Bool) (w : World) (e : Ending) (w' : World) : Prop :=
  ∃ v, e = .returned v ∧ w'.ownsRow w.heap.size 22 1 v ws.length (vals (Oc.putW ws s is)) ∧ Below w.heap.size w w'

theorem pow_le63 (k : Nat) (h : k ≤ 63) : (2 : Int) ^ k ≤ 9223372036854775808 := by
  have : 2 ^ k ≤ 2 ^ 63 := Nat.pow_le_pow_right (by decide) h
  have e1 : ((2 ^ k : Nat) : Int) = 2 ^ k := by simp
  omega
theorem pow_pos' (k : Nat) : (1 : Int) ≤ 2 ^ k := by
  have := Nat.two_pow_pos k
  have e1 : ((2 ^ k : Nat) : Int) = 2 ^ k := by simp
  omega
theorem pow_succ' (k : Nat) : (2 : Int) ^ (k + 1) = 2 * 2 ^ k := by rw [Int.pow_succ, Int.mul_comm]
theorem cast_add (x j : Nat) : ((x + 2 ^ j : Nat) : Int) = (x : Int) + 2 ^ j := by simp
theorem cast_sub (x j : Nat) (h : 2 ^ j ≤ x) : ((x - 2 ^ j : Nat) : Int) = (x : Int) - 2 ^ j := by rw [Int.ofNat_sub h]; simp

set_option maxHeartbeats 1000000 in
theorem r2Put_same (a : Option Addr) (cap : Nat) (ws : List Nat) (s : Nat) (is : Bool) (w : World) (hl : Lst .u64 w a (ints ws)) (hw : Wide ws) (hn : ws.length ≤ 65536) (hs : s < 64 * ws.length) (hbit : Oc.isB ws s = is) :
    Calls Tryd.prog 39 #[.slice a ws.length cap, .int .i64 (s : Int), .bool is] w (PutPost ws s is w) := by
  obtain ⟨b, off, rfl, _, _⟩ := hl.word (i := s / 64) (by omega)
  have HL := Lib.hid hl
  have HW := Lib.hid hw
  have hpos : 0 < ws.length := by omega
  have HN := Lib.hid (news_of HL.out)
  obtain ⟨i0, hi0, hz0, hz1, hz2⟩ := info_parts u64Info
  have I0 := Lib.hid hi0
  have Z0 := Lib.hid hz0
  have Z1 := Lib.hid hz1
  have Z2 := Lib.hid hz2
  clear hi0 hz0 hz1 hz2 hl hw
  have HP := Lib.hid (putW_same hbit)
  cases is
  all_goals
    go_enter Tryd.func39, Tryd.ntmps39
    go_wp2_with (first | (at_builtin; refine wpList_append_own _ rfl (.tmp 10) (.tmp 11) 23 rfl w.heap.size 22 i0 (.int .u64 0) 1 8 Tryd.underlying23 I0.out Z0.out Z1.out Z2.out rfl (by decide) (.slice (some ⟨w.heap.size, 0, none⟩) 0 0) 0 [] rfl (World.ownsRow_lit w #[] 0 (Nat.le_refl _) (Nat.zero_le _) rfl) ⟨b, off, none⟩ ws.length cap (vals ws) rfl (by simp [vals]) (fun j u hu => HN.out j u hu _) (vals_one ws) (by unfold maxLen; omega) (by omega) (by simp) ?_; intro v1 w1 hown1 hgrow1 _; obtain ⟨g, c1, hv, hown, hg⟩ := own_form hown1 hpos; rw [hv]; clear hv hown1; have hbel : Below w.heap.size w w1 := ((Below.refl _ _).alloc (Nat.le_refl _) _).grown hgrow1 (by simp) (by intro k hk; simp [Value.ownBlock] at hk; omega); clear hgrow1; have HL2 := Lib.hid (HL.out.below hbel); have HO := Lib.hid hown; clear hown) | (go_at_call 38; refine (r2Is (some ⟨b, off, none⟩) cap ws _ _ HL2.out HW.out hn (by omega) (by omega)).mono ?_; rintro e w' ⟨rfl, rfl⟩; rw [Int.toNat_natCast, hbit]))
    go_ret
    exact ⟨_, rfl, by rw [HP.out]; exact HO.out, hbel⟩

set_option maxHeartbeats 1000000 in
theorem r2Put_up (a : Option Addr) (cap : Nat) (ws : List Nat) (s : Nat) (w : World) (hl : Lst .u64 w a (ints ws)) (hw : Wide ws) (hn : ws.length ≤ 65536) (hs : s < 64 * ws.length) (hbit : Oc.isB ws s = false) :
    Calls Tryd.prog 39 #[.slice a ws.length cap, .int .i64 (s : Int), .bool true] w (PutPost ws s true w) := by
  obtain ⟨b, off, rfl, _, _⟩ := hl.word (i := s / 64) (by omega)
  have HL := Lib.hid hl
  have HW := Lib.hid hw
  have hpos : 0 < ws.length := by omega
  have HN := Lib.hid (news_of HL.out)
  obtain ⟨i0, hi0, hz0, hz1, hz2⟩ := info_parts u64Info
  have I0 := Lib.hid hi0
  have Z0 := Lib.hid hz0
  have Z1 := Lib.hid hz1
  have Z2 := Lib.hid hz2
  clear hi0 hz0 hz1 hz2 hl hw
  obtain ⟨x, hx⟩ : ∃ x, ws.getD (s / 64) 0 = x := ⟨_, rfl⟩
  have hbx : x.testBit (s % 64) = false := by rw [← hx]; exact hbit
  have hxl : x < 2 ^ 64 := by rw [← hx]; exact HW.out (s / 64)
  have HP := Lib.hid (show Oc.putW ws s true = ws.set (s / 64) (x + 2 ^ (s % 64)) by unfold Oc.putW Oc.putN; rw [hx, hbx]; rfl)
  have HX := Lib.hid hx
  have hup : (x : Int) + 2 ^ (s % 64) ≤ 18446744073709551615 := by
    have := Oc.add_lt hbx hxl (show s % 64 < 64 by omega)
    have := cast_add x (s % 64)
    omega
  have hp1 := pow_pos' (s % 64)
  clear hx hbx hxl
  go_enter Tryd.func39, Tryd.ntmps39
  go_wp2_with (first | (at_builtin; refine wpList_append_own _ rfl (.tmp 10) (.tmp 11) 23 rfl w.heap.size 22 i0 (.int .u64 0) 1 8 Tryd.underlying23 I0.out Z0.out Z1.out Z2.out rfl (by decide) (.slice (some ⟨w.heap.size, 0, none⟩) 0 0) 0 [] rfl (World.ownsRow_lit w #[] 0 (Nat.le_refl _) (Nat.zero_le _) rfl) ⟨b, off, none⟩ ws.length cap (vals ws) rfl (by simp [vals]) (fun j u hu => HN.out j u hu _) (vals_one ws) (by unfold maxLen; omega) (by omega) (by simp) ?_; intro v1 w1 hown1 hgrow1 _; obtain ⟨g, c1, hv, hown, hg⟩ := own_form hown1 hpos; rw [hv]; clear hv hown1; have hbel : Below w.heap.size w w1 := ((Below.refl _ _).alloc (Nat.le_refl _) _).grown hgrow1 (by simp) (by intro k hk; simp [Value.ownBlock] at hk; omega); clear hgrow1; have HL2 := Lib.hid (HL.out.below hbel); have HO := Lib.hid hown; clear hown) | (go_at_call 38; refine (r2Is (some ⟨b, off, none⟩) cap ws _ _ HL2.out HW.out hn (by omega) (by omega)).mono ?_; rintro e w' ⟨rfl, rfl⟩; rw [Int.toNat_natCast, hbit]))
  go_loop [8, 9] (fun o i => ∃ j : Nat, j ≤ s % 64 ∧ i = .int .i64 j ∧ o = .int .u64 (2 ^ j)) (fun _ i => s % 64 - (intOf i).toNat)
  case atStart => exact ⟨0, Nat.zero_le _, rfl, rfl⟩
  case round =>
    obtain ⟨j, hj, rfl, rfl⟩ := hrel
    by_cases hlt : j < s % 64
    · have hb1 := pow_le63 (j + 1) (by omega)
      have hb2 := pow_pos' j
      have HS := Lib.hid (pow_succ' j)
      rw [HS.out] at hb1
      go_wp2
      go_round
      case rel => exact ⟨j + 1, by omega, by go_num, by rw [HS.out]⟩
      case measure => simp [intOf]; omega
    · obtain rfl : j = s % 64 := by omega
      have hcell : w1.cell? ⟨g, s / 64, none⟩ = some (.int .u64 (x : Int)) := by rw [HO.out.cellAt (s / 64) (by omega), vals_get ws _ (by omega), HX.out]
      have hfz : w1.frozen? ⟨g, s / 64, none⟩ = false := HO.out.frozenAt _
      have hsl : s / 64 < ws.length := by omega
      go_wp2
      go_ret
      refine ⟨_, rfl, ?_, hbel.setCell hg _⟩
      rw [HP.out, ← vals_set, cast_add]
      exact (HO.out.stored (s / 64) _).1

set_option maxHeartbeats 1000000 in
theorem r2Put_down (a : Option Addr) (cap : Nat) (ws : List Nat) (s : Nat) (w : World) (hl : Lst .u64 w a (ints ws)) (hw : Wide ws) (hn : ws.length ≤ 65536) (hs : s < 64 * ws.length) (hbit : Oc.isB ws s = true) :
    Calls Tryd.prog 39 #[.slice a ws.length cap, .int .i64 (s : Int), .bool false] w (PutPost ws s false w) := by
  obtain ⟨b, off, rfl, _, _⟩ := hl.word (i := s / 64) (by omega)
  have HL := Lib.hid hl
  have HW := Lib.hid hw
  have hpos : 0 < ws.length := by omega
  have HN := Lib.hid (news_of HL.out)
  obtain ⟨i0, hi0, hz0, hz1, hz2⟩ := info_parts u64Info
  have I0 := Lib.hid hi0
  have Z0 := Lib.hid hz0
  have Z1 := Lib.hid hz1
  have Z2 := Lib.hid hz2
  clear hi0 hz0 hz1 hz2 hl hw
  obtain ⟨x, hx⟩ : ∃ x, ws.getD (s / 64) 0 = x := ⟨_, rfl⟩
  have hbx : x.testBit (s % 64) = true := by rw [← hx]; exact hbit
  have hxl : x < 2 ^ 64 := by rw [← hx]; exact HW.out (s / 64)
  have HP := Lib.hid (show Oc.putW ws s false = ws.set (s / 64) (x - 2 ^ (s % 64)) by unfold Oc.putW Oc.putN; rw [hx, hbx]; rfl)
  have HX := Lib.hid hx
  have hge := Oc.ge_of_bit hbx
  have HC := Lib.hid (cast_sub x (s % 64) hge)
  have hdn : (0 : Int) ≤ (x : Int) - 2 ^ (s % 64) := by have := HC.out; omega
  have hdl : (x : Int) - 2 ^ (s % 64) ≤ 18446744073709551615 := by have := pow_pos' (s % 64); omega
  clear hge
  clear hx hbx hxl
  go_enter Tryd.func39, Tryd.ntmps39
  go_wp2_with (first | (at_builtin; refine wpList_append_own _ rfl (.tmp 10) (.tmp 11) 23 rfl w.heap.size 22 i0 (.int .u64 0) 1 8 Tryd.underlying23 I0.out Z0.out Z1.out Z2.out rfl (by decide) (.slice (some ⟨w.heap.size, 0, none⟩) 0 0) 0 [] rfl (World.ownsRow_lit w #[] 0 (Nat.le_refl _) (Nat.zero_le _) rfl) ⟨b, off, none⟩ ws.length cap (vals ws) rfl (by simp [vals]) (fun j u hu => HN.out j u hu _) (vals_one ws) (by unfold maxLen; omega) (by omega) (by simp) ?_; intro v1 w1 hown1 hgrow1 _; obtain ⟨g, c1, hv, hown, hg⟩ := own_form hown1 hpos; rw [hv]; clear hv hown1; have hbel : Below w.heap.size w w1 := ((Below.refl _ _).alloc (Nat.le_refl _) _).grown hgrow1 (by simp) (by intro k hk; simp [Value.ownBlock] at hk; omega); clear hgrow1; have HL2 := Lib.hid (HL.out.below hbel); have HO := Lib.hid hown; clear hown) | (go_at_call 38; refine (r2Is (some ⟨b, off, none⟩) cap ws _ _ HL2.out HW.out hn (by omega) (by omega)).mono ?_; rintro e w' ⟨rfl, rfl⟩; rw [Int.toNat_natCast, hbit]))
  go_loop [8, 9] (fun o i => ∃ j : Nat, j ≤ s % 64 ∧ i = .int .i64 j ∧ o = .int .u64 (2 ^ j)) (fun _ i => s % 64 - (intOf i).toNat)
  case atStart => exact ⟨0, Nat.zero_le _, rfl, rfl⟩
  case round =>
    obtain ⟨j, hj, rfl, rfl⟩ := hrel
    by_cases hlt : j < s % 64
    · have hb1 := pow_le63 (j + 1) (by omega)
      have hb2 := pow_pos' j
      have HS := Lib.hid (pow_succ' j)
      rw [HS.out] at hb1
      go_wp2
      go_round
      case rel => exact ⟨j + 1, by omega, by go_num, by rw [HS.out]⟩
      case measure => simp [intOf]; omega
    · obtain rfl : j = s % 64 := by omega
      have hcell : w1.cell? ⟨g, s / 64, none⟩ = some (.int .u64 (x : Int)) := by rw [HO.out.cellAt (s / 64) (by omega), vals_get ws _ (by omega), HX.out]
      have hfz : w1.frozen? ⟨g, s / 64, none⟩ = false := HO.out.frozenAt _
      have hsl : s / 64 < ws.length := by omega
      go_wp2
      go_ret
      refine ⟨_, rfl, ?_, hbel.setCell hg _⟩
      rw [HP.out, ← vals_set, HC.out]
      exact (HO.out.stored (s / 64) _).1

theorem r2Put (a : Option Addr) (cap : Nat) (ws : List Nat) (s : Nat) (is : Bool) (w : World) (hl : Lst .u64 w a (ints ws)) (hw : Wide ws) (hn : ws.length ≤ 65536) (hs : s < 64 * ws.length) :
    Calls Tryd.prog 39 #[.slice a ws.length cap, .int .i64 (s : Int), .bool is] w (PutPost ws s is w) := by
  by_cases hbit : Oc.isB ws s = is
  · exact r2Put_same a cap ws s is w hl hw hn hs hbit
  · cases is
    · exact r2Put_down a cap ws s w hl hw hn hs (by simpa using hbit)
    · exact r2Put_up a cap ws s w hl hw hn hs (by simpa using hbit)
end Go.Proofs.YtgbgeedcfccclaaDoor
