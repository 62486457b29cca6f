/- The walk of the law OccTells: occ's Check, Count, Nth and Same answer what the document's own do. -/
import Derived.Test.YtgbgeedcfccclaaDoorOcc
import Derived.Test.YtgbgeedcfccclaaDoorWords
namespace Go.Proofs.YtgbgeedcfccclaaDoor.occTells
open Go.RowKit
set_option linter.unusedVariables false

set_option maxRecDepth 100000 in
set_option maxHeartbeats 1000000 in
theorem walk_some (ad : Addr) (cap : Nat) (ws : List Nat) (n p q : Int) (W : World) (hT : Tab W) (hk : p ≤ 9223372036854775807) (hl : Lst .u64 W (some ad) (ints ws)) (hw : Wide ws) (h20 : ws.length ≤ 20) :
    Calls Tryd.prog 4 #[.slice (some ad) ws.length cap, .int .i64 n, .int .i64 p, .int .i64 q] W fun e w' => e = .returned (.bool true) ∧ Below W.heap.size W w' := by
  have HT := Lib.hid hT
  have HL := Lib.hid hl
  have HW := Lib.hid hw
  have HN := Lib.hid (news_any HL.out)
  obtain ⟨i0, hi0, hz0, hz1, hz2⟩ := info_parts u64Info
  have I0 := Lib.hid hi0
  have Z0 := Lib.hid hz0
  have Z1 := Lib.hid hz1
  have Z2 := Lib.hid hz2
  clear hi0 hz0 hz1 hz2 hl hw
  have h65 : ws.length ≤ 65536 := by omega
  go_enter Tryd.func4, Tryd.ntmps4
  go_wp2_with (at_builtin; refine wpList_append_own _ rfl (.tmp 21) (.tmp 22) 23 rfl W.heap.size 22 i0 (.int .u64 0) 1 8 Tryd.underlying23 I0.out Z0.out Z1.out Z2.out rfl (by decide) (.slice (some ⟨W.heap.size, 0, none⟩) 0 0) 0 [] rfl (World.ownsRow_lit W #[] 0 (Nat.le_refl _) (Nat.zero_le _) rfl) ad ws.length cap (vals ws) rfl (by simp [vals]) (fun j u hu => HN.out j u hu _) (vals_one ws) (by unfold maxLen; omega) (by omega) (by simp) ?_)
  intro v1 w1 hown1 hgrow1 _
  (try simp only [Nat.zero_add, List.nil_append] at hown1)
  obtain ⟨A, c, hv, hL⟩ := own_words hown1
  have hb : Below W.heap.size W w1 := ((Below.refl _ _).alloc (Nat.le_refl _) _).grown hgrow1 (by simp) (by intro k hk; simp [Value.ownBlock] at hk; omega)
  rw [hv]
  clear hv hown1 hgrow1 HN I0 Z0 Z1 Z2
  have HA := Lib.hid (HL.out.below hb)
  have HB := Lib.hid hL
  clear HL hL
  go_wp2_with (first | (go_at_call 9; refine (oCount A c ws _ _ _ _ HB.out HW.out h65).mono ?_; rintro e w2 ⟨rfl, hb2⟩; replace HA := Lib.hid (HA.out.below hb2); replace HB := Lib.hid (HB.out.below hb2); replace hb := hb.trans (hb2.mono hb.size); clear hb2) | (go_at_call 19; refine (r2Count (some ad) cap ws _ _ _ _ HA.out HW.out h65).mono ?_; rintro e w2 ⟨rfl, hb2⟩; replace HA := Lib.hid (HA.out.below hb2); replace HB := Lib.hid (HB.out.below hb2); replace hb := hb.trans (hb2.mono hb.size); clear hb2) | (go_at_call 12; refine (oNth A c ws _ _ _ HB.out HW.out h65 (HT.out.below hb) hk).mono ?_; rintro e w2 ⟨rfl, hb2⟩; replace HA := Lib.hid (HA.out.below hb2); replace HB := Lib.hid (HB.out.below hb2); replace hb := hb.trans (hb2.mono hb.size); clear hb2) | (go_at_call 20; refine (r2Nth (some ad) cap ws _ _ _ HA.out HW.out h65).mono ?_; rintro e w2 ⟨rfl, hb2⟩; replace HA := Lib.hid (HA.out.below hb2); replace HB := Lib.hid (HB.out.below hb2); replace hb := hb.trans (hb2.mono hb.size); clear hb2) | (go_at_call 15; refine (oCheck A c ws _ _ HB.out HW.out h65).mono ?_; rintro e w2 ⟨rfl, hb2⟩; replace HA := Lib.hid (HA.out.below hb2); replace HB := Lib.hid (HB.out.below hb2); replace hb := hb.trans (hb2.mono hb.size); clear hb2) | (go_at_call 21; refine (r2Check (some ad) cap ws _ _ HA.out HW.out h65).mono ?_; rintro e w2 ⟨rfl, rfl⟩) | (go_at_call 18; refine (oSame A (some ad) c cap ws ws _ HB.out HA.out h65 h65).mono ?_; rintro e w2 ⟨rfl, hb2⟩; rw [beq_self_eq_true]; replace HA := Lib.hid (HA.out.below hb2); replace HB := Lib.hid (HB.out.below hb2); replace hb := hb.trans (hb2.mono hb.size); clear hb2) | (go_at_call 22; refine (r2Same A (some ad) c cap ws ws _ HB.out HA.out h65 h65).mono ?_; rintro e w2 ⟨rfl, hb2⟩; rw [beq_self_eq_true]; replace HA := Lib.hid (HA.out.below hb2); replace HB := Lib.hid (HB.out.below hb2); replace hb := hb.trans (hb2.mono hb.size); clear hb2))
  go_ret
  exact ⟨rfl, hb⟩
set_option maxRecDepth 100000 in
set_option maxHeartbeats 1000000 in
theorem walk_nil (n p q : Int) (W : World) (hT : Tab W) (hk : p ≤ 9223372036854775807) :
    Calls Tryd.prog 4 #[.slice none 0 0, .int .i64 n, .int .i64 p, .int .i64 q] W fun e w' => e = .returned (.bool true) ∧ Below W.heap.size W w' := by
  have HT := Lib.hid hT
  have HW := Lib.hid wide_nil
  obtain ⟨i0, hi0, hz0, hz1, hz2⟩ := info_parts u64Info
  have I0 := Lib.hid hi0
  clear hi0 hz0 hz1 hz2
  have h65 : ([] : List Nat).length ≤ 65536 := by simp
  go_enter Tryd.func4, Tryd.ntmps4
  go_wp2_with (at_builtin; refine wpList_append_own_none rfl (.tmp 21) (.tmp 22) 23 rfl W.heap.size 22 i0 1 Tryd.underlying23 I0.out (.slice (some ⟨W.heap.size, 0, none⟩) 0 0) 0 [] rfl (World.ownsRow_lit W #[] 0 (Nat.le_refl _) (Nat.zero_le _) rfl) rfl ?_)
  have hb : Below W.heap.size W (W.alloc (.cells #[] 22)) := (Below.refl _ _).alloc (Nat.le_refl _) _
  have HA := Lib.hid (Lst.nil (k := .u64) (w := W.alloc (.cells #[] 22)) (a := none))
  have HB := Lib.hid (Lst.nil (k := .u64) (w := W.alloc (.cells #[] 22)) (a := some ⟨W.heap.size, 0, none⟩))
  clear I0
  go_wp2_with (first | (go_at_call 9; refine (oCount (some ⟨W.heap.size, 0, none⟩) 0 [] _ _ _ _ HB.out HW.out h65).mono ?_; rintro e w2 ⟨rfl, hb2⟩; replace HA := Lib.hid (HA.out.below hb2); replace HB := Lib.hid (HB.out.below hb2); replace hb := hb.trans (hb2.mono hb.size); clear hb2) | (go_at_call 19; refine (r2Count none 0 [] _ _ _ _ HA.out HW.out h65).mono ?_; rintro e w2 ⟨rfl, hb2⟩; replace HA := Lib.hid (HA.out.below hb2); replace HB := Lib.hid (HB.out.below hb2); replace hb := hb.trans (hb2.mono hb.size); clear hb2) | (go_at_call 12; refine (oNth (some ⟨W.heap.size, 0, none⟩) 0 [] _ _ _ HB.out HW.out h65 (HT.out.below hb) hk).mono ?_; rintro e w2 ⟨rfl, hb2⟩; replace HA := Lib.hid (HA.out.below hb2); replace HB := Lib.hid (HB.out.below hb2); replace hb := hb.trans (hb2.mono hb.size); clear hb2) | (go_at_call 20; refine (r2Nth none 0 [] _ _ _ HA.out HW.out h65).mono ?_; rintro e w2 ⟨rfl, hb2⟩; replace HA := Lib.hid (HA.out.below hb2); replace HB := Lib.hid (HB.out.below hb2); replace hb := hb.trans (hb2.mono hb.size); clear hb2) | (go_at_call 15; refine (oCheck (some ⟨W.heap.size, 0, none⟩) 0 [] _ _ HB.out HW.out h65).mono ?_; rintro e w2 ⟨rfl, hb2⟩; replace HA := Lib.hid (HA.out.below hb2); replace HB := Lib.hid (HB.out.below hb2); replace hb := hb.trans (hb2.mono hb.size); clear hb2) | (go_at_call 21; refine (r2Check none 0 [] _ _ HA.out HW.out h65).mono ?_; rintro e w2 ⟨rfl, rfl⟩) | (go_at_call 18; refine (oSame (some ⟨W.heap.size, 0, none⟩) none 0 0 [] [] _ HB.out HA.out h65 h65).mono ?_; rintro e w2 ⟨rfl, hb2⟩; rw [beq_self_eq_true]; replace HA := Lib.hid (HA.out.below hb2); replace HB := Lib.hid (HB.out.below hb2); replace hb := hb.trans (hb2.mono hb.size); clear hb2) | (go_at_call 22; refine (r2Same (some ⟨W.heap.size, 0, none⟩) none 0 0 [] [] _ HB.out HA.out h65 h65).mono ?_; rintro e w2 ⟨rfl, hb2⟩; rw [beq_self_eq_true]; replace HA := Lib.hid (HA.out.below hb2); replace HB := Lib.hid (HB.out.below hb2); replace hb := hb.trans (hb2.mono hb.size); clear hb2))
  go_ret
  exact ⟨rfl, hb⟩

set_option maxHeartbeats 400000 in
theorem walk_long (a : Option Addr) (len cap : Nat) (n p q : Int) (W : World) (hT : Tab W) (hk : p ≤ 9223372036854775807) (h20 : 20 < len) :
    Calls Tryd.prog 4 #[.slice a len cap, .int .i64 n, .int .i64 p, .int .i64 q] W fun e w' => e = .returned (.bool true) ∧ Below W.heap.size W w' := by
  have HT := Lib.hid hT
  go_enter Tryd.func4, Tryd.ntmps4
  go_wp2
  go_ret
  exact ⟨rfl, Below.refl _ _⟩

theorem walk (a : Option Addr) (cap : Nat) (ws : List Nat) (n p q : Int) (W : World) (hT : Tab W) (hk : p ≤ 9223372036854775807) (hl : Lst .u64 W a (ints ws)) (hw : Wide ws) (hnil : a = none → ws = [] ∧ cap = 0) :
    Calls Tryd.prog 4 #[.slice a ws.length cap, .int .i64 n, .int .i64 p, .int .i64 q] W fun e w' => e = .returned (.bool true) ∧ Below W.heap.size W w' := by
  have HT := Lib.hid hT
  by_cases h20 : 20 < ws.length
  · exact walk_long a ws.length cap n p q W hT hk h20
  cases a with
  | none =>
    obtain ⟨rfl, rfl⟩ := hnil rfl
    exact walk_nil n p q W hT hk
  | some ad => exact walk_some ad cap ws n p q W hT hk hl hw (by omega)
end Go.Proofs.YtgbgeedcfccclaaDoor.occTells
