/- The law SpreadAsks, walked over the contracts: it answers true. -/
import Derived.Test.YtbkbcjdhppnfoaaLaw07
namespace Go.Proofs.Ytbkbcjdhppnfoaa.spreadAsks
open Go.RowKit
set_option linter.unusedVariables false
set_option linter.unusedSimpArgs false

set_option maxRecDepth 100000 in
set_option maxHeartbeats 4000000 in
theorem walk (n f t p k : Int) (w : World) (hn : -9223372036854775808 ≤ n ∧ n ≤ 9223372036854775807) (hf : -9223372036854775808 ≤ f ∧ f ≤ 9223372036854775807) (ht : -9223372036854775808 ≤ t ∧ t ≤ 9223372036854775807) (hp : -9223372036854775808 ≤ p ∧ p ≤ 9223372036854775807) (hk : -9223372036854775808 ≤ k ∧ k ≤ 9223372036854775807) :
    Calls Try.prog 5 #[.int .i64 n, .agg #[.int .i64 f, .int .i64 t], .int .i64 p, .int .i64 k] w fun e w' => e = .returned (.bool true) ∧ Below w.heap.size w w' := by
  have X0 := Lib.hid (PBox.new w (f, t) 35)
  have B0 := Lib.hid ((Below.refl w.heap.size w).alloc (Nat.le_refl _) (.cells #[.int .i64 f, .int .i64 t] 35))
  have C1 := Lib.hid (fun W => sShare n f t p k W hn hf ht hp hk)
  have C2 := Lib.hid (fun W => r7Share n f t p k W ht.2 hp.2)
  have C3 := Lib.hid (fun W => sRank n f t k W hn hf ht hk)
  have C4 := Lib.hid (fun W => r7Rank n f t k W ht.2)
  generalize Sp.shareV n f t p k = x1 at *
  generalize Sp.shareE n f t p k = x2 at *
  generalize Sp.rankV n f t k = x3 at *
  generalize Sp.rankE n f t k = x4 at *
  by_cases hbig : 5000 < n ∧ n ≤ 65536
  · obtain ⟨k1, k2⟩ := hbig
    go_enter Try.func5, Try.ntmps5
    go_wp2
    go_ret
    exact ⟨rfl, B0.out⟩
  · by_cases k1 : 5000 < n
    · have k2 : 65536 < n := by omega
      clear hbig
      go_enter Try.func5, Try.ntmps5
      obtain ⟨_, c0, c1, _⟩ := X0.out
      try dsimp only at c0 c1
      go_wp2_with fail
      refine (C1.out _).mono ?_
      rintro e w1 ⟨rfl, hb⟩
      replace B0 := Lib.hid (B0.out.trans (hb.mono B0.out.size))
      replace X0 := Lib.hid (X0.out.below hb)
      clear hb c0 c1
      obtain ⟨_, c0, c1, _⟩ := X0.out
      try dsimp only at c0 c1
      go_wp2_with fail
      refine (C2.out _).mono ?_
      rintro e w2 ⟨rfl, hb⟩
      replace B0 := Lib.hid (B0.out.trans (hb.mono B0.out.size))
      replace X0 := Lib.hid (X0.out.below hb)
      clear hb c0 c1
      obtain ⟨_, c0, c1, _⟩ := X0.out
      try dsimp only at c0 c1
      go_wp2_with fail
      refine (C3.out _).mono ?_
      rintro e w3 ⟨rfl, hb⟩
      replace B0 := Lib.hid (B0.out.trans (hb.mono B0.out.size))
      replace X0 := Lib.hid (X0.out.below hb)
      clear hb c0 c1
      obtain ⟨_, c0, c1, _⟩ := X0.out
      try dsimp only at c0 c1
      go_wp2_with fail
      refine (C4.out _).mono ?_
      rintro e w4 ⟨rfl, hb⟩
      replace B0 := Lib.hid (B0.out.trans (hb.mono B0.out.size))
      replace X0 := Lib.hid (X0.out.below hb)
      clear hb c0 c1
      go_wp2
      go_ret
      exact ⟨rfl, B0.out⟩
    · clear hbig
      go_enter Try.func5, Try.ntmps5
      obtain ⟨_, c0, c1, _⟩ := X0.out
      try dsimp only at c0 c1
      go_wp2_with fail
      refine (C1.out _).mono ?_
      rintro e w1 ⟨rfl, hb⟩
      replace B0 := Lib.hid (B0.out.trans (hb.mono B0.out.size))
      replace X0 := Lib.hid (X0.out.below hb)
      clear hb c0 c1
      obtain ⟨_, c0, c1, _⟩ := X0.out
      try dsimp only at c0 c1
      go_wp2_with fail
      refine (C2.out _).mono ?_
      rintro e w2 ⟨rfl, hb⟩
      replace B0 := Lib.hid (B0.out.trans (hb.mono B0.out.size))
      replace X0 := Lib.hid (X0.out.below hb)
      clear hb c0 c1
      obtain ⟨_, c0, c1, _⟩ := X0.out
      try dsimp only at c0 c1
      go_wp2_with fail
      refine (C3.out _).mono ?_
      rintro e w3 ⟨rfl, hb⟩
      replace B0 := Lib.hid (B0.out.trans (hb.mono B0.out.size))
      replace X0 := Lib.hid (X0.out.below hb)
      clear hb c0 c1
      obtain ⟨_, c0, c1, _⟩ := X0.out
      try dsimp only at c0 c1
      go_wp2_with fail
      refine (C4.out _).mono ?_
      rintro e w4 ⟨rfl, hb⟩
      replace B0 := Lib.hid (B0.out.trans (hb.mono B0.out.size))
      replace X0 := Lib.hid (X0.out.below hb)
      clear hb c0 c1
      go_wp2
      go_ret
      exact ⟨rfl, B0.out⟩
end Go.Proofs.Ytbkbcjdhppnfoaa.spreadAsks
