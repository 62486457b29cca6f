/- The law SpreadRises, walked over the contracts: it answers true. -/
import Derived.Test.YtbkbcjdhppnfoaaLaw07
namespace Go.Proofs.Ytbkbcjdhppnfoaa.spreadRises
open Go.RowKit
set_option linter.unusedVariables false
set_option linter.unusedSimpArgs false

def RisesJ (n : Nat) (w : World) (i : Value) (wr : World) : Prop := ∃ k : Nat, k ≤ n ∧ i = .int .i64 (k : Int) ∧ w = wr
set_option maxRecDepth 100000 in
set_option maxHeartbeats 4000000 in
theorem walk (n f t : Int) (w : World) (hn : -9223372036854775808 ≤ n ∧ n ≤ 9223372036854775807) (hf : -9223372036854775808 ≤ f ∧ f ≤ 9223372036854775807) (ht : -9223372036854775808 ≤ t ∧ t ≤ 9223372036854775807) :
    Calls Try.prog 6 #[.int .i64 n, .int .i64 f, .int .i64 t] w fun e w' => e = .returned (.bool true) ∧ Below w.heap.size w w' := by
  have B0 := Lib.hid (Below.refl w.heap.size w)
  have CL := Lib.hid (fun W => lAlive W)
  have C1 := Lib.hid (fun W => sPlaces n f t W hn hf ht)
  by_cases hbig : 5000 < n ∧ n ≤ 65536
  · obtain ⟨k1, k2⟩ := hbig
    go_enter Try.func6, Try.ntmps6
    go_wp2_with fail
    refine (CL.out _).mono ?_
    rintro e w0 ⟨rfl, hb⟩
    replace B0 := Lib.hid (B0.out.trans (hb.mono B0.out.size))
    clear hb
    go_wp2
    go_ret
    exact ⟨rfl, B0.out⟩
  · cases hm : Sp.mayB n f t
    · rw [(Sp.may_no hm).1, (Sp.may_no hm).2] at C1
      clear hm
      by_cases k1 : 5000 < n
      · have k2 : 65536 < n := by omega
        clear hbig
        go_enter Try.func6, Try.ntmps6
        go_wp2_with fail
        refine (CL.out _).mono ?_
        rintro e w0 ⟨rfl, hb⟩
        replace B0 := Lib.hid (B0.out.trans (hb.mono B0.out.size))
        clear hb
        go_wp2_with fail
        refine (C1.out _).mono ?_
        rintro e w1 ⟨v, rfl, hrow, hb⟩
        replace B0 := Lib.hid (B0.out.trans (hb.mono B0.out.size))
        obtain ⟨A1, d1, rfl, _⟩ := irow_list hrow
        clear hrow hb
        dsimp only [List.length_nil]
        go_wp2
        go_ret
        exact ⟨rfl, B0.out⟩
      · clear hbig
        go_enter Try.func6, Try.ntmps6
        go_wp2_with fail
        refine (CL.out _).mono ?_
        rintro e w0 ⟨rfl, hb⟩
        replace B0 := Lib.hid (B0.out.trans (hb.mono B0.out.size))
        clear hb
        go_wp2_with fail
        refine (C1.out _).mono ?_
        rintro e w1 ⟨v, rfl, hrow, hb⟩
        replace B0 := Lib.hid (B0.out.trans (hb.mono B0.out.size))
        obtain ⟨A1, d1, rfl, _⟩ := irow_list hrow
        clear hrow hb
        dsimp only [List.length_nil]
        go_wp2
        go_ret
        exact ⟨rfl, B0.out⟩
    · obtain ⟨m1, m2, m3, m4, m5⟩ := Sp.may_in hm
      have k1 : ¬ 5000 < n := by omega
      clear hbig
      rw [(Sp.may_yes hm).1, (Sp.may_yes hm).2] at C1
      obtain ⟨N, rfl⟩ : ∃ N : Nat, n = N := ⟨n.toNat, by omega⟩
      by_cases hz : N = 0
      · subst hz
        rw [show Sp.ofs ((0 : Nat) : Int) f t = [] from rfl] at C1
        clear hm
        go_enter Try.func6, Try.ntmps6
        go_wp2_with fail
        refine (CL.out _).mono ?_
        rintro e w0 ⟨rfl, hb⟩
        replace B0 := Lib.hid (B0.out.trans (hb.mono B0.out.size))
        clear hb
        go_wp2_with fail
        refine (C1.out _).mono ?_
        rintro e w1 ⟨v, rfl, hrow, hb⟩
        replace B0 := Lib.hid (B0.out.trans (hb.mono B0.out.size))
        obtain ⟨A1, d1, rfl, _⟩ := irow_list hrow
        clear hrow hb
        dsimp only [List.length_nil]
        go_wp2
        go_ret
        exact ⟨rfl, B0.out⟩
      · have hN : 0 < (N : Int) := by omega
        have RS := Lib.hid (Sp.ofs_rises hm)
        have LN := Lib.hid (Sp.ofs_length (N : Int) f t)
        have AT := Lib.hid (fun (i : Nat) (hi : i < N) => (Sp.ofs_at (f := f) (t := t) (n := (N : Int)) (i := i) (by rw [Int.toNat_natCast]; exact hi)))
        have BD := Lib.hid (fun (i : Nat) (hi : i < N) => Sp.plc_bd hm (i := i) (by rw [Int.toNat_natCast]; exact hi))
        have ST := Lib.hid (fun i : Nat => Sp.plc_step (f := f) (t := t) hN (by omega) i)
        have EN := Lib.hid (show Sp.plc (N : Int) f t N = t by have := Sp.plc_end (f := f) (t := t) hN; rwa [Int.toNat_natCast] at this)
        have Z0 := Lib.hid (Sp.plc_zero (N : Int) f t)
        have lo0 : 0 ≤ (t - f) / (N : Int) := Int.ediv_nonneg (by omega) (by omega)
        have hi1 : (t - f + (N : Int) - 1) / (N : Int) ≤ t - f + (N : Int) - 1 := Int.ediv_le_self _ (by omega)
        have hi0 : 0 ≤ (t - f + (N : Int) - 1) / (N : Int) := Int.ediv_nonneg (by omega) (by omega)
        have lo1 : (t - f) / (N : Int) ≤ t - f := Int.ediv_le_self _ (by omega)
        have CDD := Lib.hid (show Sp.cd (t - f) (N : Int) = (t - f + (N : Int) - 1) / (N : Int) from rfl)
        have n0 : ¬ (N : Int) = 0 := by omega
        clear hm
        obtain ⟨zs, hzs⟩ : ∃ zs, zs = Sp.ofs (N : Int) f t := ⟨_, rfl⟩
        rw [← hzs] at RS LN AT C1
        clear hzs
        obtain ⟨low, hlow⟩ : ∃ x, x = (t - f) / (N : Int) := ⟨_, rfl⟩
        obtain ⟨high, hhigh⟩ : ∃ x, x = (t - f + (N : Int) - 1) / (N : Int) := ⟨_, rfl⟩
        rw [← hlow] at ST lo0 lo1
        rw [CDD.out, ← hhigh] at ST
        rw [← hhigh] at hi0 hi1
        have LE := hlow.symm
        have HE := hhigh.symm
        clear hlow hhigh CDD
        generalize Sp.plc (N : Int) f t = pl at *
        go_enter Try.func6, Try.ntmps6
        go_wp2_with fail
        refine (CL.out _).mono ?_
        rintro e w0 ⟨rfl, hb⟩
        replace B0 := Lib.hid (B0.out.trans (hb.mono B0.out.size))
        clear hb
        go_wp2_with fail
        refine (C1.out _).mono ?_
        rintro e w1 ⟨v, rfl, hrow, hb⟩
        replace B0 := Lib.hid (B0.out.trans (hb.mono B0.out.size))
        obtain ⟨A1, d1, rfl, hL⟩ := irow_list hrow
        have hlen : zs.length = N := by have := LN.out; rw [Int.toNat_natCast] at this; exact this
        obtain ⟨b1, o1, rfl, _, _⟩ := hL.cell (i := 0) (by omega)
        have L1 := Lib.hid hL
        have CC := Lib.hid (fun (i : Nat) (hi : i < N) => (show w1.cell? ⟨b1, o1 + i, none⟩ = some (.int .i64 (pl i)) by have := lst_cells hL i (by omega); rwa [AT.out i hi] at this))
        have HLN := Lib.hid hlen
        rw [hlen]
        have CR := Lib.hid (fun q => r1Rises (some ⟨b1, o1, none⟩) d1 zs (w1.drewN q) hL (by omega))
        rw [hlen, RS.out] at CR
        clear hrow hb hL hlen
        go_wp2
        go_quiet (fail)
        obtain ⟨W, hW⟩ : ∃ W, W = w1.drewN nq := ⟨_, rfl⟩
        have CCW := Lib.hid (fun (i : Nat) (hi : i < N) => (show W.cell? ⟨b1, o1 + i, none⟩ = some (.int .i64 (pl i)) by rw [hW]; exact CC.out i hi))
        have CRW := Lib.hid (show Calls Try.prog 17 #[.slice (some ⟨b1, o1, none⟩) N d1] W fun e w' => e = .returned (.bool true) ∧ Below W.heap.size W w' by rw [hW]; exact CR.out nq)
        replace B0 := Lib.hid (show Below w.heap.size w W by rw [hW]; exact below_drewN B0.out nq)
        rw [← hW]
        clear hW CC CR
        go_wp2
        go_loopw [12] (RisesJ N W) (fun i _ => N - (intOf i).toNat)
        case atStart => exact ⟨0, Nat.zero_le _, rfl, rfl⟩
        case round =>
          obtain ⟨k, hk, rfl, rfl⟩ := hrel
          by_cases hlt : k < N
          · have c1 := CCW.out k hlt
            have bd := BD.out k hlt
            have st := ST.out k
            by_cases hlast : k + 1 < N
            · have c2 := CCW.out (k + 1) hlast
              have bd2 := BD.out (k + 1) hlast
              have hl2 : (k : Int) + 1 < (N : Int) := by omega
              generalize pl (k + 1) = y at *
              generalize pl k = x at *
              have j1 : ¬ y - x < low := by omega
              have j2 : ¬ high < y - x := by omega
              have e1 : ((k + 1 : Nat) : Int) = (k : Int) + 1 := by omega
              go_wp2
              go_roundw
              case rel => exact ⟨k + 1, by omega, by go_num, rfl⟩
              case measure => simp [intOf]; omega
            · obtain hkN : k + 1 = N := by omega
              rw [hkN, EN.out] at st
              have hl2 : ¬ (k : Int) + 1 < (N : Int) := by omega
              generalize pl k = x at *
              have j1 : ¬ t - x < low := by omega
              have j2 : ¬ high < t - x := by omega
              go_wp2
              go_roundw
              case rel => exact ⟨k + 1, by omega, by go_num, rfl⟩
              case measure => simp [intOf]; omega
          · obtain rfl : k = N := by omega
            have c1 := CCW.out 0 (by omega)
            rw [Z0.out] at c1
            rw [Nat.add_zero] at c1
            go_wp2_with fail
            refine CRW.out.mono ?_
            rintro e w3 ⟨rfl, hb⟩
            replace B0 := Lib.hid (B0.out.trans (hb.mono B0.out.size))
            go_wp2
            go_ret
            exact ⟨rfl, B0.out⟩
end Go.Proofs.Ytbkbcjdhppnfoaa.spreadRises
