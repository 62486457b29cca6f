/- What the document's own answer May of layer 5 (package shelfmarkref05) returns. It makes only boxes of the config. -/
import Derived.Test.YtemnhpkkmfgnaaaRefA05
namespace Go.Proofs.Ytemnhpkkmfgnaaa
open Go.RowKit
set_option linter.unusedVariables false
set_option linter.unusedSimpArgs false

theorem may_not {c : Cf} (h : ¬ c.May) : c.mayB = false := by
  cases hm : c.mayB
  · rfl
  · exact absurd ((Cf.may_iff c).1 hm) h
theorem power_iff (n lo hi : Int) : powerB n lo hi = true ↔ lo ≤ n ∧ n ≤ hi ∧ Fr.powB n = true := by
  unfold powerB
  simp only [Bool.and_eq_true, decide_eq_true_eq, and_assoc]

set_option maxRecDepth 100000 in
set_option maxHeartbeats 8000000 in
theorem r5May (c : Cf) (w : World) (hc : c.In) :
    Calls Try.prog 36 #[cfv c] w fun e w' => e = .returned (.bool c.mayB) ∧ Below w.heap.size w w' := by
  have BX := Lib.hid (CBox.new w c 23)
  have B0 := Lib.hid ((Below.refl w.heap.size w).alloc (Nat.le_refl _) (.cells (cfCells c) 23))
  have i0 := hc.tag0
  have i1 := hc.tag1
  obtain ⟨m0, m1⟩ := hc.most
  obtain ⟨s0, s1⟩ := hc.seg
  obtain ⟨l0, l1⟩ := hc.least
  obtain ⟨d0, d1⟩ := hc.den
  obtain ⟨ll0, ll1⟩ := hc.ll
  obtain ⟨rl0, rl1⟩ := hc.rl
  obtain ⟨rh0, rh1⟩ := hc.rh
  obtain ⟨lh0, lh1⟩ := hc.lh
  have CS := Lib.hid (fun W => r5power c.seg 4 64 W s1)
  have CL := Lib.hid (fun W => r5power c.least c.seg 256 W l1)
  clear hc
  unfold cfCells at BX B0
  unfold cfv
  by_cases h0 : c.tag < 1
  · have E := Lib.hid (may_not (c := c) fun h => by have := h.sizes.tag; omega)
    go_enter Try.func36, Try.ntmps36
    go_wp2
    go_ret
    rw [E.out]
    exact ⟨rfl, B0.out⟩
  · skip
    by_cases h1 : 3 < c.tag
    · have E := Lib.hid (may_not (c := c) fun h => by have := h.sizes.tag; omega)
      go_enter Try.func36, Try.ntmps36
      go_wp2
      go_ret
      rw [E.out]
      exact ⟨rfl, B0.out⟩
    · skip
      by_cases h2 : c.most < 1
      · have E := Lib.hid (may_not (c := c) fun h => by have := h.sizes.most1; omega)
        go_enter Try.func36, Try.ntmps36
        go_wp2
        go_ret
        rw [E.out]
        exact ⟨rfl, B0.out⟩
      · skip
        by_cases h3 : 16384 < c.most
        · have E := Lib.hid (may_not (c := c) fun h => by have := h.sizes.most2; omega)
          go_enter Try.func36, Try.ntmps36
          go_wp2
          go_ret
          rw [E.out]
          exact ⟨rfl, B0.out⟩
        · skip
          cases hp : powerB c.seg 4 64
          · have E := Lib.hid (may_not (c := c) fun h => by rw [show powerB c.seg 4 64 = true from (power_iff _ _ _).2 ⟨h.sizes.seg1, h.sizes.seg2, h.sizes.segp⟩] at hp; cases hp)
            rw [hp] at CS
            clear hp
            go_enter Try.func36, Try.ntmps36
            go_wp2_with fail
            refine (CS.out _).mono ?_
            rintro e w1 ⟨rfl, rfl⟩
            go_wp2
            go_ret
            rw [E.out]
            exact ⟨rfl, B0.out⟩
          · have P1 := Lib.hid ((power_iff _ _ _).1 hp)
            rw [hp] at CS
            clear hp
            cases hp : powerB c.least c.seg 256
            · have E := Lib.hid (may_not (c := c) fun h => by rw [show powerB c.least c.seg 256 = true from (power_iff _ _ _).2 ⟨h.sizes.least1, h.sizes.least2, h.sizes.leastp⟩] at hp; cases hp)
              rw [hp] at CL
              clear hp
              go_enter Try.func36, Try.ntmps36
              go_wp2_with fail
              refine (CS.out _).mono ?_
              rintro e w1 ⟨rfl, rfl⟩
              go_wp2_with fail
              refine (CL.out _).mono ?_
              rintro e w1 ⟨rfl, rfl⟩
              go_wp2
              go_ret
              rw [E.out]
              exact ⟨rfl, B0.out⟩
            · have P2 := Lib.hid ((power_iff _ _ _).1 hp)
              rw [hp] at CL
              clear hp
              by_cases h6 : c.den < 1
              · have E := Lib.hid (may_not (c := c) fun h => by have := h.sizes.den1; omega)
                go_enter Try.func36, Try.ntmps36
                go_wp2_with fail
                refine (CS.out _).mono ?_
                rintro e w1 ⟨rfl, rfl⟩
                go_wp2_with fail
                refine (CL.out _).mono ?_
                rintro e w1 ⟨rfl, rfl⟩
                go_wp2
                go_ret
                rw [E.out]
                exact ⟨rfl, B0.out⟩
              · skip
                by_cases h7 : 64 < c.den
                · have E := Lib.hid (may_not (c := c) fun h => by have := h.sizes.den2; omega)
                  go_enter Try.func36, Try.ntmps36
                  go_wp2_with fail
                  refine (CS.out _).mono ?_
                  rintro e w1 ⟨rfl, rfl⟩
                  go_wp2_with fail
                  refine (CL.out _).mono ?_
                  rintro e w1 ⟨rfl, rfl⟩
                  go_wp2
                  go_ret
                  rw [E.out]
                  exact ⟨rfl, B0.out⟩
                · skip
                  by_cases h8 : c.ll < 0
                  · have E := Lib.hid (may_not (c := c) fun h => by have := h.dens.ll0; omega)
                    go_enter Try.func36, Try.ntmps36
                    go_wp2_with fail
                    refine (CS.out _).mono ?_
                    rintro e w1 ⟨rfl, rfl⟩
                    go_wp2_with fail
                    refine (CL.out _).mono ?_
                    rintro e w1 ⟨rfl, rfl⟩
                    go_wp2
                    go_ret
                    rw [E.out]
                    exact ⟨rfl, B0.out⟩
                  · skip
                    by_cases h9 : c.rl ≤ c.ll
                    · have E := Lib.hid (may_not (c := c) fun h => by have := h.dens.llrl; omega)
                      go_enter Try.func36, Try.ntmps36
                      go_wp2_with fail
                      refine (CS.out _).mono ?_
                      rintro e w1 ⟨rfl, rfl⟩
                      go_wp2_with fail
                      refine (CL.out _).mono ?_
                      rintro e w1 ⟨rfl, rfl⟩
                      go_wp2
                      go_ret
                      rw [E.out]
                      exact ⟨rfl, B0.out⟩
                    · skip
                      by_cases h10 : c.lh ≤ c.rh
                      · have E := Lib.hid (may_not (c := c) fun h => by have := h.dens.rhlh; omega)
                        go_enter Try.func36, Try.ntmps36
                        go_wp2_with fail
                        refine (CS.out _).mono ?_
                        rintro e w1 ⟨rfl, rfl⟩
                        go_wp2_with fail
                        refine (CL.out _).mono ?_
                        rintro e w1 ⟨rfl, rfl⟩
                        go_wp2
                        go_ret
                        rw [E.out]
                        exact ⟨rfl, B0.out⟩
                      · skip
                        by_cases h11 : c.den < c.lh
                        · have E := Lib.hid (may_not (c := c) fun h => by have := h.dens.lhd; omega)
                          go_enter Try.func36, Try.ntmps36
                          go_wp2_with fail
                          refine (CS.out _).mono ?_
                          rintro e w1 ⟨rfl, rfl⟩
                          go_wp2_with fail
                          refine (CL.out _).mono ?_
                          rintro e w1 ⟨rfl, rfl⟩
                          go_wp2
                          go_ret
                          rw [E.out]
                          exact ⟨rfl, B0.out⟩
                        · skip
                          by_cases h12 : c.den < c.rl
                          · have E := Lib.hid (may_not (c := c) fun h => by have := h.dens.rld; have := h.dens.ll0; have := h.dens.llrl; omega)
                            go_enter Try.func36, Try.ntmps36
                            go_wp2_with fail
                            refine (CS.out _).mono ?_
                            rintro e w1 ⟨rfl, rfl⟩
                            go_wp2_with fail
                            refine (CL.out _).mono ?_
                            rintro e w1 ⟨rfl, rfl⟩
                            go_wp2
                            go_ret
                            rw [E.out]
                            exact ⟨rfl, B0.out⟩
                          · skip
                            by_cases h13 : c.rh < 0
                            · have E := Lib.hid (may_not (c := c) fun h => by have := h.dens.rhd; have := h.sizes.den1; omega)
                              go_enter Try.func36, Try.ntmps36
                              go_wp2_with fail
                              refine (CS.out _).mono ?_
                              rintro e w1 ⟨rfl, rfl⟩
                              go_wp2_with fail
                              refine (CL.out _).mono ?_
                              rintro e w1 ⟨rfl, rfl⟩
                              go_wp2
                              go_ret
                              rw [E.out]
                              exact ⟨rfl, B0.out⟩
                            · skip
                              by_cases h14 : 2 * c.rh < c.den
                              · have E := Lib.hid (may_not (c := c) fun h => by have := h.dens.rhd; omega)
                                have sd := P1.out.1
                                have sd2 := P2.out.1
                                have sd3 := P2.out.2.1
                                have qq := Cf.mul_bd (a := c.rl) (b := c.least) (A := 64) (B := 256) (by omega) (by omega) (by omega) (by omega)
                                obtain ⟨qq0, qq1⟩ := qq
                                go_enter Try.func36, Try.ntmps36
                                go_wp2_with fail
                                refine (CS.out _).mono ?_
                                rintro e w1 ⟨rfl, rfl⟩
                                go_wp2_with fail
                                refine (CL.out _).mono ?_
                                rintro e w1 ⟨rfl, rfl⟩
                                go_wp2
                                go_ret
                                rw [E.out]
                                exact ⟨rfl, B0.out⟩
                              · skip
                                by_cases h15 : c.den < 8 * c.rl
                                · have E := Lib.hid (may_not (c := c) fun h => by have := h.dens.rld; omega)
                                  have sd := P1.out.1
                                  have sd2 := P2.out.1
                                  have sd3 := P2.out.2.1
                                  have qq := Cf.mul_bd (a := c.rl) (b := c.least) (A := 64) (B := 256) (by omega) (by omega) (by omega) (by omega)
                                  obtain ⟨qq0, qq1⟩ := qq
                                  go_enter Try.func36, Try.ntmps36
                                  go_wp2_with fail
                                  refine (CS.out _).mono ?_
                                  rintro e w1 ⟨rfl, rfl⟩
                                  go_wp2_with fail
                                  refine (CL.out _).mono ?_
                                  rintro e w1 ⟨rfl, rfl⟩
                                  go_wp2
                                  go_ret
                                  rw [E.out]
                                  exact ⟨rfl, B0.out⟩
                                · skip
                                  have sd := P1.out.1
                                  have sd2 := P2.out.1
                                  have sd3 := P2.out.2.1
                                  have qq := Cf.mul_bd (a := c.rl) (b := c.least) (A := 64) (B := 256) (by omega) (by omega) (by omega) (by omega)
                                  obtain ⟨qq0, qq1⟩ := qq
                                  by_cases h16 : c.rl * c.least < 2 * c.den
                                  · have E := Lib.hid (may_not (c := c) fun h => by have := h.dens.rll; omega)
                                    go_enter Try.func36, Try.ntmps36
                                    go_wp2_with fail
                                    refine (CS.out _).mono ?_
                                    rintro e w1 ⟨rfl, rfl⟩
                                    go_wp2_with fail
                                    refine (CL.out _).mono ?_
                                    rintro e w1 ⟨rfl, rfl⟩
                                    go_wp2
                                    go_ret
                                    rw [E.out]
                                    exact ⟨rfl, B0.out⟩
                                  · skip
                                    have hs : c.Sizes := ⟨by omega, by omega, by omega, P1.out.1, P1.out.2.1, P1.out.2.2, P2.out.1, P2.out.2.1, P2.out.2.2, by omega, by omega⟩
                                    have hd : c.Dens := ⟨by omega, by omega, by omega, by omega, by omega, by omega, by omega⟩
                                    have E := Lib.hid (show c.mayB = c.fallsB by unfold Cf.mayB; rw [(Cf.sizes_iff c).2 hs, (Cf.dens_iff c).2 hd]; rfl)
                                    have TB := c.top_bd hs hd
                                    have HB := c.high_bd c.top TB.1 hs.seg1 TB.2
                                    have CT := Lib.hid (fun W => r5Takes c c.most W hs hd (by omega) (by omega))
                                    have CH := Lib.hid (fun W => r5Height c c.top W hs.seg1 TB.1 (by omega))
                                    have HT := Lib.hid (show c.takes c.most = c.top from rfl)
                                    rw [HT.out] at CT
                                    have HF := Lib.hid (show c.fallsB = decide (c.den * c.high c.top ≤ (c.lh - c.rh) * c.seg) by unfold Cf.fallsB; rw [Int.mul_comm (c.high c.top)])
                                    have v1 := Cf.mul_bd (a := c.den) (b := c.high c.top) (A := 64) (B := 14) (by omega) (by omega) HB.1 HB.2
                                    have v2 := Cf.mul_bd (a := c.lh - c.rh) (b := c.seg) (A := 64) (B := 64) (by omega) (by omega) (by omega) hs.seg2
                                    obtain ⟨H, hH⟩ : ∃ H, H = c.high c.top := ⟨_, rfl⟩
                                    rw [← hH] at HF v1 CH
                                    clear hH
                                    have y0 : IntKind.i64.wrap (c.lh - c.rh) = c.lh - c.rh := IntWalk.i64_in _ (by omega)
                                    have y1 : IntKind.i64.wrap (c.den * H) = c.den * H := IntWalk.i64_in _ (by omega)
                                    have y2 : IntKind.i64.wrap ((c.lh - c.rh) * c.seg) = (c.lh - c.rh) * c.seg := IntWalk.i64_in _ (by omega)
                                    clear hs hd TB HB v1 v2 HT
                                    unfold cfv at CT CH
                                    go_enter Try.func36, Try.ntmps36
                                    go_wp2_with fail
                                    refine (CS.out _).mono ?_
                                    rintro e w1 ⟨rfl, rfl⟩
                                    go_wp2_with fail
                                    refine (CL.out _).mono ?_
                                    rintro e w1 ⟨rfl, rfl⟩
                                    go_upto_region 7 with (fail)
                                    obtain ⟨W5, hW5⟩ : ∃ W5, W5 = w.alloc (.cells #[.int .u8 c.tag, .int .i64 c.most, .int .i64 c.seg, .int .i64 c.least, .int .i64 c.den, .int .i64 c.ll, .int .i64 c.rl, .int .i64 c.rh, .int .i64 c.lh] 23) := ⟨_, rfl⟩
                                    rw [← hW5] at BX B0 ⊢
                                    clear hW5
                                    have B1 := Lib.hid B0.out.drew
                                    have X0 := Lib.hid (BX.out.below ((Below.refl _ _).drew))
                                    go_region_held3 (fun w' => w'.cell? ⟨w.heap.size, 0, none⟩ = some (.int .u8 c.tag) ∧ w'.cell? ⟨w.heap.size, 1, none⟩ = some (.int .i64 c.most) ∧ w'.cell? ⟨w.heap.size, 2, none⟩ = some (.int .i64 c.seg) ∧ w'.cell? ⟨w.heap.size, 3, none⟩ = some (.int .i64 c.least) ∧ w'.cell? ⟨w.heap.size, 4, none⟩ = some (.int .i64 c.den) ∧ w'.cell? ⟨w.heap.size, 5, none⟩ = some (.int .i64 c.ll) ∧ w'.cell? ⟨w.heap.size, 6, none⟩ = some (.int .i64 c.rl) ∧ w'.cell? ⟨w.heap.size, 7, none⟩ = some (.int .i64 c.rh) ∧ w'.cell? ⟨w.heap.size, 8, none⟩ = some (.int .i64 c.lh))
                                      (first | (with_reducible exact X0.out.reads) | (with_reducible exact X1.out.reads) | (with_reducible exact X2.out.reads))
                                      (first | (go_at_call 37; (with_reducible refine (CT.out _).mono ?_); rintro e w1 ⟨rfl, hb1⟩; have X1 := Lib.hid (X0.out.below hb1); have B2 := Lib.hid (B1.out.trans (hb1.mono B1.out.size)); clear hb1) | (go_at_call 39; (with_reducible refine (CH.out _).mono ?_); rintro e w2 ⟨rfl, hb2⟩; have X2 := Lib.hid (X1.out.below hb2); have B3 := Lib.hid (B2.out.trans (hb2.mono B2.out.size)); clear hb2))
                                    go_wp2
                                    go_ret
                                    rw [E.out, HF.out]
                                    exact ⟨rfl, B3.out⟩
end Go.Proofs.Ytemnhpkkmfgnaaa
