/- What the document's own answers NotMany, NotFew, Full and Sparse of layer 5 (package shelfmarkref05) return. They make only boxes of the config. -/
import Derived.Test.YtemnhpkkmfgnaaaRefC05
namespace Go.Proofs.Ytemnhpkkmfgnaaa
open Go.RowKit
set_option linter.unusedVariables false
set_option linter.unusedSimpArgs false

set_option maxRecDepth 100000 in
set_option maxHeartbeats 4000000 in
theorem r5NotMany (c : Cf) (size h n : Int) (w : World) (K : c.Ok size h n) :
    Calls Try.prog 41 #[cfv c, .int .i64 size, .int .i64 h, .int .i64 n] w fun e w' => e = .returned (.bool (c.manyB size h n)) ∧ Below w.heap.size w w' := by
  have BX := Lib.hid (CBox.new w c 23)
  have B0 := Lib.hid ((Below.refl w.heap.size w).alloc (Nat.le_refl _) (.cells (cfCells c) 23))
  have bd := K.bd
  have SB := K.may.size_bd K.is
  have d1 := K.may.sizes.den1
  have d2 := K.may.sizes.den2
  have e1 := K.may.dens.ll0
  have e2 := K.may.dens.llrl
  have e3 := K.may.dens.rhlh
  have e4 := K.may.dens.lhd
  have e5 := K.may.dens.rld
  have e6 := K.may.dens.rh1 K.may.sizes
  have n0 := K.n0
  have n1 := K.n1
  have h0 := K.h0
  have h1 := K.h1
  obtain ⟨i0, i1, w4, w1, s1, s0, p0, p1, u0, u1, v0, v1, l0, l1, m0, m1⟩ := bd
  have g1 := K.may.sizes.seg1
  have g2 := K.may.sizes.seg2
  have CH := Lib.hid (fun W => r5Height c size W g1 SB.1 (by omega))
  have CS := Lib.hid (fun W => r5Wide c h W g1 g2 h0 (by omega))
  clear K SB
  unfold cfCells at BX B0
  have HM := Lib.hid (show c.manyB size h n = if c.high size = 0 then decide (n * c.den ≤ c.wide h * c.rh) else decide (n * c.high size * c.den ≤ c.wide h * (c.lh * (c.high size - h) + c.rh * h)) from rfl)
  obtain ⟨H, hH⟩ : ∃ H, H = c.high size := ⟨_, rfl⟩
  rw [← hH] at CH HM p0 p1 i0 i1 h1 u0 u1
  clear hH
  obtain ⟨X, hX⟩ : ∃ X, X = c.wide h := ⟨_, rfl⟩
  rw [← hX] at CS HM w4 w1 n1
  clear hX
  by_cases hz : H = 0
  · have E := Lib.hid (show c.manyB size h n = decide (n * c.den ≤ X * c.rh) by rw [HM.out, if_pos hz])
    have a1 := Cf.mul_bd (a := n) (b := c.den) (A := 65535) (B := 64) n0 (by omega) (by omega) d2
    have a2 := Cf.mul_bd (a := X) (b := c.rh) (A := 65535) (B := 64) (by omega) (by omega) (by omega) (by omega)
    have y1 : IntKind.i64.wrap (n * c.den) = n * c.den := IntWalk.i64_in _ (by omega)
    have y2 : IntKind.i64.wrap (X * c.rh) = X * c.rh := IntWalk.i64_in _ (by omega)
    clear a1 a2 u0 u1 v0 v1 l0 l1 m0 m1 p0 p1
    rw [hz] at CH
    clear hz
    unfold cfv at CH CS ⊢
    go_enter Try.func41, Try.ntmps41
    go_wp2_with fail
    refine (CH.out _).mono ?_
    rintro e w1 ⟨rfl, hb⟩
    have B1 := Lib.hid (B0.out.trans (hb.mono B0.out.size)).drew
    have X1 := Lib.hid ((BX.out.below hb).below ((Below.refl _ _).drew))
    have c3 := X1.out.c3
    clear hb
    go_upto_region 3 with (fail)
    go_region_held3 (fun w' => w'.cell? ⟨w.heap.size, 0, none⟩ = some (.int .u8 c.tag) ∧ w'.cell? ⟨w.heap.size, 1, none⟩ = some (.int .i64 c.most) ∧ w'.cell? ⟨w.heap.size, 2, none⟩ = some (.int .i64 c.seg) ∧ w'.cell? ⟨w.heap.size, 3, none⟩ = some (.int .i64 c.least) ∧ w'.cell? ⟨w.heap.size, 4, none⟩ = some (.int .i64 c.den) ∧ w'.cell? ⟨w.heap.size, 5, none⟩ = some (.int .i64 c.ll) ∧ w'.cell? ⟨w.heap.size, 6, none⟩ = some (.int .i64 c.rl) ∧ w'.cell? ⟨w.heap.size, 7, none⟩ = some (.int .i64 c.rh) ∧ w'.cell? ⟨w.heap.size, 8, none⟩ = some (.int .i64 c.lh))
      (first | (with_reducible exact X1.out.reads) | (with_reducible exact X2.out.reads))
      (first | (go_at_call 49; (with_reducible refine (CS.out _).mono ?_); rintro e w2 ⟨rfl, hb2⟩; have X2 := Lib.hid (X1.out.below hb2); have B2 := Lib.hid (B1.out.trans (hb2.mono B1.out.size)); clear hb2))
    go_wp2
    go_ret
    rw [E.out]
    exact ⟨rfl, B2.out⟩
  · have E := Lib.hid (show c.manyB size h n = decide (n * H * c.den ≤ X * (c.lh * (H - h) + c.rh * h)) by rw [HM.out, if_neg hz])
    have hz' : (H == 0) = false := by simpa using hz
    have a1 := Cf.mul_bd (a := n) (b := H) (A := 65535) (B := 14) n0 (by omega) (by omega) (by omega)
    have a2 := Cf.mul_bd (a := n * H) (b := c.den) (A := 65535 * 14) (B := 64) a1.1 a1.2 (by omega) d2
    have a3 := Cf.mul_bd (a := X) (b := c.lh * (H - h) + c.rh * h) (A := 65535) (B := 1792) (by omega) (by omega) (by omega) (by omega)
    have y1 : IntKind.i64.wrap (n * H) = n * H := IntWalk.i64_in _ (by omega)
    have y2 : IntKind.i64.wrap (n * H * c.den) = n * H * c.den := IntWalk.i64_in _ (by omega)
    have y3 : IntKind.i64.wrap (H - h) = H - h := IntWalk.i64_in _ (by omega)
    have y4 : IntKind.i64.wrap (c.lh * (H - h)) = c.lh * (H - h) := IntWalk.i64_in _ (by omega)
    have y5 : IntKind.i64.wrap (c.rh * h) = c.rh * h := IntWalk.i64_in _ (by omega)
    have y6 : IntKind.i64.wrap (c.lh * (H - h) + c.rh * h) = c.lh * (H - h) + c.rh * h := IntWalk.i64_in _ (by omega)
    have y7 : IntKind.i64.wrap (X * (c.lh * (H - h) + c.rh * h)) = X * (c.lh * (H - h) + c.rh * h) := IntWalk.i64_in _ (by omega)
    clear a1 a2 a3 u0 u1 v0 v1 l0 l1 m0 m1 p0 p1 hz
    unfold cfv at CH CS ⊢
    go_enter Try.func41, Try.ntmps41
    go_wp2_with fail
    refine (CH.out _).mono ?_
    rintro e w1 ⟨rfl, hb⟩
    have B1 := Lib.hid (B0.out.trans (hb.mono B0.out.size)).drew
    have X1 := Lib.hid ((BX.out.below hb).below ((Below.refl _ _).drew))
    have c3 := X1.out.c3
    clear hb
    go_upto_region 4 with (fail)
    go_region_held3 (fun w' => w'.cell? ⟨w.heap.size, 0, none⟩ = some (.int .u8 c.tag) ∧ w'.cell? ⟨w.heap.size, 1, none⟩ = some (.int .i64 c.most) ∧ w'.cell? ⟨w.heap.size, 2, none⟩ = some (.int .i64 c.seg) ∧ w'.cell? ⟨w.heap.size, 3, none⟩ = some (.int .i64 c.least) ∧ w'.cell? ⟨w.heap.size, 4, none⟩ = some (.int .i64 c.den) ∧ w'.cell? ⟨w.heap.size, 5, none⟩ = some (.int .i64 c.ll) ∧ w'.cell? ⟨w.heap.size, 6, none⟩ = some (.int .i64 c.rl) ∧ w'.cell? ⟨w.heap.size, 7, none⟩ = some (.int .i64 c.rh) ∧ w'.cell? ⟨w.heap.size, 8, none⟩ = some (.int .i64 c.lh))
      (first | (with_reducible exact X1.out.reads) | (with_reducible exact X2.out.reads))
      (first | (go_at_call 49; (with_reducible refine (CS.out _).mono ?_); rintro e w2 ⟨rfl, hb2⟩; have X2 := Lib.hid (X1.out.below hb2); have B2 := Lib.hid (B1.out.trans (hb2.mono B1.out.size)); clear hb2))
    go_wp2
    go_ret
    rw [E.out]
    exact ⟨rfl, B2.out⟩

set_option maxRecDepth 100000 in
set_option maxHeartbeats 4000000 in
theorem r5NotFew (c : Cf) (size h n : Int) (w : World) (K : c.Ok size h n) :
    Calls Try.prog 42 #[cfv c, .int .i64 size, .int .i64 h, .int .i64 n] w fun e w' => e = .returned (.bool (c.fewB size h n)) ∧ Below w.heap.size w w' := by
  have BX := Lib.hid (CBox.new w c 23)
  have B0 := Lib.hid ((Below.refl w.heap.size w).alloc (Nat.le_refl _) (.cells (cfCells c) 23))
  have bd := K.bd
  have SB := K.may.size_bd K.is
  have d1 := K.may.sizes.den1
  have d2 := K.may.sizes.den2
  have e1 := K.may.dens.ll0
  have e2 := K.may.dens.llrl
  have e3 := K.may.dens.rhlh
  have e4 := K.may.dens.lhd
  have e5 := K.may.dens.rld
  have e6 := K.may.dens.rh1 K.may.sizes
  have n0 := K.n0
  have n1 := K.n1
  have h0 := K.h0
  have h1 := K.h1
  obtain ⟨i0, i1, w4, w1, s1, s0, p0, p1, u0, u1, v0, v1, l0, l1, m0, m1⟩ := bd
  have g1 := K.may.sizes.seg1
  have g2 := K.may.sizes.seg2
  have CH := Lib.hid (fun W => r5Height c size W g1 SB.1 (by omega))
  have CS := Lib.hid (fun W => r5Wide c h W g1 g2 h0 (by omega))
  clear K SB
  unfold cfCells at BX B0
  have HM := Lib.hid (show c.fewB size h n = (size == c.least || decide (c.wide h * (c.ll * (c.high size - h) + c.rl * h) ≤ (n + 1) * c.high size * c.den)) from rfl)
  obtain ⟨H, hH⟩ : ∃ H, H = c.high size := ⟨_, rfl⟩
  rw [← hH] at CH HM p0 p1 i0 i1 h1 l0 l1
  clear hH
  obtain ⟨X, hX⟩ : ∃ X, X = c.wide h := ⟨_, rfl⟩
  rw [← hX] at CS HM w4 w1 n1
  clear hX
  by_cases hz : size = c.least
  · have hz' : (size == c.least) = true := by simpa using hz
    have E := Lib.hid (show c.fewB size h n = true by rw [HM.out, hz', Bool.true_or])
    clear hz u0 u1 v0 v1 l0 l1 m0 m1 p0 p1
    unfold cfv at CH CS ⊢
    go_enter Try.func42, Try.ntmps42
    go_wp2_with fail
    refine (CH.out _).mono ?_
    rintro e w1 ⟨rfl, hb⟩
    have B1 := Lib.hid (B0.out.trans (hb.mono B0.out.size))
    have X1 := Lib.hid (BX.out.below hb)
    have c3 := X1.out.c3
    clear hb
    go_upto_region 2 with (fail)
    go_quiet (fail)
    have B2 := Lib.hid (show Below w.heap.size w (w1.drewN nq) from below_drewN B1.out nq)
    go_wp2
    go_ret
    rw [E.out]
    exact ⟨rfl, B2.out⟩
  · have hz' : (size == c.least) = false := by simpa using hz
    have E := Lib.hid (show c.fewB size h n = decide (X * (c.ll * (H - h) + c.rl * h) ≤ (n + 1) * H * c.den) by rw [HM.out, hz', Bool.false_or])
    have a1 := Cf.mul_bd (a := n + 1) (b := H) (A := 65536) (B := 14) (by omega) (by omega) (by omega) (by omega)
    have a2 := Cf.mul_bd (a := (n + 1) * H) (b := c.den) (A := 65536 * 14) (B := 64) a1.1 a1.2 (by omega) d2
    have a3 := Cf.mul_bd (a := X) (b := c.ll * (H - h) + c.rl * h) (A := 65535) (B := 1792) (by omega) (by omega) (by omega) (by omega)
    have y0 : IntKind.i64.wrap (n + 1) = n + 1 := IntWalk.i64_in _ (by omega)
    have y1 : IntKind.i64.wrap ((n + 1) * H) = (n + 1) * H := IntWalk.i64_in _ (by omega)
    have y2 : IntKind.i64.wrap ((n + 1) * H * c.den) = (n + 1) * H * c.den := IntWalk.i64_in _ (by omega)
    have y3 : IntKind.i64.wrap (H - h) = H - h := IntWalk.i64_in _ (by omega)
    have y4 : IntKind.i64.wrap (c.ll * (H - h)) = c.ll * (H - h) := IntWalk.i64_in _ (by omega)
    have y5 : IntKind.i64.wrap (c.rl * h) = c.rl * h := IntWalk.i64_in _ (by omega)
    have y6 : IntKind.i64.wrap (c.ll * (H - h) + c.rl * h) = c.ll * (H - h) + c.rl * h := IntWalk.i64_in _ (by omega)
    have y7 : IntKind.i64.wrap (X * (c.ll * (H - h) + c.rl * h)) = X * (c.ll * (H - h) + c.rl * h) := IntWalk.i64_in _ (by omega)
    clear a1 a2 a3 u0 u1 v0 v1 l0 l1 m0 m1 p0 p1 hz
    unfold cfv at CH CS ⊢
    go_enter Try.func42, Try.ntmps42
    go_wp2_with fail
    refine (CH.out _).mono ?_
    rintro e w1 ⟨rfl, hb⟩
    have B1 := Lib.hid (B0.out.trans (hb.mono B0.out.size)).drew
    have X1 := Lib.hid ((BX.out.below hb).below ((Below.refl _ _).drew))
    have c3 := X1.out.c3
    clear hb
    go_upto_region 2 with (fail)
    go_region_held3 (fun w' => w'.cell? ⟨w.heap.size, 0, none⟩ = some (.int .u8 c.tag) ∧ w'.cell? ⟨w.heap.size, 1, none⟩ = some (.int .i64 c.most) ∧ w'.cell? ⟨w.heap.size, 2, none⟩ = some (.int .i64 c.seg) ∧ w'.cell? ⟨w.heap.size, 3, none⟩ = some (.int .i64 c.least) ∧ w'.cell? ⟨w.heap.size, 4, none⟩ = some (.int .i64 c.den) ∧ w'.cell? ⟨w.heap.size, 5, none⟩ = some (.int .i64 c.ll) ∧ w'.cell? ⟨w.heap.size, 6, none⟩ = some (.int .i64 c.rl) ∧ w'.cell? ⟨w.heap.size, 7, none⟩ = some (.int .i64 c.rh) ∧ w'.cell? ⟨w.heap.size, 8, none⟩ = some (.int .i64 c.lh))
      (first | (with_reducible exact X1.out.reads) | (with_reducible exact X2.out.reads))
      (first | (go_at_call 49; (with_reducible refine (CS.out _).mono ?_); rintro e w2 ⟨rfl, hb2⟩; have X2 := Lib.hid (X1.out.below hb2); have B2 := Lib.hid (B1.out.trans (hb2.mono B1.out.size)); clear hb2))
    go_wp2
    go_ret
    rw [E.out]
    exact ⟨rfl, B2.out⟩

set_option maxRecDepth 100000 in
set_option maxHeartbeats 2000000 in
theorem r5Full (c : Cf) (size h n : Int) (w : World) (hc : c.In) (hsz : size ≤ 9223372036854775807) :
    Calls Try.prog 20 #[cfv c, .int .i64 size, .int .i64 h, .int .i64 n] w fun e w' => e = .returned (.tuple #[.bool (c.fullV size h n), .int .i64 (c.askE size h n)]) ∧ Below w.heap.size w w' := by
  have BX := Lib.hid (CBox.new w c 23)
  have B0 := Lib.hid ((Below.refl w.heap.size w).alloc (Nat.le_refl _) (.cells (cfCells c) 23))
  have CK := Lib.hid (fun W => r5asked c size h n W hc hsz)
  clear hc
  unfold cfCells at BX B0
  cases hk : c.okB size h n
  · have E := Lib.hid (Cf.ok_no hk)
    have k1 := E.out.1
    clear hk
    obtain ⟨x, hx⟩ : ∃ x, x = c.askE size h n := ⟨_, rfl⟩
    rw [← hx] at k1 CK ⊢
    clear hx
    unfold cfv at CK ⊢
    go_enter Try.func20, Try.ntmps20
    go_wp2_with fail
    refine (CK.out _).mono ?_
    rintro e w1 ⟨rfl, hb⟩
    go_wp2
    go_ret2
    rw [E.out.2.2.1]
    exact ⟨rfl, B0.out.trans (hb.mono B0.out.size)⟩
  · have K := (Cf.ok_iff c size h n).1 hk
    have V := Lib.hid (show c.fullV size h n = c.manyB size h n by unfold Cf.fullV; rw [hk]; rfl)
    rw [(Cf.ok_ask hk).1] at CK ⊢
    have CN := Lib.hid (fun W => r5NotMany c size h n W K)
    clear K hk
    unfold cfv at CK CN ⊢
    go_enter Try.func20, Try.ntmps20
    go_wp2_with fail
    refine (CK.out _).mono ?_
    rintro e w1 ⟨rfl, hb⟩
    have B1 := Lib.hid (B0.out.trans (hb.mono B0.out.size))
    obtain ⟨_, c0, c1, c2, c3, c4, c5, c6, c7, c8, _⟩ := BX.out.below hb
    clear hb
    go_wp2_with fail
    refine (CN.out _).mono ?_
    rintro e w2 ⟨rfl, hb⟩
    go_wp2
    go_ret2
    rw [V.out]
    exact ⟨rfl, B1.out.trans (hb.mono B1.out.size)⟩

set_option maxRecDepth 100000 in
set_option maxHeartbeats 2000000 in
theorem r5Sparse (c : Cf) (size h n : Int) (w : World) (hc : c.In) (hsz : size ≤ 9223372036854775807) :
    Calls Try.prog 22 #[cfv c, .int .i64 size, .int .i64 h, .int .i64 n] w fun e w' => e = .returned (.tuple #[.bool (c.sparseV size h n), .int .i64 (c.askE size h n)]) ∧ Below w.heap.size w w' := by
  have BX := Lib.hid (CBox.new w c 23)
  have B0 := Lib.hid ((Below.refl w.heap.size w).alloc (Nat.le_refl _) (.cells (cfCells c) 23))
  have CK := Lib.hid (fun W => r5asked c size h n W hc hsz)
  clear hc
  unfold cfCells at BX B0
  cases hk : c.okB size h n
  · have E := Lib.hid (Cf.ok_no hk)
    have k1 := E.out.1
    clear hk
    obtain ⟨x, hx⟩ : ∃ x, x = c.askE size h n := ⟨_, rfl⟩
    rw [← hx] at k1 CK ⊢
    clear hx
    unfold cfv at CK ⊢
    go_enter Try.func22, Try.ntmps22
    go_wp2_with fail
    refine (CK.out _).mono ?_
    rintro e w1 ⟨rfl, hb⟩
    go_wp2
    go_ret2
    rw [E.out.2.2.2]
    exact ⟨rfl, B0.out.trans (hb.mono B0.out.size)⟩
  · have K := (Cf.ok_iff c size h n).1 hk
    have V := Lib.hid (show c.sparseV size h n = c.fewB size h n by unfold Cf.sparseV; rw [hk]; rfl)
    rw [(Cf.ok_ask hk).1] at CK ⊢
    have CN := Lib.hid (fun W => r5NotFew c size h n W K)
    clear K hk
    unfold cfv at CK CN ⊢
    go_enter Try.func22, Try.ntmps22
    go_wp2_with fail
    refine (CK.out _).mono ?_
    rintro e w1 ⟨rfl, hb⟩
    have B1 := Lib.hid (B0.out.trans (hb.mono B0.out.size))
    obtain ⟨_, c0, c1, c2, c3, c4, c5, c6, c7, c8, _⟩ := BX.out.below hb
    clear hb
    go_wp2_with fail
    refine (CN.out _).mono ?_
    rintro e w2 ⟨rfl, hb⟩
    go_wp2
    go_ret2
    rw [V.out]
    exact ⟨rfl, B1.out.trans (hb.mono B1.out.size)⟩
end Go.Proofs.Ytemnhpkkmfgnaaa
