/- The plain functions of layer 3 (crc): sums under way as a linear map on numbers; sealed bytes; bursts. No program is named here. -/
import Derived.RowKit
namespace Go.Proofs.Ythdondjhiflkaaa
namespace Cr

def poly : Nat := 3988292384
/-- Behind a bit 0. -/
def Z (x : Nat) : Nat := x / 2 ^^^ (if x % 2 = 1 then poly else 0)
def Zn : Nat → Nat → Nat
  | 0, x => x
  | n + 1, x => Zn n (Z x)
/-- Behind a bit. -/
def stepN (s b : Nat) : Nat := if s % 2 = b then s / 2 else s / 2 ^^^ poly
/-- Behind the k lowest bits of c. -/
def feed : Nat → Nat → Nat → Nat
  | 0, s, _ => s
  | k + 1, s, c => feed k (stepN s (c % 2)) (c / 2)
def behind (s : Nat) (t : List Nat) : Nat := t.foldl (fun u c => feed 8 u c) s
theorem behind_cons (s c : Nat) (t : List Nat) : behind s (c :: t) = behind (feed 8 s c) t := rfl
theorem behind_nil (s : Nat) : behind s [] = s := rfl
def num : List Nat → Nat
  | [] => 0
  | c :: t => c + 256 * num t
def Small (t : List Nat) : Prop := ∀ c ∈ t, c < 256

theorem xor_zero_eq {x y : Nat} (h : x ^^^ y = 0) : x = y := by
  have := congrArg (· ^^^ y) h
  simpa [Nat.xor_assoc] using this
theorem Z_xor (x y : Nat) : Z (x ^^^ y) = Z x ^^^ Z y := by
  unfold Z
  rw [Nat.xor_div_two]
  have hm := @Nat.xor_mod_two_eq_one x y
  by_cases hx : x % 2 = 1 <;> by_cases hy : y % 2 = 1
  · rw [if_pos hx, if_pos hy, if_neg (by rw [hm]; simp [hx, hy])]
    rw [Nat.xor_zero, Nat.xor_assoc, ← Nat.xor_assoc poly, Nat.xor_comm poly (y / 2), Nat.xor_assoc (y / 2), Nat.xor_self, Nat.xor_zero]
  · rw [if_pos hx, if_neg hy, if_pos (by rw [hm]; simp [hx, hy]), Nat.xor_zero, Nat.xor_assoc, Nat.xor_assoc, Nat.xor_comm (y / 2)]
  · rw [if_neg hx, if_pos hy, if_pos (by rw [hm]; simp [hx, hy]), Nat.xor_zero, Nat.xor_assoc]
  · rw [if_neg hx, if_neg hy, if_neg (by rw [hm]; simp [hx, hy]), Nat.xor_zero, Nat.xor_zero, Nat.xor_zero]
theorem Zn_xor : ∀ (n x y : Nat), Zn n (x ^^^ y) = Zn n x ^^^ Zn n y
  | 0, _, _ => rfl
  | n + 1, x, y => by rw [Zn, Z_xor, Zn_xor n]; rfl
theorem Zn_add : ∀ (m n x : Nat), Zn (m + n) x = Zn n (Zn m x)
  | 0, n, x => by rw [Nat.zero_add]; rfl
  | m + 1, n, x => by rw [show m + 1 + n = (m + n) + 1 from by omega, Zn, Zn_add m n]; rfl
theorem Z_two (x : Nat) : Z (2 * x) = x := by
  unfold Z
  rw [if_neg (by omega), Nat.xor_zero]
  omega
theorem Zn_shift : ∀ (k x : Nat), Zn k (2 ^ k * x) = x
  | 0, x => by simp [Zn]
  | k + 1, x => by rw [Zn, show 2 ^ (k + 1) * x = 2 * (2 ^ k * x) from by rw [Nat.pow_succ, Nat.mul_comm (2 ^ k) 2, Nat.mul_assoc], Z_two, Zn_shift k x]
theorem Z_lt {x : Nat} (h : x < 4294967296) : Z x < 4294967296 := by
  unfold Z
  refine Nat.xor_lt_two_pow (n := 32) (by omega) ?_
  split <;> decide
theorem Z_ne {x : Nat} (h : x < 4294967296) (h0 : x ≠ 0) : Z x ≠ 0 := by
  unfold Z
  split
  · intro e
    have := xor_zero_eq e
    unfold poly at this
    omega
  · rw [Nat.xor_zero]; omega
theorem Zn_lt : ∀ (n : Nat) {x : Nat}, x < 4294967296 → Zn n x < 4294967296
  | 0, _, h => h
  | n + 1, _, h => Zn_lt n (Z_lt h)
theorem Zn_ne : ∀ (n : Nat) {x : Nat}, x < 4294967296 → x ≠ 0 → Zn n x ≠ 0
  | 0, _, _, h0 => h0
  | n + 1, _, h, h0 => Zn_ne n (Z_lt h) (Z_ne h h0)
theorem Zn_inj {n x y : Nat} (hx : x < 4294967296) (hy : y < 4294967296) (h : Zn n x = Zn n y) : x = y := by
  have h1 : Zn n (x ^^^ y) = 0 := by rw [Zn_xor, h, Nat.xor_self]
  have h2 : x ^^^ y < 4294967296 := Nat.xor_lt_two_pow (n := 32) hx hy
  by_cases h0 : x ^^^ y = 0
  · exact xor_zero_eq h0
  · exact absurd h1 (Zn_ne n h2 h0)
theorem xor_split (k a y : Nat) (h : a < 2 ^ k) : a ^^^ (2 ^ k * y) = a + 2 ^ k * y := by
  apply Nat.eq_of_testBit_eq
  intro i
  rw [Nat.testBit_xor, Nat.add_comm, Nat.testBit_two_pow_mul_add _ h]
  have e := Nat.testBit_two_pow_mul_add y (Nat.two_pow_pos k) i
  rw [Nat.add_zero] at e
  rw [e]
  split
  · simp
  · rename_i hk
    have : a.testBit i = false := Nat.testBit_lt_two_pow (Nat.lt_of_lt_of_le h (Nat.pow_le_pow_right (by decide) (by omega)))
    rw [this, Bool.false_xor]
theorem stepN_eq (s b : Nat) (hb : b < 2) : stepN s b = Z (s ^^^ b) := by
  unfold stepN Z
  rw [Nat.xor_div_two, show b / 2 = 0 from by omega, Nat.xor_zero]
  have hm := @Nat.xor_mod_two_eq_one s b
  by_cases h : s % 2 = b
  · rw [if_pos h, if_neg (by rw [hm]; omega), Nat.xor_zero]
  · rw [if_neg h, if_pos (by rw [hm]; omega)]
theorem feed_eq : ∀ (k s c : Nat), feed k s c = Zn k (s ^^^ (c % 2 ^ k))
  | 0, s, c => by simp [feed, Zn, Nat.mod_one]
  | k + 1, s, c => by
    rw [feed, feed_eq k, stepN_eq _ _ (by omega), Zn]
    congr 1
    have e1 : c / 2 % 2 ^ k = Z (2 * (c / 2 % 2 ^ k)) := (Z_two _).symm
    rw [e1, ← Z_xor, Nat.xor_assoc]
    congr 2
    have e2 := xor_split 1 (c % 2) (c / 2 % 2 ^ k) (by omega)
    rw [Nat.pow_one] at e2
    rw [e2, Nat.pow_succ, Nat.mul_comm (2 ^ k) 2, Nat.mod_mul]
theorem feed_snoc : ∀ (k s c : Nat), feed (k + 1) s c = stepN (feed k s c) (c / 2 ^ k % 2)
  | 0, s, c => by simp [feed]
  | k + 1, s, c => by
    rw [feed, feed_snoc k, feed, Nat.div_div_eq_div_mul, Nat.pow_succ, Nat.mul_comm (2 ^ k) 2]
theorem stepN_lt {s b : Nat} (h : s < 4294967296) (hb : b < 2) : stepN s b < 4294967296 := by
  rw [stepN_eq s b hb]
  exact Z_lt (Nat.xor_lt_two_pow (n := 32) h (by omega))
theorem feed_lt {k s c : Nat} (h : s < 4294967296) : feed k s c < 4294967296 := by
  induction k generalizing s c with
  | zero => exact h
  | succ k ih => exact ih (stepN_lt h (by omega))
theorem behind_snoc (s : Nat) (t : List Nat) (k : Nat) (hk : k < t.length) : behind s (t.take (k + 1)) = feed 8 (behind s (t.take k)) (t.getD k 0) := by
  rw [List.take_succ_eq_append_getElem hk]
  unfold behind
  rw [List.foldl_append]
  simp [List.getD, List.getElem?_eq_getElem hk]
theorem behind_append (s : Nat) (a b : List Nat) : behind s (a ++ b) = behind (behind s a) b := List.foldl_append
theorem Small.tail {c : Nat} {t : List Nat} (h : Small (c :: t)) : Small t := fun d hd => h d (List.mem_cons_of_mem _ hd)
theorem Small.head {c : Nat} {t : List Nat} (h : Small (c :: t)) : c < 256 := h c (List.mem_cons_self ..)
theorem Small.append {a b : List Nat} (h : Small a) (k : Small b) : Small (a ++ b) := fun c hc => (List.mem_append.1 hc).elim (h c) (k c)
theorem behind_eq : ∀ (s : Nat) (t : List Nat), Small t → behind s t = Zn (8 * t.length) (s ^^^ num t)
  | s, [], _ => by simp [behind_nil, num, Zn]
  | s, c :: t, h => by
    rw [behind_cons, behind_eq _ t h.tail, feed_eq, show c % 2 ^ 8 = c from Nat.mod_eq_of_lt h.head]
    have e1 : num t = Zn 8 (2 ^ 8 * num t) := (Zn_shift 8 _).symm
    conv => lhs; rw [e1]
    rw [← Zn_xor, ← Zn_add, Nat.xor_assoc, xor_split 8 c (num t) h.head, List.length_cons]
    congr 1
    omega
theorem behind_lt {s : Nat} {t : List Nat} (hs : s < 4294967296) : behind s t < 4294967296 := by
  induction t generalizing s with
  | nil => exact hs
  | cons c t ih =>
    rw [behind_cons]
    apply ih
    rw [feed_eq]
    exact Zn_lt 8 (Nat.xor_lt_two_pow (n := 32) hs (Nat.lt_trans (Nat.mod_lt _ (by decide)) (by decide)))
theorem behind_xor {s u : Nat} {t v : List Nat} (hl : t.length = v.length) (ht : Small t) (hv : Small v) : behind s t ^^^ behind u v = Zn (8 * t.length) ((s ^^^ u) ^^^ (num t ^^^ num v)) := by
  rw [behind_eq s t ht, behind_eq u v hv, ← hl, ← Zn_xor]
  congr 1
  rw [Nat.xor_assoc, Nat.xor_assoc, ← Nat.xor_assoc (num t), Nat.xor_comm (num t) u, Nat.xor_assoc u]

/-- All bits of a number of 32 bits turned over. -/
theorem flip_eq {x : Nat} (h : x < 4294967296) : 4294967295 - x = 4294967295 ^^^ x := by
  apply Nat.eq_of_testBit_eq
  intro i
  have h1 := Nat.testBit_two_pow_sub_succ (n := 32) (x := x) h i
  have h2 := Nat.testBit_two_pow_sub_one 32 i
  rw [show 2 ^ 32 - (x + 1) = 4294967295 - x from by omega] at h1
  rw [show 2 ^ 32 - 1 = 4294967295 from rfl] at h2
  rw [h1, Nat.testBit_xor, h2]
  by_cases hi : i < 32
  · simp [hi]
  · have : x.testBit i = false := Nat.testBit_lt_two_pow (Nat.lt_of_lt_of_le h (show 2 ^ 32 ≤ 2 ^ i from Nat.pow_le_pow_right (by decide) (by omega)))
    simp [hi, this]

def sumB (b : List Nat) : Nat := 4294967295 - behind 4294967295 b
def le4 (v : Nat) : List Nat := [v % 256, v / 256 % 256, v / 65536 % 256, v / 16777216 % 256]
def sealed (b : List Nat) : List Nat := b ++ le4 (sumB b)
def isSealed (t : List Nat) : Bool := decide (4 ≤ t.length) && (sealed (t.take (t.length - 4)) == t)

theorem le4_small (v : Nat) : Small (le4 v) := by intro c hc; simp [le4] at hc; omega
theorem le4_num {v : Nat} (h : v < 4294967296) : num (le4 v) = v := by simp [le4, num]; omega
theorem le4_of {a b c d : Nat} (ha : a < 256) (hb : b < 256) (hc : c < 256) (hd : d < 256) : le4 (num [a, b, c, d]) = [a, b, c, d] := by
  simp [le4, num]; omega
theorem num_lt : ∀ (t : List Nat), Small t → num t < 256 ^ t.length
  | [], _ => by simp [num]
  | c :: t, h => by have := num_lt t h.tail; have := h.head; rw [num, List.length_cons, Nat.pow_succ]; omega
theorem sumB_lt (b : List Nat) : sumB b < 4294967296 := by unfold sumB; omega
theorem behind_le4 {s v : Nat} (hv : v < 4294967296) : behind s (le4 v) = Zn 32 (s ^^^ v) := by
  rw [behind_eq _ _ (le4_small v), le4_num hv]; rfl
theorem sealed_behind (b : List Nat) : behind 4294967295 (sealed b) = Zn 32 4294967295 := by
  unfold sealed sumB
  have h := behind_lt (s := 4294967295) (t := b) (by decide)
  rw [behind_append, flip_eq h, behind_le4 (Nat.xor_lt_two_pow (n := 32) (by decide) h), Nat.xor_comm 4294967295, ← Nat.xor_assoc, Nat.xor_self, Nat.zero_xor]
/-- Sealed bytes are known by what is behind them. -/
theorem isSealed_iff {t : List Nat} (ht : Small t) (h4 : 4 ≤ t.length) : isSealed t = decide (behind 4294967295 t = Zn 32 4294967295) := by
  rw [Bool.eq_iff_iff, decide_eq_true_eq]
  unfold isSealed
  rw [Bool.and_eq_true, decide_eq_true_eq, beq_iff_eq]
  constructor
  · rintro ⟨_, e⟩
    rw [← e]
    exact sealed_behind _
  · intro e
    refine ⟨h4, ?_⟩
    have hsp := List.take_append_drop (t.length - 4) t
    have hd4 : (t.drop (t.length - 4)).length = 4 := by rw [List.length_drop]; omega
    have hsd : Small (t.drop (t.length - 4)) := fun c hc => ht c (List.mem_of_mem_drop hc)
    obtain ⟨v, hv, hve⟩ : ∃ v, v < 4294967296 ∧ le4 v = t.drop (t.length - 4) := by
      match hm : t.drop (t.length - 4), hd4 with
      | [a, b, c, d], _ =>
        rw [hm] at hsd
        refine ⟨num [a, b, c, d], by have h5 := num_lt [a, b, c, d] hsd; simpa using h5, le4_of (hsd _ (by simp)) (hsd _ (by simp)) (hsd _ (by simp)) (hsd _ (by simp))⟩
    have hb := behind_lt (s := 4294967295) (t := t.take (t.length - 4)) (by decide)
    rw [← hsp, behind_append, ← hve, behind_le4 hv] at e
    have e2 := Zn_inj (Nat.xor_lt_two_pow (n := 32) hb hv) (by decide) e
    have e3 : v = sumB (t.take (t.length - 4)) := by
      unfold sumB
      have e4 := congrArg (fun x => behind 4294967295 (t.take (t.length - 4)) ^^^ x) e2
      simp only [← Nat.xor_assoc, Nat.xor_self, Nat.zero_xor] at e4
      rw [flip_eq hb, e4, Nat.xor_comm]
    unfold sealed
    rw [← e3, hve, hsp]
theorem isSealed_sealed {b : List Nat} (hb : Small b) : isSealed (sealed b) = true := by
  have : 4 ≤ (sealed b).length := by unfold sealed; rw [List.length_append]; simp [le4]
  have hs : Small (sealed b) := hb.append (le4_small _)
  rw [isSealed_iff hs this, sealed_behind]
  simp
theorem sealed_length (b : List Nat) : (sealed b).length = b.length + 4 := by unfold sealed; rw [List.length_append]; rfl
theorem sealed_take (b : List Nat) : (sealed b).take ((sealed b).length - 4) = b := by
  rw [sealed_length, Nat.add_sub_cancel]
  unfold sealed
  simp

/-- A list with the bits of the number N turned over. -/
def xorAt : List Nat → Nat → List Nat
  | [], _ => []
  | c :: t, N => (c ^^^ (N % 256)) :: xorAt t (N / 256)
theorem xorAt_length : ∀ (t : List Nat) (N : Nat), (xorAt t N).length = t.length
  | [], _ => rfl
  | c :: t, N => by rw [xorAt, List.length_cons, List.length_cons, xorAt_length]
theorem xorAt_small : ∀ (t : List Nat) (N : Nat), Small t → Small (xorAt t N)
  | [], _, h => h
  | c :: t, N, h => by
    intro d hd
    rw [xorAt] at hd
    rcases List.mem_cons.1 hd with rfl | hd
    · exact Nat.xor_lt_two_pow (n := 8) h.head (by omega)
    · exact xorAt_small t (N / 256) h.tail d hd
theorem xor_add (k a b x y : Nat) (ha : a < 2 ^ k) (hb : b < 2 ^ k) : (a + 2 ^ k * x) ^^^ (b + 2 ^ k * y) = (a ^^^ b) + 2 ^ k * (x ^^^ y) := by
  have hx : a ^^^ b < 2 ^ k := Nat.xor_lt_two_pow ha hb
  rw [← xor_split k a x ha, ← xor_split k b y hb, ← xor_split k _ (x ^^^ y) hx]
  have e : 2 ^ k * (x ^^^ y) = 2 ^ k * x ^^^ 2 ^ k * y := by
    apply Nat.eq_of_testBit_eq
    intro i
    rw [Nat.mul_comm, Nat.mul_comm (2 ^ k) x, Nat.mul_comm (2 ^ k) y, Nat.testBit_xor, Nat.testBit_mul_two_pow, Nat.testBit_mul_two_pow, Nat.testBit_mul_two_pow, Nat.testBit_xor]
    by_cases h : k ≤ i <;> simp [h]
  rw [e, Nat.xor_assoc, Nat.xor_assoc, ← Nat.xor_assoc (2 ^ k * x), Nat.xor_comm (2 ^ k * x) b, Nat.xor_assoc b]
theorem xorAt_num : ∀ (t : List Nat) (N : Nat), Small t → N < 256 ^ t.length → num (xorAt t N) = num t ^^^ N
  | [], N, _, h => by
    have : N = 0 := by simpa using h
    subst this; rfl
  | c :: t, N, h, hN => by
    have hq : N / 256 < 256 ^ t.length := by rw [List.length_cons, Nat.pow_succ] at hN; omega
    rw [xorAt, num, num, xorAt_num t (N / 256) h.tail hq]
    have := xor_add 8 c (N % 256) (num t) (N / 256) h.head (by omega)
    rw [show (2 : Nat) ^ 8 = 256 from rfl, show N % 256 + 256 * (N / 256) = N from by omega] at this
    exact this.symm
theorem xorAt_xor : ∀ (t : List Nat) (N M : Nat), xorAt (xorAt t N) M = xorAt t (N ^^^ M)
  | [], _, _ => rfl
  | c :: t, N, M => by
    rw [xorAt, xorAt, xorAt, xorAt_xor t, Nat.xor_assoc]
    have := xor_add 8 (N % 256) (M % 256) (N / 256) (M / 256) (by omega) (by omega)
    rw [show (2 : Nat) ^ 8 = 256 from rfl, show N % 256 + 256 * (N / 256) = N from by omega, show M % 256 + 256 * (M / 256) = M from by omega] at this
    have hlt : N % 256 ^^^ M % 256 < 256 := Nat.xor_lt_two_pow (n := 8) (by omega) (by omega)
    congr 2 <;> omega
theorem xorAt_zero : ∀ (t : List Nat), xorAt t 0 = t
  | [] => rfl
  | c :: t => by rw [xorAt, xorAt_zero t]; simp
/-- A burst that turns a bit is seen. -/
theorem burst_behind {t : List Nat} (ht : Small t) {at_ m s : Nat} (hm : m < 4294967296) (h0 : m ≠ 0) (hfit : m * 2 ^ at_ < 256 ^ t.length) : behind s (xorAt t (m * 2 ^ at_)) ≠ behind s t := by
  intro e
  have h1 : behind s (xorAt t (m * 2 ^ at_)) ^^^ behind s t = 0 := by rw [e, Nat.xor_self]
  rw [behind_xor (xorAt_length t _) (xorAt_small t _ ht) ht, Nat.xor_self, Nat.zero_xor, xorAt_num t _ ht hfit, xorAt_length, Nat.xor_comm (num t), Nat.xor_assoc, Nat.xor_self, Nat.xor_zero] at h1
  have hle : at_ ≤ 8 * t.length := by
    apply Nat.le_of_lt
    apply Nat.lt_of_not_le
    intro hge
    have h2 : 2 ^ (8 * t.length) ≤ 2 ^ at_ := Nat.pow_le_pow_right (by decide) hge
    rw [Nat.pow_mul] at h2
    have h3 : 2 ^ at_ ≤ m * 2 ^ at_ := Nat.le_mul_of_pos_left _ (by omega)
    have : (2 ^ 8) ^ t.length = 256 ^ t.length := rfl
    omega
  rw [show 8 * t.length = at_ + (8 * t.length - at_) from by omega, Zn_add, Nat.mul_comm m, Zn_shift] at h1
  exact Zn_ne _ hm h0 h1
theorem burst_seen {b : List Nat} (hb : Small b) {at_ m : Nat} (hm : m < 4294967296) (h0 : m ≠ 0) (hfit : m * 2 ^ at_ < 256 ^ (sealed b).length) : isSealed (xorAt (sealed b) (m * 2 ^ at_)) = false := by
  have hs : Small (sealed b) := hb.append (le4_small _)
  have h4 : 4 ≤ (xorAt (sealed b) (m * 2 ^ at_)).length := by rw [xorAt_length, sealed_length]; omega
  rw [isSealed_iff (xorAt_small _ _ hs) h4, decide_eq_false_iff_not, ← sealed_behind b]
  exact burst_behind hs hm h0 hfit

/-- Two texts of one length put together, bit by bit. -/
def xorL (a b : List Nat) : List Nat := List.zipWith (· ^^^ ·) a b
theorem xorL_length {a b : List Nat} (h : a.length = b.length) : (xorL a b).length = a.length := by unfold xorL; rw [List.length_zipWith]; omega
theorem xorL_small : ∀ {a b : List Nat}, Small a → Small b → Small (xorL a b)
  | [], _, _, _ => by intro c hc; simp [xorL] at hc
  | _ :: _, [], _, _ => by intro c hc; simp [xorL] at hc
  | x :: a, y :: b, ha, hb => by
    intro c hc
    simp only [xorL, List.zipWith_cons_cons, List.mem_cons] at hc
    rcases hc with rfl | hc
    · exact Nat.xor_lt_two_pow (n := 8) ha.head hb.head
    · exact xorL_small ha.tail hb.tail c hc
theorem xorL_num : ∀ {a b : List Nat}, a.length = b.length → Small a → Small b → num (xorL a b) = num a ^^^ num b
  | [], [], _, _, _ => rfl
  | [], _ :: _, h, _, _ => by simp at h
  | _ :: _, [], h, _, _ => by simp at h
  | x :: a, y :: b, h, ha, hb => by
    have h1 : a.length = b.length := by simpa using h
    show (x ^^^ y) + 256 * num (xorL a b) = _
    rw [xorL_num h1 ha.tail hb.tail]
    exact (xor_add 8 x y (num a) (num b) ha.head hb.head).symm
/-- The sums of three texts of one length, put together, are the sum of these put together. -/
theorem sums_together {a b c : List Nat} (h1 : a.length = b.length) (h2 : a.length = c.length) (ha : Small a) (hb : Small b) (hc : Small c) :
    sumB a ^^^ sumB b ^^^ sumB c = sumB (xorL (xorL a b) c) := by
  have hl : (xorL a b).length = a.length := xorL_length h1
  have hs := xorL_small ha hb
  have hl2 : (xorL (xorL a b) c).length = a.length := by rw [xorL_length (by omega), hl]
  have hs2 := xorL_small hs hc
  have F : ∀ t : List Nat, sumB t = 4294967295 ^^^ behind 4294967295 t := fun t => by
    unfold sumB; exact flip_eq (behind_lt (by decide))
  rw [F a, F b, F c, F (xorL _ _), behind_eq _ a ha, behind_eq _ b hb, behind_eq _ c hc, behind_eq _ _ hs2, hl2, ← h1, ← h2, xorL_num (by omega) hs hc, xorL_num h1 ha hb]
  generalize num a = x
  generalize num b = y
  generalize num c = z
  generalize 8 * a.length = n
  rw [Zn_xor, Zn_xor, Zn_xor, Zn_xor n _ (x ^^^ y ^^^ z), Zn_xor n (x ^^^ y), Zn_xor n x y]
  generalize Zn n x = X
  generalize Zn n y = Y
  generalize Zn n z = Z'
  generalize Zn n 4294967295 = G
  generalize 4294967295 = K
  apply Nat.eq_of_testBit_eq
  intro i
  simp only [Nat.testBit_xor]
  cases X.testBit i <;> cases Y.testBit i <;> cases Z'.testBit i <;> cases G.testBit i <;> cases K.testBit i <;> rfl

theorem xorAt_bit : ∀ (t : List Nat) (p : Nat), p < 8 * t.length → xorAt t (2 ^ p) = t.set (p / 8) (t.getD (p / 8) 0 ^^^ 2 ^ (p % 8))
  | [], p, h => by simp at h
  | c :: t, p, h => by
    rw [xorAt]
    by_cases hp : p < 8
    · have h1 : 2 ^ p < 256 := Nat.pow_lt_pow_right (n := 8) (by decide) hp
      rw [Nat.mod_eq_of_lt h1, Nat.div_eq_of_lt h1, xorAt_zero, show p / 8 = 0 from by omega, show p % 8 = p from by omega]
      rfl
    · obtain ⟨q, rfl⟩ : ∃ q, p = q + 8 := ⟨p - 8, by omega⟩
      have e : 2 ^ (q + 8) = 2 ^ q * 256 := by rw [Nat.pow_add]
      rw [e, Nat.mul_mod_left, Nat.mul_div_cancel _ (by decide), Nat.xor_zero, xorAt_bit t q (by rw [List.length_cons] at h; omega), show (q + 8) / 8 = q / 8 + 1 from by omega, show (q + 8) % 8 = q % 8 from by omega]
      rfl
theorem mask_on {m j : Nat} (h : m / 2 ^ j % 2 = 1) : m % 2 ^ (j + 1) = m % 2 ^ j + 2 ^ j := by
  rw [Nat.pow_succ, Nat.mod_mul, h, Nat.mul_one]
theorem mask_off {m j : Nat} (h : m / 2 ^ j % 2 = 0) : m % 2 ^ (j + 1) = m % 2 ^ j := by
  rw [Nat.pow_succ, Nat.mod_mul, h, Nat.mul_zero, Nat.add_zero]
theorem xorAt_next {t : List Nat} {m j a : Nat} (h : m / 2 ^ j % 2 = 1) (hfit : a + j < 8 * t.length) :
    (xorAt t (m % 2 ^ j * 2 ^ a)).set ((a + j) / 8) ((xorAt t (m % 2 ^ j * 2 ^ a)).getD ((a + j) / 8) 0 ^^^ 2 ^ ((a + j) % 8)) = xorAt t (m % 2 ^ (j + 1) * 2 ^ a) := by
  rw [← xorAt_bit _ _ (by rw [xorAt_length]; exact hfit), xorAt_xor, mask_on h]
  congr 1
  have hlt : m % 2 ^ j < 2 ^ j := Nat.mod_lt _ (Nat.two_pow_pos j)
  have h1 : m % 2 ^ j * 2 ^ a < 2 ^ (a + j) := by
    rw [Nat.add_comm, Nat.pow_add]; exact Nat.mul_lt_mul_of_pos_right hlt (Nat.two_pow_pos a)
  have := xor_split (a + j) (m % 2 ^ j * 2 ^ a) 1 h1
  rw [Nat.mul_one] at this
  rw [this, Nat.add_mul, Nat.add_comm a j, Nat.pow_add]
theorem no_fit {m j a len : Nat} (h : m / 2 ^ j % 2 = 1) (hge : 8 * len ≤ a + j) : ¬ m * 2 ^ a < 256 ^ len := by
  have h1 : 2 ^ j ≤ m := by
    apply Nat.le_of_not_lt; intro hlt
    rw [Nat.div_eq_of_lt hlt] at h
    simp at h
  have h2 : 2 ^ (8 * len) ≤ 2 ^ (a + j) := Nat.pow_le_pow_right (by decide) hge
  rw [Nat.pow_mul, show (2 ^ 8 : Nat) = 256 from rfl, Nat.add_comm, Nat.pow_add] at h2
  have h3 : 2 ^ j * 2 ^ a ≤ m * 2 ^ a := Nat.mul_le_mul_right _ h1
  omega
theorem fit_next {m j a len : Nat} (h : m / 2 ^ j % 2 = 1) (hlt : a + j < 8 * len) : m % 2 ^ (j + 1) * 2 ^ a < 256 ^ len := by
  rw [mask_on h, Nat.add_mul, ← Nat.pow_add]
  have hlt2 : m % 2 ^ j < 2 ^ j := Nat.mod_lt _ (Nat.two_pow_pos j)
  have h1 : m % 2 ^ j * 2 ^ a < 2 ^ (j + a) := by
    rw [Nat.pow_add]; exact Nat.mul_lt_mul_of_pos_right hlt2 (Nat.two_pow_pos a)
  have h2 : 2 ^ (j + a + 1) ≤ 2 ^ (8 * len) := Nat.pow_le_pow_right (by decide) (by omega)
  rw [Nat.pow_mul, show (2 ^ 8 : Nat) = 256 from rfl, Nat.pow_succ] at h2
  omega
end Cr
end Go.Proofs.Ythdondjhiflkaaa
