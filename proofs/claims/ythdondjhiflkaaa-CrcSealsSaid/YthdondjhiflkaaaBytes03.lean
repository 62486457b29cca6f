/- Bytes as texts: what string(b) answers; parts of lists of bytes. -/
import Derived.Test.YthdondjhiflkaaaRefB03
import Derived.Laws.BytesArg
import Derived.Deep.RegionWith
import Derived.BigRegion
import Derived.Deep.RegionHeld3
import Derived.Deep.QuietTactic
import Derived.BigQuiet
import Derived.WalkSmall
namespace Go.Proofs.Ythdondjhiflkaaa
open Go.RowKit
set_option linter.unusedVariables false

theorem Lst.take {k : IntKind} {w : World} {a : Option Addr} {zs : List Int} (h : Lst k w a zs) (n : Nat) : Lst k w a (zs.take n) := by
  rcases h with rfl | ⟨b, off, h1, h2, h3⟩
  · simp [Lst]
  · refine Or.inr ⟨b, off, h1, h2, fun i hi => ?_⟩
    rw [List.length_take] at hi
    rw [h3 i (by omega)]
    simp [show i < n by omega]
theorem ints_take (bs : List Nat) (n : Nat) : ints (bs.take n) = (ints bs).take n := by simp [ints, List.map_take]
theorem Bytes.take {bs : List Nat} (h : Bytes bs) (n : Nat) : Bytes (bs.take n) := by
  intro i
  have := h i
  simp only [List.getD, List.getElem?_take]
  split
  · exact this
  · simp

/-- A text of bytes. -/
def strB (bs : List Nat) : ByteArray := strOfNums (ints bs)
theorem conv_bytes {w : World} {a : Option Addr} {bs : List Nat} (cap : Nat) (h : Lst .u8 w a (ints bs)) :
    Sem.run Try.prog (convert 22 9 (.slice a bs.length cap)) w = .ok (.string (strB bs)) w := by
  rcases h with h0 | ⟨b, off, rfl, _, hc⟩
  · have hbs : bs = [] := by simpa [ints] using h0
    subst hbs
    cases a with
    | none => exact run_convert_bytes_nil w 22 5 Try.underlying22 Try.underlying5 0 cap 9 Try.underlying9
    | some ad =>
      show Sem.run Try.prog (convert 22 9 (.slice (some ad) 0 cap)) w = _
      rw [run_convert_bytes_string w 22 9 5 _ 0 cap Try.underlying22 Try.underlying5 Try.underlying9]
      rfl
  · exact run_convert_bytes_arg w 22 5 Try.underlying22 Try.underlying5 b off bs.length cap (ints bs) (ints_length bs) (fun i hi => hc i (by rw [ints_length]; exact hi)) 9 Try.underlying9
theorem strB_inj {xs ys : List Nat} (hx : Bytes xs) (hy : Bytes ys) (h : strB xs = strB ys) : xs = ys := by
  have h1 := congrArg (fun s : ByteArray => s.data.toList) h
  simp only [strB, strOfNums_data, ints, List.map_map] at h1
  have hl : xs.length = ys.length := by have := congrArg List.length h1; simpa using this
  apply List.ext_getElem hl
  intro i h2 h3
  have h4 := congrArg (fun l => l[i]?) h1
  simp only [List.getElem?_map, List.getElem?_eq_getElem h2, List.getElem?_eq_getElem h3, Option.map_some, Option.some.injEq, Function.comp, Int.toNat_natCast] at h4
  have h5 := congrArg UInt8.toNat h4
  have e1 := hx i
  have e2 := hy i
  simp only [List.getD, List.getElem?_eq_getElem h2, List.getElem?_eq_getElem h3, Option.getD_some] at e1 e2
  simpa [Nat.mod_eq_of_lt e1, Nat.mod_eq_of_lt e2] using h5
theorem r3SealedN (n : Nat) (a : Option Addr) (cap : Nat) (bs : List Nat) (w : World) (hbn : n = bs.length) (hl : Lst .u8 w a (ints bs)) (hw : Bytes bs) (hn : bs.length ≤ 2147483647) (hnil : a = none → bs.length = 0 ∧ cap = 0) :
    Calls Try.prog 26 #[.slice a n cap] w (RowPost (Cr.sealed bs) w) := by
  subst hbn
  exact r3Sealed a cap bs w hl hw hn hnil
theorem strB_beq {xs ys : List Nat} (hx : Bytes xs) (hy : Bytes ys) : ((strB xs).toList == (strB ys).toList) = (xs == ys) := by
  rw [ByteArray.toList_eq, ByteArray.toList_eq, Bool.eq_iff_iff, beq_iff_eq, beq_iff_eq]
  exact ⟨fun h => strB_inj hx hy (Go.WideShapes.bytes_inj h), fun e => by rw [e]⟩
theorem Bytes.append {a b : List Nat} (ha : Bytes a) (hb : Bytes b) : Bytes (a ++ b) := by
  intro i
  simp only [List.getD]
  by_cases h : i < a.length
  · rw [List.getElem?_append_left h]; exact ha i
  · rw [List.getElem?_append_right (by omega)]; exact hb _
theorem bytes_le4 (v : Nat) : Bytes (Cr.le4 v) := by
  intro i
  match i with
  | 0 => simp [Cr.le4]; omega
  | 1 => simp [Cr.le4]; omega
  | 2 => simp [Cr.le4]; omega
  | 3 => simp [Cr.le4]; omega
  | k + 4 => simp [Cr.le4]
theorem bytes_sealed {bs : List Nat} (h : Bytes bs) : Bytes (Cr.sealed bs) := h.append (bytes_le4 _)
end Go.Proofs.Ythdondjhiflkaaa
