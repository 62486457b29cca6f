/- What the helpers of the laws of layer 3 (package shelfmarklaw03) return: sum, alive. -/
import Derived.Test.YthdondjhiflkaaaCrc
import Derived.Test.YthdondjhiflkaaaBytes03
import Derived.Laws.IdiomStrings
import Derived.WalkSmall
import Derived.RangeFuncRecord
namespace Go.Proofs.Ythdondjhiflkaaa
open Go.RowKit
set_option linter.unusedVariables false

theorem conv_string (bs : List Nat) (w : World) (hw : Bytes bs) : ∃ c w1, Sem.run Try.prog (convert 9 22 (.string (strB bs))) w = .ok (.slice (some ⟨w.heap.size, 0, none⟩) bs.length c) w1 ∧
    Lst .u8 w1 (some ⟨w.heap.size, 0, none⟩) (ints bs) ∧ Below w.heap.size w w1 := by
  have hsz : (strB bs).size = bs.length := by unfold strB; rw [strOfNums_size, ints_length]
  have hrun := run_bytes_of_string (P := Try.prog) w 9 22 5 (strB bs) Try.underlying9 Try.underlying22 Try.underlying5
  rw [hsz] at hrun
  refine ⟨_, _, hrun, ?_, ?_⟩
  · refine Or.inr ⟨w.heap.size, 0, rfl, by simp, fun i hi => ?_⟩
    rw [ints_length] at hi
    rw [ints_getD]
    have hd : i < (strB bs).data.size := by have := hsz; simp only [ByteArray.size] at this; omega
    have h1 := bytesRow_at (strB bs) (grownCap w bs.length 0 5) i hd
    have h2 : ((strB bs).data[i].toNat : Int) = ((bs.getD i 0 : Nat) : Int) := by
      have h3 : (strB bs).data.toList = (ints bs).map fun n => UInt8.ofNat n.toNat := rfl
      have h4 : (strB bs).data.toList[i]? = some (strB bs).data[i] := by rw [Array.getElem?_toList, Array.getElem?_eq_getElem hd]
      rw [h3, List.getElem?_map] at h4
      have h5 : (ints bs)[i]? = some ((bs.getD i 0 : Nat) : Int) := by
        simp only [ints, List.getElem?_map, List.getElem?_eq_getElem hi, Option.map_some, List.getD, Option.getD_some]
      rw [h5] at h4
      simp only [Option.map_some, Option.some.injEq, Int.toNat_natCast] at h4
      rw [← h4]
      have := hw i
      generalize bs.getD i 0 = y at this
      simp
      omega
    rw [h2] at h1
    rw [← h1, Nat.zero_add]
    have hh : ∀ o : Obj, (w.drew.alloc o).heap[w.heap.size]? = some o := fun o => World.alloc_heap_new w.drew o
    simp only [World.cell?, hh]
    rfl
  · exact ((Below.refl _ w).trans (below_drewN (Below.refl _ w) 1)).alloc (Nat.le_refl _) _

noncomputable def sumIs (bs : List Nat) (want : Nat) : Bool := (Cr.goE bs == 0) && ((Cr.ofV bs : Int) == (want : Int))
set_option maxHeartbeats 400000 in
theorem l3Sum (bs : List Nat) (want : Nat) (w : World) (hw : Bytes bs) (hn : bs.length ≤ 2147483647) :
    Calls Try.prog 22 #[.string (strB bs), .int .u32 (want : Int)] w fun e w' => e = .returned (.bool (sumIs bs want)) ∧ Below w.heap.size w w' := by
  obtain ⟨c, w1, q, hl, hb⟩ := conv_string bs w hw
  have HL := Lib.hid hl
  have HW := Lib.hid hw
  clear hl hw
  have H := Lib.hid (show sumIs bs want = ((Cr.goE bs == 0) && ((Cr.ofV bs : Int) == (want : Int))) from rfl)
  cases h1 : (Cr.goE bs == 0)
  all_goals
    go_enter Try.func22, Try.ntmps22
    go_wp2_with fail
    refine (cOf _ c bs _ HL.out HW.out hn (fun h => by cases h)).mono ?_
    rintro e w2 ⟨rfl, hb2⟩
    go_wp2
    go_ret
    rw [H.out, h1]
    exact ⟨rfl, hb.trans (hb2.mono hb.size)⟩

def b9 : List Nat := [49, 50, 51, 52, 53, 54, 55, 56, 57]
def b1 : List Nat := [97]
theorem bytes_all {bs : List Nat} (h : bs.all (· < 256) = true) : Bytes bs := by
  intro i
  by_cases hi : i < bs.length
  · have := List.all_eq_true.1 h bs[i] (List.getElem_mem hi)
    simpa [List.getD, List.getElem?_eq_getElem hi] using this
  · simp [List.getD, List.getElem?_eq_none (by omega : bs.length ≤ i)]
set_option maxHeartbeats 400000 in
theorem l3Alive (w : World) : Calls Try.prog 13 #[] w fun e w' => e = .returned (.bool true) ∧ Below w.heap.size w w' := by
  have s1 : sumIs b9 3421780262 = true := by unfold sumIs; decide +kernel
  have s2 : sumIs [] 0 = true := by unfold sumIs; decide +kernel
  have s3 : sumIs b1 3904355907 = true := by unfold sumIs; decide +kernel
  go_enter Try.func13, Try.ntmps13
  go_wp2_with fail
  refine (l3Sum b9 3421780262 _ (bytes_all (by decide)) (by decide)).mono ?_
  rintro e w1 ⟨rfl, hb1⟩
  rw [s1]
  go_wp2_with fail
  refine (l3Sum [] 0 _ (bytes_all (by decide)) (by decide)).mono ?_
  rintro e w2 ⟨rfl, hb2⟩
  rw [s2]
  go_wp2_with fail
  refine (l3Sum b1 3904355907 _ (bytes_all (by decide)) (by decide)).mono ?_
  rintro e w3 ⟨rfl, hb3⟩
  rw [s3]
  go_wp2
  go_ret
  have hb := hb1.trans (hb2.mono hb1.size)
  exact ⟨rfl, hb.trans (hb3.mono hb.size)⟩
end Go.Proofs.Ythdondjhiflkaaa
