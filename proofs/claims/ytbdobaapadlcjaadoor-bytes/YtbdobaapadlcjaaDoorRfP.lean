/-
  THE WALKS of the statement's own handed (34) and num (37).
-/
import Derived.Test.YtbdobaapadlcjaaDoorBackH
namespace Go.Proofs.YtbdobaapadlcjaaDoor.Ref
open Go.RowKit
open Go.Proofs.YtbdobaapadlcjaaDoor.Keep (strs_at)
set_option linter.unusedVariables false

theorem num_law (e : Int) (w : World) (h1 : 0 ≤ e) (h2 : e ≤ 100) : Calls Tryd.prog 37 #[.int .i64 e] w fun r w' => r = .returned (.int .i64 e) ∧ w' = w := by
  have hw : wrap64 e = e := by simp [wrap64]; omega
  go_enter Tryd.func37, Tryd.ntmps37
  go_wp2
  go_ret
  exact ⟨by first | rfl | (rw [hw]; rfl), rfl⟩
/-- "behind". -/
def behind : ByteArray := ⟨#[98, 101, 104, 105, 110, 100]⟩
set_option maxRecDepth 100000 in
set_option maxHeartbeats 1000000 in
theorem handed_any (a : Option Addr) (c : Nat) (bs : List ByteArray) (w : World) (hb : bs.length ≤ 8796093022208) (hS : Strs w a bs) :
    Calls Tryd.prog 34 #[.slice a bs.length c] w fun e w' => e = .returned (.tuple #[.slice (some ⟨w.heap.size, 0, none⟩) bs.length (bs.length + 1), .slice (some ⟨w.heap.size, 0, none⟩) (bs.length + 1) (bs.length + 1)]) ∧
      w'.heap[w.heap.size]? = some (.cells ((bs ++ [behind]).map Value.string).toArray 9 (0, 0)) ∧ Below w.heap.size w w' := by
  obtain ⟨i0, hi, hz0, hz1, hz2⟩ := info_parts info9
  have hmake : ∀ W : World, (Instr.makeSlice 28 (.int .i64 ((bs.length : Int) + 1)) (.int .i64 ((bs.length : Int) + 1))).run Tryd.prog W = .ok (.slice (some ⟨W.heap.size, 0, none⟩) (bs.length + 1) (bs.length + 1)) (W.alloc (.cells (strRow [] (bs.length + 1)) 9)) := fun W => by
    have h := run_make (P := Tryd.prog) W 28 9 i0 (.string ⟨#[]⟩) Tryd.underlying28 hi hz0 .i64 .i64 ((bs.length : Int) + 1) ((bs.length : Int) + 1) (by omega) (by omega) (by rw [hz2]; omega) (by omega)
    have ht : ((bs.length : Int) + 1).toNat = bs.length + 1 := by omega
    have hm : madeCells (Value.string ⟨#[]⟩).cells (((bs.length : Int) + 1).toNat * i0.size) = strRow [] (bs.length + 1) := by
      apply Array.toList_inj.1
      rw [hz1, Nat.mul_one, ht]
      show (madeCells #[Value.string ⟨#[]⟩] (bs.length + 1)).toList = _
      rw [toList_madeCells_one]
      simp [strRow]
    rw [hm, ht] at h
    exact h
  have HS : Hid (Strs w a bs) := hS
  have hone : (Tryd.prog.info? 9).map (·.size) = some 1 := by rw [hi]; simp [hz1]
  clear hS hi hz0 hz1 hz2
  go_enter Tryd.func34, Tryd.ntmps34
  go_wp2_with (refine wpList_copy_splice rfl _ _ 28 28 rfl 9 Tryd.underlying28 hone _ _ _ _ _ _ rfl rfl w.heap.size 0 (strRow [] (bs.length + 1)).toList 9 ?hg (bs.map Value.string) ?hn ?hpos ?hfit ?h1 w.heap.size _ (Below.refl _ _) (Nat.le_refl _) ?_)
  case hg => rw [Array.toArray_toList]; exact heap_alloc_new _ _
  case hn => simp
  case hpos =>
    intro h0
    obtain ⟨ad, ha, hlt, hc⟩ := strs_at HS.out (by omega)
    refine ⟨ad, ha, fun j t hj => ?_⟩
    obtain ⟨h1, h2⟩ := hc j t hj
    exact (((Below.refl _ _).alloc (Nat.le_refl _) _).cell (p := ad.add j) (by rw [h2]; exact hlt)).trans h1
  case hfit => simp [strRow]
  case h1 => intro v hv; obtain ⟨b, _, rfl⟩ := List.mem_map.1 hv; rfl
  intro w1 hrow hb1
  have hr1 : w1.heap[w.heap.size]? = some (.cells ((bs ++ [(⟨#[]⟩ : ByteArray)]).map Value.string).toArray 9 (0, 0)) := by
    rw [hrow.out]
    congr 3
    simp [splice, strRow]
  have HB1 : Hid (Below w.heap.size w w1) := ((Below.refl _ _).alloc (Nat.le_refl _) _).trans hb1
  have hc : w1.cell? ⟨w.heap.size, bs.length, none⟩ = some (.string ⟨#[]⟩) := (cell_of_row w1 w.heap.size bs.length _ 9 (0, 0) hr1).trans (by simp)
  have hf := frozen_of_row w1 w.heap.size bs.length _ 9 hr1
  have HR2 : Hid ((w1.setCell ⟨w.heap.size, bs.length, none⟩ (.string behind)).heap[w.heap.size]? = some (.cells ((bs ++ [behind]).map Value.string).toArray 9 (0, 0))) := by
    show _ = _
    rw [heap_setCell_same w1 w.heap.size bs.length _ 9 (.string behind) hr1]
    congr 2
    apply Array.toList_inj.1
    rw [Array.toList_setIfInBounds, List.toList_toArray, List.toList_toArray, List.map_append, List.map_append, List.set_append_right _ _ (by simp)]
    simp
  have HB2 : Hid (Below w.heap.size w (w1.setCell ⟨w.heap.size, bs.length, none⟩ (.string behind))) := HB1.out.setCell (Nat.le_refl _) _
  clear hrow hb1 hr1
  go_wp2_with fail

  go_ret2
  exact ⟨rfl, HR2.out, HB2.out⟩
end Go.Proofs.YtbdobaapadlcjaaDoor.Ref
