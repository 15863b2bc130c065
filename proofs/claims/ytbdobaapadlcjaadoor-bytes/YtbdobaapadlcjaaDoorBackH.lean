/-
  THE WALK of the statements copied (13).
-/
import Derived.Test.YtbdobaapadlcjaaDoorBackF
import Derived.Laws.CopyOwn
namespace Go.Proofs.YtbdobaapadlcjaaDoor.Keep
open Go.RowKit
set_option linter.unusedVariables false

theorem addr_at (b o j : Nat) : (⟨b, o, none⟩ : Addr).add j = ⟨b, o + j, none⟩ := by
  unfold Addr.add
  split
  · next h => rw [h, Nat.add_zero]
  · rfl
theorem strs_at {w : World} {a : Option Addr} {bs : List ByteArray} (h : Strs w a bs) (hb : 0 < bs.length) : ∃ ad : Addr, a = some ad ∧ ad.block < w.heap.size ∧ ∀ j s, bs[j]? = some s → w.cell? (ad.add j) = some (.string s) ∧ (ad.add j).block = ad.block := by
  obtain ⟨b, o, ha, hc⟩ := h 0 hb
  refine ⟨⟨b, o, none⟩, ha, World.block_lt_of_cell? _ _ hc, fun j s hj => ?_⟩
  obtain ⟨hj1, hj2⟩ := List.getElem?_eq_some_iff.1 hj
  obtain ⟨b', o', ha', hc'⟩ := h j hj1
  rw [ha] at ha'
  injection ha' with e
  injection e with e1 e2
  subst e1 e2 hj2
  rw [addr_at]
  exact ⟨hc', rfl⟩
theorem heap3n (w : World) (A B C : Obj) : (((w.alloc A).alloc B).alloc C).heap[w.heap.size + 1 + 1]? = some C := by
  have h := heap_alloc_new ((w.alloc A).alloc B) C
  rw [World.size_alloc, World.size_alloc] at h
  exact h
theorem heap3o (w : World) (A B C : Obj) : (((w.alloc A).alloc B).alloc C).heap[w.heap.size]? = some A := by
  rw [Below.heap_alloc _ _ _ (by simp; omega), heap_alloc2_old]
theorem heap3m (w : World) (A B C : Obj) : (((w.alloc A).alloc B).alloc C).heap[w.heap.size + 1]? = some B := by
  rw [Below.heap_alloc _ _ _ (by simp), heap_alloc2_new]
theorem below3w (w : World) (A B C : Obj) : Below w.heap.size w (((w.alloc A).alloc B).alloc C) :=
  (((Below.refl _ _).alloc (Nat.le_refl _) _).alloc (by simp) _).alloc (by simp; omega) _

set_option maxRecDepth 100000 in
set_option maxHeartbeats 1000000 in
theorem copied_any (r : Wp.Rq) (x : Sl) (bs : List ByteArray) (w : World) (hn : x.n = bs.length) (hb : bs.length ≤ 1000) (hS : Strs w x.a bs) :
    Calls Tryd.prog 13 #[.agg (cellsOf r x.v)] w fun e w' => (∃ y : Sl, e = .returned (.agg (cellsOf r y.v)) ∧ y.n = bs.length ∧ FStrs w.heap.size w' y.a bs) ∧ Below w.heap.size w w' := by
  obtain ⟨i0, hi, hz0, hz1, hz2⟩ := info_parts info9
  have hmake : ∀ W : World, (Instr.makeSlice 28 (.int .i64 (bs.length : Int)) (.int .i64 (bs.length : Int))).run Tryd.prog W = .ok (.slice (some ⟨W.heap.size, 0, none⟩) bs.length bs.length) (W.alloc (.cells (strRow [] bs.length) 9)) := fun W => by
    have h := run_make (P := Tryd.prog) W 28 9 i0 (.string ⟨#[]⟩) Tryd.underlying28 hi hz0 .i64 .i64 (bs.length : Int) (bs.length : Int) (by omega) (by omega) (by rw [hz2]; omega) (by omega)
    have hm : madeCells (Value.string ⟨#[]⟩).cells ((bs.length : Int).toNat * i0.size) = strRow [] bs.length := by
      apply Array.toList_inj.1
      rw [hz1, Nat.mul_one, Int.toNat_natCast]
      show (madeCells #[Value.string ⟨#[]⟩] bs.length).toList = _
      rw [toList_madeCells_one]
      simp [strRow]
    rw [hm] at h
    simpa using h
  have HS : Hid (Strs w x.a bs) := hS
  have hinf := info37
  have hone : (Tryd.prog.info? 9).map (·.size) = some 1 := by rw [hi]; simp [hz1]
  have HN : Hid (x.n = bs.length) := hn
  have hxv : cellsOf r x.v = cellsOf r (Sl.v ⟨x.a, bs.length, x.c⟩) := by
    show cellsOf r (Value.slice x.a x.n x.c) = cellsOf r (Value.slice x.a bs.length x.c)
    rw [hn]
  rw [hxv]
  clear hS hn hi hz0 hz1 hz2 hxv
  unfold cellsOf Sl.v
  go_enter Tryd.func13, Tryd.ntmps13
  go_wp2_with (refine wpList_copy_splice rfl _ _ 28 28 rfl 9 Tryd.underlying28 hone _ _ _ _ _ _ rfl rfl (w.heap.size + 1 + 1) 0 (strRow [] bs.length).toList 9 ?hg (bs.map Value.string) ?hn ?hpos ?hfit ?h1 (w.heap.size + 1 + 1) _ (Below.refl _ _) (Nat.le_refl _) ?_)
  case hg => rw [Array.toArray_toList]; exact heap3n _ _ _ _
  case hn => simp
  case hpos =>
    intro h0
    obtain ⟨ad, ha, hlt, hc⟩ := strs_at HS.out h0
    refine ⟨ad, ha, fun j t hj => ?_⟩
    obtain ⟨h1, h2⟩ := hc j t hj
    exact ((below3w _ _ _ _).cell (p := ad.add j) (by rw [h2]; exact hlt)).trans h1
  case hfit => simp [strRow]
  case h1 => intro v hv; obtain ⟨b, _, rfl⟩ := List.mem_map.1 hv; rfl
  intro w1 hrow hb1
  have HB1 : Hid (Below w.heap.size w w1) := (below3w _ _ _ _).trans (hb1.mono (by omega))
  have hbox : w1.heap[w.heap.size]? = some (.cells (cellsOf r (Sl.v ⟨x.a, bs.length, x.c⟩)) 37 (0, 0)) := by
    rw [hb1.block w.heap.size (by omega), heap3o]; rfl
  have hres : w1.heap[w.heap.size + 1]? = some (.cells (cellsOf (opR 0) (Sl.v ⟨none, 0, 0⟩)) 37 (0, 0)) := by
    rw [hb1.block (w.heap.size + 1) (by omega), heap3m]; rfl
  have HROW : Hid (w1.heap[w.heap.size + 1 + 1]? = some (.cells (bs.map Value.string).toArray 9 (0, 0))) := by
    show _ = _
    rw [hrow.out]
    congr 3
    simp [splice, strRow]
  have hc14 : w1.cell? ⟨w.heap.size, 14, none⟩ = some (.slice x.a bs.length x.c) := (cell_of_row w1 w.heap.size 14 _ 37 (0, 0) hbox).trans rfl
  have hf14 := frozen_of_row w1 w.heap.size 14 _ 37 hbox
  have hbox2 := heap_setCell_same w1 w.heap.size 14 _ 37 (.slice (some ⟨w.heap.size + 1 + 1, 0, none⟩) bs.length bs.length) hbox
  have HBOX : Hid ((w1.setCell ⟨w.heap.size, 14, none⟩ (.slice (some ⟨w.heap.size + 1 + 1, 0, none⟩) bs.length bs.length)).heap[w.heap.size]? = some (.cells (cellsOf r (Sl.v ⟨some ⟨w.heap.size + 1 + 1, 0, none⟩, bs.length, bs.length⟩)) 37 (0, 0))) := hbox2
  have HRES : Hid ((w1.setCell ⟨w.heap.size, 14, none⟩ (.slice (some ⟨w.heap.size + 1 + 1, 0, none⟩) bs.length bs.length)).heap[w.heap.size + 1]? = some (.cells (cellsOf (opR 0) (Sl.v ⟨none, 0, 0⟩)) 37 (0, 0))) := by
    show _ = _
    rw [heap_setCell_other _ _ _ _ (by show w.heap.size + 1 ≠ w.heap.size; omega)]; exact hres
  clear hrow hb1 hbox hres hbox2
  go_wp2_with (first | (refine wpList_load_row rfl 37 _ rfl w.heap.size rfl 37 _ (0, 0) _ HBOX.out Tryd.underlying37 rfl hinf ?_) | (refine wpList_store_row rfl 37 _ _ rfl (w.heap.size + 1) _ rfl rfl 37 _ HRES.out hinf rfl (cells_one _ _) ?_))
  refine bodyPost_ret (results_cell_row (p := 2) rfl _ _ (w.heap.size + 1) 37 _ (0, 0) _ rfl (setRow_heap _ _ _ _ 37 (0, 0) HRES.out) Tryd.underlying37 rfl hinf) rfl ⟨⟨⟨some ⟨w.heap.size + 1 + 1, 0, none⟩, bs.length, bs.length⟩, rfl, rfl, fun j hj => ?_⟩, ?_⟩
  · refine ⟨w.heap.size + 1 + 1, 0, rfl, by omega, ?_⟩
    rw [Nat.zero_add]
    refine (cell_of_row _ (w.heap.size + 1 + 1) j _ 9 (0, 0) ((setRow_other _ _ _ _ (by omega)).trans ((heap_setCell_other _ _ _ _ (by show w.heap.size + 1 + 1 ≠ w.heap.size; omega)).trans HROW.out))).trans ?_
    simp [hj]
  · exact Go.Proofs.YtbdobaapadlcjaaDoor.below_setRow (HB1.out.setCell (Nat.le_refl _) _) (by omega) _
end Go.Proofs.YtbdobaapadlcjaaDoor.Keep
