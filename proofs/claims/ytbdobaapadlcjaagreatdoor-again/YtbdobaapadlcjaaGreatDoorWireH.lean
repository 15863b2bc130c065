/-
  THE WALKS of the library's Clone (95, 96) and of the reader's take (88).
-/
import Derived.Test.YtbdobaapadlcjaaGreatDoorWireA
import Derived.Lib.Strings
import Derived.Lib.BufferWrite
import Derived.Lib.UnsafeStr
import Derived.Laws.MakeOwn
import Derived.OwnWalk
namespace Go.Proofs.YtbdobaapadlcjaaGreatDoor
open Go.RowKit
set_option linter.unusedVariables false

theorem infoByte : (Tryz.prog.info? 5).map (fun i => (i.zero, i.size, i.bytes)) = some (some (.int .u8 0), 1, 1) := by kernel_rfl
theorem cellsByte : Tryz.prog.cellsOf 5 = 1 := by kernel_rfl

set_option maxHeartbeats 1000000 in
set_option maxRecDepth 100000 in
/-- The library's copy of a string: the same bytes; nothing that was there has turned. -/
theorem clone_in (s : ByteArray) (w : World) (hl : s.size ≤ 281474976710656) :
    Calls Tryz.prog 251 #[.string s] w fun e w' => e = .returned (.string s) ∧ Below w.heap.size w w' := by
  by_cases h0 : s.size = 0
  · have hs : s = ⟨#[]⟩ := ByteArray.ext (Array.eq_empty_of_size_eq_zero h0)
    subst hs
    go_enter Tryz.func251, Tryz.ntmps251
    go_wp2
    go_ret
    exact ⟨rfl, Below.refl _ _⟩
  · obtain ⟨i0, hi, hz0, hz1, hz2⟩ := info_parts infoByte
    have hone : (Tryz.prog.info? 5).map (·.size) = some 1 := by rw [hi]; simp [hz1]
    obtain ⟨M, hM⟩ : ∃ M, M = madeCells (Value.int .u8 0).cells (((s.size : Nat) : Int).toNat * i0.size) := ⟨_, rfl⟩
    have hMs : M.size = s.size := by rw [hM, size_madeCells, hz1]; simp
    have hmake : ∀ W : World, (Instr.makeSlice 74 (.int .i64 (s.size : Int)) (.int .i64 (s.size : Int))).run Tryz.prog W = .ok (.slice (some ⟨W.heap.size, 0, none⟩) s.size s.size) (W.alloc (.cells M 5)) := fun W => by
      have h := run_make (P := Tryz.prog) W 74 5 i0 (.int .u8 0) Tryz.underlying74 hi hz0 .i64 .i64 (s.size : Int) (s.size : Int) (by omega) (by omega) (by rw [hz2]; omega) (by omega)
      rw [← hM] at h
      simpa using h
    clear hM
    have hcopy := Lib.run_copy_row_string (P := Tryz.prog) (w.alloc (.cells M 5)) 74 9 3 5 w.heap.size 0 s.size s.size s M 5 Tryz.underlying74 hone (heap_alloc_new w _) (Nat.le_refl _) (by omega)
    obtain ⟨Y, hY⟩ : ∃ Y, Y = (M.toList.take 0 ++ Lib.byteCells s.data.toList ++ M.toList.drop (0 + s.size)).toArray := ⟨_, rfl⟩
    rw [← hY] at hcopy
    have hYl : Y.toList = Lib.byteCells s.data.toList := by
      rw [hY, List.toList_toArray, List.take_zero, List.nil_append, List.drop_of_length_le (by rw [Array.length_toList]; omega), List.append_nil]
    have hYs : Y.size = s.size := by rw [← Array.length_toList, hYl, Lib.byteCells_length, ← Lib.size_eq]
    have hrow : ((w.alloc (.cells M 5)).setRow w.heap.size Y).heap[w.heap.size]? = some (.cells Y 5 (0, 0)) := setRow_heap _ _ M _ 5 (0, 0) (heap_alloc_new w _)
    have hne : s.data.toList ≠ [] := fun e => h0 (by rw [Lib.size_eq, e]; rfl)
    have hstr := Lib.run_unsafeString_row (P := Tryz.prog) ((w.alloc (.cells M 5)).setRow w.heap.size Y) 176 3 9 5 Tryz.underlying176 cellsByte w.heap.size Y.size (by unfold World.shape?; rw [hrow]) s.data.toList hne (by rw [← Lib.size_eq]; omega) (by rw [← Lib.size_eq]; omega)
      (fun j x hx => Lib.cells_of_row hrow Y.size j _ (by rw [List.take_of_length_le (by rw [Array.length_toList]; exact Nat.le_refl _), hYl]; simp [Lib.byteCells, hx]))
    rw [← Lib.size_eq] at hstr
    clear hY
    go_enter Tryz.func251, Tryz.ntmps251
    go_wp2
    go_ret
    have hb1 : Below w.heap.size w (w.alloc (.cells M 5)) := (Below.refl _ w).alloc (Nat.le_refl _) _
    have hb2 : Below w.heap.size (w.alloc (.cells M 5)) ((w.alloc (.cells M 5)).setRow w.heap.size Y) := ⟨rfl, rfl, rfl, by simp, fun k hk => setRow_other _ _ _ _ (by omega)⟩
    exact ⟨rfl, Lib.below_freeze (hb1.trans hb2) (p := ⟨w.heap.size, 0, none⟩) (Nat.le_refl _) _⟩

theorem clone_any (s : ByteArray) (w : World) (hl : s.size ≤ 281474976710656) :
    Calls Tryz.prog 193 #[.string s] w fun e w' => e = .returned (.string s) ∧ Below w.heap.size w w' := by
  go_enter Tryz.func193, Tryz.ntmps193
  go_wp2_with fail
  refine (clone_in s w hl).mono ?_
  rintro e w1 ⟨rfl, hb⟩
  go_wp2_with fail
  go_ret
  exact ⟨rfl, hb⟩

/-- A reader in block b: what is left, and whether it has failed. -/
def Rd (w : World) (b : Nat) (s : ByteArray) (f : Bool) : Prop := w.heap[b]? = some (.cells #[.string s, .bool f] 184 (0, 0))
theorem Rd.c0 {w : World} {b : Nat} {s : ByteArray} {f : Bool} (h : Rd w b s f) : w.cell? ⟨b, 0, none⟩ = some (.string s) := cell_of_row w b 0 _ 184 (0, 0) h
theorem Rd.c1 {w : World} {b : Nat} {s : ByteArray} {f : Bool} (h : Rd w b s f) : w.cell? ⟨b, 1, none⟩ = some (.bool f) := cell_of_row w b 1 _ 184 (0, 0) h
theorem Rd.fz {w : World} {b : Nat} {s : ByteArray} {f : Bool} (h : Rd w b s f) (j : Nat) : w.frozen? ⟨b, j, none⟩ = false := frozen_of_row w b j _ 184 h

theorem Rd.set0 {w : World} {b : Nat} {s : ByteArray} {f : Bool} (h : Rd w b s f) (t : ByteArray) : Rd (w.setCell ⟨b, 0, none⟩ (.string t)) b t f := heap_setCell_same w b 0 _ 184 _ h
theorem Rd.set1 {w : World} {b : Nat} {s : ByteArray} {f : Bool} (h : Rd w b s f) (g : Bool) : Rd (w.setCell ⟨b, 1, none⟩ (.bool g)) b s g := heap_setCell_same w b 1 _ 184 _ h
theorem grown_set (w : World) (b o : Nat) (v : Value) : w.grownBy (w.setCell ⟨b, o, none⟩ v) (some b) :=
  ⟨rfl, rfl, rfl, by simp, fun k _ hk => heap_setCell_other w ⟨b, o, none⟩ k v (fun e => hk (by rw [e]))⟩
theorem grown_trans {a b c : World} {row : Option Nat} (h : a.grownBy b row) (k : b.grownBy c row) : a.grownBy c row :=
  ⟨k.os.trans h.os, k.tape.trans h.tape, k.output.trans h.output, Nat.le_trans h.size k.size, fun i hi hr => (k.block i (Nat.lt_of_lt_of_le hi h.size) hr).trans (h.block i hi hr)⟩
theorem grown_refl (w : World) (row : Option Nat) : w.grownBy w row := ⟨rfl, rfl, rfl, Nat.le_refl _, fun _ _ _ => rfl⟩
theorem grown_below {w w' : World} (h : Below w.heap.size w w') (row : Option Nat) : w.grownBy w' row := ⟨h.os, h.tape, h.output, h.size, fun k hk _ => h.block k hk⟩
theorem ret_str {s t : ByteArray} (h : s = t) : Ending.returned (.string s) = .returned (.string t) := by rw [h]

/-- What is taken, and what is left. -/
def tk (s : ByteArray) (n : Nat) : ByteArray := if n ≤ s.size then s.extract 0 n else ⟨#[]⟩
def lf (s : ByteArray) (n : Nat) : ByteArray := if n ≤ s.size then s.extract n s.size else ⟨#[]⟩
def bad (s : ByteArray) (f : Bool) (n : Nat) : Bool := if n ≤ s.size then f else true

set_option maxHeartbeats 1000000 in
theorem take_any (b : Nat) (s : ByteArray) (f : Bool) (n : Nat) (w : World) (hn : n ≤ 1048576) (hs : s.size ≤ maxLen) (hR : Rd w b s f) :
    Calls Tryz.prog 117 #[.pointer (some ⟨b, 0, none⟩), .int .i64 (n : Int)] w fun e w' => e = .returned (.string (tk s n)) ∧ Rd w' b (lf s n) (bad s f n) ∧ w.grownBy w' (some b) ∧ w'.heap.size = w.heap.size := by
  unfold maxLen at hs
  have c0 := hR.c0
  have f0 := hR.fz 0
  have c1 := hR.c1
  have f1 := hR.fz 1
  have HR : Hid (Rd w b s f) := hR
  clear hR
  by_cases h : n ≤ s.size
  · have e1 : Hid (tk s n = s.extract 0 n) := by show _ = _; rw [tk, if_pos h]
    have e2 : Hid (lf s n = s.extract n s.size) := by show _ = _; rw [lf, if_pos h]
    have e3 : Hid (bad s f n = f) := by show _ = _; rw [bad, if_pos h]
    go_enter Tryz.func117, Tryz.ntmps117
    go_wp2
    go_ret
    refine ⟨ret_str e1.out.symm, ?_, grown_set _ _ _ _, by simp⟩
    rw [e2.out, e3.out]
    exact HR.out.set0 _
  · have e1 : Hid (tk s n = ⟨#[]⟩) := by show _ = _; rw [tk, if_neg h]
    have e2 : Hid (lf s n = ⟨#[]⟩) := by show _ = _; rw [lf, if_neg h]
    have e3 : Hid (bad s f n = true) := by show _ = _; rw [bad, if_neg h]
    go_enter Tryz.func117, Tryz.ntmps117
    go_wp2
    go_ret
    refine ⟨ret_str e1.out.symm, ?_, grown_trans (grown_set _ _ _ _) (grown_set _ _ _ _), by simp⟩
    rw [e2.out, e3.out]
    exact (HR.out.set0 _).set1 _
end Go.Proofs.YtbdobaapadlcjaaGreatDoor
