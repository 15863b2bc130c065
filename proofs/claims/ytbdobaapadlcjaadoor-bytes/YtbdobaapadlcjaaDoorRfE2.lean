/-
  THE WALKS of package wharfref's only (72), Op by Op.
-/
import Derived.Test.YtbdobaapadlcjaaDoorRfE
namespace Go.Proofs.YtbdobaapadlcjaaDoor.Ref
open Go.RowKit
set_option linter.unusedVariables false

set_option maxRecDepth 100000 in
set_option maxHeartbeats 1000000 in
theorem only_65 (r : Wp.Rq) (x : Sl) (w : World) (h : r.op.toNat = 65) :
    Calls Tryd.prog 75 #[.agg (cellsOf r x.v)] w fun e w' => e = .returned (.agg (cellsOf ⟨r.op, 0, 0, 0, 0, 0, 0, 0, 0, ⟨#[]⟩, ⟨#[]⟩, ⟨#[]⟩, ⟨#[]⟩, r.han⟩ (Sl.v ⟨none, 0, 0⟩))) ∧ Below w.heap.size w w' := by
  have hI : ((r.op.toNat : Nat) : Int) = 65 := by omega
  have hinf := info37
  have hv : Hid (cellsOf ⟨r.op, 0, 0, 0, 0, 0, 0, 0, 0, ⟨#[]⟩, ⟨#[]⟩, ⟨#[]⟩, ⟨#[]⟩, r.han⟩ (Sl.v ⟨none, 0, 0⟩) = (cellsOf { (⟨r.op, 0, 0, 0, 0, 0, 0, 0, 0, ⟨#[]⟩, ⟨#[]⟩, ⟨#[]⟩, ⟨#[]⟩, r.han⟩ : Wp.Rq) with op := 65 } (Sl.v ⟨none, 0, 0⟩))) := by
    show _ = _
    unfold cellsOf
    simp only [hI]
    rfl
  rw [hv.out]
  unfold cellsOf Sl.v
  rw [hI]
  clear h hI hv
  go_enter Tryd.func75, Tryd.ntmps75
  go_wp2_with fail
  refine bodyPost_ret (results_cell_row (p := 2) rfl _ _ (w.heap.size + 1) 37 (cellsOf { (⟨r.op, 0, 0, 0, 0, 0, 0, 0, 0, ⟨#[]⟩, ⟨#[]⟩, ⟨#[]⟩, ⟨#[]⟩, r.han⟩ : Wp.Rq) with op := 65 } (Sl.v ⟨none, 0, 0⟩)) (0, 0) _ rfl ?_ Tryd.underlying37 rfl hinf) rfl ⟨rfl, ?_⟩
  · exact heap3 _ _ _ _
  · exact below3 _ _ _ _

set_option maxRecDepth 100000 in
set_option maxHeartbeats 1000000 in
theorem only_69 (r : Wp.Rq) (x : Sl) (w : World) (h : r.op.toNat = 69) :
    Calls Tryd.prog 75 #[.agg (cellsOf r x.v)] w fun e w' => e = .returned (.agg (cellsOf ⟨r.op, 0, 0, 0, 0, 0, 0, 0, r.tic, ⟨#[]⟩, ⟨#[]⟩, ⟨#[]⟩, ⟨#[]⟩, r.han⟩ (Sl.v ⟨none, 0, 0⟩))) ∧ Below w.heap.size w w' := by
  have hI : ((r.op.toNat : Nat) : Int) = 69 := by omega
  have hinf := info37
  have hv : Hid (cellsOf ⟨r.op, 0, 0, 0, 0, 0, 0, 0, r.tic, ⟨#[]⟩, ⟨#[]⟩, ⟨#[]⟩, ⟨#[]⟩, r.han⟩ (Sl.v ⟨none, 0, 0⟩) = (cellsOf { (⟨r.op, 0, 0, 0, 0, 0, 0, 0, r.tic, ⟨#[]⟩, ⟨#[]⟩, ⟨#[]⟩, ⟨#[]⟩, r.han⟩ : Wp.Rq) with op := 69 } (Sl.v ⟨none, 0, 0⟩))) := by
    show _ = _
    unfold cellsOf
    simp only [hI]
    rfl
  rw [hv.out]
  unfold cellsOf Sl.v
  rw [hI]
  clear h hI hv
  go_enter Tryd.func75, Tryd.ntmps75
  go_wp2_with fail
  refine bodyPost_ret (results_cell_row (p := 2) rfl _ _ (w.heap.size + 1) 37 (cellsOf { (⟨r.op, 0, 0, 0, 0, 0, 0, 0, r.tic, ⟨#[]⟩, ⟨#[]⟩, ⟨#[]⟩, ⟨#[]⟩, r.han⟩ : Wp.Rq) with op := 69 } (Sl.v ⟨none, 0, 0⟩)) (0, 0) _ rfl ?_ Tryd.underlying37 rfl hinf) rfl ⟨rfl, ?_⟩
  · exact heap3 _ _ _ _
  · exact below3 _ _ _ _

set_option maxRecDepth 100000 in
set_option maxHeartbeats 1000000 in
theorem only_84 (r : Wp.Rq) (x : Sl) (w : World) (h : r.op.toNat = 84) :
    Calls Tryd.prog 75 #[.agg (cellsOf r x.v)] w fun e w' => e = .returned (.agg (cellsOf ⟨r.op, 0, 0, 0, 0, 0, 0, 0, r.tic, ⟨#[]⟩, ⟨#[]⟩, ⟨#[]⟩, ⟨#[]⟩, ⟨#[]⟩⟩ (Sl.v ⟨none, 0, 0⟩))) ∧ Below w.heap.size w w' := by
  have hI : ((r.op.toNat : Nat) : Int) = 84 := by omega
  have hinf := info37
  have hv : Hid (cellsOf ⟨r.op, 0, 0, 0, 0, 0, 0, 0, r.tic, ⟨#[]⟩, ⟨#[]⟩, ⟨#[]⟩, ⟨#[]⟩, ⟨#[]⟩⟩ (Sl.v ⟨none, 0, 0⟩) = (cellsOf { (⟨r.op, 0, 0, 0, 0, 0, 0, 0, r.tic, ⟨#[]⟩, ⟨#[]⟩, ⟨#[]⟩, ⟨#[]⟩, ⟨#[]⟩⟩ : Wp.Rq) with op := 84 } (Sl.v ⟨none, 0, 0⟩))) := by
    show _ = _
    unfold cellsOf
    simp only [hI]
    rfl
  rw [hv.out]
  unfold cellsOf Sl.v
  rw [hI]
  clear h hI hv
  go_enter Tryd.func75, Tryd.ntmps75
  go_wp2_with fail
  refine bodyPost_ret (results_cell_row (p := 2) rfl _ _ (w.heap.size + 1) 37 (cellsOf { (⟨r.op, 0, 0, 0, 0, 0, 0, 0, r.tic, ⟨#[]⟩, ⟨#[]⟩, ⟨#[]⟩, ⟨#[]⟩, ⟨#[]⟩⟩ : Wp.Rq) with op := 84 } (Sl.v ⟨none, 0, 0⟩)) (0, 0) _ rfl ?_ Tryd.underlying37 rfl hinf) rfl ⟨rfl, ?_⟩
  · exact heap3 _ _ _ _
  · exact below3 _ _ _ _
end Go.Proofs.YtbdobaapadlcjaaDoor.Ref

namespace Go.Proofs.YtbdobaapadlcjaaDoor.Ref
open Go.RowKit
set_option linter.unusedVariables false

set_option maxRecDepth 100000 in
set_option maxHeartbeats 1000000 in
theorem only_66 (r : Wp.Rq) (x : Sl) (w : World) (h : r.op.toNat = 66) :
    Calls Tryd.prog 75 #[.agg (cellsOf r x.v)] w fun e w' => e = .returned (.agg (cellsOf ⟨r.op, 0, 0, 0, 0, 0, 0, 0, 0, ⟨#[]⟩, ⟨#[]⟩, ⟨#[]⟩, ⟨#[]⟩, ⟨#[]⟩⟩ (Sl.v x))) ∧ Below w.heap.size w w' := by
  have hI : ((r.op.toNat : Nat) : Int) = 66 := by omega
  have hinf := info37
  have hv : Hid (cellsOf ⟨r.op, 0, 0, 0, 0, 0, 0, 0, 0, ⟨#[]⟩, ⟨#[]⟩, ⟨#[]⟩, ⟨#[]⟩, ⟨#[]⟩⟩ (Sl.v x) = (cellsOf { (⟨r.op, 0, 0, 0, 0, 0, 0, 0, 0, ⟨#[]⟩, ⟨#[]⟩, ⟨#[]⟩, ⟨#[]⟩, ⟨#[]⟩⟩ : Wp.Rq) with op := 66 } (Sl.v x))) := by
    show _ = _
    unfold cellsOf
    simp only [hI]
    rfl
  rw [hv.out]
  unfold cellsOf Sl.v
  rw [hI]
  clear h hI hv
  go_enter Tryd.func75, Tryd.ntmps75
  go_wp2_with fail
  refine bodyPost_ret (results_cell_row (p := 2) rfl _ _ (w.heap.size + 1) 37 (cellsOf { (⟨r.op, 0, 0, 0, 0, 0, 0, 0, 0, ⟨#[]⟩, ⟨#[]⟩, ⟨#[]⟩, ⟨#[]⟩, ⟨#[]⟩⟩ : Wp.Rq) with op := 66 } (Sl.v x)) (0, 0) _ rfl ?_ Tryd.underlying37 rfl hinf) rfl ⟨rfl, ?_⟩
  · exact heap3 _ _ _ _
  · exact below3 _ _ _ _

theorem hne (n : Nat) (L : Nat) (h : n ≠ L) : (((n : Nat) : Int) == (L : Int)) = false := beq_eq_false_iff_ne.2 (by omega)
set_option maxRecDepth 100000 in
set_option maxHeartbeats 1000000 in
theorem only_none (r : Wp.Rq) (x : Sl) (w : World) (n : Nat) (hn : r.op.toNat = n) (h : n ≠ 67 ∧ n ≠ 88 ∧ n ≠ 80 ∧ n ≠ 86 ∧ n ≠ 83 ∧ n ≠ 82 ∧ n ≠ 65 ∧ n ≠ 69 ∧ n ≠ 84 ∧ n ≠ 66) :
    Calls Tryd.prog 75 #[.agg (cellsOf r x.v)] w fun e w' => e = .returned (.agg (cellsOf ⟨r.op, 0, 0, 0, 0, 0, 0, 0, 0, ⟨#[]⟩, ⟨#[]⟩, ⟨#[]⟩, ⟨#[]⟩, ⟨#[]⟩⟩ (Sl.v ⟨none, 0, 0⟩))) ∧ Below w.heap.size w w' := by
  obtain ⟨h67, h88, h80, h86, h83, h82, h65, h69, h84, h66⟩ := h
  have hinf := info37
  have HN : Hid (r.op.toNat = n) := hn
  have g67 : (((n : Nat) : Int) == 67) = false := hne n 67 h67
  have g88 : (((n : Nat) : Int) == 88) = false := hne n 88 h88
  have g80 : (((n : Nat) : Int) == 80) = false := hne n 80 h80
  have g86 : (((n : Nat) : Int) == 86) = false := hne n 86 h86
  have g83 : (((n : Nat) : Int) == 83) = false := hne n 83 h83
  have g82 : (((n : Nat) : Int) == 82) = false := hne n 82 h82
  have g65 : (((n : Nat) : Int) == 65) = false := hne n 65 h65
  have g69 : (((n : Nat) : Int) == 69) = false := hne n 69 h69
  have g84 : (((n : Nat) : Int) == 84) = false := hne n 84 h84
  have g66 : (((n : Nat) : Int) == 66) = false := hne n 66 h66
  unfold cellsOf Sl.v
  rw [hn]
  clear hn h67 h88 h80 h86 h83 h82 h65 h69 h84 h66
  go_enter Tryd.func75, Tryd.ntmps75
  go_wp2_with fail
  refine bodyPost_ret (results_cell_row (p := 2) rfl _ _ (w.heap.size + 1) 37 #[.int .u8 (n : Int), .int .u8 0, .int .u8 0, .int .i64 0, .int .i64 0, .int .i64 0, .int .i64 0, .int .i64 0, .int .i64 0, .string ⟨#[]⟩, .string ⟨#[]⟩, .string ⟨#[]⟩, .string ⟨#[]⟩, .string ⟨#[]⟩, .slice none 0 0] (0, 0) _ rfl ?_ Tryd.underlying37 rfl hinf) rfl ⟨rfl, ?_⟩
  · exact heap3 _ _ _ _
  · exact below3 _ _ _ _
end Go.Proofs.YtbdobaapadlcjaaDoor.Ref
