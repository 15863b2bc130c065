/-
  THE WALKS of package wharfref's only (72), Op by Op.
-/
import Derived.Test.YtbdobaapadlcjaaDoorRfE
namespace Go.Proofs.YtbdobaapadlcjaaDoor.Ref
open Go.RowKit
set_option linter.unusedVariables false

set_option maxRecDepth 100000 in
set_option maxHeartbeats 1000000 in
theorem only_67 (r : Wp.Rq) (x : Sl) (w : World) (h : r.op.toNat = 67) :
    Calls Tryd.prog 75 #[.agg (cellsOf r x.v)] w fun e w' => e = .returned (.agg (cellsOf ⟨r.op, r.q, r.d, r.vis, r.win, r.rcv, r.quo, 0, 0, ⟨#[]⟩, ⟨#[]⟩, ⟨#[]⟩, ⟨#[]⟩, ⟨#[]⟩⟩ (Sl.v ⟨none, 0, 0⟩))) ∧ Below w.heap.size w w' := by
  have hI : ((r.op.toNat : Nat) : Int) = 67 := by omega
  have hinf := info37
  have hv : Hid (cellsOf ⟨r.op, r.q, r.d, r.vis, r.win, r.rcv, r.quo, 0, 0, ⟨#[]⟩, ⟨#[]⟩, ⟨#[]⟩, ⟨#[]⟩, ⟨#[]⟩⟩ (Sl.v ⟨none, 0, 0⟩) = (cellsOf { (⟨r.op, r.q, r.d, r.vis, r.win, r.rcv, r.quo, 0, 0, ⟨#[]⟩, ⟨#[]⟩, ⟨#[]⟩, ⟨#[]⟩, ⟨#[]⟩⟩ : Wp.Rq) with op := 67 } (Sl.v ⟨none, 0, 0⟩))) := by
    show _ = _
    unfold cellsOf
    simp only [hI]
    rfl
  rw [hv.out]
  unfold cellsOf Sl.v
  rw [hI]
  clear h hI hv
  go_enter Tryd.func75, Tryd.ntmps75
  go_wp2_with fail
  refine bodyPost_ret (results_cell_row (p := 2) rfl _ _ (w.heap.size + 1) 37 (cellsOf { (⟨r.op, r.q, r.d, r.vis, r.win, r.rcv, r.quo, 0, 0, ⟨#[]⟩, ⟨#[]⟩, ⟨#[]⟩, ⟨#[]⟩, ⟨#[]⟩⟩ : Wp.Rq) with op := 67 } (Sl.v ⟨none, 0, 0⟩)) (0, 0) _ rfl ?_ Tryd.underlying37 rfl hinf) rfl ⟨rfl, ?_⟩
  · exact heap3 _ _ _ _
  · exact below3 _ _ _ _

set_option maxRecDepth 100000 in
set_option maxHeartbeats 1000000 in
theorem only_88 (r : Wp.Rq) (x : Sl) (w : World) (h : r.op.toNat = 88) :
    Calls Tryd.prog 75 #[.agg (cellsOf r x.v)] w fun e w' => e = .returned (.agg (cellsOf ⟨r.op, r.q, 0, 0, 0, 0, 0, 0, 0, ⟨#[]⟩, ⟨#[]⟩, ⟨#[]⟩, ⟨#[]⟩, ⟨#[]⟩⟩ (Sl.v ⟨none, 0, 0⟩))) ∧ Below w.heap.size w w' := by
  have hI : ((r.op.toNat : Nat) : Int) = 88 := by omega
  have hinf := info37
  have hv : Hid (cellsOf ⟨r.op, r.q, 0, 0, 0, 0, 0, 0, 0, ⟨#[]⟩, ⟨#[]⟩, ⟨#[]⟩, ⟨#[]⟩, ⟨#[]⟩⟩ (Sl.v ⟨none, 0, 0⟩) = (cellsOf { (⟨r.op, r.q, 0, 0, 0, 0, 0, 0, 0, ⟨#[]⟩, ⟨#[]⟩, ⟨#[]⟩, ⟨#[]⟩, ⟨#[]⟩⟩ : Wp.Rq) with op := 88 } (Sl.v ⟨none, 0, 0⟩))) := by
    show _ = _
    unfold cellsOf
    simp only [hI]
    rfl
  rw [hv.out]
  unfold cellsOf Sl.v
  rw [hI]
  clear h hI hv
  go_enter Tryd.func75, Tryd.ntmps75
  go_wp2_with fail
  refine bodyPost_ret (results_cell_row (p := 2) rfl _ _ (w.heap.size + 1) 37 (cellsOf { (⟨r.op, r.q, 0, 0, 0, 0, 0, 0, 0, ⟨#[]⟩, ⟨#[]⟩, ⟨#[]⟩, ⟨#[]⟩, ⟨#[]⟩⟩ : Wp.Rq) with op := 88 } (Sl.v ⟨none, 0, 0⟩)) (0, 0) _ rfl ?_ Tryd.underlying37 rfl hinf) rfl ⟨rfl, ?_⟩
  · exact heap3 _ _ _ _
  · exact below3 _ _ _ _

set_option maxRecDepth 100000 in
set_option maxHeartbeats 1000000 in
theorem only_80 (r : Wp.Rq) (x : Sl) (w : World) (h : r.op.toNat = 80) :
    Calls Tryd.prog 75 #[.agg (cellsOf r x.v)] w fun e w' => e = .returned (.agg (cellsOf ⟨r.op, r.q, 0, 0, 0, 0, 0, 0, 0, ⟨#[]⟩, ⟨#[]⟩, ⟨#[]⟩, ⟨#[]⟩, ⟨#[]⟩⟩ (Sl.v ⟨none, 0, 0⟩))) ∧ Below w.heap.size w w' := by
  have hI : ((r.op.toNat : Nat) : Int) = 80 := by omega
  have hinf := info37
  have hv : Hid (cellsOf ⟨r.op, r.q, 0, 0, 0, 0, 0, 0, 0, ⟨#[]⟩, ⟨#[]⟩, ⟨#[]⟩, ⟨#[]⟩, ⟨#[]⟩⟩ (Sl.v ⟨none, 0, 0⟩) = (cellsOf { (⟨r.op, r.q, 0, 0, 0, 0, 0, 0, 0, ⟨#[]⟩, ⟨#[]⟩, ⟨#[]⟩, ⟨#[]⟩, ⟨#[]⟩⟩ : Wp.Rq) with op := 80 } (Sl.v ⟨none, 0, 0⟩))) := by
    show _ = _
    unfold cellsOf
    simp only [hI]
    rfl
  rw [hv.out]
  unfold cellsOf Sl.v
  rw [hI]
  clear h hI hv
  go_enter Tryd.func75, Tryd.ntmps75
  go_wp2_with fail
  refine bodyPost_ret (results_cell_row (p := 2) rfl _ _ (w.heap.size + 1) 37 (cellsOf { (⟨r.op, r.q, 0, 0, 0, 0, 0, 0, 0, ⟨#[]⟩, ⟨#[]⟩, ⟨#[]⟩, ⟨#[]⟩, ⟨#[]⟩⟩ : Wp.Rq) with op := 80 } (Sl.v ⟨none, 0, 0⟩)) (0, 0) _ rfl ?_ Tryd.underlying37 rfl hinf) rfl ⟨rfl, ?_⟩
  · exact heap3 _ _ _ _
  · exact below3 _ _ _ _
end Go.Proofs.YtbdobaapadlcjaaDoor.Ref

namespace Go.Proofs.YtbdobaapadlcjaaDoor.Ref
open Go.RowKit
set_option linter.unusedVariables false

set_option maxRecDepth 100000 in
set_option maxHeartbeats 1000000 in
theorem only_86 (r : Wp.Rq) (x : Sl) (w : World) (h : r.op.toNat = 86) :
    Calls Tryd.prog 75 #[.agg (cellsOf r x.v)] w fun e w' => e = .returned (.agg (cellsOf ⟨r.op, r.q, 0, 0, 0, 0, 0, 0, 0, ⟨#[]⟩, ⟨#[]⟩, ⟨#[]⟩, ⟨#[]⟩, ⟨#[]⟩⟩ (Sl.v ⟨none, 0, 0⟩))) ∧ Below w.heap.size w w' := by
  have hI : ((r.op.toNat : Nat) : Int) = 86 := by omega
  have hinf := info37
  have hv : Hid (cellsOf ⟨r.op, r.q, 0, 0, 0, 0, 0, 0, 0, ⟨#[]⟩, ⟨#[]⟩, ⟨#[]⟩, ⟨#[]⟩, ⟨#[]⟩⟩ (Sl.v ⟨none, 0, 0⟩) = (cellsOf { (⟨r.op, r.q, 0, 0, 0, 0, 0, 0, 0, ⟨#[]⟩, ⟨#[]⟩, ⟨#[]⟩, ⟨#[]⟩, ⟨#[]⟩⟩ : Wp.Rq) with op := 86 } (Sl.v ⟨none, 0, 0⟩))) := by
    show _ = _
    unfold cellsOf
    simp only [hI]
    rfl
  rw [hv.out]
  unfold cellsOf Sl.v
  rw [hI]
  clear h hI hv
  go_enter Tryd.func75, Tryd.ntmps75
  go_wp2_with fail
  refine bodyPost_ret (results_cell_row (p := 2) rfl _ _ (w.heap.size + 1) 37 (cellsOf { (⟨r.op, r.q, 0, 0, 0, 0, 0, 0, 0, ⟨#[]⟩, ⟨#[]⟩, ⟨#[]⟩, ⟨#[]⟩, ⟨#[]⟩⟩ : Wp.Rq) with op := 86 } (Sl.v ⟨none, 0, 0⟩)) (0, 0) _ rfl ?_ Tryd.underlying37 rfl hinf) rfl ⟨rfl, ?_⟩
  · exact heap3 _ _ _ _
  · exact below3 _ _ _ _

set_option maxRecDepth 100000 in
set_option maxHeartbeats 1000000 in
theorem only_83 (r : Wp.Rq) (x : Sl) (w : World) (h : r.op.toNat = 83) :
    Calls Tryd.prog 75 #[.agg (cellsOf r x.v)] w fun e w' => e = .returned (.agg (cellsOf ⟨r.op, r.q, 0, 0, 0, 0, 0, 0, 0, r.grp, r.ded, r.bod, ⟨#[]⟩, ⟨#[]⟩⟩ (Sl.v ⟨none, 0, 0⟩))) ∧ Below w.heap.size w w' := by
  have hI : ((r.op.toNat : Nat) : Int) = 83 := by omega
  have hinf := info37
  have hv : Hid (cellsOf ⟨r.op, r.q, 0, 0, 0, 0, 0, 0, 0, r.grp, r.ded, r.bod, ⟨#[]⟩, ⟨#[]⟩⟩ (Sl.v ⟨none, 0, 0⟩) = (cellsOf { (⟨r.op, r.q, 0, 0, 0, 0, 0, 0, 0, r.grp, r.ded, r.bod, ⟨#[]⟩, ⟨#[]⟩⟩ : Wp.Rq) with op := 83 } (Sl.v ⟨none, 0, 0⟩))) := by
    show _ = _
    unfold cellsOf
    simp only [hI]
    rfl
  rw [hv.out]
  unfold cellsOf Sl.v
  rw [hI]
  clear h hI hv
  go_enter Tryd.func75, Tryd.ntmps75
  go_wp2_with fail
  refine bodyPost_ret (results_cell_row (p := 2) rfl _ _ (w.heap.size + 1) 37 (cellsOf { (⟨r.op, r.q, 0, 0, 0, 0, 0, 0, 0, r.grp, r.ded, r.bod, ⟨#[]⟩, ⟨#[]⟩⟩ : Wp.Rq) with op := 83 } (Sl.v ⟨none, 0, 0⟩)) (0, 0) _ rfl ?_ Tryd.underlying37 rfl hinf) rfl ⟨rfl, ?_⟩
  · exact heap3 _ _ _ _
  · exact below3 _ _ _ _

set_option maxRecDepth 100000 in
set_option maxHeartbeats 1000000 in
theorem only_82 (r : Wp.Rq) (x : Sl) (w : World) (h : r.op.toNat = 82) :
    Calls Tryd.prog 75 #[.agg (cellsOf r x.v)] w fun e w' => e = .returned (.agg (cellsOf ⟨r.op, r.q, 0, 0, 0, 0, 0, r.mx, 0, ⟨#[]⟩, ⟨#[]⟩, ⟨#[]⟩, r.att, ⟨#[]⟩⟩ (Sl.v ⟨none, 0, 0⟩))) ∧ Below w.heap.size w w' := by
  have hI : ((r.op.toNat : Nat) : Int) = 82 := by omega
  have hinf := info37
  have hv : Hid (cellsOf ⟨r.op, r.q, 0, 0, 0, 0, 0, r.mx, 0, ⟨#[]⟩, ⟨#[]⟩, ⟨#[]⟩, r.att, ⟨#[]⟩⟩ (Sl.v ⟨none, 0, 0⟩) = (cellsOf { (⟨r.op, r.q, 0, 0, 0, 0, 0, r.mx, 0, ⟨#[]⟩, ⟨#[]⟩, ⟨#[]⟩, r.att, ⟨#[]⟩⟩ : Wp.Rq) with op := 82 } (Sl.v ⟨none, 0, 0⟩))) := by
    show _ = _
    unfold cellsOf
    simp only [hI]
    rfl
  rw [hv.out]
  unfold cellsOf Sl.v
  rw [hI]
  clear h hI hv
  go_enter Tryd.func75, Tryd.ntmps75
  go_wp2_with fail
  refine bodyPost_ret (results_cell_row (p := 2) rfl _ _ (w.heap.size + 1) 37 (cellsOf { (⟨r.op, r.q, 0, 0, 0, 0, 0, r.mx, 0, ⟨#[]⟩, ⟨#[]⟩, ⟨#[]⟩, r.att, ⟨#[]⟩⟩ : Wp.Rq) with op := 82 } (Sl.v ⟨none, 0, 0⟩)) (0, 0) _ rfl ?_ Tryd.underlying37 rfl hinf) rfl ⟨rfl, ?_⟩
  · exact heap3 _ _ _ _
  · exact below3 _ _ _ _
end Go.Proofs.YtbdobaapadlcjaaDoor.Ref
