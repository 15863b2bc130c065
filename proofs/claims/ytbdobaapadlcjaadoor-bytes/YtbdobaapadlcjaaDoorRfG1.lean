/-
  THE WALKS of package wharfref's Right (62).
-/
import Derived.Test.YtbdobaapadlcjaaDoorRfG
import Derived.Test.YtbdobaapadlcjaaDoorRfE2
namespace Go.Proofs.YtbdobaapadlcjaaDoor.Ref
open Go.RowKit
set_option linter.unusedVariables false

set_option maxRecDepth 100000 in
set_option maxHeartbeats 2000000 in
theorem right_67 (r o : Wp.Rq) (x y : Sl) (w : World) (hop : r.op.toNat = 67) (ho : ∀ W, Calls Tryd.prog 75 #[.agg (cellsOf r x.v)] W fun e w' => e = .returned (.agg (cellsOf o y.v)) ∧ Below W.heap.size W w')
    (hs : ∀ W, Below w.heap.size w W → Calls Tryd.prog 33 #[.agg (cellsOf o y.v), .agg (cellsOf r x.v)] W fun e w' => e = .returned (.bool true) ∧ Below W.heap.size W w') :
    Calls Tryd.prog 62 #[.agg (cellsOf r x.v)] w fun e w' => e = .returned (.bool ((ltq r && rightQ r))) ∧ Below w.heap.size w w' := by
  have HOP : Hid (r.op.toNat = 67) := hop
  clear hop
  have hinf := info37
  have HO : Hid (∀ W, Calls Tryd.prog 75 #[.agg (cellsOf r x.v)] W fun e w' => e = .returned (.agg (cellsOf o y.v)) ∧ Below W.heap.size W w') := ho
  have HS : Hid (∀ W, Below w.heap.size w W → Calls Tryd.prog 33 #[.agg (cellsOf o y.v), .agg (cellsOf r x.v)] W fun e w' => e = .returned (.bool true) ∧ Below W.heap.size W w') := hs
  clear ho hs
  go_enter Tryd.func62, Tryd.ntmps62
  go_wp2_with (refine wpList_load_row rfl 37 _ rfl w.heap.size rfl 37 (cellsOf r x.v) (0, 0) _ (heap_alloc_new _ _) Tryd.underlying37 rfl hinf ?_)
  refine (HO.out _).mono ?_
  rintro e w1 ⟨rfl, hb1⟩
  have HB1 : Hid (Below w.heap.size w w1) := ((Below.refl _ _).alloc (Nat.le_refl _) _).trans (hb1.mono (by simp))
  have HK1 : Hid ((laidIn w1 (cellsOf o y.v)).heap[w.heap.size]? = some (.cells (cellsOf r x.v) 37 (0, 0)) ∧ w.heap.size < w1.heap.size) := by
    have h1 : w1.heap[w.heap.size]? = some (.cells (cellsOf r x.v) 37 (0, 0)) := by rw [hb1.block _ (by simp)]; exact heap_alloc_new _ _
    have h2 : w.heap.size < w1.heap.size := (Array.getElem?_eq_some_iff.1 h1).1
    exact ⟨((laidIn_below w1 _).block _ h2).trans h1, h2⟩
  clear hb1
  go_wp2_with (first | (refine wpList_store_row rfl 37 _ _ rfl w1.heap.size (cellsOf o y.v) rfl rfl 37 _ (heap_alloc_new _ _) hinf rfl (cells_one _ _) ?_) | (refine wpList_load_row rfl 37 (.tmp 3) rfl w1.heap.size rfl 37 (cellsOf o y.v) (0, 0) _ (laidIn_heap _ _) Tryd.underlying37 rfl hinf ?_) | (refine wpList_load_row rfl 37 (.tmp 1) rfl w.heap.size rfl 37 (cellsOf r x.v) (0, 0) _ HK1.out.1 Tryd.underlying37 rfl hinf ?_))
  refine (HS.out (laidIn w1 (cellsOf o y.v)) (HB1.out.trans ((laidIn_below _ _).mono HB1.out.size))).mono ?_
  rintro e w2 ⟨rfl, hb2⟩
  rw [laidIn_size] at hb2
  have HB2 : Hid (Below w.heap.size w w2) := (HB1.out.trans ((laidIn_below w1 (cellsOf o y.v)).mono HB1.out.size)).trans (hb2.mono (by have := HB1.out.size; omega))
  have HK2 : Hid (Blk w2 w.heap.size r x) := (hb2.block _ (by have := HK1.out.2; omega)).trans HK1.out.1
  clear hb2
  have hq : w2.cell? ⟨w.heap.size, 1, none⟩ = some (.int .u8 (r.q.toNat : Int)) := HK2.out.box 1 _ rfl
  have hp : w2.cell? ⟨w.heap.size, 0, none⟩ = some (.int .u8 67) := by
    have h : w2.cell? ⟨w.heap.size, 0, none⟩ = some (.int .u8 (r.op.toNat : Int)) := HK2.out.box 0 _ rfl
    rw [h, HOP.out]; rfl
  go_wp2_with (first | (go_at_call 76; refine (letter_q r _).mono ?_; rintro e w' ⟨rfl, rfl⟩) | (go_at_call 78; refine (in_any _ _ _ _).mono ?_; rintro e w' ⟨rfl, rfl⟩) | (refine wpList_load_row rfl 37 (.tmp 1) rfl w.heap.size rfl 37 (cellsOf r x.v) (0, 0) _ HK2.out Tryd.underlying37 rfl hinf ?_) | (go_at_call 77; refine (rightQueue_any _ _ _).mono ?_; rintro e w3 ⟨rfl, hb3⟩))
  all_goals
    go_ret
    exact ⟨ret_bool (by simp_all <;> (intros; omega)), HB2.out.trans (hb3.mono HB2.out.size)⟩

set_option maxRecDepth 100000 in
set_option maxHeartbeats 2000000 in
theorem right_88 (r o : Wp.Rq) (x y : Sl) (w : World) (hop : r.op.toNat = 88) (ho : ∀ W, Calls Tryd.prog 75 #[.agg (cellsOf r x.v)] W fun e w' => e = .returned (.agg (cellsOf o y.v)) ∧ Below W.heap.size W w')
    (hs : ∀ W, Below w.heap.size w W → Calls Tryd.prog 33 #[.agg (cellsOf o y.v), .agg (cellsOf r x.v)] W fun e w' => e = .returned (.bool true) ∧ Below W.heap.size W w') :
    Calls Tryd.prog 62 #[.agg (cellsOf r x.v)] w fun e w' => e = .returned (.bool (ltq r)) ∧ Below w.heap.size w w' := by
  have HOP : Hid (r.op.toNat = 88) := hop
  clear hop
  have hinf := info37
  have HO : Hid (∀ W, Calls Tryd.prog 75 #[.agg (cellsOf r x.v)] W fun e w' => e = .returned (.agg (cellsOf o y.v)) ∧ Below W.heap.size W w') := ho
  have HS : Hid (∀ W, Below w.heap.size w W → Calls Tryd.prog 33 #[.agg (cellsOf o y.v), .agg (cellsOf r x.v)] W fun e w' => e = .returned (.bool true) ∧ Below W.heap.size W w') := hs
  clear ho hs
  go_enter Tryd.func62, Tryd.ntmps62
  go_wp2_with (refine wpList_load_row rfl 37 _ rfl w.heap.size rfl 37 (cellsOf r x.v) (0, 0) _ (heap_alloc_new _ _) Tryd.underlying37 rfl hinf ?_)
  refine (HO.out _).mono ?_
  rintro e w1 ⟨rfl, hb1⟩
  have HB1 : Hid (Below w.heap.size w w1) := ((Below.refl _ _).alloc (Nat.le_refl _) _).trans (hb1.mono (by simp))
  have HK1 : Hid ((laidIn w1 (cellsOf o y.v)).heap[w.heap.size]? = some (.cells (cellsOf r x.v) 37 (0, 0)) ∧ w.heap.size < w1.heap.size) := by
    have h1 : w1.heap[w.heap.size]? = some (.cells (cellsOf r x.v) 37 (0, 0)) := by rw [hb1.block _ (by simp)]; exact heap_alloc_new _ _
    have h2 : w.heap.size < w1.heap.size := (Array.getElem?_eq_some_iff.1 h1).1
    exact ⟨((laidIn_below w1 _).block _ h2).trans h1, h2⟩
  clear hb1
  go_wp2_with (first | (refine wpList_store_row rfl 37 _ _ rfl w1.heap.size (cellsOf o y.v) rfl rfl 37 _ (heap_alloc_new _ _) hinf rfl (cells_one _ _) ?_) | (refine wpList_load_row rfl 37 (.tmp 3) rfl w1.heap.size rfl 37 (cellsOf o y.v) (0, 0) _ (laidIn_heap _ _) Tryd.underlying37 rfl hinf ?_) | (refine wpList_load_row rfl 37 (.tmp 1) rfl w.heap.size rfl 37 (cellsOf r x.v) (0, 0) _ HK1.out.1 Tryd.underlying37 rfl hinf ?_))
  refine (HS.out (laidIn w1 (cellsOf o y.v)) (HB1.out.trans ((laidIn_below _ _).mono HB1.out.size))).mono ?_
  rintro e w2 ⟨rfl, hb2⟩
  rw [laidIn_size] at hb2
  have HB2 : Hid (Below w.heap.size w w2) := (HB1.out.trans ((laidIn_below w1 (cellsOf o y.v)).mono HB1.out.size)).trans (hb2.mono (by have := HB1.out.size; omega))
  have HK2 : Hid (Blk w2 w.heap.size r x) := (hb2.block _ (by have := HK1.out.2; omega)).trans HK1.out.1
  clear hb2
  have hq : w2.cell? ⟨w.heap.size, 1, none⟩ = some (.int .u8 (r.q.toNat : Int)) := HK2.out.box 1 _ rfl
  have hp : w2.cell? ⟨w.heap.size, 0, none⟩ = some (.int .u8 88) := by
    have h : w2.cell? ⟨w.heap.size, 0, none⟩ = some (.int .u8 (r.op.toNat : Int)) := HK2.out.box 0 _ rfl
    rw [h, HOP.out]; rfl
  go_wp2_with (first | (go_at_call 76; refine (letter_q r _).mono ?_; rintro e w' ⟨rfl, rfl⟩) | (go_at_call 78; refine (in_any _ _ _ _).mono ?_; rintro e w' ⟨rfl, rfl⟩) | (refine wpList_load_row rfl 37 (.tmp 1) rfl w.heap.size rfl 37 (cellsOf r x.v) (0, 0) _ HK2.out Tryd.underlying37 rfl hinf ?_) | (go_at_call 77; refine (rightQueue_any _ _ _).mono ?_; rintro e w3 ⟨rfl, hb3⟩))
  all_goals
    go_ret
    exact ⟨ret_bool (by simp_all <;> (intros; omega)), HB2.out⟩
end Go.Proofs.YtbdobaapadlcjaaDoor.Ref

namespace Go.Proofs.YtbdobaapadlcjaaDoor.Ref
open Go.RowKit
set_option linter.unusedVariables false

set_option maxRecDepth 100000 in
set_option maxHeartbeats 2000000 in
theorem right_80 (r o : Wp.Rq) (x y : Sl) (w : World) (hop : r.op.toNat = 80) (ho : ∀ W, Calls Tryd.prog 75 #[.agg (cellsOf r x.v)] W fun e w' => e = .returned (.agg (cellsOf o y.v)) ∧ Below W.heap.size W w')
    (hs : ∀ W, Below w.heap.size w W → Calls Tryd.prog 33 #[.agg (cellsOf o y.v), .agg (cellsOf r x.v)] W fun e w' => e = .returned (.bool true) ∧ Below W.heap.size W w') :
    Calls Tryd.prog 62 #[.agg (cellsOf r x.v)] w fun e w' => e = .returned (.bool (ltq r)) ∧ Below w.heap.size w w' := by
  have HOP : Hid (r.op.toNat = 80) := hop
  clear hop
  have hinf := info37
  have HO : Hid (∀ W, Calls Tryd.prog 75 #[.agg (cellsOf r x.v)] W fun e w' => e = .returned (.agg (cellsOf o y.v)) ∧ Below W.heap.size W w') := ho
  have HS : Hid (∀ W, Below w.heap.size w W → Calls Tryd.prog 33 #[.agg (cellsOf o y.v), .agg (cellsOf r x.v)] W fun e w' => e = .returned (.bool true) ∧ Below W.heap.size W w') := hs
  clear ho hs
  go_enter Tryd.func62, Tryd.ntmps62
  go_wp2_with (refine wpList_load_row rfl 37 _ rfl w.heap.size rfl 37 (cellsOf r x.v) (0, 0) _ (heap_alloc_new _ _) Tryd.underlying37 rfl hinf ?_)
  refine (HO.out _).mono ?_
  rintro e w1 ⟨rfl, hb1⟩
  have HB1 : Hid (Below w.heap.size w w1) := ((Below.refl _ _).alloc (Nat.le_refl _) _).trans (hb1.mono (by simp))
  have HK1 : Hid ((laidIn w1 (cellsOf o y.v)).heap[w.heap.size]? = some (.cells (cellsOf r x.v) 37 (0, 0)) ∧ w.heap.size < w1.heap.size) := by
    have h1 : w1.heap[w.heap.size]? = some (.cells (cellsOf r x.v) 37 (0, 0)) := by rw [hb1.block _ (by simp)]; exact heap_alloc_new _ _
    have h2 : w.heap.size < w1.heap.size := (Array.getElem?_eq_some_iff.1 h1).1
    exact ⟨((laidIn_below w1 _).block _ h2).trans h1, h2⟩
  clear hb1
  go_wp2_with (first | (refine wpList_store_row rfl 37 _ _ rfl w1.heap.size (cellsOf o y.v) rfl rfl 37 _ (heap_alloc_new _ _) hinf rfl (cells_one _ _) ?_) | (refine wpList_load_row rfl 37 (.tmp 3) rfl w1.heap.size rfl 37 (cellsOf o y.v) (0, 0) _ (laidIn_heap _ _) Tryd.underlying37 rfl hinf ?_) | (refine wpList_load_row rfl 37 (.tmp 1) rfl w.heap.size rfl 37 (cellsOf r x.v) (0, 0) _ HK1.out.1 Tryd.underlying37 rfl hinf ?_))
  refine (HS.out (laidIn w1 (cellsOf o y.v)) (HB1.out.trans ((laidIn_below _ _).mono HB1.out.size))).mono ?_
  rintro e w2 ⟨rfl, hb2⟩
  rw [laidIn_size] at hb2
  have HB2 : Hid (Below w.heap.size w w2) := (HB1.out.trans ((laidIn_below w1 (cellsOf o y.v)).mono HB1.out.size)).trans (hb2.mono (by have := HB1.out.size; omega))
  have HK2 : Hid (Blk w2 w.heap.size r x) := (hb2.block _ (by have := HK1.out.2; omega)).trans HK1.out.1
  clear hb2
  have hq : w2.cell? ⟨w.heap.size, 1, none⟩ = some (.int .u8 (r.q.toNat : Int)) := HK2.out.box 1 _ rfl
  have hp : w2.cell? ⟨w.heap.size, 0, none⟩ = some (.int .u8 80) := by
    have h : w2.cell? ⟨w.heap.size, 0, none⟩ = some (.int .u8 (r.op.toNat : Int)) := HK2.out.box 0 _ rfl
    rw [h, HOP.out]; rfl
  go_wp2_with (first | (go_at_call 76; refine (letter_q r _).mono ?_; rintro e w' ⟨rfl, rfl⟩) | (go_at_call 78; refine (in_any _ _ _ _).mono ?_; rintro e w' ⟨rfl, rfl⟩) | (refine wpList_load_row rfl 37 (.tmp 1) rfl w.heap.size rfl 37 (cellsOf r x.v) (0, 0) _ HK2.out Tryd.underlying37 rfl hinf ?_) | (go_at_call 77; refine (rightQueue_any _ _ _).mono ?_; rintro e w3 ⟨rfl, hb3⟩))
  all_goals
    go_ret
    exact ⟨ret_bool (by simp_all <;> (intros; omega)), HB2.out⟩

set_option maxRecDepth 100000 in
set_option maxHeartbeats 2000000 in
theorem right_86 (r o : Wp.Rq) (x y : Sl) (w : World) (hop : r.op.toNat = 86) (ho : ∀ W, Calls Tryd.prog 75 #[.agg (cellsOf r x.v)] W fun e w' => e = .returned (.agg (cellsOf o y.v)) ∧ Below W.heap.size W w')
    (hs : ∀ W, Below w.heap.size w W → Calls Tryd.prog 33 #[.agg (cellsOf o y.v), .agg (cellsOf r x.v)] W fun e w' => e = .returned (.bool true) ∧ Below W.heap.size W w') :
    Calls Tryd.prog 62 #[.agg (cellsOf r x.v)] w fun e w' => e = .returned (.bool (ltq r)) ∧ Below w.heap.size w w' := by
  have HOP : Hid (r.op.toNat = 86) := hop
  clear hop
  have hinf := info37
  have HO : Hid (∀ W, Calls Tryd.prog 75 #[.agg (cellsOf r x.v)] W fun e w' => e = .returned (.agg (cellsOf o y.v)) ∧ Below W.heap.size W w') := ho
  have HS : Hid (∀ W, Below w.heap.size w W → Calls Tryd.prog 33 #[.agg (cellsOf o y.v), .agg (cellsOf r x.v)] W fun e w' => e = .returned (.bool true) ∧ Below W.heap.size W w') := hs
  clear ho hs
  go_enter Tryd.func62, Tryd.ntmps62
  go_wp2_with (refine wpList_load_row rfl 37 _ rfl w.heap.size rfl 37 (cellsOf r x.v) (0, 0) _ (heap_alloc_new _ _) Tryd.underlying37 rfl hinf ?_)
  refine (HO.out _).mono ?_
  rintro e w1 ⟨rfl, hb1⟩
  have HB1 : Hid (Below w.heap.size w w1) := ((Below.refl _ _).alloc (Nat.le_refl _) _).trans (hb1.mono (by simp))
  have HK1 : Hid ((laidIn w1 (cellsOf o y.v)).heap[w.heap.size]? = some (.cells (cellsOf r x.v) 37 (0, 0)) ∧ w.heap.size < w1.heap.size) := by
    have h1 : w1.heap[w.heap.size]? = some (.cells (cellsOf r x.v) 37 (0, 0)) := by rw [hb1.block _ (by simp)]; exact heap_alloc_new _ _
    have h2 : w.heap.size < w1.heap.size := (Array.getElem?_eq_some_iff.1 h1).1
    exact ⟨((laidIn_below w1 _).block _ h2).trans h1, h2⟩
  clear hb1
  go_wp2_with (first | (refine wpList_store_row rfl 37 _ _ rfl w1.heap.size (cellsOf o y.v) rfl rfl 37 _ (heap_alloc_new _ _) hinf rfl (cells_one _ _) ?_) | (refine wpList_load_row rfl 37 (.tmp 3) rfl w1.heap.size rfl 37 (cellsOf o y.v) (0, 0) _ (laidIn_heap _ _) Tryd.underlying37 rfl hinf ?_) | (refine wpList_load_row rfl 37 (.tmp 1) rfl w.heap.size rfl 37 (cellsOf r x.v) (0, 0) _ HK1.out.1 Tryd.underlying37 rfl hinf ?_))
  refine (HS.out (laidIn w1 (cellsOf o y.v)) (HB1.out.trans ((laidIn_below _ _).mono HB1.out.size))).mono ?_
  rintro e w2 ⟨rfl, hb2⟩
  rw [laidIn_size] at hb2
  have HB2 : Hid (Below w.heap.size w w2) := (HB1.out.trans ((laidIn_below w1 (cellsOf o y.v)).mono HB1.out.size)).trans (hb2.mono (by have := HB1.out.size; omega))
  have HK2 : Hid (Blk w2 w.heap.size r x) := (hb2.block _ (by have := HK1.out.2; omega)).trans HK1.out.1
  clear hb2
  have hq : w2.cell? ⟨w.heap.size, 1, none⟩ = some (.int .u8 (r.q.toNat : Int)) := HK2.out.box 1 _ rfl
  have hp : w2.cell? ⟨w.heap.size, 0, none⟩ = some (.int .u8 86) := by
    have h : w2.cell? ⟨w.heap.size, 0, none⟩ = some (.int .u8 (r.op.toNat : Int)) := HK2.out.box 0 _ rfl
    rw [h, HOP.out]; rfl
  go_wp2_with (first | (go_at_call 76; refine (letter_q r _).mono ?_; rintro e w' ⟨rfl, rfl⟩) | (go_at_call 78; refine (in_any _ _ _ _).mono ?_; rintro e w' ⟨rfl, rfl⟩) | (refine wpList_load_row rfl 37 (.tmp 1) rfl w.heap.size rfl 37 (cellsOf r x.v) (0, 0) _ HK2.out Tryd.underlying37 rfl hinf ?_) | (go_at_call 77; refine (rightQueue_any _ _ _).mono ?_; rintro e w3 ⟨rfl, hb3⟩))
  all_goals
    go_ret
    exact ⟨ret_bool (by simp_all <;> (intros; omega)), HB2.out⟩

set_option maxRecDepth 100000 in
set_option maxHeartbeats 2000000 in
theorem right_82 (r o : Wp.Rq) (x y : Sl) (w : World) (hop : r.op.toNat = 82) (ho : ∀ W, Calls Tryd.prog 75 #[.agg (cellsOf r x.v)] W fun e w' => e = .returned (.agg (cellsOf o y.v)) ∧ Below W.heap.size W w')
    (hs : ∀ W, Below w.heap.size w W → Calls Tryd.prog 33 #[.agg (cellsOf o y.v), .agg (cellsOf r x.v)] W fun e w' => e = .returned (.bool true) ∧ Below W.heap.size W w') :
    Calls Tryd.prog 62 #[.agg (cellsOf r x.v)] w fun e w' => e = .returned (.bool ((ltq r && (decide (1 ≤ r.mx) && decide (r.mx ≤ 10)) && decide ((r.att.size : Int) ≤ 8)))) ∧ Below w.heap.size w w' := by
  have HOP : Hid (r.op.toNat = 82) := hop
  clear hop
  have hinf := info37
  have HO : Hid (∀ W, Calls Tryd.prog 75 #[.agg (cellsOf r x.v)] W fun e w' => e = .returned (.agg (cellsOf o y.v)) ∧ Below W.heap.size W w') := ho
  have HS : Hid (∀ W, Below w.heap.size w W → Calls Tryd.prog 33 #[.agg (cellsOf o y.v), .agg (cellsOf r x.v)] W fun e w' => e = .returned (.bool true) ∧ Below W.heap.size W w') := hs
  clear ho hs
  go_enter Tryd.func62, Tryd.ntmps62
  go_wp2_with (refine wpList_load_row rfl 37 _ rfl w.heap.size rfl 37 (cellsOf r x.v) (0, 0) _ (heap_alloc_new _ _) Tryd.underlying37 rfl hinf ?_)
  refine (HO.out _).mono ?_
  rintro e w1 ⟨rfl, hb1⟩
  have HB1 : Hid (Below w.heap.size w w1) := ((Below.refl _ _).alloc (Nat.le_refl _) _).trans (hb1.mono (by simp))
  have HK1 : Hid ((laidIn w1 (cellsOf o y.v)).heap[w.heap.size]? = some (.cells (cellsOf r x.v) 37 (0, 0)) ∧ w.heap.size < w1.heap.size) := by
    have h1 : w1.heap[w.heap.size]? = some (.cells (cellsOf r x.v) 37 (0, 0)) := by rw [hb1.block _ (by simp)]; exact heap_alloc_new _ _
    have h2 : w.heap.size < w1.heap.size := (Array.getElem?_eq_some_iff.1 h1).1
    exact ⟨((laidIn_below w1 _).block _ h2).trans h1, h2⟩
  clear hb1
  go_wp2_with (first | (refine wpList_store_row rfl 37 _ _ rfl w1.heap.size (cellsOf o y.v) rfl rfl 37 _ (heap_alloc_new _ _) hinf rfl (cells_one _ _) ?_) | (refine wpList_load_row rfl 37 (.tmp 3) rfl w1.heap.size rfl 37 (cellsOf o y.v) (0, 0) _ (laidIn_heap _ _) Tryd.underlying37 rfl hinf ?_) | (refine wpList_load_row rfl 37 (.tmp 1) rfl w.heap.size rfl 37 (cellsOf r x.v) (0, 0) _ HK1.out.1 Tryd.underlying37 rfl hinf ?_))
  refine (HS.out (laidIn w1 (cellsOf o y.v)) (HB1.out.trans ((laidIn_below _ _).mono HB1.out.size))).mono ?_
  rintro e w2 ⟨rfl, hb2⟩
  rw [laidIn_size] at hb2
  have HB2 : Hid (Below w.heap.size w w2) := (HB1.out.trans ((laidIn_below w1 (cellsOf o y.v)).mono HB1.out.size)).trans (hb2.mono (by have := HB1.out.size; omega))
  have HK2 : Hid (Blk w2 w.heap.size r x) := (hb2.block _ (by have := HK1.out.2; omega)).trans HK1.out.1
  clear hb2
  have hq : w2.cell? ⟨w.heap.size, 1, none⟩ = some (.int .u8 (r.q.toNat : Int)) := HK2.out.box 1 _ rfl
  have hp : w2.cell? ⟨w.heap.size, 0, none⟩ = some (.int .u8 82) := by
    have h : w2.cell? ⟨w.heap.size, 0, none⟩ = some (.int .u8 (r.op.toNat : Int)) := HK2.out.box 0 _ rfl
    rw [h, HOP.out]; rfl
  have c7 : w2.cell? ⟨w.heap.size, 7, none⟩ = some (.int .i64 r.mx) := HK2.out.box 7 _ rfl
  have c12 : w2.cell? ⟨w.heap.size, 12, none⟩ = some (.string r.att) := HK2.out.box 12 _ rfl
  go_wp2_with (first | (go_at_call 76; refine (letter_q r _).mono ?_; rintro e w' ⟨rfl, rfl⟩) | (go_at_call 78; refine (in_any _ _ _ _).mono ?_; rintro e w' ⟨rfl, rfl⟩) | (refine wpList_load_row rfl 37 (.tmp 1) rfl w.heap.size rfl 37 (cellsOf r x.v) (0, 0) _ HK2.out Tryd.underlying37 rfl hinf ?_) | (go_at_call 77; refine (rightQueue_any _ _ _).mono ?_; rintro e w3 ⟨rfl, hb3⟩))
  all_goals
    go_ret
    exact ⟨ret_bool (by simp_all <;> (intros; omega)), HB2.out⟩
end Go.Proofs.YtbdobaapadlcjaaDoor.Ref

namespace Go.Proofs.YtbdobaapadlcjaaDoor.Ref
open Go.RowKit
set_option linter.unusedVariables false

set_option maxRecDepth 100000 in
set_option maxHeartbeats 2000000 in
theorem right_65 (r o : Wp.Rq) (x y : Sl) (w : World) (hop : r.op.toNat = 65) (ho : ∀ W, Calls Tryd.prog 75 #[.agg (cellsOf r x.v)] W fun e w' => e = .returned (.agg (cellsOf o y.v)) ∧ Below W.heap.size W w')
    (hs : ∀ W, Below w.heap.size w W → Calls Tryd.prog 33 #[.agg (cellsOf o y.v), .agg (cellsOf r x.v)] W fun e w' => e = .returned (.bool true) ∧ Below W.heap.size W w') :
    Calls Tryd.prog 62 #[.agg (cellsOf r x.v)] w fun e w' => e = .returned (.bool (decide ((r.han.size : Int) ≤ 255))) ∧ Below w.heap.size w w' := by
  have HOP : Hid (r.op.toNat = 65) := hop
  clear hop
  have hinf := info37
  have HO : Hid (∀ W, Calls Tryd.prog 75 #[.agg (cellsOf r x.v)] W fun e w' => e = .returned (.agg (cellsOf o y.v)) ∧ Below W.heap.size W w') := ho
  have HS : Hid (∀ W, Below w.heap.size w W → Calls Tryd.prog 33 #[.agg (cellsOf o y.v), .agg (cellsOf r x.v)] W fun e w' => e = .returned (.bool true) ∧ Below W.heap.size W w') := hs
  clear ho hs
  go_enter Tryd.func62, Tryd.ntmps62
  go_wp2_with (refine wpList_load_row rfl 37 _ rfl w.heap.size rfl 37 (cellsOf r x.v) (0, 0) _ (heap_alloc_new _ _) Tryd.underlying37 rfl hinf ?_)
  refine (HO.out _).mono ?_
  rintro e w1 ⟨rfl, hb1⟩
  have HB1 : Hid (Below w.heap.size w w1) := ((Below.refl _ _).alloc (Nat.le_refl _) _).trans (hb1.mono (by simp))
  have HK1 : Hid ((laidIn w1 (cellsOf o y.v)).heap[w.heap.size]? = some (.cells (cellsOf r x.v) 37 (0, 0)) ∧ w.heap.size < w1.heap.size) := by
    have h1 : w1.heap[w.heap.size]? = some (.cells (cellsOf r x.v) 37 (0, 0)) := by rw [hb1.block _ (by simp)]; exact heap_alloc_new _ _
    have h2 : w.heap.size < w1.heap.size := (Array.getElem?_eq_some_iff.1 h1).1
    exact ⟨((laidIn_below w1 _).block _ h2).trans h1, h2⟩
  clear hb1
  go_wp2_with (first | (refine wpList_store_row rfl 37 _ _ rfl w1.heap.size (cellsOf o y.v) rfl rfl 37 _ (heap_alloc_new _ _) hinf rfl (cells_one _ _) ?_) | (refine wpList_load_row rfl 37 (.tmp 3) rfl w1.heap.size rfl 37 (cellsOf o y.v) (0, 0) _ (laidIn_heap _ _) Tryd.underlying37 rfl hinf ?_) | (refine wpList_load_row rfl 37 (.tmp 1) rfl w.heap.size rfl 37 (cellsOf r x.v) (0, 0) _ HK1.out.1 Tryd.underlying37 rfl hinf ?_))
  refine (HS.out (laidIn w1 (cellsOf o y.v)) (HB1.out.trans ((laidIn_below _ _).mono HB1.out.size))).mono ?_
  rintro e w2 ⟨rfl, hb2⟩
  rw [laidIn_size] at hb2
  have HB2 : Hid (Below w.heap.size w w2) := (HB1.out.trans ((laidIn_below w1 (cellsOf o y.v)).mono HB1.out.size)).trans (hb2.mono (by have := HB1.out.size; omega))
  have HK2 : Hid (Blk w2 w.heap.size r x) := (hb2.block _ (by have := HK1.out.2; omega)).trans HK1.out.1
  clear hb2
  have hq : w2.cell? ⟨w.heap.size, 1, none⟩ = some (.int .u8 (r.q.toNat : Int)) := HK2.out.box 1 _ rfl
  have hp : w2.cell? ⟨w.heap.size, 0, none⟩ = some (.int .u8 65) := by
    have h : w2.cell? ⟨w.heap.size, 0, none⟩ = some (.int .u8 (r.op.toNat : Int)) := HK2.out.box 0 _ rfl
    rw [h, HOP.out]; rfl
  have c13 : w2.cell? ⟨w.heap.size, 13, none⟩ = some (.string r.han) := HK2.out.box 13 _ rfl
  go_wp2_with (first | (go_at_call 76; refine (letter_q r _).mono ?_; rintro e w' ⟨rfl, rfl⟩) | (go_at_call 78; refine (in_any _ _ _ _).mono ?_; rintro e w' ⟨rfl, rfl⟩) | (refine wpList_load_row rfl 37 (.tmp 1) rfl w.heap.size rfl 37 (cellsOf r x.v) (0, 0) _ HK2.out Tryd.underlying37 rfl hinf ?_) | (go_at_call 77; refine (rightQueue_any _ _ _).mono ?_; rintro e w3 ⟨rfl, hb3⟩))
  all_goals
    go_ret
    exact ⟨ret_bool (by simp_all <;> (intros; omega)), HB2.out⟩

set_option maxRecDepth 100000 in
set_option maxHeartbeats 2000000 in
theorem right_69 (r o : Wp.Rq) (x y : Sl) (w : World) (hop : r.op.toNat = 69) (ho : ∀ W, Calls Tryd.prog 75 #[.agg (cellsOf r x.v)] W fun e w' => e = .returned (.agg (cellsOf o y.v)) ∧ Below W.heap.size W w')
    (hs : ∀ W, Below w.heap.size w W → Calls Tryd.prog 33 #[.agg (cellsOf o y.v), .agg (cellsOf r x.v)] W fun e w' => e = .returned (.bool true) ∧ Below W.heap.size W w') :
    Calls Tryd.prog 62 #[.agg (cellsOf r x.v)] w fun e w' => e = .returned (.bool (((decide (0 ≤ r.tic) && decide (r.tic ≤ 1000)) && decide ((r.han.size : Int) ≤ 255)))) ∧ Below w.heap.size w w' := by
  have HOP : Hid (r.op.toNat = 69) := hop
  clear hop
  have hinf := info37
  have HO : Hid (∀ W, Calls Tryd.prog 75 #[.agg (cellsOf r x.v)] W fun e w' => e = .returned (.agg (cellsOf o y.v)) ∧ Below W.heap.size W w') := ho
  have HS : Hid (∀ W, Below w.heap.size w W → Calls Tryd.prog 33 #[.agg (cellsOf o y.v), .agg (cellsOf r x.v)] W fun e w' => e = .returned (.bool true) ∧ Below W.heap.size W w') := hs
  clear ho hs
  go_enter Tryd.func62, Tryd.ntmps62
  go_wp2_with (refine wpList_load_row rfl 37 _ rfl w.heap.size rfl 37 (cellsOf r x.v) (0, 0) _ (heap_alloc_new _ _) Tryd.underlying37 rfl hinf ?_)
  refine (HO.out _).mono ?_
  rintro e w1 ⟨rfl, hb1⟩
  have HB1 : Hid (Below w.heap.size w w1) := ((Below.refl _ _).alloc (Nat.le_refl _) _).trans (hb1.mono (by simp))
  have HK1 : Hid ((laidIn w1 (cellsOf o y.v)).heap[w.heap.size]? = some (.cells (cellsOf r x.v) 37 (0, 0)) ∧ w.heap.size < w1.heap.size) := by
    have h1 : w1.heap[w.heap.size]? = some (.cells (cellsOf r x.v) 37 (0, 0)) := by rw [hb1.block _ (by simp)]; exact heap_alloc_new _ _
    have h2 : w.heap.size < w1.heap.size := (Array.getElem?_eq_some_iff.1 h1).1
    exact ⟨((laidIn_below w1 _).block _ h2).trans h1, h2⟩
  clear hb1
  go_wp2_with (first | (refine wpList_store_row rfl 37 _ _ rfl w1.heap.size (cellsOf o y.v) rfl rfl 37 _ (heap_alloc_new _ _) hinf rfl (cells_one _ _) ?_) | (refine wpList_load_row rfl 37 (.tmp 3) rfl w1.heap.size rfl 37 (cellsOf o y.v) (0, 0) _ (laidIn_heap _ _) Tryd.underlying37 rfl hinf ?_) | (refine wpList_load_row rfl 37 (.tmp 1) rfl w.heap.size rfl 37 (cellsOf r x.v) (0, 0) _ HK1.out.1 Tryd.underlying37 rfl hinf ?_))
  refine (HS.out (laidIn w1 (cellsOf o y.v)) (HB1.out.trans ((laidIn_below _ _).mono HB1.out.size))).mono ?_
  rintro e w2 ⟨rfl, hb2⟩
  rw [laidIn_size] at hb2
  have HB2 : Hid (Below w.heap.size w w2) := (HB1.out.trans ((laidIn_below w1 (cellsOf o y.v)).mono HB1.out.size)).trans (hb2.mono (by have := HB1.out.size; omega))
  have HK2 : Hid (Blk w2 w.heap.size r x) := (hb2.block _ (by have := HK1.out.2; omega)).trans HK1.out.1
  clear hb2
  have hq : w2.cell? ⟨w.heap.size, 1, none⟩ = some (.int .u8 (r.q.toNat : Int)) := HK2.out.box 1 _ rfl
  have hp : w2.cell? ⟨w.heap.size, 0, none⟩ = some (.int .u8 69) := by
    have h : w2.cell? ⟨w.heap.size, 0, none⟩ = some (.int .u8 (r.op.toNat : Int)) := HK2.out.box 0 _ rfl
    rw [h, HOP.out]; rfl
  have c8 : w2.cell? ⟨w.heap.size, 8, none⟩ = some (.int .i64 r.tic) := HK2.out.box 8 _ rfl
  have c13 : w2.cell? ⟨w.heap.size, 13, none⟩ = some (.string r.han) := HK2.out.box 13 _ rfl
  go_wp2_with (first | (go_at_call 76; refine (letter_q r _).mono ?_; rintro e w' ⟨rfl, rfl⟩) | (go_at_call 78; refine (in_any _ _ _ _).mono ?_; rintro e w' ⟨rfl, rfl⟩) | (refine wpList_load_row rfl 37 (.tmp 1) rfl w.heap.size rfl 37 (cellsOf r x.v) (0, 0) _ HK2.out Tryd.underlying37 rfl hinf ?_) | (go_at_call 77; refine (rightQueue_any _ _ _).mono ?_; rintro e w3 ⟨rfl, hb3⟩))
  all_goals
    go_ret
    exact ⟨ret_bool (by simp_all <;> (intros; omega)), HB2.out⟩

set_option maxRecDepth 100000 in
set_option maxHeartbeats 2000000 in
theorem right_84 (r o : Wp.Rq) (x y : Sl) (w : World) (hop : r.op.toNat = 84) (ho : ∀ W, Calls Tryd.prog 75 #[.agg (cellsOf r x.v)] W fun e w' => e = .returned (.agg (cellsOf o y.v)) ∧ Below W.heap.size W w')
    (hs : ∀ W, Below w.heap.size w W → Calls Tryd.prog 33 #[.agg (cellsOf o y.v), .agg (cellsOf r x.v)] W fun e w' => e = .returned (.bool true) ∧ Below W.heap.size W w') :
    Calls Tryd.prog 62 #[.agg (cellsOf r x.v)] w fun e w' => e = .returned (.bool ((decide (1 ≤ r.tic) && decide (r.tic ≤ 1000)))) ∧ Below w.heap.size w w' := by
  have HOP : Hid (r.op.toNat = 84) := hop
  clear hop
  have hinf := info37
  have HO : Hid (∀ W, Calls Tryd.prog 75 #[.agg (cellsOf r x.v)] W fun e w' => e = .returned (.agg (cellsOf o y.v)) ∧ Below W.heap.size W w') := ho
  have HS : Hid (∀ W, Below w.heap.size w W → Calls Tryd.prog 33 #[.agg (cellsOf o y.v), .agg (cellsOf r x.v)] W fun e w' => e = .returned (.bool true) ∧ Below W.heap.size W w') := hs
  clear ho hs
  go_enter Tryd.func62, Tryd.ntmps62
  go_wp2_with (refine wpList_load_row rfl 37 _ rfl w.heap.size rfl 37 (cellsOf r x.v) (0, 0) _ (heap_alloc_new _ _) Tryd.underlying37 rfl hinf ?_)
  refine (HO.out _).mono ?_
  rintro e w1 ⟨rfl, hb1⟩
  have HB1 : Hid (Below w.heap.size w w1) := ((Below.refl _ _).alloc (Nat.le_refl _) _).trans (hb1.mono (by simp))
  have HK1 : Hid ((laidIn w1 (cellsOf o y.v)).heap[w.heap.size]? = some (.cells (cellsOf r x.v) 37 (0, 0)) ∧ w.heap.size < w1.heap.size) := by
    have h1 : w1.heap[w.heap.size]? = some (.cells (cellsOf r x.v) 37 (0, 0)) := by rw [hb1.block _ (by simp)]; exact heap_alloc_new _ _
    have h2 : w.heap.size < w1.heap.size := (Array.getElem?_eq_some_iff.1 h1).1
    exact ⟨((laidIn_below w1 _).block _ h2).trans h1, h2⟩
  clear hb1
  go_wp2_with (first | (refine wpList_store_row rfl 37 _ _ rfl w1.heap.size (cellsOf o y.v) rfl rfl 37 _ (heap_alloc_new _ _) hinf rfl (cells_one _ _) ?_) | (refine wpList_load_row rfl 37 (.tmp 3) rfl w1.heap.size rfl 37 (cellsOf o y.v) (0, 0) _ (laidIn_heap _ _) Tryd.underlying37 rfl hinf ?_) | (refine wpList_load_row rfl 37 (.tmp 1) rfl w.heap.size rfl 37 (cellsOf r x.v) (0, 0) _ HK1.out.1 Tryd.underlying37 rfl hinf ?_))
  refine (HS.out (laidIn w1 (cellsOf o y.v)) (HB1.out.trans ((laidIn_below _ _).mono HB1.out.size))).mono ?_
  rintro e w2 ⟨rfl, hb2⟩
  rw [laidIn_size] at hb2
  have HB2 : Hid (Below w.heap.size w w2) := (HB1.out.trans ((laidIn_below w1 (cellsOf o y.v)).mono HB1.out.size)).trans (hb2.mono (by have := HB1.out.size; omega))
  have HK2 : Hid (Blk w2 w.heap.size r x) := (hb2.block _ (by have := HK1.out.2; omega)).trans HK1.out.1
  clear hb2
  have hq : w2.cell? ⟨w.heap.size, 1, none⟩ = some (.int .u8 (r.q.toNat : Int)) := HK2.out.box 1 _ rfl
  have hp : w2.cell? ⟨w.heap.size, 0, none⟩ = some (.int .u8 84) := by
    have h : w2.cell? ⟨w.heap.size, 0, none⟩ = some (.int .u8 (r.op.toNat : Int)) := HK2.out.box 0 _ rfl
    rw [h, HOP.out]; rfl
  have c8 : w2.cell? ⟨w.heap.size, 8, none⟩ = some (.int .i64 r.tic) := HK2.out.box 8 _ rfl
  go_wp2_with (first | (go_at_call 76; refine (letter_q r _).mono ?_; rintro e w' ⟨rfl, rfl⟩) | (go_at_call 78; refine (in_any _ _ _ _).mono ?_; rintro e w' ⟨rfl, rfl⟩) | (refine wpList_load_row rfl 37 (.tmp 1) rfl w.heap.size rfl 37 (cellsOf r x.v) (0, 0) _ HK2.out Tryd.underlying37 rfl hinf ?_) | (go_at_call 77; refine (rightQueue_any _ _ _).mono ?_; rintro e w3 ⟨rfl, hb3⟩))
  all_goals
    go_ret
    exact ⟨ret_bool (by simp_all <;> (intros; omega)), HB2.out⟩
end Go.Proofs.YtbdobaapadlcjaaDoor.Ref

namespace Go.Proofs.YtbdobaapadlcjaaDoor.Ref
open Go.RowKit
set_option linter.unusedVariables false

set_option maxRecDepth 100000 in
set_option maxHeartbeats 2000000 in
theorem right_none (r o : Wp.Rq) (x y : Sl) (w : World) (n : Nat) (hn : r.op.toNat = n) (h : n ≠ 67 ∧ n ≠ 88 ∧ n ≠ 80 ∧ n ≠ 86 ∧ n ≠ 83 ∧ n ≠ 82 ∧ n ≠ 65 ∧ n ≠ 69 ∧ n ≠ 84 ∧ n ≠ 66) (ho : ∀ W, Calls Tryd.prog 75 #[.agg (cellsOf r x.v)] W fun e w' => e = .returned (.agg (cellsOf o y.v)) ∧ Below W.heap.size W w')
    (hs : ∀ W, Below w.heap.size w W → Calls Tryd.prog 33 #[.agg (cellsOf o y.v), .agg (cellsOf r x.v)] W fun e w' => e = .returned (.bool true) ∧ Below W.heap.size W w') :
    Calls Tryd.prog 62 #[.agg (cellsOf r x.v)] w fun e w' => e = .returned (.bool (false)) ∧ Below w.heap.size w w' := by
  obtain ⟨h67, h88, h80, h86, h83, h82, h65, h69, h84, h66⟩ := h
  have HOP : Hid (r.op.toNat = n) := hn
  have g67 : (((n : Nat) : Int) == 67) = false := hne n 67 h67
  have g88 : (((n : Nat) : Int) == 88) = false := hne n 88 h88
  have g80 : (((n : Nat) : Int) == 80) = false := hne n 80 h80
  have g86 : (((n : Nat) : Int) == 86) = false := hne n 86 h86
  have g83 : (((n : Nat) : Int) == 83) = false := hne n 83 h83
  have g82 : (((n : Nat) : Int) == 82) = false := hne n 82 h82
  have g65 : (((n : Nat) : Int) == 65) = false := hne n 65 h65
  have g69 : (((n : Nat) : Int) == 69) = false := hne n 69 h69
  have g84 : (((n : Nat) : Int) == 84) = false := hne n 84 h84
  have g66 : (((n : Nat) : Int) == 66) = false := hne n 66 h66
  clear hn h67 h88 h80 h86 h83 h82 h65 h69 h84 h66
  have hinf := info37
  have HO : Hid (∀ W, Calls Tryd.prog 75 #[.agg (cellsOf r x.v)] W fun e w' => e = .returned (.agg (cellsOf o y.v)) ∧ Below W.heap.size W w') := ho
  have HS : Hid (∀ W, Below w.heap.size w W → Calls Tryd.prog 33 #[.agg (cellsOf o y.v), .agg (cellsOf r x.v)] W fun e w' => e = .returned (.bool true) ∧ Below W.heap.size W w') := hs
  clear ho hs
  go_enter Tryd.func62, Tryd.ntmps62
  go_wp2_with (refine wpList_load_row rfl 37 _ rfl w.heap.size rfl 37 (cellsOf r x.v) (0, 0) _ (heap_alloc_new _ _) Tryd.underlying37 rfl hinf ?_)
  refine (HO.out _).mono ?_
  rintro e w1 ⟨rfl, hb1⟩
  have HB1 : Hid (Below w.heap.size w w1) := ((Below.refl _ _).alloc (Nat.le_refl _) _).trans (hb1.mono (by simp))
  have HK1 : Hid ((laidIn w1 (cellsOf o y.v)).heap[w.heap.size]? = some (.cells (cellsOf r x.v) 37 (0, 0)) ∧ w.heap.size < w1.heap.size) := by
    have h1 : w1.heap[w.heap.size]? = some (.cells (cellsOf r x.v) 37 (0, 0)) := by rw [hb1.block _ (by simp)]; exact heap_alloc_new _ _
    have h2 : w.heap.size < w1.heap.size := (Array.getElem?_eq_some_iff.1 h1).1
    exact ⟨((laidIn_below w1 _).block _ h2).trans h1, h2⟩
  clear hb1
  go_wp2_with (first | (refine wpList_store_row rfl 37 _ _ rfl w1.heap.size (cellsOf o y.v) rfl rfl 37 _ (heap_alloc_new _ _) hinf rfl (cells_one _ _) ?_) | (refine wpList_load_row rfl 37 (.tmp 3) rfl w1.heap.size rfl 37 (cellsOf o y.v) (0, 0) _ (laidIn_heap _ _) Tryd.underlying37 rfl hinf ?_) | (refine wpList_load_row rfl 37 (.tmp 1) rfl w.heap.size rfl 37 (cellsOf r x.v) (0, 0) _ HK1.out.1 Tryd.underlying37 rfl hinf ?_))
  refine (HS.out (laidIn w1 (cellsOf o y.v)) (HB1.out.trans ((laidIn_below _ _).mono HB1.out.size))).mono ?_
  rintro e w2 ⟨rfl, hb2⟩
  rw [laidIn_size] at hb2
  have HB2 : Hid (Below w.heap.size w w2) := (HB1.out.trans ((laidIn_below w1 (cellsOf o y.v)).mono HB1.out.size)).trans (hb2.mono (by have := HB1.out.size; omega))
  have HK2 : Hid (Blk w2 w.heap.size r x) := (hb2.block _ (by have := HK1.out.2; omega)).trans HK1.out.1
  clear hb2
  have hq : w2.cell? ⟨w.heap.size, 1, none⟩ = some (.int .u8 (r.q.toNat : Int)) := HK2.out.box 1 _ rfl
  have hp : w2.cell? ⟨w.heap.size, 0, none⟩ = some (.int .u8 (n : Int)) := by
    have h : w2.cell? ⟨w.heap.size, 0, none⟩ = some (.int .u8 (r.op.toNat : Int)) := HK2.out.box 0 _ rfl
    rw [h, HOP.out]
  go_wp2_with (go_at_call 76; refine (letter_q r _).mono ?_; rintro e w' ⟨rfl, rfl⟩)
  go_ret
  exact ⟨rfl, HB2.out⟩

set_option maxRecDepth 100000 in
set_option maxHeartbeats 2000000 in
theorem right_66 (r o : Wp.Rq) (x y : Sl) (w : World) (bs : List ByteArray) (hop : r.op.toNat = 66) (hxn : x.n = bs.length) (hb : bs.length ≤ 8796093022208) (hbs : ∀ s ∈ bs, s.size ≤ maxLen) (hS : Strs w x.a bs) (ho : ∀ W, Calls Tryd.prog 75 #[.agg (cellsOf r x.v)] W fun e w' => e = .returned (.agg (cellsOf o y.v)) ∧ Below W.heap.size W w')
    (hs : ∀ W, Below w.heap.size w W → Calls Tryd.prog 33 #[.agg (cellsOf o y.v), .agg (cellsOf r x.v)] W fun e w' => e = .returned (.bool true) ∧ Below W.heap.size W w') :
    Calls Tryd.prog 62 #[.agg (cellsOf r x.v)] w fun e w' => e = .returned (.bool (Wp.short bs && (decide (1 ≤ bs.length) && decide (bs.length ≤ 10)))) ∧ Below w.heap.size w w' := by
  have HOP : Hid (r.op.toNat = 66) := hop
  have HBT : Hid (∀ W, Below w.heap.size w W → Calls Tryd.prog 79 #[.slice x.a x.n x.c] W fun e w' => e = .returned (.bool (Wp.short bs && (decide (1 ≤ bs.length) && decide (bs.length ≤ 10)))) ∧ w' = W) := fun W hW => by
    have h := rightBatch_any x.a x.c bs W hb hbs (hS.below hW)
    rw [← hxn] at h ⊢
    exact h
  clear hop hxn hb hbs hS
  have hinf := info37
  have HO : Hid (∀ W, Calls Tryd.prog 75 #[.agg (cellsOf r x.v)] W fun e w' => e = .returned (.agg (cellsOf o y.v)) ∧ Below W.heap.size W w') := ho
  have HS : Hid (∀ W, Below w.heap.size w W → Calls Tryd.prog 33 #[.agg (cellsOf o y.v), .agg (cellsOf r x.v)] W fun e w' => e = .returned (.bool true) ∧ Below W.heap.size W w') := hs
  clear ho hs
  go_enter Tryd.func62, Tryd.ntmps62
  go_wp2_with (refine wpList_load_row rfl 37 _ rfl w.heap.size rfl 37 (cellsOf r x.v) (0, 0) _ (heap_alloc_new _ _) Tryd.underlying37 rfl hinf ?_)
  refine (HO.out _).mono ?_
  rintro e w1 ⟨rfl, hb1⟩
  have HB1 : Hid (Below w.heap.size w w1) := ((Below.refl _ _).alloc (Nat.le_refl _) _).trans (hb1.mono (by simp))
  have HK1 : Hid ((laidIn w1 (cellsOf o y.v)).heap[w.heap.size]? = some (.cells (cellsOf r x.v) 37 (0, 0)) ∧ w.heap.size < w1.heap.size) := by
    have h1 : w1.heap[w.heap.size]? = some (.cells (cellsOf r x.v) 37 (0, 0)) := by rw [hb1.block _ (by simp)]; exact heap_alloc_new _ _
    have h2 : w.heap.size < w1.heap.size := (Array.getElem?_eq_some_iff.1 h1).1
    exact ⟨((laidIn_below w1 _).block _ h2).trans h1, h2⟩
  clear hb1
  go_wp2_with (first | (refine wpList_store_row rfl 37 _ _ rfl w1.heap.size (cellsOf o y.v) rfl rfl 37 _ (heap_alloc_new _ _) hinf rfl (cells_one _ _) ?_) | (refine wpList_load_row rfl 37 (.tmp 3) rfl w1.heap.size rfl 37 (cellsOf o y.v) (0, 0) _ (laidIn_heap _ _) Tryd.underlying37 rfl hinf ?_) | (refine wpList_load_row rfl 37 (.tmp 1) rfl w.heap.size rfl 37 (cellsOf r x.v) (0, 0) _ HK1.out.1 Tryd.underlying37 rfl hinf ?_))
  refine (HS.out (laidIn w1 (cellsOf o y.v)) (HB1.out.trans ((laidIn_below _ _).mono HB1.out.size))).mono ?_
  rintro e w2 ⟨rfl, hb2⟩
  rw [laidIn_size] at hb2
  have HB2 : Hid (Below w.heap.size w w2) := (HB1.out.trans ((laidIn_below w1 (cellsOf o y.v)).mono HB1.out.size)).trans (hb2.mono (by have := HB1.out.size; omega))
  have HK2 : Hid (Blk w2 w.heap.size r x) := (hb2.block _ (by have := HK1.out.2; omega)).trans HK1.out.1
  clear hb2
  have hq : w2.cell? ⟨w.heap.size, 1, none⟩ = some (.int .u8 (r.q.toNat : Int)) := HK2.out.box 1 _ rfl
  have hp : w2.cell? ⟨w.heap.size, 0, none⟩ = some (.int .u8 66) := by
    have h : w2.cell? ⟨w.heap.size, 0, none⟩ = some (.int .u8 (r.op.toNat : Int)) := HK2.out.box 0 _ rfl
    rw [h, HOP.out]; rfl
  have c14 : w2.cell? ⟨w.heap.size, 14, none⟩ = some (.slice x.a x.n x.c) := HK2.out.box 14 _ rfl
  have HBT2 : Hid (Calls Tryd.prog 79 #[.slice x.a x.n x.c] w2 fun e w' => e = .returned (.bool (Wp.short bs && (decide (1 ≤ bs.length) && decide (bs.length ≤ 10)))) ∧ w' = w2) := HBT.out w2 HB2.out
  clear HBT
  go_wp2_with (first | (go_at_call 76; refine (letter_q r _).mono ?_; rintro e w' ⟨rfl, rfl⟩) | (go_at_call 79; refine (HBT2.out).mono ?_; rintro e w' ⟨rfl, rfl⟩))
  go_ret
  exact ⟨rfl, HB2.out⟩
end Go.Proofs.YtbdobaapadlcjaaDoor.Ref

namespace Go.Proofs.YtbdobaapadlcjaaDoor.Ref
open Go.RowKit
set_option linter.unusedVariables false

set_option maxRecDepth 100000 in
set_option maxHeartbeats 2000000 in
theorem right_83 (r o : Wp.Rq) (x y : Sl) (w : World) (hop : r.op.toNat = 83) (ho : ∀ W, Calls Tryd.prog 75 #[.agg (cellsOf r x.v)] W fun e w' => e = .returned (.agg (cellsOf o y.v)) ∧ Below W.heap.size W w')
    (hs : ∀ W, Below w.heap.size w W → Calls Tryd.prog 33 #[.agg (cellsOf o y.v), .agg (cellsOf r x.v)] W fun e w' => e = .returned (.bool true) ∧ Below W.heap.size W w') :
    Calls Tryd.prog 62 #[.agg (cellsOf r x.v)] w fun e w' => e = .returned (.bool (ltq r && (decide (1 ≤ (r.grp.size : Int)) && decide ((r.grp.size : Int) ≤ 8)) && (decide (r.ded.size ≤ 8) && Wp.dedOk r.ded) && decide ((r.bod.size : Int) ≤ 255))) ∧ Below w.heap.size w w' := by
  have HOP : Hid (r.op.toNat = 83) := hop
  clear hop
  have hinf := info37
  have HO : Hid (∀ W, Calls Tryd.prog 75 #[.agg (cellsOf r x.v)] W fun e w' => e = .returned (.agg (cellsOf o y.v)) ∧ Below W.heap.size W w') := ho
  have HS : Hid (∀ W, Below w.heap.size w W → Calls Tryd.prog 33 #[.agg (cellsOf o y.v), .agg (cellsOf r x.v)] W fun e w' => e = .returned (.bool true) ∧ Below W.heap.size W w') := hs
  clear ho hs
  go_enter Tryd.func62, Tryd.ntmps62
  go_wp2_with (refine wpList_load_row rfl 37 _ rfl w.heap.size rfl 37 (cellsOf r x.v) (0, 0) _ (heap_alloc_new _ _) Tryd.underlying37 rfl hinf ?_)
  refine (HO.out _).mono ?_
  rintro e w1 ⟨rfl, hb1⟩
  have HB1 : Hid (Below w.heap.size w w1) := ((Below.refl _ _).alloc (Nat.le_refl _) _).trans (hb1.mono (by simp))
  have HK1 : Hid ((laidIn w1 (cellsOf o y.v)).heap[w.heap.size]? = some (.cells (cellsOf r x.v) 37 (0, 0)) ∧ w.heap.size < w1.heap.size) := by
    have h1 : w1.heap[w.heap.size]? = some (.cells (cellsOf r x.v) 37 (0, 0)) := by rw [hb1.block _ (by simp)]; exact heap_alloc_new _ _
    have h2 : w.heap.size < w1.heap.size := (Array.getElem?_eq_some_iff.1 h1).1
    exact ⟨((laidIn_below w1 _).block _ h2).trans h1, h2⟩
  clear hb1
  go_wp2_with (first | (refine wpList_store_row rfl 37 _ _ rfl w1.heap.size (cellsOf o y.v) rfl rfl 37 _ (heap_alloc_new _ _) hinf rfl (cells_one _ _) ?_) | (refine wpList_load_row rfl 37 (.tmp 3) rfl w1.heap.size rfl 37 (cellsOf o y.v) (0, 0) _ (laidIn_heap _ _) Tryd.underlying37 rfl hinf ?_) | (refine wpList_load_row rfl 37 (.tmp 1) rfl w.heap.size rfl 37 (cellsOf r x.v) (0, 0) _ HK1.out.1 Tryd.underlying37 rfl hinf ?_))
  refine (HS.out (laidIn w1 (cellsOf o y.v)) (HB1.out.trans ((laidIn_below _ _).mono HB1.out.size))).mono ?_
  rintro e w2 ⟨rfl, hb2⟩
  rw [laidIn_size] at hb2
  have HB2 : Hid (Below w.heap.size w w2) := (HB1.out.trans ((laidIn_below w1 (cellsOf o y.v)).mono HB1.out.size)).trans (hb2.mono (by have := HB1.out.size; omega))
  have HK2 : Hid (Blk w2 w.heap.size r x) := (hb2.block _ (by have := HK1.out.2; omega)).trans HK1.out.1
  clear hb2
  have hq : w2.cell? ⟨w.heap.size, 1, none⟩ = some (.int .u8 (r.q.toNat : Int)) := HK2.out.box 1 _ rfl
  have hp : w2.cell? ⟨w.heap.size, 0, none⟩ = some (.int .u8 83) := by
    have h : w2.cell? ⟨w.heap.size, 0, none⟩ = some (.int .u8 (r.op.toNat : Int)) := HK2.out.box 0 _ rfl
    rw [h, HOP.out]; rfl
  have c9 : w2.cell? ⟨w.heap.size, 9, none⟩ = some (.string r.grp) := HK2.out.box 9 _ rfl
  have c10 : w2.cell? ⟨w.heap.size, 10, none⟩ = some (.string r.ded) := HK2.out.box 10 _ rfl
  have c11 : w2.cell? ⟨w.heap.size, 11, none⟩ = some (.string r.bod) := HK2.out.box 11 _ rfl
  by_cases h0 : r.ded.size = 0
  · have e0 : (((r.ded.size : Nat) : Int) == 0) = true := by rw [h0]; rfl
    have HD : Hid ((decide (r.ded.size ≤ 8) && Wp.dedOk r.ded) = true) := by
      show _ = _
      rw [h0, Wp.dedOk, dif_neg (by omega)]; rfl
    go_wp2_with (first | (go_at_call 76; refine (letter_q r _).mono ?_; rintro e w' ⟨rfl, rfl⟩) | (go_at_call 78; refine (in_any _ _ _ _).mono ?_; rintro e w' ⟨rfl, rfl⟩))
    all_goals
      go_ret
      exact ⟨ret_bool (by first | rfl | (rw [HD.out]; simp_all <;> (intros; omega)) | (simp_all <;> (intros; omega))), HB2.out⟩
  · have e0 : (((r.ded.size : Nat) : Int) == 0) = false := beq_eq_false_iff_ne.2 (by omega)
    by_cases h8 : r.ded.size ≤ 8
    · have hz : 0 < r.ded.size := by omega
      have HD : Hid ((decide (r.ded.size ≤ 8) && Wp.dedOk r.ded) = (((r.ded[0].toNat : Nat) : Int) != 0)) := by
        show _ = _
        rw [Wp.dedOk, dif_pos hz, decide_eq_true h8, Bool.true_and, Bool.eq_iff_iff]
        simp only [bne_iff_ne, ne_eq]
        exact not_congr ⟨fun h => by rw [h]; rfl, fun h => UInt8.toNat_inj.1 (by have : r.ded[0].toNat = 0 := by omega
                                                                                 exact this)⟩
      go_wp2_with (first | (go_at_call 76; refine (letter_q r _).mono ?_; rintro e w' ⟨rfl, rfl⟩) | (go_at_call 78; refine (in_any _ _ _ _).mono ?_; rintro e w' ⟨rfl, rfl⟩))
      all_goals
        go_ret
        exact ⟨ret_bool (by first | rfl | (rw [HD.out]; simp_all <;> (intros; omega)) | (simp_all <;> (intros; omega))), HB2.out⟩
    · have HD : Hid ((decide (r.ded.size ≤ 8) && Wp.dedOk r.ded) = false) := by
        show _ = _
        rw [decide_eq_false h8]; rfl
      go_wp2_with (first | (go_at_call 76; refine (letter_q r _).mono ?_; rintro e w' ⟨rfl, rfl⟩) | (go_at_call 78; refine (in_any _ _ _ _).mono ?_; rintro e w' ⟨rfl, rfl⟩))
      all_goals
        go_ret
        exact ⟨ret_bool (by first | rfl | (rw [HD.out]; simp_all <;> (intros; omega)) | (simp_all <;> (intros; omega))), HB2.out⟩
end Go.Proofs.YtbdobaapadlcjaaDoor.Ref
