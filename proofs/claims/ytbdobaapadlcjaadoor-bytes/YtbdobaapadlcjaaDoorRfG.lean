/-
  THE WALKS of package wharfref's Right (62).
-/
import Derived.Test.YtbdobaapadlcjaaDoorRfF
import Derived.Test.YtbdobaapadlcjaaDoorRfE
namespace Go.Proofs.YtbdobaapadlcjaaDoor.Ref
open Go.RowKit
set_option linter.unusedVariables false

/-- A request laid in a block of its own. -/
def laidIn (w : World) (C : Array Value) : World := (w.alloc (.cells (cellsOf (opR 0) (Sl.v ⟨none, 0, 0⟩)) 37)).setRow w.heap.size C
theorem laidIn_heap (w : World) (C : Array Value) : (laidIn w C).heap[w.heap.size]? = some (.cells C 37 (0, 0)) := setRow_heap _ _ _ _ 37 (0, 0) (heap_alloc_new _ _)
theorem laidIn_below (w : World) (C : Array Value) : Below w.heap.size w (laidIn w C) := Go.Proofs.YtbdobaapadlcjaaDoor.below_setRow ((Below.refl _ _).alloc (Nat.le_refl _) _) (Nat.le_refl _) _
theorem laidIn_size (w : World) (C : Array Value) : (laidIn w C).heap.size = w.heap.size + 1 := by simp [laidIn]

set_option maxRecDepth 100000 in
set_option maxHeartbeats 2000000 in
theorem right_no (r o : Wp.Rq) (x y : Sl) (w : World) (ho : ∀ W, Calls Tryd.prog 75 #[.agg (cellsOf r x.v)] W fun e w' => e = .returned (.agg (cellsOf o y.v)) ∧ Below W.heap.size W w')
    (hs : ∀ W, Below w.heap.size w W → Calls Tryd.prog 33 #[.agg (cellsOf o y.v), .agg (cellsOf r x.v)] W fun e w' => e = .returned (.bool false) ∧ Below W.heap.size W w') :
    Calls Tryd.prog 62 #[.agg (cellsOf r x.v)] w fun e w' => e = .returned (.bool false) ∧ Below w.heap.size w w' := by
  have hinf := info37
  have HO : Hid (∀ W, Calls Tryd.prog 75 #[.agg (cellsOf r x.v)] W fun e w' => e = .returned (.agg (cellsOf o y.v)) ∧ Below W.heap.size W w') := ho
  have HS : Hid (∀ W, Below w.heap.size w W → Calls Tryd.prog 33 #[.agg (cellsOf o y.v), .agg (cellsOf r x.v)] W fun e w' => e = .returned (.bool false) ∧ Below W.heap.size W w') := hs
  clear ho hs
  go_enter Tryd.func62, Tryd.ntmps62
  go_wp2_with (refine wpList_load_row rfl 37 _ rfl w.heap.size rfl 37 (cellsOf r x.v) (0, 0) _ (heap_alloc_new _ _) Tryd.underlying37 rfl hinf ?_)
  refine (HO.out _).mono ?_
  rintro e w1 ⟨rfl, hb1⟩
  have HB1 : Hid (Below w.heap.size w w1) := ((Below.refl _ _).alloc (Nat.le_refl _) _).trans (hb1.mono (by simp))
  have HK1 : Hid ((laidIn w1 (cellsOf o y.v)).heap[w.heap.size]? = some (.cells (cellsOf r x.v) 37 (0, 0)) ∧ w.heap.size < w1.heap.size) := by
    have h1 : w1.heap[w.heap.size]? = some (.cells (cellsOf r x.v) 37 (0, 0)) := by rw [hb1.block _ (by simp)]; exact heap_alloc_new _ _
    have h2 : w.heap.size < w1.heap.size := (Array.getElem?_eq_some_iff.1 h1).1
    exact ⟨((laidIn_below w1 _).block _ h2).trans h1, h2⟩
  clear hb1
  go_wp2_with (first | (refine wpList_store_row rfl 37 _ _ rfl w1.heap.size (cellsOf o y.v) rfl rfl 37 _ (heap_alloc_new _ _) hinf rfl (cells_one _ _) ?_) | (refine wpList_load_row rfl 37 (.tmp 3) rfl w1.heap.size rfl 37 (cellsOf o y.v) (0, 0) _ (laidIn_heap _ _) Tryd.underlying37 rfl hinf ?_) | (refine wpList_load_row rfl 37 (.tmp 1) rfl w.heap.size rfl 37 (cellsOf r x.v) (0, 0) _ HK1.out.1 Tryd.underlying37 rfl hinf ?_))
  refine (HS.out (laidIn w1 (cellsOf o y.v)) (HB1.out.trans ((laidIn_below _ _).mono HB1.out.size))).mono ?_
  rintro e w2 ⟨rfl, hb2⟩
  rw [laidIn_size] at hb2
  have HB2 : Hid (Below w.heap.size w w2) := (HB1.out.trans ((laidIn_below w1 (cellsOf o y.v)).mono HB1.out.size)).trans (hb2.mono (by have := HB1.out.size; omega))
  have HK2 : Hid (Blk w2 w.heap.size r x) := (hb2.block _ (by have := HK1.out.2; omega)).trans HK1.out.1
  clear hb2
  have hq := HK2.out.box 1 _ rfl
  go_wp2_with (go_at_call 76; refine (letter_any _ _).mono ?_; rintro e w' ⟨rfl, rfl⟩)
  go_ret
  exact ⟨rfl, HB2.out⟩

def ltq (r : Wp.Rq) : Bool := decide (97 ≤ r.q.toNat) && decide (r.q.toNat ≤ 104)
theorem letter_q (r : Wp.Rq) (w : World) : Calls Tryd.prog 76 #[.int .u8 (r.q.toNat : Int)] w fun e w' => e = .returned (.bool (ltq r)) ∧ w' = w := letter_any r.q w
end Go.Proofs.YtbdobaapadlcjaaDoor.Ref
