/-
  WHAT the walks of package wharfref's only (72) share.
-/
import Derived.Test.YtbdobaapadlcjaaDoorRfB
import Derived.Test.YtbdobaapadlcjaaDoorBackE
namespace Go.Proofs.YtbdobaapadlcjaaDoor.Ref
open Go.RowKit
set_option linter.unusedVariables false

theorem below3 (w : World) (A B C : Obj) : Below w.heap.size w (((w.alloc A).alloc B).alloc C) :=
  (((Below.refl _ _).alloc (Nat.le_refl _) _).alloc (by simp) _).alloc (by simp; omega) _
theorem heap3 (w : World) (A B C : Obj) : (((w.alloc A).alloc B).alloc C).heap[w.heap.size + 1]? = some B := by
  rw [Below.heap_alloc _ _ _ (by simp), heap_alloc2_new]
end Go.Proofs.YtbdobaapadlcjaaDoor.Ref
