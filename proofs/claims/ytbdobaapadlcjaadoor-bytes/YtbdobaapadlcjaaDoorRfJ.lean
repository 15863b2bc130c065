/-
  THE WALKS of package wharfref's written (63), Op by Op.
-/
import Derived.Test.YtbdobaapadlcjaaDoorRfB
import Derived.Test.YtbdobaapadlcjaaDoorBackE
namespace Go.Proofs.YtbdobaapadlcjaaDoor.Ref
open Go.RowKit
set_option linter.unusedVariables false

/-- One byte as a string. -/
def b1 (c : UInt8) : ByteArray := ⟨#[c]⟩
theorem conv_one (W : World) (g : Nat) (c : UInt8) (hg : g = W.heap.size) : (convert 48 9 (.slice (some ⟨g, 0, none⟩) 1 1)).run Tryd.prog (W.alloc (.cells #[.int .u8 (c.toNat : Int)] 5)) = .ok (.string (b1 c)) (W.alloc (.cells #[.int .u8 (c.toNat : Int)] 5)) := by
  subst hg
  refine run_convert_bytes_back (P := Tryd.prog) _ 48 9 5 ⟨W.heap.size, 0, none⟩ 1 [c] Tryd.underlying48 Tryd.underlying5 Tryd.underlying9 ?_
  intro j hj
  obtain rfl : j = 0 := by simp at hj; omega
  exact cell_one_new _ _ _ 0 _ rfl
theorem lowS_size (n k : Nat) : (⟨(lowB n k).toArray⟩ : ByteArray).size = k := by show (lowB n k).toArray.size = k; simp [lowB_length]
theorem belowJ3 (w : World) (A B C : Obj) : Below w.heap.size w (((w.alloc A).alloc B).alloc C) :=
  (((Below.refl _ _).alloc (Nat.le_refl _) _).alloc (by simp) _).alloc (by simp; omega) _
theorem heap3a (w : World) (A B C : Obj) : (((w.alloc A).alloc B).alloc C).heap[w.heap.size]? = some A := by
  rw [Below.heap_alloc _ _ _ (by simp; omega), heap_alloc2_old]
end Go.Proofs.YtbdobaapadlcjaaDoor.Ref
