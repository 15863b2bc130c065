/-
  THE CLOSED FACTS of Halted's row (alone in a text, for they want much memory).
-/
import Derived.Test.YtbdobaapadlcjabGreatDoorCards
import Derived.Test.YtbdobaapadlcjabGreatDoorTie
import Derived.WalkKit
import Derived.ProofKit
namespace Go.Proofs.YtbdobaapadlcjabGreatDoor.ha
theorem closed : joinedFacts Tryz.pinned.checked.prog 5 Tryz.f5 (OpenSpec.ofChange Rows.haltedSpec).bare Rows.haltedRow = true := by kernel_rfl
end Go.Proofs.YtbdobaapadlcjabGreatDoor.ha
