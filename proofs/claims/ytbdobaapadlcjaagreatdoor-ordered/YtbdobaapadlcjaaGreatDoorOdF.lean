/-
  THE CLOSED FACTS of Ordered's row (alone in a text, for they want much memory).
-/
import Derived.Test.YtbdobaapadlcjaaGreatDoorCards
import Derived.Test.YtbdobaapadlcjaaGreatDoorTie
import Derived.WalkKit
import Derived.ProofKit
namespace Go.Proofs.YtbdobaapadlcjaaGreatDoor.od
theorem closed : joinedFacts Tryz.pinned.checked.prog 4 Tryz.f4 (OpenSpec.ofChange Rows.orderedSpec).bare Rows.orderedRow = true := by kernel_rfl
end Go.Proofs.YtbdobaapadlcjaaGreatDoor.od
