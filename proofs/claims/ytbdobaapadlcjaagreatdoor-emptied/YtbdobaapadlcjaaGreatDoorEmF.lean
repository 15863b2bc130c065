/-
  THE CLOSED FACTS of Emptied's row (alone in a text, for they want much memory).
-/
import Derived.Test.YtbdobaapadlcjaaGreatDoorCards
import Derived.Test.YtbdobaapadlcjaaGreatDoorTie
import Derived.WalkKit
import Derived.ProofKit
namespace Go.Proofs.YtbdobaapadlcjaaGreatDoor.em
theorem closed : joinedFacts Tryz.pinned.checked.prog 7 Tryz.f7 (OpenSpec.ofChange Rows.emptiedSpec).bare Rows.emptiedRow = true := by kernel_rfl
end Go.Proofs.YtbdobaapadlcjaaGreatDoor.em
