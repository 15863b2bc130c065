/-
  THE CLOSED FACTS of Small's row (alone in a text, for they want much memory).
-/
import Derived.Test.YtbdobaapadlcjabGreatDoorCards
import Derived.Test.YtbdobaapadlcjabGreatDoorTie
import Derived.WalkKit
import Derived.ProofKit
namespace Go.Proofs.YtbdobaapadlcjabGreatDoor.sm
theorem closed : joinedFacts Tryz.pinned.checked.prog 6 Tryz.f6 (OpenSpec.ofChange Rows.smallSpec).bare Rows.smallRow = true := by kernel_rfl
end Go.Proofs.YtbdobaapadlcjabGreatDoor.sm
