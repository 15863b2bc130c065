/-
  THE CLOSED FACTS of Reopened's row (alone in a text, for they want much memory).
-/
import Derived.Test.YtbdobaapadlcjabGreatDoorCards
import Derived.Test.YtbdobaapadlcjabGreatDoorTie
import Derived.WalkKit
import Derived.ProofKit
namespace Go.Proofs.YtbdobaapadlcjabGreatDoor.ro
theorem closed : joinedFacts Tryz.pinned.checked.prog 4 Tryz.f4 (OpenSpec.ofChange Rows.reopenedSpec).bare Rows.reopenedRow = true := by kernel_rfl
end Go.Proofs.YtbdobaapadlcjabGreatDoor.ro
