import Derived.Test.YtbdobaapadlcjaaGreatDoorCards
import Derived.Test.YtbdobaapadlcjaaGreatDoorTie
import Derived.WalkKit
import Derived.ProofKit
set_option linter.unusedVariables false
set_option linter.unusedSimpArgs false
namespace Go.Proofs.YtbdobaapadlcjaaGreatDoor.bt
theorem b6j:joinedFacts Tryz.pinned.checked.prog 9 Tryz.f9 (OpenSpec.ofChange Rows.batchesSpec).bare Rows.batchesRow=true:=by kernel_rfl
end Go.Proofs.YtbdobaapadlcjaaGreatDoor.bt
