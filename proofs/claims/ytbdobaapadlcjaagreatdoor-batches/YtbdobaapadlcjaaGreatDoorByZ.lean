import Derived.WalkKit
import Derived.Test.YtbdobaapadlcjaaGreatDoorProg
set_option linter.unusedVariables false
namespace Go.Proofs.YtbdobaapadlcjaaGreatDoor
open Go.RowKit
abbrev zp (b:Nat):Value:=.pointer (some ⟨b,0,none⟩)
abbrev Cp:=Calls Tryz.prog
end Go.Proofs.YtbdobaapadlcjaaGreatDoor
