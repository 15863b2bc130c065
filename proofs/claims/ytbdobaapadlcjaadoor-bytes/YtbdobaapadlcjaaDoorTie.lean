/-
  DERIVED. GIVEN WITH THE SEED: THE PROGRAM's TIES (one call each: nine closed facts by the kernel) AND EACH ROW's TIE, after the 31st guide's Derived/Test/Toyas{Tie, Card}.lean. No idea stands in it: it is a product of the set-up. Laid BY PROGRAM, IN A SANDBOX (cutbox-door.mjs). By AI agents, Wed Nov 11 2026. No macro, syntax, notation, axiom, sorry.
-/
import Derived.Test.YtbdobaapadlcjaaDoorRows
import Derived.LaidByTextLater
import Derived.SevenTiedAt
import Derived.LaidSub
import Derived.LaidOnce
namespace Go.Proofs.YtbdobaapadlcjaaDoor
open Go
set_option maxRecDepth 100000
theorem seatTie1 : Tryd.prog.laidByTextLater [("wharf/wire.quads", Rows.laid_wharf_wire_quads), ("wharf/wire.layouts", Rows.laid_wharf_wire_layouts), ("wharf/wire.rows", Rows.laid_wharf_wire_rows)] [.data, .data, .data] true :=
  Program.laidByTextLater_by_one 49 8 46 (by kernel_rfl) (by kernel_rfl) (by kernel_rfl) (by kernel_rfl) (by kernel_rfl) (by kernel_rfl) (fun _ _ => by kernel_rfl)
theorem noOwnUnsafe : Tryd.pinned.checked.prog.headLifts.contains "ownunsafe" = false := by kernel_rfl
theorem tie : Tryd.prog.laidByTextLater [("wharf/wire.quads", Rows.laid_wharf_wire_quads)] [.data] true :=
  Program.laidByTextLater.sub seatTie1 ["wharf/wire.quads"] (by kernel_rfl) (by kernel_rfl)
theorem disks_row_tie : Rows.disksRow.laidByTextAt .later Tryd.pinned [.data] true :=
  OpenClaim.laidByTextAt_later rfl rfl tie noOwnUnsafe
theorem checked_row_tie : Rows.checkedRow.laidByTextAt .later Tryd.pinned [.data] true :=
  OpenClaim.laidByTextAt_later rfl rfl tie noOwnUnsafe
theorem tie2 : Tryd.prog.laidByTextLater [("wharf/wire.quads", Rows.laid_wharf_wire_quads), ("wharf/wire.layouts", Rows.laid_wharf_wire_layouts), ("wharf/wire.rows", Rows.laid_wharf_wire_rows)] [.data, .data, .data] true :=
  Program.laidByTextLater.sub seatTie1 ["wharf/wire.quads", "wharf/wire.layouts", "wharf/wire.rows"] (by kernel_rfl) (by kernel_rfl)
theorem bytes_row_tie : Rows.bytesRow.laidByTextAt .later Tryd.pinned [.data, .data, .data] true :=
  OpenClaim.laidByTextAt_later rfl rfl tie2 noOwnUnsafe
theorem tie3 : Tryd.prog.laidByTextLater [("wharf/wire.layouts", Rows.laid_wharf_wire_layouts), ("wharf/wire.rows", Rows.laid_wharf_wire_rows)] [.data, .data] true :=
  Program.laidByTextLater.sub seatTie1 ["wharf/wire.layouts", "wharf/wire.rows"] (by kernel_rfl) (by kernel_rfl)
theorem back_row_tie : Rows.backRow.laidByTextAt .later Tryd.pinned [.data, .data] true :=
  OpenClaim.laidByTextAt_later rfl rfl tie3 noOwnUnsafe
theorem disksUpto_row_tie : Rows.disksUptoRow.laidByTextAt .later Tryd.pinned [.data] true :=
  OpenClaim.laidByTextAt_later rfl rfl tie noOwnUnsafe
theorem bytesUpto_row_tie : Rows.bytesUptoRow.laidByTextAt .later Tryd.pinned [.data, .data, .data] true :=
  OpenClaim.laidByTextAt_later rfl rfl tie2 noOwnUnsafe
theorem backUpto_row_tie : Rows.backUptoRow.laidByTextAt .later Tryd.pinned [.data, .data] true :=
  OpenClaim.laidByTextAt_later rfl rfl tie3 noOwnUnsafe
theorem checkedUpto_row_tie : Rows.checkedUptoRow.laidByTextAt .later Tryd.pinned [.data] true :=
  OpenClaim.laidByTextAt_later rfl rfl tie noOwnUnsafe
end Go.Proofs.YtbdobaapadlcjaaDoor
