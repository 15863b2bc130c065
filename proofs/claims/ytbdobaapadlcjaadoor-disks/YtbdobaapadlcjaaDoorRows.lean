/-
  NARROWER THAN 'FOR EVERY INPUT', by the rows' own cells (each row's printed sentence says how): Disks: laid · Bytes: laid · Back: laid · Checked: laid.
  DERIVED. THE GIVEN ROWS OF THIS SEAT. 4 by the template 'for every input the law returns true; each argument reads behind the call as it read before'; 0 by the template 'total and deterministic' (their statements: YtbdobaapadlcjaaDoorTotals.lean).
  GIVEN WITH THE SEED: the statements are not yours to turn. If you find one false, say at which input.
  Laid BY PROGRAM, IN A SANDBOX (cutbox-rows.mjs): the forced cells as the released guide's own fill.sh prints them over the translation ea18938f0cc48e5b… (all of the seat's roots in one cut). By AI agents, Wed Nov 11 2026. No macro, syntax, notation, axiom, sorry.
-/
import Derived.Test.YtbdobaapadlcjaaDoorChecked
import GoSem.Claim
import GoSem.ClaimJoined
import GoSem.ClaimMapViews
import Derived.JoinedTies
import Derived.KernelRfl
namespace Go.Proofs.YtbdobaapadlcjaaDoor
/- THE CELL 'sum', in the pinned program and in every row, IS THE sha256 OF THE DUMP (.gsa) THAT YtbdobaapadlcjaaDoorProg.lean LOADS. Nothing in Lean hashes anything: it is a label: what it is worth is what the hold of that sum in a sandbox is worth. -/
noncomputable def Tryd.pinned : Pinned := { name := "ytbdobaapadlcjaadoor", sum := "ea18938f0cc48e5b60c3285f3c952b002ad412940e2cdbd2aa2900afcf55679b", checked := Tryd.checked }
namespace Rows
def none {H : Type} : Left H := { results := [], args := [] }

/- WHAT THE LISTED PACKAGE-LEVEL VARIABLES READ AS WHEN THE CALL BEGINS. Each datum BY PROGRAM (the guide's laid-datum.mjs) off the statement by which the dump's own 'gosem.cut.vars' lays the variable. In a bare row this is a premise. The card (YtbdobaapadlcjaaDoorCards.lean) ties it to the program's text. -/
def laid_wharf_wire_quads {H : Type} : DataW H := .agg [.lit (.int .u32 0), .lit (.int .u32 498536548), .lit (.int .u32 997073096), .lit (.int .u32 651767980), .lit (.int .u32 1994146192), .lit (.int .u32 1802195444), .lit (.int .u32 1303535960), .lit (.int .u32 1342533948), .lit (.int .u32 3988292384), .lit (.int .u32 4027552580), .lit (.int .u32 3604390888), .lit (.int .u32 3412177804), .lit (.int .u32 2607071920), .lit (.int .u32 2262029012), .lit (.int .u32 2685067896), .lit (.int .u32 3183342108)]
def laid_wharf_wire_layouts {H : Type} : DataW H := .agg [.slice [.lit (.int .i64 13)] [], .slice [.lit (.int .i64 14)] [], .slice [.lit (.int .i64 0), .lit (.int .i64 2), .lit (.int .i64 3), .lit (.int .i64 4), .lit (.int .i64 1), .lit (.int .i64 5)] [], .nil, .slice [.lit (.int .i64 13), .lit (.int .i64 7)] [], .nil, .nil, .nil, .nil, .nil, .nil, .nil, .nil, .nil, .nil, .slice [.lit (.int .i64 0)] [], .nil, .slice [.lit (.int .i64 0), .lit (.int .i64 12), .lit (.int .i64 6)] [], .slice [.lit (.int .i64 0), .lit (.int .i64 9), .lit (.int .i64 10), .lit (.int .i64 11)] [], .slice [.lit (.int .i64 8)] [], .nil, .slice [.lit (.int .i64 0)] [], .nil, .slice [.lit (.int .i64 0)] [], .nil, .nil]
def laid_wharf_wire_rows {H : Type} : DataW H := .agg [.agg [.lit (.int .i64 0), .lit (.int .i64 97), .lit (.int .i64 104)], .agg [.lit (.int .i64 0), .lit (.int .i64 97), .lit (.int .i64 104)], .agg [.lit (.int .i64 2), .lit (.int .i64 1), .lit (.int .i64 1000)], .agg [.lit (.int .i64 2), .lit (.int .i64 0), .lit (.int .i64 1000)], .agg [.lit (.int .i64 1), .lit (.int .i64 0), .lit (.int .i64 9)], .agg [.lit (.int .i64 1), .lit (.int .i64 1), .lit (.int .i64 50)], .agg [.lit (.int .i64 1), .lit (.int .i64 1), .lit (.int .i64 10)], .agg [.lit (.int .i64 2), .lit (.int .i64 0), .lit (.int .i64 1000)], .agg [.lit (.int .i64 2), .lit (.int .i64 1), .lit (.int .i64 1000)], .agg [.lit (.int .i64 3), .lit (.int .i64 1), .lit (.int .i64 8)], .agg [.lit (.int .i64 3), .lit (.int .i64 0), .lit (.int .i64 8)], .agg [.lit (.int .i64 3), .lit (.int .i64 0), .lit (.int .i64 255)], .agg [.lit (.int .i64 3), .lit (.int .i64 0), .lit (.int .i64 8)], .agg [.lit (.int .i64 3), .lit (.int .i64 0), .lit (.int .i64 255)], .agg [.lit (.int .i64 4), .lit (.int .i64 1), .lit (.int .i64 10)]]

/-- 'wharflaw.Disks': WHATEVER THE INPUT: true; the input reads as it did. -/
def disksSpec : ChangeSpec := { name := "disks", fn := fun _ => fun
  | [d] => { results := [.lit (.bool true)], args := [d] }
  | _ => none }
def disksRow : OpenClaim := { program := "ytbdobaapadlcjaadoor", sum := "ea18938f0cc48e5b60c3285f3c952b002ad412940e2cdbd2aa2900afcf55679b", func := "wharf/wharflaw.Disks", spec := "disks", named := ["wharf/wire.quads"], apart := false, laid := [("wharf/wire.quads", laid_wharf_wire_quads)] }
def DisksSaid : Prop := disksRow.holds Tryd.pinned (OpenSpec.ofChange disksSpec)

/-- ITS FALSE NEIGHBOUR: 'it returns false'. Refute it at one input. -/
def disksWrong : ChangeSpec := { name := "disks", fn := fun _ => fun
  | [d] => { results := [.lit (.bool false)], args := [d] }
  | _ => none }
def DisksWrongFalsely : Prop := disksRow.holds Tryd.pinned (OpenSpec.ofChange disksWrong)

/-- 'wharflaw.Bytes': WHATEVER THE INPUT: true; the input reads as it did. -/
def bytesSpec : ChangeSpec := { name := "bytes", fn := fun _ => fun
  | [d1, d2] => { results := [.lit (.bool true)], args := [d1, d2] }
  | _ => none }
def bytesRow : OpenClaim := { program := "ytbdobaapadlcjaadoor", sum := "ea18938f0cc48e5b60c3285f3c952b002ad412940e2cdbd2aa2900afcf55679b", func := "wharf/wharflaw.Bytes", spec := "bytes", named := ["wharf/wire.quads", "wharf/wire.layouts", "wharf/wire.rows"], apart := false, laid := [("wharf/wire.quads", laid_wharf_wire_quads), ("wharf/wire.layouts", laid_wharf_wire_layouts), ("wharf/wire.rows", laid_wharf_wire_rows)] }
def BytesSaid : Prop := bytesRow.holds Tryd.pinned (OpenSpec.ofChange bytesSpec)

/-- ITS FALSE NEIGHBOUR: 'it returns false'. Refute it at one input. -/
def bytesWrong : ChangeSpec := { name := "bytes", fn := fun _ => fun
  | [d1, d2] => { results := [.lit (.bool false)], args := [d1, d2] }
  | _ => none }
def BytesWrongFalsely : Prop := bytesRow.holds Tryd.pinned (OpenSpec.ofChange bytesWrong)

/-- 'wharfkeep.Back': WHATEVER THE INPUT: true; the input reads as it did. -/
def backSpec : ChangeSpec := { name := "back", fn := fun _ => fun
  | [d1, d2, d3] => { results := [.lit (.bool true)], args := [d1, d2, d3] }
  | _ => none }
def backRow : OpenClaim := { program := "ytbdobaapadlcjaadoor", sum := "ea18938f0cc48e5b60c3285f3c952b002ad412940e2cdbd2aa2900afcf55679b", func := "wharf/wharfkeep.Back", spec := "back", named := ["wharf/wire.layouts", "wharf/wire.rows"], apart := false, laid := [("wharf/wire.layouts", laid_wharf_wire_layouts), ("wharf/wire.rows", laid_wharf_wire_rows)] }
def BackSaid : Prop := backRow.holds Tryd.pinned (OpenSpec.ofChange backSpec)

/-- ITS FALSE NEIGHBOUR: 'it returns false'. Refute it at one input. -/
def backWrong : ChangeSpec := { name := "back", fn := fun _ => fun
  | [d1, d2, d3] => { results := [.lit (.bool false)], args := [d1, d2, d3] }
  | _ => none }
def BackWrongFalsely : Prop := backRow.holds Tryd.pinned (OpenSpec.ofChange backWrong)

/-- 'wharfkeep.Checked': WHATEVER THE INPUT: true; the input reads as it did. -/
def checkedSpec : ChangeSpec := { name := "checked", fn := fun _ => fun
  | [d1, d2, d3] => { results := [.lit (.bool true)], args := [d1, d2, d3] }
  | _ => none }
def checkedRow : OpenClaim := { program := "ytbdobaapadlcjaadoor", sum := "ea18938f0cc48e5b60c3285f3c952b002ad412940e2cdbd2aa2900afcf55679b", func := "wharf/wharfkeep.Checked", spec := "checked", named := ["wharf/wire.quads"], apart := false, laid := [("wharf/wire.quads", laid_wharf_wire_quads)] }
def CheckedSaid : Prop := checkedRow.holds Tryd.pinned (OpenSpec.ofChange checkedSpec)

/-- ITS FALSE NEIGHBOUR: 'it returns false'. Refute it at one input. -/
def checkedWrong : ChangeSpec := { name := "checked", fn := fun _ => fun
  | [d1, d2, d3] => { results := [.lit (.bool false)], args := [d1, d2, d3] }
  | _ => none }
def CheckedWrongFalsely : Prop := checkedRow.holds Tryd.pinned (OpenSpec.ofChange checkedWrong)

/- THE SECOND FORM. 'bulk': how many values and letters a reading holds, each counted each time it is reached (what is shared counts as often as it is met; a slice's spare places count too). A statement '..UptoSaid' is the law's where the arguments, and the package variables that the reading takes, are together of bulk at most 1048576: NARROWER than '..Said'. Prove '..Said' where nothing that the law and all that it calls make is longer than what came in: it says more and counts as full. Else prove '..UptoSaid'. A law counts once. -/
mutual
def uptoBulk {H : Type} : DataW H → Nat
  | .lit (.string bytes) => bytes.length + 1
  | .lit _ => 1
  | .nil => 1
  | .ptr d => uptoBulk d + 1
  | .slice elems spare => uptoBulkAll elems + uptoBulkAll spare + 1
  | .agg parts => uptoBulkAll parts + 1
  | .iface _ d => uptoBulk d + 1
  | .map entries => uptoBulkEntries entries + 1
  | .held _ => 1
def uptoBulkAll {H : Type} : List (DataW H) → Nat
  | [] => 0
  | d :: r => uptoBulk d + uptoBulkAll r
def uptoBulkEntries {H : Type} : List (Lit × DataW H) → Nat
  | [] => 0
  | x :: r => uptoBulkEntry x + uptoBulkEntries r
def uptoBulkEntry {H : Type} : Lit × DataW H → Nat
  | (.string bytes, d) => bytes.length + uptoBulk d + 1
  | (_, d) => uptoBulk d + 1
 end
def uptoSmall : (H : Type) → List (DataW H) → Bool := fun _ ds => decide (uptoBulkAll ds ≤ 1048576)
def OpenSpec.upto (s : _root_.Go.ChangeSpec) : _root_.Go.OpenSpec := { _root_.Go.OpenSpec.ofChange s with cond := some uptoSmall }

/-- 'wharflaw.Disks', WHERE WHAT IT READS IS OF BULK AT MOST 1048576: true; the input reads as it did. -/
def disksUptoRow : OpenClaim := { program := "ytbdobaapadlcjaadoor", sum := "ea18938f0cc48e5b60c3285f3c952b002ad412940e2cdbd2aa2900afcf55679b", func := "wharf/wharflaw.Disks", spec := "disks", named := ["wharf/wire.quads"], apart := false, laid := [("wharf/wire.quads", laid_wharf_wire_quads)], narrowed := true }
def DisksUptoSaid : Prop := disksUptoRow.holds Tryd.pinned (OpenSpec.upto disksSpec)

/-- 'wharflaw.Bytes', WHERE WHAT IT READS IS OF BULK AT MOST 1048576: true; the input reads as it did. -/
def bytesUptoRow : OpenClaim := { program := "ytbdobaapadlcjaadoor", sum := "ea18938f0cc48e5b60c3285f3c952b002ad412940e2cdbd2aa2900afcf55679b", func := "wharf/wharflaw.Bytes", spec := "bytes", named := ["wharf/wire.quads", "wharf/wire.layouts", "wharf/wire.rows"], apart := false, laid := [("wharf/wire.quads", laid_wharf_wire_quads), ("wharf/wire.layouts", laid_wharf_wire_layouts), ("wharf/wire.rows", laid_wharf_wire_rows)], narrowed := true }
def BytesUptoSaid : Prop := bytesUptoRow.holds Tryd.pinned (OpenSpec.upto bytesSpec)

/-- 'wharfkeep.Back', WHERE WHAT IT READS IS OF BULK AT MOST 1048576: true; the input reads as it did. -/
def backUptoRow : OpenClaim := { program := "ytbdobaapadlcjaadoor", sum := "ea18938f0cc48e5b60c3285f3c952b002ad412940e2cdbd2aa2900afcf55679b", func := "wharf/wharfkeep.Back", spec := "back", named := ["wharf/wire.layouts", "wharf/wire.rows"], apart := false, laid := [("wharf/wire.layouts", laid_wharf_wire_layouts), ("wharf/wire.rows", laid_wharf_wire_rows)], narrowed := true }
def BackUptoSaid : Prop := backUptoRow.holds Tryd.pinned (OpenSpec.upto backSpec)

/-- 'wharfkeep.Checked', WHERE WHAT IT READS IS OF BULK AT MOST 1048576: true; the input reads as it did. -/
def checkedUptoRow : OpenClaim := { program := "ytbdobaapadlcjaadoor", sum := "ea18938f0cc48e5b60c3285f3c952b002ad412940e2cdbd2aa2900afcf55679b", func := "wharf/wharfkeep.Checked", spec := "checked", named := ["wharf/wire.quads"], apart := false, laid := [("wharf/wire.quads", laid_wharf_wire_quads)], narrowed := true }
def CheckedUptoSaid : Prop := checkedUptoRow.holds Tryd.pinned (OpenSpec.upto checkedSpec)

end Rows
end Go.Proofs.YtbdobaapadlcjaaDoor
