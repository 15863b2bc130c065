/-
  NARROWER THAN 'FOR EVERY INPUT', by the rows' own cells (each row's printed sentence says how): Together: laid · Reopened: laid · Halted: laid · Small: laid.
  DERIVED. THE GIVEN ROWS OF THIS SEAT. 4 by the template 'for every input the law returns true; each argument reads behind the call as it read before'; 0 by the template 'total and deterministic' (their statements: YtbdobaapadlcjabGreatDoorTotals.lean).
  GIVEN WITH THE SEED: the statements are not yours to turn. If you find one false, say at which input.
  Laid BY PROGRAM, IN A SANDBOX (cutbox-rows.mjs): the forced cells as the released guide's own fill.sh prints them over the translation a7488b09a03d9ce3… (all of the seat's roots in one cut). By AI agents, Wed Nov 11 2026. No macro, syntax, notation, axiom, sorry.
-/
import Derived.Test.YtbdobaapadlcjabGreatDoorChecked
import GoSem.Claim
import GoSem.ClaimJoined
import GoSem.ClaimMapViews
import Derived.JoinedTies
import Derived.KernelRfl
namespace Go.Proofs.YtbdobaapadlcjabGreatDoor
/- THE CELL 'sum', in the pinned program and in every row, IS THE sha256 OF THE DUMP (.gsa) THAT YtbdobaapadlcjabGreatDoorProg.lean LOADS. Nothing in Lean hashes anything: it is a label: what it is worth is what the hold of that sum in a sandbox is worth. -/
noncomputable def Tryz.pinned : Pinned := { name := "ytbdobaapadlcjabgreatdoor", sum := "a7488b09a03d9ce372718acc37c1fa87bebbf9c083930edc5bc9689013059a81", checked := Tryz.checked }
namespace Rows
def none {H : Type} : Left H := { results := [], args := [] }

/- WHAT THE LISTED PACKAGE-LEVEL VARIABLES READ AS WHEN THE CALL BEGINS. Each datum BY PROGRAM (the guide's laid-datum.mjs) off the statement by which the dump's own 'gosem.cut.vars' lays the variable. In a bare row this is a premise. The card (YtbdobaapadlcjabGreatDoorCards.lean) ties it to the program's text. -/
def laid_wharf_wire_quads {H : Type} : DataW H := .agg [.lit (.int .u32 0), .lit (.int .u32 498536548), .lit (.int .u32 997073096), .lit (.int .u32 651767980), .lit (.int .u32 1994146192), .lit (.int .u32 1802195444), .lit (.int .u32 1303535960), .lit (.int .u32 1342533948), .lit (.int .u32 3988292384), .lit (.int .u32 4027552580), .lit (.int .u32 3604390888), .lit (.int .u32 3412177804), .lit (.int .u32 2607071920), .lit (.int .u32 2262029012), .lit (.int .u32 2685067896), .lit (.int .u32 3183342108)]
def laid_wharf_wire_layouts {H : Type} : DataW H := .agg [.slice [.lit (.int .i64 13)] [], .slice [.lit (.int .i64 14)] [], .slice [.lit (.int .i64 0), .lit (.int .i64 2), .lit (.int .i64 3), .lit (.int .i64 4), .lit (.int .i64 1), .lit (.int .i64 5)] [], .nil, .slice [.lit (.int .i64 13), .lit (.int .i64 7)] [], .nil, .nil, .nil, .nil, .nil, .nil, .nil, .nil, .nil, .nil, .slice [.lit (.int .i64 0)] [], .nil, .slice [.lit (.int .i64 0), .lit (.int .i64 12), .lit (.int .i64 6)] [], .slice [.lit (.int .i64 0), .lit (.int .i64 9), .lit (.int .i64 10), .lit (.int .i64 11)] [], .slice [.lit (.int .i64 8)] [], .nil, .slice [.lit (.int .i64 0)] [], .nil, .slice [.lit (.int .i64 0)] [], .nil, .nil]
def laid_wharf_wire_rows {H : Type} : DataW H := .agg [.agg [.lit (.int .i64 0), .lit (.int .i64 97), .lit (.int .i64 104)], .agg [.lit (.int .i64 0), .lit (.int .i64 97), .lit (.int .i64 104)], .agg [.lit (.int .i64 2), .lit (.int .i64 1), .lit (.int .i64 1000)], .agg [.lit (.int .i64 2), .lit (.int .i64 0), .lit (.int .i64 1000)], .agg [.lit (.int .i64 1), .lit (.int .i64 0), .lit (.int .i64 9)], .agg [.lit (.int .i64 1), .lit (.int .i64 1), .lit (.int .i64 50)], .agg [.lit (.int .i64 1), .lit (.int .i64 1), .lit (.int .i64 10)], .agg [.lit (.int .i64 2), .lit (.int .i64 0), .lit (.int .i64 1000)], .agg [.lit (.int .i64 2), .lit (.int .i64 1), .lit (.int .i64 1000)], .agg [.lit (.int .i64 3), .lit (.int .i64 1), .lit (.int .i64 8)], .agg [.lit (.int .i64 3), .lit (.int .i64 0), .lit (.int .i64 8)], .agg [.lit (.int .i64 3), .lit (.int .i64 0), .lit (.int .i64 255)], .agg [.lit (.int .i64 3), .lit (.int .i64 0), .lit (.int .i64 8)], .agg [.lit (.int .i64 3), .lit (.int .i64 0), .lit (.int .i64 255)], .agg [.lit (.int .i64 4), .lit (.int .i64 1), .lit (.int .i64 10)]]

/-- 'wharfkeep.Together': WHATEVER THE INPUT: true; the input reads as it did. -/
def togetherSpec : ChangeSpec := { name := "together", fn := fun _ => fun
  | [d1, d2, d3] => { results := [.lit (.bool true)], args := [d1, d2, d3] }
  | _ => none }
def togetherRow : OpenClaim := { program := "ytbdobaapadlcjabgreatdoor", sum := "a7488b09a03d9ce372718acc37c1fa87bebbf9c083930edc5bc9689013059a81", func := "wharf/wharfkeep.Together", spec := "together", inPlace := ["(*sync.WaitGroup).Go", "(*sync.WaitGroup).Add", "internal/race.ReleaseMerge", "internal/race.Disable", "internal/race.Enable", "internal/synctest.IsInBubble", "internal/synctest.Associate[sync.WaitGroup]", "sync.fatal", "sync/atomic.OrUint64", "sync/atomic.AddUint64", "internal/race.Read", "sync/atomic.LoadUint64", "sync/atomic.StoreUint64", "internal/synctest.Disassociate[sync.WaitGroup]", "sync.runtime_Semrelease", "(*sync.WaitGroup).Go$1", "(*sync.WaitGroup).Go$1$1", "(*sync.WaitGroup).Done", "(*sync.WaitGroup).Wait", "internal/race.Acquire", "internal/synctest.IsAssociated[sync.WaitGroup]", "sync/atomic.CompareAndSwapUint64", "internal/race.Write", "sync.runtime_SemacquireWaitGroup"], unfollowed := true, recurses := true, named := ["wharf/wire.quads", "wharf/wire.rows", "wharf/wire.layouts"], apart := false, laid := [("wharf/wire.quads", laid_wharf_wire_quads), ("wharf/wire.layouts", laid_wharf_wire_layouts), ("wharf/wire.rows", laid_wharf_wire_rows)] }
def TogetherSaid : Prop := togetherRow.holds Tryz.pinned (OpenSpec.ofChange togetherSpec)

/-- ITS FALSE NEIGHBOUR: 'it returns false'. Refute it at one input. -/
def togetherWrong : ChangeSpec := { name := "together", fn := fun _ => fun
  | [d1, d2, d3] => { results := [.lit (.bool false)], args := [d1, d2, d3] }
  | _ => none }
def TogetherWrongFalsely : Prop := togetherRow.holds Tryz.pinned (OpenSpec.ofChange togetherWrong)

/-- 'wharfkeep.Reopened': WHATEVER THE INPUT: true; the input reads as it did. -/
def reopenedSpec : ChangeSpec := { name := "reopened", fn := fun _ => fun
  | [d1, d2, d3] => { results := [.lit (.bool true)], args := [d1, d2, d3] }
  | _ => none }
def reopenedRow : OpenClaim := { program := "ytbdobaapadlcjabgreatdoor", sum := "a7488b09a03d9ce372718acc37c1fa87bebbf9c083930edc5bc9689013059a81", func := "wharf/wharfkeep.Reopened", spec := "reopened", unfollowed := true, recurses := true, named := ["wharf/wire.quads", "wharf/wire.rows", "wharf/wire.layouts"], apart := false, laid := [("wharf/wire.quads", laid_wharf_wire_quads), ("wharf/wire.layouts", laid_wharf_wire_layouts), ("wharf/wire.rows", laid_wharf_wire_rows)] }
def ReopenedSaid : Prop := reopenedRow.holds Tryz.pinned (OpenSpec.ofChange reopenedSpec)

/-- ITS FALSE NEIGHBOUR: 'it returns false'. Refute it at one input. -/
def reopenedWrong : ChangeSpec := { name := "reopened", fn := fun _ => fun
  | [d1, d2, d3] => { results := [.lit (.bool false)], args := [d1, d2, d3] }
  | _ => none }
def ReopenedWrongFalsely : Prop := reopenedRow.holds Tryz.pinned (OpenSpec.ofChange reopenedWrong)

/-- 'wharfkeep.Halted': WHATEVER THE INPUT: true; the input reads as it did. -/
def haltedSpec : ChangeSpec := { name := "halted", fn := fun _ => fun
  | [d1, d2, d3, d4] => { results := [.lit (.bool true)], args := [d1, d2, d3, d4] }
  | _ => none }
def haltedRow : OpenClaim := { program := "ytbdobaapadlcjabgreatdoor", sum := "a7488b09a03d9ce372718acc37c1fa87bebbf9c083930edc5bc9689013059a81", func := "wharf/wharfkeep.Halted", spec := "halted", unfollowed := true, recurses := true, named := ["wharf/wire.quads", "wharf/wire.rows", "wharf/wire.layouts"], apart := false, laid := [("wharf/wire.quads", laid_wharf_wire_quads), ("wharf/wire.layouts", laid_wharf_wire_layouts), ("wharf/wire.rows", laid_wharf_wire_rows)] }
def HaltedSaid : Prop := haltedRow.holds Tryz.pinned (OpenSpec.ofChange haltedSpec)

/-- ITS FALSE NEIGHBOUR: 'it returns false'. Refute it at one input. -/
def haltedWrong : ChangeSpec := { name := "halted", fn := fun _ => fun
  | [d1, d2, d3, d4] => { results := [.lit (.bool false)], args := [d1, d2, d3, d4] }
  | _ => none }
def HaltedWrongFalsely : Prop := haltedRow.holds Tryz.pinned (OpenSpec.ofChange haltedWrong)

/-- 'wharfkeep.Small': WHATEVER THE INPUT: true; the input reads as it did. -/
def smallSpec : ChangeSpec := { name := "small", fn := fun _ => fun
  | [d1, d2, d3] => { results := [.lit (.bool true)], args := [d1, d2, d3] }
  | _ => none }
def smallRow : OpenClaim := { program := "ytbdobaapadlcjabgreatdoor", sum := "a7488b09a03d9ce372718acc37c1fa87bebbf9c083930edc5bc9689013059a81", func := "wharf/wharfkeep.Small", spec := "small", unfollowed := true, recurses := true, named := ["wharf/wire.quads", "wharf/wire.rows", "wharf/wire.layouts"], apart := false, laid := [("wharf/wire.quads", laid_wharf_wire_quads), ("wharf/wire.layouts", laid_wharf_wire_layouts), ("wharf/wire.rows", laid_wharf_wire_rows)] }
def SmallSaid : Prop := smallRow.holds Tryz.pinned (OpenSpec.ofChange smallSpec)

/-- ITS FALSE NEIGHBOUR: 'it returns false'. Refute it at one input. -/
def smallWrong : ChangeSpec := { name := "small", fn := fun _ => fun
  | [d1, d2, d3] => { results := [.lit (.bool false)], args := [d1, d2, d3] }
  | _ => none }
def SmallWrongFalsely : Prop := smallRow.holds Tryz.pinned (OpenSpec.ofChange smallWrong)

/- THE SECOND FORM. 'bulk': how many values and letters a reading holds, each counted each time it is reached (what is shared counts as often as it is met; a slice's spare places count too). A statement '..UptoSaid' is the law's where the arguments, and the package variables that the reading takes, are together of bulk at most 1048576: NARROWER than '..Said'. Prove '..Said' where nothing that the law and all that it calls make is longer than what came in: it says more and counts as full. Else prove '..UptoSaid'. A law counts once. -/
mutual
def uptoBulk {H : Type} : DataW H → Nat
  | .lit (.string bytes) => bytes.length + 1
  | .lit _ => 1
  | .nil => 1
  | .ptr d => uptoBulk d + 1
  | .slice elems spare => uptoBulkAll elems + uptoBulkAll spare + 1
  | .agg parts => uptoBulkAll parts + 1
  | .iface _ d => uptoBulk d + 1
  | .map entries => uptoBulkEntries entries + 1
  | .held _ => 1
def uptoBulkAll {H : Type} : List (DataW H) → Nat
  | [] => 0
  | d :: r => uptoBulk d + uptoBulkAll r
def uptoBulkEntries {H : Type} : List (Lit × DataW H) → Nat
  | [] => 0
  | x :: r => uptoBulkEntry x + uptoBulkEntries r
def uptoBulkEntry {H : Type} : Lit × DataW H → Nat
  | (.string bytes, d) => bytes.length + uptoBulk d + 1
  | (_, d) => uptoBulk d + 1
 end
def uptoSmall : (H : Type) → List (DataW H) → Bool := fun _ ds => decide (uptoBulkAll ds ≤ 1048576)
def OpenSpec.upto (s : _root_.Go.ChangeSpec) : _root_.Go.OpenSpec := { _root_.Go.OpenSpec.ofChange s with cond := some uptoSmall }

/-- 'wharfkeep.Together', WHERE WHAT IT READS IS OF BULK AT MOST 1048576: true; the input reads as it did. -/
def togetherUptoRow : OpenClaim := { program := "ytbdobaapadlcjabgreatdoor", sum := "a7488b09a03d9ce372718acc37c1fa87bebbf9c083930edc5bc9689013059a81", func := "wharf/wharfkeep.Together", spec := "together", inPlace := ["(*sync.WaitGroup).Go", "(*sync.WaitGroup).Add", "internal/race.ReleaseMerge", "internal/race.Disable", "internal/race.Enable", "internal/synctest.IsInBubble", "internal/synctest.Associate[sync.WaitGroup]", "sync.fatal", "sync/atomic.OrUint64", "sync/atomic.AddUint64", "internal/race.Read", "sync/atomic.LoadUint64", "sync/atomic.StoreUint64", "internal/synctest.Disassociate[sync.WaitGroup]", "sync.runtime_Semrelease", "(*sync.WaitGroup).Go$1", "(*sync.WaitGroup).Go$1$1", "(*sync.WaitGroup).Done", "(*sync.WaitGroup).Wait", "internal/race.Acquire", "internal/synctest.IsAssociated[sync.WaitGroup]", "sync/atomic.CompareAndSwapUint64", "internal/race.Write", "sync.runtime_SemacquireWaitGroup"], unfollowed := true, recurses := true, named := ["wharf/wire.quads", "wharf/wire.rows", "wharf/wire.layouts"], apart := false, laid := [("wharf/wire.quads", laid_wharf_wire_quads), ("wharf/wire.layouts", laid_wharf_wire_layouts), ("wharf/wire.rows", laid_wharf_wire_rows)], narrowed := true }
def TogetherUptoSaid : Prop := togetherUptoRow.holds Tryz.pinned (OpenSpec.upto togetherSpec)

/-- 'wharfkeep.Reopened', WHERE WHAT IT READS IS OF BULK AT MOST 1048576: true; the input reads as it did. -/
def reopenedUptoRow : OpenClaim := { program := "ytbdobaapadlcjabgreatdoor", sum := "a7488b09a03d9ce372718acc37c1fa87bebbf9c083930edc5bc9689013059a81", func := "wharf/wharfkeep.Reopened", spec := "reopened", unfollowed := true, recurses := true, named := ["wharf/wire.quads", "wharf/wire.rows", "wharf/wire.layouts"], apart := false, laid := [("wharf/wire.quads", laid_wharf_wire_quads), ("wharf/wire.layouts", laid_wharf_wire_layouts), ("wharf/wire.rows", laid_wharf_wire_rows)], narrowed := true }
def ReopenedUptoSaid : Prop := reopenedUptoRow.holds Tryz.pinned (OpenSpec.upto reopenedSpec)

/-- 'wharfkeep.Halted', WHERE WHAT IT READS IS OF BULK AT MOST 1048576: true; the input reads as it did. -/
def haltedUptoRow : OpenClaim := { program := "ytbdobaapadlcjabgreatdoor", sum := "a7488b09a03d9ce372718acc37c1fa87bebbf9c083930edc5bc9689013059a81", func := "wharf/wharfkeep.Halted", spec := "halted", unfollowed := true, recurses := true, named := ["wharf/wire.quads", "wharf/wire.rows", "wharf/wire.layouts"], apart := false, laid := [("wharf/wire.quads", laid_wharf_wire_quads), ("wharf/wire.layouts", laid_wharf_wire_layouts), ("wharf/wire.rows", laid_wharf_wire_rows)], narrowed := true }
def HaltedUptoSaid : Prop := haltedUptoRow.holds Tryz.pinned (OpenSpec.upto haltedSpec)

/-- 'wharfkeep.Small', WHERE WHAT IT READS IS OF BULK AT MOST 1048576: true; the input reads as it did. -/
def smallUptoRow : OpenClaim := { program := "ytbdobaapadlcjabgreatdoor", sum := "a7488b09a03d9ce372718acc37c1fa87bebbf9c083930edc5bc9689013059a81", func := "wharf/wharfkeep.Small", spec := "small", unfollowed := true, recurses := true, named := ["wharf/wire.quads", "wharf/wire.rows", "wharf/wire.layouts"], apart := false, laid := [("wharf/wire.quads", laid_wharf_wire_quads), ("wharf/wire.layouts", laid_wharf_wire_layouts), ("wharf/wire.rows", laid_wharf_wire_rows)], narrowed := true }
def SmallUptoSaid : Prop := smallUptoRow.holds Tryz.pinned (OpenSpec.upto smallSpec)

end Rows
end Go.Proofs.YtbdobaapadlcjabGreatDoor
