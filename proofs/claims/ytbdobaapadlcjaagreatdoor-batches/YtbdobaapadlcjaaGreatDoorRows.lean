/-
  NARROWER THAN 'FOR EVERY INPUT', by the rows' own cells (each row's printed sentence says how): Replies: laid · Ordered: laid · Taken: laid · Again: laid · Emptied: laid · Moved: laid · Batches: laid · Rounds: laid.
  DERIVED. THE GIVEN ROWS OF THIS SEAT. 8 by the template 'for every input the law returns true; each argument reads behind the call as it read before'; 0 by the template 'total and deterministic' (their statements: YtbdobaapadlcjaaGreatDoorTotals.lean).
  GIVEN WITH THE SEED: the statements are not yours to turn. If you find one false, say at which input.
  Laid BY PROGRAM, IN A SANDBOX (cutbox-rows.mjs): the forced cells as the released guide's own fill.sh prints them over the translation 586f54c49dcafd8e… (all of the seat's roots in one cut). By AI agents, Wed Nov 11 2026. No macro, syntax, notation, axiom, sorry.
-/
import Derived.Test.YtbdobaapadlcjaaGreatDoorChecked
import GoSem.Claim
import GoSem.ClaimJoined
import GoSem.ClaimMapViews
import Derived.JoinedTies
import Derived.KernelRfl
namespace Go.Proofs.YtbdobaapadlcjaaGreatDoor
/- THE CELL 'sum', in the pinned program and in every row, IS THE sha256 OF THE DUMP (.gsa) THAT YtbdobaapadlcjaaGreatDoorProg.lean LOADS. Nothing in Lean hashes anything: it is a label: what it is worth is what the hold of that sum in a sandbox is worth. -/
noncomputable def Tryz.pinned : Pinned := { name := "ytbdobaapadlcjaagreatdoor", sum := "586f54c49dcafd8e7a1a82063df1f1b2d89dac249250410ac4bbb27005f06919", checked := Tryz.checked }
namespace Rows
def none {H : Type} : Left H := { results := [], args := [] }

/- WHAT THE LISTED PACKAGE-LEVEL VARIABLES READ AS WHEN THE CALL BEGINS. Each datum BY PROGRAM (the guide's laid-datum.mjs) off the statement by which the dump's own 'gosem.cut.vars' lays the variable. In a bare row this is a premise. The card (YtbdobaapadlcjaaGreatDoorCards.lean) ties it to the program's text. -/
def laid_wharf_wire_quads {H : Type} : DataW H := .agg [.lit (.int .u32 0), .lit (.int .u32 498536548), .lit (.int .u32 997073096), .lit (.int .u32 651767980), .lit (.int .u32 1994146192), .lit (.int .u32 1802195444), .lit (.int .u32 1303535960), .lit (.int .u32 1342533948), .lit (.int .u32 3988292384), .lit (.int .u32 4027552580), .lit (.int .u32 3604390888), .lit (.int .u32 3412177804), .lit (.int .u32 2607071920), .lit (.int .u32 2262029012), .lit (.int .u32 2685067896), .lit (.int .u32 3183342108)]
def laid_wharf_wire_layouts {H : Type} : DataW H := .agg [.slice [.lit (.int .i64 13)] [], .slice [.lit (.int .i64 14)] [], .slice [.lit (.int .i64 0), .lit (.int .i64 2), .lit (.int .i64 3), .lit (.int .i64 4), .lit (.int .i64 1), .lit (.int .i64 5)] [], .nil, .slice [.lit (.int .i64 13), .lit (.int .i64 7)] [], .nil, .nil, .nil, .nil, .nil, .nil, .nil, .nil, .nil, .nil, .slice [.lit (.int .i64 0)] [], .nil, .slice [.lit (.int .i64 0), .lit (.int .i64 12), .lit (.int .i64 6)] [], .slice [.lit (.int .i64 0), .lit (.int .i64 9), .lit (.int .i64 10), .lit (.int .i64 11)] [], .slice [.lit (.int .i64 8)] [], .nil, .slice [.lit (.int .i64 0)] [], .nil, .slice [.lit (.int .i64 0)] [], .nil, .nil]
def laid_wharf_wire_rows {H : Type} : DataW H := .agg [.agg [.lit (.int .i64 0), .lit (.int .i64 97), .lit (.int .i64 104)], .agg [.lit (.int .i64 0), .lit (.int .i64 97), .lit (.int .i64 104)], .agg [.lit (.int .i64 2), .lit (.int .i64 1), .lit (.int .i64 1000)], .agg [.lit (.int .i64 2), .lit (.int .i64 0), .lit (.int .i64 1000)], .agg [.lit (.int .i64 1), .lit (.int .i64 0), .lit (.int .i64 9)], .agg [.lit (.int .i64 1), .lit (.int .i64 1), .lit (.int .i64 50)], .agg [.lit (.int .i64 1), .lit (.int .i64 1), .lit (.int .i64 10)], .agg [.lit (.int .i64 2), .lit (.int .i64 0), .lit (.int .i64 1000)], .agg [.lit (.int .i64 2), .lit (.int .i64 1), .lit (.int .i64 1000)], .agg [.lit (.int .i64 3), .lit (.int .i64 1), .lit (.int .i64 8)], .agg [.lit (.int .i64 3), .lit (.int .i64 0), .lit (.int .i64 8)], .agg [.lit (.int .i64 3), .lit (.int .i64 0), .lit (.int .i64 255)], .agg [.lit (.int .i64 3), .lit (.int .i64 0), .lit (.int .i64 8)], .agg [.lit (.int .i64 3), .lit (.int .i64 0), .lit (.int .i64 255)], .agg [.lit (.int .i64 4), .lit (.int .i64 1), .lit (.int .i64 10)]]

/-- 'wharflaw.Replies': WHATEVER THE INPUT: true; the input reads as it did. -/
def repliesSpec : ChangeSpec := { name := "replies", fn := fun _ => fun
  | [d] => { results := [.lit (.bool true)], args := [d] }
  | _ => none }
def repliesRow : OpenClaim := { program := "ytbdobaapadlcjaagreatdoor", sum := "586f54c49dcafd8e7a1a82063df1f1b2d89dac249250410ac4bbb27005f06919", func := "wharf/wharflaw.Replies", spec := "replies", inPlace := ["(*sync.WaitGroup).Go", "(*sync.WaitGroup).Add", "internal/race.ReleaseMerge", "internal/race.Disable", "internal/race.Enable", "internal/synctest.IsInBubble", "internal/synctest.Associate[sync.WaitGroup]", "sync.fatal", "sync/atomic.OrUint64", "sync/atomic.AddUint64", "internal/race.Read", "sync/atomic.LoadUint64", "sync/atomic.StoreUint64", "internal/synctest.Disassociate[sync.WaitGroup]", "sync.runtime_Semrelease", "(*sync.WaitGroup).Go$1", "(*sync.WaitGroup).Go$1$1", "(*sync.WaitGroup).Done", "(*sync.WaitGroup).Wait", "internal/race.Acquire", "internal/synctest.IsAssociated[sync.WaitGroup]", "sync/atomic.CompareAndSwapUint64", "internal/race.Write", "sync.runtime_SemacquireWaitGroup"], unfollowed := true, recurses := true, named := ["wharf/wire.quads", "wharf/wire.rows", "wharf/wire.layouts"], apart := false, laid := [("wharf/wire.quads", laid_wharf_wire_quads), ("wharf/wire.layouts", laid_wharf_wire_layouts), ("wharf/wire.rows", laid_wharf_wire_rows)] }
def RepliesSaid : Prop := repliesRow.holds Tryz.pinned (OpenSpec.ofChange repliesSpec)

/-- ITS FALSE NEIGHBOUR: 'it returns false'. Refute it at one input. -/
def repliesWrong : ChangeSpec := { name := "replies", fn := fun _ => fun
  | [d] => { results := [.lit (.bool false)], args := [d] }
  | _ => none }
def RepliesWrongFalsely : Prop := repliesRow.holds Tryz.pinned (OpenSpec.ofChange repliesWrong)

/-- 'wharfkeep.Ordered': WHATEVER THE INPUT: true; the input reads as it did. -/
def orderedSpec : ChangeSpec := { name := "ordered", fn := fun _ => fun
  | [d1, d2] => { results := [.lit (.bool true)], args := [d1, d2] }
  | _ => none }
def orderedRow : OpenClaim := { program := "ytbdobaapadlcjaagreatdoor", sum := "586f54c49dcafd8e7a1a82063df1f1b2d89dac249250410ac4bbb27005f06919", func := "wharf/wharfkeep.Ordered", spec := "ordered", unfollowed := true, recurses := true, named := ["wharf/wire.quads", "wharf/wire.rows", "wharf/wire.layouts"], apart := false, laid := [("wharf/wire.quads", laid_wharf_wire_quads), ("wharf/wire.layouts", laid_wharf_wire_layouts), ("wharf/wire.rows", laid_wharf_wire_rows)] }
def OrderedSaid : Prop := orderedRow.holds Tryz.pinned (OpenSpec.ofChange orderedSpec)

/-- ITS FALSE NEIGHBOUR: 'it returns false'. Refute it at one input. -/
def orderedWrong : ChangeSpec := { name := "ordered", fn := fun _ => fun
  | [d1, d2] => { results := [.lit (.bool false)], args := [d1, d2] }
  | _ => none }
def OrderedWrongFalsely : Prop := orderedRow.holds Tryz.pinned (OpenSpec.ofChange orderedWrong)

/-- 'wharfkeep.Taken': WHATEVER THE INPUT: true; the input reads as it did. -/
def takenSpec : ChangeSpec := { name := "taken", fn := fun _ => fun
  | [d1, d2, d3, d4, d5, d6] => { results := [.lit (.bool true)], args := [d1, d2, d3, d4, d5, d6] }
  | _ => none }
def takenRow : OpenClaim := { program := "ytbdobaapadlcjaagreatdoor", sum := "586f54c49dcafd8e7a1a82063df1f1b2d89dac249250410ac4bbb27005f06919", func := "wharf/wharfkeep.Taken", spec := "taken", unfollowed := true, recurses := true, named := ["wharf/wire.quads", "wharf/wire.rows", "wharf/wire.layouts"], apart := false, laid := [("wharf/wire.quads", laid_wharf_wire_quads), ("wharf/wire.layouts", laid_wharf_wire_layouts), ("wharf/wire.rows", laid_wharf_wire_rows)] }
def TakenSaid : Prop := takenRow.holds Tryz.pinned (OpenSpec.ofChange takenSpec)

/-- ITS FALSE NEIGHBOUR: 'it returns false'. Refute it at one input. -/
def takenWrong : ChangeSpec := { name := "taken", fn := fun _ => fun
  | [d1, d2, d3, d4, d5, d6] => { results := [.lit (.bool false)], args := [d1, d2, d3, d4, d5, d6] }
  | _ => none }
def TakenWrongFalsely : Prop := takenRow.holds Tryz.pinned (OpenSpec.ofChange takenWrong)

/-- 'wharfkeep.Again': WHATEVER THE INPUT: true; the input reads as it did. -/
def againSpec : ChangeSpec := { name := "again", fn := fun _ => fun
  | [d1, d2, d3, d4, d5] => { results := [.lit (.bool true)], args := [d1, d2, d3, d4, d5] }
  | _ => none }
def againRow : OpenClaim := { program := "ytbdobaapadlcjaagreatdoor", sum := "586f54c49dcafd8e7a1a82063df1f1b2d89dac249250410ac4bbb27005f06919", func := "wharf/wharfkeep.Again", spec := "again", unfollowed := true, recurses := true, named := ["wharf/wire.quads", "wharf/wire.rows", "wharf/wire.layouts"], apart := false, laid := [("wharf/wire.quads", laid_wharf_wire_quads), ("wharf/wire.layouts", laid_wharf_wire_layouts), ("wharf/wire.rows", laid_wharf_wire_rows)] }
def AgainSaid : Prop := againRow.holds Tryz.pinned (OpenSpec.ofChange againSpec)

/-- ITS FALSE NEIGHBOUR: 'it returns false'. Refute it at one input. -/
def againWrong : ChangeSpec := { name := "again", fn := fun _ => fun
  | [d1, d2, d3, d4, d5] => { results := [.lit (.bool false)], args := [d1, d2, d3, d4, d5] }
  | _ => none }
def AgainWrongFalsely : Prop := againRow.holds Tryz.pinned (OpenSpec.ofChange againWrong)

/-- 'wharfkeep.Emptied': WHATEVER THE INPUT: true; the input reads as it did. -/
def emptiedSpec : ChangeSpec := { name := "emptied", fn := fun _ => fun
  | [d1, d2] => { results := [.lit (.bool true)], args := [d1, d2] }
  | _ => none }
def emptiedRow : OpenClaim := { program := "ytbdobaapadlcjaagreatdoor", sum := "586f54c49dcafd8e7a1a82063df1f1b2d89dac249250410ac4bbb27005f06919", func := "wharf/wharfkeep.Emptied", spec := "emptied", unfollowed := true, recurses := true, named := ["wharf/wire.quads", "wharf/wire.rows", "wharf/wire.layouts"], apart := false, laid := [("wharf/wire.quads", laid_wharf_wire_quads), ("wharf/wire.layouts", laid_wharf_wire_layouts), ("wharf/wire.rows", laid_wharf_wire_rows)] }
def EmptiedSaid : Prop := emptiedRow.holds Tryz.pinned (OpenSpec.ofChange emptiedSpec)

/-- ITS FALSE NEIGHBOUR: 'it returns false'. Refute it at one input. -/
def emptiedWrong : ChangeSpec := { name := "emptied", fn := fun _ => fun
  | [d1, d2] => { results := [.lit (.bool false)], args := [d1, d2] }
  | _ => none }
def EmptiedWrongFalsely : Prop := emptiedRow.holds Tryz.pinned (OpenSpec.ofChange emptiedWrong)

/-- 'wharfkeep.Moved': WHATEVER THE INPUT: true; the input reads as it did. -/
def movedSpec : ChangeSpec := { name := "moved", fn := fun _ => fun
  | [d1, d2, d3] => { results := [.lit (.bool true)], args := [d1, d2, d3] }
  | _ => none }
def movedRow : OpenClaim := { program := "ytbdobaapadlcjaagreatdoor", sum := "586f54c49dcafd8e7a1a82063df1f1b2d89dac249250410ac4bbb27005f06919", func := "wharf/wharfkeep.Moved", spec := "moved", unfollowed := true, recurses := true, named := ["wharf/wire.quads", "wharf/wire.rows", "wharf/wire.layouts"], apart := false, laid := [("wharf/wire.quads", laid_wharf_wire_quads), ("wharf/wire.layouts", laid_wharf_wire_layouts), ("wharf/wire.rows", laid_wharf_wire_rows)] }
def MovedSaid : Prop := movedRow.holds Tryz.pinned (OpenSpec.ofChange movedSpec)

/-- ITS FALSE NEIGHBOUR: 'it returns false'. Refute it at one input. -/
def movedWrong : ChangeSpec := { name := "moved", fn := fun _ => fun
  | [d1, d2, d3] => { results := [.lit (.bool false)], args := [d1, d2, d3] }
  | _ => none }
def MovedWrongFalsely : Prop := movedRow.holds Tryz.pinned (OpenSpec.ofChange movedWrong)

/-- 'wharflaw.Batches': WHATEVER THE INPUT: true; the input reads as it did. -/
def batchesSpec : ChangeSpec := { name := "batches", fn := fun _ => fun
  | [d] => { results := [.lit (.bool true)], args := [d] }
  | _ => none }
def batchesRow : OpenClaim := { program := "ytbdobaapadlcjaagreatdoor", sum := "586f54c49dcafd8e7a1a82063df1f1b2d89dac249250410ac4bbb27005f06919", func := "wharf/wharflaw.Batches", spec := "batches", inPlace := ["(*sync.WaitGroup).Go", "(*sync.WaitGroup).Add", "internal/race.ReleaseMerge", "internal/race.Disable", "internal/race.Enable", "internal/synctest.IsInBubble", "internal/synctest.Associate[sync.WaitGroup]", "sync.fatal", "sync/atomic.OrUint64", "sync/atomic.AddUint64", "internal/race.Read", "sync/atomic.LoadUint64", "sync/atomic.StoreUint64", "internal/synctest.Disassociate[sync.WaitGroup]", "sync.runtime_Semrelease", "(*sync.WaitGroup).Go$1", "(*sync.WaitGroup).Go$1$1", "(*sync.WaitGroup).Done", "(*sync.WaitGroup).Wait", "internal/race.Acquire", "internal/synctest.IsAssociated[sync.WaitGroup]", "sync/atomic.CompareAndSwapUint64", "internal/race.Write", "sync.runtime_SemacquireWaitGroup"], unfollowed := true, recurses := true, named := ["wharf/wire.quads", "wharf/wire.rows", "wharf/wire.layouts"], apart := false, laid := [("wharf/wire.quads", laid_wharf_wire_quads), ("wharf/wire.layouts", laid_wharf_wire_layouts), ("wharf/wire.rows", laid_wharf_wire_rows)] }
def BatchesSaid : Prop := batchesRow.holds Tryz.pinned (OpenSpec.ofChange batchesSpec)

/-- ITS FALSE NEIGHBOUR: 'it returns false'. Refute it at one input. -/
def batchesWrong : ChangeSpec := { name := "batches", fn := fun _ => fun
  | [d] => { results := [.lit (.bool false)], args := [d] }
  | _ => none }
def BatchesWrongFalsely : Prop := batchesRow.holds Tryz.pinned (OpenSpec.ofChange batchesWrong)

/-- 'wharflaw.Rounds': WHATEVER THE INPUT: true; the input reads as it did. -/
def roundsSpec : ChangeSpec := { name := "rounds", fn := fun _ => fun
  | [d] => { results := [.lit (.bool true)], args := [d] }
  | _ => none }
def roundsRow : OpenClaim := { program := "ytbdobaapadlcjaagreatdoor", sum := "586f54c49dcafd8e7a1a82063df1f1b2d89dac249250410ac4bbb27005f06919", func := "wharf/wharflaw.Rounds", spec := "rounds", inPlace := ["(*sync.WaitGroup).Go", "(*sync.WaitGroup).Add", "internal/race.ReleaseMerge", "internal/race.Disable", "internal/race.Enable", "internal/synctest.IsInBubble", "internal/synctest.Associate[sync.WaitGroup]", "sync.fatal", "sync/atomic.OrUint64", "sync/atomic.AddUint64", "internal/race.Read", "sync/atomic.LoadUint64", "sync/atomic.StoreUint64", "internal/synctest.Disassociate[sync.WaitGroup]", "sync.runtime_Semrelease", "(*sync.WaitGroup).Go$1", "(*sync.WaitGroup).Go$1$1", "(*sync.WaitGroup).Done", "(*sync.WaitGroup).Wait", "internal/race.Acquire", "internal/synctest.IsAssociated[sync.WaitGroup]", "sync/atomic.CompareAndSwapUint64", "internal/race.Write", "sync.runtime_SemacquireWaitGroup"], unfollowed := true, recurses := true, named := ["wharf/wire.quads", "wharf/wire.rows", "wharf/wire.layouts"], apart := false, laid := [("wharf/wire.quads", laid_wharf_wire_quads), ("wharf/wire.layouts", laid_wharf_wire_layouts), ("wharf/wire.rows", laid_wharf_wire_rows)] }
def RoundsSaid : Prop := roundsRow.holds Tryz.pinned (OpenSpec.ofChange roundsSpec)

/-- ITS FALSE NEIGHBOUR: 'it returns false'. Refute it at one input. -/
def roundsWrong : ChangeSpec := { name := "rounds", fn := fun _ => fun
  | [d] => { results := [.lit (.bool false)], args := [d] }
  | _ => none }
def RoundsWrongFalsely : Prop := roundsRow.holds Tryz.pinned (OpenSpec.ofChange roundsWrong)

/- THE SECOND FORM. 'bulk': how many values and letters a reading holds, each counted each time it is reached (what is shared counts as often as it is met; a slice's spare places count too). A statement '..UptoSaid' is the law's where the arguments, and the package variables that the reading takes, are together of bulk at most 1048576: NARROWER than '..Said'. Prove '..Said' where nothing that the law and all that it calls make is longer than what came in: it says more and counts as full. Else prove '..UptoSaid'. A law counts once. -/
mutual
def uptoBulk {H : Type} : DataW H → Nat
  | .lit (.string bytes) => bytes.length + 1
  | .lit _ => 1
  | .nil => 1
  | .ptr d => uptoBulk d + 1
  | .slice elems spare => uptoBulkAll elems + uptoBulkAll spare + 1
  | .agg parts => uptoBulkAll parts + 1
  | .iface _ d => uptoBulk d + 1
  | .map entries => uptoBulkEntries entries + 1
  | .held _ => 1
def uptoBulkAll {H : Type} : List (DataW H) → Nat
  | [] => 0
  | d :: r => uptoBulk d + uptoBulkAll r
def uptoBulkEntries {H : Type} : List (Lit × DataW H) → Nat
  | [] => 0
  | x :: r => uptoBulkEntry x + uptoBulkEntries r
def uptoBulkEntry {H : Type} : Lit × DataW H → Nat
  | (.string bytes, d) => bytes.length + uptoBulk d + 1
  | (_, d) => uptoBulk d + 1
 end
def uptoSmall : (H : Type) → List (DataW H) → Bool := fun _ ds => decide (uptoBulkAll ds ≤ 1048576)
def OpenSpec.upto (s : _root_.Go.ChangeSpec) : _root_.Go.OpenSpec := { _root_.Go.OpenSpec.ofChange s with cond := some uptoSmall }

/-- 'wharflaw.Replies', WHERE WHAT IT READS IS OF BULK AT MOST 1048576: true; the input reads as it did. -/
def repliesUptoRow : OpenClaim := { program := "ytbdobaapadlcjaagreatdoor", sum := "586f54c49dcafd8e7a1a82063df1f1b2d89dac249250410ac4bbb27005f06919", func := "wharf/wharflaw.Replies", spec := "replies", inPlace := ["(*sync.WaitGroup).Go", "(*sync.WaitGroup).Add", "internal/race.ReleaseMerge", "internal/race.Disable", "internal/race.Enable", "internal/synctest.IsInBubble", "internal/synctest.Associate[sync.WaitGroup]", "sync.fatal", "sync/atomic.OrUint64", "sync/atomic.AddUint64", "internal/race.Read", "sync/atomic.LoadUint64", "sync/atomic.StoreUint64", "internal/synctest.Disassociate[sync.WaitGroup]", "sync.runtime_Semrelease", "(*sync.WaitGroup).Go$1", "(*sync.WaitGroup).Go$1$1", "(*sync.WaitGroup).Done", "(*sync.WaitGroup).Wait", "internal/race.Acquire", "internal/synctest.IsAssociated[sync.WaitGroup]", "sync/atomic.CompareAndSwapUint64", "internal/race.Write", "sync.runtime_SemacquireWaitGroup"], unfollowed := true, recurses := true, named := ["wharf/wire.quads", "wharf/wire.rows", "wharf/wire.layouts"], apart := false, laid := [("wharf/wire.quads", laid_wharf_wire_quads), ("wharf/wire.layouts", laid_wharf_wire_layouts), ("wharf/wire.rows", laid_wharf_wire_rows)], narrowed := true }
def RepliesUptoSaid : Prop := repliesUptoRow.holds Tryz.pinned (OpenSpec.upto repliesSpec)

/-- 'wharfkeep.Ordered', WHERE WHAT IT READS IS OF BULK AT MOST 1048576: true; the input reads as it did. -/
def orderedUptoRow : OpenClaim := { program := "ytbdobaapadlcjaagreatdoor", sum := "586f54c49dcafd8e7a1a82063df1f1b2d89dac249250410ac4bbb27005f06919", func := "wharf/wharfkeep.Ordered", spec := "ordered", unfollowed := true, recurses := true, named := ["wharf/wire.quads", "wharf/wire.rows", "wharf/wire.layouts"], apart := false, laid := [("wharf/wire.quads", laid_wharf_wire_quads), ("wharf/wire.layouts", laid_wharf_wire_layouts), ("wharf/wire.rows", laid_wharf_wire_rows)], narrowed := true }
def OrderedUptoSaid : Prop := orderedUptoRow.holds Tryz.pinned (OpenSpec.upto orderedSpec)

/-- 'wharfkeep.Taken', WHERE WHAT IT READS IS OF BULK AT MOST 1048576: true; the input reads as it did. -/
def takenUptoRow : OpenClaim := { program := "ytbdobaapadlcjaagreatdoor", sum := "586f54c49dcafd8e7a1a82063df1f1b2d89dac249250410ac4bbb27005f06919", func := "wharf/wharfkeep.Taken", spec := "taken", unfollowed := true, recurses := true, named := ["wharf/wire.quads", "wharf/wire.rows", "wharf/wire.layouts"], apart := false, laid := [("wharf/wire.quads", laid_wharf_wire_quads), ("wharf/wire.layouts", laid_wharf_wire_layouts), ("wharf/wire.rows", laid_wharf_wire_rows)], narrowed := true }
def TakenUptoSaid : Prop := takenUptoRow.holds Tryz.pinned (OpenSpec.upto takenSpec)

/-- 'wharfkeep.Again', WHERE WHAT IT READS IS OF BULK AT MOST 1048576: true; the input reads as it did. -/
def againUptoRow : OpenClaim := { program := "ytbdobaapadlcjaagreatdoor", sum := "586f54c49dcafd8e7a1a82063df1f1b2d89dac249250410ac4bbb27005f06919", func := "wharf/wharfkeep.Again", spec := "again", unfollowed := true, recurses := true, named := ["wharf/wire.quads", "wharf/wire.rows", "wharf/wire.layouts"], apart := false, laid := [("wharf/wire.quads", laid_wharf_wire_quads), ("wharf/wire.layouts", laid_wharf_wire_layouts), ("wharf/wire.rows", laid_wharf_wire_rows)], narrowed := true }
def AgainUptoSaid : Prop := againUptoRow.holds Tryz.pinned (OpenSpec.upto againSpec)

/-- 'wharfkeep.Emptied', WHERE WHAT IT READS IS OF BULK AT MOST 1048576: true; the input reads as it did. -/
def emptiedUptoRow : OpenClaim := { program := "ytbdobaapadlcjaagreatdoor", sum := "586f54c49dcafd8e7a1a82063df1f1b2d89dac249250410ac4bbb27005f06919", func := "wharf/wharfkeep.Emptied", spec := "emptied", unfollowed := true, recurses := true, named := ["wharf/wire.quads", "wharf/wire.rows", "wharf/wire.layouts"], apart := false, laid := [("wharf/wire.quads", laid_wharf_wire_quads), ("wharf/wire.layouts", laid_wharf_wire_layouts), ("wharf/wire.rows", laid_wharf_wire_rows)], narrowed := true }
def EmptiedUptoSaid : Prop := emptiedUptoRow.holds Tryz.pinned (OpenSpec.upto emptiedSpec)

/-- 'wharfkeep.Moved', WHERE WHAT IT READS IS OF BULK AT MOST 1048576: true; the input reads as it did. -/
def movedUptoRow : OpenClaim := { program := "ytbdobaapadlcjaagreatdoor", sum := "586f54c49dcafd8e7a1a82063df1f1b2d89dac249250410ac4bbb27005f06919", func := "wharf/wharfkeep.Moved", spec := "moved", unfollowed := true, recurses := true, named := ["wharf/wire.quads", "wharf/wire.rows", "wharf/wire.layouts"], apart := false, laid := [("wharf/wire.quads", laid_wharf_wire_quads), ("wharf/wire.layouts", laid_wharf_wire_layouts), ("wharf/wire.rows", laid_wharf_wire_rows)], narrowed := true }
def MovedUptoSaid : Prop := movedUptoRow.holds Tryz.pinned (OpenSpec.upto movedSpec)

/-- 'wharflaw.Batches', WHERE WHAT IT READS IS OF BULK AT MOST 1048576: true; the input reads as it did. -/
def batchesUptoRow : OpenClaim := { program := "ytbdobaapadlcjaagreatdoor", sum := "586f54c49dcafd8e7a1a82063df1f1b2d89dac249250410ac4bbb27005f06919", func := "wharf/wharflaw.Batches", spec := "batches", inPlace := ["(*sync.WaitGroup).Go", "(*sync.WaitGroup).Add", "internal/race.ReleaseMerge", "internal/race.Disable", "internal/race.Enable", "internal/synctest.IsInBubble", "internal/synctest.Associate[sync.WaitGroup]", "sync.fatal", "sync/atomic.OrUint64", "sync/atomic.AddUint64", "internal/race.Read", "sync/atomic.LoadUint64", "sync/atomic.StoreUint64", "internal/synctest.Disassociate[sync.WaitGroup]", "sync.runtime_Semrelease", "(*sync.WaitGroup).Go$1", "(*sync.WaitGroup).Go$1$1", "(*sync.WaitGroup).Done", "(*sync.WaitGroup).Wait", "internal/race.Acquire", "internal/synctest.IsAssociated[sync.WaitGroup]", "sync/atomic.CompareAndSwapUint64", "internal/race.Write", "sync.runtime_SemacquireWaitGroup"], unfollowed := true, recurses := true, named := ["wharf/wire.quads", "wharf/wire.rows", "wharf/wire.layouts"], apart := false, laid := [("wharf/wire.quads", laid_wharf_wire_quads), ("wharf/wire.layouts", laid_wharf_wire_layouts), ("wharf/wire.rows", laid_wharf_wire_rows)], narrowed := true }
def BatchesUptoSaid : Prop := batchesUptoRow.holds Tryz.pinned (OpenSpec.upto batchesSpec)

/-- 'wharflaw.Rounds', WHERE WHAT IT READS IS OF BULK AT MOST 1048576: true; the input reads as it did. -/
def roundsUptoRow : OpenClaim := { program := "ytbdobaapadlcjaagreatdoor", sum := "586f54c49dcafd8e7a1a82063df1f1b2d89dac249250410ac4bbb27005f06919", func := "wharf/wharflaw.Rounds", spec := "rounds", inPlace := ["(*sync.WaitGroup).Go", "(*sync.WaitGroup).Add", "internal/race.ReleaseMerge", "internal/race.Disable", "internal/race.Enable", "internal/synctest.IsInBubble", "internal/synctest.Associate[sync.WaitGroup]", "sync.fatal", "sync/atomic.OrUint64", "sync/atomic.AddUint64", "internal/race.Read", "sync/atomic.LoadUint64", "sync/atomic.StoreUint64", "internal/synctest.Disassociate[sync.WaitGroup]", "sync.runtime_Semrelease", "(*sync.WaitGroup).Go$1", "(*sync.WaitGroup).Go$1$1", "(*sync.WaitGroup).Done", "(*sync.WaitGroup).Wait", "internal/race.Acquire", "internal/synctest.IsAssociated[sync.WaitGroup]", "sync/atomic.CompareAndSwapUint64", "internal/race.Write", "sync.runtime_SemacquireWaitGroup"], unfollowed := true, recurses := true, named := ["wharf/wire.quads", "wharf/wire.rows", "wharf/wire.layouts"], apart := false, laid := [("wharf/wire.quads", laid_wharf_wire_quads), ("wharf/wire.layouts", laid_wharf_wire_layouts), ("wharf/wire.rows", laid_wharf_wire_rows)], narrowed := true }
def RoundsUptoSaid : Prop := roundsUptoRow.holds Tryz.pinned (OpenSpec.upto roundsSpec)

end Rows
end Go.Proofs.YtbdobaapadlcjaaGreatDoor
