/-
  THE WALKS of slices.IndexFunc at dedups (201) and at messages (197), their closures, findDedup (157), head (150).
-/
import Derived.Test.YtohanpmkgpcdcaaGreatDoorCheckW
import Derived.Shelf.SlicesQ.IndexFunc
import Derived.Ground.SlgfProg
import Derived.Lib.SliceRun
namespace Go.Proofs.YtohanpmkgpcdcaaGreatDoor
open Go.Shelf Go.RowKit Go.Lib
shelf_lay_g SlLaysH0.n6 Slgf 6 at Tryz 201 as Tryz.l201
shelf_lay_g SlLaysH0.n6 Slgf 6 at Tryz 197 as Tryz.l197

/-- A dedup's three cells; a message's five. -/
structure Dd where
  id : ByteArray
  num : Int
  til : Int
instance : Inhabited Dd := ⟨⟨⟨#[]⟩, 0, 0⟩⟩
def Dd.row (x : Dd) : List Value := [.string x.id, .int .i64 x.num, .int .i64 x.til]
structure Ms where
  num : Int
  grp : ByteArray
  bod : ByteArray
  rcv : Int
  til : Int
instance : Inhabited Ms := ⟨⟨0, ⟨#[]⟩, ⟨#[]⟩, 0, 0⟩⟩
def Ms.row (x : Ms) : List Value := [.int .i64 x.num, .string x.grp, .string x.bod, .int .i64 x.rcv, .int .i64 x.til]

theorem dd_pred (id : ByteArray) (B : Nat) (w : World) (hB : B < w.heap.size) (hcell : w.cell? ⟨B, 0, none⟩ = some (.string id)) :
    PredBelow Tryz.prog 202 #[.pointer (some ⟨B, 0, none⟩)] (fun x : Dd => .agg x.row.toArray) (fun x => x.id.toList == id.toList) w := fun W x hb => by
  have hc : W.cell? ⟨B, 0, none⟩ = some (.string id) := (hb.cell (p := ⟨B, 0, none⟩) hB).trans hcell
  have hBW : B < W.heap.size := Nat.lt_of_lt_of_le hB hb.size
  have hne : B ≠ W.heap.size := by omega
  show Calls Tryz.prog 202 #[.agg #[.string x.id, .int .i64 x.num, .int .i64 x.til], .pointer (some ⟨B, 0, none⟩)] W _
  go_enter Tryz.func202, Tryz.ntmps202
  go_wp2
  all_goals (go_ret; exact ⟨by simp_all, hb.alloc hb.size _⟩)

theorem ms_pred (grp : ByteArray) (B : Nat) (w : World) (hB : B < w.heap.size) (hcell : w.cell? ⟨B, 0, none⟩ = some (.string grp)) :
    PredBelow Tryz.prog 198 #[.pointer (some ⟨B, 0, none⟩)] (fun x : Ms => .agg x.row.toArray) (fun x => x.grp.toList == grp.toList) w := fun W x hb => by
  have hc : W.cell? ⟨B, 0, none⟩ = some (.string grp) := (hb.cell (p := ⟨B, 0, none⟩) hB).trans hcell
  have hBW : B < W.heap.size := Nat.lt_of_lt_of_le hB hb.size
  have hne : B ≠ W.heap.size := by omega
  show Calls Tryz.prog 198 #[.agg #[.int .i64 x.num, .string x.grp, .string x.bod, .int .i64 x.rcv, .int .i64 x.til], .pointer (some ⟨B, 0, none⟩)] W _
  go_enter Tryz.func198, Tryz.ntmps198
  go_wp2
  all_goals (go_ret; exact ⟨by simp_all, hb.alloc hb.size _⟩)
end Go.Proofs.YtohanpmkgpcdcaaGreatDoor
