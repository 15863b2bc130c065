/-
  THE WALKS of findDedup (157) and head (150), over a row of no or one element.
-/
import Derived.Test.YtbdobaapadlcjaaGreatDoorCheckW
import Derived.Shelf.SlLaysH0
import Derived.Shelf.SlicesQ.IndexFunc
import Derived.Ground.SlgfProg
import Derived.Lib.SliceRun
namespace Go.Proofs.YtbdobaapadlcjaaGreatDoor
open Go.Shelf Go.RowKit Go.Lib
def l201_ren : Go.Shelf.Ren := ⟨fun | 6 => 268 | n => n, fun | 22 => 188 | 23 => 230 | 25 => 302 | 3 => 3 | 0 => 0 | 4 => 4 | n => n, fun | n => n⟩
theorem l201 : Go.Proofs.SlLaysH0.n6 Tryz.prog l201_ren := {
  mixed := by kernel_rfl
  f6 := ⟨Tryz.f268.name, by decide, Tryz.func268.trans (congrArg some (by kernel_rfl))⟩
  t0 := Tryz.underlying0
  a0 := Tryz.isAgg0
  z0 := Tryz.sizeOf0
  v0 := Tryz.zeroValue0
  t3 := Tryz.underlying3
  a3 := Tryz.isAgg3
  z3 := Tryz.sizeOf3
  v3 := Tryz.zeroValue3
  t4 := Tryz.underlying4
  a4 := Tryz.isAgg4
  z4 := Tryz.sizeOf4
  v4 := Tryz.zeroValue4
  t22 := Tryz.underlying188
  a22 := Tryz.isAgg188
  z22 := Tryz.sizeOf188
  v22 := Tryz.zeroValue188
  t25 := Tryz.underlying302
  a25 := Tryz.isAgg302
  z25 := Tryz.sizeOf302
  v25 := Tryz.zeroValue302 }
def l197_ren : Go.Shelf.Ren := ⟨fun | 6 => 264 | n => n, fun | 22 => 187 | 23 => 226 | 25 => 294 | 3 => 3 | 0 => 0 | 4 => 4 | n => n, fun | n => n⟩
theorem l197 : Go.Proofs.SlLaysH0.n6 Tryz.prog l197_ren := {
  mixed := by kernel_rfl
  f6 := ⟨Tryz.f264.name, by decide, Tryz.func264.trans (congrArg some (by kernel_rfl))⟩
  t0 := Tryz.underlying0
  a0 := Tryz.isAgg0
  z0 := Tryz.sizeOf0
  v0 := Tryz.zeroValue0
  t3 := Tryz.underlying3
  a3 := Tryz.isAgg3
  z3 := Tryz.sizeOf3
  v3 := Tryz.zeroValue3
  t4 := Tryz.underlying4
  a4 := Tryz.isAgg4
  z4 := Tryz.sizeOf4
  v4 := Tryz.zeroValue4
  t22 := Tryz.underlying187
  a22 := Tryz.isAgg187
  z22 := Tryz.sizeOf187
  v22 := Tryz.zeroValue187
  t25 := Tryz.underlying294
  a25 := Tryz.isAgg294
  z25 := Tryz.sizeOf294
  v25 := Tryz.zeroValue294 }

/-- A dedup's three cells; a message's five. -/
structure Dd where
  id : ByteArray
  num : Int
  til : Int
def Dd.row (x : Dd) : List Value := [.string x.id, .int .i64 x.num, .int .i64 x.til]
structure Ms where
  num : Int
  grp : ByteArray
  bod : ByteArray
  rcv : Int
  til : Int
def Ms.row (x : Ms) : List Value := [.int .i64 x.num, .string x.grp, .string x.bod, .int .i64 x.rcv, .int .i64 x.til]

theorem dd_pred (id : ByteArray) (B : Nat) (w : World) (hB : B < w.heap.size) (hcell : w.cell? ⟨B, 0, none⟩ = some (.string id)) :
    PredBelow Tryz.prog 269 #[.pointer (some ⟨B, 0, none⟩)] (fun x : Dd => .agg x.row.toArray) (fun x => x.id.toList == id.toList) w := fun W x hb => by
  have hc : W.cell? ⟨B, 0, none⟩ = some (.string id) := (hb.cell (p := ⟨B, 0, none⟩) hB).trans hcell
  have hBW : B < W.heap.size := Nat.lt_of_lt_of_le hB hb.size
  have hne : B ≠ W.heap.size := by omega
  show Calls Tryz.prog 269 #[.agg #[.string x.id, .int .i64 x.num, .int .i64 x.til], .pointer (some ⟨B, 0, none⟩)] W _
  go_enter Tryz.func269, Tryz.ntmps269
  go_wp2
  all_goals (go_ret; exact ⟨by simp_all, hb.alloc hb.size _⟩)

theorem ms_pred (grp : ByteArray) (B : Nat) (w : World) (hB : B < w.heap.size) (hcell : w.cell? ⟨B, 0, none⟩ = some (.string grp)) :
    PredBelow Tryz.prog 265 #[.pointer (some ⟨B, 0, none⟩)] (fun x : Ms => .agg x.row.toArray) (fun x => x.grp.toList == grp.toList) w := fun W x hb => by
  have hc : W.cell? ⟨B, 0, none⟩ = some (.string grp) := (hb.cell (p := ⟨B, 0, none⟩) hB).trans hcell
  have hBW : B < W.heap.size := Nat.lt_of_lt_of_le hB hb.size
  have hne : B ≠ W.heap.size := by omega
  show Calls Tryz.prog 265 #[.agg #[.int .i64 x.num, .string x.grp, .string x.bod, .int .i64 x.rcv, .int .i64 x.til], .pointer (some ⟨B, 0, none⟩)] W _
  go_enter Tryz.func265, Tryz.ntmps265
  go_wp2
  all_goals (go_ret; exact ⟨by simp_all, hb.alloc hb.size _⟩)
end Go.Proofs.YtbdobaapadlcjaaGreatDoor

namespace Go.Proofs.YtbdobaapadlcjaaGreatDoor
open Go.Shelf Go.RowKit Go.Lib

set_option maxHeartbeats 400000 in
theorem idx_dd_none (a : Option Addr) (c : Nat) (fv : Value) (w : World) : Calls Tryz.prog 268 #[.slice a 0 c, fv] w fun e w' => e = .returned (.int .i64 (-1)) ∧ w' = w := by
  go_enter Tryz.func268, Tryz.ntmps268
  go_wp2
  go_loopg [5, 8] 0 (fun gg _ s8 wr => s8 = .int .i64 0 ∧ wr = w)
  case atStart => exact ⟨rfl, rfl⟩
  case round =>
    obtain ⟨rfl, rfl⟩ := hrel
    go_wp2
    go_ret
    exact ⟨rfl, rfl⟩
set_option maxHeartbeats 400000 in
theorem idx_ms_none (a : Option Addr) (c : Nat) (fv : Value) (w : World) : Calls Tryz.prog 264 #[.slice a 0 c, fv] w fun e w' => e = .returned (.int .i64 (-1)) ∧ w' = w := by
  go_enter Tryz.func264, Tryz.ntmps264
  go_wp2
  go_loopg [5, 8] 0 (fun gg _ s8 wr => s8 = .int .i64 0 ∧ wr = w)
  case atStart => exact ⟨rfl, rfl⟩
  case round =>
    obtain ⟨rfl, rfl⟩ := hrel
    go_wp2
    go_ret
    exact ⟨rfl, rfl⟩

theorem eg202 : ∀ args w, (callFunc 269 args).run Tryz.prog w = .ok (.enter 269 args) w := enters_of Tryz.func269 (by kernel_rfl) rfl
theorem eg198 : ∀ args w, (callFunc 265 args).run Tryz.prog w = .ok (.enter 265 args) w := enters_of Tryz.func265 (by kernel_rfl) rfl

theorem idx_dd_one (d : Dd) (id : ByteArray) (gd cd B : Nat) (w : World) (hB : B < w.heap.size) (hcell : w.cell? ⟨B, 0, none⟩ = some (.string id)) (hgd : gd < w.heap.size) (hc : ∀ i v, d.row[i]? = some v → w.cell? ⟨gd, i, none⟩ = some v) (hid : d.id = id) :
    Calls Tryz.prog 268 #[.slice (some ⟨gd, 0, none⟩) 1 cd, .func (.func 269) #[] #[.pointer (some ⟨B, 0, none⟩)]] w fun e w' => e = .returned (.int .i64 0) ∧ Below w.heap.size w w' := by
  have inh : Inhabited Dd := ⟨⟨⟨#[]⟩, 0, 0⟩⟩
  have h := AnyQ.slices_IndexFunc l201 3 Tryz.isAgg230 Tryz.sizeOf230 Dd.row (fun _ => rfl) (fun x => x.id.toList == id.toList) 269 #[.pointer (some ⟨B, 0, none⟩)] eg202 gd 0 1 cd [d] w (dd_pred id B w hB hcell) (by simp) (by decide) hgd (fun j hj i v hi => by
    have hj0 : j = 0 := by simpa using hj
    subst hj0
    simpa using hc i v hi)
  have he : Lib.idxBy (fun _ y : Dd => y.id.toList == id.toList) ([d].take 1) default = 0 := by
    rw [Lib.idxBy_hit (fun _ y : Dd => y.id.toList == id.toList) [d] 1 0 default (by decide) (by simp) (by simp [hid]) (fun j hj => absurd hj (Nat.not_lt_zero _))]
    rfl
  rw [he] at h
  exact h
theorem idx_ms_one (d : Ms) (g : ByteArray) (gd cd B : Nat) (w : World) (hB : B < w.heap.size) (hcell : w.cell? ⟨B, 0, none⟩ = some (.string g)) (hgd : gd < w.heap.size) (hc : ∀ i v, d.row[i]? = some v → w.cell? ⟨gd, i, none⟩ = some v) :
    Calls Tryz.prog 264 #[.slice (some ⟨gd, 0, none⟩) 1 cd, .func (.func 265) #[] #[.pointer (some ⟨B, 0, none⟩)]] w fun e w' => (∃ z : Int, e = .returned (.int .i64 z)) ∧ Below w.heap.size w w' := by
  have inh : Inhabited Ms := ⟨⟨0, ⟨#[]⟩, ⟨#[]⟩, 0, 0⟩⟩
  have h := AnyQ.slices_IndexFunc l197 5 Tryz.isAgg226 Tryz.sizeOf226 Ms.row (fun _ => rfl) (fun x => x.grp.toList == g.toList) 265 #[.pointer (some ⟨B, 0, none⟩)] eg198 gd 0 1 cd [d] w (ms_pred g B w hB hcell) (by simp) (by decide) hgd (fun j hj i v hi => by
    have hj0 : j = 0 := by simpa using hj
    subst hj0
    simpa using hc i v hi)
  exact h.mono fun e w' ⟨he, hb⟩ => ⟨⟨_, he⟩, hb⟩

set_option maxHeartbeats 400000 in
theorem findDedup_none (id : ByteArray) (qb : Nat) (a : Option Addr) (c : Nat) (w : World) (c9 : w.cell? ⟨qb, 9, none⟩ = some (.slice a 0 c)) :
    Calls Tryz.prog 217 #[.pointer (some ⟨qb, 0, none⟩), .string id] w fun e w' => e = .returned (.int .i64 (-1)) ∧ Below w.heap.size w w' := by
  have hlt := World.block_lt_of_cell? _ _ c9
  have hne : qb ≠ w.heap.size := by have := hlt; simp at this; omega
  have hmf : ∀ (fn : Fn) (first cap : Array Value) (w : World), (Instr.makeFunc fn first cap).run Tryz.prog w = .ok (.func fn first cap) w := fun _ _ _ _ => rfl
  go_enter Tryz.func217, Tryz.ntmps217
  go_wp2_with (go_at_call 268; refine (idx_dd_none _ _ _ _).mono ?_; rintro e w' ⟨rfl, rfl⟩)
  go_ret
  exact ⟨rfl, (Below.refl _ _).alloc (Nat.le_refl _) _⟩

set_option maxHeartbeats 400000 in
theorem findDedup_one (d : Dd) (id : ByteArray) (qb gd cd : Nat) (w : World) (c9 : w.cell? ⟨qb, 9, none⟩ = some (.slice (some ⟨gd, 0, none⟩) 1 cd)) (hgd : gd < w.heap.size) (hc : ∀ i v, d.row[i]? = some v → w.cell? ⟨gd, i, none⟩ = some v) (hid : d.id = id) :
    Calls Tryz.prog 217 #[.pointer (some ⟨qb, 0, none⟩), .string id] w fun e w' => e = .returned (.int .i64 0) ∧ Below w.heap.size w w' := by
  have hlt := World.block_lt_of_cell? _ _ c9
  have hne : qb ≠ w.heap.size := by have := hlt; simp at this; omega
  have hmf : ∀ (fn : Fn) (first cap : Array Value) (w : World), (Instr.makeFunc fn first cap).run Tryz.prog w = .ok (.func fn first cap) w := fun _ _ _ _ => rfl
  have HI : Hid (Calls Tryz.prog 268 _ (w.alloc (.cells #[.string id] 9)) _) := idx_dd_one d id gd cd w.heap.size (w.alloc (.cells #[.string id] 9)) (by simp) (cell_of_one (heap_alloc_new _ _)) (by simp; omega) (fun i v hi => Lib.cell?_alloc_some _ (hc i v hi)) hid
  clear hc
  go_enter Tryz.func217, Tryz.ntmps217
  go_wp2_with (go_at_call 268; refine HI.out.mono ?_; rintro e w' ⟨rfl, hb⟩)
  go_ret
  exact ⟨rfl, ((Below.refl _ _).alloc (Nat.le_refl _) _).trans (hb.mono (by simp))⟩

/-- The messages of a queue: none, or one. -/
def Ms1 (w : World) (v : Value) : Prop := (∃ a c, v = .slice a 0 c) ∨ ∃ gd cd, ∃ d : Ms, v = .slice (some ⟨gd, 0, none⟩) 1 cd ∧ gd < w.heap.size ∧ ∀ i u, d.row[i]? = some u → w.cell? ⟨gd, i, none⟩ = some u

set_option maxHeartbeats 400000 in
theorem head_any (g : ByteArray) (qb : Nat) (v : Value) (w : World) (c7 : w.cell? ⟨qb, 7, none⟩ = some v) (hv : Ms1 w v) :
    Calls Tryz.prog 210 #[.pointer (some ⟨qb, 0, none⟩), .string g] w fun e w' => (∃ z : Int, e = .returned (.int .i64 z)) ∧ Below w.heap.size w w' := by
  have hlt := World.block_lt_of_cell? _ _ c7
  have hne : qb ≠ w.heap.size := by have := hlt; simp at this; omega
  have hmf : ∀ (fn : Fn) (first cap : Array Value) (w : World), (Instr.makeFunc fn first cap).run Tryz.prog w = .ok (.func fn first cap) w := fun _ _ _ _ => rfl
  rcases hv with ⟨a, c, rfl⟩ | ⟨gd, cd, d, rfl, hgd, hc⟩
  · go_enter Tryz.func210, Tryz.ntmps210
    go_wp2_with (go_at_call 264; refine (idx_ms_none _ _ _ _).mono ?_; rintro e w' ⟨rfl, rfl⟩)
    go_ret
    exact ⟨⟨_, rfl⟩, (Below.refl _ _).alloc (Nat.le_refl _) _⟩
  · have HI : Hid (Calls Tryz.prog 264 _ (w.alloc (.cells #[.string g] 9)) _) := idx_ms_one d g gd cd w.heap.size (w.alloc (.cells #[.string g] 9)) (by simp) (cell_of_one (heap_alloc_new _ _)) (by simp; omega) (fun i v hi => Lib.cell?_alloc_some _ (hc i v hi))
    clear hc
    go_enter Tryz.func210, Tryz.ntmps210
    go_wp2_with (go_at_call 264; refine HI.out.mono ?_; rintro e w' ⟨⟨z, rfl⟩, hb⟩)
    go_ret
    exact ⟨⟨_, rfl⟩, ((Below.refl _ _).alloc (Nat.le_refl _) _).trans (hb.mono (by simp))⟩
end Go.Proofs.YtbdobaapadlcjaaGreatDoor
