/-
  THE WALKS of slices.SortFunc (258) over nothing, and of Due (244) where nothing is in flight.
-/
import Derived.Test.YtbdobaapadlcjaaGreatDoorTkN
import Derived.Shelf.Abstract
namespace Go.Proofs.YtbdobaapadlcjaaGreatDoor
open Go.RowKit
set_option linter.unusedVariables false

set_option maxHeartbeats 1000000 in
theorem ins_none (p : Option Addr) (cap : Nat) (fv : Value) (w : World) :
    Calls Tryz.prog 308 #[.slice p 0 cap, .int .i64 0, .int .i64 0, fv] w fun e w' => e = .returned (.tuple #[]) ∧ w' = w := by
  go_enter Tryz.func308, Tryz.ntmps308
  go_wp2
  refine wp_loop_rounds 1 ?_
  rw [rounds_succ]
  go_wp2
  go_end0
  exact ⟨rfl, rfl⟩
set_option maxHeartbeats 1000000 in
theorem pdq_none (p : Option Addr) (cap : Nat) (lim : Int) (fv : Value) (w : World) :
    Calls Tryz.prog 305 #[.slice p 0 cap, .int .i64 0, .int .i64 0, .int .i64 lim, fv] w fun e w' => e = .returned (.tuple #[]) ∧ w' = w := by
  go_enter Tryz.func305, Tryz.ntmps305
  go_wp2
  refine wp_loop_rounds 1 ?_
  rw [rounds_succ]
  go_wp2_with (go_at_call 308; refine (ins_none _ _ _ _).mono ?_; rintro e w' ⟨rfl, rfl⟩)
  (try simp only [Exit.inBlock, Exit.then])
  refine bodyPost_ret (results_none rfl _ _ _) rfl ?_
  exact ⟨rfl, rfl⟩
set_option maxHeartbeats 1000000 in
theorem len64_0 (w : World) : Calls Tryz.prog 317 #[.int .u64 0] w fun e w' => (∃ z : Int, e = .returned (.int .i64 z)) ∧ w' = w := by
  go_enter Tryz.func317, Tryz.ntmps317
  go_wp2
  go_ret
  exact ⟨⟨_, rfl⟩, rfl⟩
set_option maxHeartbeats 1000000 in
theorem len_0 (w : World) : Calls Tryz.prog 306 #[.int .u64 0] w fun e w' => (∃ z : Int, e = .returned (.int .i64 z)) ∧ w' = w := by
  go_enter Tryz.func306, Tryz.ntmps306
  go_wp2_with (go_at_call 317; refine (len64_0 _).mono ?_; rintro e w' ⟨⟨z, rfl⟩, rfl⟩)
  go_ret
  exact ⟨⟨_, rfl⟩, rfl⟩
set_option maxHeartbeats 1000000 in
theorem sort_none (p : Option Addr) (cap : Nat) (fv : Value) (w : World) : Calls Tryz.prog 301 #[.slice p 0 cap, fv] w fun e w' => e = .returned (.tuple #[]) ∧ w' = w := by
  go_enter Tryz.func301, Tryz.ntmps301
  go_wp2_with (first | (go_at_call 306; refine (len_0 _).mono ?_; rintro e w' ⟨⟨z, rfl⟩, rfl⟩) | (go_at_call 305; refine (pdq_none _ _ _ _ _).mono ?_; rintro e w' ⟨rfl, rfl⟩))
  go_end0
  exact ⟨rfl, rfl⟩

set_option maxHeartbeats 2000000 in
theorem due_one (d : Ms) (qb gd cd : Nat) (now : Int) (w : World) (c7 : w.cell? ⟨qb, 7, none⟩ = some (.slice (some ⟨gd, 0, none⟩) 1 cd)) (hgd : gd < w.heap.size) (hc : ∀ i u, d.row[i]? = some u → w.cell? ⟨gd, i, none⟩ = some u) (htil : d.til = 0) :
    Calls Tryz.prog 297 #[.pointer (some ⟨qb, 0, none⟩), .int .i64 now] w fun e w' => e = .returned (.slice none 0 0) ∧ Below w.heap.size w w' := by
  have h0 : w.cell? ⟨gd, 0, none⟩ = some (.int .i64 d.num) := hc 0 _ rfl
  have h1 : w.cell? ⟨gd, 1, none⟩ = some (.string d.grp) := hc 1 _ rfl
  have h2 : w.cell? ⟨gd, 2, none⟩ = some (.string d.bod) := hc 2 _ rfl
  have h3 : w.cell? ⟨gd, 3, none⟩ = some (.int .i64 d.rcv) := hc 3 _ rfl
  have h4 : w.cell? ⟨gd, 4, none⟩ = some (.int .i64 0) := by rw [← htil]; exact hc 4 _ rfl
  clear hc
  go_enter Tryz.func297, Tryz.ntmps297
  go_wp2
  refine wp_loop_rounds 2 ?_
  rw [rounds_succ]
  go_wp2
  rw [rounds_succ]
  go_wp2_with (go_at_call 301; refine (sort_none _ _ _ _).mono ?_; rintro e w' ⟨rfl, rfl⟩)
  refine wp_loop_rounds 1 ?_
  rw [rounds_succ]
  go_wp2
  go_ret
  exact ⟨rfl, (Below.refl _ _).alloc (Nat.le_refl _) _⟩

/-- The dead letter. -/
theorem dead_any (qb : Nat) (w : World) (c1 : w.cell? ⟨qb, 1, none⟩ = some (.int .u8 45)) (st : Nat) : Calls Tryz.prog 204 #[.pointer (some ⟨st, 0, none⟩), .pointer (some ⟨qb, 0, none⟩)] w fun e w' => e = .returned (.pointer none) ∧ w' = w := by
  have hd : ∀ W : World, W = w → Calls Tryz.prog 261 #[.pointer (some ⟨qb, 0, none⟩)] W fun e w' => e = .returned (.int .u8 45) ∧ w' = w := fun W hW => by
    subst hW
    go_enter Tryz.func261, Tryz.ntmps261
    go_wp2
    go_ret
    exact ⟨rfl, rfl⟩
  go_enter Tryz.func204, Tryz.ntmps204
  go_wp2_with (go_at_call 261; refine (hd _ rfl).mono ?_; rintro e w' ⟨rfl, rfl⟩)
  go_ret
  exact ⟨rfl, rfl⟩

set_option maxHeartbeats 2000000 in
theorem bring_one (d : Ms) (st qb gd cd : Nat) (now : Int) (w : World) (c0 : w.cell? ⟨st, 0, none⟩ = some (.int .i64 now)) (c1 : w.cell? ⟨qb, 1, none⟩ = some (.int .u8 45)) (c7 : w.cell? ⟨qb, 7, none⟩ = some (.slice (some ⟨gd, 0, none⟩) 1 cd)) (hgd : gd < w.heap.size) (hc : ∀ i u, d.row[i]? = some u → w.cell? ⟨gd, i, none⟩ = some u) (htil : d.til = 0) :
    Calls Tryz.prog 271 #[.pointer (some ⟨st, 0, none⟩), .pointer (some ⟨qb, 0, none⟩)] w fun e w' => e = .returned (.tuple #[]) ∧ Below w.heap.size w w' := by
  have HD : Hid (Calls Tryz.prog 204 _ w _) := dead_any qb w c1 st
  have HU : Hid (Calls Tryz.prog 297 _ w _) := due_one d qb gd cd now w c7 hgd hc htil
  clear hc
  go_enter Tryz.func271, Tryz.ntmps271
  go_wp2_with (first | (go_at_call 204; refine HD.out.mono ?_; rintro e w' ⟨rfl, rfl⟩) | (go_at_call 297; refine HU.out.mono ?_; rintro e w' ⟨rfl, hb⟩))
  refine wp_loop_rounds 1 ?_
  rw [rounds_succ]
  go_wp2
  go_end0
  exact ⟨rfl, by assumption⟩
end Go.Proofs.YtbdobaapadlcjaaGreatDoor
