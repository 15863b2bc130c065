/-
  THE WALKS of there (203), slices.DeleteFunc at dedups (240) and at no attempts (242), Forget (204).
-/
import Derived.Test.YtohanpmkgpcdcaaGreatDoorTkO
import Derived.Lib.SliceRun
namespace Go.Proofs.YtohanpmkgpcdcaaGreatDoor
open Go.Shelf Go.RowKit Go.Lib
set_option linter.unusedVariables false

theorem info145 : (Tryz.prog.info? 145).map (fun i => (i.zero, i.size, i.bytes)) = some (some (.pointer none), 1, 8) := by kernel_rfl

theorem ix0 (qb : Nat) (W : World) : (Instr.index 146 (.agg #[.pointer (some ⟨qb, 0, none⟩), .pointer none, .pointer none, .pointer none, .pointer none, .pointer none, .pointer none, .pointer none]) (.int .i64 0)).run Tryz.prog W = .ok (.pointer (some ⟨qb, 0, none⟩)) W := by kernel_rfl
theorem ix1 (qb : Nat) (W : World) : (Instr.index 146 (.agg #[.pointer (some ⟨qb, 0, none⟩), .pointer none, .pointer none, .pointer none, .pointer none, .pointer none, .pointer none, .pointer none]) (.int .i64 1)).run Tryz.prog W = .ok (.pointer none) W := by kernel_rfl
theorem ix2 (qb : Nat) (W : World) : (Instr.index 146 (.agg #[.pointer (some ⟨qb, 0, none⟩), .pointer none, .pointer none, .pointer none, .pointer none, .pointer none, .pointer none, .pointer none]) (.int .i64 2)).run Tryz.prog W = .ok (.pointer none) W := by kernel_rfl
theorem ix3 (qb : Nat) (W : World) : (Instr.index 146 (.agg #[.pointer (some ⟨qb, 0, none⟩), .pointer none, .pointer none, .pointer none, .pointer none, .pointer none, .pointer none, .pointer none]) (.int .i64 3)).run Tryz.prog W = .ok (.pointer none) W := by kernel_rfl
theorem ix4 (qb : Nat) (W : World) : (Instr.index 146 (.agg #[.pointer (some ⟨qb, 0, none⟩), .pointer none, .pointer none, .pointer none, .pointer none, .pointer none, .pointer none, .pointer none]) (.int .i64 4)).run Tryz.prog W = .ok (.pointer none) W := by kernel_rfl
theorem ix5 (qb : Nat) (W : World) : (Instr.index 146 (.agg #[.pointer (some ⟨qb, 0, none⟩), .pointer none, .pointer none, .pointer none, .pointer none, .pointer none, .pointer none, .pointer none]) (.int .i64 5)).run Tryz.prog W = .ok (.pointer none) W := by kernel_rfl
theorem ix6 (qb : Nat) (W : World) : (Instr.index 146 (.agg #[.pointer (some ⟨qb, 0, none⟩), .pointer none, .pointer none, .pointer none, .pointer none, .pointer none, .pointer none, .pointer none]) (.int .i64 6)).run Tryz.prog W = .ok (.pointer none) W := by kernel_rfl
theorem ix7 (qb : Nat) (W : World) : (Instr.index 146 (.agg #[.pointer (some ⟨qb, 0, none⟩), .pointer none, .pointer none, .pointer none, .pointer none, .pointer none, .pointer none, .pointer none]) (.int .i64 7)).run Tryz.prog W = .ok (.pointer none) W := by kernel_rfl

set_option maxRecDepth 8000 in
set_option maxHeartbeats 4000000 in
theorem there_any (st b qb : Nat) (now : Int) (w : World) (hst : w.heap[st]? = some (.cells (stC now (.pointer (some ⟨qb, 0, none⟩)) b) 148 (0, 0))) :
    Calls Tryz.prog 203 #[.pointer (some ⟨st, 0, none⟩)] w fun e w' => ∃ g cap, e = .returned (.slice (some ⟨g, 0, none⟩) 1 cap) ∧ w'.cell? ⟨g, 0, none⟩ = some (.pointer (some ⟨qb, 0, none⟩)) ∧ Below w.heap.size w w' := by
  have c1 := stC_q _ _ _ _ _ hst
  have c2 : w.cell? ⟨st, 2, none⟩ = some (.pointer none) := by simp [World.cell?, hst, stC, deedsC]
  have c3 : w.cell? ⟨st, 3, none⟩ = some (.pointer none) := by simp [World.cell?, hst, stC, deedsC]
  have c4 : w.cell? ⟨st, 4, none⟩ = some (.pointer none) := by simp [World.cell?, hst, stC, deedsC]
  have c5 : w.cell? ⟨st, 5, none⟩ = some (.pointer none) := by simp [World.cell?, hst, stC, deedsC]
  have c6 : w.cell? ⟨st, 6, none⟩ = some (.pointer none) := by simp [World.cell?, hst, stC, deedsC]
  have c7 : w.cell? ⟨st, 7, none⟩ = some (.pointer none) := by simp [World.cell?, hst, stC, deedsC]
  have c8 : w.cell? ⟨st, 8, none⟩ = some (.pointer none) := by simp [World.cell?, hst, stC, deedsC]
  clear hst
  obtain ⟨i0, hi, hz0, hz1, hz2⟩ := info_parts info145
  have x0 := ix0 qb
  have x1 := ix1 qb
  have x2 := ix2 qb
  have x3 := ix3 qb
  have x4 := ix4 qb
  have x5 := ix5 qb
  have x6 := ix6 qb
  have x7 := ix7 qb
  go_enter Tryz.func203, Tryz.ntmps203
  go_wp2
  refine wp_loop_rounds 9 ?_
  rw [rounds_succ]
  go_wp2_with (at_builtin; refine wpList_append_own _ rfl _ _ 249 rfl w.heap.size 145 i0 (.pointer none) 1 8 Tryz.underlying249 hi hz0 hz1 hz2 rfl (by decide) (.slice none 0 0) 0 [] rfl (World.ownsRow_nil _ _ _ _) ⟨w.heap.size, 0, none⟩ 1 1 [.pointer (some ⟨qb, 0, none⟩)] rfl rfl ?c1 ?c2 (by decide) (by decide) (by simp) ?_)
  case c1 => exact cell_one_new _ _ _
  case c2 => intro u hu; simp at hu; subst hu; rfl
  intro v' w1 hown hgrow _
  obtain ⟨g, cap, cur, rfl, hbase, hrow, _, _, _, htk⟩ : ∃ g cap cur, v' = .slice (some ⟨g, 0, none⟩) 1 cap ∧ w.heap.size ≤ g ∧ w1.heap[g]? = some (.cells cur 145 (0, 0)) ∧ 1 ≤ cap ∧ cap ≤ maxLen ∧ cur.size = cap * 1 ∧ cur.toList.take (1 * 1) = [.pointer (some ⟨qb, 0, none⟩)] := by
    rcases hown.2 with ⟨_, h⟩ | h
    · simp at h
    · exact h
  have HC : Hid (w1.cell? ⟨g, 0, none⟩ = some (.pointer (some ⟨qb, 0, none⟩))) := by
    have h := World.ownsRow.cells hown (g := g) rfl 0 (.pointer (some ⟨qb, 0, none⟩)) rfl
    exact h
  have HB : Hid (Below w.heap.size w w1) := Below.grown ((Below.refl _ _).alloc (Nat.le_refl _) _) hgrow (by simp) (fun k hk => by simp [Value.ownBlock] at hk)
  clear hown hgrow hrow htk hbase
  go_wp2
  iterate 7 (rw [rounds_succ]; go_wp2)
  rw [rounds_succ]
  go_wp2
  go_ret
  exact ⟨g, cap, rfl, HC.out, HB.out⟩
end Go.Proofs.YtohanpmkgpcdcaaGreatDoor
