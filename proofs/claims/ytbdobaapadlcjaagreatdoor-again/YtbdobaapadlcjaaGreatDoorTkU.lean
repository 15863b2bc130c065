/-
  THE WALKS of there (203), slices.DeleteFunc at dedups (240) and at no attempts (242), Forget (204).
  THE WALKS of slices.DeleteFunc at dedups (240) and at no attempts (242), Forget (204).
-/
import Derived.Test.YtbdobaapadlcjaaGreatDoorTkO
import Derived.Lib.SliceRun
namespace Go.Proofs.YtbdobaapadlcjaaGreatDoor
open Go.Shelf Go.RowKit Go.Lib
set_option linter.unusedVariables false

theorem info145 : (Tryz.prog.info? 152).map (fun i => (i.zero, i.size, i.bytes)) = some (some (.pointer none), 1, 8) := by kernel_rfl

theorem ix0 (qb : Nat) (W : World) : (Instr.index 153 (.agg #[.pointer (some ⟨qb, 0, none⟩), .pointer none, .pointer none, .pointer none, .pointer none, .pointer none, .pointer none, .pointer none]) (.int .i64 0)).run Tryz.prog W = .ok (.pointer (some ⟨qb, 0, none⟩)) W := by kernel_rfl
theorem ix1 (qb : Nat) (W : World) : (Instr.index 153 (.agg #[.pointer (some ⟨qb, 0, none⟩), .pointer none, .pointer none, .pointer none, .pointer none, .pointer none, .pointer none, .pointer none]) (.int .i64 1)).run Tryz.prog W = .ok (.pointer none) W := by kernel_rfl
theorem ix2 (qb : Nat) (W : World) : (Instr.index 153 (.agg #[.pointer (some ⟨qb, 0, none⟩), .pointer none, .pointer none, .pointer none, .pointer none, .pointer none, .pointer none, .pointer none]) (.int .i64 2)).run Tryz.prog W = .ok (.pointer none) W := by kernel_rfl
theorem ix3 (qb : Nat) (W : World) : (Instr.index 153 (.agg #[.pointer (some ⟨qb, 0, none⟩), .pointer none, .pointer none, .pointer none, .pointer none, .pointer none, .pointer none, .pointer none]) (.int .i64 3)).run Tryz.prog W = .ok (.pointer none) W := by kernel_rfl
theorem ix4 (qb : Nat) (W : World) : (Instr.index 153 (.agg #[.pointer (some ⟨qb, 0, none⟩), .pointer none, .pointer none, .pointer none, .pointer none, .pointer none, .pointer none, .pointer none]) (.int .i64 4)).run Tryz.prog W = .ok (.pointer none) W := by kernel_rfl
theorem ix5 (qb : Nat) (W : World) : (Instr.index 153 (.agg #[.pointer (some ⟨qb, 0, none⟩), .pointer none, .pointer none, .pointer none, .pointer none, .pointer none, .pointer none, .pointer none]) (.int .i64 5)).run Tryz.prog W = .ok (.pointer none) W := by kernel_rfl
theorem ix6 (qb : Nat) (W : World) : (Instr.index 153 (.agg #[.pointer (some ⟨qb, 0, none⟩), .pointer none, .pointer none, .pointer none, .pointer none, .pointer none, .pointer none, .pointer none]) (.int .i64 6)).run Tryz.prog W = .ok (.pointer none) W := by kernel_rfl
theorem ix7 (qb : Nat) (W : World) : (Instr.index 153 (.agg #[.pointer (some ⟨qb, 0, none⟩), .pointer none, .pointer none, .pointer none, .pointer none, .pointer none, .pointer none, .pointer none]) (.int .i64 7)).run Tryz.prog W = .ok (.pointer none) W := by kernel_rfl

set_option maxRecDepth 8000 in
set_option maxHeartbeats 4000000 in
theorem there_any (st b qb : Nat) (now : Int) (w : World) (hst : w.heap[st]? = some (.cells (stC now (.pointer (some ⟨qb, 0, none⟩)) b) 156 (0, 0))) :
    Calls Tryz.prog 93 #[.pointer (some ⟨st, 0, none⟩)] w fun e w' => ∃ g cap, e = .returned (.slice (some ⟨g, 0, none⟩) 1 cap) ∧ w'.cell? ⟨g, 0, none⟩ = some (.pointer (some ⟨qb, 0, none⟩)) ∧ Below w.heap.size w w' := by
  have c1 := stC_q _ _ _ _ _ hst
  have c2 : w.cell? ⟨st, 2, none⟩ = some (.pointer none) := by simp [World.cell?, hst, stC, deedsC]
  have c3 : w.cell? ⟨st, 3, none⟩ = some (.pointer none) := by simp [World.cell?, hst, stC, deedsC]
  have c4 : w.cell? ⟨st, 4, none⟩ = some (.pointer none) := by simp [World.cell?, hst, stC, deedsC]
  have c5 : w.cell? ⟨st, 5, none⟩ = some (.pointer none) := by simp [World.cell?, hst, stC, deedsC]
  have c6 : w.cell? ⟨st, 6, none⟩ = some (.pointer none) := by simp [World.cell?, hst, stC, deedsC]
  have c7 : w.cell? ⟨st, 7, none⟩ = some (.pointer none) := by simp [World.cell?, hst, stC, deedsC]
  have c8 : w.cell? ⟨st, 8, none⟩ = some (.pointer none) := by simp [World.cell?, hst, stC, deedsC]
  clear hst
  obtain ⟨i0, hi, hz0, hz1, hz2⟩ := info_parts info145
  have x0 := ix0 qb
  have x1 := ix1 qb
  have x2 := ix2 qb
  have x3 := ix3 qb
  have x4 := ix4 qb
  have x5 := ix5 qb
  have x6 := ix6 qb
  have x7 := ix7 qb
  go_enter Tryz.func93, Tryz.ntmps93
  go_wp2
  refine wp_loop_rounds 9 ?_
  rw [rounds_succ]
  go_wp2_with (at_builtin; refine wpList_append_own _ rfl _ _ 159 rfl w.heap.size 152 i0 (.pointer none) 1 8 Tryz.underlying159 hi hz0 hz1 hz2 rfl (by decide) (.slice none 0 0) 0 [] rfl (World.ownsRow_nil _ _ _ _) ⟨w.heap.size, 0, none⟩ 1 1 [.pointer (some ⟨qb, 0, none⟩)] rfl rfl ?c1 ?c2 (by decide) (by decide) (by simp) ?_)
  case c1 => exact cell_one_new _ _ _
  case c2 => intro u hu; simp at hu; subst hu; rfl
  intro v' w1 hown hgrow _
  obtain ⟨g, cap, cur, rfl, hbase, hrow, _, _, _, htk⟩ : ∃ g cap cur, v' = .slice (some ⟨g, 0, none⟩) 1 cap ∧ w.heap.size ≤ g ∧ w1.heap[g]? = some (.cells cur 152 (0, 0)) ∧ 1 ≤ cap ∧ cap ≤ maxLen ∧ cur.size = cap * 1 ∧ cur.toList.take (1 * 1) = [.pointer (some ⟨qb, 0, none⟩)] := by
    rcases hown.2 with ⟨_, h⟩ | h
    · simp at h
    · exact h
  have HC : Hid (w1.cell? ⟨g, 0, none⟩ = some (.pointer (some ⟨qb, 0, none⟩))) := by
    have h := World.ownsRow.cells hown (g := g) rfl 0 (.pointer (some ⟨qb, 0, none⟩)) rfl
    exact h
  have HB : Hid (Below w.heap.size w w1) := Below.grown ((Below.refl _ _).alloc (Nat.le_refl _) _) hgrow (by simp) (fun k hk => by simp [Value.ownBlock] at hk)
  clear hown hgrow hrow htk hbase
  go_wp2
  iterate 7 (rw [rounds_succ]; go_wp2)
  rw [rounds_succ]
  go_wp2
  go_ret
  exact ⟨g, cap, rfl, HC.out, HB.out⟩
end Go.Proofs.YtbdobaapadlcjaaGreatDoor

namespace Go.Proofs.YtbdobaapadlcjaaGreatDoor
open Go.Shelf Go.RowKit Go.Lib
set_option linter.unusedVariables false

theorem eg241 : ∀ args w, (callFunc 294 args).run Tryz.prog w = .ok (.enter 294 args) w := enters_of Tryz.func294 (by kernel_rfl) rfl

theorem del_pred (now : Int) (B : Nat) (w : World) (hB : B < w.heap.size) (hcell : w.cell? ⟨B, 0, none⟩ = some (.int .i64 now)) :
    PredBelow Tryz.prog 294 #[.pointer (some ⟨B, 0, none⟩)] (fun x : Dd => .agg x.row.toArray) (fun x => decide (x.til ≤ now)) w := fun W x hb => by
  have hc : W.cell? ⟨B, 0, none⟩ = some (.int .i64 now) := (hb.cell (p := ⟨B, 0, none⟩) hB).trans hcell
  have hBW : B < W.heap.size := Nat.lt_of_lt_of_le hB hb.size
  have hne : B ≠ W.heap.size := by omega
  show Calls Tryz.prog 294 #[.agg #[.string x.id, .int .i64 x.num, .int .i64 x.til], .pointer (some ⟨B, 0, none⟩)] W _
  go_enter Tryz.func294, Tryz.ntmps294
  go_wp2
  all_goals (go_ret; exact ⟨by simp_all, hb.alloc hb.size _⟩)

theorem dd_cells {w : World} {gd cd : Nat} {d : Dd} (h : w.ownsRow 0 230 3 (.slice (some ⟨gd, 0, none⟩) 1 cd) 1 d.row) : ∀ i v, d.row[i]? = some v → w.cell? ⟨gd, i, none⟩ = some v := fun i v hi => by
  have h1 := World.ownsRow.cells h (g := gd) rfl i v hi
  have e : (⟨gd, 0, none⟩ : Addr).add i = ⟨gd, i, none⟩ := by unfold Addr.add; split <;> simp_all
  rw [e] at h1
  exact h1

theorem idx_del (d : Dd) (now : Int) (gd cd B : Nat) (w : World) (hB : B < w.heap.size) (hcell : w.cell? ⟨B, 0, none⟩ = some (.int .i64 now)) (hd : w.ownsRow 0 230 3 (.slice (some ⟨gd, 0, none⟩) 1 cd) 1 d.row) :
    Calls Tryz.prog 268 #[.slice (some ⟨gd, 0, none⟩) 1 cd, .func (.func 294) #[] #[.pointer (some ⟨B, 0, none⟩)]] w fun e w' => e = .returned (.int .i64 (if d.til ≤ now then 0 else -1)) ∧ Below w.heap.size w w' := by
  have hc := dd_cells hd
  have inh : Inhabited Dd := ⟨⟨⟨#[]⟩, 0, 0⟩⟩
  have h := AnyQ.slices_IndexFunc l201 3 Tryz.isAgg230 Tryz.sizeOf230 Dd.row (fun _ => rfl) (fun x => decide (x.til ≤ now)) 294 #[.pointer (some ⟨B, 0, none⟩)] eg241 gd 0 1 cd [d] w (del_pred now B w hB hcell) (by simp) (by decide) (own_lt hd rfl) (fun j hj i v hi => by
    have hj0 : j = 0 := by simpa using hj
    subst hj0
    simpa using hc i v hi)
  have he : Lib.idxBy (fun _ y : Dd => decide (y.til ≤ now)) ([d].take 1) default = if d.til ≤ now then 0 else -1 := by
    by_cases hle : d.til ≤ now
    · rw [if_pos hle, Lib.idxBy_hit (fun _ y : Dd => decide (y.til ≤ now)) [d] 1 0 default (by decide) (by simp) (by simpa using hle) (fun j hj => absurd hj (Nat.not_lt_zero _))]
      rfl
    · rw [if_neg hle, Lib.idxBy_miss (fun _ y : Dd => decide (y.til ≤ now)) [d] 1 default (fun j hj => by
        have hj0 : j = 0 := by omega
        subst hj0
        simpa using hle)]
  rw [he] at h
  exact h

theorem zero219 (w : World) : (zeroValue 230).run Tryz.prog w = .ok (.agg #[.string ⟨#[]⟩, .int .i64 0, .int .i64 0]) w := by kernel_rfl
theorem run_clear_dd (w : World) (ty : TypeId) (gd cd : Nat) (cur : Array Value) (hrow : w.heap[gd]? = some (.cells cur 230 (0, 0))) (h3 : 3 ≤ cur.size) :
    (Builtin.clear_ #[188] ty #[.slice (some ⟨gd, 0, none⟩) 1 cd]).run Tryz.prog w = .ok (.tuple #[]) (w.setCells gd 0 [.string ⟨#[]⟩, .int .i64 0, .int .i64 0]) := by
  have hst := run_storeCells_cells (P := Tryz.prog) gd 0 [.string ⟨#[]⟩, .int .i64 0, .int .i64 0] 0 w (fun j hj => by
    have hj3 : j < 3 := hj
    rw [show 0 + 0 + j = j by omega, cell_of_row w gd j cur 230 (0, 0) hrow, Array.getElem?_eq_getElem (by omega)]
    rfl) (fun j hj => frozen_of_row w gd _ cur 230 hrow) (fun v hv => by
    simp at hv
    rcases hv with rfl | rfl | rfl <;> rfl)
  simp only [Nat.add_zero] at hst
  have hzc : (Builtin.zeroCells (Value.cells (.agg #[.string ⟨#[]⟩, .int .i64 0, .int .i64 0])) 1).toList = [.string ⟨#[]⟩, .int .i64 0, .int .i64 0] := by kernel_rfl
  simp [Builtin.clear_, run_underlying Tryz.underlying188, hzc, hst]
theorem clear_own {w : World} {gd cd : Nat} {cur : Array Value} (hrow : w.heap[gd]? = some (.cells cur 230 (0, 0))) (hcd : cd ≤ maxLen) (hs : cur.size = cd * 3) :
    (w.setCells gd 0 [.string ⟨#[]⟩, .int .i64 0, .int .i64 0]).ownsRow 0 230 3 (.slice (some ⟨gd, 0, none⟩) 0 cd) 0 [] := by
  have h1 := heap_setCell_same w gd 0 cur 230 (.string ⟨#[]⟩) hrow
  have h2 := heap_setCell_same _ gd 1 _ 230 (.int .i64 0) h1
  have h3 := heap_setCell_same _ gd 2 _ 230 (.int .i64 0) h2
  exact ⟨rfl, .inr ⟨gd, cd, _, rfl, Nat.zero_le _, h3, Nat.zero_le _, hcd, by simpa using hs, by simp⟩⟩
theorem clear_tch (w : World) (gd : Nat) (a b c : Value) : Tch [gd] w (w.setCells gd 0 [a, b, c]) := (((Tch.refl _ _).setCell (fun _ => by simp) _).setCell (fun _ => by simp) _).setCell (fun _ => by simp) _

set_option maxHeartbeats 2000000 in
theorem del_keep (d : Dd) (now : Int) (gd cd B : Nat) (w : World) (hB : B < w.heap.size) (hcell : w.cell? ⟨B, 0, none⟩ = some (.int .i64 now)) (hd : w.ownsRow 0 230 3 (.slice (some ⟨gd, 0, none⟩) 1 cd) 1 d.row) (hk : now < d.til) :
    Calls Tryz.prog 293 #[.slice (some ⟨gd, 0, none⟩) 1 cd, .func (.func 294) #[] #[.pointer (some ⟨B, 0, none⟩)]] w fun e w' => e = .returned (.slice (some ⟨gd, 0, none⟩) 1 cd) ∧ Below w.heap.size w w' := by
  have h := idx_del d now gd cd B w hB hcell hd
  rw [if_neg (by omega)] at h
  have HI : Hid (Calls Tryz.prog 268 _ w _) := h
  clear h hd
  go_enter Tryz.func293, Tryz.ntmps293
  go_wp2_with (go_at_call 268; refine HI.out.mono ?_; rintro e w' ⟨rfl, hb⟩)
  go_ret
  exact ⟨rfl, by assumption⟩

set_option maxHeartbeats 2000000 in
theorem del_drop (d : Dd) (now : Int) (gd cd B : Nat) (w : World) (hB : B < w.heap.size) (hcell : w.cell? ⟨B, 0, none⟩ = some (.int .i64 now)) (hd : w.ownsRow 0 230 3 (.slice (some ⟨gd, 0, none⟩) 1 cd) 1 d.row) (hk : d.til ≤ now) :
    Calls Tryz.prog 293 #[.slice (some ⟨gd, 0, none⟩) 1 cd, .func (.func 294) #[] #[.pointer (some ⟨B, 0, none⟩)]] w fun e w' => e = .returned (.slice (some ⟨gd, 0, none⟩) 0 cd) ∧ Tch [gd] w w' ∧ w'.ownsRow 0 230 3 (.slice (some ⟨gd, 0, none⟩) 0 cd) 0 [] := by
  have h := idx_del d now gd cd B w hB hcell hd
  rw [if_pos hk] at h
  have HI : Hid (Calls Tryz.prog 268 _ w _) := h
  obtain ⟨cur, hrow, h1c, hcm, hcs⟩ : ∃ cur, w.heap[gd]? = some (.cells cur 230 (0, 0)) ∧ 1 ≤ cd ∧ cd ≤ maxLen ∧ cur.size = cd * 3 := by
    rcases hd.2 with ⟨e, _⟩ | ⟨g', cap', cur, e, _, hr, h1, h2, h3, _⟩
    · simp at e
    · simp at e
      obtain ⟨rfl, rfl⟩ := e
      exact ⟨cur, hr, h1, h2, h3⟩
  have hgd := lt_of_block hrow
  have HR : Hid (w.heap[gd]? = some (.cells cur 230 (0, 0))) := hrow
  clear h hd hrow
  go_enter Tryz.func293, Tryz.ntmps293
  go_wp2_with fail
  refine HI.out.mono ?_
  rintro e w1 ⟨rfl, hb⟩
  have hr1 : w1.heap[gd]? = some (.cells cur 230 (0, 0)) := (hb.block _ hgd).trans HR.out
  have hclr := fun ty => run_clear_dd w1 ty gd cd cur hr1 (by omega)
  have HO : Hid ((w1.setCells gd 0 [.string ⟨#[]⟩, .int .i64 0, .int .i64 0]).ownsRow 0 230 3 (.slice (some ⟨gd, 0, none⟩) 0 cd) 0 []) := clear_own hr1 hcm hcs
  have HT : Hid (Tch [gd] w (w1.setCells gd 0 [.string ⟨#[]⟩, .int .i64 0, .int .i64 0])) := ((Tch.of_below hb).sub (by simp)).trans (clear_tch w1 gd _ _ _) (fun _ h _ => h)
  generalize w1.setCells gd 0 [.string ⟨#[]⟩, .int .i64 0, .int .i64 0] = w2 at *
  have h1c' : (1 : Int) ≤ (cd : Int) := by omega
  clear hb hr1
  go_wp2
  refine wp_loop_rounds 1 ?_
  rw [rounds_succ]
  go_wp2
  go_ret
  exact ⟨rfl, HT.out, HO.out⟩
end Go.Proofs.YtbdobaapadlcjaaGreatDoor
