import Derived.Test.YtbdobaapadlcjaaGreatDoorOx11
import Derived.Deep.RegionHeld3
import Derived.Test.YtbdobaapadlcjaaGreatDoorOx00
import Derived.Shelf.SlLaysH0
import Derived.Shelf.SlicesQ.IndexFunc
import Derived.Ground.SlgfProg
import Derived.Lib.SliceRun
import Derived.Deep.QuietTactic
import Derived.BigQuiet
import Derived.Test.YtbdobaapadlcjaaGreatDoorOx09
namespace Go.Proofs.YtbdobaapadlcjaaGreatDoor
open Go.RowKit
set_option linter.unusedVariables false
set_option linter.unusedSimpArgs false
def qC (r : Wp.Rq) (next : Int) (ms rs ds at_ : Value) : Array Value := #[.int .u8 (r.q.toNat : Int), .int .u8 (r.d.toNat : Int), .int .i64 r.vis, .int .i64 r.win, .int .i64 r.rcv, .int .i64 r.quo, .int .i64 next, ms, rs, ds, at_]
set_option maxHeartbeats 2000000 in
theorem qnew_any (r : Wp.Rq) (x : Sl) (w : World) : Calls Tryz.prog 168 #[.agg (cellsOf r x.v)] w fun e w' =>
    e = .returned (.pointer (some ⟨w.heap.size + 1, 0, none⟩)) ∧ w' = (w.alloc (.cells (cellsOf r x.v) 27)).alloc (.cells (qC r 1 (.slice none 0 0) (.slice none 0 0) (.slice none 0 0) (.slice none 0 0)) 191) := by
  rw [show cellsOf r x.v = #[.int .u8 (r.op.toNat : Int), .int .u8 (r.q.toNat : Int), .int .u8 (r.d.toNat : Int), .int .i64 r.vis, .int .i64 r.win, .int .i64 r.rcv, .int .i64 r.quo, .int .i64 r.mx, .int .i64 r.tic, .string r.grp, .string r.ded, .string r.bod, .string r.att, .string r.han, .slice x.a x.n x.c] from rfl]
  go_enter Tryz.func168, Tryz.ntmps168
  go_wp2
  go_ret
  exact ⟨rfl, rfl⟩
end Go.Proofs.YtbdobaapadlcjaaGreatDoor
namespace Go.Proofs.YtbdobaapadlcjaaGreatDoor
open Go.Shelf Go.RowKit Go.Lib
set_option linter.unusedVariables false
set_option linter.unusedSimpArgs false
def l201_ren : Go.Shelf.Ren := ⟨fun | 6 => 268 | n => n, fun | 22 => 188 | 23 => 230 | 25 => 302 | 3 => 3 | 0 => 0 | 4 => 4 | n => n, fun | n => n⟩
theorem l201 : Go.Proofs.SlLaysH0.n6 Tryz.prog l201_ren := {
  mixed := by kernel_rfl
  f6 := ⟨Tryz.f268.name, by decide, Tryz.func268.trans (congrArg some (by kernel_rfl))⟩
  t0 := Tryz.underlying0
  a0 := Tryz.isAgg0
  z0 := Tryz.sizeOf0
  v0 := Tryz.zeroValue0
  t3 := Tryz.underlying3
  a3 := Tryz.isAgg3
  z3 := Tryz.sizeOf3
  v3 := Tryz.zeroValue3
  t4 := Tryz.underlying4
  a4 := Tryz.isAgg4
  z4 := Tryz.sizeOf4
  v4 := Tryz.zeroValue4
  t22 := Tryz.underlying188
  a22 := Tryz.isAgg188
  z22 := Tryz.sizeOf188
  v22 := Tryz.zeroValue188
  t25 := Tryz.underlying302
  a25 := Tryz.isAgg302
  z25 := Tryz.sizeOf302
  v25 := Tryz.zeroValue302 }
def l197_ren : Go.Shelf.Ren := ⟨fun | 6 => 264 | n => n, fun | 22 => 187 | 23 => 226 | 25 => 294 | 3 => 3 | 0 => 0 | 4 => 4 | n => n, fun | n => n⟩
theorem l197 : Go.Proofs.SlLaysH0.n6 Tryz.prog l197_ren := {
  mixed := by kernel_rfl
  f6 := ⟨Tryz.f264.name, by decide, Tryz.func264.trans (congrArg some (by kernel_rfl))⟩
  t0 := Tryz.underlying0
  a0 := Tryz.isAgg0
  z0 := Tryz.sizeOf0
  v0 := Tryz.zeroValue0
  t3 := Tryz.underlying3
  a3 := Tryz.isAgg3
  z3 := Tryz.sizeOf3
  v3 := Tryz.zeroValue3
  t4 := Tryz.underlying4
  a4 := Tryz.isAgg4
  z4 := Tryz.sizeOf4
  v4 := Tryz.zeroValue4
  t22 := Tryz.underlying187
  a22 := Tryz.isAgg187
  z22 := Tryz.sizeOf187
  v22 := Tryz.zeroValue187
  t25 := Tryz.underlying294
  a25 := Tryz.isAgg294
  z25 := Tryz.sizeOf294
  v25 := Tryz.zeroValue294 }
structure Dd where
  id : ByteArray
  num : Int
  til : Int
def Dd.row (x : Dd) : List Value := [.string x.id, .int .i64 x.num, .int .i64 x.til]
structure Ms where
  num : Int
  grp : ByteArray
  bod : ByteArray
  rcv : Int
  til : Int
def Ms.row (x : Ms) : List Value := [.int .i64 x.num, .string x.grp, .string x.bod, .int .i64 x.rcv, .int .i64 x.til]
theorem dd_pred (id : ByteArray) (B : Nat) (w : World) (hB : B < w.heap.size) (hcell : w.cell? ⟨B, 0, none⟩ = some (.string id)) :
    PredBelow Tryz.prog 269 #[.pointer (some ⟨B, 0, none⟩)] (fun x : Dd => .agg x.row.toArray) (fun x => x.id.toList == id.toList) w := fun W x hb => by
  have hc : W.cell? ⟨B, 0, none⟩ = some (.string id) := (hb.cell (p := ⟨B, 0, none⟩) hB).trans hcell
  have hBW : B < W.heap.size := Nat.lt_of_lt_of_le hB hb.size
  have hne : B ≠ W.heap.size := by omega
  show Calls Tryz.prog 269 #[.agg #[.string x.id, .int .i64 x.num, .int .i64 x.til], .pointer (some ⟨B, 0, none⟩)] W _
  go_enter Tryz.func269, Tryz.ntmps269
  go_wp2
  all_goals (go_ret; exact ⟨by simp_all, hb.alloc hb.size _⟩)
theorem ms_pred (grp : ByteArray) (B : Nat) (w : World) (hB : B < w.heap.size) (hcell : w.cell? ⟨B, 0, none⟩ = some (.string grp)) :
    PredBelow Tryz.prog 265 #[.pointer (some ⟨B, 0, none⟩)] (fun x : Ms => .agg x.row.toArray) (fun x => x.grp.toList == grp.toList) w := fun W x hb => by
  have hc : W.cell? ⟨B, 0, none⟩ = some (.string grp) := (hb.cell (p := ⟨B, 0, none⟩) hB).trans hcell
  have hBW : B < W.heap.size := Nat.lt_of_lt_of_le hB hb.size
  have hne : B ≠ W.heap.size := by omega
  show Calls Tryz.prog 265 #[.agg #[.int .i64 x.num, .string x.grp, .string x.bod, .int .i64 x.rcv, .int .i64 x.til], .pointer (some ⟨B, 0, none⟩)] W _
  go_enter Tryz.func265, Tryz.ntmps265
  go_wp2
  all_goals (go_ret; exact ⟨by simp_all, hb.alloc hb.size _⟩)
set_option maxHeartbeats 400000 in
theorem idx_dd_none (a : Option Addr) (c : Nat) (fv : Value) (w : World) : Calls Tryz.prog 268 #[.slice a 0 c, fv] w fun e w' => e = .returned (.int .i64 (-1)) ∧ w' = w := by
  go_enter Tryz.func268, Tryz.ntmps268
  go_wp2
  go_loopg [5, 8] 0 (fun gg _ s8 wr => s8 = .int .i64 0 ∧ wr = w)
  case atStart => exact ⟨rfl, rfl⟩
  case round =>
    obtain ⟨rfl, rfl⟩ := hrel
    go_wp2
    go_ret
    exact ⟨rfl, rfl⟩
set_option maxHeartbeats 400000 in
theorem idx_ms_none (a : Option Addr) (c : Nat) (fv : Value) (w : World) : Calls Tryz.prog 264 #[.slice a 0 c, fv] w fun e w' => e = .returned (.int .i64 (-1)) ∧ w' = w := by
  go_enter Tryz.func264, Tryz.ntmps264
  go_wp2
  go_loopg [5, 8] 0 (fun gg _ s8 wr => s8 = .int .i64 0 ∧ wr = w)
  case atStart => exact ⟨rfl, rfl⟩
  case round =>
    obtain ⟨rfl, rfl⟩ := hrel
    go_wp2
    go_ret
    exact ⟨rfl, rfl⟩
theorem eg202 : ∀ args w, (callFunc 269 args).run Tryz.prog w = .ok (.enter 269 args) w := enters_of Tryz.func269 (by kernel_rfl) rfl
theorem eg198 : ∀ args w, (callFunc 265 args).run Tryz.prog w = .ok (.enter 265 args) w := enters_of Tryz.func265 (by kernel_rfl) rfl
def Ms1 (w : World) (v : Value) : Prop := (∃ a c, v = .slice a 0 c) ∨ ∃ gd cd, ∃ d : Ms, v = .slice (some ⟨gd, 0, none⟩) 1 cd ∧ gd < w.heap.size ∧ ∀ i u, d.row[i]? = some u → w.cell? ⟨gd, i, none⟩ = some u
end Go.Proofs.YtbdobaapadlcjaaGreatDoor
namespace Go.Proofs.YtbdobaapadlcjaaGreatDoor
open Go.RowKit
set_option linter.unusedVariables false
set_option linter.unusedSimpArgs false
theorem cell_qC {w : World} {qb : Nat} {C : Array Value} {t : TypeId} (h : w.heap[qb]? = some (.cells C t (0, 0))) (j : Nat) (v : Value) (hj : C[j]? = some v) : w.cell? ⟨qb, j, none⟩ = some v := (cell_of_row w qb j C t (0, 0) h).trans hj
def sbox (w : World) (qb : Nat) (now : Int) (C : Array Value) : World := ((w.alloc (.cells #[.pointer (some ⟨qb, 0, none⟩)] 152)).alloc (.cells #[.int .i64 now] 3)).alloc (.cells C 27)
theorem sbox_tch (w : World) (qb : Nat) (now : Int) (C : Array Value) : Tch [] w (sbox w qb now C) := (((Tch.refl _ _).alloc _).alloc _).alloc _
theorem sbox_size (w : World) (qb : Nat) (now : Int) (C : Array Value) : (sbox w qb now C).heap.size = w.heap.size + 3 := by simp [sbox]
theorem sbox_0 (w : World) (qb : Nat) (now : Int) (C : Array Value) : (sbox w qb now C).heap[w.heap.size]? = some (.cells #[.pointer (some ⟨qb, 0, none⟩)] 152 (0, 0)) := by
  unfold sbox; rw [Below.heap_alloc _ _ _ (by simp; omega), heap_alloc2_old]
theorem sbox_1 (w : World) (qb : Nat) (now : Int) (C : Array Value) : (sbox w qb now C).heap[w.heap.size + 1]? = some (.cells #[.int .i64 now] 3 (0, 0)) := by
  unfold sbox; rw [Below.heap_alloc _ _ _ (by simp), heap_alloc2_new]
theorem sbox_2 (w : World) (qb : Nat) (now : Int) (C : Array Value) : (sbox w qb now C).heap[w.heap.size + 2]? = some (.cells C 27 (0, 0)) := by
  unfold sbox
  have h := heap_alloc_new ((w.alloc (.cells #[.pointer (some ⟨qb, 0, none⟩)] 152)).alloc (.cells #[.int .i64 now] 3)) (.cells C 27)
  simpa using h
theorem info214 : (Tryz.prog.info? 226).map (fun i => (i.zero, i.size, i.bytes)) = some (some (.agg #[.int .i64 0, .string ⟨#[]⟩, .string ⟨#[]⟩, .int .i64 0, .int .i64 0]), 5, 56) := by kernel_rfl
theorem info219 : (Tryz.prog.info? 230).map (fun i => (i.zero, i.size, i.bytes)) = some (some (.agg #[.string ⟨#[]⟩, .int .i64 0, .int .i64 0]), 3, 32) := by kernel_rfl
abbrev Qb (w : World) (qb : Nat) (c : Wp.Rq) (next : Int) (ms rs ds at_ : Value) : Prop := w.heap[qb]? = some (.cells (qC c next ms rs ds at_) 191 (0, 0))
theorem Qb.set6 {w : World} {qb : Nat} {c : Wp.Rq} {next : Int} {ms rs ds at_ : Value} (h : Qb w qb c next ms rs ds at_) (v : Int) : Qb (w.setCell ⟨qb, 6, none⟩ (.int .i64 v)) qb c v ms rs ds at_ := heap_setCell_same w qb 6 _ 191 _ h
theorem Qb.set7 {w : World} {qb : Nat} {c : Wp.Rq} {next : Int} {ms rs ds at_ : Value} (h : Qb w qb c next ms rs ds at_) (v : Value) : Qb (w.setCell ⟨qb, 7, none⟩ v) qb c next v rs ds at_ := heap_setCell_same w qb 7 _ 191 _ h
theorem Qb.set8 {w : World} {qb : Nat} {c : Wp.Rq} {next : Int} {ms rs ds at_ : Value} (h : Qb w qb c next ms rs ds at_) (v : Value) : Qb (w.setCell ⟨qb, 8, none⟩ v) qb c next ms v ds at_ := heap_setCell_same w qb 8 _ 191 _ h
theorem Qb.set9 {w : World} {qb : Nat} {c : Wp.Rq} {next : Int} {ms rs ds at_ : Value} (h : Qb w qb c next ms rs ds at_) (v : Value) : Qb (w.setCell ⟨qb, 9, none⟩ v) qb c next ms rs v at_ := heap_setCell_same w qb 9 _ 191 _ h
theorem Qb.set10 {w : World} {qb : Nat} {c : Wp.Rq} {next : Int} {ms rs ds at_ : Value} (h : Qb w qb c next ms rs ds at_) (v : Value) : Qb (w.setCell ⟨qb, 10, none⟩ v) qb c next ms rs ds v := heap_setCell_same w qb 10 _ 191 _ h
theorem Qb.fz {w : World} {qb : Nat} {c : Wp.Rq} {next : Int} {ms rs ds at_ : Value} (h : Qb w qb c next ms rs ds at_) (j : Nat) : w.frozen? ⟨qb, j, none⟩ = false := frozen_of_row w qb j _ 191 h
theorem Qb.lt {w : World} {qb : Nat} {c : Wp.Rq} {next : Int} {ms rs ds at_ : Value} (h : Qb w qb c next ms rs ds at_) : qb < w.heap.size := lt_of_block h
def bl (v : Value) : List Nat := v.ownBlock.toList
theorem mem_bl {v : Value} {k : Nat} : k ∈ bl v ↔ v.ownBlock = some k := by simp [bl, Option.mem_toList]
structure Rows (w : World) (nm nr nd : Nat) (ms rs ds : Value) (xm xr xd : List Value) : Prop where
  m : w.ownsRow 0 226 5 ms nm xm
  r : w.ownsRow 0 9 1 rs nr xr
  d : w.ownsRow 0 230 3 ds nd xd
theorem own_some {w : World} {t : TypeId} {size n : Nat} {v : Value} {xs : List Value} (h : w.ownsRow 0 t size v (n + 1) xs) : ∃ g cap, v = .slice (some ⟨g, 0, none⟩) (n + 1) cap := by
  rcases h.2 with ⟨_, h0⟩ | ⟨g, cap, cur, rfl, _⟩
  · omega
  · exact ⟨g, cap, rfl⟩
theorem grown_tch {w w' : World} {v : Value} (h : w.grownBy w' v.ownBlock) : Tch (bl v) w w' := (Tch.refl _ _).grown h (fun k hk _ => mem_bl.2 hk)
def NewOr (w : World) (v v' : Value) : Prop := ∀ j, v'.ownBlock = some j → v.ownBlock = some j ∨ w.heap.size ≤ j
theorem NewOr.refl (w : World) (v : Value) : NewOr w v v := fun _ h => .inl h
theorem NewOr.of {w W : World} {v v' : Value} (hs : w.heap.size ≤ W.heap.size) (h : v'.ownBlock = v.ownBlock ∨ v'.ownBlock = some W.heap.size) : NewOr w v v' := fun j hj => by
  rcases h with h | h
  · exact .inl (h.symm.trans hj)
  · rw [hj] at h
    injection h with h
    exact .inr (by omega)
theorem NewOr.mono {w W : World} {v v' : Value} (hs : w.heap.size ≤ W.heap.size) (h : NewOr W v v') : NewOr w v v' := fun j hj => by
  rcases h j hj with h | h
  · exact .inl h
  · exact .inr (by omega)
abbrev msV (k : Int) (g bd : ByteArray) : List Value := [.int .i64 k, .string g, .string bd, .int .i64 0, .int .i64 0]
abbrev ddV (id : ByteArray) (k til : Int) : List Value := [.string id, .int .i64 k, .int .i64 til]
theorem gr9 {w : World} {gr : Nat} {r : Wp.Rq} {y : Sl} (h : w.heap[gr]? = some (.cells (cellsOf r y.v) 27 (0, 0))) : w.cell? ⟨gr, 9, none⟩ = some (.string r.grp) := cell_qC h 9 _ rfl
theorem gr11 {w : World} {gr : Nat} {r : Wp.Rq} {y : Sl} (h : w.heap[gr]? = some (.cells (cellsOf r y.v) 27 (0, 0))) : w.cell? ⟨gr, 11, none⟩ = some (.string r.bod) := cell_qC h 11 _ rfl
theorem own_apart {w w' : World} {t t' : TypeId} {size n size' n' : Nat} {v v' : Value} {xs xs' : List Value} (h : w.ownsRow 0 t size v n xs) (h' : w.ownsRow 0 t' size' v' n' xs') (htt : t' ≠ t) (ht : Tch (bl v') w w') : w'.ownsRow 0 t size v n xs :=
  own_tch h ht (fun j hj hm' => by
    have e := mem_bl.1 hm'
    rcases h.2 with ⟨rfl, _⟩ | ⟨g', cap', cur', rfl, _, hg', _⟩
    · simp [Value.ownBlock] at hj
    · simp only [Value.ownBlock, Option.some.injEq] at hj
      subst hj
      exact own_ne h' hg' htt e)
theorem own_set {w : World} {t : TypeId} {size n qb : Nat} {v : Value} {xs : List Value} (h : w.ownsRow 0 t size v n xs) {C : Array Value} {t' : TypeId} (hq : w.heap[qb]? = some (.cells C t' (0, 0))) (htt : t ≠ t') {w' : World} (ht : Tch [qb] w w') : w'.ownsRow 0 t size v n xs :=
  own_tch h ht (fun j hj hm' => by
    simp at hm'
    subst hm'
    exact own_ne h hq htt hj)
def Sf (w : World) (gq gi gn qb : Nat) (id : ByteArray) (now win k : Int) : Prop := w.cell? ⟨gq, 0, none⟩ = some (.pointer (some ⟨qb, 0, none⟩)) ∧ w.cell? ⟨gi, 0, none⟩ = some (.string id) ∧ w.cell? ⟨gn, 0, none⟩ = some (.int .i64 now) ∧ w.cell? ⟨qb, 3, none⟩ = some (.int .i64 win) ∧ w.cell? ⟨qb, 6, none⟩ = some (.int .i64 k) ∧ w.frozen? ⟨qb, 9, none⟩ = false
end Go.Proofs.YtbdobaapadlcjaaGreatDoor
namespace Go.Proofs.YtbdobaapadlcjaaGreatDoor
open Go.Shelf Go.RowKit Go.Lib
set_option linter.unusedVariables false
set_option linter.unusedSimpArgs false
def l262_ren : Go.Shelf.Ren := ⟨fun | 6 => 262 | n => n, fun | 22 => 189 | 23 => 234 | 25 => 297 | 3 => 3 | 0 => 0 | 4 => 4 | n => n, fun | n => n⟩
theorem l262 : Go.Proofs.SlLaysH0.n6 Tryz.prog l262_ren := {
  mixed := by kernel_rfl
  f6 := ⟨Tryz.f262.name, by decide, Tryz.func262.trans (congrArg some (by kernel_rfl))⟩
  t0 := Tryz.underlying0
  a0 := Tryz.isAgg0
  z0 := Tryz.sizeOf0
  v0 := Tryz.zeroValue0
  t3 := Tryz.underlying3
  a3 := Tryz.isAgg3
  z3 := Tryz.sizeOf3
  v3 := Tryz.zeroValue3
  t4 := Tryz.underlying4
  a4 := Tryz.isAgg4
  z4 := Tryz.sizeOf4
  v4 := Tryz.zeroValue4
  t22 := Tryz.underlying189
  a22 := Tryz.isAgg189
  z22 := Tryz.sizeOf189
  v22 := Tryz.zeroValue189
  t25 := Tryz.underlying297
  a25 := Tryz.isAgg297
  z25 := Tryz.sizeOf297
  v25 := Tryz.zeroValue297 }
structure At where
  id : ByteArray
  til : Int
  ans : ByteArray
def At.row (x : At) : List Value := [.string x.id, .int .i64 x.til, .string x.ans]
def idxL {α : Type} (p : α → Bool) : List α → Int
  | [] => -1
  | x :: l => if p x = true then 0 else (if idxL p l < 0 then -1 else idxL p l + 1)
theorem idxL_ge {α : Type} (p : α → Bool) (l : List α) : -1 ≤ idxL p l := by
  induction l with
  | nil => exact Int.le_refl _
  | cons x l ih => simp only [idxL]; split <;> (try split) <;> omega
theorem idxL_lt {α : Type} (p : α → Bool) (l : List α) : idxL p l < l.length := by
  induction l with
  | nil => simp [idxL]
  | cons x l ih => simp only [idxL, List.length_cons]; split <;> (try split) <;> omega
theorem idxByFrom_eq {α : Type} (p : α → Bool) (d : α) (l : List α) (i : Nat) : Lib.idxByFrom (fun _ y => p y) d l i = if idxL p l < 0 then -1 else idxL p l + i := by
  induction l generalizing i with
  | nil => rfl
  | cons x l ih =>
    simp only [Lib.idxByFrom, idxL]
    have h1 := idxL_ge p l
    by_cases hx : p x = true
    · simp [hx]
    · simp only [hx, if_false, Bool.false_eq_true]
      rw [ih]
      by_cases h2 : idxL p l < 0
      · simp [h2]
      · have h3 : ¬ (idxL p l + 1 < 0) := by omega
        simp only [h2, h3, if_false]
        omega
theorem idxBy_eq {α : Type} (p : α → Bool) (d : α) (l : List α) : Lib.idxBy (fun _ y => p y) l d = idxL p l := by
  have h1 := idxL_ge p l
  rw [Lib.idxBy, idxByFrom_eq]
  split <;> omega
theorem idxL_neg {α : Type} (p : α → Bool) (l : List α) : idxL p l < 0 ↔ ∀ x ∈ l, p x = false := by
  induction l with
  | nil => simp [idxL]
  | cons x l ih =>
    have h1 := idxL_ge p l
    simp only [idxL, List.mem_cons, forall_eq_or_imp]
    by_cases hx : p x = true
    · simp [hx]
    · have hx' : p x = false := by simpa using hx
      simp only [hx', Bool.false_eq_true, if_false, true_and, ← ih]
      split <;> omega
theorem flat_get {α : Type} (row : α → List Value) (k : Nat) (hk : ∀ x, (row x).length = k) (l : List α) (j i : Nat) (hj : j < l.length) (hi : i < k) : (l.flatMap row)[j * k + i]? = (row l[j])[i]? := by
  induction l generalizing j with
  | nil => simp at hj
  | cons x l ih =>
    rw [List.flatMap_cons]
    cases j with
    | zero =>
      rw [Nat.zero_mul, Nat.zero_add, List.getElem?_append_left (by rw [hk]; exact hi)]
      rfl
    | succ j =>
      have e : (j + 1) * k + i = (row x).length + (j * k + i) := by rw [hk, Nat.add_mul, Nat.one_mul]; omega
      rw [e, List.getElem?_append_right (by omega), Nat.add_sub_cancel_left, ih j (by simpa using hj)]
      rfl
theorem flat_len {α : Type} (row : α → List Value) (k : Nat) (hk : ∀ x, (row x).length = k) (l : List α) : (l.flatMap row).length = l.length * k := by
  induction l with
  | nil => simp
  | cons x l ih => rw [List.flatMap_cons, List.length_append, ih, hk, List.length_cons, Nat.add_mul]; omega
theorem own_cells {α : Type} [Inhabited α] (row : α → List Value) (k : Nat) (hk : ∀ x, (row x).length = k) {w : World} {t : TypeId} {n c g : Nat} {l : List α} (h : w.ownsRow 0 t k (.slice (some ⟨g, 0, none⟩) n c) l.length (l.flatMap row)) (j : Nat) (hj : j < l.length) (i : Nat) (v : Value) (hv : (row l[j]!)[i]? = some v) : w.cell? ⟨g, 0 + j * k + i, none⟩ = some v := by
  have hi : i < k := by
    have := (List.getElem?_eq_some_iff.1 hv).1
    rw [hk] at this
    exact this
  have e : l[j]! = l[j] := by rw [List.getElem!_eq_getElem?_getD, List.getElem?_eq_getElem hj]; rfl
  rw [e, ← flat_get row k hk l j i hj hi] at hv
  have h1 := World.ownsRow.cells h (g := g) rfl (j * k + i) v hv
  have e2 : (⟨g, 0, none⟩ : Addr).add (j * k + i) = ⟨g, 0 + j * k + i, none⟩ := by unfold Addr.add; split <;> simp_all
  rw [e2] at h1
  exact h1
theorem at_pred (id : ByteArray) (B : Nat) (w : World) (hB : B < w.heap.size) (hcell : w.cell? ⟨B, 0, none⟩ = some (.string id)) :
    PredBelow Tryz.prog 263 #[.pointer (some ⟨B, 0, none⟩)] (fun x : At => .agg x.row.toArray) (fun x => x.id.toList == id.toList) w := fun W x hb => by
  have hc : W.cell? ⟨B, 0, none⟩ = some (.string id) := (hb.cell (p := ⟨B, 0, none⟩) hB).trans hcell
  have hBW : B < W.heap.size := Nat.lt_of_lt_of_le hB hb.size
  have hne : B ≠ W.heap.size := by omega
  show Calls Tryz.prog 263 #[.agg #[.string x.id, .int .i64 x.til, .string x.ans], .pointer (some ⟨B, 0, none⟩)] W _
  go_enter Tryz.func263, Tryz.ntmps263
  go_wp2
  all_goals (go_ret; exact ⟨by simp_all, hb.alloc hb.size _⟩)
set_option maxHeartbeats 400000 in
theorem idx_at_nil (a : Option Addr) (c : Nat) (fv : Value) (w : World) : Calls Tryz.prog 262 #[.slice a 0 c, fv] w fun e w' => e = .returned (.int .i64 (-1)) ∧ w' = w := by
  go_enter Tryz.func262, Tryz.ntmps262
  go_wp2
  go_loopg [5, 8] 0 (fun gg _ s8 wr => s8 = .int .i64 0 ∧ wr = w)
  case atStart => exact ⟨rfl, rfl⟩
  case round =>
    obtain ⟨rfl, rfl⟩ := hrel
    go_wp2
    go_ret
    exact ⟨rfl, rfl⟩
theorem eg263 : ∀ args w, (callFunc 263 args).run Tryz.prog w = .ok (.enter 263 args) w := enters_of Tryz.func263 (by kernel_rfl) rfl
abbrev isG (g : ByteArray) (x : Ms) : Bool := x.grp.toList == g.toList
abbrev isI (id : ByteArray) (x : Dd) : Bool := x.id.toList == id.toList
abbrev isA (id : ByteArray) (x : At) : Bool := x.id.toList == id.toList
theorem idx_ms (v : Value) (l : List Ms) (g : ByteArray) (B : Nat) (w : World) (ho : w.ownsRow 0 226 5 v l.length (l.flatMap Ms.row)) (hl : l.length ≤ 1000000) (hB : B < w.heap.size) (hcell : w.cell? ⟨B, 0, none⟩ = some (.string g)) :
    Calls Tryz.prog 264 #[v, .func (.func 265) #[] #[.pointer (some ⟨B, 0, none⟩)]] w fun e w' => e = .returned (.int .i64 (idxL (isG g) l)) ∧ Below w.heap.size w w' := by
  have inh : Inhabited Ms := ⟨⟨0, ⟨#[]⟩, ⟨#[]⟩, 0, 0⟩⟩
  rcases ho.2 with ⟨rfl, h0⟩ | ⟨gd, cap, cur, rfl, _, hg, _⟩
  · have e0 : l = [] := List.length_eq_zero_iff.1 h0
    subst e0
    refine (idx_ms_none none 0 _ w).mono ?_
    rintro e w' ⟨rfl, rfl⟩
    exact ⟨rfl, Below.refl _ _⟩
  · have h := AnyQ.slices_IndexFunc l197 5 Tryz.isAgg226 Tryz.sizeOf226 Ms.row (fun _ => rfl) (isG g) 265 #[.pointer (some ⟨B, 0, none⟩)] eg198 gd 0 l.length cap l w (ms_pred g B w hB hcell) (Nat.le_refl _) (by omega) (lt_of_block hg) (fun j hj i v hi => own_cells Ms.row 5 (fun _ => rfl) ho j hj i v hi)
    rw [List.take_length, idxBy_eq] at h
    exact h
theorem idx_dd (v : Value) (l : List Dd) (id : ByteArray) (B : Nat) (w : World) (ho : w.ownsRow 0 230 3 v l.length (l.flatMap Dd.row)) (hl : l.length ≤ 1000000) (hB : B < w.heap.size) (hcell : w.cell? ⟨B, 0, none⟩ = some (.string id)) :
    Calls Tryz.prog 268 #[v, .func (.func 269) #[] #[.pointer (some ⟨B, 0, none⟩)]] w fun e w' => e = .returned (.int .i64 (idxL (isI id) l)) ∧ Below w.heap.size w w' := by
  have inh : Inhabited Dd := ⟨⟨⟨#[]⟩, 0, 0⟩⟩
  rcases ho.2 with ⟨rfl, h0⟩ | ⟨gd, cap, cur, rfl, _, hg, _⟩
  · have e0 : l = [] := List.length_eq_zero_iff.1 h0
    subst e0
    refine (idx_dd_none none 0 _ w).mono ?_
    rintro e w' ⟨rfl, rfl⟩
    exact ⟨rfl, Below.refl _ _⟩
  · have h := AnyQ.slices_IndexFunc l201 3 Tryz.isAgg230 Tryz.sizeOf230 Dd.row (fun _ => rfl) (isI id) 269 #[.pointer (some ⟨B, 0, none⟩)] eg202 gd 0 l.length cap l w (dd_pred id B w hB hcell) (Nat.le_refl _) (by omega) (lt_of_block hg) (fun j hj i v hi => own_cells Dd.row 3 (fun _ => rfl) ho j hj i v hi)
    rw [List.take_length, idxBy_eq] at h
    exact h
theorem idx_at (v : Value) (l : List At) (id : ByteArray) (B : Nat) (w : World) (ho : w.ownsRow 0 234 3 v l.length (l.flatMap At.row)) (hl : l.length ≤ 1000000) (hB : B < w.heap.size) (hcell : w.cell? ⟨B, 0, none⟩ = some (.string id)) :
    Calls Tryz.prog 262 #[v, .func (.func 263) #[] #[.pointer (some ⟨B, 0, none⟩)]] w fun e w' => e = .returned (.int .i64 (idxL (isA id) l)) ∧ Below w.heap.size w w' := by
  have inh : Inhabited At := ⟨⟨⟨#[]⟩, 0, ⟨#[]⟩⟩⟩
  rcases ho.2 with ⟨rfl, h0⟩ | ⟨gd, cap, cur, rfl, _, hg, _⟩
  · have e0 : l = [] := List.length_eq_zero_iff.1 h0
    subst e0
    refine (idx_at_nil none 0 _ w).mono ?_
    rintro e w' ⟨rfl, rfl⟩
    exact ⟨rfl, Below.refl _ _⟩
  · have h := AnyQ.slices_IndexFunc l262 3 Tryz.isAgg234 Tryz.sizeOf234 At.row (fun _ => rfl) (isA id) 263 #[.pointer (some ⟨B, 0, none⟩)] eg263 gd 0 l.length cap l w (at_pred id B w hB hcell) (Nat.le_refl _) (by omega) (lt_of_block hg) (fun j hj i v hi => own_cells At.row 3 (fun _ => rfl) ho j hj i v hi)
    rw [List.take_length, idxBy_eq] at h
    exact h
set_option maxHeartbeats 400000 in
theorem head_gen (g : ByteArray) (qb : Nat) (v : Value) (l : List Ms) (w : World) (c7 : w.cell? ⟨qb, 7, none⟩ = some v) (ho : w.ownsRow 0 226 5 v l.length (l.flatMap Ms.row)) (hl : l.length ≤ 1000000) :
    Calls Tryz.prog 210 #[.pointer (some ⟨qb, 0, none⟩), .string g] w fun e w' => e = .returned (.int .i64 (idxL (isG g) l)) ∧ Below w.heap.size w w' := by
  have hlt := World.block_lt_of_cell? _ _ c7
  have hne : qb ≠ w.heap.size := by have := hlt; simp at this; omega
  have hmf : ∀ (fn : Fn) (first cap : Array Value) (w : World), (Instr.makeFunc fn first cap).run Tryz.prog w = .ok (.func fn first cap) w := fun _ _ _ _ => rfl
  have HI : Hid (Calls Tryz.prog 264 _ (w.alloc (.cells #[.string g] 9)) _) := idx_ms v l g w.heap.size (w.alloc (.cells #[.string g] 9)) (own_tch ho ((Tch.refl [] w).alloc _) (fun _ _ => by simp)) hl (by simp) (cell_of_one (heap_alloc_new _ _))
  clear ho
  generalize idxL (isG g) l = z at *
  go_enter Tryz.func210, Tryz.ntmps210
  go_wp2_with (go_at_call 264; refine HI.out.mono ?_; rintro e w' ⟨rfl, hb⟩)
  go_ret
  exact ⟨rfl, ((Below.refl _ _).alloc (Nat.le_refl _) _).trans (hb.mono (by simp))⟩
set_option maxHeartbeats 400000 in
theorem findDedup_gen (id : ByteArray) (qb : Nat) (v : Value) (l : List Dd) (w : World) (c9 : w.cell? ⟨qb, 9, none⟩ = some v) (ho : w.ownsRow 0 230 3 v l.length (l.flatMap Dd.row)) (hl : l.length ≤ 1000000) :
    Calls Tryz.prog 217 #[.pointer (some ⟨qb, 0, none⟩), .string id] w fun e w' => e = .returned (.int .i64 (idxL (isI id) l)) ∧ Below w.heap.size w w' := by
  have hlt := World.block_lt_of_cell? _ _ c9
  have hne : qb ≠ w.heap.size := by have := hlt; simp at this; omega
  have hmf : ∀ (fn : Fn) (first cap : Array Value) (w : World), (Instr.makeFunc fn first cap).run Tryz.prog w = .ok (.func fn first cap) w := fun _ _ _ _ => rfl
  have HI : Hid (Calls Tryz.prog 268 _ (w.alloc (.cells #[.string id] 9)) _) := idx_dd v l id w.heap.size (w.alloc (.cells #[.string id] 9)) (own_tch ho ((Tch.refl [] w).alloc _) (fun _ _ => by simp)) hl (by simp) (cell_of_one (heap_alloc_new _ _))
  clear ho
  generalize idxL (isI id) l = z at *
  go_enter Tryz.func217, Tryz.ntmps217
  go_wp2_with (go_at_call 268; refine HI.out.mono ?_; rintro e w' ⟨rfl, hb⟩)
  go_ret
  exact ⟨rfl, ((Below.refl _ _).alloc (Nat.le_refl _) _).trans (hb.mono (by simp))⟩
set_option maxHeartbeats 400000 in
theorem findAttempt_gen (id : ByteArray) (qb : Nat) (v : Value) (l : List At) (w : World) (c10 : w.cell? ⟨qb, 10, none⟩ = some v) (ho : w.ownsRow 0 234 3 v l.length (l.flatMap At.row)) (hl : l.length ≤ 1000000) :
    Calls Tryz.prog 209 #[.pointer (some ⟨qb, 0, none⟩), .string id] w fun e w' => e = .returned (.int .i64 (idxL (isA id) l)) ∧ Below w.heap.size w w' := by
  have hlt := World.block_lt_of_cell? _ _ c10
  have hne : qb ≠ w.heap.size := by have := hlt; simp at this; omega
  have hmf : ∀ (fn : Fn) (first cap : Array Value) (w : World), (Instr.makeFunc fn first cap).run Tryz.prog w = .ok (.func fn first cap) w := fun _ _ _ _ => rfl
  have HI : Hid (Calls Tryz.prog 262 _ (w.alloc (.cells #[.string id] 9)) _) := idx_at v l id w.heap.size (w.alloc (.cells #[.string id] 9)) (own_tch ho ((Tch.refl [] w).alloc _) (fun _ _ => by simp)) hl (by simp) (cell_of_one (heap_alloc_new _ _))
  clear ho
  generalize idxL (isA id) l = z at *
  go_enter Tryz.func209, Tryz.ntmps209
  go_wp2_with (go_at_call 262; refine HI.out.mono ?_; rintro e w' ⟨rfl, hb⟩)
  go_ret
  exact ⟨rfl, ((Below.refl _ _).alloc (Nat.le_refl _) _).trans (hb.mono (by simp))⟩
end Go.Proofs.YtbdobaapadlcjaaGreatDoor
