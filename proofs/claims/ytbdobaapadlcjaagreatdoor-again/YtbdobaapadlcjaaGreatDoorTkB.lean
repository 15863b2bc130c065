/-
  THE WALKS of state.at (129), state.create (101), its closure (130) and queue.New.
-/
import Derived.Test.YtbdobaapadlcjaaGreatDoorTkA
import Derived.Deep.RegionHeld3
namespace Go.Proofs.YtbdobaapadlcjaaGreatDoor
open Go.RowKit

theorem stC_now (w : World) (st b : Nat) (now : Int) (q : Value) (h : w.heap[st]? = some (.cells (stC now q b) 156 (0, 0))) : w.cell? ⟨st, 0, none⟩ = some (.int .i64 now) := by
  simp [World.cell?, h, stC, deedsC]
theorem stC_q (w : World) (st b : Nat) (now : Int) (q : Value) (h : w.heap[st]? = some (.cells (stC now q b) 156 (0, 0))) : w.cell? ⟨st, 1, none⟩ = some q := by
  simp [World.cell?, h, stC, deedsC]

set_option maxHeartbeats 2000000 in
theorem create_any (r : Wp.Rq) (x : Sl) (st b : Nat) (now : Int) (w : World) (hq : r.q = 97) (hst : w.heap[st]? = some (.cells (stC now (.pointer none) b) 156 (0, 0))) :
    Calls Tryz.prog 159 #[.pointer (some ⟨st, 0, none⟩), .agg (cellsOf r x.v)] w fun e w' =>
      e = .returned (.tuple #[.slice none 0 0, .func (.func 201) #[] #[.pointer (some ⟨w.heap.size + 1, 0, none⟩), .pointer (some ⟨w.heap.size, 0, none⟩)], .int .i64 0]) ∧
      w' = (w.alloc (.cells #[.pointer (some ⟨st, 0, none⟩)] 96)).alloc (.cells (cellsOf r x.v) 27) := by
  have hmf : ∀ (fn : Fn) (first cap : Array Value) (w : World), (Instr.makeFunc fn first cap).run Tryz.prog w = .ok (.func fn first cap) w := fun _ _ _ _ => rfl
  have hlt := lt_of_block hst
  have c1 := stC_q _ _ _ _ _ hst
  have hq' : ((r.q.toNat : Nat) : Int) = 97 := by rw [hq]; rfl
  have hcells : cellsOf r x.v = #[.int .u8 (r.op.toNat : Int), .int .u8 97, .int .u8 (r.d.toNat : Int), .int .i64 r.vis, .int .i64 r.win, .int .i64 r.rcv, .int .i64 r.quo, .int .i64 r.mx, .int .i64 r.tic, .string r.grp, .string r.ded, .string r.bod, .string r.att, .string r.han, .slice x.a x.n x.c] := by
    unfold cellsOf Sl.v; rw [hq']
  rw [hcells]
  clear hcells hst
  go_enter Tryz.func159, Tryz.ntmps159
  go_wp2
  go_ret3
  exact ⟨rfl, rfl⟩

/-- A queue's cells. -/
def qC (r : Wp.Rq) (next : Int) (ms rs ds at_ : Value) : Array Value := #[.int .u8 97, .int .u8 (r.d.toNat : Int), .int .i64 r.vis, .int .i64 r.win, .int .i64 r.rcv, .int .i64 r.quo, .int .i64 next, ms, rs, ds, at_]

theorem cells97 (r : Wp.Rq) (x : Sl) (hq : r.q = 97) : cellsOf r x.v = #[.int .u8 (r.op.toNat : Int), .int .u8 97, .int .u8 (r.d.toNat : Int), .int .i64 r.vis, .int .i64 r.win, .int .i64 r.rcv, .int .i64 r.quo, .int .i64 r.mx, .int .i64 r.tic, .string r.grp, .string r.ded, .string r.bod, .string r.att, .string r.han, .slice x.a x.n x.c] := by
  have hq' : ((r.q.toNat : Nat) : Int) = 97 := by rw [hq]; rfl
  unfold cellsOf Sl.v; rw [hq']

set_option maxHeartbeats 2000000 in
theorem qnew_any (r : Wp.Rq) (x : Sl) (w : World) (hq : r.q = 97) : Calls Tryz.prog 168 #[.agg (cellsOf r x.v)] w fun e w' =>
    e = .returned (.pointer (some ⟨w.heap.size + 1, 0, none⟩)) ∧ w' = (w.alloc (.cells (cellsOf r x.v) 27)).alloc (.cells (qC r 1 (.slice none 0 0) (.slice none 0 0) (.slice none 0 0) (.slice none 0 0)) 191) := by
  rw [cells97 r x hq]
  go_enter Tryz.func168, Tryz.ntmps168
  go_wp2
  go_ret
  exact ⟨rfl, rfl⟩

theorem made_end (r : Wp.Rq) (x : Sl) (st b : Nat) (now : Int) (w : World) (hlt : st < w.heap.size) (hst : ∀ v, (w.setCell ⟨st, 1, none⟩ v).heap[st]? = some (.cells (stC now v b) 156 (0, 0))) :
    (fun w' : World => Tch [st] w w' ∧ w'.heap.size = w.heap.size + 2 ∧
      w'.heap[st]? = some (.cells (stC now (.pointer (some ⟨w.heap.size + 1, 0, none⟩)) b) 156 (0, 0)) ∧
      w'.heap[w.heap.size + 1]? = some (.cells (qC r 1 (.slice none 0 0) (.slice none 0 0) (.slice none 0 0) (.slice none 0 0)) 191 (0, 0))) (((w.setCell ⟨st, 1, none⟩ (.pointer (some ⟨w.heap.size + 1, 0, none⟩))).alloc (.cells (cellsOf r x.v) 27)).alloc (.cells (qC r 1 (.slice none 0 0) (.slice none 0 0) (.slice none 0 0) (.slice none 0 0)) 191)).drew := by
  generalize cellsOf r x.v = C
  generalize qC r 1 (.slice none 0 0) (.slice none 0 0) (.slice none 0 0) (.slice none 0 0) = Q
  have hv := hst (.pointer (some ⟨w.heap.size + 1, 0, none⟩))
  have ht : Tch [st] w (w.setCell ⟨st, 1, none⟩ (.pointer (some ⟨w.heap.size + 1, 0, none⟩))) := (Tch.refl _ _).setCell (fun _ => by simp) _
  have hs : (w.setCell ⟨st, 1, none⟩ (.pointer (some ⟨w.heap.size + 1, 0, none⟩))).heap.size = w.heap.size := by simp
  generalize w.setCell ⟨st, 1, none⟩ (.pointer (some ⟨w.heap.size + 1, 0, none⟩)) = W at *
  refine ⟨((ht.alloc _).alloc _).drew, ?_, ?_, ?_⟩
  · show ((W.alloc _).alloc _).heap.size = _
    rw [World.size_alloc, World.size_alloc, hs]
  · show ((W.alloc _).alloc _).heap[st]? = _
    rw [Below.heap_alloc _ _ _ (by rw [World.size_alloc]; omega), Below.heap_alloc _ _ _ (by omega), hv]
  · show ((W.alloc _).alloc _).heap[w.heap.size + 1]? = _
    rw [← hs, heap_alloc2_new]

set_option maxHeartbeats 2000000 in
theorem made_walk (K : World → Prop) (r : Wp.Rq) (x : Sl) (gr gs st b : Nat) (now : Int) (w : World) (hq : r.q = 97) (hst : w.heap[st]? = some (.cells (stC now (.pointer none) b) 156 (0, 0)))
    (hgr : w.heap[gr]? = some (.cells (cellsOf r x.v) 27 (0, 0))) (hgs : w.heap[gs]? = some (.cells #[.pointer (some ⟨st, 0, none⟩)] 96 (0, 0)))
    (hK : K (((w.setCell ⟨st, 1, none⟩ (.pointer (some ⟨w.heap.size + 1, 0, none⟩))).alloc (.cells (cellsOf r x.v) 27)).alloc (.cells (qC r 1 (.slice none 0 0) (.slice none 0 0) (.slice none 0 0) (.slice none 0 0)) 191)).drew) :
    Calls Tryz.prog 201 #[.pointer (some ⟨gr, 0, none⟩), .pointer (some ⟨gs, 0, none⟩)] w fun e w' =>
      e = .returned (.tuple #[]) ∧ K w' := by
  have hlt := lt_of_block hst
  have hlr := lt_of_block hgr
  have hls := lt_of_block hgs
  have c1 := stC_q _ _ _ _ _ hst
  have cs := cell_of_one hgs
  have hq' : ((r.q.toNat : Nat) : Int) = 97 := by rw [hq]; rfl
  have hcells : cellsOf r x.v = #[.int .u8 (r.op.toNat : Int), .int .u8 97, .int .u8 (r.d.toNat : Int), .int .i64 r.vis, .int .i64 r.win, .int .i64 r.rcv, .int .i64 r.quo, .int .i64 r.mx, .int .i64 r.tic, .string r.grp, .string r.ded, .string r.bod, .string r.att, .string r.han, .slice x.a x.n x.c] := by
    unfold cellsOf Sl.v; rw [hq']
  rw [hcells] at hgr
  have cr0 : w.cell? ⟨gr, 0, none⟩ = some (.int .u8 (r.op.toNat : Int)) := by simp [World.cell?, hgr]
  have cr1 : w.cell? ⟨gr, 1, none⟩ = some (.int .u8 97) := by simp [World.cell?, hgr]
  have cr2 : w.cell? ⟨gr, 2, none⟩ = some (.int .u8 (r.d.toNat : Int)) := by simp [World.cell?, hgr]
  have cr3 : w.cell? ⟨gr, 3, none⟩ = some (.int .i64 r.vis) := by simp [World.cell?, hgr]
  have cr4 : w.cell? ⟨gr, 4, none⟩ = some (.int .i64 r.win) := by simp [World.cell?, hgr]
  have cr5 : w.cell? ⟨gr, 5, none⟩ = some (.int .i64 r.rcv) := by simp [World.cell?, hgr]
  have cr6 : w.cell? ⟨gr, 6, none⟩ = some (.int .i64 r.quo) := by simp [World.cell?, hgr]
  have cr7 : w.cell? ⟨gr, 7, none⟩ = some (.int .i64 r.mx) := by simp [World.cell?, hgr]
  have cr8 : w.cell? ⟨gr, 8, none⟩ = some (.int .i64 r.tic) := by simp [World.cell?, hgr]
  have cr9 : w.cell? ⟨gr, 9, none⟩ = some (.string r.grp) := by simp [World.cell?, hgr]
  have cr10 : w.cell? ⟨gr, 10, none⟩ = some (.string r.ded) := by simp [World.cell?, hgr]
  have cr11 : w.cell? ⟨gr, 11, none⟩ = some (.string r.bod) := by simp [World.cell?, hgr]
  have cr12 : w.cell? ⟨gr, 12, none⟩ = some (.string r.att) := by simp [World.cell?, hgr]
  have cr13 : w.cell? ⟨gr, 13, none⟩ = some (.string r.han) := by simp [World.cell?, hgr]
  have cr14 : w.cell? ⟨gr, 14, none⟩ = some (.slice x.a x.n x.c) := by simp [World.cell?, hgr]
  have hn1 : gr ≠ st := fun e => by rw [e, hst] at hgr; simp at hgr
  have hn2 : gs ≠ st := fun e => by rw [e, hst] at hgs; simp at hgs
  have hn3 := hn1.symm
  have hn4 := hn2.symm
  have fz : w.frozen? ⟨st, 1, none⟩ = false := frozen_of_row w st 1 _ 156 hst
  have fz0 : w.drew.frozen? ⟨st, 1, none⟩ = false := frozen_of_row w.drew st 1 _ 156 hst
  have fz2 : ∀ o o', ((w.alloc o).alloc o').drew.frozen? ⟨st, 1, none⟩ = false := fun o o' => frozen_of_row _ st 1 _ 156 (((Below.heap_alloc _ _ _ (by simp; omega)).trans (Below.heap_alloc _ _ _ hlt)).trans hst)
  have dr0 : ∀ v, (w.setCell ⟨st, 1, none⟩ v).cell? ⟨gr, 0, none⟩ = some (.int .u8 (r.op.toNat : Int)) := fun v => (World.cell?_of_block (heap_setCell_other _ _ _ _ hn1)).trans cr0
  have dr1 : ∀ v, (w.setCell ⟨st, 1, none⟩ v).cell? ⟨gr, 1, none⟩ = some (.int .u8 97) := fun v => (World.cell?_of_block (heap_setCell_other _ _ _ _ hn1)).trans cr1
  have dr2 : ∀ v, (w.setCell ⟨st, 1, none⟩ v).cell? ⟨gr, 2, none⟩ = some (.int .u8 (r.d.toNat : Int)) := fun v => (World.cell?_of_block (heap_setCell_other _ _ _ _ hn1)).trans cr2
  have dr3 : ∀ v, (w.setCell ⟨st, 1, none⟩ v).cell? ⟨gr, 3, none⟩ = some (.int .i64 r.vis) := fun v => (World.cell?_of_block (heap_setCell_other _ _ _ _ hn1)).trans cr3
  have dr4 : ∀ v, (w.setCell ⟨st, 1, none⟩ v).cell? ⟨gr, 4, none⟩ = some (.int .i64 r.win) := fun v => (World.cell?_of_block (heap_setCell_other _ _ _ _ hn1)).trans cr4
  have dr5 : ∀ v, (w.setCell ⟨st, 1, none⟩ v).cell? ⟨gr, 5, none⟩ = some (.int .i64 r.rcv) := fun v => (World.cell?_of_block (heap_setCell_other _ _ _ _ hn1)).trans cr5
  have dr6 : ∀ v, (w.setCell ⟨st, 1, none⟩ v).cell? ⟨gr, 6, none⟩ = some (.int .i64 r.quo) := fun v => (World.cell?_of_block (heap_setCell_other _ _ _ _ hn1)).trans cr6
  have dr7 : ∀ v, (w.setCell ⟨st, 1, none⟩ v).cell? ⟨gr, 7, none⟩ = some (.int .i64 r.mx) := fun v => (World.cell?_of_block (heap_setCell_other _ _ _ _ hn1)).trans cr7
  have dr8 : ∀ v, (w.setCell ⟨st, 1, none⟩ v).cell? ⟨gr, 8, none⟩ = some (.int .i64 r.tic) := fun v => (World.cell?_of_block (heap_setCell_other _ _ _ _ hn1)).trans cr8
  have dr9 : ∀ v, (w.setCell ⟨st, 1, none⟩ v).cell? ⟨gr, 9, none⟩ = some (.string r.grp) := fun v => (World.cell?_of_block (heap_setCell_other _ _ _ _ hn1)).trans cr9
  have dr10 : ∀ v, (w.setCell ⟨st, 1, none⟩ v).cell? ⟨gr, 10, none⟩ = some (.string r.ded) := fun v => (World.cell?_of_block (heap_setCell_other _ _ _ _ hn1)).trans cr10
  have dr11 : ∀ v, (w.setCell ⟨st, 1, none⟩ v).cell? ⟨gr, 11, none⟩ = some (.string r.bod) := fun v => (World.cell?_of_block (heap_setCell_other _ _ _ _ hn1)).trans cr11
  have dr12 : ∀ v, (w.setCell ⟨st, 1, none⟩ v).cell? ⟨gr, 12, none⟩ = some (.string r.att) := fun v => (World.cell?_of_block (heap_setCell_other _ _ _ _ hn1)).trans cr12
  have dr13 : ∀ v, (w.setCell ⟨st, 1, none⟩ v).cell? ⟨gr, 13, none⟩ = some (.string r.han) := fun v => (World.cell?_of_block (heap_setCell_other _ _ _ _ hn1)).trans cr13
  have dr14 : ∀ v, (w.setCell ⟨st, 1, none⟩ v).cell? ⟨gr, 14, none⟩ = some (.slice x.a x.n x.c) := fun v => (World.cell?_of_block (heap_setCell_other _ _ _ _ hn1)).trans cr14
  have ds : ∀ v, (w.setCell ⟨st, 1, none⟩ v).cell? ⟨gs, 0, none⟩ = some (.pointer (some ⟨st, 0, none⟩)) := fun v => (World.cell?_of_block (heap_setCell_other _ _ _ _ hn2)).trans cs
  have fz3 : ∀ v o o', (((w.setCell ⟨st, 1, none⟩ v).alloc o).alloc o').drew.frozen? ⟨st, 1, none⟩ = false := fun v o o' => frozen_of_row _ st 1 _ 156 (((Below.heap_alloc _ _ _ (by simp; omega)).trans (Below.heap_alloc _ _ _ (by simpa using hlt))).trans (heap_setCell_same w st 1 _ 156 v hst))
  rw [cells97 r x hq] at hK
  have HK : Hid (K _) := hK
  clear hK
  clear hcells hst hgs hgr
  have HN : Hid (∀ W, Calls Tryz.prog 168 #[.agg (cellsOf r x.v)] W fun e w' => e = .returned (.pointer (some ⟨W.heap.size + 1, 0, none⟩)) ∧ w' = (W.alloc (.cells (cellsOf r x.v) 27)).alloc (.cells (qC r 1 (.slice none 0 0) (.slice none 0 0) (.slice none 0 0) (.slice none 0 0)) 191)) := fun W => qnew_any r x W hq
  rw [cells97 r x hq] at HN
  have hw0 : IntKind.u8.wrap 0 = 0 := by decide
  go_enter Tryz.func201, Tryz.ntmps201
  go_region_held3 (fun w' => w'.cell? ⟨gr, 0, none⟩ = some (.int .u8 (r.op.toNat : Int)) ∧ w'.cell? ⟨gr, 1, none⟩ = some (.int .u8 97) ∧ w'.cell? ⟨gr, 2, none⟩ = some (.int .u8 (r.d.toNat : Int)) ∧ w'.cell? ⟨gr, 3, none⟩ = some (.int .i64 r.vis) ∧ w'.cell? ⟨gr, 4, none⟩ = some (.int .i64 r.win) ∧ w'.cell? ⟨gr, 5, none⟩ = some (.int .i64 r.rcv) ∧ w'.cell? ⟨gr, 6, none⟩ = some (.int .i64 r.quo) ∧ w'.cell? ⟨gr, 7, none⟩ = some (.int .i64 r.mx) ∧ w'.cell? ⟨gr, 8, none⟩ = some (.int .i64 r.tic) ∧ w'.cell? ⟨gr, 9, none⟩ = some (.string r.grp) ∧ w'.cell? ⟨gr, 10, none⟩ = some (.string r.ded) ∧ w'.cell? ⟨gr, 11, none⟩ = some (.string r.bod) ∧ w'.cell? ⟨gr, 12, none⟩ = some (.string r.att) ∧ w'.cell? ⟨gr, 13, none⟩ = some (.string r.han) ∧ w'.cell? ⟨gr, 14, none⟩ = some (.slice x.a x.n x.c) ∧ w'.cell? ⟨gs, 0, none⟩ = some (.pointer (some ⟨st, 0, none⟩)) ∧ w'.frozen? ⟨st, 1, none⟩ = false) (go_keep) (first | (go_at_call 168; refine (HN.out _).mono ?_; rintro e w' ⟨rfl, rfl⟩))
  go_end0
  exact ⟨rfl, HK.out⟩

theorem made_any (r : Wp.Rq) (x : Sl) (gr gs st b : Nat) (now : Int) (w : World) (hq : r.q = 97) (hst : w.heap[st]? = some (.cells (stC now (.pointer none) b) 156 (0, 0)))
    (hgr : w.heap[gr]? = some (.cells (cellsOf r x.v) 27 (0, 0))) (hgs : w.heap[gs]? = some (.cells #[.pointer (some ⟨st, 0, none⟩)] 96 (0, 0))) :
    Calls Tryz.prog 201 #[.pointer (some ⟨gr, 0, none⟩), .pointer (some ⟨gs, 0, none⟩)] w fun e w' =>
      e = .returned (.tuple #[]) ∧ Tch [st] w w' ∧ w'.heap.size = w.heap.size + 2 ∧
      w'.heap[st]? = some (.cells (stC now (.pointer (some ⟨w.heap.size + 1, 0, none⟩)) b) 156 (0, 0)) ∧
      w'.heap[w.heap.size + 1]? = some (.cells (qC r 1 (.slice none 0 0) (.slice none 0 0) (.slice none 0 0) (.slice none 0 0)) 191 (0, 0)) :=
  made_walk (fun w' => Tch [st] w w' ∧ w'.heap.size = w.heap.size + 2 ∧
      w'.heap[st]? = some (.cells (stC now (.pointer (some ⟨w.heap.size + 1, 0, none⟩)) b) 156 (0, 0)) ∧
      w'.heap[w.heap.size + 1]? = some (.cells (qC r 1 (.slice none 0 0) (.slice none 0 0) (.slice none 0 0) (.slice none 0 0)) 191 (0, 0))) r x gr gs st b now w hq hst hgr hgs
    (made_end r x st b now w (lt_of_block hst) fun v => (heap_setCell_same w st 1 _ 156 v hst).trans (congrArg (fun z => some (Obj.cells z 156 (0, 0))) (by kernel_rfl)))
end Go.Proofs.YtbdobaapadlcjaaGreatDoor
