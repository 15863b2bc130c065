/-
  THE WALK of state.Plan (81) at the Op C.
-/
import Derived.Test.YtbdobaapadlcjaaGreatDoorTkB
import Derived.Test.YtbdobaapadlcjaaGreatDoorBackK
namespace Go.Proofs.YtbdobaapadlcjaaGreatDoor
open Go.RowKit

theorem stC_C (w : World) (st b : Nat) (now : Int) (q : Value) (h : w.heap[st]? = some (.cells (stC now q b) 156 (0, 0))) : w.cell? ⟨st, 11, none⟩ = some (.func (.func 159) #[] #[]) := by
  simp [World.cell?, h, stC, deedsC]
theorem stC_S (w : World) (st b : Nat) (now : Int) (q : Value) (h : w.heap[st]? = some (.cells (stC now q b) 156 (0, 0))) : w.cell? ⟨st, 27, none⟩ = some (.func (.func 207) #[] #[.pointer (some ⟨b + 1 + 1 + 1, 0, none⟩)]) := by
  simp [World.cell?, h, stC, deedsC]
theorem stC_T (w : World) (st b : Nat) (now : Int) (q : Value) (h : w.heap[st]? = some (.cells (stC now q b) 156 (0, 0))) : w.cell? ⟨st, 28, none⟩ = some (.func (.func 165) #[] #[]) := by
  simp [World.cell?, h, stC, deedsC]

theorem zero_str (W : World) (g cap : Nat) (h : W.cell? ⟨g, 0, none⟩ = some (.int .u8 0)) : (convert 74 9 (.slice (some ⟨g, 0, none⟩) 1 cap)).run Tryz.prog W = .ok (.string ⟨#[0]⟩) W := by
  refine run_convert_bytes_back (P := Tryz.prog) W 74 9 5 ⟨g, 0, none⟩ cap [0] Tryz.underlying74 Tryz.underlying5 Tryz.underlying9 ?_
  intro j hj
  have hj0 : j = 0 := by simpa using hj
  subst hj0
  exact h

theorem cellsC (r : Wp.Rq) (x : Sl) (hop : r.op = 67) (hq : r.q = 97) : cellsOf r x.v = #[.int .u8 67, .int .u8 97, .int .u8 (r.d.toNat : Int), .int .i64 r.vis, .int .i64 r.win, .int .i64 r.rcv, .int .i64 r.quo, .int .i64 r.mx, .int .i64 r.tic, .string r.grp, .string r.ded, .string r.bod, .string r.att, .string r.han, .slice x.a x.n x.c] := by
  have ho' : ((r.op.toNat : Nat) : Int) = 67 := by rw [hop]; rfl
  have hq' : ((r.q.toNat : Nat) : Int) = 97 := by rw [hq]; rfl
  unfold cellsOf Sl.v; rw [ho', hq']

set_option maxRecDepth 8000 in
set_option maxHeartbeats 2000000 in
theorem plan_C (r : Wp.Rq) (x : Sl) (st b : Nat) (now : Int) (w : World) (hop : r.op = 67) (hq : r.q = 97) (hst : w.heap[st]? = some (.cells (stC now (.pointer none) b) 156 (0, 0))) :
    Calls Tryz.prog 62 #[.pointer (some ⟨st, 0, none⟩), .agg (cellsOf r x.v)] w fun e w' => ∃ gr gs,
      e = .returned (.tuple #[.string ⟨#[0]⟩, .func (.func 201) #[] #[.pointer (some ⟨gr, 0, none⟩), .pointer (some ⟨gs, 0, none⟩)]]) ∧ Tch [] w w' ∧
      w'.heap[gr]? = some (.cells (cellsOf r x.v) 27 (0, 0)) ∧ w'.heap[gs]? = some (.cells #[.pointer (some ⟨st, 0, none⟩)] 96 (0, 0)) := by
  have hlt := lt_of_block hst
  have HN : Hid (∀ W : World, W.heap[st]? = some (.cells (stC now (.pointer none) b) 156 (0, 0)) → Calls Tryz.prog 159 #[.pointer (some ⟨st, 0, none⟩), .agg (cellsOf r x.v)] W fun e w' => ∃ gr gs,
      e = .returned (.tuple #[.slice none 0 0, .func (.func 201) #[] #[.pointer (some ⟨gr, 0, none⟩), .pointer (some ⟨gs, 0, none⟩)], .int .i64 0]) ∧ Tch [] W w' ∧ w'.heap[gr]? = some (.cells (cellsOf r x.v) 27 (0, 0)) ∧ w'.heap[gs]? = some (.cells #[.pointer (some ⟨st, 0, none⟩)] 96 (0, 0))) := fun W hW => by
    refine (create_any r x st b now W hq hW).mono ?_
    rintro e w' ⟨rfl, rfl⟩
    exact ⟨_, _, rfl, ((Tch.refl _ _).alloc _).alloc _, heap_alloc2_new _ _ _, heap_alloc2_old _ _ _⟩
  have HST : Hid (w.heap[st]? = _) := hst
  rw [cellsC r x hop hq] at HN
  rw [cellsC r x hop hq]
  go_enter Tryz.func62, Tryz.ntmps62
  have hw2 : IntKind.u8.wrap 2 = 2 := by decide
  go_wp2_with fail
  obtain ⟨wb, hwb⟩ : ∃ wb, wb = w.alloc (.cells #[.int .u8 67, .int .u8 97, .int .u8 (r.d.toNat : Int), .int .i64 r.vis, .int .i64 r.win, .int .i64 r.rcv, .int .i64 r.quo, .int .i64 r.mx, .int .i64 r.tic, .string r.grp, .string r.ded, .string r.bod, .string r.att, .string r.han, .slice x.a x.n x.c] 27) := ⟨_, rfl⟩
  rw [← hwb]
  have hrow : wb.heap[w.heap.size]? = some (.cells #[.int .u8 67, .int .u8 97, .int .u8 (r.d.toNat : Int), .int .i64 r.vis, .int .i64 r.win, .int .i64 r.rcv, .int .i64 r.quo, .int .i64 r.mx, .int .i64 r.tic, .string r.grp, .string r.ded, .string r.bod, .string r.att, .string r.han, .slice x.a x.n x.c] 27 (0, 0)) := by rw [hwb]; exact heap_alloc_new _ _
  have hsb : wb.heap[st]? = some (.cells (stC now (.pointer none) b) 156 (0, 0)) := by rw [hwb]; exact (Below.heap_alloc _ _ _ hlt).trans HST.out
  have TB : Hid (Tch [] w wb) := by rw [hwb]; exact (Tch.refl _ _).alloc _
  have e0 : wb.cell? ⟨w.heap.size, 0, none⟩ = some (.int .u8 67) := by simp [World.cell?, hrow]
  have e1 : wb.cell? ⟨w.heap.size, 1, none⟩ = some (.int .u8 97) := by simp [World.cell?, hrow]
  have e2 : wb.cell? ⟨w.heap.size, 2, none⟩ = some (.int .u8 (r.d.toNat : Int)) := by simp [World.cell?, hrow]
  have e3 : wb.cell? ⟨w.heap.size, 3, none⟩ = some (.int .i64 r.vis) := by simp [World.cell?, hrow]
  have e4 : wb.cell? ⟨w.heap.size, 4, none⟩ = some (.int .i64 r.win) := by simp [World.cell?, hrow]
  have e5 : wb.cell? ⟨w.heap.size, 5, none⟩ = some (.int .i64 r.rcv) := by simp [World.cell?, hrow]
  have e6 : wb.cell? ⟨w.heap.size, 6, none⟩ = some (.int .i64 r.quo) := by simp [World.cell?, hrow]
  have e7 : wb.cell? ⟨w.heap.size, 7, none⟩ = some (.int .i64 r.mx) := by simp [World.cell?, hrow]
  have e8 : wb.cell? ⟨w.heap.size, 8, none⟩ = some (.int .i64 r.tic) := by simp [World.cell?, hrow]
  have e9 : wb.cell? ⟨w.heap.size, 9, none⟩ = some (.string r.grp) := by simp [World.cell?, hrow]
  have e10 : wb.cell? ⟨w.heap.size, 10, none⟩ = some (.string r.ded) := by simp [World.cell?, hrow]
  have e11 : wb.cell? ⟨w.heap.size, 11, none⟩ = some (.string r.bod) := by simp [World.cell?, hrow]
  have e12 : wb.cell? ⟨w.heap.size, 12, none⟩ = some (.string r.att) := by simp [World.cell?, hrow]
  have e13 : wb.cell? ⟨w.heap.size, 13, none⟩ = some (.string r.han) := by simp [World.cell?, hrow]
  have e14 : wb.cell? ⟨w.heap.size, 14, none⟩ = some (.slice x.a x.n x.c) := by simp [World.cell?, hrow]
  have cx2 := stC_C _ _ _ _ _ hsb
  have hlL : w.heap.size < wb.heap.size := lt_of_block hrow
  have hlX : st < wb.heap.size := lt_of_block hsb
  have HN1 : Hid (Calls Tryz.prog 159 _ wb.drew _) := HN.out wb.drew hsb
  clear hrow hsb hwb hst
  go_region_held3 (fun w' => w'.cell? ⟨w.heap.size, 0, none⟩ = some (.int .u8 67) ∧ w'.cell? ⟨w.heap.size, 1, none⟩ = some (.int .u8 97) ∧ w'.cell? ⟨w.heap.size, 2, none⟩ = some (.int .u8 (r.d.toNat : Int)) ∧ w'.cell? ⟨w.heap.size, 3, none⟩ = some (.int .i64 r.vis) ∧ w'.cell? ⟨w.heap.size, 4, none⟩ = some (.int .i64 r.win) ∧ w'.cell? ⟨w.heap.size, 5, none⟩ = some (.int .i64 r.rcv) ∧ w'.cell? ⟨w.heap.size, 6, none⟩ = some (.int .i64 r.quo) ∧ w'.cell? ⟨w.heap.size, 7, none⟩ = some (.int .i64 r.mx) ∧ w'.cell? ⟨w.heap.size, 8, none⟩ = some (.int .i64 r.tic) ∧ w'.cell? ⟨w.heap.size, 9, none⟩ = some (.string r.grp) ∧ w'.cell? ⟨w.heap.size, 10, none⟩ = some (.string r.ded) ∧ w'.cell? ⟨w.heap.size, 11, none⟩ = some (.string r.bod) ∧ w'.cell? ⟨w.heap.size, 12, none⟩ = some (.string r.att) ∧ w'.cell? ⟨w.heap.size, 13, none⟩ = some (.string r.han) ∧ w'.cell? ⟨w.heap.size, 14, none⟩ = some (.slice x.a x.n x.c) ∧ w'.cell? ⟨st, 11, none⟩ = some (.func (.func 159) #[] #[])) (go_keep) (first | (go_at_call 159; refine HN1.out.mono ?_; rintro e w1 ⟨gr, gs, rfl, ht, hg1, hg2⟩; have k0 := (ht.cell (a := ⟨w.heap.size, 0, none⟩) hlL (by simp)).trans e0; have k1 := (ht.cell (a := ⟨w.heap.size, 1, none⟩) hlL (by simp)).trans e1; have k2 := (ht.cell (a := ⟨w.heap.size, 2, none⟩) hlL (by simp)).trans e2; have k3 := (ht.cell (a := ⟨w.heap.size, 3, none⟩) hlL (by simp)).trans e3; have k4 := (ht.cell (a := ⟨w.heap.size, 4, none⟩) hlL (by simp)).trans e4; have k5 := (ht.cell (a := ⟨w.heap.size, 5, none⟩) hlL (by simp)).trans e5; have k6 := (ht.cell (a := ⟨w.heap.size, 6, none⟩) hlL (by simp)).trans e6; have k7 := (ht.cell (a := ⟨w.heap.size, 7, none⟩) hlL (by simp)).trans e7; have k8 := (ht.cell (a := ⟨w.heap.size, 8, none⟩) hlL (by simp)).trans e8; have k9 := (ht.cell (a := ⟨w.heap.size, 9, none⟩) hlL (by simp)).trans e9; have k10 := (ht.cell (a := ⟨w.heap.size, 10, none⟩) hlL (by simp)).trans e10; have k11 := (ht.cell (a := ⟨w.heap.size, 11, none⟩) hlL (by simp)).trans e11; have k12 := (ht.cell (a := ⟨w.heap.size, 12, none⟩) hlL (by simp)).trans e12; have k13 := (ht.cell (a := ⟨w.heap.size, 13, none⟩) hlL (by simp)).trans e13; have k14 := (ht.cell (a := ⟨w.heap.size, 14, none⟩) hlL (by simp)).trans e14; have kx := (ht.cell (a := ⟨st, 11, none⟩) hlX (by simp)).trans cx2))
  have T1 : Hid (Tch [] w w1) := TB.out.drew.trans ht (by simp)
  have HG1 : Hid (w1.heap[gr]? = _) := hg1
  have HG2 : Hid (w1.heap[gs]? = _) := hg2
  clear ht hg1 hg2
  have hzs := zero_str
  go_wp2_with fail
  go_ret2
  exact ⟨gr, gs, rfl, T1.out.alloc _, (Below.heap_alloc _ _ _ (lt_of_block HG1.out)).trans HG1.out, (Below.heap_alloc _ _ _ (lt_of_block HG2.out)).trans HG2.out⟩
end Go.Proofs.YtbdobaapadlcjaaGreatDoor
