/-
  THE WALK of within's closure (147), out of what the queue's method answers.
-/
import Derived.Test.YtbdobaapadlcjaaGreatDoorTkC
namespace Go.Proofs.YtbdobaapadlcjaaGreatDoor
open Go.RowKit

set_option maxHeartbeats 400000 in
theorem at_any (st : Nat) (q : Value) (w : World) (h : w.cell? ⟨st, 1, none⟩ = some q) : Calls Tryz.prog 200 #[.pointer (some ⟨st, 0, none⟩), .int .u8 97] w fun e w' => e = .returned q ∧ w' = w := by
  go_enter Tryz.func200, Tryz.ntmps200
  go_wp2_with fail
  go_ret
  exact ⟨rfl, rfl⟩

set_option maxRecDepth 8000 in
set_option maxHeartbeats 2000000 in
theorem within_walk (K : Value → Value → World → Prop) (r : Wp.Rq) (x : Sl) (st b qb : Nat) (now : Int) (w : World) (hq : r.q = 97)
    (hst : w.heap[st]? = some (.cells (stC now (.pointer (some ⟨qb, 0, none⟩)) b) 156 (0, 0))) (hb3 : w.heap[b + 3]? = some (.cells #[.func (.func 164) #[] #[]] 221 (0, 0)))
    (hS : ∀ W, Tch [] w W → Calls Tryz.prog 164 #[.pointer (some ⟨qb, 0, none⟩), .int .i64 now, .agg (cellsOf r x.v)] W fun e w' => ∃ av chg, e = .returned (.tuple #[av, chg, .int .i64 0]) ∧ Tch [] W w' ∧ K av chg w') :
    Calls Tryz.prog 207 #[.pointer (some ⟨st, 0, none⟩), .agg (cellsOf r x.v), .pointer (some ⟨b + 1 + 1 + 1, 0, none⟩)] w fun e w' => ∃ av chg, e = .returned (.tuple #[av, chg, .int .i64 0]) ∧ Tch [] w w' ∧ K av chg w' := by
  have hlt := lt_of_block hst
  have hltb := lt_of_block hb3
  have HST : Hid (w.heap[st]? = _) := hst
  have HB3 : Hid (w.heap[b + 3]? = _) := hb3
  have HN : Hid (∀ W, Tch [] w W → _) := hS
  have cells : cellsOf r x.v = #[.int .u8 (r.op.toNat : Int), .int .u8 97, .int .u8 (r.d.toNat : Int), .int .i64 r.vis, .int .i64 r.win, .int .i64 r.rcv, .int .i64 r.quo, .int .i64 r.mx, .int .i64 r.tic, .string r.grp, .string r.ded, .string r.bod, .string r.att, .string r.han, .slice x.a x.n x.c] := cells97 r x hq
  rw [cells] at HN
  rw [cells, show b + 1 + 1 + 1 = b + 3 from rfl]
  clear cells hS
  go_enter Tryz.func207, Tryz.ntmps207
  have c1 : (w.alloc (.cells #[.int .u8 (r.op.toNat : Int), .int .u8 97, .int .u8 (r.d.toNat : Int), .int .i64 r.vis, .int .i64 r.win, .int .i64 r.rcv, .int .i64 r.quo, .int .i64 r.mx, .int .i64 r.tic, .string r.grp, .string r.ded, .string r.bod, .string r.att, .string r.han, .slice x.a x.n x.c] 27)).cell? ⟨st, 1, none⟩ = some (.pointer (some ⟨qb, 0, none⟩)) := stC_q _ _ _ _ _ ((Below.heap_alloc _ _ _ hlt).trans hst)
  go_wp2_with (go_at_call 200; refine (at_any _ _ _ c1).mono ?_; rintro e w' ⟨rfl, rfl⟩)
  obtain ⟨wb, hwb⟩ : ∃ wb, wb = w.alloc (.cells #[.int .u8 (r.op.toNat : Int), .int .u8 97, .int .u8 (r.d.toNat : Int), .int .i64 r.vis, .int .i64 r.win, .int .i64 r.rcv, .int .i64 r.quo, .int .i64 r.mx, .int .i64 r.tic, .string r.grp, .string r.ded, .string r.bod, .string r.att, .string r.han, .slice x.a x.n x.c] 27) := ⟨_, rfl⟩
  rw [← hwb]
  have hrow : wb.heap[w.heap.size]? = some (.cells #[.int .u8 (r.op.toNat : Int), .int .u8 97, .int .u8 (r.d.toNat : Int), .int .i64 r.vis, .int .i64 r.win, .int .i64 r.rcv, .int .i64 r.quo, .int .i64 r.mx, .int .i64 r.tic, .string r.grp, .string r.ded, .string r.bod, .string r.att, .string r.han, .slice x.a x.n x.c] 27 (0, 0)) := by rw [hwb]; exact heap_alloc_new _ _
  have hsb : wb.heap[st]? = some (.cells (stC now (.pointer (some ⟨qb, 0, none⟩)) b) 156 (0, 0)) := by rw [hwb]; exact (Below.heap_alloc _ _ _ hlt).trans HST.out
  have hbb : wb.heap[b + 3]? = some (.cells #[.func (.func 164) #[] #[]] 221 (0, 0)) := by rw [hwb]; exact (Below.heap_alloc _ _ _ hltb).trans HB3.out
  have TB : Hid (Tch [] w wb) := by rw [hwb]; exact (Tch.refl _ _).alloc _
  have e0 : wb.cell? ⟨w.heap.size, 0, none⟩ = some (.int .u8 (r.op.toNat : Int)) := by simp [World.cell?, hrow]
  have e1 : wb.cell? ⟨w.heap.size, 1, none⟩ = some (.int .u8 97) := by simp [World.cell?, hrow]
  have e2 : wb.cell? ⟨w.heap.size, 2, none⟩ = some (.int .u8 (r.d.toNat : Int)) := by simp [World.cell?, hrow]
  have e3 : wb.cell? ⟨w.heap.size, 3, none⟩ = some (.int .i64 r.vis) := by simp [World.cell?, hrow]
  have e4 : wb.cell? ⟨w.heap.size, 4, none⟩ = some (.int .i64 r.win) := by simp [World.cell?, hrow]
  have e5 : wb.cell? ⟨w.heap.size, 5, none⟩ = some (.int .i64 r.rcv) := by simp [World.cell?, hrow]
  have e6 : wb.cell? ⟨w.heap.size, 6, none⟩ = some (.int .i64 r.quo) := by simp [World.cell?, hrow]
  have e7 : wb.cell? ⟨w.heap.size, 7, none⟩ = some (.int .i64 r.mx) := by simp [World.cell?, hrow]
  have e8 : wb.cell? ⟨w.heap.size, 8, none⟩ = some (.int .i64 r.tic) := by simp [World.cell?, hrow]
  have e9 : wb.cell? ⟨w.heap.size, 9, none⟩ = some (.string r.grp) := by simp [World.cell?, hrow]
  have e10 : wb.cell? ⟨w.heap.size, 10, none⟩ = some (.string r.ded) := by simp [World.cell?, hrow]
  have e11 : wb.cell? ⟨w.heap.size, 11, none⟩ = some (.string r.bod) := by simp [World.cell?, hrow]
  have e12 : wb.cell? ⟨w.heap.size, 12, none⟩ = some (.string r.att) := by simp [World.cell?, hrow]
  have e13 : wb.cell? ⟨w.heap.size, 13, none⟩ = some (.string r.han) := by simp [World.cell?, hrow]
  have e14 : wb.cell? ⟨w.heap.size, 14, none⟩ = some (.slice x.a x.n x.c) := by simp [World.cell?, hrow]
  have cn := stC_now _ _ _ _ _ hsb
  have cb := cell_of_one hbb
  have hlL : w.heap.size < wb.heap.size := lt_of_block hrow
  have hlX : st < wb.heap.size := lt_of_block hsb
  have hlB : b + 3 < wb.heap.size := lt_of_block hbb
  have HN1 : Hid (Calls Tryz.prog 164 _ wb.drew _) := HN.out wb.drew TB.out.drew
  clear hrow hsb hbb hwb hst hb3 c1
  go_region_held3 (fun w' => w'.cell? ⟨w.heap.size, 0, none⟩ = some (.int .u8 (r.op.toNat : Int)) ∧ w'.cell? ⟨w.heap.size, 1, none⟩ = some (.int .u8 97) ∧ w'.cell? ⟨w.heap.size, 2, none⟩ = some (.int .u8 (r.d.toNat : Int)) ∧ w'.cell? ⟨w.heap.size, 3, none⟩ = some (.int .i64 r.vis) ∧ w'.cell? ⟨w.heap.size, 4, none⟩ = some (.int .i64 r.win) ∧ w'.cell? ⟨w.heap.size, 5, none⟩ = some (.int .i64 r.rcv) ∧ w'.cell? ⟨w.heap.size, 6, none⟩ = some (.int .i64 r.quo) ∧ w'.cell? ⟨w.heap.size, 7, none⟩ = some (.int .i64 r.mx) ∧ w'.cell? ⟨w.heap.size, 8, none⟩ = some (.int .i64 r.tic) ∧ w'.cell? ⟨w.heap.size, 9, none⟩ = some (.string r.grp) ∧ w'.cell? ⟨w.heap.size, 10, none⟩ = some (.string r.ded) ∧ w'.cell? ⟨w.heap.size, 11, none⟩ = some (.string r.bod) ∧ w'.cell? ⟨w.heap.size, 12, none⟩ = some (.string r.att) ∧ w'.cell? ⟨w.heap.size, 13, none⟩ = some (.string r.han) ∧ w'.cell? ⟨w.heap.size, 14, none⟩ = some (.slice x.a x.n x.c) ∧ w'.cell? ⟨b + 3, 0, none⟩ = some (.func (.func 164) #[] #[]) ∧ w'.cell? ⟨st, 0, none⟩ = some (.int .i64 now)) (go_keep) (first | (go_at_call 164; refine HN1.out.mono ?_; rintro e w1 ⟨av, chg, rfl, ht, hk⟩; have k0 := (ht.cell (a := ⟨w.heap.size, 0, none⟩) hlL (by simp)).trans e0; have k1 := (ht.cell (a := ⟨w.heap.size, 1, none⟩) hlL (by simp)).trans e1; have k2 := (ht.cell (a := ⟨w.heap.size, 2, none⟩) hlL (by simp)).trans e2; have k3 := (ht.cell (a := ⟨w.heap.size, 3, none⟩) hlL (by simp)).trans e3; have k4 := (ht.cell (a := ⟨w.heap.size, 4, none⟩) hlL (by simp)).trans e4; have k5 := (ht.cell (a := ⟨w.heap.size, 5, none⟩) hlL (by simp)).trans e5; have k6 := (ht.cell (a := ⟨w.heap.size, 6, none⟩) hlL (by simp)).trans e6; have k7 := (ht.cell (a := ⟨w.heap.size, 7, none⟩) hlL (by simp)).trans e7; have k8 := (ht.cell (a := ⟨w.heap.size, 8, none⟩) hlL (by simp)).trans e8; have k9 := (ht.cell (a := ⟨w.heap.size, 9, none⟩) hlL (by simp)).trans e9; have k10 := (ht.cell (a := ⟨w.heap.size, 10, none⟩) hlL (by simp)).trans e10; have k11 := (ht.cell (a := ⟨w.heap.size, 11, none⟩) hlL (by simp)).trans e11; have k12 := (ht.cell (a := ⟨w.heap.size, 12, none⟩) hlL (by simp)).trans e12; have k13 := (ht.cell (a := ⟨w.heap.size, 13, none⟩) hlL (by simp)).trans e13; have k14 := (ht.cell (a := ⟨w.heap.size, 14, none⟩) hlL (by simp)).trans e14; have kx := (ht.cell (a := ⟨b + 3, 0, none⟩) hlB (by simp)).trans cb; have ky := (ht.cell (a := ⟨st, 0, none⟩) hlX (by simp)).trans cn))
  have T1 : Hid (Tch [] w w1) := TB.out.drew.trans ht (by simp)
  clear ht
  go_wp2_with fail
  go_ret3
  exact ⟨av, chg, rfl, T1.out, hk⟩
end Go.Proofs.YtbdobaapadlcjaaGreatDoor
