/-
  THE WALKS of set (161), goOn (111), its closure (160).
-/
import Derived.Test.YtbdobaapadlcjaaGreatDoorTkS
import Derived.Test.YtbdobaapadlcjaaGreatDoorTkU
namespace Go.Proofs.YtbdobaapadlcjaaGreatDoor
open Go.Shelf Go.RowKit Go.Lib
set_option linter.unusedVariables false

set_option maxHeartbeats 400000 in
theorem idx_at_none (a : Option Addr) (c : Nat) (fv : Value) (w : World) : Calls Tryz.prog 262 #[.slice a 0 c, fv] w fun e w' => e = .returned (.int .i64 (-1)) ∧ w' = w := by
  go_enter Tryz.func262, Tryz.ntmps262
  go_wp2
  refine wp_loop_rounds 1 ?_
  rw [rounds_succ]
  go_wp2
  go_ret
  exact ⟨rfl, rfl⟩
set_option maxHeartbeats 400000 in
theorem del_none (a : Option Addr) (c : Nat) (fv : Value) (w : World) : Calls Tryz.prog 295 #[.slice a 0 c, fv] w fun e w' => e = .returned (.slice a 0 c) ∧ w' = w := by
  go_enter Tryz.func295, Tryz.ntmps295
  go_wp2_with (go_at_call 262; refine (idx_at_none _ _ _ _).mono ?_; rintro e w' ⟨rfl, rfl⟩)
  go_ret
  exact ⟨rfl, rfl⟩

set_option maxRecDepth 8000 in
set_option maxHeartbeats 2000000 in
theorem forget_walk (J : World → Prop) (S : List Nat) (c : Wp.Rq) (qb gd n cd : Nat) (now next : Int) (ms rs ds : Value) (w : World) (hq : Qb w qb c next ms rs ds (.slice none 0 0)) (hS : qb ∉ S)
    (hdel : Calls Tryz.prog 293 #[ds, .func (.func 294) #[] #[.pointer (some ⟨w.heap.size, 0, none⟩)]] (w.alloc (.cells #[.int .i64 now] 3)) fun e w1 => e = .returned (.slice (some ⟨gd, 0, none⟩) n cd) ∧ Tch S (w.alloc (.cells #[.int .i64 now] 3)) w1 ∧ J w1) :
    Calls Tryz.prog 270 #[.pointer (some ⟨qb, 0, none⟩), .int .i64 now] w fun e w' => e = .returned (.tuple #[]) ∧ ∃ w1, Tch S (w.alloc (.cells #[.int .i64 now] 3)) w1 ∧ J w1 ∧ w' = (w1.setCell ⟨qb, 9, none⟩ (.slice (some ⟨gd, 0, none⟩) n cd)).setCell ⟨qb, 10, none⟩ (.slice none 0 0) := by
  have hmf : ∀ (fn : Fn) (first cap : Array Value) (w : World), (Instr.makeFunc fn first cap).run Tryz.prog w = .ok (.func fn first cap) w := fun _ _ _ _ => rfl
  have hlt := hq.lt
  have hqa : Qb (w.alloc (.cells #[.int .i64 now] 3)) qb c next ms rs ds (.slice none 0 0) := (Below.heap_alloc _ _ _ hlt).trans hq
  have q9 : w.cell? ⟨qb, 9, none⟩ = some ds := cell_qC hq 9 _ rfl
  have HD : Hid (Calls Tryz.prog 293 _ _ _) := hdel
  have HQ : Hid (Qb (w.alloc (.cells #[.int .i64 now] 3)) qb c next ms rs ds (.slice none 0 0)) := hqa
  clear hdel hq hqa
  go_enter Tryz.func270, Tryz.ntmps270
  go_wp2_with fail
  refine HD.out.mono ?_
  rintro e w1 ⟨rfl, ht, hj⟩
  have hq1 : Qb w1 qb c next ms rs ds (.slice none 0 0) := (ht.block _ HQ.out.lt hS).trans HQ.out
  have d9 : w1.cell? ⟨qb, 9, none⟩ = some ds := cell_qC hq1 9 _ rfl
  have z9 := hq1.fz 9
  have hq2 := hq1.set9 (.slice (some ⟨gd, 0, none⟩) n cd)
  have d10 : (w1.setCell ⟨qb, 9, none⟩ (.slice (some ⟨gd, 0, none⟩) n cd)).cell? ⟨qb, 10, none⟩ = some (.slice none 0 0) := cell_qC hq2 10 _ rfl
  have z10 := hq2.fz 10
  have HT : Hid (Tch S (w.alloc (.cells #[.int .i64 now] 3)) w1) := ht
  clear ht hq1 hq2
  go_wp2_with (go_at_call 295; refine (del_none _ _ _ _).mono ?_; rintro e w' ⟨rfl, rfl⟩)
  go_end0
  exact ⟨rfl, w1, HT.out, hj, rfl⟩
end Go.Proofs.YtbdobaapadlcjaaGreatDoor

namespace Go.Proofs.YtbdobaapadlcjaaGreatDoor
open Go.RowKit
set_option linter.unusedVariables false

theorem stC_set (w : World) (st b : Nat) (now0 now : Int) (q : Value) (h : w.heap[st]? = some (.cells (stC now0 q b) 156 (0, 0))) : (w.setCell ⟨st, 0, none⟩ (.int .i64 now)).heap[st]? = some (.cells (stC now q b) 156 (0, 0)) :=
  (heap_setCell_same w st 0 _ 156 _ h).trans (congrArg (fun z => some (Obj.cells z 156 (0, 0))) (by kernel_rfl))

set_option maxRecDepth 8000 in
set_option maxHeartbeats 2000000 in
theorem set_walk (K : World → Prop) (st b qb : Nat) (now0 now : Int) (w : World) (hst : w.heap[st]? = some (.cells (stC now0 (.pointer (some ⟨qb, 0, none⟩)) b) 156 (0, 0)))
    (hF : ∀ W, Tch [] (w.setCell ⟨st, 0, none⟩ (.int .i64 now)) W → Calls Tryz.prog 270 #[.pointer (some ⟨qb, 0, none⟩), .int .i64 now] W fun e w3 => e = .returned (.tuple #[]) ∧ w3.heap[st]? = some (.cells (stC now (.pointer (some ⟨qb, 0, none⟩)) b) 156 (0, 0)) ∧
      ∀ W', Tch [] w3 W' → Calls Tryz.prog 271 #[.pointer (some ⟨st, 0, none⟩), .pointer (some ⟨qb, 0, none⟩)] W' fun e w5 => e = .returned (.tuple #[]) ∧ K w5) :
    Calls Tryz.prog 221 #[.pointer (some ⟨st, 0, none⟩), .int .i64 now] w fun e w' => e = .returned (.tuple #[]) ∧ K w' := by
  have c0 := stC_now _ _ _ _ _ hst
  have z0 : w.frozen? ⟨st, 0, none⟩ = false := frozen_of_row w st 0 _ 156 hst
  have HT : Hid (Calls Tryz.prog 93 _ (w.setCell ⟨st, 0, none⟩ (.int .i64 now)) _) := there_any st b qb now _ (stC_set w st b now0 now _ hst)
  have HF : Hid (∀ W, Tch [] (w.setCell ⟨st, 0, none⟩ (.int .i64 now)) W → _) := hF
  clear hst hF
  go_enter Tryz.func221, Tryz.ntmps221
  go_wp2_with fail
  refine HT.out.mono ?_
  rintro e w2 ⟨g, cap, rfl, hc, hb⟩
  have HF2 : Hid (Calls Tryz.prog 270 _ w2 _) := HF.out w2 (Tch.of_below hb)
  clear hb
  go_wp2_with fail
  refine wp_loop_rounds 2 ?_
  rw [rounds_succ]
  go_wp2_with fail
  refine HF2.out.mono ?_
  rintro e w3 ⟨rfl, hst3, hB⟩
  have HT3 : Hid (Calls Tryz.prog 93 _ w3 _) := there_any st b qb now w3 hst3
  have HB3 : Hid (∀ W', Tch [] w3 W' → _) := hB
  clear hst3 hB hc
  go_wp2_with fail
  rw [rounds_succ]
  go_wp2_with fail
  refine HT3.out.mono ?_
  rintro e w4 ⟨g4, cap4, rfl, hc4, hb4⟩
  have HB4 : Hid (Calls Tryz.prog 271 _ w4 _) := HB3.out w4 (Tch.of_below hb4)
  clear hb4
  go_wp2_with fail
  refine wp_loop_rounds 2 ?_
  rw [rounds_succ]
  go_wp2_with fail
  refine HB4.out.mono ?_
  rintro e w5 ⟨rfl, hk⟩
  go_wp2_with fail
  rw [rounds_succ]
  go_wp2_with fail
  go_end0
  exact ⟨rfl, hk⟩

set_option maxHeartbeats 400000 in
theorem went_walk (K : World → Prop) (gs gl st : Nat) (now : Int) (w : World) (hgs : w.heap[gs]? = some (.cells #[.pointer (some ⟨st, 0, none⟩)] 96 (0, 0))) (hgl : w.heap[gl]? = some (.cells #[.int .i64 now] 3 (0, 0)))
    (hS : Calls Tryz.prog 221 #[.pointer (some ⟨st, 0, none⟩), .int .i64 now] w fun e w' => e = .returned (.tuple #[]) ∧ K w') :
    Calls Tryz.prog 220 #[.pointer (some ⟨gs, 0, none⟩), .pointer (some ⟨gl, 0, none⟩)] w fun e w' => e = .returned (.tuple #[]) ∧ K w' := by
  have c1 := cell_of_one hgs
  have c2 := cell_of_one hgl
  have HS : Hid (Calls Tryz.prog 221 _ w _) := hS
  clear hS hgs hgl
  go_enter Tryz.func220, Tryz.ntmps220
  go_wp2_with (go_at_call 221; refine HS.out.mono ?_; rintro e w' ⟨rfl, hk⟩)
  go_end0
  exact ⟨rfl, by assumption⟩

set_option maxRecDepth 8000 in
set_option maxHeartbeats 2000000 in
theorem goOn_any (r : Wp.Rq) (y : Sl) (st b : Nat) (now : Int) (q : Value) (w : World) (hst : w.heap[st]? = some (.cells (stC now q b) 156 (0, 0))) (hn : 0 ≤ now ∧ 0 ≤ r.tic ∧ now + r.tic ≤ 60000) :
    Calls Tryz.prog 165 #[.pointer (some ⟨st, 0, none⟩), .agg (cellsOf r y.v)] w fun e w' => ∃ gs gl, e = .returned (.tuple #[.slice none 0 0, .func (.func 220) #[] #[.pointer (some ⟨gs, 0, none⟩), .pointer (some ⟨gl, 0, none⟩)], .int .i64 0]) ∧ Tch [] w w' ∧
      w'.heap[gs]? = some (.cells #[.pointer (some ⟨st, 0, none⟩)] 96 (0, 0)) ∧ w'.heap[gl]? = some (.cells #[.int .i64 (now + r.tic)] 3 (0, 0)) := by
  have hmf : ∀ (fn : Fn) (first cap : Array Value) (w : World), (Instr.makeFunc fn first cap).run Tryz.prog w = .ok (.func fn first cap) w := fun _ _ _ _ => rfl
  have hlt := lt_of_block hst
  have c0 := stC_now _ _ _ _ _ hst
  have hwr : IntKind.i64.wrap (now + r.tic) = now + r.tic := by rw [IntKind.wrap_i64]; omega
  have hle : ¬ (60000 : Int) < now + r.tic := by omega
  have HST : Hid (w.heap[st]? = _) := hst
  clear hst
  rw [show cellsOf r y.v = #[.int .u8 (r.op.toNat : Int), .int .u8 (r.q.toNat : Int), .int .u8 (r.d.toNat : Int), .int .i64 r.vis, .int .i64 r.win, .int .i64 r.rcv, .int .i64 r.quo, .int .i64 r.mx, .int .i64 r.tic, .string r.grp, .string r.ded, .string r.bod, .string r.att, .string r.han, .slice y.a y.n y.c] from rfl]
  go_enter Tryz.func165, Tryz.ntmps165
  go_wp2_with fail
  obtain ⟨wb, hwb⟩ : ∃ wb, wb = (w.alloc (.cells #[.pointer (some ⟨st, 0, none⟩)] 96)).alloc (.cells #[.int .u8 (r.op.toNat : Int), .int .u8 (r.q.toNat : Int), .int .u8 (r.d.toNat : Int), .int .i64 r.vis, .int .i64 r.win, .int .i64 r.rcv, .int .i64 r.quo, .int .i64 r.mx, .int .i64 r.tic, .string r.grp, .string r.ded, .string r.bod, .string r.att, .string r.han, .slice y.a y.n y.c] 27) := ⟨_, rfl⟩
  rw [← hwb]
  have t1 : Tch [] w wb := by rw [hwb]; exact ((Tch.refl _ _).alloc _).alloc _
  have h1 : wb.heap[w.heap.size]? = some (.cells #[.pointer (some ⟨st, 0, none⟩)] 96 (0, 0)) := by rw [hwb]; exact heap_alloc2_old _ _ _
  have h2 : wb.heap[w.heap.size + 1]? = some (.cells #[.int .u8 (r.op.toNat : Int), .int .u8 (r.q.toNat : Int), .int .u8 (r.d.toNat : Int), .int .i64 r.vis, .int .i64 r.win, .int .i64 r.rcv, .int .i64 r.quo, .int .i64 r.mx, .int .i64 r.tic, .string r.grp, .string r.ded, .string r.bod, .string r.att, .string r.han, .slice y.a y.n y.c] 27 (0, 0)) := by rw [hwb]; exact heap_alloc2_new _ _ _
  have e1 := cell_of_one h1
  have e2 : wb.cell? ⟨w.heap.size + 1, 8, none⟩ = some (.int .i64 r.tic) := by simp [World.cell?, h2]
  have e3 : wb.cell? ⟨st, 0, none⟩ = some (.int .i64 now) := (t1.cell (a := ⟨st, 0, none⟩) hlt (by simp)).trans c0
  have l1 := lt_of_block h1
  have l2 := lt_of_block h2
  have l3 : st < wb.heap.size := Nat.lt_of_lt_of_le hlt t1.size
  have T1 : Hid (Tch [] w wb) := t1
  have H1 : Hid (wb.heap[w.heap.size]? = some (.cells #[.pointer (some ⟨st, 0, none⟩)] 96 (0, 0))) := h1
  clear hwb t1 h1 h2 c0
  go_region_held3 (fun w' => w'.cell? ⟨w.heap.size, 0, none⟩ = some (.pointer (some ⟨st, 0, none⟩)) ∧ w'.cell? ⟨w.heap.size + 1, 8, none⟩ = some (.int .i64 r.tic) ∧ w'.cell? ⟨st, 0, none⟩ = some (.int .i64 now)) (go_keep) (fail)
  go_wp2_with fail
  go_ret3
  refine ⟨w.heap.size, wb.heap.size, rfl, ?_, ?_, ?_⟩
  · exact (T1.out.alloc _).drew
  · exact (Below.heap_alloc _ _ _ l1).trans H1.out
  · exact heap_alloc_new wb _
end Go.Proofs.YtbdobaapadlcjaaGreatDoor
