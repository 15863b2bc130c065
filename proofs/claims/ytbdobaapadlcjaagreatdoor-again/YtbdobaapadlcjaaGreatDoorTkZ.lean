/-
  THE WALK of state.Plan (81) at the Op T.
-/
import Derived.Test.YtbdobaapadlcjaaGreatDoorTkY
import Derived.Test.YtbdobaapadlcjaaGreatDoorTkC
import Derived.Test.YtbdobaapadlcjaaGreatDoorTkD
namespace Go.Proofs.YtbdobaapadlcjaaGreatDoor
open Go.RowKit

theorem eg160 : ∀ args w, (callFunc 220 args).run Tryz.prog w = .ok (.enter 220 args) w := enters_of Tryz.func220 (by kernel_rfl) rfl

theorem cellsT (r : Wp.Rq) (x : Sl) (hop : r.op = 84) : cellsOf r x.v = #[.int .u8 84, .int .u8 (r.q.toNat : Int), .int .u8 (r.d.toNat : Int), .int .i64 r.vis, .int .i64 r.win, .int .i64 r.rcv, .int .i64 r.quo, .int .i64 r.mx, .int .i64 r.tic, .string r.grp, .string r.ded, .string r.bod, .string r.att, .string r.han, .slice x.a x.n x.c] := by
  have ho' : ((r.op.toNat : Nat) : Int) = 84 := by rw [hop]; rfl
  unfold cellsOf Sl.v; rw [ho']

set_option maxRecDepth 8000 in
set_option maxHeartbeats 2000000 in
theorem plan_T (B m xb : Nat) (K : ByteArray → World → Prop) (r : Wp.Rq) (x : Sl) (st b : Nat) (now : Int) (q : Value) (w : World) (hop : r.op = 84)
    (hst : w.heap[st]? = some (.cells (stC now q b) 156 (0, 0))) (hn : 0 ≤ now ∧ 0 ≤ r.tic ∧ now + r.tic ≤ 60000)
    (hG : ∀ w1 w2 w3 gs gl, Tch [] w w1 → w1.heap[gs]? = some (.cells #[.pointer (some ⟨st, 0, none⟩)] 96 (0, 0)) → w1.heap[gl]? = some (.cells #[.int .i64 (now + r.tic)] 3 (0, 0)) → Tch [] w1 w2 → Fr B TJ w2 w3 → Jn false B m w3 xb st → Calls Tryz.prog 220 #[.pointer (some ⟨gs, 0, none⟩), .pointer (some ⟨gl, 0, none⟩)] w3 fun e w' => e = .returned (.tuple #[]) ∧ K ⟨#[0]⟩ w') :
    Calls Tryz.prog 62 #[.pointer (some ⟨st, 0, none⟩), .agg (cellsOf r x.v)] w fun e w' => Tch [] w w' ∧ Planned B m xb st K e w' := by
  have hlt := lt_of_block hst
  have HST : Hid (w.heap[st]? = _) := hst
  have HN : Hid (∀ W : World, Tch [] w W → Calls Tryz.prog 165 #[.pointer (some ⟨st, 0, none⟩), .agg (cellsOf r x.v)] W fun e w' => ∃ gs gl, e = .returned (.tuple #[.slice none 0 0, .func (.func 220) #[] #[.pointer (some ⟨gs, 0, none⟩), .pointer (some ⟨gl, 0, none⟩)], .int .i64 0]) ∧ Tch [] W w' ∧
      w'.heap[gs]? = some (.cells #[.pointer (some ⟨st, 0, none⟩)] 96 (0, 0)) ∧ w'.heap[gl]? = some (.cells #[.int .i64 (now + r.tic)] 3 (0, 0))) := fun W ht => goOn_any r x st b now q W ((ht.block _ hlt (by simp)).trans hst) hn
  have HG : Hid (∀ w1 w2 w3 gs gl, Tch [] w w1 → _) := hG
  rw [cellsT r x hop] at HN
  rw [cellsT r x hop]
  clear hG hn
  go_enter Tryz.func62, Tryz.ntmps62
  have hw19 : IntKind.u8.wrap 19 = 19 := by decide
  go_wp2_with fail
  obtain ⟨wb, hwb⟩ : ∃ wb, wb = w.alloc (.cells #[.int .u8 84, .int .u8 (r.q.toNat : Int), .int .u8 (r.d.toNat : Int), .int .i64 r.vis, .int .i64 r.win, .int .i64 r.rcv, .int .i64 r.quo, .int .i64 r.mx, .int .i64 r.tic, .string r.grp, .string r.ded, .string r.bod, .string r.att, .string r.han, .slice x.a x.n x.c] 27) := ⟨_, rfl⟩
  rw [← hwb]
  have hrow : wb.heap[w.heap.size]? = some (.cells #[.int .u8 84, .int .u8 (r.q.toNat : Int), .int .u8 (r.d.toNat : Int), .int .i64 r.vis, .int .i64 r.win, .int .i64 r.rcv, .int .i64 r.quo, .int .i64 r.mx, .int .i64 r.tic, .string r.grp, .string r.ded, .string r.bod, .string r.att, .string r.han, .slice x.a x.n x.c] 27 (0, 0)) := by rw [hwb]; exact heap_alloc_new _ _
  have hsb : wb.heap[st]? = some (.cells (stC now q b) 156 (0, 0)) := by rw [hwb]; exact (Below.heap_alloc _ _ _ hlt).trans HST.out
  have TB : Hid (Tch [] w wb) := by rw [hwb]; exact (Tch.refl _ _).alloc _
  have e0 : wb.cell? ⟨w.heap.size, 0, none⟩ = some (.int .u8 84) := by simp [World.cell?, hrow]
  have e1 : wb.cell? ⟨w.heap.size, 1, none⟩ = some (.int .u8 (r.q.toNat : Int)) := by simp [World.cell?, hrow]
  have e2 : wb.cell? ⟨w.heap.size, 2, none⟩ = some (.int .u8 (r.d.toNat : Int)) := by simp [World.cell?, hrow]
  have e3 : wb.cell? ⟨w.heap.size, 3, none⟩ = some (.int .i64 r.vis) := by simp [World.cell?, hrow]
  have e4 : wb.cell? ⟨w.heap.size, 4, none⟩ = some (.int .i64 r.win) := by simp [World.cell?, hrow]
  have e5 : wb.cell? ⟨w.heap.size, 5, none⟩ = some (.int .i64 r.rcv) := by simp [World.cell?, hrow]
  have e6 : wb.cell? ⟨w.heap.size, 6, none⟩ = some (.int .i64 r.quo) := by simp [World.cell?, hrow]
  have e7 : wb.cell? ⟨w.heap.size, 7, none⟩ = some (.int .i64 r.mx) := by simp [World.cell?, hrow]
  have e8 : wb.cell? ⟨w.heap.size, 8, none⟩ = some (.int .i64 r.tic) := by simp [World.cell?, hrow]
  have e9 : wb.cell? ⟨w.heap.size, 9, none⟩ = some (.string r.grp) := by simp [World.cell?, hrow]
  have e10 : wb.cell? ⟨w.heap.size, 10, none⟩ = some (.string r.ded) := by simp [World.cell?, hrow]
  have e11 : wb.cell? ⟨w.heap.size, 11, none⟩ = some (.string r.bod) := by simp [World.cell?, hrow]
  have e12 : wb.cell? ⟨w.heap.size, 12, none⟩ = some (.string r.att) := by simp [World.cell?, hrow]
  have e13 : wb.cell? ⟨w.heap.size, 13, none⟩ = some (.string r.han) := by simp [World.cell?, hrow]
  have e14 : wb.cell? ⟨w.heap.size, 14, none⟩ = some (.slice x.a x.n x.c) := by simp [World.cell?, hrow]
  have cx2 := stC_T _ _ _ _ _ hsb
  have hlL : w.heap.size < wb.heap.size := lt_of_block hrow
  have hlX : st < wb.heap.size := lt_of_block hsb
  have HN1 : Hid (Calls Tryz.prog 165 _ wb.drew _) := HN.out wb.drew TB.out.drew
  clear hrow hsb hwb hst
  go_region_held3 (fun w' => w'.cell? ⟨w.heap.size, 0, none⟩ = some (.int .u8 84) ∧ w'.cell? ⟨w.heap.size, 1, none⟩ = some (.int .u8 (r.q.toNat : Int)) ∧ w'.cell? ⟨w.heap.size, 2, none⟩ = some (.int .u8 (r.d.toNat : Int)) ∧ w'.cell? ⟨w.heap.size, 3, none⟩ = some (.int .i64 r.vis) ∧ w'.cell? ⟨w.heap.size, 4, none⟩ = some (.int .i64 r.win) ∧ w'.cell? ⟨w.heap.size, 5, none⟩ = some (.int .i64 r.rcv) ∧ w'.cell? ⟨w.heap.size, 6, none⟩ = some (.int .i64 r.quo) ∧ w'.cell? ⟨w.heap.size, 7, none⟩ = some (.int .i64 r.mx) ∧ w'.cell? ⟨w.heap.size, 8, none⟩ = some (.int .i64 r.tic) ∧ w'.cell? ⟨w.heap.size, 9, none⟩ = some (.string r.grp) ∧ w'.cell? ⟨w.heap.size, 10, none⟩ = some (.string r.ded) ∧ w'.cell? ⟨w.heap.size, 11, none⟩ = some (.string r.bod) ∧ w'.cell? ⟨w.heap.size, 12, none⟩ = some (.string r.att) ∧ w'.cell? ⟨w.heap.size, 13, none⟩ = some (.string r.han) ∧ w'.cell? ⟨w.heap.size, 14, none⟩ = some (.slice x.a x.n x.c) ∧ w'.cell? ⟨st, 28, none⟩ = some (.func (.func 165) #[] #[])) (go_keep) (first | (go_at_call 165; refine HN1.out.mono ?_; rintro e w1 ⟨gs, gl, rfl, ht, hg1, hg2⟩; have k0 := (ht.cell (a := ⟨w.heap.size, 0, none⟩) hlL (by simp)).trans e0; have k1 := (ht.cell (a := ⟨w.heap.size, 1, none⟩) hlL (by simp)).trans e1; have k2 := (ht.cell (a := ⟨w.heap.size, 2, none⟩) hlL (by simp)).trans e2; have k3 := (ht.cell (a := ⟨w.heap.size, 3, none⟩) hlL (by simp)).trans e3; have k4 := (ht.cell (a := ⟨w.heap.size, 4, none⟩) hlL (by simp)).trans e4; have k5 := (ht.cell (a := ⟨w.heap.size, 5, none⟩) hlL (by simp)).trans e5; have k6 := (ht.cell (a := ⟨w.heap.size, 6, none⟩) hlL (by simp)).trans e6; have k7 := (ht.cell (a := ⟨w.heap.size, 7, none⟩) hlL (by simp)).trans e7; have k8 := (ht.cell (a := ⟨w.heap.size, 8, none⟩) hlL (by simp)).trans e8; have k9 := (ht.cell (a := ⟨w.heap.size, 9, none⟩) hlL (by simp)).trans e9; have k10 := (ht.cell (a := ⟨w.heap.size, 10, none⟩) hlL (by simp)).trans e10; have k11 := (ht.cell (a := ⟨w.heap.size, 11, none⟩) hlL (by simp)).trans e11; have k12 := (ht.cell (a := ⟨w.heap.size, 12, none⟩) hlL (by simp)).trans e12; have k13 := (ht.cell (a := ⟨w.heap.size, 13, none⟩) hlL (by simp)).trans e13; have k14 := (ht.cell (a := ⟨w.heap.size, 14, none⟩) hlL (by simp)).trans e14; have kx := (ht.cell (a := ⟨st, 28, none⟩) hlX (by simp)).trans cx2))
  have T1 : Hid (Tch [] w w1) := TB.out.drew.trans ht (by simp)
  have HG1 : Hid (w1.heap[gs]? = _) := hg1
  have HG2 : Hid (w1.heap[gl]? = _) := hg2
  clear ht hg1 hg2
  have hzs := zero_str
  go_wp2_with fail
  go_ret2
  exact ⟨T1.out.alloc _, ⟨#[0]⟩, .inr ⟨220, _, rfl, eg160, fun w2 w3 h1 h2 h3 => HG.out _ w2 w3 gs gl (T1.out.alloc _) ((Below.heap_alloc _ _ _ (lt_of_block HG1.out)).trans HG1.out) ((Below.heap_alloc _ _ _ (lt_of_block HG2.out)).trans HG2.out) h1 h2 h3⟩⟩
end Go.Proofs.YtbdobaapadlcjaaGreatDoor
