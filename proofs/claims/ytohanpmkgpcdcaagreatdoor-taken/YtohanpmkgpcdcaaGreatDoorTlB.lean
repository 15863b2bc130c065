/-
  THE WALK of begun (12).
-/
import Derived.Test.YtohanpmkgpcdcaaGreatDoorTkF
import Derived.Test.YtohanpmkgpcdcaaGreatDoorTkR
namespace Go.Proofs.YtohanpmkgpcdcaaGreatDoor
open Go.RowKit
set_option linter.unusedVariables false

/-- What begun makes of a raw request. -/
def cqN (V W2 R U : Int) : Wp.Rq := ⟨67, 97, 45, 1 + V, W2, R, 1 + U, 0, 0, ⟨#[]⟩, ⟨#[]⟩, ⟨#[]⟩, ⟨#[]⟩, ⟨#[]⟩⟩
theorem cqN_wf (V W2 R U : Int) (h1 : 0 ≤ V ∧ V < 1000) (h2 : 0 ≤ W2 ∧ W2 < 1001) (h3 : 0 ≤ R ∧ R < 10) (h4 : 0 ≤ U ∧ U < 50) : Wf (cqN V W2 R U) :=
  Keep.wf_small _ ⟨by show (0 : Int) ≤ 1 + V; omega, by show 1 + V ≤ (1001 : Int); omega⟩ ⟨by show (0 : Int) ≤ W2; omega, by show W2 ≤ (1001 : Int); omega⟩ ⟨by show (0 : Int) ≤ R; omega, by show R ≤ (1001 : Int); omega⟩ ⟨by show (0 : Int) ≤ 1 + U; omega, by show 1 + U ≤ (1001 : Int); omega⟩ Keep.zz Keep.zz
theorem cqN_right (V W2 R U : Int) (h1 : 0 ≤ V ∧ V < 1000) (h2 : 0 ≤ W2 ∧ W2 < 1001) (h3 : 0 ≤ R ∧ R < 10) (h4 : 0 ≤ U ∧ U < 50) : rightW (cqN V W2 R U) nil0 (Wp.short []) = true := by
  refine (right_iff _ _ _ (cqN_wf V W2 R U h1 h2 h3 h4)).2 ⟨2, by decide, rfl, ?_, rfl, rfl⟩
  show List.all [0, 2, 3, 4, 1, 5] _ = true
  simp only [List.all_cons, List.all_nil, Bool.and_true, Bool.and_eq_true]
  exact ⟨Keep.fits_of _ _ _ 0 (by decide) (by decide) (by decide) (show (97 : Int) ≤ 97 by omega) (show (97 : Int) ≤ 104 by omega), Keep.fits_of _ _ _ 2 (by decide) (by decide) (by decide) (show (1 : Int) ≤ 1 + V by omega) (show 1 + V ≤ (1000 : Int) by omega), Keep.fits_of _ _ _ 3 (by decide) (by decide) (by decide) (show (0 : Int) ≤ W2 by omega) (show W2 ≤ (1000 : Int) by omega), Keep.fits_of _ _ _ 4 (by decide) (by decide) (by decide) (show (0 : Int) ≤ R by omega) (show R ≤ (9 : Int) by omega), Keep.fits_dead _ _ _ (Or.inl rfl), Keep.fits_of _ _ _ 5 (by decide) (by decide) (by decide) (show (1 : Int) ≤ 1 + U by omega) (show 1 + U ≤ (50 : Int) by omega)⟩

/-- What is there when a game begins. -/
structure Game (w : World) (lb x st b qb : Nat) (c : Wp.Rq) : Prop where
  line : w.heap[lb]? = some (.cells (#[.pointer (some ⟨x, 0, none⟩)] ++ cellsOf c nil0.v ++ #[.int .i64 0, .slice none 0 0, .slice none 0 0]) 42 (0, 0))
  brk : Brk w x st b 0 (.pointer (some ⟨qb, 0, none⟩))
  que : Qb w qb c 1 (.slice none 0 0) (.slice none 0 0) (.slice none 0 0) (.slice none 0 0)

set_option maxRecDepth 8000 in
set_option maxHeartbeats 4000000 in
theorem begun_any (B : Nat) (r : Wp.Rq) (x : Sl) (w : World) (hw : Wf r) (hz : Keep.Szs r) (hL : Lays B w) (h3 : B ≤ w.heap.size) :
    Calls Tryz.prog 12 #[.agg (cellsOf r x.v)] w fun e w' => ∃ lb xb st b qb, e = .returned (.pointer (some ⟨lb, 0, none⟩)) ∧ Game w' lb xb st b qb (cqN (pk r.vis 1000) (pk r.win 1001) (pk r.rcv 10) (pk r.quo 50)) ∧ Below w.heap.size w w' ∧ w.heap.size ≤ st ∧ w.heap.size ≤ qb := by
  have HSH : Hid (∀ W, Calls Tryz.prog 30 #[.agg (cellsOf { r with op := 0, q := 0 } x.v)] W fun e w' => (∃ q d : UInt8, e = .returned (.agg (cellsOf ⟨67, q, d, (1 + pk r.vis 1000), pk r.win 1001, pk r.rcv 10, (1 + pk r.quo 50), 0, 0, ⟨#[]⟩, ⟨#[]⟩, ⟨#[]⟩, ⟨#[]⟩, ⟨#[]⟩⟩ (Sl.v ⟨none, 0, 0⟩)))) ∧ Below W.heap.size W w') := fun W =>
    Keep.shaped_C { r with op := 0, q := 0 } x W rfl ⟨hw.vis, hw.win, hw.rcv, hw.quo, hw.mx, hw.tic⟩ ⟨hz.grp, hz.ded, hz.bod, hz.att, hz.han⟩
  have p1 : 0 ≤ pk r.vis 1000 ∧ pk r.vis 1000 < 1000 := ⟨pk_nonneg _ _ (by decide), pk_lt _ _ (by decide)⟩
  have p2 : 0 ≤ pk r.win 1001 ∧ pk r.win 1001 < 1001 := ⟨pk_nonneg _ _ (by decide), pk_lt _ _ (by decide)⟩
  have p3 : 0 ≤ pk r.rcv 10 ∧ pk r.rcv 10 < 10 := ⟨pk_nonneg _ _ (by decide), pk_lt _ _ (by decide)⟩
  have p4 : 0 ≤ pk r.quo 50 ∧ pk r.quo 50 < 50 := ⟨pk_nonneg _ _ (by decide), pk_lt _ _ (by decide)⟩
  generalize pk r.vis 1000 = V at *
  generalize pk r.win 1001 = W2 at *
  generalize pk r.rcv 10 = R at *
  generalize pk r.quo 50 = U at *
  rw [show cellsOf { r with op := 0, q := 0 } x.v = #[.int .u8 0, .int .u8 0, .int .u8 (r.d.toNat : Int), .int .i64 r.vis, .int .i64 r.win, .int .i64 r.rcv, .int .i64 r.quo, .int .i64 r.mx, .int .i64 r.tic, .string r.grp, .string r.ded, .string r.bod, .string r.att, .string r.han, .slice x.a x.n x.c] from rfl] at HSH
  have HCW : Hid (Wf (cqN V W2 R U)) := cqN_wf V W2 R U p1 p2 p3 p4
  have HCR : Hid (rightW (cqN V W2 R U) nil0 (Wp.short []) = true) := cqN_right V W2 R U p1 p2 p3 p4
  have HL : Hid (Lays B w) := hL
  clear hw hz p1 p2 p3 p4 hL
  rw [show cellsOf r x.v = #[.int .u8 (r.op.toNat : Int), .int .u8 (r.q.toNat : Int), .int .u8 (r.d.toNat : Int), .int .i64 r.vis, .int .i64 r.win, .int .i64 r.rcv, .int .i64 r.quo, .int .i64 r.mx, .int .i64 r.tic, .string r.grp, .string r.ded, .string r.bod, .string r.att, .string r.han, .slice x.a x.n x.c] from rfl]
  go_enter Tryz.func12, Tryz.ntmps12
  go_wp2_with fail
  refine (opened_any _).mono ?_
  rintro e w1 ⟨rfl, hb1, hs1, hB1⟩
  have t1 : Tch [] w w1 := ((Tch.refl [] w).alloc _).trans (Tch.of_below hb1) (by simp)
  rw [World.size_alloc] at hs1 hB1 hb1
  rw [World.size_alloc]
  have hrow : w1.heap[w.heap.size]? = some (.cells #[.int .u8 (r.op.toNat : Int), .int .u8 (r.q.toNat : Int), .int .u8 (r.d.toNat : Int), .int .i64 r.vis, .int .i64 r.win, .int .i64 r.rcv, .int .i64 r.quo, .int .i64 r.mx, .int .i64 r.tic, .string r.grp, .string r.ded, .string r.bod, .string r.att, .string r.han, .slice x.a x.n x.c] 27 (0, 0)) := (hb1.block _ (by omega)).trans (heap_alloc_new _ _)
  have e0 : w1.cell? ⟨w.heap.size, 0, none⟩ = some (.int .u8 (r.op.toNat : Int)) := cell_qC hrow 0 _ rfl
  have e1 : w1.cell? ⟨w.heap.size, 1, none⟩ = some (.int .u8 (r.q.toNat : Int)) := cell_qC hrow 1 _ rfl
  have e2 : w1.cell? ⟨w.heap.size, 2, none⟩ = some (.int .u8 (r.d.toNat : Int)) := cell_qC hrow 2 _ rfl
  have e3 : w1.cell? ⟨w.heap.size, 3, none⟩ = some (.int .i64 r.vis) := cell_qC hrow 3 _ rfl
  have e4 : w1.cell? ⟨w.heap.size, 4, none⟩ = some (.int .i64 r.win) := cell_qC hrow 4 _ rfl
  have e5 : w1.cell? ⟨w.heap.size, 5, none⟩ = some (.int .i64 r.rcv) := cell_qC hrow 5 _ rfl
  have e6 : w1.cell? ⟨w.heap.size, 6, none⟩ = some (.int .i64 r.quo) := cell_qC hrow 6 _ rfl
  have e7 : w1.cell? ⟨w.heap.size, 7, none⟩ = some (.int .i64 r.mx) := cell_qC hrow 7 _ rfl
  have e8 : w1.cell? ⟨w.heap.size, 8, none⟩ = some (.int .i64 r.tic) := cell_qC hrow 8 _ rfl
  have e9 : w1.cell? ⟨w.heap.size, 9, none⟩ = some (.string r.grp) := cell_qC hrow 9 _ rfl
  have e10 : w1.cell? ⟨w.heap.size, 10, none⟩ = some (.string r.ded) := cell_qC hrow 10 _ rfl
  have e11 : w1.cell? ⟨w.heap.size, 11, none⟩ = some (.string r.bod) := cell_qC hrow 11 _ rfl
  have e12 : w1.cell? ⟨w.heap.size, 12, none⟩ = some (.string r.att) := cell_qC hrow 12 _ rfl
  have e13 : w1.cell? ⟨w.heap.size, 13, none⟩ = some (.string r.han) := cell_qC hrow 13 _ rfl
  have e14 : w1.cell? ⟨w.heap.size, 14, none⟩ = some (.slice x.a x.n x.c) := cell_qC hrow 14 _ rfl
  have lt1 := lt_of_block hrow
  have fz0 : w1.frozen? ⟨w.heap.size, 0, none⟩ = false := frozen_of_row w1 _ 0 _ 27 hrow
  have fz1 : (w1.setCell ⟨w.heap.size, 0, none⟩ (.int .u8 0)).frozen? ⟨w.heap.size, 1, none⟩ = false := frozen_of_row _ _ 1 _ 27 (heap_setCell_same w1 _ 0 _ 27 _ hrow)
  have fz1' : w1.frozen? ⟨w.heap.size, 1, none⟩ = false := frozen_of_row w1 _ 1 _ 27 hrow
  have T1 : Hid (Tch [] w w1) := t1
  have HB1 : Hid (Brk w1 _ _ _ 0 (.pointer none)) := hB1
  have HS1 : Hid (w1.heap.size = w.heap.size + 1 + 8) := hs1
  clear hb1 hrow t1 hB1
  go_wp2_with fail
  refine (HSH.out _).mono ?_
  rintro e w2 ⟨⟨q, d, rfl⟩, hb2⟩
  have t2 : Tch [w.heap.size] w1 w2 := (((Tch.refl [w.heap.size] w1).setCell (fun _ => by simp) _).setCell (fun _ => by simp) _).trans (Tch.of_below hb2) (by simp)
  have T2 : Hid (Tch [w.heap.size] w1 w2) := t2
  clear hb2 t2
  rw [show cellsOf ⟨67, q, d, 1 + V, W2, R, 1 + U, 0, 0, ⟨#[]⟩, ⟨#[]⟩, ⟨#[]⟩, ⟨#[]⟩, ⟨#[]⟩⟩ (Sl.v ⟨none, 0, 0⟩) = #[.int .u8 67, .int .u8 (q.toNat : Int), .int .u8 (d.toNat : Int), .int .i64 (1 + V), .int .i64 W2, .int .i64 R, .int .i64 (1 + U), .int .i64 0, .int .i64 0, .string ⟨#[]⟩, .string ⟨#[]⟩, .string ⟨#[]⟩, .string ⟨#[]⟩, .string ⟨#[]⟩, .slice none 0 0] from rfl]
  go_wp2_with fail
  have hB2 : Brk w2 _ _ _ 0 (.pointer none) := HB1.out.tch T2.out (by simp; omega) (by simp; omega) (by simp; omega)
  have tw2 : Tch [] w w2 := T1.out.trans T2.out (by simp)
  have z1 := HS1.out
  have z2 := T2.out.size
  have hC := create_C B (cqN V W2 R U) (w.heap.size + 1 + 7) (w.heap.size + 1 + 6) (w.heap.size + 1 + 1) 0 (w2.alloc (.cells #[.int .u8 67, .int .u8 97, .int .u8 45, .int .i64 (1 + V), .int .i64 W2, .int .i64 R, .int .i64 (1 + U), .int .i64 0, .int .i64 0, .string ⟨#[]⟩, .string ⟨#[]⟩, .string ⟨#[]⟩, .string ⟨#[]⟩, .string ⟨#[]⟩, .slice none 0 0] 27)) HCW.out HCR.out rfl rfl (Lays.tch HL.out (tw2.alloc _) (by simp) h3) (by simp; omega) (hB2.tch ((Tch.refl [] w2).alloc _) (by simp) (by simp) (by simp))
  rw [show cellsOf (cqN V W2 R U) nil0.v = #[.int .u8 67, .int .u8 97, .int .u8 45, .int .i64 (1 + V), .int .i64 W2, .int .i64 R, .int .i64 (1 + U), .int .i64 0, .int .i64 0, .string ⟨#[]⟩, .string ⟨#[]⟩, .string ⟨#[]⟩, .string ⟨#[]⟩, .string ⟨#[]⟩, .slice none 0 0] from rfl] at hC
  refine hC.mono ?_
  rintro e w3 ⟨rfl, ht3, qb, hqb, hB3, hq3⟩
  rw [World.size_alloc] at hqb
  have hrow3 : w3.heap[w2.heap.size]? = some (.cells #[.int .u8 67, .int .u8 97, .int .u8 45, .int .i64 (1 + V), .int .i64 W2, .int .i64 R, .int .i64 (1 + U), .int .i64 0, .int .i64 0, .string ⟨#[]⟩, .string ⟨#[]⟩, .string ⟨#[]⟩, .string ⟨#[]⟩, .string ⟨#[]⟩, .slice none 0 0] 27 (0, 0)) := (ht3.block _ (by simp) (by simp; omega)).trans (heap_alloc_new _ _)
  have k0 : w3.cell? ⟨w2.heap.size, 0, none⟩ = some (.int .u8 67) := cell_qC hrow3 0 _ rfl
  have k1 : w3.cell? ⟨w2.heap.size, 1, none⟩ = some (.int .u8 97) := cell_qC hrow3 1 _ rfl
  have k2 : w3.cell? ⟨w2.heap.size, 2, none⟩ = some (.int .u8 45) := cell_qC hrow3 2 _ rfl
  have k3 : w3.cell? ⟨w2.heap.size, 3, none⟩ = some (.int .i64 (1 + V)) := cell_qC hrow3 3 _ rfl
  have k4 : w3.cell? ⟨w2.heap.size, 4, none⟩ = some (.int .i64 W2) := cell_qC hrow3 4 _ rfl
  have k5 : w3.cell? ⟨w2.heap.size, 5, none⟩ = some (.int .i64 R) := cell_qC hrow3 5 _ rfl
  have k6 : w3.cell? ⟨w2.heap.size, 6, none⟩ = some (.int .i64 (1 + U)) := cell_qC hrow3 6 _ rfl
  have k7 : w3.cell? ⟨w2.heap.size, 7, none⟩ = some (.int .i64 0) := cell_qC hrow3 7 _ rfl
  have k8 : w3.cell? ⟨w2.heap.size, 8, none⟩ = some (.int .i64 0) := cell_qC hrow3 8 _ rfl
  have k9 : w3.cell? ⟨w2.heap.size, 9, none⟩ = some (.string ⟨#[]⟩) := cell_qC hrow3 9 _ rfl
  have k10 : w3.cell? ⟨w2.heap.size, 10, none⟩ = some (.string ⟨#[]⟩) := cell_qC hrow3 10 _ rfl
  have k11 : w3.cell? ⟨w2.heap.size, 11, none⟩ = some (.string ⟨#[]⟩) := cell_qC hrow3 11 _ rfl
  have k12 : w3.cell? ⟨w2.heap.size, 12, none⟩ = some (.string ⟨#[]⟩) := cell_qC hrow3 12 _ rfl
  have k13 : w3.cell? ⟨w2.heap.size, 13, none⟩ = some (.string ⟨#[]⟩) := cell_qC hrow3 13 _ rfl
  have k14 : w3.cell? ⟨w2.heap.size, 14, none⟩ = some (.slice none 0 0) := cell_qC hrow3 14 _ rfl
  have TF : Hid (Tch [] w w3) := (tw2.alloc _).trans ht3 (fun k hk hlt => by simp at hk; omega)
  have HB3 : Hid (Brk w3 _ _ _ 0 _) := hB3
  have HQ3 : Hid (Qb w3 qb (cqN V W2 R U) 1 (.slice none 0 0) (.slice none 0 0) (.slice none 0 0) (.slice none 0 0)) := hq3
  have HZ : Hid (w.heap.size ≤ qb) := by show _ ≤ _; omega
  have lt3 := lt_of_block hrow3
  clear hC hrow3 ht3 hB3 hq3 hB2 tw2
  go_wp2_with fail
  go_ret
  refine ⟨w3.heap.size, w.heap.size + 1 + 7, w.heap.size + 1 + 6, w.heap.size + 1 + 1, qb, rfl, ⟨(heap_alloc_new _ _).trans (congrArg (fun z => some (Obj.cells z 42 (0, 0))) (by kernel_rfl)), HB3.out.tch ((Tch.refl [] _).alloc _) (by simp) (by simp) (by simp), HQ3.out.tch ((Tch.refl [] _).alloc _) (by simp)⟩, (TF.out.alloc _).below (by simp) (Nat.le_refl _), by omega, HZ.out⟩
end Go.Proofs.YtohanpmkgpcdcaaGreatDoor
