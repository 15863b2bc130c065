/-
  THE WALK of begun (12).
  THE STEPS OF A GAME: what was sent, sent again, the time, sent late.
-/
import Derived.Test.YtbdobaapadlcjaaGreatDoorTkF
import Derived.Test.YtbdobaapadlcjaaGreatDoorTkR
import Derived.Test.YtbdobaapadlcjaaGreatDoorTlA
namespace Go.Proofs.YtbdobaapadlcjaaGreatDoor
open Go.RowKit
set_option linter.unusedVariables false

/-- What begun makes of a raw request. -/
def cqN (V W2 R U : Int) : Wp.Rq := ⟨67, 97, 45, 1 + V, W2, R, 1 + U, 0, 0, ⟨#[]⟩, ⟨#[]⟩, ⟨#[]⟩, ⟨#[]⟩, ⟨#[]⟩⟩
theorem cqN_wf (V W2 R U : Int) (h1 : 0 ≤ V ∧ V < 1000) (h2 : 0 ≤ W2 ∧ W2 < 1001) (h3 : 0 ≤ R ∧ R < 10) (h4 : 0 ≤ U ∧ U < 50) : Wf (cqN V W2 R U) :=
  Keep.wf_small _ ⟨by show (0 : Int) ≤ 1 + V; omega, by show 1 + V ≤ (1001 : Int); omega⟩ ⟨by show (0 : Int) ≤ W2; omega, by show W2 ≤ (1001 : Int); omega⟩ ⟨by show (0 : Int) ≤ R; omega, by show R ≤ (1001 : Int); omega⟩ ⟨by show (0 : Int) ≤ 1 + U; omega, by show 1 + U ≤ (1001 : Int); omega⟩ Keep.zz Keep.zz
theorem cqN_right (V W2 R U : Int) (h1 : 0 ≤ V ∧ V < 1000) (h2 : 0 ≤ W2 ∧ W2 < 1001) (h3 : 0 ≤ R ∧ R < 10) (h4 : 0 ≤ U ∧ U < 50) : rightW (cqN V W2 R U) nil0 (Wp.short []) = true := by
  refine (right_iff _ _ _ (cqN_wf V W2 R U h1 h2 h3 h4)).2 ⟨2, by decide, rfl, ?_, rfl, rfl⟩
  show List.all [0, 2, 3, 4, 1, 5] _ = true
  simp only [List.all_cons, List.all_nil, Bool.and_true, Bool.and_eq_true]
  exact ⟨Keep.fits_of _ _ _ 0 (by decide) (by decide) (by decide) (show (97 : Int) ≤ 97 by omega) (show (97 : Int) ≤ 104 by omega), Keep.fits_of _ _ _ 2 (by decide) (by decide) (by decide) (show (1 : Int) ≤ 1 + V by omega) (show 1 + V ≤ (1000 : Int) by omega), Keep.fits_of _ _ _ 3 (by decide) (by decide) (by decide) (show (0 : Int) ≤ W2 by omega) (show W2 ≤ (1000 : Int) by omega), Keep.fits_of _ _ _ 4 (by decide) (by decide) (by decide) (show (0 : Int) ≤ R by omega) (show R ≤ (9 : Int) by omega), Keep.fits_dead _ _ _ (Or.inl rfl), Keep.fits_of _ _ _ 5 (by decide) (by decide) (by decide) (show (1 : Int) ≤ 1 + U by omega) (show 1 + U ≤ (50 : Int) by omega)⟩

/-- What is there when a game begins. -/
structure Game (B m : Nat) (w : World) (lb x st b qb : Nat) (c : Wp.Rq) : Prop where
  line : w.heap[lb]? = some (.cells (#[.pointer (some ⟨x, 0, none⟩)] ++ cellsOf c nil0.v ++ #[.int .i64 0, .slice none 0 0, .slice none 0 0]) 42 (0, 0))
  brk : Brk w st b 0 (.pointer (some ⟨qb, 0, none⟩))
  que : Qb w qb c 1 (.slice none 0 0) (.slice none 0 0) (.slice none 0 0) (.slice none 0 0)
  jn : Jn false B m w x st
  lo : B ≤ st ∧ B ≤ qb
theorem Opn.jn {B C m : Nat} {w : World} {x st b j d : Nat} (h : Opn C w x st b j d (.slice none 0 0)) (hB : B ≤ C) (hd : B ≤ d) (hm : m ≤ 24) : Jn true B (m + 1) w x st :=
  ⟨j, d, 0, _, [], 0, 0, h.hx, h.jr, fun k hk => by
    have := h.lo
    rcases List.mem_cons.1 hk with e | e
    · omega
    · rcases List.mem_cons.1 e with e | e
      · omega
      · simp [Value.ownBlock] at e, ⟨rfl, rfl⟩, by omega⟩

set_option maxRecDepth 8000 in
set_option maxHeartbeats 4000000 in
theorem begun_m (m : Nat) (hm : m ≤ 24) (B : Nat) (r : Wp.Rq) (x : Sl) (w : World) (hw : Wf r) (hz : Keep.Szs r) (hL : Lays B w) (hT : Tab w) (hB3 : 3 ≤ B) (h3 : B ≤ w.heap.size) :
    Calls Tryz.prog 12 #[.agg (cellsOf r x.v)] w fun e w' => ∃ lb xb st b qb, e = .returned (.pointer (some ⟨lb, 0, none⟩)) ∧ Game B m w' lb xb st b qb (cqN (pk r.vis 1000) (pk r.win 1001) (pk r.rcv 10) (pk r.quo 50)) ∧ Fr B TB w w' ∧ B ≤ lb := by
  have HSH : Hid (∀ W, Calls Tryz.prog 30 #[.agg (cellsOf { r with op := 0, q := 0 } x.v)] W fun e w' => (∃ q d : UInt8, e = .returned (.agg (cellsOf ⟨67, q, d, (1 + pk r.vis 1000), pk r.win 1001, pk r.rcv 10, (1 + pk r.quo 50), 0, 0, ⟨#[]⟩, ⟨#[]⟩, ⟨#[]⟩, ⟨#[]⟩, ⟨#[]⟩⟩ (Sl.v ⟨none, 0, 0⟩)))) ∧ Below W.heap.size W w') := fun W =>
    Keep.shaped_C { r with op := 0, q := 0 } x W rfl ⟨hw.vis, hw.win, hw.rcv, hw.quo, hw.mx, hw.tic⟩ ⟨hz.grp, hz.ded, hz.bod, hz.att, hz.han⟩
  have p1 : 0 ≤ pk r.vis 1000 ∧ pk r.vis 1000 < 1000 := ⟨pk_nonneg _ _ (by decide), pk_lt _ _ (by decide)⟩
  have p2 : 0 ≤ pk r.win 1001 ∧ pk r.win 1001 < 1001 := ⟨pk_nonneg _ _ (by decide), pk_lt _ _ (by decide)⟩
  have p3 : 0 ≤ pk r.rcv 10 ∧ pk r.rcv 10 < 10 := ⟨pk_nonneg _ _ (by decide), pk_lt _ _ (by decide)⟩
  have p4 : 0 ≤ pk r.quo 50 ∧ pk r.quo 50 < 50 := ⟨pk_nonneg _ _ (by decide), pk_lt _ _ (by decide)⟩
  generalize pk r.vis 1000 = V at *
  generalize pk r.win 1001 = W2 at *
  generalize pk r.rcv 10 = R at *
  generalize pk r.quo 50 = U at *
  rw [show cellsOf { r with op := 0, q := 0 } x.v = #[.int .u8 0, .int .u8 0, .int .u8 (r.d.toNat : Int), .int .i64 r.vis, .int .i64 r.win, .int .i64 r.rcv, .int .i64 r.quo, .int .i64 r.mx, .int .i64 r.tic, .string r.grp, .string r.ded, .string r.bod, .string r.att, .string r.han, .slice x.a x.n x.c] from rfl] at HSH
  have HCW : Hid (Wf (cqN V W2 R U)) := cqN_wf V W2 R U p1 p2 p3 p4
  have HCR : Hid (rightW (cqN V W2 R U) nil0 (Wp.short []) = true) := cqN_right V W2 R U p1 p2 p3 p4
  have HL : Hid (Lays B w) := hL
  have HTB : Hid (Tab w) := hT
  clear hw hz p1 p2 p3 p4 hL hT
  rw [show cellsOf r x.v = #[.int .u8 (r.op.toNat : Int), .int .u8 (r.q.toNat : Int), .int .u8 (r.d.toNat : Int), .int .i64 r.vis, .int .i64 r.win, .int .i64 r.rcv, .int .i64 r.quo, .int .i64 r.mx, .int .i64 r.tic, .string r.grp, .string r.ded, .string r.bod, .string r.att, .string r.han, .slice x.a x.n x.c] from rfl]
  go_enter Tryz.func12, Tryz.ntmps12
  go_wp2_with fail
  refine (opened_any _).mono ?_
  rintro e w1 ⟨xb, st, b, j, dk, rfl, hb1, hO, hdk⟩
  have t1 : Tch [] w w1 := ((Tch.refl [] w).alloc _).trans (Tch.of_below hb1) (by simp)
  rw [World.size_alloc] at hO hb1 hdk
  have hJ1 : Jn true B (m + 1) w1 xb st := hO.jn (by omega) (by omega) hm
  have hrow : w1.heap[w.heap.size]? = some (.cells #[.int .u8 (r.op.toNat : Int), .int .u8 (r.q.toNat : Int), .int .u8 (r.d.toNat : Int), .int .i64 r.vis, .int .i64 r.win, .int .i64 r.rcv, .int .i64 r.quo, .int .i64 r.mx, .int .i64 r.tic, .string r.grp, .string r.ded, .string r.bod, .string r.att, .string r.han, .slice x.a x.n x.c] 27 (0, 0)) := (hb1.block _ (by omega)).trans (heap_alloc_new _ _)
  have e0 : w1.cell? ⟨w.heap.size, 0, none⟩ = some (.int .u8 (r.op.toNat : Int)) := cell_qC hrow 0 _ rfl
  have e1 : w1.cell? ⟨w.heap.size, 1, none⟩ = some (.int .u8 (r.q.toNat : Int)) := cell_qC hrow 1 _ rfl
  have e2 : w1.cell? ⟨w.heap.size, 2, none⟩ = some (.int .u8 (r.d.toNat : Int)) := cell_qC hrow 2 _ rfl
  have e3 : w1.cell? ⟨w.heap.size, 3, none⟩ = some (.int .i64 r.vis) := cell_qC hrow 3 _ rfl
  have e4 : w1.cell? ⟨w.heap.size, 4, none⟩ = some (.int .i64 r.win) := cell_qC hrow 4 _ rfl
  have e5 : w1.cell? ⟨w.heap.size, 5, none⟩ = some (.int .i64 r.rcv) := cell_qC hrow 5 _ rfl
  have e6 : w1.cell? ⟨w.heap.size, 6, none⟩ = some (.int .i64 r.quo) := cell_qC hrow 6 _ rfl
  have e7 : w1.cell? ⟨w.heap.size, 7, none⟩ = some (.int .i64 r.mx) := cell_qC hrow 7 _ rfl
  have e8 : w1.cell? ⟨w.heap.size, 8, none⟩ = some (.int .i64 r.tic) := cell_qC hrow 8 _ rfl
  have e9 : w1.cell? ⟨w.heap.size, 9, none⟩ = some (.string r.grp) := cell_qC hrow 9 _ rfl
  have e10 : w1.cell? ⟨w.heap.size, 10, none⟩ = some (.string r.ded) := cell_qC hrow 10 _ rfl
  have e11 : w1.cell? ⟨w.heap.size, 11, none⟩ = some (.string r.bod) := cell_qC hrow 11 _ rfl
  have e12 : w1.cell? ⟨w.heap.size, 12, none⟩ = some (.string r.att) := cell_qC hrow 12 _ rfl
  have e13 : w1.cell? ⟨w.heap.size, 13, none⟩ = some (.string r.han) := cell_qC hrow 13 _ rfl
  have e14 : w1.cell? ⟨w.heap.size, 14, none⟩ = some (.slice x.a x.n x.c) := cell_qC hrow 14 _ rfl
  have lt1 := lt_of_block hrow
  have fz0 : w1.frozen? ⟨w.heap.size, 0, none⟩ = false := frozen_of_row w1 _ 0 _ 27 hrow
  have fz1 : (w1.setCell ⟨w.heap.size, 0, none⟩ (.int .u8 0)).frozen? ⟨w.heap.size, 1, none⟩ = false := frozen_of_row _ _ 1 _ 27 (heap_setCell_same w1 _ 0 _ 27 _ hrow)
  have fz1' : w1.frozen? ⟨w.heap.size, 1, none⟩ = false := frozen_of_row w1 _ 1 _ 27 hrow
  have T1 : Hid (Tch [] w w1) := t1
  have HB1 : Hid (Brk w1 st b 0 (.pointer none) ∧ Jn true B (m + 1) w1 xb st ∧ B ≤ st) := ⟨hO.brk, hJ1, by have := hO.lo; omega⟩
  have HRW : Hid (w1.heap[w.heap.size]? = some (.cells #[.int .u8 (r.op.toNat : Int), .int .u8 (r.q.toNat : Int), .int .u8 (r.d.toNat : Int), .int .i64 r.vis, .int .i64 r.win, .int .i64 r.rcv, .int .i64 r.quo, .int .i64 r.mx, .int .i64 r.tic, .string r.grp, .string r.ded, .string r.bod, .string r.att, .string r.han, .slice x.a x.n x.c] 27 (0, 0))) := hrow
  clear hb1 hrow t1 hO hJ1
  go_wp2_with fail
  refine (HSH.out _).mono ?_
  rintro e w2 ⟨⟨q, d, rfl⟩, hb2⟩
  have t2 : Tch [w.heap.size] w1 w2 := (((Tch.refl [w.heap.size] w1).setCell (fun _ => by simp) _).setCell (fun _ => by simp) _).trans (Tch.of_below hb2) (by simp)
  have T2 : Hid (Tch [w.heap.size] w1 w2) := t2
  clear hb2 t2
  rw [show cellsOf ⟨67, q, d, 1 + V, W2, R, 1 + U, 0, 0, ⟨#[]⟩, ⟨#[]⟩, ⟨#[]⟩, ⟨#[]⟩, ⟨#[]⟩⟩ (Sl.v ⟨none, 0, 0⟩) = #[.int .u8 67, .int .u8 (q.toNat : Int), .int .u8 (d.toNat : Int), .int .i64 (1 + V), .int .i64 W2, .int .i64 R, .int .i64 (1 + U), .int .i64 0, .int .i64 0, .string ⟨#[]⟩, .string ⟨#[]⟩, .string ⟨#[]⟩, .string ⟨#[]⟩, .string ⟨#[]⟩, .slice none 0 0] from rfl]
  go_wp2_with fail
  have z1 := T1.out.size
  have f2 : Fr B [27] w1 w2 := Fr.one T2.out (by omega) h3 HRW.out (by decide)
  have tw2 : Tch [] w w2 := T1.out.trans T2.out (by simp)
  have ta : Tch [] w2 (w2.alloc (.cells #[.int .u8 67, .int .u8 97, .int .u8 45, .int .i64 (1 + V), .int .i64 W2, .int .i64 R, .int .i64 (1 + U), .int .i64 0, .int .i64 0, .string ⟨#[]⟩, .string ⟨#[]⟩, .string ⟨#[]⟩, .string ⟨#[]⟩, .string ⟨#[]⟩, .slice none 0 0] 27)) := (Tch.refl [] w2).alloc _
  have hB2 : Brk w2 st b 0 (.pointer none) := ⟨f2.keep _ _ _ HB1.out.1.hst (by decide), HB1.out.1.tb.fr f2 (by decide)⟩
  have hJ2 : Jn true B (m + 1) w2 xb st := HB1.out.2.1.keep f2 (by decide) (by decide) (by decide) (by decide)
  have z2 := T2.out.size
  have hC := create_C B m (cqN V W2 R U) xb st b (w2.alloc (.cells #[.int .u8 67, .int .u8 97, .int .u8 45, .int .i64 (1 + V), .int .i64 W2, .int .i64 R, .int .i64 (1 + U), .int .i64 0, .int .i64 0, .string ⟨#[]⟩, .string ⟨#[]⟩, .string ⟨#[]⟩, .string ⟨#[]⟩, .string ⟨#[]⟩, .slice none 0 0] 27)) HCW.out HCR.out rfl rfl (small_C _ HCR.out rfl) (Lays.tch HL.out (tw2.alloc _) (by simp) h3) (HTB.out.tch (tw2.alloc _) (by simp) (by omega)) (by simp; omega) hB3 hm (hJ2.tch ta) (hB2.tch ta (by simp) (by simp)) HB1.out.2.2
  rw [show cellsOf (cqN V W2 R U) nil0.v = #[.int .u8 67, .int .u8 97, .int .u8 45, .int .i64 (1 + V), .int .i64 W2, .int .i64 R, .int .i64 (1 + U), .int .i64 0, .int .i64 0, .string ⟨#[]⟩, .string ⟨#[]⟩, .string ⟨#[]⟩, .string ⟨#[]⟩, .string ⟨#[]⟩, .slice none 0 0] from rfl] at hC
  refine hC.mono ?_
  rintro e w3 ⟨rfl, ht3, hJ3, qb, hqb, hBk3, hq3⟩
  have hrow3 : w3.heap[w2.heap.size]? = some (.cells #[.int .u8 67, .int .u8 97, .int .u8 45, .int .i64 (1 + V), .int .i64 W2, .int .i64 R, .int .i64 (1 + U), .int .i64 0, .int .i64 0, .string ⟨#[]⟩, .string ⟨#[]⟩, .string ⟨#[]⟩, .string ⟨#[]⟩, .string ⟨#[]⟩, .slice none 0 0] 27 (0, 0)) := ht3.keep _ _ _ (heap_alloc_new _ _) (by decide)
  have k0 : w3.cell? ⟨w2.heap.size, 0, none⟩ = some (.int .u8 67) := cell_qC hrow3 0 _ rfl
  have k1 : w3.cell? ⟨w2.heap.size, 1, none⟩ = some (.int .u8 97) := cell_qC hrow3 1 _ rfl
  have k2 : w3.cell? ⟨w2.heap.size, 2, none⟩ = some (.int .u8 45) := cell_qC hrow3 2 _ rfl
  have k3 : w3.cell? ⟨w2.heap.size, 3, none⟩ = some (.int .i64 (1 + V)) := cell_qC hrow3 3 _ rfl
  have k4 : w3.cell? ⟨w2.heap.size, 4, none⟩ = some (.int .i64 W2) := cell_qC hrow3 4 _ rfl
  have k5 : w3.cell? ⟨w2.heap.size, 5, none⟩ = some (.int .i64 R) := cell_qC hrow3 5 _ rfl
  have k6 : w3.cell? ⟨w2.heap.size, 6, none⟩ = some (.int .i64 (1 + U)) := cell_qC hrow3 6 _ rfl
  have k7 : w3.cell? ⟨w2.heap.size, 7, none⟩ = some (.int .i64 0) := cell_qC hrow3 7 _ rfl
  have k8 : w3.cell? ⟨w2.heap.size, 8, none⟩ = some (.int .i64 0) := cell_qC hrow3 8 _ rfl
  have k9 : w3.cell? ⟨w2.heap.size, 9, none⟩ = some (.string ⟨#[]⟩) := cell_qC hrow3 9 _ rfl
  have k10 : w3.cell? ⟨w2.heap.size, 10, none⟩ = some (.string ⟨#[]⟩) := cell_qC hrow3 10 _ rfl
  have k11 : w3.cell? ⟨w2.heap.size, 11, none⟩ = some (.string ⟨#[]⟩) := cell_qC hrow3 11 _ rfl
  have k12 : w3.cell? ⟨w2.heap.size, 12, none⟩ = some (.string ⟨#[]⟩) := cell_qC hrow3 12 _ rfl
  have k13 : w3.cell? ⟨w2.heap.size, 13, none⟩ = some (.string ⟨#[]⟩) := cell_qC hrow3 13 _ rfl
  have k14 : w3.cell? ⟨w2.heap.size, 14, none⟩ = some (.slice none 0 0) := cell_qC hrow3 14 _ rfl
  have TF : Hid (Fr B TB w w3) := (Fr.of_nil TB (tw2.alloc _) h3).trans ht3
  have HB3 : Hid (Brk w3 st b 0 (.pointer (some ⟨qb, 0, none⟩)) ∧ Jn false B m w3 xb st ∧ B ≤ st ∧ B ≤ qb) := ⟨hBk3, hJ3, HB1.out.2.2, hqb⟩
  have HQ3 : Hid (Qb w3 qb (cqN V W2 R U) 1 (.slice none 0 0) (.slice none 0 0) (.slice none 0 0) (.slice none 0 0)) := hq3
  have lt3 := lt_of_block hrow3
  clear hC hrow3 ht3 hBk3 hJ3 hq3 hB2 hJ2 tw2 ta f2
  go_wp2_with fail
  go_ret
  have tz : ∀ o : Obj, Tch [] w3 (w3.alloc o) := fun o => (Tch.refl [] w3).alloc o
  have zz := TF.out.size
  exact ⟨w3.heap.size, xb, st, b, qb, rfl, ⟨(heap_alloc_new _ _).trans (congrArg (fun z => some (Obj.cells z 42 (0, 0))) (by kernel_rfl)), HB3.out.1.tch (tz _) (by simp) (by simp), HQ3.out.tch (tz _) (by simp), HB3.out.2.1.tch (tz _), HB3.out.2.2⟩, TF.out.trans (Fr.of_nil TB (tz _) (by omega)), by omega⟩
theorem begun_any (B : Nat) (r : Wp.Rq) (x : Sl) (w : World) (hw : Wf r) (hz : Keep.Szs r) (hL : Lays B w) (hT : Tab w) (hB3 : 3 ≤ B) (h3 : B ≤ w.heap.size) :
    Calls Tryz.prog 12 #[.agg (cellsOf r x.v)] w fun e w' => ∃ lb xb st b qb, e = .returned (.pointer (some ⟨lb, 0, none⟩)) ∧ Game B 9 w' lb xb st b qb (cqN (pk r.vis 1000) (pk r.win 1001) (pk r.rcv 10) (pk r.quo 50)) ∧ Fr B TB w w' := (begun_m 9 (by decide) B r x w hw hz hL hT hB3 h3).mono fun _ _ ⟨lb, xb, st, b, qb, he, hg, hf, _⟩ => ⟨lb, xb, st, b, qb, he, hg, hf⟩
end Go.Proofs.YtbdobaapadlcjaaGreatDoor

namespace Go.Proofs.YtbdobaapadlcjaaGreatDoor
open Go.RowKit
set_option linter.unusedVariables false

/-- The tables. -/
structure Env (B : Nat) (w : World) : Prop where
  lays : Lays B w
  tab : Tab w
  size : B ≤ w.heap.size
  three : 3 ≤ B
theorem Env.tch {B : Nat} {w w' : World} (h : Env B w) {S : List Nat} (ht : Tch S w w') (hS : ∀ k ∈ S, B ≤ k) : Env B w' := ⟨Lays.tch h.lays ht hS h.size, h.tab.tch ht (fun k hk => Nat.le_trans h.three (hS k hk)) (Nat.le_trans h.three h.size), Nat.le_trans h.size ht.size, h.three⟩
theorem Env.fr {B : Nat} {T : List TypeId} {w w' : World} (h : Env B w) (hf : Fr B T w w') : Env B w' := ⟨h.lays.fr hf, h.tab.fr hf h.three, Nat.le_trans h.size hf.size, h.three⟩

/-- A request of the Op S that is right. -/
structure Snd (r : Wp.Rq) : Prop where
  wf : Wf r
  right : rightW r nil0 (Wp.short []) = true
  op : r.op = 83
  q : r.q = 97
  bod : r.bod.size ≤ 40
  small : (printS r nil0 []).size ≤ 300
theorem snd_of (g d b : ByteArray) (hg1 : 1 ≤ g.size) (hg8 : g.size ≤ 8) (hd8 : d.size ≤ 8) (hdo : Wp.dedOk d = true) (hb : b.size ≤ 40) : Snd ⟨83, 97, 0, 0, 0, 0, 0, 0, 0, g, d, b, ⟨#[]⟩, ⟨#[]⟩⟩ := by
  have hwf : Wf ⟨83, 97, 0, 0, 0, 0, 0, 0, 0, g, d, b, ⟨#[]⟩, ⟨#[]⟩⟩ := Keep.wf_small _ Keep.zz Keep.zz Keep.zz Keep.zz Keep.zz Keep.zz
  have hright : rightW ⟨83, 97, 0, 0, 0, 0, 0, 0, 0, g, d, b, ⟨#[]⟩, ⟨#[]⟩⟩ nil0 (Wp.short []) = true := by
    refine (right_iff _ _ _ hwf).2 ⟨18, by decide, rfl, ?_, rfl, rfl⟩
    show List.all [0, 9, 10, 11] _ = true
    simp only [List.all_cons, List.all_nil, Bool.and_true, Bool.and_eq_true]
    exact ⟨Keep.fits_of _ _ _ 0 (by decide) (by decide) (by decide) (show (97 : Int) ≤ 97 by omega) (show (97 : Int) ≤ 104 by omega), Keep.fits_of _ _ _ 9 (by decide) (by decide) (by decide) (show (1 : Int) ≤ (g.size : Int) by omega) (show (g.size : Int) ≤ 8 by omega), Keep.fits_dedup _ _ _ hd8 hdo, Keep.fits_of _ _ _ 11 (by decide) (by decide) (by decide) (show (0 : Int) ≤ (b.size : Int) by omega) (show (b.size : Int) ≤ 255 by omega)⟩
  exact ⟨hwf, hright, rfl, rfl, hb, small_S _ hright rfl (by show g.size ≤ 20; omega) (by show d.size ≤ 20; omega) (by show b.size ≤ 200; omega)⟩
theorem tick_of (n : Int) (h1 : 1 ≤ n) (h2 : n ≤ 1000) : Wf ⟨84, 0, 0, 0, 0, 0, 0, 0, n, ⟨#[]⟩, ⟨#[]⟩, ⟨#[]⟩, ⟨#[]⟩, ⟨#[]⟩⟩ ∧ rightW ⟨84, 0, 0, 0, 0, 0, 0, 0, n, ⟨#[]⟩, ⟨#[]⟩, ⟨#[]⟩, ⟨#[]⟩, ⟨#[]⟩⟩ nil0 (Wp.short []) = true := by
  have hwf : Wf ⟨84, 0, 0, 0, 0, 0, 0, 0, n, ⟨#[]⟩, ⟨#[]⟩, ⟨#[]⟩, ⟨#[]⟩, ⟨#[]⟩⟩ := Keep.wf_small _ Keep.zz Keep.zz Keep.zz Keep.zz Keep.zz ⟨by show (0 : Int) ≤ n; omega, by show n ≤ (1001 : Int); omega⟩
  refine ⟨hwf, ?_⟩
  refine (right_iff _ _ _ hwf).2 ⟨19, by decide, rfl, ?_, rfl, rfl⟩
  show List.all [8] _ = true
  simp only [List.all_cons, List.all_nil, Bool.and_true]
  exact Keep.fits_of _ _ _ 8 (by decide) (by decide) (by decide) (show (1 : Int) ≤ n by omega) (show n ≤ (1000 : Int) by omega)

/-- One message was sent; nd: is its dedup there. -/
structure Sent (B mm : Nat) (w : World) (x st b qb gm cm gd cd nd : Nat) (rs : Value) (c : Wp.Rq) (m : Ms) (d : Dd) (now : Int) : Prop where
  brk : Brk w st b now (.pointer (some ⟨qb, 0, none⟩))
  que : Qb w qb c 2 (.slice (some ⟨gm, 0, none⟩) 1 cm) rs (.slice (some ⟨gd, 0, none⟩) nd cd) (.slice none 0 0)
  ms : w.ownsRow 0 226 5 (.slice (some ⟨gm, 0, none⟩) 1 cm) 1 m.row
  dd : w.ownsRow 0 230 3 (.slice (some ⟨gd, 0, none⟩) nd cd) nd (if nd = 1 then d.row else [])
  rd : ∃ nr xr, w.ownsRow 0 9 1 rs nr xr ∧ nr ≤ 1
  jn : Jn false B mm w x st
  lo : B ≤ st ∧ B ≤ qb ∧ B ≤ gm ∧ B ≤ gd ∧ ∀ j, rs.ownBlock = some j → B ≤ j

theorem Sent.tch {B mm : Nat} {w w' : World} {x st b qb gm cm gd cd nd : Nat} {rs : Value} {c : Wp.Rq} {m : Ms} {d : Dd} {now : Int} (h : Sent B mm w x st b qb gm cm gd cd nd rs c m d now) (ht : Tch [] w w') : Sent B mm w' x st b qb gm cm gd cd nd rs c m d now :=
  ⟨h.brk.tch ht (by simp) (by simp), h.que.tch ht (by simp), own_tch h.ms ht (fun _ _ => by simp), own_tch h.dd ht (fun _ _ => by simp), by
    obtain ⟨nr, xr, hr, hn⟩ := h.rd
    exact ⟨nr, xr, own_tch hr ht (fun _ _ => by simp), hn⟩, h.jn.tch ht, h.lo⟩
theorem Game.tch {B mm : Nat} {w w' : World} {lb x st b qb : Nat} {c : Wp.Rq} (h : Game B mm w lb x st b qb c) (ht : Tch [] w w') : Game B mm w' lb x st b qb c :=
  ⟨(ht.block _ (lt_of_block h.line) (by simp)).trans h.line, h.brk.tch ht (by simp) (by simp), h.que.tch ht (by simp), h.jn.tch ht, h.lo⟩

/-- The first one is taken. -/
theorem step_one (B mm : Nat) (c r : Wp.Rq) (lb x st b qb : Nat) (w : World) (hE : Env B w) (hG : Game B (mm + 1) w lb x st b qb c) (hmm : mm ≤ 24) (hr : Snd r) (hwin : 0 < c.win ∧ c.win ≤ 1001) (hquo : 2 ≤ c.quo) :
    Calls Tryz.prog 18 #[.pointer (some ⟨x, 0, none⟩), .agg (cellsOf r nil0.v)] w fun e w' => e = .returned (.string (okN 1)) ∧ Fr B TB w w' ∧ ∃ gm cm gd cd rs, Sent B mm w' x st b qb gm cm gd cd 1 rs c ⟨1, r.grp, r.bod, 0, 0⟩ ⟨didS r, 1, c.win⟩ 0 := by
  refine asked_new B mm (fun w' => Fr B TB w w' ∧ ∃ gm cm gd cd rs, Sent B mm w' x st b qb gm cm gd cd 1 rs c ⟨1, r.grp, r.bod, 0, 0⟩ ⟨didS r, 1, c.win⟩ 0) c r x st b qb 1 0 0 0 0 none (.slice none 0 0) (.slice none 0 0) (.slice none 0 0) [] [] w hr.wf hr.right hr.op hr.q hr.small hE.lays hE.tab hE.size hE.three hmm hG.jn hG.brk hG.que hr.bod (World.ownsRow_nil _ _ _ _) (World.ownsRow_nil _ _ _ _) (World.ownsRow_nil _ _ _ _) (.inl ⟨_, _, rfl⟩) (by decide) (by decide) (by decide) (by omega) hwin (by omega) (fun j hj => by
    simp [bl, Value.ownBlock] at hj
    rw [hj]
    exact hG.lo.2) ?_
  intro w' ms' rs' ds' hB hQ hm hrr hd hN1 hN2 hj ht hJ
  obtain ⟨gm, cm, hmv⟩ := own_some hm
  obtain ⟨gd, cd, hdv⟩ := own_some (n := 0) hd
  subst hmv hdv
  obtain ⟨nr', xr', hr1, hr2⟩ := hrr
  have hz := hE.size
  refine ⟨ht, gm, cm, gd, cd, rs', ⟨hB, hQ, hm, ?_, ⟨nr', xr', hr1, by omega⟩, hJ, hG.lo.1, hG.lo.2, ?_, ?_, ?_⟩⟩
  · show w'.ownsRow 0 230 3 _ 1 (ddV (didS r) 1 c.win)
    have h := hd
    rw [Int.zero_add] at h
    exact h
  · rcases hN1 gm rfl with h | h
    · simp [Value.ownBlock] at h
    · omega
  · rcases hj gd rfl with h | h
    · simp [Value.ownBlock] at h
    · omega
  · intro j hj
    rcases hN2 j hj with h | h
    · simp [Value.ownBlock] at h
    · omega

/-- The same again: the same number. -/
theorem step_again (B mm : Nat) (c r : Wp.Rq) (x st b qb gm cm gd cd : Nat) (rs : Value) (m : Ms) (d : Dd) (now : Int) (w : World) (hE : Env B w) (hG : Sent B (mm + 1) w x st b qb gm cm gd cd 1 rs c m d now) (hmm : mm ≤ 24) (hr : Snd r) (hid : d.id = didS r) (hnum : d.num = 1) :
    Calls Tryz.prog 18 #[.pointer (some ⟨x, 0, none⟩), .agg (cellsOf r nil0.v)] w fun e w' => e = .returned (.string (okN 1)) ∧ Tch [] w w' :=
  asked_found B mm c r x st b qb gd cd d now 2 _ rs _ w hr.wf hr.right hr.op hr.q hr.small hE.lays hE.tab hE.size hE.three hmm hG.jn hG.brk hG.que hr.bod (own_lt hG.dd rfl) (dd_cells hG.dd) hid hnum

/-- The time goes on. -/
theorem step_time (B mm : Nat) (c : Wp.Rq) (x st b qb gm cm gd cd : Nat) (rs : Value) (m : Ms) (d : Dd) (n : Int) (w : World) (hE : Env B w) (hG : Sent B (mm + 1) w x st b qb gm cm gd cd 1 rs c m d 0) (hmm : mm ≤ 24) (hn : 1 ≤ n ∧ n ≤ 1000) (hdash : c.d = 45) (hmt : m.til = 0) :
    Calls Tryz.prog 18 #[.pointer (some ⟨x, 0, none⟩), .agg (cellsOf ⟨84, 0, 0, 0, 0, 0, 0, 0, n, ⟨#[]⟩, ⟨#[]⟩, ⟨#[]⟩, ⟨#[]⟩, ⟨#[]⟩⟩ nil0.v)] w fun e w' => e = .returned (.string ⟨#[0]⟩) ∧ Fr B TB w w' ∧
      ((n < d.til ∧ Sent B mm w' x st b qb gm cm gd cd 1 rs c m d n) ∨ (d.til ≤ n ∧ Sent B mm w' x st b qb gm cm gd cd 0 rs c m d n)) := by
  obtain ⟨hwf, hright⟩ := tick_of n hn.1 hn.2
  refine (asked_T B mm c ⟨84, 0, 0, 0, 0, 0, 0, 0, n, ⟨#[]⟩, ⟨#[]⟩, ⟨#[]⟩, ⟨#[]⟩, ⟨#[]⟩⟩ x st b qb gm cm gd cd m d 0 2 rs w hwf hright rfl (small_T _ hright rfl) hE.lays hE.tab hE.size hE.three hmm hG.jn hG.brk hG.que hdash hG.ms hmt hG.dd ⟨by omega, by show (0 : Int) ≤ n; omega, by show 0 + n ≤ (60000 : Int); omega⟩ (fun k hk => by
    have := hG.lo
    simp at hk
    omega)).mono ?_
  rintro e w' ⟨rfl, ht, hJ, hB, hor⟩
  refine ⟨rfl, ht.mono (by decide), ?_⟩
  have e0 : (0 : Int) + n = n := by omega
  rw [show ((0 : Int) + (⟨84, 0, 0, 0, 0, 0, 0, 0, n, ⟨#[]⟩, ⟨#[]⟩, ⟨#[]⟩, ⟨#[]⟩, ⟨#[]⟩⟩ : Wp.Rq).tic) = n from e0] at hB hor
  obtain ⟨nr, xr, hr, hnr⟩ := hG.rd
  have hm' := ht.own hG.ms (by decide)
  have hr' := ht.own hr (by decide)
  rcases hor with ⟨h1, h2, h3⟩ | ⟨h1, h2, h3⟩
  · exact .inl ⟨h1, hB, h2, hm', h3, ⟨nr, xr, hr', hnr⟩, hJ, hG.lo⟩
  · exact .inr ⟨h1, hB, h2, hm', h3, ⟨nr, xr, hr', hnr⟩, hJ, hG.lo⟩

/-- Sent late: another number. -/
theorem step_late (B mm : Nat) (c r : Wp.Rq) (x st b qb gm cm gd cd : Nat) (rs : Value) (m : Ms) (d : Dd) (now : Int) (w : World) (hE : Env B w) (hG : Sent B (mm + 1) w x st b qb gm cm gd cd 0 rs c m d now) (hmm : mm ≤ 24) (hr : Snd r) (hwin : 0 < c.win ∧ c.win ≤ 1001) (hquo : 2 ≤ c.quo) (hnow : 0 ≤ now ∧ now ≤ 60000) :
    Calls Tryz.prog 18 #[.pointer (some ⟨x, 0, none⟩), .agg (cellsOf r nil0.v)] w fun e w' => e = .returned (.string (okN 2)) ∧ Fr B TB w w' := by
  obtain ⟨nr, xr, hrd, hnr⟩ := hG.rd
  have hv : Ms1 w (.slice (some ⟨gm, 0, none⟩) 1 cm) := .inr ⟨gm, cm, m, rfl, own_lt hG.ms rfl, fun i u hi => by
    have h1 := World.ownsRow.cells hG.ms (g := gm) rfl i u hi
    have e : (⟨gm, 0, none⟩ : Addr).add i = ⟨gm, i, none⟩ := by unfold Addr.add; split <;> simp_all
    rw [e] at h1
    exact h1⟩
  refine asked_new B mm (fun w' => Fr B TB w w') c r x st b qb 2 1 nr cd now (some ⟨gd, 0, none⟩) _ rs _ m.row xr w hr.wf hr.right hr.op hr.q hr.small hE.lays hE.tab hE.size hE.three hmm hG.jn hG.brk hG.que hr.bod hG.ms hrd hG.dd hv (by decide) (by omega) (by decide) (by omega) hwin hnow (fun j hj => ?_) ?_
  · have hl := hG.lo
    rcases List.mem_cons.1 hj with h | h
    · omega
    · rcases List.mem_append.1 h with h | h
      · have h1 := mem_bl.1 h
        simp [Value.ownBlock] at h1
        omega
      · rcases List.mem_append.1 h with h | h
        · have h1 := mem_bl.1 h
          simp [Value.ownBlock] at h1
          omega
        · exact hl.2.2.2.2 j (mem_bl.1 h)
  · intro w' ms' rs' ds' hB hQ hm hrr hd hN1 hN2 hj ht hJ
    exact ht
end Go.Proofs.YtbdobaapadlcjaaGreatDoor
