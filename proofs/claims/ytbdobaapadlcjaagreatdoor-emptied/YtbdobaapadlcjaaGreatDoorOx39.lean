import Derived.Test.YtbdobaapadlcjaaGreatDoorOx14
import Derived.Test.YtbdobaapadlcjaaGreatDoorOx36
import Derived.Deep.RegionHeld3
namespace Go.Proofs.YtbdobaapadlcjaaGreatDoor
open Go.RowKit
set_option linter.unusedVariables false
set_option linter.unusedSimpArgs false
set_option maxRecDepth 8000 in
set_option maxHeartbeats 2000000 in
theorem send_quota (c r : Wp.Rq) (y : Sl) (qb k nm cm : Nat) (am : Option Addr) (ds : List Dd) (now : Int) (rs vd at_ : Value) (w : World)
    (hq : w.heap[qb]? = some (.cells (qC c (k : Int) (.slice am nm cm) rs vd at_) 191 (0, 0))) (hbod : r.bod.size ≤ 40) (hT : Tab w) (h2 : 2 < w.heap.size)
    (ho : w.ownsRow 0 230 3 vd ds.length (ds.flatMap Dd.row)) (hl : ds.length ≤ 1000) (hid : idxL (isI (didS r)) ds < 0) (hquo : c.quo ≤ (nm : Int)) (hk : k ≤ 1000) :
    Calls Tryz.prog 164 #[.pointer (some ⟨qb, 0, none⟩), .int .i64 now, .agg (cellsOf r y.v)] w fun e w' => e = .returned (.tuple #[.slice none 0 0, .nilFunc, .int .i64 5]) ∧ Tch [] w w' := by
  have hmf : ∀ (fn : Fn) (first cap : Array Value) (w : World), (Instr.makeFunc fn first cap).run Tryz.prog w = .ok (.func fn first cap) w := fun _ _ _ _ => rfl
  have hlt := lt_of_block hq
  have HQ : Hid (w.heap[qb]? = _) := hq
  have HID : Hid (∀ W, Below w.heap.size w W → Calls Tryz.prog 216 #[.agg (cellsOf r y.v)] W fun e w' => e = .returned (.string (didS r)) ∧ Below W.heap.size W w') := fun W hb => dedupID_any r y W (Nat.le_trans hbod (by decide)) (hT.below hb h2) (by have := hb.size; omega)
  rw [show cellsOf r y.v = #[.int .u8 (r.op.toNat : Int), .int .u8 (r.q.toNat : Int), .int .u8 (r.d.toNat : Int), .int .i64 r.vis, .int .i64 r.win, .int .i64 r.rcv, .int .i64 r.quo, .int .i64 r.mx, .int .i64 r.tic, .string r.grp, .string r.ded, .string r.bod, .string r.att, .string r.han, .slice y.a y.n y.c] from rfl] at HID
  have hbz : ¬ (40 : Int) < (r.bod.size : Int) := by omega
  have hquo' : c.quo ≤ (nm : Int) := hquo
  have HOW : Hid (w.ownsRow 0 230 3 vd ds.length (ds.flatMap Dd.row)) := ho
  have hge := idxL_ge (isI (didS r)) ds
  have HII : Hid (idxL (isI (didS r)) ds = -1) := by show _ = _; omega
  clear hq hT ho hid hge
  generalize didS r = id at *
  rw [show cellsOf r y.v = #[.int .u8 (r.op.toNat : Int), .int .u8 (r.q.toNat : Int), .int .u8 (r.d.toNat : Int), .int .i64 r.vis, .int .i64 r.win, .int .i64 r.rcv, .int .i64 r.quo, .int .i64 r.mx, .int .i64 r.tic, .string r.grp, .string r.ded, .string r.bod, .string r.att, .string r.han, .slice y.a y.n y.c] from rfl]
  go_enter Tryz.func164, Tryz.ntmps164
  go_wp2_with fail
  refine (HID.out _ (((((Below.refl _ _).alloc (Nat.le_refl _) _).alloc (by simp) _)).alloc (by simp; omega) _)).mono ?_
  rintro e w4 ⟨rfl, hb4⟩
  have t4 : Tch [] w w4 := (sbox_tch w qb now #[.int .u8 (r.op.toNat : Int), .int .u8 (r.q.toNat : Int), .int .u8 (r.d.toNat : Int), .int .i64 r.vis, .int .i64 r.win, .int .i64 r.rcv, .int .i64 r.quo, .int .i64 r.mx, .int .i64 r.tic, .string r.grp, .string r.ded, .string r.bod, .string r.att, .string r.han, .slice y.a y.n y.c]).trans (Tch.of_below hb4) (by simp)
  have hb4' : Below (sbox w qb now #[.int .u8 (r.op.toNat : Int), .int .u8 (r.q.toNat : Int), .int .u8 (r.d.toNat : Int), .int .i64 r.vis, .int .i64 r.win, .int .i64 r.rcv, .int .i64 r.quo, .int .i64 r.mx, .int .i64 r.tic, .string r.grp, .string r.ded, .string r.bod, .string r.att, .string r.han, .slice y.a y.n y.c]).heap.size (sbox w qb now #[.int .u8 (r.op.toNat : Int), .int .u8 (r.q.toNat : Int), .int .u8 (r.d.toNat : Int), .int .i64 r.vis, .int .i64 r.win, .int .i64 r.rcv, .int .i64 r.quo, .int .i64 r.mx, .int .i64 r.tic, .string r.grp, .string r.ded, .string r.bod, .string r.att, .string r.han, .slice y.a y.n y.c]) w4 := hb4
  rw [sbox_size] at hb4'
  have z4 : w.heap.size + 3 ≤ w4.heap.size := by have := hb4'.size; rw [sbox_size] at this; exact this
  have B0 := (hb4'.block _ (by omega)).trans (sbox_0 w qb now #[.int .u8 (r.op.toNat : Int), .int .u8 (r.q.toNat : Int), .int .u8 (r.d.toNat : Int), .int .i64 r.vis, .int .i64 r.win, .int .i64 r.rcv, .int .i64 r.quo, .int .i64 r.mx, .int .i64 r.tic, .string r.grp, .string r.ded, .string r.bod, .string r.att, .string r.han, .slice y.a y.n y.c])
  have HB1 : Hid (w4.heap[w.heap.size + 1]? = _) := (hb4'.block _ (by omega)).trans (sbox_1 w qb now #[.int .u8 (r.op.toNat : Int), .int .u8 (r.q.toNat : Int), .int .u8 (r.d.toNat : Int), .int .i64 r.vis, .int .i64 r.win, .int .i64 r.rcv, .int .i64 r.quo, .int .i64 r.mx, .int .i64 r.tic, .string r.grp, .string r.ded, .string r.bod, .string r.att, .string r.han, .slice y.a y.n y.c])
  have HB2 : Hid (w4.heap[w.heap.size + 2]? = _) := (hb4'.block _ (by omega)).trans (sbox_2 w qb now #[.int .u8 (r.op.toNat : Int), .int .u8 (r.q.toNat : Int), .int .u8 (r.d.toNat : Int), .int .i64 r.vis, .int .i64 r.win, .int .i64 r.rcv, .int .i64 r.quo, .int .i64 r.mx, .int .i64 r.tic, .string r.grp, .string r.ded, .string r.bod, .string r.att, .string r.han, .slice y.a y.n y.c])
  have k0 := cell_of_one B0
  have HB0 : Hid (w4.heap[w.heap.size]? = _) := B0
  have hn0 : w.heap.size < w4.heap.size := by omega
  have hq4 : (w4.alloc (.cells #[.string id] 9)).heap[qb]? = some (.cells (qC c (k : Int) (.slice am nm cm) rs vd at_) 191 (0, 0)) := (Below.heap_alloc _ _ _ (by omega)).trans ((t4.block _ hlt (by simp)).trans HQ.out)
  have HF : Hid (Calls Tryz.prog 217 #[.pointer (some ⟨qb, 0, none⟩), .string id] (w4.alloc (.cells #[.string id] 9)) fun e w' => e = .returned (.int .i64 (-1)) ∧ Below (w4.alloc (.cells #[.string id] 9)).heap.size (w4.alloc (.cells #[.string id] 9)) w') := by
    have h := findDedup_gen id qb _ ds (w4.alloc (.cells #[.string id] 9)) (cell_qC hq4 9 _ rfl) (own_tch HOW.out (t4.alloc _) (fun _ _ => by simp)) (by omega)
    rw [HII.out] at h
    exact h
  have HQ4 : Hid ((w4.alloc (.cells #[.string id] 9)).heap[qb]? = _) := hq4
  have T4 : Hid (Tch [] w w4) := t4
  clear hb4 hb4' hq4 t4 B0
  go_wp2_with fail
  refine HF.out.mono ?_
  rintro e w6 ⟨rfl, hb6⟩
  have t6 : Tch [] w w6 := (T4.out.alloc _).trans (Tch.of_below hb6) (by simp)
  have z6 := hb6.size
  rw [World.size_alloc] at z6
  have BL : ∀ i o, i < w4.heap.size → w4.heap[i]? = some o → w6.heap[i]? = some o := fun i o hi ho => (hb6.block i (by simp; omega)).trans ((Below.heap_alloc _ _ _ hi).trans ho)
  have HC0 : Hid (w6.heap[w.heap.size]? = _) := BL _ _ hn0 HB0.out
  have HC1 : Hid (w6.heap[w.heap.size + 1]? = _) := BL _ _ (by omega) HB1.out
  have HC2 : Hid (w6.heap[w.heap.size + 2]? = _) := BL _ _ (by omega) HB2.out
  have HCI : Hid (w6.heap[w4.heap.size]? = _) := (hb6.block _ (by simp)).trans (heap_alloc_new _ _)
  have hq6 := (hb6.block qb (by simp; omega)).trans HQ4.out
  have k6 : w6.cell? ⟨w.heap.size, 0, none⟩ = some (.pointer (some ⟨qb, 0, none⟩)) := cell_of_one HC0.out
  have q5 : w6.cell? ⟨qb, 5, none⟩ = some (.int .i64 c.quo) := cell_qC hq6 5 _ rfl
  have q6 : w6.cell? ⟨qb, 6, none⟩ = some (.int .i64 (k : Int)) := cell_qC hq6 6 _ rfl
  have q7 : w6.cell? ⟨qb, 7, none⟩ = some (.slice am nm cm) := cell_qC hq6 7 _ rfl
  have T6 : Hid (Tch [] w w6) := t6
  have z6' : Hid (w4.heap.size + 1 ≤ w6.heap.size) := z6
  clear hb6 t6 k0 hq6 BL
  go_wp2_with fail
  go_quiet (fail)
  go_wp2_with fail
  go_ret3
  exact ⟨rfl, T6.out.drewN _⟩
set_option maxRecDepth 8000 in
set_option maxHeartbeats 2000000 in
theorem send_seq (c r : Wp.Rq) (y : Sl) (qb k nm cm : Nat) (am : Option Addr) (ds : List Dd) (now : Int) (rs vd at_ : Value) (w : World)
    (hq : w.heap[qb]? = some (.cells (qC c (k : Int) (.slice am nm cm) rs vd at_) 191 (0, 0))) (hbod : r.bod.size ≤ 40) (hT : Tab w) (h2 : 2 < w.heap.size)
    (ho : w.ownsRow 0 230 3 vd ds.length (ds.flatMap Dd.row)) (hl : ds.length ≤ 1000) (hid : idxL (isI (didS r)) ds < 0) (hquo : (nm : Int) < c.quo) (hk : 200 < k ∧ k ≤ 1000) :
    Calls Tryz.prog 164 #[.pointer (some ⟨qb, 0, none⟩), .int .i64 now, .agg (cellsOf r y.v)] w fun e w' => e = .returned (.tuple #[.slice none 0 0, .nilFunc, .int .i64 6]) ∧ Tch [] w w' := by
  have hmf : ∀ (fn : Fn) (first cap : Array Value) (w : World), (Instr.makeFunc fn first cap).run Tryz.prog w = .ok (.func fn first cap) w := fun _ _ _ _ => rfl
  have hlt := lt_of_block hq
  have HQ : Hid (w.heap[qb]? = _) := hq
  have HID : Hid (∀ W, Below w.heap.size w W → Calls Tryz.prog 216 #[.agg (cellsOf r y.v)] W fun e w' => e = .returned (.string (didS r)) ∧ Below W.heap.size W w') := fun W hb => dedupID_any r y W (Nat.le_trans hbod (by decide)) (hT.below hb h2) (by have := hb.size; omega)
  rw [show cellsOf r y.v = #[.int .u8 (r.op.toNat : Int), .int .u8 (r.q.toNat : Int), .int .u8 (r.d.toNat : Int), .int .i64 r.vis, .int .i64 r.win, .int .i64 r.rcv, .int .i64 r.quo, .int .i64 r.mx, .int .i64 r.tic, .string r.grp, .string r.ded, .string r.bod, .string r.att, .string r.han, .slice y.a y.n y.c] from rfl] at HID
  have hbz : ¬ (40 : Int) < (r.bod.size : Int) := by omega
  have hquo' : ¬ c.quo ≤ (nm : Int) := by omega
  have hk' : (200 : Int) < (k : Int) := by omega
  have HOW : Hid (w.ownsRow 0 230 3 vd ds.length (ds.flatMap Dd.row)) := ho
  have hge := idxL_ge (isI (didS r)) ds
  have HII : Hid (idxL (isI (didS r)) ds = -1) := by show _ = _; omega
  clear hq hT ho hid hge
  generalize didS r = id at *
  rw [show cellsOf r y.v = #[.int .u8 (r.op.toNat : Int), .int .u8 (r.q.toNat : Int), .int .u8 (r.d.toNat : Int), .int .i64 r.vis, .int .i64 r.win, .int .i64 r.rcv, .int .i64 r.quo, .int .i64 r.mx, .int .i64 r.tic, .string r.grp, .string r.ded, .string r.bod, .string r.att, .string r.han, .slice y.a y.n y.c] from rfl]
  go_enter Tryz.func164, Tryz.ntmps164
  go_wp2_with fail
  refine (HID.out _ (((((Below.refl _ _).alloc (Nat.le_refl _) _).alloc (by simp) _)).alloc (by simp; omega) _)).mono ?_
  rintro e w4 ⟨rfl, hb4⟩
  have t4 : Tch [] w w4 := (sbox_tch w qb now #[.int .u8 (r.op.toNat : Int), .int .u8 (r.q.toNat : Int), .int .u8 (r.d.toNat : Int), .int .i64 r.vis, .int .i64 r.win, .int .i64 r.rcv, .int .i64 r.quo, .int .i64 r.mx, .int .i64 r.tic, .string r.grp, .string r.ded, .string r.bod, .string r.att, .string r.han, .slice y.a y.n y.c]).trans (Tch.of_below hb4) (by simp)
  have hb4' : Below (sbox w qb now #[.int .u8 (r.op.toNat : Int), .int .u8 (r.q.toNat : Int), .int .u8 (r.d.toNat : Int), .int .i64 r.vis, .int .i64 r.win, .int .i64 r.rcv, .int .i64 r.quo, .int .i64 r.mx, .int .i64 r.tic, .string r.grp, .string r.ded, .string r.bod, .string r.att, .string r.han, .slice y.a y.n y.c]).heap.size (sbox w qb now #[.int .u8 (r.op.toNat : Int), .int .u8 (r.q.toNat : Int), .int .u8 (r.d.toNat : Int), .int .i64 r.vis, .int .i64 r.win, .int .i64 r.rcv, .int .i64 r.quo, .int .i64 r.mx, .int .i64 r.tic, .string r.grp, .string r.ded, .string r.bod, .string r.att, .string r.han, .slice y.a y.n y.c]) w4 := hb4
  rw [sbox_size] at hb4'
  have z4 : w.heap.size + 3 ≤ w4.heap.size := by have := hb4'.size; rw [sbox_size] at this; exact this
  have B0 := (hb4'.block _ (by omega)).trans (sbox_0 w qb now #[.int .u8 (r.op.toNat : Int), .int .u8 (r.q.toNat : Int), .int .u8 (r.d.toNat : Int), .int .i64 r.vis, .int .i64 r.win, .int .i64 r.rcv, .int .i64 r.quo, .int .i64 r.mx, .int .i64 r.tic, .string r.grp, .string r.ded, .string r.bod, .string r.att, .string r.han, .slice y.a y.n y.c])
  have HB1 : Hid (w4.heap[w.heap.size + 1]? = _) := (hb4'.block _ (by omega)).trans (sbox_1 w qb now #[.int .u8 (r.op.toNat : Int), .int .u8 (r.q.toNat : Int), .int .u8 (r.d.toNat : Int), .int .i64 r.vis, .int .i64 r.win, .int .i64 r.rcv, .int .i64 r.quo, .int .i64 r.mx, .int .i64 r.tic, .string r.grp, .string r.ded, .string r.bod, .string r.att, .string r.han, .slice y.a y.n y.c])
  have HB2 : Hid (w4.heap[w.heap.size + 2]? = _) := (hb4'.block _ (by omega)).trans (sbox_2 w qb now #[.int .u8 (r.op.toNat : Int), .int .u8 (r.q.toNat : Int), .int .u8 (r.d.toNat : Int), .int .i64 r.vis, .int .i64 r.win, .int .i64 r.rcv, .int .i64 r.quo, .int .i64 r.mx, .int .i64 r.tic, .string r.grp, .string r.ded, .string r.bod, .string r.att, .string r.han, .slice y.a y.n y.c])
  have k0 := cell_of_one B0
  have HB0 : Hid (w4.heap[w.heap.size]? = _) := B0
  have hn0 : w.heap.size < w4.heap.size := by omega
  have hq4 : (w4.alloc (.cells #[.string id] 9)).heap[qb]? = some (.cells (qC c (k : Int) (.slice am nm cm) rs vd at_) 191 (0, 0)) := (Below.heap_alloc _ _ _ (by omega)).trans ((t4.block _ hlt (by simp)).trans HQ.out)
  have HF : Hid (Calls Tryz.prog 217 #[.pointer (some ⟨qb, 0, none⟩), .string id] (w4.alloc (.cells #[.string id] 9)) fun e w' => e = .returned (.int .i64 (-1)) ∧ Below (w4.alloc (.cells #[.string id] 9)).heap.size (w4.alloc (.cells #[.string id] 9)) w') := by
    have h := findDedup_gen id qb _ ds (w4.alloc (.cells #[.string id] 9)) (cell_qC hq4 9 _ rfl) (own_tch HOW.out (t4.alloc _) (fun _ _ => by simp)) (by omega)
    rw [HII.out] at h
    exact h
  have HQ4 : Hid ((w4.alloc (.cells #[.string id] 9)).heap[qb]? = _) := hq4
  have T4 : Hid (Tch [] w w4) := t4
  clear hb4 hb4' hq4 t4 B0
  go_wp2_with fail
  refine HF.out.mono ?_
  rintro e w6 ⟨rfl, hb6⟩
  have t6 : Tch [] w w6 := (T4.out.alloc _).trans (Tch.of_below hb6) (by simp)
  have z6 := hb6.size
  rw [World.size_alloc] at z6
  have BL : ∀ i o, i < w4.heap.size → w4.heap[i]? = some o → w6.heap[i]? = some o := fun i o hi ho => (hb6.block i (by simp; omega)).trans ((Below.heap_alloc _ _ _ hi).trans ho)
  have HC0 : Hid (w6.heap[w.heap.size]? = _) := BL _ _ hn0 HB0.out
  have HC1 : Hid (w6.heap[w.heap.size + 1]? = _) := BL _ _ (by omega) HB1.out
  have HC2 : Hid (w6.heap[w.heap.size + 2]? = _) := BL _ _ (by omega) HB2.out
  have HCI : Hid (w6.heap[w4.heap.size]? = _) := (hb6.block _ (by simp)).trans (heap_alloc_new _ _)
  have hq6 := (hb6.block qb (by simp; omega)).trans HQ4.out
  have k6 : w6.cell? ⟨w.heap.size, 0, none⟩ = some (.pointer (some ⟨qb, 0, none⟩)) := cell_of_one HC0.out
  have q5 : w6.cell? ⟨qb, 5, none⟩ = some (.int .i64 c.quo) := cell_qC hq6 5 _ rfl
  have q6 : w6.cell? ⟨qb, 6, none⟩ = some (.int .i64 (k : Int)) := cell_qC hq6 6 _ rfl
  have q7 : w6.cell? ⟨qb, 7, none⟩ = some (.slice am nm cm) := cell_qC hq6 7 _ rfl
  have T6 : Hid (Tch [] w w6) := t6
  have z6' : Hid (w4.heap.size + 1 ≤ w6.heap.size) := z6
  clear hb6 t6 k0 hq6 BL
  go_wp2_with fail
  go_quiet (fail)
  have k6' : (w6.drewN nq).cell? ⟨w.heap.size, 0, none⟩ = some (.pointer (some ⟨qb, 0, none⟩)) := k6
  have q6' : (w6.drewN nq).cell? ⟨qb, 6, none⟩ = some (.int .i64 (k : Int)) := q6
  go_wp2_with fail
  go_ret3
  exact ⟨rfl, T6.out.drewN _⟩
def TicBox (w : World) (gr : Nat) (tic : Int) : Prop := ∃ C : Array Value, w.heap[gr]? = some (.cells C 27 (0, 0)) ∧ C[8]? = some (.int .i64 tic)
theorem TicBox.cell {w : World} {gr : Nat} {tic : Int} (h : TicBox w gr tic) : w.cell? ⟨gr, 8, none⟩ = some (.int .i64 tic) := by
  obtain ⟨C, h1, h2⟩ := h
  exact cell_qC h1 8 _ h2
set_option maxRecDepth 8000 in
set_option maxHeartbeats 2000000 in
theorem ext_no (er : Int) (her : er = 7 ∨ er = 8) (r : Wp.Rq) (y : Sl) (st : Nat) (w : World)
    (hF : ∀ W, Tch [] w W → Calls Tryz.prog 194 #[.pointer (some ⟨st, 0, none⟩), .string r.han] W fun e w' => e = .returned (.tuple #[.pointer none, .int .i64 0, .int .i64 er]) ∧ Tch [] W w') :
    Calls Tryz.prog 160 #[.pointer (some ⟨st, 0, none⟩), .agg (cellsOf r y.v)] w fun e w' => e = .returned (.tuple #[.slice none 0 0, .nilFunc, .int .i64 er]) ∧ Tch [] w w' := by
  have HF : Hid (∀ W, Tch [] w W → Calls Tryz.prog 194 #[.pointer (some ⟨st, 0, none⟩), .string r.han] W fun e w' => e = .returned (.tuple #[.pointer none, .int .i64 0, .int .i64 er]) ∧ Tch [] W w') := hF
  have hne : (er != 0) = true := by rcases her with rfl | rfl <;> rfl
  clear hF
  rw [show cellsOf r y.v = #[.int .u8 (r.op.toNat : Int), .int .u8 (r.q.toNat : Int), .int .u8 (r.d.toNat : Int), .int .i64 r.vis, .int .i64 r.win, .int .i64 r.rcv, .int .i64 r.quo, .int .i64 r.mx, .int .i64 r.tic, .string r.grp, .string r.ded, .string r.bod, .string r.att, .string r.han, .slice y.a y.n y.c] from rfl]
  go_enter Tryz.func160, Tryz.ntmps160
  go_wp2_with fail
  refine (HF.out _ (((Tch.refl _ _).alloc _).alloc _)).mono ?_
  rintro e w1 ⟨rfl, ht1⟩
  have HT : Hid (Tch [] w w1) := (((Tch.refl [] w).alloc _).alloc _).trans ht1 (by simp)
  clear ht1 HF
  go_wp2_with fail
  go_ret3
  exact ⟨rfl, (HT.out.alloc _).alloc _⟩
set_option maxRecDepth 8000 in
set_option maxHeartbeats 4000000 in
theorem ext_ok (num : Int) (qb : Nat) (r : Wp.Rq) (y : Sl) (st : Nat) (w : World)
    (hF : ∀ W, Tch [] w W → Calls Tryz.prog 194 #[.pointer (some ⟨st, 0, none⟩), .string r.han] W fun e w' => e = .returned (.tuple #[.pointer (some ⟨qb, 0, none⟩), .int .i64 num, .int .i64 0]) ∧ Tch [] W w') :
    Calls Tryz.prog 160 #[.pointer (some ⟨st, 0, none⟩), .agg (cellsOf r y.v)] w fun e w' => ∃ gs gr gq gn, (e = .returned (.tuple #[.slice none 0 0, if r.tic = 0 then .func (.func 202) #[] #[.pointer (some ⟨gq, 0, none⟩), .pointer (some ⟨gn, 0, none⟩), .pointer (some ⟨gs, 0, none⟩)] else .func (.func 205) #[] #[.pointer (some ⟨gq, 0, none⟩), .pointer (some ⟨gn, 0, none⟩), .pointer (some ⟨gs, 0, none⟩), .pointer (some ⟨gr, 0, none⟩)], .int .i64 0])) ∧ Tch [] w w' ∧ w'.heap[gq]? = some (.cells #[.pointer (some ⟨qb, 0, none⟩)] 152 (0, 0)) ∧ w'.heap[gn]? = some (.cells #[.int .i64 num] 3 (0, 0)) ∧ w'.heap[gs]? = some (.cells #[.pointer (some ⟨st, 0, none⟩)] 96 (0, 0)) ∧ TicBox w' gr r.tic := by
  have hmf := mkf
  have HF : Hid (∀ W, Tch [] w W → Calls Tryz.prog 194 #[.pointer (some ⟨st, 0, none⟩), .string r.han] W fun e w' => e = .returned (.tuple #[.pointer (some ⟨qb, 0, none⟩), .int .i64 num, .int .i64 0]) ∧ Tch [] W w') := hF
  clear hF
  rw [show cellsOf r y.v = #[.int .u8 (r.op.toNat : Int), .int .u8 (r.q.toNat : Int), .int .u8 (r.d.toNat : Int), .int .i64 r.vis, .int .i64 r.win, .int .i64 r.rcv, .int .i64 r.quo, .int .i64 r.mx, .int .i64 r.tic, .string r.grp, .string r.ded, .string r.bod, .string r.att, .string r.han, .slice y.a y.n y.c] from rfl]
  obtain ⟨wb, hwb⟩ : ∃ wb, wb = (w.alloc (.cells #[.pointer (some ⟨st, 0, none⟩)] 96)).alloc (.cells #[.int .u8 (r.op.toNat : Int), .int .u8 (r.q.toNat : Int), .int .u8 (r.d.toNat : Int), .int .i64 r.vis, .int .i64 r.win, .int .i64 r.rcv, .int .i64 r.quo, .int .i64 r.mx, .int .i64 r.tic, .string r.grp, .string r.ded, .string r.bod, .string r.att, .string r.han, .slice y.a y.n y.c] 27) := ⟨_, rfl⟩
  have t1 : Tch [] w wb := by rw [hwb]; exact ((Tch.refl _ _).alloc _).alloc _
  have h1 : wb.heap[w.heap.size]? = some (.cells #[.pointer (some ⟨st, 0, none⟩)] 96 (0, 0)) := by rw [hwb]; exact heap_alloc2_old _ _ _
  have h2 : wb.heap[w.heap.size + 1]? = some (.cells #[.int .u8 (r.op.toNat : Int), .int .u8 (r.q.toNat : Int), .int .u8 (r.d.toNat : Int), .int .i64 r.vis, .int .i64 r.win, .int .i64 r.rcv, .int .i64 r.quo, .int .i64 r.mx, .int .i64 r.tic, .string r.grp, .string r.ded, .string r.bod, .string r.att, .string r.han, .slice y.a y.n y.c] 27 (0, 0)) := by rw [hwb]; exact heap_alloc2_new _ _ _
  have e1 := cell_of_one h1
  have e8 : wb.cell? ⟨w.heap.size + 1, 8, none⟩ = some (.int .i64 r.tic) := cell_qC h2 8 _ rfl
  have e13 : wb.cell? ⟨w.heap.size + 1, 13, none⟩ = some (.string r.han) := cell_qC h2 13 _ rfl
  have l1 := lt_of_block h1
  have l2 := lt_of_block h2
  have H1 : Hid (wb.heap[w.heap.size]? = some (.cells #[.pointer (some ⟨st, 0, none⟩)] 96 (0, 0))) := h1
  have T1 : Hid (Tch [] w wb) := t1
  have H2 : Hid (TicBox wb (w.heap.size + 1) r.tic) := ⟨_, h2, rfl⟩
  have HF1 : Hid (Calls Tryz.prog 194 #[.pointer (some ⟨st, 0, none⟩), .string r.han] wb _) := HF.out wb t1
  clear h1 h2 t1 HF
  go_enter Tryz.func160, Tryz.ntmps160
  go_upto_region 1 with fail
  rw [← hwb]
  clear hwb
  go_wp2_with fail
  refine HF1.out.mono ?_
  rintro e w1 ⟨rfl, ht1⟩
  have HT : Hid (Tch [] w w1) := T1.out.trans ht1 (by simp)
  have H1' : Hid (w1.heap[w.heap.size]? = some (.cells #[.pointer (some ⟨st, 0, none⟩)] 96 (0, 0))) := (ht1.block _ l1 (by simp)).trans H1.out
  have q8 : w1.cell? ⟨w.heap.size + 1, 8, none⟩ = some (.int .i64 r.tic) := (ht1.cell (a := ⟨w.heap.size + 1, 8, none⟩) l2 (by simp)).trans e8
  have l3 : w.heap.size + 1 < w1.heap.size := by have := ht1.size; omega
  have H2' : Hid (TicBox w1 (w.heap.size + 1) r.tic) := by
    obtain ⟨C, k1, k2⟩ := H2.out
    exact ⟨C, (ht1.block _ l2 (by simp)).trans k1, k2⟩
  clear ht1 HF1 H1 H2 e1 e8 e13 l1 l2 T1
  obtain ⟨w2, hw2⟩ : ∃ w2, w2 = (w1.alloc (.cells #[.pointer (some ⟨qb, 0, none⟩)] 152)).alloc (.cells #[.int .i64 num] 3) := ⟨_, rfl⟩
  have p8 : w2.cell? ⟨w.heap.size + 1, 8, none⟩ = some (.int .i64 r.tic) := by rw [hw2]; exact Lib.cell?_alloc_some _ (Lib.cell?_alloc_some _ q8)
  have l4 : w.heap.size + 1 < w2.heap.size := by rw [hw2]; simp; omega
  have HFI : Hid (Tch [] w w2 ∧ w2.heap[w1.heap.size]? = some (.cells #[.pointer (some ⟨qb, 0, none⟩)] 152 (0, 0)) ∧ w2.heap[w1.heap.size + 1]? = some (.cells #[.int .i64 num] 3 (0, 0)) ∧ w2.heap[w.heap.size]? = some (.cells #[.pointer (some ⟨st, 0, none⟩)] 96 (0, 0)) ∧ TicBox w2 (w.heap.size + 1) r.tic) := by
    refine ⟨by rw [hw2]; exact (HT.out.alloc _).alloc _, by rw [hw2]; exact heap_alloc2_old _ _ _, by rw [hw2]; exact heap_alloc2_new _ _ _, ?_, ?_⟩
    · rw [hw2]
      exact (Below.heap_alloc _ _ _ (by simp; omega)).trans ((Below.heap_alloc _ _ _ (by omega)).trans H1'.out)
    · obtain ⟨C, k1, k2⟩ := H2'.out
      exact ⟨C, by rw [hw2]; exact (Below.heap_alloc _ _ _ (by simp; omega)).trans ((Below.heap_alloc _ _ _ (by omega)).trans k1), k2⟩
  clear HT H1' H2' q8
  go_upto_region 2 with fail
  rw [← hw2]
  clear hw2
  by_cases ht0 : r.tic = 0
  · rw [ht0] at p8 HFI
    go_wp2_with fail
    go_ret3
    exact ⟨w.heap.size, w.heap.size + 1, w1.heap.size, w1.heap.size + 1, rfl, HFI.out⟩
  · have hb : (r.tic == 0) = false := by simpa using ht0
    go_wp2_with fail
    go_ret3
    exact ⟨w.heap.size, w.heap.size + 1, w1.heap.size, w1.heap.size + 1, rfl, HFI.out⟩
set_option maxRecDepth 8000 in
set_option maxHeartbeats 4000000 in
theorem extB_walk (K : World → Prop) (dv : Value) (num : Int) (st qb gq gn gs : Nat) (w : World) (hq : w.heap[gq]? = some (.cells #[.pointer (some ⟨qb, 0, none⟩)] 152 (0, 0))) (hn : w.heap[gn]? = some (.cells #[.int .i64 num] 3 (0, 0))) (hs : w.heap[gs]? = some (.cells #[.pointer (some ⟨st, 0, none⟩)] 96 (0, 0)))
    (hD : ∀ n, Calls Tryz.prog 204 #[.pointer (some ⟨st, 0, none⟩), .pointer (some ⟨qb, 0, none⟩)] (w.drewN n) fun e w' => e = .returned dv ∧ w' = w.drewN n)
    (hB : ∀ n, Calls Tryz.prog 203 #[.pointer (some ⟨qb, 0, none⟩), .int .i64 num, dv] (w.drewN n) fun e w' => e = .returned (.tuple #[]) ∧ K w' ∧ ∃ S, Tch S w w' ∧ gq ∉ S ∧ gn ∉ S ∧ gs ∉ S) :
    Calls Tryz.prog 202 #[.pointer (some ⟨gq, 0, none⟩), .pointer (some ⟨gn, 0, none⟩), .pointer (some ⟨gs, 0, none⟩)] w fun e w' => e = .returned (.tuple #[]) ∧ K w' := by
  have c0 := cell_of_one hq
  have c1 := cell_of_one hn
  have c2 := cell_of_one hs
  have l0 := lt_of_block hq
  have l1 := lt_of_block hn
  have l2 := lt_of_block hs
  have HD : Hid (Calls Tryz.prog 204 #[.pointer (some ⟨st, 0, none⟩), .pointer (some ⟨qb, 0, none⟩)] w.drew fun e w' => e = .returned dv ∧ w' = w.drew) := hD 1
  have HB : Hid (Calls Tryz.prog 203 #[.pointer (some ⟨qb, 0, none⟩), .int .i64 num, dv] w.drew fun e w' => e = .returned (.tuple #[]) ∧ K w' ∧ ∃ S, Tch S w w' ∧ gq ∉ S ∧ gn ∉ S ∧ gs ∉ S) := hB 1
  clear hD hB hq hn hs
  go_enter Tryz.func202, Tryz.ntmps202
  go_region_held3 (fun w' => w'.cell? ⟨gq, 0, none⟩ = some (.pointer (some ⟨qb, 0, none⟩)) ∧ w'.cell? ⟨gn, 0, none⟩ = some (.int .i64 num) ∧ w'.cell? ⟨gs, 0, none⟩ = some (.pointer (some ⟨st, 0, none⟩))) (go_keep) (first | (go_at_call 204; refine HD.out.mono ?_; rintro e w1 ⟨rfl, h9⟩; have h8 := h9.symm; subst h8) | (go_at_call 203; refine HB.out.mono ?_; rintro e w2 ⟨rfl, hk, S, hS, s0, s1, s2⟩; have HK : Hid (K w2) := hk; have d0 : w2.cell? ⟨gq, 0, none⟩ = some (.pointer (some ⟨qb, 0, none⟩)) := (hS.cell (a := ⟨gq, 0, none⟩) l0 s0).trans c0; have d1 : w2.cell? ⟨gn, 0, none⟩ = some (.int .i64 num) := (hS.cell (a := ⟨gn, 0, none⟩) l1 s1).trans c1; have d2 : w2.cell? ⟨gs, 0, none⟩ = some (.pointer (some ⟨st, 0, none⟩)) := (hS.cell (a := ⟨gs, 0, none⟩) l2 s2).trans c2; clear hk hS s0 s1 s2))
  all_goals (go_wp2_with fail; go_end0; exact ⟨rfl, HK.out⟩)
set_option maxRecDepth 8000 in
set_option maxHeartbeats 4000000 in
theorem extT_walk (K : World → Prop) (num now tic : Int) (st qb gq gn gs gr : Nat) (w : World) (hq : w.heap[gq]? = some (.cells #[.pointer (some ⟨qb, 0, none⟩)] 152 (0, 0))) (hn : w.heap[gn]? = some (.cells #[.int .i64 num] 3 (0, 0))) (hs : w.heap[gs]? = some (.cells #[.pointer (some ⟨st, 0, none⟩)] 96 (0, 0))) (hr : TicBox w gr tic) (c0 : w.cell? ⟨st, 0, none⟩ = some (.int .i64 now)) (hb : 0 ≤ now + tic ∧ now + tic ≤ 1000000)
    (hB : ∀ n, Calls Tryz.prog 206 #[.pointer (some ⟨qb, 0, none⟩), .int .i64 num, .int .i64 (now + tic)] (w.drewN n) fun e w' => e = .returned (.tuple #[]) ∧ K w' ∧ ∃ S, Tch S w w' ∧ gq ∉ S ∧ gn ∉ S ∧ gs ∉ S ∧ gr ∉ S ∧ st ∉ S) :
    Calls Tryz.prog 205 #[.pointer (some ⟨gq, 0, none⟩), .pointer (some ⟨gn, 0, none⟩), .pointer (some ⟨gs, 0, none⟩), .pointer (some ⟨gr, 0, none⟩)] w fun e w' => e = .returned (.tuple #[]) ∧ K w' := by
  have a0 := cell_of_one hq
  have a1 := cell_of_one hn
  have a2 := cell_of_one hs
  have a3 : w.cell? ⟨gr, 8, none⟩ = some (.int .i64 tic) := hr.cell
  have l0 := lt_of_block hq
  have l1 := lt_of_block hn
  have l2 := lt_of_block hs
  have l3 : gr < w.heap.size := World.block_lt_of_cell? _ _ a3
  have l4 : st < w.heap.size := World.block_lt_of_cell? _ _ c0
  have hwr : IntKind.i64.wrap (now + tic) = now + tic := by rw [IntKind.wrap_i64]; omega
  have HB : Hid (Calls Tryz.prog 206 #[.pointer (some ⟨qb, 0, none⟩), .int .i64 num, .int .i64 (now + tic)] w.drew fun e w' => e = .returned (.tuple #[]) ∧ K w' ∧ ∃ S, Tch S w w' ∧ gq ∉ S ∧ gn ∉ S ∧ gs ∉ S ∧ gr ∉ S ∧ st ∉ S) := hB 1
  clear hB hq hn hs hr
  go_enter Tryz.func205, Tryz.ntmps205
  go_region_held3 (fun w' => w'.cell? ⟨gq, 0, none⟩ = some (.pointer (some ⟨qb, 0, none⟩)) ∧ w'.cell? ⟨gn, 0, none⟩ = some (.int .i64 num) ∧ w'.cell? ⟨gs, 0, none⟩ = some (.pointer (some ⟨st, 0, none⟩)) ∧ w'.cell? ⟨gr, 8, none⟩ = some (.int .i64 tic) ∧ w'.cell? ⟨st, 0, none⟩ = some (.int .i64 now)) (go_keep) (first | (go_at_call 206; refine HB.out.mono ?_; rintro e w2 ⟨rfl, hk, S, hS, s0, s1, s2, s3, s4⟩; have HK : Hid (K w2) := hk; have d0 : w2.cell? ⟨gq, 0, none⟩ = some (.pointer (some ⟨qb, 0, none⟩)) := (hS.cell (a := ⟨gq, 0, none⟩) l0 s0).trans a0; have d1 : w2.cell? ⟨gn, 0, none⟩ = some (.int .i64 num) := (hS.cell (a := ⟨gn, 0, none⟩) l1 s1).trans a1; have d2 : w2.cell? ⟨gs, 0, none⟩ = some (.pointer (some ⟨st, 0, none⟩)) := (hS.cell (a := ⟨gs, 0, none⟩) l2 s2).trans a2; have d3 : w2.cell? ⟨gr, 8, none⟩ = some (.int .i64 tic) := (hS.cell (a := ⟨gr, 8, none⟩) l3 s3).trans a3; have d4 : w2.cell? ⟨st, 0, none⟩ = some (.int .i64 now) := (hS.cell (a := ⟨st, 0, none⟩) l4 s4).trans c0; clear hk hS s0 s1 s2 s3 s4))
  all_goals (go_wp2_with fail; go_end0; exact ⟨rfl, HK.out⟩)
end Go.Proofs.YtbdobaapadlcjaaGreatDoor
