import Derived.Test.YtbdobaapadlcjaaGreatDoorOx13
namespace Go.Proofs.YtbdobaapadlcjaaGreatDoor
open Go.RowKit
set_option linter.unusedVariables false
set_option linter.unusedSimpArgs false
set_option maxRecDepth 8000 in
set_option maxHeartbeats 1000000 in
theorem sendg_found (c r : Wp.Rq) (y : Sl) (qb gd nd cd i num : Nat) (ds : List Dd) (now next : Int) (ms rs at_ : Value) (w : World)
    (hq : w.heap[qb]? = some (.cells (qC c next ms rs (.slice (some ⟨gd, 0, none⟩) nd cd) at_) 191 (0, 0))) (hbod : r.bod.size ≤ 40) (hT : Tab w) (h2 : 2 < w.heap.size)
    (ho : w.ownsRow 0 230 3 (.slice (some ⟨gd, 0, none⟩) nd cd) ds.length (ds.flatMap Dd.row)) (hnd : nd = ds.length) (hl : ds.length ≤ 1000) (hid : idxL (isI (didS r)) ds = (i : Int)) (hi : i < ds.length) (hnum : ds[i].num = (num : Nat)) (hn : num < 4294967296) :
    Calls Tryz.prog 164 #[.pointer (some ⟨qb, 0, none⟩), .int .i64 now, .agg (cellsOf r y.v)] w fun e w' => ∃ av, e = .returned (.tuple #[av, .nilFunc, .int .i64 0]) ∧ OwnB w' w.heap.size av (lowB num 4) ∧ Below w.heap.size w w' := by
  have hlt := lt_of_block hq
  have HQ : Hid (w.heap[qb]? = _) := hq
  have HID : Hid (∀ W, Below w.heap.size w W → Calls Tryz.prog 216 #[.agg (cellsOf r y.v)] W fun e w' => e = .returned (.string (didS r)) ∧ Below W.heap.size W w') := fun W hb => dedupID_any r y W (Nat.le_trans hbod (by decide)) (hT.below hb h2) (by have := hb.size; omega)
  rw [show cellsOf r y.v = #[.int .u8 (r.op.toNat : Int), .int .u8 (r.q.toNat : Int), .int .u8 (r.d.toNat : Int), .int .i64 r.vis, .int .i64 r.win, .int .i64 r.rcv, .int .i64 r.quo, .int .i64 r.mx, .int .i64 r.tic, .string r.grp, .string r.ded, .string r.bod, .string r.att, .string r.han, .slice y.a y.n y.c] from rfl] at HID
  have hbz : ¬ (40 : Int) < (r.bod.size : Int) := by omega
  have hgd : gd < w.heap.size := own_lt ho rfl
  have HCC : Hid (w.cell? ⟨gd, i * 3 + 1, none⟩ = some (.int .i64 (num : Nat))) := by
    have h1 : (ds.flatMap Dd.row)[i * 3 + 1]? = some (.int .i64 (num : Nat)) := by rw [flat_get Dd.row 3 (fun _ => rfl) ds i 1 hi (by decide)]; simp [Dd.row, hnum]
    have h2 := World.ownsRow.cells ho (g := gd) rfl (i * 3 + 1) _ h1
    have e2 : (⟨gd, 0, none⟩ : Addr).add (i * 3 + 1) = ⟨gd, i * 3 + 1, none⟩ := by unfold Addr.add; split <;> simp_all
    rw [e2] at h2
    exact h2
  have HII : Hid (idxL (isI (didS r)) ds = (i : Int)) := hid
  have HOW : Hid (w.ownsRow 0 230 3 (.slice (some ⟨gd, 0, none⟩) nd cd) ds.length (ds.flatMap Dd.row)) := ho
  clear hq hT hid ho
  generalize didS r = id at *
  rw [show cellsOf r y.v = #[.int .u8 (r.op.toNat : Int), .int .u8 (r.q.toNat : Int), .int .u8 (r.d.toNat : Int), .int .i64 r.vis, .int .i64 r.win, .int .i64 r.rcv, .int .i64 r.quo, .int .i64 r.mx, .int .i64 r.tic, .string r.grp, .string r.ded, .string r.bod, .string r.att, .string r.han, .slice y.a y.n y.c] from rfl]
  go_enter Tryz.func164, Tryz.ntmps164
  go_wp2_with fail
  refine (HID.out _ (((((Below.refl _ _).alloc (Nat.le_refl _) _).alloc (by simp) _)).alloc (by simp; omega) _)).mono ?_
  rintro e w4 ⟨rfl, hb4⟩
  have t4 : Tch [] w w4 := (sbox_tch w qb now #[.int .u8 (r.op.toNat : Int), .int .u8 (r.q.toNat : Int), .int .u8 (r.d.toNat : Int), .int .i64 r.vis, .int .i64 r.win, .int .i64 r.rcv, .int .i64 r.quo, .int .i64 r.mx, .int .i64 r.tic, .string r.grp, .string r.ded, .string r.bod, .string r.att, .string r.han, .slice y.a y.n y.c]).trans (Tch.of_below hb4) (by simp)
  have hb4' : Below (sbox w qb now #[.int .u8 (r.op.toNat : Int), .int .u8 (r.q.toNat : Int), .int .u8 (r.d.toNat : Int), .int .i64 r.vis, .int .i64 r.win, .int .i64 r.rcv, .int .i64 r.quo, .int .i64 r.mx, .int .i64 r.tic, .string r.grp, .string r.ded, .string r.bod, .string r.att, .string r.han, .slice y.a y.n y.c]).heap.size (sbox w qb now #[.int .u8 (r.op.toNat : Int), .int .u8 (r.q.toNat : Int), .int .u8 (r.d.toNat : Int), .int .i64 r.vis, .int .i64 r.win, .int .i64 r.rcv, .int .i64 r.quo, .int .i64 r.mx, .int .i64 r.tic, .string r.grp, .string r.ded, .string r.bod, .string r.att, .string r.han, .slice y.a y.n y.c]) w4 := hb4
  rw [sbox_size] at hb4'
  have z4 : w.heap.size + 3 ≤ w4.heap.size := by have := hb4'.size; rw [sbox_size] at this; exact this
  have k0 := cell_of_one ((hb4'.block _ (by omega)).trans (sbox_0 w qb now #[.int .u8 (r.op.toNat : Int), .int .u8 (r.q.toNat : Int), .int .u8 (r.d.toNat : Int), .int .i64 r.vis, .int .i64 r.win, .int .i64 r.rcv, .int .i64 r.quo, .int .i64 r.mx, .int .i64 r.tic, .string r.grp, .string r.ded, .string r.bod, .string r.att, .string r.han, .slice y.a y.n y.c]))
  have hn0 : w.heap.size < w4.heap.size := by omega
  have hq4 : (w4.alloc (.cells #[.string id] 9)).heap[qb]? = some (.cells (qC c next ms rs (.slice (some ⟨gd, 0, none⟩) nd cd) at_) 191 (0, 0)) := (Below.heap_alloc _ _ _ (by omega)).trans ((t4.block _ hlt (by simp)).trans HQ.out)
  have HF : Hid (Calls Tryz.prog 217 #[.pointer (some ⟨qb, 0, none⟩), .string id] (w4.alloc (.cells #[.string id] 9)) fun e w' => e = .returned (.int .i64 (i : Int)) ∧ Below (w4.alloc (.cells #[.string id] 9)).heap.size (w4.alloc (.cells #[.string id] 9)) w') := by
    have h := findDedup_gen id qb _ ds (w4.alloc (.cells #[.string id] 9)) (cell_qC hq4 9 _ rfl) (own_tch HOW.out (t4.alloc _) (fun _ _ => by simp)) (by omega)
    rw [HII.out] at h
    exact h
  have HQ4 : Hid ((w4.alloc (.cells #[.string id] 9)).heap[qb]? = _) := hq4
  have T4 : Hid (Tch [] w w4) := t4
  clear hb4 hb4' hq4 t4
  go_wp2_with fail
  refine HF.out.mono ?_
  rintro e w6 ⟨rfl, hb6⟩
  have t6 : Tch [] w w6 := (T4.out.alloc _).trans (Tch.of_below hb6) (by simp)
  have z6 := hb6.size
  rw [World.size_alloc] at z6
  have k6 : w6.cell? ⟨w.heap.size, 0, none⟩ = some (.pointer (some ⟨qb, 0, none⟩)) := (hb6.cell (p := ⟨w.heap.size, 0, none⟩) (by simp; omega)).trans (Lib.cell?_alloc_some _ k0)
  have q9 : w6.cell? ⟨qb, 9, none⟩ = some (.slice (some ⟨gd, 0, none⟩) nd cd) := cell_qC ((hb6.block _ (by simp; omega)).trans HQ4.out) 9 _ rfl
  have d1 : w6.cell? ⟨gd, i * 3 + 1, none⟩ = some (.int .i64 (num : Nat)) := (t6.cell (a := ⟨gd, i * 3 + 1, none⟩) hgd (by simp)).trans HCC.out
  have HA : Hid (Calls Tryz.prog 91 #[.slice none 0 0, .int .i64 (num : Nat), .int .i64 4] w6 fun e w' => ∃ v', e = .returned v' ∧ OwnB w' w.heap.size v' ([] ++ lowB num 4) ∧ Below w.heap.size w6 w') := appendNumber_any w.heap.size _ [] num 4 w6 hn (by decide) (by decide) (by omega) (World.ownsRow_nil _ _ _ _)
  have T6 : Hid (Tch [] w w6) := t6
  clear hb6 t6 k0
  go_wp2_with fail
  refine HA.out.mono ?_
  rintro e w7 ⟨av, rfl, ho, hb7⟩
  have HO : Hid (OwnB w7 w.heap.size av (lowB num 4)) := ho
  have HB7 : Hid (Below w.heap.size w6 w7) := hb7
  clear ho hb7
  go_wp2_with fail
  go_ret3
  exact ⟨av, rfl, HO.out, (T6.out.below (by simp) (Nat.le_refl _)).trans HB7.out⟩
set_option maxRecDepth 8000 in
set_option maxHeartbeats 2000000 in
theorem sendg_new (c r : Wp.Rq) (y : Sl) (qb k nm cm : Nat) (am : Option Addr) (ds : List Dd) (now : Int) (rs vd at_ : Value) (w : World)
    (hq : w.heap[qb]? = some (.cells (qC c (k : Int) (.slice am nm cm) rs vd at_) 191 (0, 0))) (hbod : r.bod.size ≤ 40) (hT : Tab w) (h2 : 2 < w.heap.size)
    (ho : w.ownsRow 0 230 3 vd ds.length (ds.flatMap Dd.row)) (hl : ds.length ≤ 1000) (hid : idxL (isI (didS r)) ds < 0) (hquo : (nm : Int) < c.quo) (hk : k ≤ 200) :
    Calls Tryz.prog 164 #[.pointer (some ⟨qb, 0, none⟩), .int .i64 now, .agg (cellsOf r y.v)] w fun e w' => ∃ av gi,
      e = .returned (.tuple #[av, .func (.func 218) #[] #[.pointer (some ⟨w.heap.size, 0, none⟩), .pointer (some ⟨gi, 0, none⟩), .pointer (some ⟨w.heap.size + 1, 0, none⟩), .pointer (some ⟨w.heap.size + 2, 0, none⟩)], .int .i64 0]) ∧ OwnB w' (gi + 1) av (lowB k 4) ∧ Below w.heap.size w w' ∧
      w'.heap[w.heap.size]? = some (.cells #[.pointer (some ⟨qb, 0, none⟩)] 152 (0, 0)) ∧ w'.heap[gi]? = some (.cells #[.string (didS r)] 9 (0, 0)) ∧ w'.heap[w.heap.size + 1]? = some (.cells #[.int .i64 now] 3 (0, 0)) ∧ w'.heap[w.heap.size + 2]? = some (.cells (cellsOf r y.v) 27 (0, 0)) := by
  have hmf : ∀ (fn : Fn) (first cap : Array Value) (w : World), (Instr.makeFunc fn first cap).run Tryz.prog w = .ok (.func fn first cap) w := fun _ _ _ _ => rfl
  have hlt := lt_of_block hq
  have HQ : Hid (w.heap[qb]? = _) := hq
  have HID : Hid (∀ W, Below w.heap.size w W → Calls Tryz.prog 216 #[.agg (cellsOf r y.v)] W fun e w' => e = .returned (.string (didS r)) ∧ Below W.heap.size W w') := fun W hb => dedupID_any r y W (Nat.le_trans hbod (by decide)) (hT.below hb h2) (by have := hb.size; omega)
  rw [show cellsOf r y.v = #[.int .u8 (r.op.toNat : Int), .int .u8 (r.q.toNat : Int), .int .u8 (r.d.toNat : Int), .int .i64 r.vis, .int .i64 r.win, .int .i64 r.rcv, .int .i64 r.quo, .int .i64 r.mx, .int .i64 r.tic, .string r.grp, .string r.ded, .string r.bod, .string r.att, .string r.han, .slice y.a y.n y.c] from rfl] at HID
  have hbz : ¬ (40 : Int) < (r.bod.size : Int) := by omega
  have hquo' : ¬ c.quo ≤ (nm : Int) := by omega
  have hk' : ¬ (200 : Int) < (k : Int) := by omega
  have HOW : Hid (w.ownsRow 0 230 3 vd ds.length (ds.flatMap Dd.row)) := ho
  have hge := idxL_ge (isI (didS r)) ds
  have HII : Hid (idxL (isI (didS r)) ds = -1) := by show _ = _; omega
  clear hq hT ho hid hge
  generalize didS r = id at *
  rw [show cellsOf r y.v = #[.int .u8 (r.op.toNat : Int), .int .u8 (r.q.toNat : Int), .int .u8 (r.d.toNat : Int), .int .i64 r.vis, .int .i64 r.win, .int .i64 r.rcv, .int .i64 r.quo, .int .i64 r.mx, .int .i64 r.tic, .string r.grp, .string r.ded, .string r.bod, .string r.att, .string r.han, .slice y.a y.n y.c] from rfl]
  go_enter Tryz.func164, Tryz.ntmps164
  go_wp2_with fail
  refine (HID.out _ (((((Below.refl _ _).alloc (Nat.le_refl _) _).alloc (by simp) _)).alloc (by simp; omega) _)).mono ?_
  rintro e w4 ⟨rfl, hb4⟩
  have t4 : Tch [] w w4 := (sbox_tch w qb now #[.int .u8 (r.op.toNat : Int), .int .u8 (r.q.toNat : Int), .int .u8 (r.d.toNat : Int), .int .i64 r.vis, .int .i64 r.win, .int .i64 r.rcv, .int .i64 r.quo, .int .i64 r.mx, .int .i64 r.tic, .string r.grp, .string r.ded, .string r.bod, .string r.att, .string r.han, .slice y.a y.n y.c]).trans (Tch.of_below hb4) (by simp)
  have hb4' : Below (sbox w qb now #[.int .u8 (r.op.toNat : Int), .int .u8 (r.q.toNat : Int), .int .u8 (r.d.toNat : Int), .int .i64 r.vis, .int .i64 r.win, .int .i64 r.rcv, .int .i64 r.quo, .int .i64 r.mx, .int .i64 r.tic, .string r.grp, .string r.ded, .string r.bod, .string r.att, .string r.han, .slice y.a y.n y.c]).heap.size (sbox w qb now #[.int .u8 (r.op.toNat : Int), .int .u8 (r.q.toNat : Int), .int .u8 (r.d.toNat : Int), .int .i64 r.vis, .int .i64 r.win, .int .i64 r.rcv, .int .i64 r.quo, .int .i64 r.mx, .int .i64 r.tic, .string r.grp, .string r.ded, .string r.bod, .string r.att, .string r.han, .slice y.a y.n y.c]) w4 := hb4
  rw [sbox_size] at hb4'
  have z4 : w.heap.size + 3 ≤ w4.heap.size := by have := hb4'.size; rw [sbox_size] at this; exact this
  have B0 := (hb4'.block _ (by omega)).trans (sbox_0 w qb now #[.int .u8 (r.op.toNat : Int), .int .u8 (r.q.toNat : Int), .int .u8 (r.d.toNat : Int), .int .i64 r.vis, .int .i64 r.win, .int .i64 r.rcv, .int .i64 r.quo, .int .i64 r.mx, .int .i64 r.tic, .string r.grp, .string r.ded, .string r.bod, .string r.att, .string r.han, .slice y.a y.n y.c])
  have HB1 : Hid (w4.heap[w.heap.size + 1]? = _) := (hb4'.block _ (by omega)).trans (sbox_1 w qb now #[.int .u8 (r.op.toNat : Int), .int .u8 (r.q.toNat : Int), .int .u8 (r.d.toNat : Int), .int .i64 r.vis, .int .i64 r.win, .int .i64 r.rcv, .int .i64 r.quo, .int .i64 r.mx, .int .i64 r.tic, .string r.grp, .string r.ded, .string r.bod, .string r.att, .string r.han, .slice y.a y.n y.c])
  have HB2 : Hid (w4.heap[w.heap.size + 2]? = _) := (hb4'.block _ (by omega)).trans (sbox_2 w qb now #[.int .u8 (r.op.toNat : Int), .int .u8 (r.q.toNat : Int), .int .u8 (r.d.toNat : Int), .int .i64 r.vis, .int .i64 r.win, .int .i64 r.rcv, .int .i64 r.quo, .int .i64 r.mx, .int .i64 r.tic, .string r.grp, .string r.ded, .string r.bod, .string r.att, .string r.han, .slice y.a y.n y.c])
  have k0 := cell_of_one B0
  have HB0 : Hid (w4.heap[w.heap.size]? = _) := B0
  have hn0 : w.heap.size < w4.heap.size := by omega
  have hq4 : (w4.alloc (.cells #[.string id] 9)).heap[qb]? = some (.cells (qC c (k : Int) (.slice am nm cm) rs vd at_) 191 (0, 0)) := (Below.heap_alloc _ _ _ (by omega)).trans ((t4.block _ hlt (by simp)).trans HQ.out)
  have HF : Hid (Calls Tryz.prog 217 #[.pointer (some ⟨qb, 0, none⟩), .string id] (w4.alloc (.cells #[.string id] 9)) fun e w' => e = .returned (.int .i64 (-1)) ∧ Below (w4.alloc (.cells #[.string id] 9)).heap.size (w4.alloc (.cells #[.string id] 9)) w') := by
    have h := findDedup_gen id qb _ ds (w4.alloc (.cells #[.string id] 9)) (cell_qC hq4 9 _ rfl) (own_tch HOW.out (t4.alloc _) (fun _ _ => by simp)) (by omega)
    rw [HII.out] at h
    exact h
  have HQ4 : Hid ((w4.alloc (.cells #[.string id] 9)).heap[qb]? = _) := hq4
  have T4 : Hid (Tch [] w w4) := t4
  clear hb4 hb4' hq4 t4 B0
  go_wp2_with fail
  refine HF.out.mono ?_
  rintro e w6 ⟨rfl, hb6⟩
  have t6 : Tch [] w w6 := (T4.out.alloc _).trans (Tch.of_below hb6) (by simp)
  have z6 := hb6.size
  rw [World.size_alloc] at z6
  have BL : ∀ i o, i < w4.heap.size → w4.heap[i]? = some o → w6.heap[i]? = some o := fun i o hi ho => (hb6.block i (by simp; omega)).trans ((Below.heap_alloc _ _ _ hi).trans ho)
  have HC0 : Hid (w6.heap[w.heap.size]? = _) := BL _ _ hn0 HB0.out
  have HC1 : Hid (w6.heap[w.heap.size + 1]? = _) := BL _ _ (by omega) HB1.out
  have HC2 : Hid (w6.heap[w.heap.size + 2]? = _) := BL _ _ (by omega) HB2.out
  have HCI : Hid (w6.heap[w4.heap.size]? = _) := (hb6.block _ (by simp)).trans (heap_alloc_new _ _)
  have hq6 := (hb6.block qb (by simp; omega)).trans HQ4.out
  have k6 : w6.cell? ⟨w.heap.size, 0, none⟩ = some (.pointer (some ⟨qb, 0, none⟩)) := cell_of_one HC0.out
  have q5 : w6.cell? ⟨qb, 5, none⟩ = some (.int .i64 c.quo) := cell_qC hq6 5 _ rfl
  have q6 : w6.cell? ⟨qb, 6, none⟩ = some (.int .i64 (k : Int)) := cell_qC hq6 6 _ rfl
  have q7 : w6.cell? ⟨qb, 7, none⟩ = some (.slice am nm cm) := cell_qC hq6 7 _ rfl
  have T6 : Hid (Tch [] w w6) := t6
  have HA : Hid (∀ n, Calls Tryz.prog 91 #[.slice none 0 0, .int .i64 (k : Int), .int .i64 4] (w6.drewN n) fun e w' => ∃ v', e = .returned v' ∧ OwnB w' (w4.heap.size + 1) v' ([] ++ lowB k 4) ∧ Below (w4.heap.size + 1) (w6.drewN n) w') := fun n => appendNumber_any (w4.heap.size + 1) _ [] k 4 (w6.drewN n) (by omega) (by decide) (by decide) z6 (World.ownsRow_nil _ _ _ _)
  have z6' : Hid (w4.heap.size + 1 ≤ w6.heap.size) := z6
  clear hb6 t6 k0 hq6 BL
  go_wp2_with fail
  go_quiet (fail)
  have k6' : (w6.drewN nq).cell? ⟨w.heap.size, 0, none⟩ = some (.pointer (some ⟨qb, 0, none⟩)) := k6
  have q6' : (w6.drewN nq).cell? ⟨qb, 6, none⟩ = some (.int .i64 (k : Int)) := q6
  go_wp2_with fail
  refine (HA.out nq).mono ?_
  rintro e w7 ⟨av, rfl, ho, hb7⟩
  have HO : Hid (OwnB w7 (w4.heap.size + 1) av (lowB k 4)) := ho
  have HB7 : Hid (Below (w4.heap.size + 1) w6 w7) := (below_drewN (Below.refl _ _) nq).trans hb7
  clear ho hb7
  go_wp2_with fail
  go_ret3
  have hB := HB7.out
  exact ⟨av, w4.heap.size, rfl, HO.out, (T6.out.below (by simp) (Nat.le_refl _)).trans (hB.mono (by omega)), (hB.block _ (by omega)).trans HC0.out, (hB.block _ (by omega)).trans HCI.out, (hB.block _ (by omega)).trans HC1.out, (hB.block _ (by omega)).trans HC2.out⟩
set_option maxHeartbeats 1000000 in
theorem sentg_now (K : World → Prop) (c r : Wp.Rq) (y : Sl) (qb k nr gq gi gn gr : Nat) (vd ms rs at_ : Value) (l : List Ms) (xr : List Value) (w : World)
    (hq : Qb w qb c (k : Int) ms rs vd at_) (hm : w.ownsRow 0 226 5 ms l.length (l.flatMap Ms.row)) (hr : w.ownsRow 0 9 1 rs nr xr) (hnm : l.length ≤ 1000) (hnr : nr ≤ 1000) (hk : k ≤ 200) (hwin : c.win = 0)
    (hgq : w.heap[gq]? = some (.cells #[.pointer (some ⟨qb, 0, none⟩)] 152 (0, 0))) (hgr : w.heap[gr]? = some (.cells (cellsOf r y.v) 27 (0, 0)))
    (hK : ∀ w' ms' rs', Qb w' qb c ((k + 1 : Nat) : Int) ms' rs' vd at_ → w'.ownsRow 0 226 5 ms' (l.length + 1) (l.flatMap Ms.row ++ msV k r.grp r.bod) → w'.ownsRow 0 9 1 rs' (if idxL (isG r.grp) l < 0 then nr + 1 else nr) (if idxL (isG r.grp) l < 0 then xr ++ [.string r.grp] else xr) → NewOr w ms ms' → NewOr w rs rs' → Tch (qb :: (bl ms ++ bl rs)) w w' → K w') :
    Calls Tryz.prog 218 #[.pointer (some ⟨gq, 0, none⟩), .pointer (some ⟨gi, 0, none⟩), .pointer (some ⟨gn, 0, none⟩), .pointer (some ⟨gr, 0, none⟩)] w fun e w' => e = .returned (.tuple #[]) ∧ K w' := by
  have HP : Hid (Calls Tryz.prog 219 #[.pointer (some ⟨qb, 0, none⟩), .string r.grp, .string r.bod] w fun e w' => e = .returned (.tuple #[]) ∧ K w') := putg_walk K c r.grp r.bod qb k nr ms rs vd at_ l xr w hq hm hr hnm hnr hk hK
  have q3 : w.cell? ⟨qb, 3, none⟩ = some (.int .i64 0) := by rw [← hwin]; exact cell_qC hq 3 _ rfl
  have cq := cell_of_one hgq
  have c9 := gr9 hgr
  have c11 := gr11 hgr
  clear hq hm hr hgq hgr hK
  go_enter Tryz.func218, Tryz.ntmps218
  go_wp2_with fail
  refine HP.out.mono ?_
  rintro e w2 ⟨rfl, hk2⟩
  go_wp2_with fail
  go_end0
  exact ⟨rfl, hk2⟩
end Go.Proofs.YtbdobaapadlcjaaGreatDoor
