import Derived.Test.YtbdobaapadlcjaaGreatDoorOx35
import Derived.Test.YtbdobaapadlcjaaGreatDoorOx12
import Derived.Deep.DeepCutAuto
import Derived.Test.YtbdobaapadlcjaaGreatDoorOx23
import Derived.Test.YtbdobaapadlcjaaGreatDoorOx15
import Derived.BigQuiet
import Derived.Test.YtbdobaapadlcjaaGreatDoorOx20
import Derived.Test.YtbdobaapadlcjaaGreatDoorOx29
import Derived.Test.YtbdobaapadlcjaaGreatDoorOx31
namespace Go.Proofs.YtbdobaapadlcjaaGreatDoor
open Go.RowKit
set_option linter.unusedVariables false
set_option linter.unusedSimpArgs false
set_option maxHeartbeats 400000 in
theorem newReader_any (s : ByteArray) (w : World) : Calls Tryz.prog 83 #[.string s] w fun e w' => e = .returned (.pointer (some ⟨w.heap.size, 0, none⟩)) ∧ w' = w.alloc (.cells #[.string s, .bool false] 184) := by
  go_enter Tryz.func83, Tryz.ntmps83
  go_wp2
  go_ret
  exact ⟨rfl, rfl⟩
theorem info237 : (Tryz.prog.info? 237).map (·.size) = some 3 := by kernel_rfl
set_option maxRecDepth 8000 in
set_option maxHeartbeats 2000000 in
theorem read_yes (B : Nat) (s : ByteArray) (w : World) (hL : Lays B w) (hB : B ≤ w.heap.size) (h8 : s.size = 8) (h0 : s[0] = 72) (h1 : isLet s[1] = true) :
    Calls Tryz.prog 188 #[.string s] w fun e w' => e = .returned (.tuple #[.agg #[.int .u8 (s[1].toNat : Int), .int .i64 (leN (tk (s.extract 2 8) 4).data.toList : Nat), .int .i64 (leN (tk (lf (s.extract 2 8) 4) 2).data.toList : Nat)], .bool true]) ∧ Tch [] w w' := by
  have hn0 : s[0].toNat = 72 := by rw [h0]; rfl
  obtain ⟨wb, hwb⟩ : ∃ wb, wb = w.alloc (.cells #[.int .u8 0, .int .i64 0, .int .i64 0] 237) := ⟨_, rfl⟩
  have tb : Tch [] w wb := by rw [hwb]; exact (Tch.refl _ _).alloc _
  have HRB : Hid (wb.heap[w.heap.size]? = some (.cells #[.int .u8 0, .int .i64 0, .int .i64 0] 237 (0, 0))) := by rw [hwb]; exact heap_alloc_new _ _
  have HQ : Hid (Calls Tryz.prog 236 #[.int .u8 (s[1].toNat : Int)] wb fun e w' => e = .returned (.bool true) ∧ Tch [] wb w') := by
    have h := isQueue_any B s[1] wb (hL.below (tb.below (by simp) hB)) (by have := tb.size; omega)
    rw [h1] at h
    exact h
  have HT : Hid (Tch [] w wb) := tb
  clear tb hL h1 h0
  generalize hn1 : s[1].toNat = c at *
  go_enter Tryz.func188, Tryz.ntmps188
  go_wp2_with fail
  rw [← hwb]
  clear hwb
  refine HQ.out.mono ?_
  rintro e w1 ⟨rfl, ht1⟩
  have HT1 : Hid (Tch [] w w1) := HT.out.trans ht1 (by simp)
  have HR1 : Hid (w1.heap[w.heap.size]? = some (.cells #[.int .u8 0, .int .i64 0, .int .i64 0] 237 (0, 0))) := (ht1.block _ (lt_of_block HRB.out) (by simp)).trans HRB.out
  clear ht1 HT HRB
  go_wp2_with fail
  refine (newReader_any _ _).mono ?_
  rintro e w2 ⟨rfl, hw2⟩
  have lb := lt_of_block HR1.out
  have HT2 : Hid (Tch [] w w2) := by rw [hw2]; exact HT1.out.alloc _
  have HR2 : Hid (w2.heap[w.heap.size]? = some (.cells #[.int .u8 0, .int .i64 0, .int .i64 0] 237 (0, 0))) := by rw [hw2]; exact (Below.heap_alloc _ _ _ lb).trans HR1.out
  have HD2 : Hid (Rd w2 w1.heap.size (s.extract 2 8) false) := by rw [hw2]; exact heap_alloc_new _ _
  have z2 : w2.heap.size = w1.heap.size + 1 := by rw [hw2]; simp
  clear hw2 HR1 HT1 HQ
  have hes : (s.extract 2 8).size = 6 := by simp [ByteArray.size_extract, h8]
  generalize hte : s.extract 2 8 = t at *
  have HTE : Hid (s.extract 2 8 = t) := hte
  clear hte
  generalize w1.heap.size = rb at *
  obtain ⟨w3, hw3⟩ : ∃ w3, w3 = w2.alloc (.cells #[.int .u8 (c : Int), .int .i64 0, .int .i64 0] 237) := ⟨_, rfl⟩
  have lb2 := lt_of_block HR2.out
  have ld2 := lt_of_block HD2.out
  have HT3 : Hid (Tch [] w w3) := by rw [hw3]; exact HT2.out.alloc _
  have HR3 : Hid (w3.heap[w.heap.size]? = some (.cells #[.int .u8 0, .int .i64 0, .int .i64 0] 237 (0, 0))) := by rw [hw3]; exact (Below.heap_alloc _ _ _ lb2).trans HR2.out
  have HD3 : Hid (Rd w3 rb t false) := by rw [hw3]; exact (Below.heap_alloc _ _ _ ld2).trans HD2.out
  have HH3 : Hid (w3.heap[w2.heap.size]? = some (.cells #[.int .u8 (c : Int), .int .i64 0, .int .i64 0] 237 (0, 0))) := by rw [hw3]; exact heap_alloc_new _ _
  have HN4 : Hid (Calls Tryz.prog 84 #[.pointer (some ⟨rb, 0, none⟩), .int .i64 4] w3 _) := number_four rb t false w3 (by rw [hes]; decide) (by omega) HD3.out
  go_wp2_with fail
  rw [← hw3]
  clear hw3 HD2 HR2 HT2
  refine HN4.out.mono ?_
  rintro e w4 ⟨rfl, hR4, hg4, z4⟩
  obtain ⟨g2, hg2⟩ : ∃ g2, g2 = rb + 1 := ⟨_, rfl⟩
  rw [z2, ← hg2] at HH3
  obtain ⟨g0, hg0⟩ : ∃ g0, g0 = w.heap.size := ⟨_, rfl⟩
  rw [← hg0] at HR3
  have n02 : g0 ≠ g2 := by omega
  have n0r : g0 ≠ rb := by omega
  have n2r : g2 ≠ rb := by omega
  have HT4 : Hid (Tch [] w w4) := HT3.out.grown hg4 (fun k hk hlt => by simp only [Option.some.injEq] at hk; omega)
  have HR4 : Hid (w4.heap[g0]? = some (.cells #[.int .u8 0, .int .i64 0, .int .i64 0] 237 (0, 0))) := (hg4.block g0 (lt_of_block HR3.out) (fun e => n0r (Option.some.inj e))).trans HR3.out
  have HH4 : Hid (w4.heap[g2]? = some (.cells #[.int .u8 (c : Int), .int .i64 0, .int .i64 0] 237 (0, 0))) := (hg4.block g2 (lt_of_block HH3.out) (fun e => n2r (Option.some.inj e))).trans HH3.out
  have HD4 : Hid (Rd w4 rb (lf t 4) (bad t false 4)) := hR4
  have hls : (lf t 4).size = 2 := by unfold lf; rw [if_pos (by omega)]; simp [ByteArray.size_extract, hes]
  have k1 : w4.cell? ⟨g2, 1, none⟩ = some (.int .i64 0) := cell_qC HH4.out 1 _ rfl
  have z1 : w4.frozen? ⟨g2, 1, none⟩ = false := frozen_of_row w4 g2 1 _ 237 HH4.out
  have l4 := lt_of_block HH4.out
  generalize hna : leN (tk t 4).data.toList = na at *
  have HNA : Hid (leN (tk t 4).data.toList = na) := hna
  clear hna
  generalize hlf : lf t 4 = t2 at *
  have HLF : Hid (lf t 4 = t2) := hlf
  clear hlf
  generalize bad t false 4 = f2 at *
  obtain ⟨w5, hw5⟩ : ∃ w5, w5 = w4.setCell ⟨g2, 1, none⟩ (.int .i64 (na : Int)) := ⟨_, rfl⟩
  have HT5 : Hid (Tch [] w w5) := by rw [hw5]; exact HT4.out.setCell (fun h => by have h' : g2 < w.heap.size := h; omega) _
  have HR5 : Hid (w5.heap[g0]? = some (.cells #[.int .u8 0, .int .i64 0, .int .i64 0] 237 (0, 0))) := by rw [hw5]; exact (Below.heap_setCell w4 _ _ g0 (fun e => n02 e)).trans HR4.out
  have HD5 : Hid (Rd w5 rb t2 f2) := by rw [hw5]; exact (Below.heap_setCell w4 _ _ rb (fun e => n2r e.symm)).trans HD4.out
  have HH5 : Hid (w5.heap[g2]? = some (.cells #[.int .u8 (c : Int), .int .i64 (na : Int), .int .i64 0] 237 (0, 0))) := by rw [hw5]; exact heap_setCell_same w4 g2 1 _ 237 _ HH4.out
  have HN6 : Hid (Calls Tryz.prog 84 #[.pointer (some ⟨rb, 0, none⟩), .int .i64 ((2 : Nat) : Int)] w5 _) := number_any rb t2 f2 2 w5 (.inr rfl) (by rw [hls]; decide) HD5.out
  have HG0 : Hid (g0 = w.heap.size) := hg0
  have HLW : Hid (w.heap.size < g2) := by show _ < _; omega
  clear HN4 HR3 HH3 HD3 HT3 hR4 hg4 hg0
  rw [← hg2]
  clear hg2
  go_wp2_with fail
  rw [← hw5]
  clear hw5 HD4 HR4 HH4 HT4 k1 z1
  refine HN6.out.mono ?_
  rintro e w6 ⟨rfl, hR6, hg6, z6⟩
  have HT6 : Hid (Tch [] w w6) := HT5.out.grown hg6 (fun k hk hlt => by simp only [Option.some.injEq] at hk; omega)
  have HR6 : Hid (w6.heap[g0]? = some (.cells #[.int .u8 0, .int .i64 0, .int .i64 0] 237 (0, 0))) := (hg6.block g0 (lt_of_block HR5.out) (fun e => n0r (Option.some.inj e))).trans HR5.out
  have HH6 : Hid (w6.heap[g2]? = some (.cells #[.int .u8 (c : Int), .int .i64 (na : Int), .int .i64 0] 237 (0, 0))) := (hg6.block g2 (lt_of_block HH5.out) (fun e => n2r (Option.some.inj e))).trans HH5.out
  have k2 : w6.cell? ⟨g2, 2, none⟩ = some (.int .i64 0) := cell_qC HH6.out 2 _ rfl
  have z2' : w6.frozen? ⟨g2, 2, none⟩ = false := frozen_of_row w6 g2 2 _ 237 HH6.out
  have l6 := lt_of_block HH6.out
  generalize hnb : leN (tk t2 2).data.toList = nb at *
  have HNB : Hid (leN (tk t2 2).data.toList = nb) := hnb
  clear hnb
  obtain ⟨w7, hw7⟩ : ∃ w7, w7 = w6.setCell ⟨g2, 2, none⟩ (.int .i64 (nb : Int)) := ⟨_, rfl⟩
  have HT7 : Hid (Tch [] w w7) := by rw [hw7]; exact HT6.out.setCell (fun h => by have h' : g2 < w.heap.size := h; have := HG0.out; have := HLW.out; omega) _
  have HR7 : Hid (w7.heap[g0]? = some (.cells #[.int .u8 0, .int .i64 0, .int .i64 0] 237 (0, 0))) := by rw [hw7]; exact (Below.heap_setCell w6 _ _ g0 (fun e => n02 e)).trans HR6.out
  have HH7 : Hid (w7.heap[g2]? = some (.cells #[.int .u8 (c : Int), .int .i64 (na : Int), .int .i64 (nb : Int)] 237 (0, 0))) := by rw [hw7]; exact heap_setCell_same w6 g2 2 _ 237 _ HH6.out
  have m0 : w7.cell? ⟨g2, 0, none⟩ = some (.int .u8 (c : Int)) := cell_qC HH7.out 0 _ rfl
  have m1 : w7.cell? ⟨g2, 1, none⟩ = some (.int .i64 (na : Int)) := cell_qC HH7.out 1 _ rfl
  have m2 : w7.cell? ⟨g2, 2, none⟩ = some (.int .i64 (nb : Int)) := cell_qC HH7.out 2 _ rfl
  have r0 : w7.cell? ⟨g0, 0, none⟩ = some (.int .u8 0) := cell_qC HR7.out 0 _ rfl
  have r1 : w7.cell? ⟨g0, 1, none⟩ = some (.int .i64 0) := cell_qC HR7.out 1 _ rfl
  have r2 : w7.cell? ⟨g0, 2, none⟩ = some (.int .i64 0) := cell_qC HR7.out 2 _ rfl
  have f0 : w7.frozen? ⟨g0, 0, none⟩ = false := frozen_of_row w7 g0 0 _ 237 HR7.out
  have f1 : w7.frozen? ⟨g0, 1, none⟩ = false := frozen_of_row w7 g0 1 _ 237 HR7.out
  have f2 : w7.frozen? ⟨g0, 2, none⟩ = false := frozen_of_row w7 g0 2 _ 237 HR7.out
  have lz := lt_of_block HH7.out
  have ly := lt_of_block HR7.out
  rw [← HG0.out]
  clear HR6 HH6 HT6 HR5 HH5 HD5 HT5 hR6 hg6 HN6
  go_upto_region 7 with fail
  rw [← hw7]
  clear hw7 k2 z2'
  go_wp2_with fail
  have q1 := heap_setCell_same w7 g0 0 _ 237 (.int .u8 (c : Int)) HR7.out
  have q2 := heap_setCell_same _ g0 1 _ 237 (.int .i64 (na : Int)) q1
  have q3 := heap_setCell_same _ g0 2 _ 237 (.int .i64 (nb : Int)) q2
  refine bodyPost_ret (results_ct (p := 2) (q := 3) rfl _ _ g0 237 #[.int .u8 (c : Int), .int .i64 (na : Int), .int .i64 (nb : Int)] (0, 0) _ rfl q3 Tryz.underlying237 rfl info237) rfl ⟨?_, ?_⟩
  · rw [HTE.out, HLF.out, HNA.out, HNB.out]
    rfl
  · have hge : ¬ g0 < w.heap.size := by have := HG0.out; omega
    exact ((HT7.out.setCell (fun h => absurd h hge) _).setCell (fun h => absurd h hge) _).setCell (fun h => absurd h hge) _
structure FindI (st : Nat) (s : ByteArray) (c num rcv : Int) (v : Value) (w : World) : Prop where
  rd : Calls Tryz.prog 188 #[.string s] w fun e w' => e = .returned (.tuple #[.agg #[.int .u8 c, .int .i64 num, .int .i64 rcv], .bool true]) ∧ Tch [] w w'
  atq : ∀ W, Tch [] w W → Calls Tryz.prog 200 #[.pointer (some ⟨st, 0, none⟩), .int .u8 c] W fun e w' => e = .returned v ∧ w' = W
set_option maxRecDepth 8000 in
set_option maxHeartbeats 2000000 in
theorem find_fl (fl : Bool) (st qb : Nat) (s : ByteArray) (c num rcv : Int) (w : World) (h : FindI st s c num rcv (.pointer (some ⟨qb, 0, none⟩)) w)
    (hF : ∀ W, Tch [] w W → Calls Tryz.prog 252 #[.pointer (some ⟨qb, 0, none⟩), .agg #[.int .u8 c, .int .i64 num, .int .i64 rcv]] W fun e w' => e = .returned (.bool fl) ∧ Tch [] W w') :
    Calls Tryz.prog 194 #[.pointer (some ⟨st, 0, none⟩), .string s] w fun e w' => e = .returned (.tuple #[if fl = true then .pointer (some ⟨qb, 0, none⟩) else .pointer none, .int .i64 (if fl = true then num else 0), .int .i64 (if fl = true then 0 else 8)]) ∧ Tch [] w w' := by
  have HI : Hid (FindI st s c num rcv (.pointer (some ⟨qb, 0, none⟩)) w) := h
  have HF : Hid (∀ W, Tch [] w W → Calls Tryz.prog 252 #[.pointer (some ⟨qb, 0, none⟩), .agg #[.int .u8 c, .int .i64 num, .int .i64 rcv]] W fun e w' => e = .returned (.bool fl) ∧ Tch [] W w') := hF
  clear h hF
  go_enter Tryz.func194, Tryz.ntmps194
  go_wp2_with fail
  refine HI.out.rd.mono ?_
  rintro e w1 ⟨rfl, ht1⟩
  obtain ⟨w2, hw2⟩ : ∃ w2, w2 = w1.alloc (.cells #[.int .u8 c, .int .i64 num, .int .i64 rcv] 237) := ⟨_, rfl⟩
  have HT : Hid (Tch [] w w2) := by rw [hw2]; exact ht1.alloc _
  have hr : w2.heap[w1.heap.size]? = some (.cells #[.int .u8 c, .int .i64 num, .int .i64 rcv] 237 (0, 0)) := by rw [hw2]; exact heap_alloc_new _ _
  have r0 : w2.cell? ⟨w1.heap.size, 0, none⟩ = some (.int .u8 c) := cell_qC hr 0 _ rfl
  have r1 : w2.cell? ⟨w1.heap.size, 1, none⟩ = some (.int .i64 num) := cell_qC hr 1 _ rfl
  have r2 : w2.cell? ⟨w1.heap.size, 2, none⟩ = some (.int .i64 rcv) := cell_qC hr 2 _ rfl
  have l2 := lt_of_block hr
  have HF2 : Hid (Calls Tryz.prog 252 #[.pointer (some ⟨qb, 0, none⟩), .agg #[.int .u8 c, .int .i64 num, .int .i64 rcv]] w2 fun e w' => e = .returned (.bool fl) ∧ Tch [] w2 w') := HF.out w2 HT.out
  clear ht1 hr HF
  go_upto_region 2 with fail
  rw [← hw2]
  clear hw2
  go_wp2_with fail
  refine (HI.out.atq _ HT.out).mono ?_
  rintro e w' ⟨rfl, h'⟩
  have h'' := h'.symm
  subst h''
  go_wp2_with fail
  refine HF2.out.mono ?_
  rintro e w3 ⟨rfl, ht3⟩
  have HT3 : Hid (Tch [] w w3) := HT.out.trans ht3 (by simp)
  have q1 : w3.cell? ⟨w1.heap.size, 1, none⟩ = some (.int .i64 num) := by rw [ht3.cell (a := ⟨w1.heap.size, 1, none⟩) l2 (by simp)]; exact r1
  have l3 : w1.heap.size < w3.heap.size := by have := ht3.size; omega
  clear ht3 HF2 r0 r1 r2
  cases fl with
  | true =>
    go_wp2_with fail
    go_quiet (fail)
    go_wp2_with fail
    go_ret3
    exact ⟨rfl, HT3.out.drewN _⟩
  | false =>
    go_wp2_with fail
    go_ret3
    exact ⟨rfl, HT3.out⟩
theorem mkf (fn : Fn) (first cap : Array Value) (w : World) : (Instr.makeFunc fn first cap).run Tryz.prog w = .ok (.func fn first cap) w := rfl
set_option maxRecDepth 8000 in
set_option maxHeartbeats 2000000 in
theorem ack_no (er : Int) (her : er = 7 ∨ er = 8) (r : Wp.Rq) (y : Sl) (st : Nat) (w : World)
    (hF : ∀ W, Tch [] w W → Calls Tryz.prog 194 #[.pointer (some ⟨st, 0, none⟩), .string r.han] W fun e w' => e = .returned (.tuple #[.pointer none, .int .i64 0, .int .i64 er]) ∧ Tch [] W w') :
    Calls Tryz.prog 157 #[.pointer (some ⟨st, 0, none⟩), .agg (cellsOf r y.v)] w fun e w' => e = .returned (.tuple #[.slice none 0 0, .nilFunc, .int .i64 er]) ∧ Tch [] w w' := by
  have HF : Hid (∀ W, Tch [] w W → Calls Tryz.prog 194 #[.pointer (some ⟨st, 0, none⟩), .string r.han] W fun e w' => e = .returned (.tuple #[.pointer none, .int .i64 0, .int .i64 er]) ∧ Tch [] W w') := hF
  have hne : (er != 0) = true := by rcases her with rfl | rfl <;> rfl
  clear hF
  rw [show cellsOf r y.v = #[.int .u8 (r.op.toNat : Int), .int .u8 (r.q.toNat : Int), .int .u8 (r.d.toNat : Int), .int .i64 r.vis, .int .i64 r.win, .int .i64 r.rcv, .int .i64 r.quo, .int .i64 r.mx, .int .i64 r.tic, .string r.grp, .string r.ded, .string r.bod, .string r.att, .string r.han, .slice y.a y.n y.c] from rfl]
  go_enter Tryz.func157, Tryz.ntmps157
  go_wp2_with fail
  refine (HF.out _ ((Tch.refl _ _).alloc _)).mono ?_
  rintro e w1 ⟨rfl, ht1⟩
  have HT : Hid (Tch [] w w1) := ((Tch.refl [] w).alloc _).trans ht1 (by simp)
  clear ht1 HF
  go_wp2_with fail
  go_ret3
  exact ⟨rfl, (HT.out.alloc _).alloc _⟩
set_option maxRecDepth 8000 in
set_option maxHeartbeats 2000000 in
theorem ack_ok (num : Int) (qb : Nat) (r : Wp.Rq) (y : Sl) (st : Nat) (w : World)
    (hF : ∀ W, Tch [] w W → Calls Tryz.prog 194 #[.pointer (some ⟨st, 0, none⟩), .string r.han] W fun e w' => e = .returned (.tuple #[.pointer (some ⟨qb, 0, none⟩), .int .i64 num, .int .i64 0]) ∧ Tch [] W w') :
    Calls Tryz.prog 157 #[.pointer (some ⟨st, 0, none⟩), .agg (cellsOf r y.v)] w fun e w' => ∃ gq gn, e = .returned (.tuple #[.slice none 0 0, .func (.func 195) #[] #[.pointer (some ⟨gq, 0, none⟩), .pointer (some ⟨gn, 0, none⟩)], .int .i64 0]) ∧ Tch [] w w' ∧ w'.heap[gq]? = some (.cells #[.pointer (some ⟨qb, 0, none⟩)] 152 (0, 0)) ∧ w'.heap[gn]? = some (.cells #[.int .i64 num] 3 (0, 0)) := by
  have hmf := mkf
  have HF : Hid (∀ W, Tch [] w W → Calls Tryz.prog 194 #[.pointer (some ⟨st, 0, none⟩), .string r.han] W fun e w' => e = .returned (.tuple #[.pointer (some ⟨qb, 0, none⟩), .int .i64 num, .int .i64 0]) ∧ Tch [] W w') := hF
  clear hF
  rw [show cellsOf r y.v = #[.int .u8 (r.op.toNat : Int), .int .u8 (r.q.toNat : Int), .int .u8 (r.d.toNat : Int), .int .i64 r.vis, .int .i64 r.win, .int .i64 r.rcv, .int .i64 r.quo, .int .i64 r.mx, .int .i64 r.tic, .string r.grp, .string r.ded, .string r.bod, .string r.att, .string r.han, .slice y.a y.n y.c] from rfl]
  go_enter Tryz.func157, Tryz.ntmps157
  go_wp2_with fail
  refine (HF.out _ ((Tch.refl _ _).alloc _)).mono ?_
  rintro e w1 ⟨rfl, ht1⟩
  have HT : Hid (Tch [] w w1) := ((Tch.refl [] w).alloc _).trans ht1 (by simp)
  clear ht1 HF
  go_wp2_with fail
  go_ret3
  exact ⟨w1.heap.size, w1.heap.size + 1, rfl, (HT.out.alloc _).alloc _, heap_alloc2_old _ _ _, heap_alloc2_new _ _ _⟩
set_option maxRecDepth 8000 in
set_option maxHeartbeats 2000000 in
theorem ackd_walk (K : World → Prop) (num : Int) (qb gq gn : Nat) (w : World) (hq : w.heap[gq]? = some (.cells #[.pointer (some ⟨qb, 0, none⟩)] 152 (0, 0))) (hn : w.heap[gn]? = some (.cells #[.int .i64 num] 3 (0, 0)))
    (hD : Calls Tryz.prog 196 #[.pointer (some ⟨qb, 0, none⟩), .int .i64 num] w fun e w' => e = .returned (.tuple #[]) ∧ K w') :
    Calls Tryz.prog 195 #[.pointer (some ⟨gq, 0, none⟩), .pointer (some ⟨gn, 0, none⟩)] w fun e w' => e = .returned (.tuple #[]) ∧ K w' := by
  have c0 := cell_of_one hq
  have c1 := cell_of_one hn
  have l0 := lt_of_block hq
  have l1 := lt_of_block hn
  have HD : Hid (Calls Tryz.prog 196 #[.pointer (some ⟨qb, 0, none⟩), .int .i64 num] w fun e w' => e = .returned (.tuple #[]) ∧ K w') := hD
  clear hD hq hn
  go_enter Tryz.func195, Tryz.ntmps195
  go_wp2_with fail
  refine HD.out.mono ?_
  rintro e w1 ⟨rfl, hk⟩
  have HK : Hid (K w1) := hk
  clear hk
  go_wp2_with fail
  go_end0
  exact ⟨rfl, HK.out⟩
structure Bk (B : Nat) (w : World) (x st b : Nat) (now : Int) (c : Nat → Option QM) (col : Nat → Nat) : Prop where
  sg : ∃ Z, SG B w st b now Z col ∧ ctZ Z = c
  wf : WFc c
  nw : 0 ≤ now ∧ now ≤ 60000
  jg : ∃ o room, Jg B w x st o room
theorem Bk.tch {B : Nat} {w w' : World} {x st b : Nat} {now : Int} {c : Nat → Option QM} {col : Nat → Nat} (h : Bk B w x st b now c col) (ht : Tch [] w w') : Bk B w' x st b now c col := by
  obtain ⟨⟨Z, h1, h2⟩, h3, h4, o, room, h5⟩ := h
  exact ⟨⟨Z, h1.tch ht, h2⟩, h3, h4, o, room, h5.tch ht⟩
def Did (B x st b : Nat) (w : World) (col : Nat → Nat) (now : Int) (c : Nat → Option QM) (w' : World) : Prop := ∃ col', Bk B w' x st b now c col' ∧ Agr w col col' ∧ FqT TA B col w w'
theorem did_same {B x st b : Nat} {w w' : World} {col : Nat → Nat} {now : Int} {c : Nat → Option QM} (h : Bk B w x st b now c col) (hB : B ≤ w.heap.size) (ht : Tch [] w w') : Did B x st b w col now c w' := ⟨col, h.tch ht, Agr.refl _ _, FqT.of_nil col ht hB⟩
theorem Jg.fq {B : Nat} {w w' : World} {x st : Nat} {o : Option ByteArray} {room : Int} {c : Nat → Nat} (h : Jg B w x st o room) (ht : Fq B c w w') : Jg B w' x st o room := by
  obtain ⟨j, d, v, n, k, h⟩ := h
  exact ⟨j, d, v, n, k, ht.keep _ _ _ h.hx (by decide), ⟨ht.keep _ _ _ h.jr.hj (by decide), ⟨ht.keep _ _ _ h.jr.dsk.blk (by decide), ht.own h.jr.dsk.own (by decide), h.jr.dsk.sep⟩, h.jr.gd⟩, h.lo, h.bd⟩
theorem fr_fq {B : Nat} {w w2 w3 : World} (col : Nat → Nat) (h2 : Tch [] w w2) (h3 : Fr B TJ w2 w3) (hB : B ≤ w.heap.size) : FqT TA B col w w3 := (FqT.of_nil col h2 hB).trans (Agr.refl _ _) (FqT.of_fr h3 (by decide))
theorem did_of {B x st b : Nat} {w w2 w3 w' : World} {col : Nat → Nat} {now now' : Int} {Z Z' : Nat → Option BQ} {col' : Nat → Nat} {o : Option ByteArray} {room : Int} {c' : Nat → Option QM} (hB : B ≤ w.heap.size) (h2 : Tch [] w w2) (h3 : Fr B TJ w2 w3) (hJ : Jg B w3 x st o room)
    (hs : SG B w' st b now' Z' col') (hc : ctZ Z' = c') (hW : WFc c') (hn : 0 ≤ now' ∧ now' ≤ 60000) (ha : Agr w3 col col') (hf : Fq B col w3 w') : Did B x st b w col now' c' w' := by
  have hsz := h2.size
  have hsz3 := h3.size
  exact ⟨col', ⟨⟨Z', hs, hc⟩, hW, hn, o, room, hJ.fq hf⟩, fun k hk => ha k (by omega), (fr_fq col h2 h3 hB).trans (Agr.refl _ _) (hf.mono ts_ta)⟩
theorem did_n {B x st b : Nat} {w w2 w3 w' : World} {col : Nat → Nat} {now : Int} {Z : Nat → Option BQ} {o : Option ByteArray} {room : Int} {c' : Nat → Option QM} (hB : B ≤ w.heap.size) (h2 : Tch [] w w2) (h3 : Fr B TJ w2 w3) (hJ : Jg B w3 x st o room) (hn : SGn B st b now w3 w' Z col c') (hW : WFc c') (ht : 0 ≤ now ∧ now ≤ 60000) : Did B x st b w col now c' w' := by
  obtain ⟨Z', col', k1, k2, k3, k4, k5, k6, k7⟩ := hn
  exact did_of (now := now) (Z := Z) hB h2 h3 hJ k1 k2 hW ht k4 k5
theorem SG.lay {B : Nat} {w w2 w3 : World} {st b : Nat} {now : Int} {Z : Nat → Option BQ} {col : Nat → Nat} (h : SG B w st b now Z col) (h2 : Tch [] w w2) (h3 : Fr B TJ w2 w3) : SG B w3 st b now Z col := (h.tch h2).fr h3 (by decide) (by decide) (by decide)
theorem ask_g (K : ByteArray → World → Prop) (B : Nat) (r : Wp.Rq) (x st b : Nat) (now : Int) (c : Nat → Option QM) (col : Nat → Nat) (w : World) (hE : Env B w) (hb : Bk B w x st b now c col) (hw : Wf r) (hright : rightW r nil0 (Wp.short []) = true) (hsm : (printS r nil0 []).size ≤ 90000)
    (hP : ∀ Z o room, SG B w st b now Z col → ctZ Z = c → ∀ (W : World) (y : Sl), Tch [] w W → Calls Tryz.prog 62 #[.pointer (some ⟨st, 0, none⟩), .agg (cellsOf r y.v)] W fun e w' => Tch [] W w' ∧ PlG B (fun w => Jg B w x st o room) K e w') :
    Calls Tryz.prog 18 #[.pointer (some ⟨x, 0, none⟩), .agg (cellsOf r nil0.v)] w fun e w' => ∃ t, e = .returned (.string t) ∧ K t w' := by
  obtain ⟨⟨Z, hs, hc⟩, hwf, hnw, o, room, hJ⟩ := hb
  refine asked_walk K B r x w hright hE.lays hE.size ?_
  intro W hbW
  obtain ⟨hg, hr, _⟩ := print_good r nil0 [] hw rfl hright
  have tb := Tch.of_below hbW
  have hsW := hs.tch tb
  have hEW := hE.tch tb (by simp)
  have hOk : ∀ i x, i < 8 → Z i = some x → QOk x.Q := fun i x hi hx => (hwf i x.Q hi (by rw [← hc]; exact ctZ_some hx)).ok
  refine bdo_g K B o room ⟨(wholeB now Z).toArray⟩ (printS r nil0 []) r x st _ W hsm hEW.lays hEW.tab hEW.size hEW.three hg hr (hJ.tch tb) (by rw [rec_sz]; have := wholeB_len (now := now) hOk; omega) hsW.stb (fun W1 hf1 => ?_) ?_
  · exact whole_any B st b now Z col W1 (hsW.fr hf1 (by decide) (by decide) (by decide)) ⟨hnw.1, by have := hnw.2; omega⟩ hOk
  · intro W1 y ht1
    exact hP Z _ _ hs hc W1 y (tb.trans ht1 (by simp))
theorem eg159 : ∀ args w, (callFunc 159 args).run Tryz.prog w = .ok (.enter 159 args) w := enters_of Tryz.func159 (by kernel_rfl) rfl
theorem eg165 : ∀ args w, (callFunc 165 args).run Tryz.prog w = .ok (.enter 165 args) w := enters_of Tryz.func165 (by kernel_rfl) rfl
theorem eg157 : ∀ args w, (callFunc 157 args).run Tryz.prog w = .ok (.enter 157 args) w := enters_of Tryz.func157 (by kernel_rfl) rfl
theorem eg207 : ∀ args w, (callFunc 207 args).run Tryz.prog w = .ok (.enter 207 args) w := enters_of Tryz.func207 (by kernel_rfl) rfl
theorem eg163 : ∀ args w, (callFunc 163 args).run Tryz.prog w = .ok (.enter 163 args) w := enters_of Tryz.func163 (by kernel_rfl) rfl
theorem eg164 : ∀ args w, (callFunc 164 args).run Tryz.prog w = .ok (.enter 164 args) w := enters_of Tryz.func164 (by kernel_rfl) rfl
theorem eg201 : ∀ args w, (callFunc 201 args).run Tryz.prog w = .ok (.enter 201 args) w := enters_of Tryz.func201 (by kernel_rfl) rfl
theorem eg220 : ∀ args w, (callFunc 220 args).run Tryz.prog w = .ok (.enter 220 args) w := enters_of Tryz.func220 (by kernel_rfl) rfl
theorem eg195 : ∀ args w, (callFunc 195 args).run Tryz.prog w = .ok (.enter 195 args) w := enters_of Tryz.func195 (by kernel_rfl) rfl
def newM (r : Wp.Rq) : QM := ⟨r, 1, [], [], [], []⟩
def nilV : QV := ⟨.slice none 0 0, .slice none 0 0, .slice none 0 0, .slice none 0 0⟩
theorem newM_wf {i : Nat} {r : Wp.Rq} (h : CfW i r) : QW i (newM r) :=
  { c := h, nx := ⟨by show 1 ≤ 1; omega, by show 1 ≤ 201; omega⟩, mq := by show ((0 : Nat) : Int) ≤ r.quo; have := h.quo.1; omega, nums := List.Pairwise.nil, mok := fun m hm => by simp [newM] at hm, hd := fun m hm => by simp [newM] at hm, rn := List.nodup_nil, rr := fun g => by simp [newM], dn := List.Pairwise.nil, dok := fun m hm => by simp [newM] at hm, al := by simp [newM], aok := fun m hm => by simp [newM] at hm }
theorem SG.crt {B : Nat} {w w' : World} {st b i : Nat} {now : Int} {Z : Nat → Option BQ} {col : Nat → Nat} (h : SG B w st b now Z col) (hB : B ≤ w.heap.size) (hi : i < 8) (r : Wp.Rq) (ht : Tch [st] w w') (hz : w'.heap.size = w.heap.size + 2) (hs : Stb w' st b now (updP (fun i => ptrV (ptZ Z i)) i (.pointer (some ⟨w.heap.size + 1, 0, none⟩))))
    (hq : w'.heap[w.heap.size + 1]? = some (.cells (qC r 1 (.slice none 0 0) (.slice none 0 0) (.slice none 0 0) (.slice none 0 0)) 191 (0, 0))) :
    ∃ col', SG B w' st b now (updZ Z i (some ⟨w.heap.size + 1, nilV, newM r⟩)) col' ∧ Agr w col col' ∧ Fq B col w w' := by
  have hst0 : w.heap[st]? = _ := h.stb
  have hns : ∀ {k : Nat} {C : Array Value} {t : TypeId}, w.heap[k]? = some (.cells C t (0, 0)) → t ≠ 156 → k ∉ [st] := fun {k C t} hk hne hm => by
    simp at hm
    subst hm
    rw [hst0] at hk
    simp at hk
    exact hne hk.2.symm
  have hbl : qbl (w.heap.size + 1) nilV = [w.heap.size + 1] := rfl
  refine ⟨fun k => if k < w.heap.size then col k else i, ⟨?_, ?_, ?_, ?_, ?_, h.ls⟩, fun k hk => by simp [hk], ?_⟩
  · have e : (fun j => ptrV (ptZ (updZ Z i (some ⟨w.heap.size + 1, nilV, newM r⟩)) j)) = updP (fun i => ptrV (ptZ Z i)) i (.pointer (some ⟨w.heap.size + 1, 0, none⟩)) := by
      funext j
      unfold updP ptZ updZ
      by_cases e : j = i
      · simp [e, ptrV]
      · simp [e]
    rw [e]
    exact hs
  · exact fun q f hq => (ht.block _ (lt_of_block (h.tb q f hq)) (hns (h.tb q f hq) (by decide))).trans (h.tb q f hq)
  · intro q z hq' hz'
    by_cases e : q = i
    · subst e
      rw [updZ_same] at hz'
      injection hz' with hz'
      subst hz'
      exact ⟨hq, World.ownsRow_nil _ _ _ _, World.ownsRow_nil _ _ _ _, World.ownsRow_nil _ _ _ _, World.ownsRow_nil _ _ _ _⟩
    · rw [updZ_ne _ _ e] at hz'
      exact (h.qr q z hq' hz').tch ht (fun k hk hm => by
        simp at hm
        subst hm
        exact (h.qr q z hq' hz').nty h.stb (by decide) hk)
  · intro q z hq' hz' k hk
    by_cases e : q = i
    · subst e
      rw [updZ_same] at hz'
      injection hz' with hz'
      subst hz'
      rw [hbl] at hk
      simp at hk
      subst hk
      exact if_neg (by omega)
    · rw [updZ_ne _ _ e] at hz'
      simp [(h.qr q z hq' hz').lt k hk, h.cl q z hq' hz' k hk]
  · intro q z hq' hz' k hk
    by_cases e : q = i
    · subst e
      rw [updZ_same] at hz'
      injection hz' with hz'
      subst hz'
      rw [hbl] at hk
      simp at hk
      omega
    · rw [updZ_ne _ _ e] at hz'
      exact h.lo q z hq' hz' k hk
  · refine FqT.of_tch ht hB (fun k hk => ?_) (fun k hk C t hC => ?_)
    · simp at hk
      subst hk
      exact h.ls
    · simp at hk
      subst hk
      rw [hst0] at hC
      simp at hC
      rw [← hC.2]
      exact ⟨by decide, fun e => absurd e (by decide)⟩
theorem pt_of {Z : Nat → Option BQ} {c : Nat → Option QM} (hc : ctZ Z = c) {i : Nat} (h : c i = none) : Z i = none := ctZ_none (by rw [hc]; exact h)
theorem op_C (B : Nat) (r : Wp.Rq) (x st b i : Nat) (now : Int) (c : Nat → Option QM) (col : Nat → Nat) (w : World) (hE : Env B w) (hb : Bk B w x st b now c col) (hop : r.op = 67) (hi : i < 8) (hq : r.q.toNat = 97 + i) (hcf : CfW i r) (hno : c i = none) (Z : Nat → Option BQ) (o : Option ByteArray) (room : Int) (hs : SG B w st b now Z col) (hc : ctZ Z = c) (W : World) (y : Sl) (ht : Tch [] w W) :
    Calls Tryz.prog 62 #[.pointer (some ⟨st, 0, none⟩), .agg (cellsOf r y.v)] W fun e w' => Tch [] W w' ∧ PlG B (fun w => Jg B w x st o room) (fun t w' => t = okL [] ∧ Did B x st b w col now (setC c i (some (newM r))) w') e w' := by
  refine plan_p B _ _ r y st b 2 159 now _ W (by rw [hop]; rfl) (by decide) (hs.tch ht).stb rfl eg159 ?_
  intro W1 ht1
  have tW := ht.trans ht1 (by simp)
  have hz : Z i = none := pt_of hc hno
  refine (crt_ok r y st W1 (fun W2 ht2 => ?_)).mono ?_
  · have h1 := at_g st b i now _ W2 (hs.tch (tW.trans ht2 (by simp))).stb hi
    have e : ((r.q.toNat : Nat) : Int) = 97 + (i : Int) := by rw [hq]; omega
    rw [e]
    have e2 : ptrV (ptZ Z i) = .pointer none := by unfold ptZ; rw [hz]; rfl
    rw [e2] at h1
    exact h1
  · rintro e w1 ⟨gr, gs, rfl, ht2, hgr, hgs⟩
    refine ⟨ht2, .inr ⟨_, _, [], rfl, .inl ⟨rfl, rfl⟩, fun w2 ht3 => .inr ⟨201, _, rfl, eg201, fun w3 w4 ht4 hf4 hJ4 => ?_⟩⟩⟩
    have t23 : Tch [] w1 w3 := ht3.trans ht4 (by simp)
    have t3 : Tch [] w w3 := (tW.trans ht2 (by simp)).trans t23 (by simp)
    have hs4 := hs.lay t3 hf4
    have hz3 := t3.size
    have hz4 := hf4.size
    have kgr := hf4.keep _ _ _ ((t23.block _ (lt_of_block hgr) (by simp)).trans hgr) (by decide)
    have kgs := hf4.keep _ _ _ ((t23.block _ (lt_of_block hgs) (by simp)).trans hgs) (by decide)
    refine (made_sg r y gr gs st b i now _ w4 hq hi hs4.stb kgr kgs).mono ?_
    rintro e w5 ⟨rfl, k1, k2, k3, k4⟩
    obtain ⟨col', j1, j2, j3⟩ := hs4.crt (by have := hE.size; omega) hi r k1 k2 k3 k4
    refine ⟨rfl, rfl, did_of (now := now) (Z := Z) hE.size t3 hf4 hJ4 j1 ?_ (hb.wf.set (newM_wf hcf)) hb.nw j2 j3⟩
    rw [ctZ_upd, hc]
    rfl
theorem op_T (B : Nat) (r : Wp.Rq) (x st b : Nat) (now : Int) (c : Nat → Option QM) (col : Nat → Nat) (w : World) (hE : Env B w) (hb : Bk B w x st b now c col) (hop : r.op = 84) (hn : 0 ≤ r.tic ∧ now + r.tic ≤ 60000) (Z : Nat → Option BQ) (o : Option ByteArray) (room : Int) (hs : SG B w st b now Z col) (hc : ctZ Z = c) (W : World) (y : Sl) (ht : Tch [] w W) :
    Calls Tryz.prog 62 #[.pointer (some ⟨st, 0, none⟩), .agg (cellsOf r y.v)] W fun e w' => Tch [] W w' ∧ PlG B (fun w => Jg B w x st o room) (fun t w' => t = okL [] ∧ Did B x st b w col (now + r.tic) (timeC (now + r.tic) c) w') e w' := by
  refine plan_p B _ _ r y st b 19 165 now _ W (by rw [hop]; rfl) (by decide) (hs.tch ht).stb rfl eg165 ?_
  intro W1 ht1
  have tW := ht.trans ht1 (by simp)
  have hnw := hb.nw
  refine (goOn_c r y st now W1 (hs.tch tW).stb.now ⟨hnw.1, hn.1, hn.2⟩).mono ?_
  rintro e w1 ⟨gs, gl, rfl, ht2, hgs, hgl⟩
  refine ⟨ht2, .inr ⟨_, _, [], rfl, .inl ⟨rfl, rfl⟩, fun w2 ht3 => .inr ⟨220, _, rfl, eg220, fun w3 w4 ht4 hf4 hJ4 => ?_⟩⟩⟩
  have t23 : Tch [] w1 w3 := ht3.trans ht4 (by simp)
  have t3 : Tch [] w w3 := (tW.trans ht2 (by simp)).trans t23 (by simp)
  have hs4 := hs.lay t3 hf4
  have hz3 := t3.size
  have hz4 := hf4.size
  have kgs := hf4.keep _ _ _ ((t23.block _ (lt_of_block hgs) (by simp)).trans hgs) (by decide)
  have kgl := hf4.keep _ _ _ ((t23.block _ (lt_of_block hgl) (by simp)).trans hgl) (by decide)
  refine went_walk _ gs gl st (now + r.tic) w4 kgs kgl ((set_sg B st b now (now + r.tic) Z col w4 hs4 (by have := hE.size; omega) (by rw [hc]; exact hb.wf)).mono ?_)
  rintro e w5 ⟨rfl, Z', col', k1, k2, k3, k4, k5, k6⟩
  refine ⟨rfl, rfl, ?_⟩
  rw [hc] at k2
  rw [k2] at k3
  exact did_of (now := now) (Z := Z) hE.size t3 hf4 hJ4 k1 k2 k3 ⟨by omega, hn.2⟩ k5 k6
def purgQ (Q : QM) : QM := { Q with ms := [], rs := [], ats := [] }
end Go.Proofs.YtbdobaapadlcjaaGreatDoor
