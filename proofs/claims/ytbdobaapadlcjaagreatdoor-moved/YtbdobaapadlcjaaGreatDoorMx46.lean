/-
  create (159) at any letter. goOn (165) at any time. A HANDLE IS READ: isQueue (236), Number of four bytes (84), ReadHandle (188).
-/
import Derived.Test.YtbdobaapadlcjaaGreatDoorMx37
import Derived.Test.YtbdobaapadlcjaaGreatDoorMx08
import Derived.Test.YtbdobaapadlcjaaGreatDoorMx13
import Derived.BigQuiet
namespace Go.Proofs.YtbdobaapadlcjaaGreatDoor
open Go.RowKit
set_option linter.unusedVariables false
set_option linter.unusedSimpArgs false

set_option maxRecDepth 8000 in
set_option maxHeartbeats 2000000 in
theorem crt_ok (r : Wp.Rq) (y : Sl) (st : Nat) (w : World)
    (hA : ∀ W, Tch [] w W → Calls Tryz.prog 200 #[.pointer (some ⟨st, 0, none⟩), .int .u8 (r.q.toNat : Int)] W fun e w' => e = .returned (.pointer none) ∧ w' = W) :
    Calls Tryz.prog 159 #[.pointer (some ⟨st, 0, none⟩), .agg (cellsOf r y.v)] w fun e w' => ∃ gr gs, e = .returned (.tuple #[.slice none 0 0, .func (.func 201) #[] #[.pointer (some ⟨gr, 0, none⟩), .pointer (some ⟨gs, 0, none⟩)], .int .i64 0]) ∧ Tch [] w w' ∧ w'.heap[gr]? = some (.cells #[.int .u8 (r.op.toNat : Int), .int .u8 (r.q.toNat : Int), .int .u8 (r.d.toNat : Int), .int .i64 r.vis, .int .i64 r.win, .int .i64 r.rcv, .int .i64 r.quo, .int .i64 r.mx, .int .i64 r.tic, .string r.grp, .string r.ded, .string r.bod, .string r.att, .string r.han, .slice y.a y.n y.c] 27 (0, 0)) ∧ w'.heap[gs]? = some (.cells #[.pointer (some ⟨st, 0, none⟩)] 96 (0, 0)) := by
  have hmf : ∀ (fn : Fn) (first cap : Array Value) (w : World), (Instr.makeFunc fn first cap).run Tryz.prog w = .ok (.func fn first cap) w := fun _ _ _ _ => rfl
  rw [show cellsOf r y.v = #[.int .u8 (r.op.toNat : Int), .int .u8 (r.q.toNat : Int), .int .u8 (r.d.toNat : Int), .int .i64 r.vis, .int .i64 r.win, .int .i64 r.rcv, .int .i64 r.quo, .int .i64 r.mx, .int .i64 r.tic, .string r.grp, .string r.ded, .string r.bod, .string r.att, .string r.han, .slice y.a y.n y.c] from rfl]
  have HT : Hid (Tch [] w ((w.alloc (.cells #[.pointer (some ⟨st, 0, none⟩)] 96)).alloc (.cells #[.int .u8 (r.op.toNat : Int), .int .u8 (r.q.toNat : Int), .int .u8 (r.d.toNat : Int), .int .i64 r.vis, .int .i64 r.win, .int .i64 r.rcv, .int .i64 r.quo, .int .i64 r.mx, .int .i64 r.tic, .string r.grp, .string r.ded, .string r.bod, .string r.att, .string r.han, .slice y.a y.n y.c] 27))) := ((Tch.refl _ _).alloc _).alloc _
  have HA : Hid (Calls Tryz.prog 200 #[.pointer (some ⟨st, 0, none⟩), .int .u8 (r.q.toNat : Int)] ((w.alloc (.cells #[.pointer (some ⟨st, 0, none⟩)] 96)).alloc (.cells #[.int .u8 (r.op.toNat : Int), .int .u8 (r.q.toNat : Int), .int .u8 (r.d.toNat : Int), .int .i64 r.vis, .int .i64 r.win, .int .i64 r.rcv, .int .i64 r.quo, .int .i64 r.mx, .int .i64 r.tic, .string r.grp, .string r.ded, .string r.bod, .string r.att, .string r.han, .slice y.a y.n y.c] 27)) _) := hA _ HT.out
  clear hA
  go_enter Tryz.func159, Tryz.ntmps159
  go_wp2_with fail
  refine HA.out.mono ?_
  rintro e w' ⟨rfl, h'⟩
  have h'' := h'.symm
  subst h''
  go_wp2_with fail
  go_ret3
  exact ⟨w.heap.size + 1, w.heap.size, rfl, HT.out, heap_alloc2_new _ _ _, heap_alloc2_old _ _ _⟩
end Go.Proofs.YtbdobaapadlcjaaGreatDoor

namespace Go.Proofs.YtbdobaapadlcjaaGreatDoor
open Go.RowKit
set_option linter.unusedVariables false
set_option linter.unusedSimpArgs false

set_option maxRecDepth 8000 in
set_option maxHeartbeats 2000000 in
theorem goOn_c (r : Wp.Rq) (y : Sl) (st : Nat) (now : Int) (w : World) (c0 : w.cell? ⟨st, 0, none⟩ = some (.int .i64 now)) (hn : 0 ≤ now ∧ 0 ≤ r.tic ∧ now + r.tic ≤ 60000) :
    Calls Tryz.prog 165 #[.pointer (some ⟨st, 0, none⟩), .agg (cellsOf r y.v)] w fun e w' => ∃ gs gl, e = .returned (.tuple #[.slice none 0 0, .func (.func 220) #[] #[.pointer (some ⟨gs, 0, none⟩), .pointer (some ⟨gl, 0, none⟩)], .int .i64 0]) ∧ Tch [] w w' ∧
      w'.heap[gs]? = some (.cells #[.pointer (some ⟨st, 0, none⟩)] 96 (0, 0)) ∧ w'.heap[gl]? = some (.cells #[.int .i64 (now + r.tic)] 3 (0, 0)) := by
  have hmf : ∀ (fn : Fn) (first cap : Array Value) (w : World), (Instr.makeFunc fn first cap).run Tryz.prog w = .ok (.func fn first cap) w := fun _ _ _ _ => rfl
  have hlt := World.block_lt_of_cell? _ _ c0
  have hwr : IntKind.i64.wrap (now + r.tic) = now + r.tic := by rw [IntKind.wrap_i64]; omega
  have hle : ¬ (60000 : Int) < now + r.tic := by omega
  rw [show cellsOf r y.v = #[.int .u8 (r.op.toNat : Int), .int .u8 (r.q.toNat : Int), .int .u8 (r.d.toNat : Int), .int .i64 r.vis, .int .i64 r.win, .int .i64 r.rcv, .int .i64 r.quo, .int .i64 r.mx, .int .i64 r.tic, .string r.grp, .string r.ded, .string r.bod, .string r.att, .string r.han, .slice y.a y.n y.c] from rfl]
  go_enter Tryz.func165, Tryz.ntmps165
  go_wp2_with fail
  obtain ⟨wb, hwb⟩ : ∃ wb, wb = (w.alloc (.cells #[.pointer (some ⟨st, 0, none⟩)] 96)).alloc (.cells #[.int .u8 (r.op.toNat : Int), .int .u8 (r.q.toNat : Int), .int .u8 (r.d.toNat : Int), .int .i64 r.vis, .int .i64 r.win, .int .i64 r.rcv, .int .i64 r.quo, .int .i64 r.mx, .int .i64 r.tic, .string r.grp, .string r.ded, .string r.bod, .string r.att, .string r.han, .slice y.a y.n y.c] 27) := ⟨_, rfl⟩
  rw [← hwb]
  have t1 : Tch [] w wb := by rw [hwb]; exact ((Tch.refl _ _).alloc _).alloc _
  have h1 : wb.heap[w.heap.size]? = some (.cells #[.pointer (some ⟨st, 0, none⟩)] 96 (0, 0)) := by rw [hwb]; exact heap_alloc2_old _ _ _
  have h2 : wb.heap[w.heap.size + 1]? = some (.cells #[.int .u8 (r.op.toNat : Int), .int .u8 (r.q.toNat : Int), .int .u8 (r.d.toNat : Int), .int .i64 r.vis, .int .i64 r.win, .int .i64 r.rcv, .int .i64 r.quo, .int .i64 r.mx, .int .i64 r.tic, .string r.grp, .string r.ded, .string r.bod, .string r.att, .string r.han, .slice y.a y.n y.c] 27 (0, 0)) := by rw [hwb]; exact heap_alloc2_new _ _ _
  have e1 := cell_of_one h1
  have e2 : wb.cell? ⟨w.heap.size + 1, 8, none⟩ = some (.int .i64 r.tic) := by simp [World.cell?, h2]
  have e3 : wb.cell? ⟨st, 0, none⟩ = some (.int .i64 now) := (t1.cell (a := ⟨st, 0, none⟩) hlt (by simp)).trans c0
  have l1 := lt_of_block h1
  have l2 := lt_of_block h2
  have l3 : st < wb.heap.size := Nat.lt_of_lt_of_le hlt t1.size
  have T1 : Hid (Tch [] w wb) := t1
  have H1 : Hid (wb.heap[w.heap.size]? = some (.cells #[.pointer (some ⟨st, 0, none⟩)] 96 (0, 0))) := h1
  clear hwb t1 h1 h2 c0
  go_region_held3 (fun w' => w'.cell? ⟨w.heap.size, 0, none⟩ = some (.pointer (some ⟨st, 0, none⟩)) ∧ w'.cell? ⟨w.heap.size + 1, 8, none⟩ = some (.int .i64 r.tic) ∧ w'.cell? ⟨st, 0, none⟩ = some (.int .i64 now)) (go_keep) (fail)
  go_wp2_with fail
  go_ret3
  refine ⟨w.heap.size, wb.heap.size, rfl, ?_, ?_, ?_⟩
  · exact (T1.out.alloc _).drew
  · exact (Below.heap_alloc _ _ _ l1).trans H1.out
  · exact heap_alloc_new wb _
end Go.Proofs.YtbdobaapadlcjaaGreatDoor

namespace Go.Proofs.YtbdobaapadlcjaaGreatDoor
open Go.RowKit
set_option linter.unusedVariables false
set_option linter.unusedSimpArgs false

theorem or_i64b (a b : Nat) (ha : a < 4294967296) (hb : b < 4294967296) : bits .or .i64 (a : Int) (b : Int) = ((a ||| b : Nat) : Int) := by
  have hx : a ||| b < 2 ^ 32 := Nat.or_lt_two_pow (by omega) (by omega)
  show IntKind.i64.wrap ((BitVec.ofInt 64 (a : Int) ||| BitVec.ofInt 64 (b : Int)).toNat : Int) = _
  rw [BitVec.toNat_or, ofInt_u64 a (by omega), ofInt_u64 b (by omega)]
  simp [IntKind.wrap, IntKind.bits, IntKind.signed]
  omega
theorem or_add (k a b : Nat) (ha : a < 2 ^ k) : a ||| b * 2 ^ k = a + 2 ^ k * b := by
  have h := Nat.two_pow_add_eq_or_of_lt (i := k) (b := a) ha b
  rw [Nat.or_comm, Nat.mul_comm b, ← h]
  omega
theorem or_four (a b c d : Nat) (ha : a < 256) (hb : b < 256) (hc : c < 256) (hd : d < 256) : bits .or .i64 (bits .or .i64 (bits .or .i64 (bits .or .i64 0 (a : Int)) ((b : Int) * 256)) ((c : Int) * 65536)) ((d : Int) * 16777216) = ((a + 256 * b + 65536 * c + 16777216 * d : Nat) : Int) := by
  have s1 : bits .or .i64 0 (a : Int) = (a : Int) := by
    have h := or_i64b 0 a (by omega) (by omega)
    rw [Nat.zero_or] at h
    exact h
  have x2 := or_add 8 a b ha
  have x3 := or_add 16 (a + 256 * b) c (by omega)
  have x4 := or_add 24 (a + 256 * b + 65536 * c) d (by omega)
  have s2 : bits .or .i64 (a : Int) ((b : Int) * 256) = ((a + 256 * b : Nat) : Int) := by
    rw [show ((b : Int) * 256) = ((b * 256 : Nat) : Int) by omega, or_i64b a (b * 256) (by omega) (by omega)]
    exact congrArg Nat.cast x2
  have s3 : bits .or .i64 ((a + 256 * b : Nat) : Int) ((c : Int) * 65536) = ((a + 256 * b + 65536 * c : Nat) : Int) := by
    rw [show ((c : Int) * 65536) = ((c * 65536 : Nat) : Int) by omega, or_i64b (a + 256 * b) (c * 65536) (by omega) (by omega)]
    exact congrArg Nat.cast x3
  have s4 : bits .or .i64 ((a + 256 * b + 65536 * c : Nat) : Int) ((d : Int) * 16777216) = ((a + 256 * b + 65536 * c + 16777216 * d : Nat) : Int) := by
    rw [show ((d : Int) * 16777216) = ((d * 16777216 : Nat) : Int) by omega, or_i64b (a + 256 * b + 65536 * c) (d * 16777216) (by omega) (by omega)]
    exact congrArg Nat.cast x4
  rw [s1, s2, s3, s4]
theorem list_four (T : ByteArray) (h : T.size = 4) : T.data.toList = [T[0], T[1], T[2], T[3]] := by
  have hl : T.data.toList.length = 4 := h
  match hm : T.data.toList, hl with
  | [x, y, z, u], _ =>
    have h0 : T[0] = T.data.toList[0]'(by rw [hm]; simp) := rfl
    have h1 : T[1] = T.data.toList[1]'(by rw [hm]; simp) := rfl
    have h2 : T[2] = T.data.toList[2]'(by rw [hm]; simp) := rfl
    have h3 : T[3] = T.data.toList[3]'(by rw [hm]; simp) := rfl
    rw [h0, h1, h2, h3]; simp [hm]

set_option maxHeartbeats 2000000 in
theorem number_four (b : Nat) (s : ByteArray) (f : Bool) (w : World) (hs : s.size ≤ maxLen) (h4 : 4 ≤ s.size) (hR : Rd w b s f) :
    Calls Tryz.prog 84 #[.pointer (some ⟨b, 0, none⟩), .int .i64 4] w fun e w' => e = .returned (.int .i64 (leN (tk s 4).data.toList : Nat)) ∧ Rd w' b (lf s 4) (bad s f 4) ∧ w.grownBy w' (some b) ∧ w'.heap.size = w.heap.size := by
  have htk := take_any b s f 4 w (by omega) hs hR
  have hsz : (tk s 4).size = 4 := by unfold tk; rw [if_pos h4]; simp; omega
  generalize tk s 4 = T at htk hsz
  generalize lf s 4 = S1 at htk
  generalize bad s f 4 = F1 at htk
  have HT : Hid (Calls Tryz.prog 117 #[.pointer (some ⟨b, 0, none⟩), .int .i64 4] w fun e w' => e = .returned (.string T) ∧ Rd w' b S1 F1 ∧ w.grownBy w' (some b) ∧ w'.heap.size = w.heap.size) := htk
  have b0 := T[0].toNat_lt
  have b1 := T[1].toNat_lt
  have b2 := T[2].toNat_lt
  have b3 := T[3].toNat_lt
  have hv : Hid (leN T.data.toList = T[0].toNat + 256 * T[1].toNat + 65536 * T[2].toNat + 16777216 * T[3].toNat) := by show _ = _; rw [list_four T hsz]; simp only [leN]; omega
  have HE : Hid (bits .or .i64 (bits .or .i64 (bits .or .i64 (bits .or .i64 0 (T[0].toNat : Int)) ((T[1].toNat : Int) * 256)) ((T[2].toNat : Int) * 65536)) ((T[3].toNat : Int) * 16777216) = ((T[0].toNat + 256 * T[1].toNat + 65536 * T[2].toNat + 16777216 * T[3].toNat : Nat) : Int)) := or_four _ _ _ _ b0 b1 b2 b3
  clear htk hR
  go_enter Tryz.func84, Tryz.ntmps84
  go_wp2_with fail
  refine (HT.out).mono ?_
  rintro e w1 ⟨rfl, h1, h2, h3⟩
  have H1 : Hid (Rd w1 b S1 F1 ∧ w.grownBy w1 (some b) ∧ w1.heap.size = w.heap.size) := ⟨h1, h2, h3⟩
  clear h1 h2 h3
  go_wp2
  refine wp_loop_rounds 5 ?_
  rw [rounds_succ]
  go_wp2
  rw [rounds_succ]
  go_wp2
  rw [rounds_succ]
  go_wp2
  rw [rounds_succ]
  go_wp2
  rw [rounds_succ]
  go_wp2
  go_ret
  exact ⟨ret_int (by rw [hv.out, HE.out]), H1.out⟩

/-- Is a byte a queue's letter? -/
def isLet (c : UInt8) : Bool := decide (97 ≤ c.toNat) && decide (c.toNat ≤ 104)
set_option maxHeartbeats 1000000 in
theorem isQueue_any (B : Nat) (c : UInt8) (w : World) (hL : Lays B w) (hB : B ≤ w.heap.size) : Calls Tryz.prog 236 #[.int .u8 (c.toNat : Int)] w fun e w' => e = .returned (.bool (isLet c)) ∧ Tch [] w w' := by
  have d0 : w.cell? ⟨1, 0, none⟩ = some (.int .i64 0) := hL.2.1 0 (by decide)
  have d1 : w.cell? ⟨1, 1, none⟩ = some (.int .i64 97) := hL.2.1 1 (by decide)
  have d2 : w.cell? ⟨1, 2, none⟩ = some (.int .i64 104) := hL.2.1 2 (by decide)
  have h1 : 1 < w.heap.size := by have := hL.1; omega
  have hc := c.toNat_lt
  have HL : Hid (isLet c = (decide (97 ≤ c.toNat) && decide (c.toNat ≤ 104))) := rfl
  generalize c.toNat = n at *
  clear hL
  go_enter Tryz.func236, Tryz.ntmps236
  by_cases ha : 97 ≤ n
  · go_wp2_with fail
    go_ret
    exact ⟨ret_bool (by rw [HL.out, decide_eq_true ha, Bool.true_and]; exact decide_eq_decide.2 (by omega)), (Tch.refl [] w).alloc _⟩
  · go_wp2_with fail
    go_ret
    exact ⟨ret_bool (by rw [HL.out, decide_eq_false (by omega), Bool.false_and]), (Tch.refl [] w).alloc _⟩
end Go.Proofs.YtbdobaapadlcjaaGreatDoor
