/-
  Receive (163), whatever the queue has: what was told is told again; nothing is ready.
  Receive (163): what was told is told again.
  Receive's closure (212): the heads are in flight.
  slices.Delete at the ready groups (214).
  remember (215).
  Receive's closure (212), whatever the queue has.
  slices.DeleteFunc at dedups and attempts, Forget (270), whatever the queue has.
  Due (297), bringBack (271) where nothing is due, whatever the queue has.
  within's closure (207) and state.Plan (62) at the Op R.
-/
import Derived.Test.YtbdobaapadlcjaaGreatDoorQm1
import Derived.Deep.DeepCutAuto
import Derived.Lib.ConvBytes
import Derived.Test.YtbdobaapadlcjaaGreatDoorTkG
import Derived.Shelf.Slices.Cells
import Derived.Test.YtbdobaapadlcjaaGreatDoorTkU
import Derived.Test.YtbdobaapadlcjaaGreatDoorTkS
import Derived.Test.YtbdobaapadlcjaaGreatDoorTkQ
namespace Go.Proofs.YtbdobaapadlcjaaGreatDoor
open Go.RowKit
set_option linter.unusedVariables false
set_option linter.unusedSimpArgs false

/-- The two boxes of Receive. -/
def rbox (w : World) (qb : Nat) (C : Array Value) : World := (w.alloc (.cells #[.pointer (some ⟨qb, 0, none⟩)] 152)).alloc (.cells C 27)
theorem rbox_tch (w : World) (qb : Nat) (C : Array Value) : Tch [] w (rbox w qb C) := ((Tch.refl _ _).alloc _).alloc _
theorem rbox_size (w : World) (qb : Nat) (C : Array Value) : (rbox w qb C).heap.size = w.heap.size + 2 := by simp [rbox]
theorem rbox_0 (w : World) (qb : Nat) (C : Array Value) : (rbox w qb C).heap[w.heap.size]? = some (.cells #[.pointer (some ⟨qb, 0, none⟩)] 152 (0, 0)) := by
  unfold rbox; rw [heap_alloc2_old]
theorem rbox_1 (w : World) (qb : Nat) (C : Array Value) : (rbox w qb C).heap[w.heap.size + 1]? = some (.cells C 27 (0, 0)) := by
  unfold rbox; rw [heap_alloc2_new]

/-- The cells of a list of n ints of which the first ones stand. -/
def intRow (l : List Int) (n : Nat) : Array Value := (l.map (Value.int .i64) ++ List.replicate (n - l.length) (Value.int .i64 0)).toArray
theorem intRow_size (l : List Int) (n : Nat) (h : l.length ≤ n) : (intRow l n).size = n := by simp [intRow]; omega
theorem intRow_set (l : List Int) (n : Nat) (x : Int) (h : l.length < n) : (intRow l n).setIfInBounds l.length (.int .i64 x) = intRow (l ++ [x]) n := by
  unfold intRow
  apply Array.toList_inj.1
  rw [Array.toList_setIfInBounds, List.toList_toArray, List.toList_toArray]
  obtain ⟨m, hm⟩ : ∃ m, n - l.length = m + 1 := ⟨n - l.length - 1, by omega⟩
  have hm' : n - (l ++ [x]).length = m := by rw [List.length_append, List.length_singleton]; omega
  rw [hm, hm', List.replicate_succ, List.set_append_right _ _ (by simp), List.map_append]
  simp
theorem intRow_get (l : List Int) (n j : Nat) (h : j < l.length) : (intRow l n)[j]? = some (.int .i64 l[j]) := by
  unfold intRow
  rw [List.getElem?_toArray, List.getElem?_append_left (by simpa using h)]
  simp [h]
theorem info3 : (Tryz.prog.info? 3).map (fun i => (i.zero, i.size, i.bytes)) = some (some (Value.int .i64 0), 1, 8) := by kernel_rfl
theorem make_ints (n : Nat) (hn : n ≤ 1000) (W : World) : (Instr.makeSlice 258 (.int .i64 (n : Int)) (.int .i64 (n : Int))).run Tryz.prog W = .ok (.slice (some ⟨W.heap.size, 0, none⟩) n n) (W.alloc (.cells (intRow [] n) 3)) := by
  obtain ⟨i0, hi, hz0, hz1, hz2⟩ := info_parts info3
  have h := run_make (P := Tryz.prog) W 258 3 i0 (.int .i64 0) Tryz.underlying258 hi hz0 .i64 .i64 (n : Int) (n : Int) (by omega) (by omega) (by rw [hz2]; omega) (by omega)
  have hm : madeCells (Value.int .i64 0).cells ((n : Int).toNat * i0.size) = intRow [] n := by
    apply Array.toList_inj.1
    rw [hz1, Nat.mul_one, Int.toNat_natCast]
    show (madeCells #[Value.int .i64 0] n).toList = _
    rw [toList_madeCells_one]
    simp [intRow]
  rw [hm] at h
  simpa using h

theorem alloc4 (w : World) (A B C D : Obj) : Tch [] w ((((w.alloc A).alloc B).alloc C).alloc D) ∧ ((((w.alloc A).alloc B).alloc C).alloc D).heap.size = w.heap.size + 4 ∧ ((((w.alloc A).alloc B).alloc C).alloc D).heap[w.heap.size]? = some A ∧ ((((w.alloc A).alloc B).alloc C).alloc D).heap[w.heap.size + 1]? = some B ∧ ((((w.alloc A).alloc B).alloc C).alloc D).heap[w.heap.size + 1 + 1]? = some C ∧ ((((w.alloc A).alloc B).alloc C).alloc D).heap[w.heap.size + 1 + 1 + 1]? = some D := by
  refine ⟨((((Tch.refl [] w).alloc _).alloc _).alloc _).alloc _, by simp, ?_, ?_, ?_, ?_⟩
  · rw [Below.heap_alloc _ _ _ (by simp; omega), Below.heap_alloc _ _ _ (by simp; omega), heap_alloc2_old]
  · rw [Below.heap_alloc _ _ _ (by simp), Below.heap_alloc _ _ _ (by simp), heap_alloc2_new]
  · have h := heap_alloc_new ((w.alloc A).alloc B) C
    rw [World.size_alloc, World.size_alloc] at h
    rw [Below.heap_alloc _ _ _ (by simp)]
    exact h
  · have h := heap_alloc_new (((w.alloc A).alloc B).alloc C) D
    rw [World.size_alloc, World.size_alloc, World.size_alloc] at h
    exact h
/-- A message within its bounds. -/
structure MsOk (m : Ms) : Prop where
  num : 0 ≤ m.num ∧ m.num < 4294967296
  rcv : 0 ≤ m.rcv ∧ m.rcv ≤ 65535
  grp : m.grp.size ≤ 255
  bod : m.bod.size ≤ 255
/-- What is told of the head of a group. -/
def givM (Q : QM) (g : ByteArray) : List UInt8 := match Q.ms[(idxL (isG g) Q.ms).toNat]? with
  | some m => givB 97 m.num.toNat m.rcv.toNat m.grp m.bod
  | none => []
def hdsL (Q : QM) (k : Nat) : List Int := (Q.rs.take k).map (fun g => idxL (isG g) Q.ms)
def ansL (Q : QM) (cnt k : Nat) : List UInt8 := lowB cnt 1 ++ (Q.rs.take k).flatMap (givM Q)
theorem givB_len (q : UInt8) (num rcv : Nat) (g b : ByteArray) : (givB q num rcv g b).length = 10 + g.size + b.size := by
  simp [givB, hanB, lowB_length, txtB_length]; omega
theorem givM_len (Q : QM) (g : ByteArray) (h : ∀ m ∈ Q.ms, MsOk m) : (givM Q g).length ≤ 520 := by
  unfold givM
  split
  · rename_i m hm
    have h1 := h m (List.mem_of_getElem? hm)
    have h2 := h1.grp
    have h3 := h1.bod
    rw [givB_len]
    omega
  · simp
theorem flat_le (Q : QM) (l : List ByteArray) (h : ∀ m ∈ Q.ms, MsOk m) : (l.flatMap (givM Q)).length ≤ 520 * l.length := by
  induction l with
  | nil => simp
  | cons x l ih =>
    have := givM_len Q x h
    rw [List.flatMap_cons, List.length_append, List.length_cons]
    omega
theorem ansL_len (Q : QM) (cnt k : Nat) (h : ∀ m ∈ Q.ms, MsOk m) : (ansL Q cnt k).length ≤ 1 + 520 * k := by
  have h1 := flat_le Q (Q.rs.take k) h
  have h2 : (Q.rs.take k).length ≤ k := by simp; omega
  unfold ansL
  rw [List.length_append, lowB_length]
  have : 520 * (Q.rs.take k).length ≤ 520 * k := Nat.mul_le_mul_left _ h2
  omega
/-- What lies there while Receive goes round. -/
structure RcI (w wr : World) (qb : Nat) (V : QV) (Q : QM) (CC : Array Value) (cnt gc ga base : Nat) (til : Int) (kh ka : Nat) (av : Value) : Prop where
  hgq : wr.heap[w.heap.size]? = some (.cells #[.pointer (some ⟨qb, 0, none⟩)] 152 (0, 0))
  hgr : wr.heap[w.heap.size + 1]? = some (.cells CC 27 (0, 0))
  hgc : wr.heap[gc]? = some (.cells #[.int .i64 (cnt : Int)] 3 (0, 0))
  hga : wr.heap[ga]? = some (.cells #[av] 74 (0, 0))
  hgu : wr.heap[ga + 1]? = some (.cells #[.int .i64 til] 3 (0, 0))
  hhb : wr.heap[ga + 1 + 1]? = some (.cells (intRow (hdsL Q kh) cnt) 3 (0, 0))
  hgh : wr.heap[ga + 1 + 1 + 1]? = some (.cells #[.slice (some ⟨ga + 1 + 1, 0, none⟩) cnt cnt] 258 (0, 0))
  own : OwnB wr base av (ansL Q cnt ka)
  tch : Tch [] w wr
  qr : QR wr qb V Q

theorem RcI.tch0 {w wr w5 : World} {qb : Nat} {V : QV} {Q : QM} {CC : Array Value} {cnt gc ga base : Nat} {til : Int} {kh ka : Nat} {av : Value} (h : RcI w wr qb V Q CC cnt gc ga base til kh ka av) (t5 : Tch [] wr w5) : RcI w w5 qb V Q CC cnt gc ga base til kh ka av :=
  ⟨(t5.block _ (lt_of_block h.hgq) (by simp)).trans h.hgq, (t5.block _ (lt_of_block h.hgr) (by simp)).trans h.hgr, (t5.block _ (lt_of_block h.hgc) (by simp)).trans h.hgc, (t5.block _ (lt_of_block h.hga) (by simp)).trans h.hga, (t5.block _ (lt_of_block h.hgu) (by simp)).trans h.hgu, (t5.block _ (lt_of_block h.hhb) (by simp)).trans h.hhb, (t5.block _ (lt_of_block h.hgh) (by simp)).trans h.hgh, own_tch h.own t5 (fun _ _ => by simp), h.tch.trans t5 (by simp), h.qr.tch t5 (by simp)⟩
/-- A head is set. -/
theorem RcI.heads {w wr : World} {qb : Nat} {V : QV} {Q : QM} {CC : Array Value} {cnt gc ga base : Nat} {til : Int} {kh ka kh' : Nat} {av : Value} (h : RcI w wr qb V Q CC cnt gc ga base til kh ka av) (hd : w.heap.size + 2 ≤ gc ∧ gc < ga) (hq0 : ∀ b ∈ qbl qb V, b < w.heap.size) (k : Nat) (x : Int) (hset : (intRow (hdsL Q kh) cnt).setIfInBounds k (.int .i64 x) = intRow (hdsL Q kh') cnt) :
    RcI w (wr.setCell ⟨ga + 1 + 1, k, none⟩ (.int .i64 x)) qb V Q CC cnt gc ga base til kh' ka av := by
  have t1 : Tch [ga + 1 + 1] wr (wr.setCell ⟨ga + 1 + 1, k, none⟩ (.int .i64 x)) := (Tch.refl _ _).setCell (fun _ => by simp) _
  have kp : ∀ (b : Nat) (o : Obj), wr.heap[b]? = some o → b ≠ ga + 1 + 1 → (wr.setCell ⟨ga + 1 + 1, k, none⟩ (.int .i64 x)).heap[b]? = some o := fun b o hb hne => (heap_setCell_other _ _ _ _ (show b ≠ ga + 1 + 1 from hne)).trans hb
  refine ⟨kp _ _ h.hgq (by omega), kp _ _ h.hgr (by omega), kp _ _ h.hgc (by omega), kp _ _ h.hga (by omega), kp _ _ h.hgu (by omega), ?_, kp _ _ h.hgh (by omega), own_tch h.own t1 (fun b hb hm => ?_), h.tch.setCell (fun hlt => ?_) _, h.qr.tch t1 (fun b hb hm => ?_)⟩
  · rw [← hset]
    exact heap_setCell_same wr (ga + 1 + 1) k _ 3 _ h.hhb
  · simp at hm
    subst hm
    exact own_ne h.own h.hhb (by decide) hb
  · have hlt' : ga + 1 + 1 < w.heap.size := hlt
    omega
  · have := hq0 b hb
    simp at hm
    omega
/-- More is told. -/
theorem RcI.told {w wr w7 : World} {qb : Nat} {V : QV} {Q : QM} {CC : Array Value} {cnt gc ga base : Nat} {til : Int} {kh ka ka' : Nat} {av v7 : Value} (h : RcI w wr qb V Q CC cnt gc ga base til kh ka av) (hd : w.heap.size + 2 ≤ gc ∧ gc < ga) (hq0 : ∀ b ∈ qbl qb V, b < w.heap.size) (hb : w.heap.size ≤ base) (hb7 : Below base wr w7) (hf7 : Fr 0 [5] wr w7) (ho7 : OwnB w7 base v7 (ansL Q cnt ka')) :
    RcI w (w7.setCell ⟨ga, 0, none⟩ v7) qb V Q CC cnt gc ga base til kh ka' v7 := by
  have t1 : Tch [ga] w7 (w7.setCell ⟨ga, 0, none⟩ v7) := (Tch.refl _ _).setCell (fun _ => by simp) _
  have hga7 := hf7.keep _ _ _ h.hga (by decide)
  have kp : ∀ (b : Nat) (C : Array Value) (t : TypeId), wr.heap[b]? = some (.cells C t (0, 0)) → t ∉ [5] → b ≠ ga → (w7.setCell ⟨ga, 0, none⟩ v7).heap[b]? = some (.cells C t (0, 0)) := fun b C t hb ht hne => (heap_setCell_other _ _ _ _ (show b ≠ ga from hne)).trans (hf7.keep b C t hb ht)
  refine ⟨kp _ _ _ h.hgq (by decide) (by omega), kp _ _ _ h.hgr (by decide) (by omega), kp _ _ _ h.hgc (by decide) (by omega), ?_, kp _ _ _ h.hgu (by decide) (by omega), kp _ _ _ h.hhb (by decide) (by omega), kp _ _ _ h.hgh (by decide) (by omega), own_tch ho7 t1 (fun b hb' hm => ?_), ?_, ?_⟩
  · exact heap_setCell_same w7 ga 0 _ 74 _ hga7
  · simp at hm
    subst hm
    exact own_ne ho7 hga7 (by decide) hb'
  · have t0 : Tch [] w w7 := ⟨hb7.os.trans h.tch.os, hb7.tape.trans h.tch.tape, hb7.output.trans h.tch.output, Nat.le_trans h.tch.size hb7.size, fun k hk _ => (hb7.block k (by omega)).trans (h.tch.block k hk (by simp))⟩
    exact t0.setCell (fun hlt => by have hlt' : ga < w.heap.size := hlt; omega) _
  · exact (h.qr.keep hf7 (by decide)).tch t1 (fun b hb hm => by
      have := hq0 b hb
      simp at hm
      omega)

set_option maxRecDepth 8000 in
set_option maxHeartbeats 2000000 in
theorem receive_some (Q : QM) (V : QV) (r : Wp.Rq) (y : Sl) (qb : Nat) (now : Int) (w : World) (h : QR w qb V Q) (hna : Q.ats.length ≤ 1000) (hnr : Q.rs.length ≤ 1000) (hid : idxL (isA r.att) Q.ats < 0) (mx cnt : Nat) (hmx : r.mx = (mx : Nat)) (hm1 : 1 ≤ mx ∧ mx ≤ 10) (hcnt : cnt = if mx ≤ Q.rs.length then mx else Q.rs.length) (hnow : 0 ≤ now ∧ now ≤ 60000) (hvis : 0 ≤ Q.c.vis ∧ Q.c.vis ≤ 1001) (hnm : Q.ms.length ≤ 1000) (hrd : ∀ g ∈ Q.rs, 0 ≤ idxL (isG g) Q.ms) (hms : ∀ m ∈ Q.ms, MsOk m) :
    Calls Tryz.prog 163 #[.pointer (some ⟨qb, 0, none⟩), .int .i64 now, .agg (cellsOf r y.v)] w fun e w' => ∃ gc ga base av,
      (cnt = 0 ∧ e = .returned (.tuple #[av, .nilFunc, .int .i64 0]) ∧ OwnB w' base av (ansL Q cnt cnt) ∧ Tch [] w w') ∨
      (0 < cnt ∧ e = .returned (.tuple #[av, .func (.func 212) #[] #[.pointer (some ⟨ga + 1 + 1 + 1, 0, none⟩), .pointer (some ⟨w.heap.size, 0, none⟩), .pointer (some ⟨ga + 1, 0, none⟩), .pointer (some ⟨gc, 0, none⟩), .pointer (some ⟨w.heap.size + 1, 0, none⟩), .pointer (some ⟨ga, 0, none⟩)], .int .i64 0]) ∧
        RcI w w' qb V Q (cellsOf r y.v) cnt gc ga base (now + Q.c.vis) cnt cnt av ∧ w.heap.size + 2 ≤ gc ∧ gc < ga ∧ w.heap.size ≤ base) := by
  have hmf : ∀ (fn : Fn) (first cap : Array Value) (w : World), (Instr.makeFunc fn first cap).run Tryz.prog w = .ok (.func fn first cap) w := fun _ _ _ _ => rfl
  have hge := idxL_ge (isA r.att) Q.ats
  have HII : Hid (idxL (isA r.att) Q.ats = -1) := by show _ = _; omega
  have HQ : Hid (QR w qb V Q) := h
  have HQ0 : Hid (∀ b ∈ qbl qb V, b < w.heap.size) := h.lt
  obtain ⟨ar, cr, hvr⟩ : ∃ a c, V.r = .slice a Q.rs.length c := by
    rcases h.r.2 with ⟨h0, h1⟩ | ⟨g, cap, cur, h0, _⟩
    · exact ⟨none, 0, by rw [h0, h1]⟩
    · exact ⟨_, _, h0⟩
  rw [show cellsOf r y.v = #[.int .u8 (r.op.toNat : Int), .int .u8 (r.q.toNat : Int), .int .u8 (r.d.toNat : Int), .int .i64 r.vis, .int .i64 r.win, .int .i64 r.rcv, .int .i64 r.quo, .int .i64 r.mx, .int .i64 r.tic, .string r.grp, .string r.ded, .string r.bod, .string r.att, .string r.han, .slice y.a y.n y.c] from rfl]
  generalize hCC : (#[.int .u8 (r.op.toNat : Int), .int .u8 (r.q.toNat : Int), .int .u8 (r.d.toNat : Int), .int .i64 r.vis, .int .i64 r.win, .int .i64 r.rcv, .int .i64 r.quo, .int .i64 r.mx, .int .i64 r.tic, .string r.grp, .string r.ded, .string r.bod, .string r.att, .string r.han, .slice y.a y.n y.c] : Array Value) = CC
  have HA : Hid (Calls Tryz.prog 209 #[.pointer (some ⟨qb, 0, none⟩), .string r.att] (rbox w qb CC) fun e w' => e = .returned (.int .i64 (-1)) ∧ Below (rbox w qb CC).heap.size (rbox w qb CC) w') := by
    have h1 := h.tch (rbox_tch w qb CC) (by simp)
    have h2 := findAttempt_gen r.att qb V.a Q.ats (rbox w qb CC) (cell_qC h1.blk 10 _ rfl) h1.a (by omega)
    rw [HII.out] at h2
    exact h2
  have HW0 : Hid ((rbox w qb CC).heap[w.heap.size]? = _) := rbox_0 w qb CC
  have HW1 : Hid ((rbox w qb CC).heap[w.heap.size + 1]? = some (.cells CC 27 (0, 0))) := rbox_1 w qb CC
  have HWT : Hid (Tch [] w (rbox w qb CC)) := rbox_tch w qb CC
  have HWZ : Hid ((rbox w qb CC).heap.size = w.heap.size + 2) := rbox_size w qb CC
  have ca : CC[12]? = some (.string r.att) := by rw [← hCC]; rfl
  have cm : CC[7]? = some (.int .i64 (mx : Nat)) := by rw [← hCC, ← hmx]; rfl
  have hCZ : (Tryz.prog.info? 27).map (·.size) = some CC.size := by rw [← hCC]; exact info37
  clear hCC
  have k0 : (rbox w qb CC).cell? ⟨w.heap.size, 0, none⟩ = some (.pointer (some ⟨qb, 0, none⟩)) := cell_qC HW0.out 0 _ rfl
  have k12 : (rbox w qb CC).cell? ⟨w.heap.size + 1, 12, none⟩ = some (.string r.att) := cell_qC HW1.out 12 _ ca
  have zz : (rbox w qb CC).heap.size = w.heap.size + 2 := HWZ.out
  generalize hwb : rbox w qb CC = wb at *
  clear h
  have hne0 : w.heap.size ≠ w.heap.size + 1 := by omega
  go_enter Tryz.func163, Tryz.ntmps163
  go_wp2_with fail
  rw [show (w.alloc (.cells #[.pointer (some ⟨qb, 0, none⟩)] 152)).alloc (.cells CC 27) = wb from hwb]
  refine HA.out.mono ?_
  rintro e w1 ⟨rfl, hb1⟩
  have t1 : Tch [] w w1 := HWT.out.trans (Tch.of_below hb1) (by simp)
  have z1 : w.heap.size + 2 ≤ w1.heap.size := by have := hb1.size; omega
  have hq1 := HQ.out.tch t1 (by simp)
  have B0 : w1.heap[w.heap.size]? = some (.cells #[.pointer (some ⟨qb, 0, none⟩)] 152 (0, 0)) := (hb1.block _ (by omega)).trans HW0.out
  have B1 : w1.heap[w.heap.size + 1]? = some (.cells CC 27 (0, 0)) := (hb1.block _ (by omega)).trans HW1.out
  have a0 : w1.cell? ⟨w.heap.size, 0, none⟩ = some (.pointer (some ⟨qb, 0, none⟩)) := cell_qC B0 0 _ rfl
  have a1 : w1.cell? ⟨w.heap.size + 1, 7, none⟩ = some (.int .i64 (mx : Nat)) := cell_qC B1 7 _ cm
  have a2 : w1.cell? ⟨qb, 8, none⟩ = some (.slice ar Q.rs.length cr) := by rw [← hvr]; exact cell_qC hq1.blk 8 _ rfl
  have HB0 : Hid (w1.heap[w.heap.size]? = some (.cells #[.pointer (some ⟨qb, 0, none⟩)] 152 (0, 0)) ∧ w1.heap[w.heap.size + 1]? = some (.cells CC 27 (0, 0))) := ⟨B0, B1⟩
  have HQ1 : Hid (QR w1 qb V Q) := hq1
  have HT1 : Hid (Tch [] w w1) := t1
  have lq := hq1.blk.lt
  clear hb1 k0 k12 hwb t1 hq1 B0 B1 HA HW0 HW1 HWT HWZ zz
  go_wp2_with fail
  have hmin : min (mx : Int) (Q.rs.length : Int) = (cnt : Int) := by rw [hcnt]; split <;> omega
  have hcl : cnt ≤ mx ∧ cnt ≤ Q.rs.length := by rw [hcnt]; split <;> omega
  clear hcnt
  go_cut [10] (fun s10 wx => s10 = .pointer (some ⟨w1.heap.size, 0, none⟩) ∧ Tch [] w1 wx ∧ wx.heap.size = w1.heap.size + 1 ∧ wx.heap[w1.heap.size]? = some (.cells #[.int .i64 (cnt : Int)] 3 (0, 0)))
  case first =>
    go_region_held3 (fun w' => w'.cell? ⟨w.heap.size, 0, none⟩ = some (.pointer (some ⟨qb, 0, none⟩)) ∧ w'.cell? ⟨w.heap.size + 1, 7, none⟩ = some (.int .i64 (mx : Nat)) ∧ w'.cell? ⟨qb, 8, none⟩ = some (.slice ar Q.rs.length cr)) (go_keep) (fail)
    all_goals (go_wp2_with fail; go_meet)
    all_goals exact ⟨rfl, ((Tch.refl [] w1).alloc _).drew, by show (w1.alloc _).heap.size = _; simp, heap_alloc_new _ _⟩
  case rest =>
    obtain ⟨rfl, ht2, hz2, hc2⟩ := hcut
    generalize wc = w2 at *
    have T2 : Hid (Tch [] w w2) := HT1.out.trans ht2 (by simp)
    have HC2 : Hid (w2.heap[w1.heap.size]? = some (.cells #[.int .i64 (cnt : Int)] 3 (0, 0))) := hc2
    have HB2 : Hid (w2.heap[w.heap.size]? = some (.cells #[.pointer (some ⟨qb, 0, none⟩)] 152 (0, 0)) ∧ w2.heap[w.heap.size + 1]? = some (.cells CC 27 (0, 0))) := ⟨(ht2.block _ (by omega) (by simp)).trans HB0.out.1, (ht2.block _ (by omega) (by simp)).trans HB0.out.2⟩
    have HA1 : Hid (Calls Tryz.prog 91 #[.slice none 0 0, .int .i64 (cnt : Int), .int .i64 1] w2 fun e w' => ∃ v', e = .returned v' ∧ OwnB w' w2.heap.size v' ([] ++ lowB cnt 1) ∧ Below w2.heap.size w2 w' ∧ Fr 0 [5] w2 w') := appendNumber_f w2.heap.size _ [] cnt 1 w2 (by omega) (by decide) (by decide) (Nat.le_refl _) (World.ownsRow_nil _ _ _ _)
    have c2 := cell_of_one hc2
    have l2 := lt_of_block hc2
    have HQ2 : Hid (QR w2 qb V Q) := HQ1.out.tch ht2 (by simp)
    clear ht2 hc2 a0 a1 a2
    go_wp2_with fail
    refine HA1.out.mono ?_
    rintro e w3 ⟨v3, rfl, ho3, hb3, hf3⟩
    have z3 := hb3.size
    have T3 : Hid (Tch [] w w3) := T2.out.trans (Tch.of_below hb3) (by simp)
    have HC3 : Hid (w3.heap[w1.heap.size]? = some (.cells #[.int .i64 (cnt : Int)] 3 (0, 0)) ∧ w3.heap[w.heap.size]? = some (.cells #[.pointer (some ⟨qb, 0, none⟩)] 152 (0, 0)) ∧ w3.heap[w.heap.size + 1]? = some (.cells CC 27 (0, 0))) := ⟨(hb3.block _ l2).trans HC2.out, (hb3.block _ (by omega)).trans HB2.out.1, (hb3.block _ (by omega)).trans HB2.out.2⟩
    have HO3 : Hid (OwnB w3 w2.heap.size v3 (lowB cnt 1)) := ho3
    have c3 := cell_of_one HC3.out.1
    have l3 := lt_of_block HC3.out.1
    have HQ3 : Hid (QR w3 qb V Q) := HQ2.out.tch (Tch.of_below hb3) (by simp)
    obtain ⟨g3, cap3, hv3⟩ : ∃ g cap, v3 = .slice (some ⟨g, 0, none⟩) 1 cap := by
      obtain ⟨g, cap, e⟩ := OwnB.slc ho3 (by simp [lowB_length])
      exact ⟨g, cap, by simpa [lowB_length] using e⟩
    subst hv3
    clear ho3 hb3 hf3 c2
    by_cases hc0 : cnt = 0
    · have hcb : ((cnt : Int) == 0) = true := by simp [hc0]
      go_wp2_with fail
      go_ret3
      refine ⟨0, 0, w2.heap.size, _, .inl ⟨hc0, rfl, ?_, ?_⟩⟩
      · have h := own_tch HO3.out ((Tch.refl [] w3).alloc (.cells #[.slice (some ⟨g3, 0, none⟩) 1 cap3] 74)) (fun _ _ => by simp)
        have e : ansL Q cnt cnt = lowB cnt 1 := by rw [hc0]; simp [ansL]
        rw [e]
        exact h
      · exact T3.out.alloc _
    · have hcb : ((cnt : Int) == 0) = false := by simp; omega
      have hmk := make_ints cnt (by omega)
      have hwr : IntKind.i64.wrap (now + Q.c.vis) = now + Q.c.vis := by rw [IntKind.wrap_i64]; omega
      obtain ⟨gr0, hgr0, hcr⟩ : ∃ g, ar = some ⟨g, 0, none⟩ ∧ Q.rs.length ≤ cr := by
        rcases HQ.out.r.2 with ⟨h0, h1⟩ | ⟨g, cap, cur, h0, _, _, hnc, _⟩
        · omega
        · rw [hvr] at h0
          simp at h0
          exact ⟨g, h0.1, by omega⟩
      subst hgr0
      have d0 : w3.cell? ⟨w.heap.size, 0, none⟩ = some (.pointer (some ⟨qb, 0, none⟩)) := cell_of_one HC3.out.2.1
      have d2 : w3.cell? ⟨qb, 2, none⟩ = some (.int .i64 Q.c.vis) := cell_qC HQ3.out.blk 2 _ rfl
      have d8 : w3.cell? ⟨qb, 8, none⟩ = some (.slice (some ⟨gr0, 0, none⟩) Q.rs.length cr) := by rw [← hvr]; exact cell_qC HQ3.out.blk 8 _ rfl
      have l4 := lt_of_block HC3.out.2.1
      have l5 := HQ3.out.blk.lt
      go_wp2_with fail
      obtain ⟨p1, p2, p3, p4, p5, p6⟩ := alloc4 w3 (.cells #[.slice (some ⟨g3, 0, none⟩) 1 cap3] 74) (.cells #[.int .i64 (now + Q.c.vis)] 3) (.cells (intRow [] cnt) 3) (.cells #[.slice (some ⟨w3.heap.size + 1 + 1, 0, none⟩) cnt cnt] 258)
      generalize ((((w3.alloc (.cells #[.slice (some ⟨g3, 0, none⟩) 1 cap3] 74)).alloc (.cells #[.int .i64 (now + Q.c.vis)] 3)).alloc (.cells (intRow [] cnt) 3)).alloc (.cells #[.slice (some ⟨w3.heap.size + 1 + 1, 0, none⟩) cnt cnt] 258)) = w4 at *
      have HI : Hid (RcI w w4 qb V Q CC cnt w1.heap.size w3.heap.size w2.heap.size (now + Q.c.vis) 0 0 (.slice (some ⟨g3, 0, none⟩) 1 cap3)) := ⟨(p1.block _ (by omega) (by simp)).trans HC3.out.2.1, (p1.block _ (by omega) (by simp)).trans HC3.out.2.2, (p1.block _ l3 (by simp)).trans HC3.out.1, p3, p4, p5, p6, by
        have h := own_tch HO3.out p1 (fun _ _ => by simp)
        simpa [ansL, OwnB] using h, T3.out.trans p1 (by simp), HQ3.out.tch p1 (by simp)⟩
      have e0 : w4.cell? ⟨w.heap.size, 0, none⟩ = some (.pointer (some ⟨qb, 0, none⟩)) := cell_of_one HI.out.hgq
      have e8 : w4.cell? ⟨qb, 8, none⟩ = some (.slice (some ⟨gr0, 0, none⟩) Q.rs.length cr) := by rw [← hvr]; exact cell_qC HI.out.qr.blk 8 _ rfl
      have ec : w4.cell? ⟨w1.heap.size, 0, none⟩ = some (.int .i64 (cnt : Int)) := cell_of_one HI.out.hgc
      have HZ4 : Hid (w3.heap.size + 4 = w4.heap.size ∧ w2.heap.size ≤ w3.heap.size ∧ w1.heap.size + 1 ≤ w2.heap.size ∧ w.heap.size + 2 ≤ w1.heap.size) := ⟨p2.symm, z3, by omega, z1⟩
      clear p1 p2 p3 p4 p5 p6 d0 d2 d8 c3 l2 l3 l4 l5 lq
      go_quiet (fail)
      go_wp2_with fail
      go_loopw [60] (fun v wr => ∃ k av, k ≤ cnt ∧ v = .int .i64 (k : Int) ∧ RcI w wr qb V Q CC cnt w1.heap.size w3.heap.size w2.heap.size (now + Q.c.vis) k k av) (fun v _ => cnt - (intOf v).toNat)
      case atStart =>
        have h := HI.out
        have td : Tch [] w4 (w4.drewN nq) := (Tch.refl [] w4).drewN nq
        exact ⟨0, _, Nat.zero_le _, rfl, h.hgq, h.hgr, h.hgc, h.hga, h.hgu, h.hhb, h.hgh, own_tch h.own td (fun _ _ => by simp), h.tch.drewN nq, h.qr.tch td (by simp)⟩
      case round =>
        obtain ⟨k, av, hk, rfl, hI⟩ := hrel
        have HIR : Hid (RcI w wr qb V Q CC cnt w1.heap.size w3.heap.size w2.heap.size (now + Q.c.vis) k k av) := hI
        by_cases hlt : k < cnt
        · have hkl : k < Q.rs.length := by omega
          have ck : wr.cell? ⟨gr0, k, none⟩ = some (.string Q.rs[k]) := by
            have h0 := hI.qr.r
            rw [hvr] at h0
            have h1 := World.ownsRow.cells h0 (g := gr0) rfl k (.string Q.rs[k]) (by simp [hkl])
            have e2 : (⟨gr0, 0, none⟩ : Addr).add k = ⟨gr0, k, none⟩ := by unfold Addr.add; split <;> simp_all
            rw [e2] at h1
            exact h1
          have hmem : Q.rs[k] ∈ Q.rs := List.getElem_mem _
          have HRD : Hid (0 ≤ idxL (isG Q.rs[k]) Q.ms) := hrd _ hmem
          have HH : Hid (Calls Tryz.prog 210 #[.pointer (some ⟨qb, 0, none⟩), .string Q.rs[k]] wr.drew fun e w' => e = .returned (.int .i64 (idxL (isG Q.rs[k]) Q.ms)) ∧ Below wr.heap.size wr w') := by
            have h0 : QR wr.drew qb V Q := hI.qr.tch (Tch.refl [] wr).drew (by simp)
            refine (head_gen Q.rs[k] qb V.m Q.ms wr.drew (cell_qC h0.blk 7 _ rfl) h0.m (by omega)).mono ?_
            rintro e w' ⟨rfl, hb'⟩
            exact ⟨rfl, (below_drewN (Below.refl _ wr) 1).trans hb'⟩
          have cq : wr.cell? ⟨w.heap.size, 0, none⟩ = some (.pointer (some ⟨qb, 0, none⟩)) := cell_of_one hI.hgq
          have ch : wr.cell? ⟨w3.heap.size + 1 + 1 + 1, 0, none⟩ = some (.slice (some ⟨w3.heap.size + 1 + 1, 0, none⟩) cnt cnt) := cell_of_one hI.hgh
          have hsz : (hdsL Q k).length = k := by simp [hdsL]; omega
          have hf0 : wr.frozen? ⟨w3.heap.size + 1 + 1, k, none⟩ = false := frozen_of_row _ _ _ _ 3 hI.hhb
          obtain ⟨ov, hov⟩ : ∃ ov, wr.cell? ⟨w3.heap.size + 1 + 1, k, none⟩ = some ov := by
            have h1 := cell_of_row wr (w3.heap.size + 1 + 1) k _ 3 (0, 0) hI.hhb
            have h2 : k < (intRow (hdsL Q k) cnt).size := by rw [intRow_size _ _ (by omega)]; exact hlt
            exact ⟨_, h1.trans (Array.getElem?_eq_getElem h2)⟩
          have lb1 := lt_of_block hI.hgq
          have lb2 := lt_of_block hI.hgh
          have lb3 := lt_of_block hI.hhb
          have hset : Hid ((intRow (hdsL Q k) cnt).setIfInBounds k (.int .i64 (idxL (isG Q.rs[k]) Q.ms)) = intRow (hdsL Q (k + 1)) cnt) := by
            show _ = _
            have h1 := intRow_set (hdsL Q k) cnt (idxL (isG Q.rs[k]) Q.ms) (by omega)
            rw [hsz] at h1
            rw [h1]
            have e1 : hdsL Q (k + 1) = hdsL Q k ++ [idxL (isG Q.rs[k]) Q.ms] := by
              rw [hdsL, hdsL, List.take_succ_eq_append_getElem hkl, List.map_append]
              rfl
            rw [e1]
          have hne1 : w.heap.size ≠ w3.heap.size + 1 + 1 := by have := HZ4.out; omega
          have hne2 : w3.heap.size + 1 + 1 ≠ w.heap.size := by have := HZ4.out; omega
          clear hI
          go_wp2_with fail
          go_cut [] (fun wx => RcI w wx qb V Q CC cnt w1.heap.size w3.heap.size w2.heap.size (now + Q.c.vis) (k + 1) k av)
          case first =>
            go_region_held3 (fun w' => w'.cell? ⟨w.heap.size, 0, none⟩ = some (.pointer (some ⟨qb, 0, none⟩)) ∧ w'.cell? ⟨w3.heap.size + 1 + 1 + 1, 0, none⟩ = some (.slice (some ⟨w3.heap.size + 1 + 1, 0, none⟩) cnt cnt) ∧ w'.frozen? ⟨w3.heap.size + 1 + 1, k, none⟩ = false) (go_keep) (first | (go_at_call 210; refine HH.out.mono ?_; rintro e w5 ⟨rfl, hb5⟩; have m0 := (hb5.cell (p := ⟨w.heap.size, 0, none⟩) lb1).trans cq; have m1 := (hb5.cell (p := ⟨w3.heap.size + 1 + 1 + 1, 0, none⟩) lb2).trans ch; have m2 : w5.frozen? ⟨w3.heap.size + 1 + 1, k, none⟩ = false := frozen_of_row _ _ _ _ 3 ((hb5.block _ lb3).trans HIR.out.hhb); have m3 := (hb5.cell (p := ⟨w3.heap.size + 1 + 1, k, none⟩) lb3).trans hov))
            all_goals (go_wp2_with fail; go_meet)
            all_goals exact (HIR.out.tch0 (Tch.of_below hb5)).heads (by have := HZ4.out; omega) HQ0.out k _ hset.out
          case rest =>
            have HJ : Hid (RcI w wc qb V Q CC cnt w1.heap.size w3.heap.size w2.heap.size (now + Q.c.vis) (k + 1) k av) := hcut
            have hzl := idxL_lt (isG Q.rs[k]) Q.ms
            have hz0 := HRD.out
            obtain ⟨i, hi⟩ : ∃ i : Nat, idxL (isG Q.rs[k]) Q.ms = (i : Int) := ⟨_, (Int.toNat_of_nonneg hz0).symm⟩
            have hil : i < Q.ms.length := by omega
            obtain ⟨m, hm⟩ : ∃ m, Q.ms[i]? = some m := ⟨_, List.getElem?_eq_getElem hil⟩
            have hmk := hms m (List.mem_of_getElem? hm)
            obtain ⟨num, hnum⟩ : ∃ n : Nat, m.num = (n : Int) := ⟨_, (Int.toNat_of_nonneg hmk.num.1).symm⟩
            obtain ⟨rcv, hrcv⟩ : ∃ n : Nat, m.rcv = (n : Int) := ⟨_, (Int.toNat_of_nonneg hmk.rcv.1).symm⟩
            have hgm : givM Q Q.rs[k] = givB 97 num rcv m.grp m.bod := by
              unfold givM
              rw [hi, Int.toNat_natCast, hm]
              simp [hnum, hrcv]
            have hans : Hid (ansL Q cnt (k + 1) = ansL Q cnt k ++ givB 97 num rcv m.grp m.bod) := by
              show _ = _
              rw [ansL, ansL, List.take_succ_eq_append_getElem hkl, List.flatMap_append, ← hgm]
              simp
            obtain ⟨gm, cm, hvm⟩ : ∃ g c, V.m = .slice (some ⟨g, 0, none⟩) Q.ms.length c := by
              rcases hcut.qr.m.2 with ⟨h0, h1⟩ | ⟨g, cap, cur, h0, _⟩
              · omega
              · exact ⟨g, cap, h0⟩
            have fm : ∀ j v, m.row[j]? = some v → wc.cell? ⟨gm, i * 5 + j, none⟩ = some v := fun j v hj => by
              have h0 := hcut.qr.m
              rw [hvm] at h0
              have inh : Inhabited Ms := ⟨⟨0, ⟨#[]⟩, ⟨#[]⟩, 0, 0⟩⟩
              have h1 := own_cells Ms.row 5 (fun _ => rfl) h0 i hil j v (by
                rw [List.getElem!_eq_getElem?_getD, hm]
                exact hj)
              simpa using h1
            have g0 : wc.cell? ⟨gm, i * 5, none⟩ = some (.int .i64 (num : Int)) := by have := fm 0 _ rfl; rw [hnum] at this; exact this
            have g1 : wc.cell? ⟨gm, i * 5 + 1, none⟩ = some (.string m.grp) := fm 1 _ rfl
            have g2 : wc.cell? ⟨gm, i * 5 + 2, none⟩ = some (.string m.bod) := fm 2 _ rfl
            have g3' : wc.cell? ⟨gm, i * 5 + 3, none⟩ = some (.int .i64 (rcv : Int)) := by have := fm 3 _ rfl; rw [hrcv] at this; exact this
            have g4 : wc.cell? ⟨gm, i * 5 + 4, none⟩ = some (.int .i64 m.til) := fm 4 _ rfl
            have f0 : wc.cell? ⟨w.heap.size, 0, none⟩ = some (.pointer (some ⟨qb, 0, none⟩)) := cell_of_one hcut.hgq
            have f7 : wc.cell? ⟨qb, 7, none⟩ = some (.slice (some ⟨gm, 0, none⟩) Q.ms.length cm) := by rw [← hvm]; exact cell_qC hcut.qr.blk 7 _ rfl
            have fh : wc.cell? ⟨w3.heap.size + 1 + 1 + 1, 0, none⟩ = some (.slice (some ⟨w3.heap.size + 1 + 1, 0, none⟩) cnt cnt) := cell_of_one hcut.hgh
            have fk : wc.cell? ⟨w3.heap.size + 1 + 1, k, none⟩ = some (.int .i64 (i : Int)) := by
              refine cell_qC hcut.hhb k _ ?_
              have hs1 : (hdsL Q (k + 1)).length = k + 1 := by simp [hdsL]; omega
              rw [intRow_get _ _ k (by omega)]
              simp [hdsL, hi]
            have fa : wc.cell? ⟨w3.heap.size, 0, none⟩ = some av := cell_of_one hcut.hga
            have ff : wc.frozen? ⟨w3.heap.size, 0, none⟩ = false := frozen_of_row _ _ _ _ 74 hcut.hga
            have hal := ansL_len Q cnt k hms
            have HG : Hid (Calls Tryz.prog 211 #[.pointer (some ⟨qb, 0, none⟩), av, .agg #[.int .i64 (num : Int), .string m.grp, .string m.bod, .int .i64 (rcv : Int), .int .i64 m.til]] wc.drew fun e w' => ∃ g7 n7 c7, e = .returned (.slice (some ⟨g7, 0, none⟩) n7 c7) ∧ OwnB w' w2.heap.size (.slice (some ⟨g7, 0, none⟩) n7 c7) (ansL Q cnt (k + 1)) ∧ Below w2.heap.size wc w' ∧ Fr 0 [5] wc w') := by
              rw [hans.out]
              refine (appendGiven_any w2.heap.size av (ansL Q cnt k) 97 num rcv qb m.til m.grp m.bod _ wc.drew hcut.qr.blk rfl (by have := hmk.num; omega) (by have := hmk.rcv; omega) hmk.grp hmk.bod (by omega) (by have h1 := HZ4.out; have h2 := lt_of_block hcut.hgh; show w2.heap.size ≤ wc.heap.size; omega) hcut.own).mono ?_
              rintro e w' ⟨v', rfl, h1, h2, h3⟩
              obtain ⟨g7, c7, e7⟩ := OwnB.slc h1 (by rw [List.length_append, givB_len]; omega)
              subst e7
              exact ⟨g7, _, c7, rfl, h1, (below_drewN (Below.refl _ wc) 1).trans h2, (Fr.of_nil [5] (Tch.refl [] wc).drew (Nat.zero_le _)).trans h3⟩
            have x1 := lt_of_block hcut.hgq
            have x2 := lt_of_block hcut.hgh
            have x3 := lt_of_block hcut.hhb
            have x4 := lt_of_block hcut.hga
            have x5 := hcut.qr.blk.lt
            have x6 : gm < wc.heap.size := World.block_lt_of_cell? _ _ g0
            have y1 : w.heap.size ≠ w3.heap.size := by have := HZ4.out; omega
            have y2 : qb ≠ w3.heap.size := by have h1 := HQ0.out qb (by simp [qbl]); have := HZ4.out; omega
            have y3 : gm ≠ w3.heap.size := by have h1 := HQ0.out gm (mem_qbl.2 (.inr (.inl (by rw [hvm]; rfl)))); have := HZ4.out; omega
            clear hcut fm hms hrd HH ch cq hov hf0 hi
            go_wp2_with fail
            refine wp_region_noPanic ?_
            refine wp_region_held_drew (S := (fun w' => w'.cell? ⟨w.heap.size, 0, none⟩ = some (.pointer (some ⟨qb, 0, none⟩)) ∧ w'.cell? ⟨qb, 7, none⟩ = some (.slice (some ⟨gm, 0, none⟩) Q.ms.length cm) ∧ w'.cell? ⟨w3.heap.size + 1 + 1 + 1, 0, none⟩ = some (.slice (some ⟨w3.heap.size + 1 + 1, 0, none⟩) cnt cnt) ∧ w'.cell? ⟨w3.heap.size + 1 + 1, k, none⟩ = some (.int .i64 (i : Int)) ∧ w'.cell? ⟨gm, i * 5, none⟩ = some (.int .i64 (num : Int)) ∧ w'.cell? ⟨gm, i * 5 + 1, none⟩ = some (.string m.grp) ∧ w'.cell? ⟨gm, i * 5 + 2, none⟩ = some (.string m.bod) ∧ w'.cell? ⟨gm, i * 5 + 3, none⟩ = some (.int .i64 (rcv : Int)) ∧ w'.cell? ⟨gm, i * 5 + 4, none⟩ = some (.int .i64 m.til))) (by kernel_rfl) (by go_keep) (fun hHeld => ?_)
            refine wpAnyH_take (i := 0) (v := ?_) rfl (by kernel_rfl) (by kernel_rfl) (by kernel_rfl) (fun _ _ _ h => h) (Or.inl ⟨by rfl, ?_⟩) (by assumption) ?_
            rotate_left
            · (intro w hSw; (try dsimp only at hSw); go_simp; try with_reducible rfl)
            try simp only [Act.put, List.setIfInBounds_toArray, List.set_cons_zero, List.set_cons_succ]
            refine wpAnyH_take (i := 2) (v := ?_) rfl (by kernel_rfl) (by kernel_rfl) (by kernel_rfl) (fun _ _ _ h => h) (Or.inl ⟨by rfl, ?_⟩) (by assumption) ?_
            rotate_left
            · (intro w hSw; (try dsimp only at hSw); go_simp; try with_reducible rfl)
            try simp only [Act.put, List.setIfInBounds_toArray, List.set_cons_zero, List.set_cons_succ]
            refine wpAnyH_take (i := 3) (v := ?_) rfl (by kernel_rfl) (by kernel_rfl) (by kernel_rfl) (fun _ _ _ h => h) (Or.inl ⟨by rfl, ?_⟩) (by assumption) ?_
            rotate_left
            · (intro w hSw; (try dsimp only at hSw); go_simp; try with_reducible rfl)
            try simp only [Act.put, List.setIfInBounds_toArray, List.set_cons_zero, List.set_cons_succ]
            refine wpAnyH_take (i := 4) (v := ?_) rfl (by kernel_rfl) (by kernel_rfl) (by kernel_rfl) (fun _ _ _ h => h) (Or.inl ⟨by rfl, ?_⟩) (by assumption) ?_
            rotate_left
            · (intro w hSw; (try dsimp only at hSw); go_simp; try with_reducible rfl)
            try simp only [Act.put, List.setIfInBounds_toArray, List.set_cons_zero, List.set_cons_succ]
            refine wpAnyH_take (i := 5) (v := ?_) rfl (by kernel_rfl) (by kernel_rfl) (by kernel_rfl) (fun _ _ _ h => h) (Or.inl ⟨by rfl, ?_⟩) (by assumption) ?_
            rotate_left
            · (intro w hSw; (try dsimp only at hSw); go_simp; try with_reducible rfl)
            try simp only [Act.put, List.setIfInBounds_toArray, List.set_cons_zero, List.set_cons_succ]
            refine wpAnyH_take (i := 6) (v := ?_) rfl (by kernel_rfl) (by kernel_rfl) (by kernel_rfl) (fun _ _ _ h => h) (Or.inl ⟨by rfl, ?_⟩) (by assumption) ?_
            rotate_left
            · (intro w hSw; (try dsimp only at hSw); go_simp; try with_reducible rfl)
            try simp only [Act.put, List.setIfInBounds_toArray, List.set_cons_zero, List.set_cons_succ]
            refine wpAnyH_take (i := 7) (v := ?_) rfl (by kernel_rfl) (by kernel_rfl) (by kernel_rfl) (fun _ _ _ h => h) (Or.inl ⟨by rfl, ?_⟩) (by assumption) ?_
            rotate_left
            · (intro w hSw; (try dsimp only at hSw); go_simp; try with_reducible rfl)
            try simp only [Act.put, List.setIfInBounds_toArray, List.set_cons_zero, List.set_cons_succ]
            refine wpAnyH_take (i := 8) (v := ?_) rfl (by kernel_rfl) (by kernel_rfl) (by kernel_rfl) (fun _ _ _ h => h) (Or.inl ⟨by rfl, ?_⟩) (by assumption) ?_
            rotate_left
            · (intro w hSw; (try dsimp only at hSw); go_simp; try with_reducible rfl)
            try simp only [Act.put, List.setIfInBounds_toArray, List.set_cons_zero, List.set_cons_succ]
            refine wpAnyH_take (i := 9) (v := ?_) rfl (by kernel_rfl) (by kernel_rfl) (by kernel_rfl) (fun _ _ _ h => h) (Or.inl ⟨by rfl, ?_⟩) (by assumption) ?_
            rotate_left
            · (intro w hSw; (try dsimp only at hSw); go_simp; try with_reducible rfl)
            try simp only [Act.put, List.setIfInBounds_toArray, List.set_cons_zero, List.set_cons_succ]
            refine wpAnyH_take (i := 10) (v := ?_) rfl (by kernel_rfl) (by kernel_rfl) (by kernel_rfl) (fun _ _ _ h => h) (Or.inl ⟨by rfl, ?_⟩) (by assumption) ?_
            rotate_left
            · (intro w hSw; (try dsimp only at hSw); go_simp; try with_reducible rfl)
            try simp only [Act.put, List.setIfInBounds_toArray, List.set_cons_zero, List.set_cons_succ]
            refine wpAnyH_take (i := 11) (v := ?_) rfl (by kernel_rfl) (by kernel_rfl) (by kernel_rfl) (fun _ _ _ h => h) (Or.inl ⟨by rfl, ?_⟩) (by assumption) ?_
            rotate_left
            · (intro w hSw; (try dsimp only at hSw); go_simp; try with_reducible rfl)
            try simp only [Act.put, List.setIfInBounds_toArray, List.set_cons_zero, List.set_cons_succ]
            refine wpAnyH_ready (rs := [1]) (by kernel_rfl) (by simp) ?_
            refine AllReadyH.cons rfl (fun K' hK' => ?_) AllReadyH.nil
            go_simp
            refine hK'.out _ _ (by go_keep) (fun hHeld => ?_)
            clear hK' K'
            try simp only [Act.put, List.setIfInBounds_toArray, List.set_cons_zero, List.set_cons_succ]
            refine wpAnyH_ready (rs := [12]) (by kernel_rfl) (by simp) ?_
            refine AllReadyH.cons rfl (fun K' hK' => ?_) AllReadyH.nil
            go_simp
            refine HG.out.mono ?_
            rintro e w7 ⟨g7, n7, c7, rfl, ho7, hb7, hf7⟩
            have HR7 : Hid (RcI w (w7.setCell ⟨w3.heap.size, 0, none⟩ (.slice (some ⟨g7, 0, none⟩) n7 c7)) qb V Q CC cnt w1.heap.size w3.heap.size w2.heap.size (now + Q.c.vis) (k + 1) (k + 1) (.slice (some ⟨g7, 0, none⟩) n7 c7)) := HJ.out.told (by have := HZ4.out; omega) HQ0.out (by have := HZ4.out; omega) hb7 hf7 ho7
            have ff7 : w7.frozen? ⟨w3.heap.size, 0, none⟩ = false := frozen_of_row _ _ _ _ 74 (hf7.keep _ _ _ HJ.out.hga (by decide))
            have fa7 : w7.cell? ⟨w3.heap.size, 0, none⟩ = some av := cell_of_one (hf7.keep _ _ _ HJ.out.hga (by decide))
            have qr7 := HJ.out.qr.keep hf7 (by decide)
            have s0 : w7.cell? ⟨w.heap.size, 0, none⟩ = some (.pointer (some ⟨qb, 0, none⟩)) := cell_of_one (hf7.keep _ _ _ HJ.out.hgq (by decide))
            have s1 : w7.cell? ⟨qb, 7, none⟩ = some (.slice (some ⟨gm, 0, none⟩) Q.ms.length cm) := by rw [← hvm]; exact cell_qC qr7.blk 7 _ rfl
            have s2 : w7.cell? ⟨w3.heap.size + 1 + 1 + 1, 0, none⟩ = some (.slice (some ⟨w3.heap.size + 1 + 1, 0, none⟩) cnt cnt) := cell_of_one (hf7.keep _ _ _ HJ.out.hgh (by decide))
            have s3 : w7.cell? ⟨w3.heap.size + 1 + 1, k, none⟩ = some (.int .i64 (i : Int)) := (World.cell?_of_block (a := ⟨w3.heap.size + 1 + 1, k, none⟩) ((hf7.keep _ _ _ HJ.out.hhb (by decide)).trans HJ.out.hhb.symm)).trans fk
            have smb : ∀ j, w7.cell? ⟨gm, j, none⟩ = wc.cell? ⟨gm, j, none⟩ := fun j => World.cell?_of_block (a := ⟨gm, j, none⟩) (by
              have h0 := HJ.out.qr.m
              rw [hvm] at h0
              rcases h0.2 with ⟨e', _⟩ | ⟨g', cap', cur, e', _, hr', _⟩
              · simp at e'
              · simp at e'
                have e1 : gm = g' := e'.1
                subst e1
                exact (hf7.keep _ _ _ hr' (by decide)).trans hr'.symm)
            have s4 := (smb (i * 5)).trans g0
            have s5 := (smb (i * 5 + 1)).trans g1
            have s6 := (smb (i * 5 + 2)).trans g2
            have s7 := (smb (i * 5 + 3)).trans g3'
            have s8 := (smb (i * 5 + 4)).trans g4
            clear smb qr7 ho7 hb7 hf7
            go_wp2_with fail
            refine hK'.out _ _ (by go_keep) (fun hHeld => ?_)
            clear hK' K'
            try simp only [Act.put, List.setIfInBounds_toArray, List.set_cons_zero, List.set_cons_succ]
            refine wpAnyH_ready (rs := [13]) (by kernel_rfl) (by simp) ?_
            refine AllReadyH.cons rfl (fun K' hK' => ?_) AllReadyH.nil
            go_simp
            have co : ∀ b o, b ≠ w3.heap.size → (w7.setCell ⟨w3.heap.size, 0, none⟩ (.slice (some ⟨g7, 0, none⟩) n7 c7)).cell? ⟨b, o, none⟩ = w7.cell? ⟨b, o, none⟩ := fun b o hne => World.cell?_of_block (a := ⟨b, o, none⟩) (heap_setCell_other _ _ _ _ (show b ≠ w3.heap.size from hne))
            refine hK'.out _ _ ⟨(co _ _ y1).trans s0, (co _ _ y2).trans s1, (co _ _ (by omega)).trans s2, (co _ _ (by omega)).trans s3, (co _ _ y3).trans s4, (co _ _ y3).trans s5, (co _ _ y3).trans s6, (co _ _ y3).trans s7, (co _ _ y3).trans s8⟩ (fun hHeld => ?_)
            clear hK' K'
            try simp only [Act.put, List.setIfInBounds_toArray, List.set_cons_zero, List.set_cons_succ]
            refine wpAnyH_done (by kernel_rfl) ?_ _
            refine NoPanic.normal ?_
            clear co s0 s1 s2 s3 s4 s5 s6 s7 s8 g0 g1 g2 g3' g4 f0 f7 fh fk fa ff
            go_wp2_with fail
            go_roundw
            case rel => exact ⟨k + 1, _, by omega, by go_num, HR7.out⟩
            case measure => simp [intOf]; omega
        · have hke : k = cnt := by omega
          subst hke
          have cA : wr.cell? ⟨w3.heap.size, 0, none⟩ = some av := cell_of_one hI.hga
          clear hI
          go_wp2_with fail
          go_ret3
          have h4 := HZ4.out
          exact ⟨w1.heap.size, w3.heap.size, w2.heap.size, av, .inr ⟨by omega, rfl, HIR.out, by omega, by omega, by omega⟩⟩
end Go.Proofs.YtbdobaapadlcjaaGreatDoor

namespace Go.Proofs.YtbdobaapadlcjaaGreatDoor
open Go.RowKit
set_option linter.unusedVariables false
set_option linter.unusedSimpArgs false

theorem conv_bytes (s : ByteArray) (W : World) : (convert 9 74 (.string s)).run Tryz.prog W = .ok (.slice (some ⟨W.heap.size, 0, none⟩) s.size (grownCap W s.size 0 5)) (Lib.bytesWorld W 5 s) :=
  Lib.run_convert_string_bytes W 9 74 5 s Tryz.underlying9 Tryz.underlying74 Tryz.underlying5

/-- Bytes that can be read at v. -/
def Rdb (w : World) (v : Value) (l : List UInt8) : Prop := ∃ g cap, v = .slice (some ⟨g, 0, none⟩) l.length cap ∧ ∀ j u, (bytesV l)[j]? = some u → w.cell? ((⟨g, 0, none⟩ : Addr).add j) = some u
theorem Rdb.of_own {w : World} {base : Nat} {v : Value} {l : List UInt8} (h : OwnB w base v l) (hl : 0 < l.length) : Rdb w v l := by
  have hc := fun g (hg : v.ownBlock = some g) => World.ownsRow.cells h hg
  rcases h.2 with ⟨_, h0⟩ | ⟨g, cap, cur, rfl, _⟩
  · omega
  · exact ⟨g, cap, rfl, hc g rfl⟩
theorem Rdb.lt {w : World} {v : Value} {l : List UInt8} (h : Rdb w v l) (hl : 0 < l.length) : ∃ g cap, v = .slice (some ⟨g, 0, none⟩) l.length cap ∧ g < w.heap.size := by
  obtain ⟨g, cap, e, hc⟩ := h
  have h0 : (bytesV l)[0]? = some (.int .u8 (l[0].toNat : Int)) := by simp [bytesV, hl]
  have h1 := World.block_lt_of_cell? _ _ (hc 0 _ h0)
  have e2 : ((⟨g, 0, none⟩ : Addr).add 0).block = g := by unfold Addr.add; split <;> simp_all
  rw [e2] at h1
  exact ⟨g, cap, e, h1⟩

set_option maxRecDepth 8000 in
set_option maxHeartbeats 2000000 in
theorem receive_found (Q : QM) (V : QV) (r : Wp.Rq) (y : Sl) (qb i : Nat) (now : Int) (w : World) (h : QR w qb V Q) (hna : Q.ats.length ≤ 1000) (hid : idxL (isA r.att) Q.ats = (i : Int)) (a : At) (ha : Q.ats[i]? = some a) (has : 0 < a.ans.size) :
    Calls Tryz.prog 163 #[.pointer (some ⟨qb, 0, none⟩), .int .i64 now, .agg (cellsOf r y.v)] w fun e w' => ∃ av, e = .returned (.tuple #[av, .nilFunc, .int .i64 0]) ∧ Rdb w' av a.ans.data.toList ∧ Tch [] w w' := by
  have hcv := conv_bytes a.ans
  have hil : i < Q.ats.length := (List.getElem?_eq_some_iff.1 ha).1
  have HQ : Hid (QR w qb V Q) := h
  obtain ⟨ga, ca, hva⟩ : ∃ g c, V.a = .slice (some ⟨g, 0, none⟩) Q.ats.length c := by
    rcases h.a.2 with ⟨h0, h1⟩ | ⟨g, cap, cur, h0, _⟩
    · omega
    · exact ⟨_, _, h0⟩
  rw [show cellsOf r y.v = #[.int .u8 (r.op.toNat : Int), .int .u8 (r.q.toNat : Int), .int .u8 (r.d.toNat : Int), .int .i64 r.vis, .int .i64 r.win, .int .i64 r.rcv, .int .i64 r.quo, .int .i64 r.mx, .int .i64 r.tic, .string r.grp, .string r.ded, .string r.bod, .string r.att, .string r.han, .slice y.a y.n y.c] from rfl]
  generalize hCC : (#[.int .u8 (r.op.toNat : Int), .int .u8 (r.q.toNat : Int), .int .u8 (r.d.toNat : Int), .int .i64 r.vis, .int .i64 r.win, .int .i64 r.rcv, .int .i64 r.quo, .int .i64 r.mx, .int .i64 r.tic, .string r.grp, .string r.ded, .string r.bod, .string r.att, .string r.han, .slice y.a y.n y.c] : Array Value) = CC
  have HA : Hid (Calls Tryz.prog 209 #[.pointer (some ⟨qb, 0, none⟩), .string r.att] (rbox w qb CC) fun e w' => e = .returned (.int .i64 (i : Int)) ∧ Below (rbox w qb CC).heap.size (rbox w qb CC) w') := by
    have h1 := h.tch (rbox_tch w qb CC) (by simp)
    have h2 := findAttempt_gen r.att qb V.a Q.ats (rbox w qb CC) (cell_qC h1.blk 10 _ rfl) h1.a (by omega)
    rw [hid] at h2
    exact h2
  have HW0 : Hid ((rbox w qb CC).heap[w.heap.size]? = _) := rbox_0 w qb CC
  have HW1 : Hid ((rbox w qb CC).heap[w.heap.size + 1]? = some (.cells CC 27 (0, 0))) := rbox_1 w qb CC
  have HWT : Hid (Tch [] w (rbox w qb CC)) := rbox_tch w qb CC
  have ca12 : CC[12]? = some (.string r.att) := by rw [← hCC]; rfl
  clear hCC
  have k0 : (rbox w qb CC).cell? ⟨w.heap.size, 0, none⟩ = some (.pointer (some ⟨qb, 0, none⟩)) := cell_qC HW0.out 0 _ rfl
  have k12 : (rbox w qb CC).cell? ⟨w.heap.size + 1, 12, none⟩ = some (.string r.att) := cell_qC HW1.out 12 _ ca12
  have zz : (rbox w qb CC).heap.size = w.heap.size + 2 := rbox_size w qb CC
  generalize hwb : rbox w qb CC = wb at *
  clear h
  go_enter Tryz.func163, Tryz.ntmps163
  go_wp2_with fail
  rw [show (w.alloc (.cells #[.pointer (some ⟨qb, 0, none⟩)] 152)).alloc (.cells CC 27) = wb from hwb]
  refine HA.out.mono ?_
  rintro e w1 ⟨rfl, hb1⟩
  have t1 : Tch [] w w1 := HWT.out.trans (Tch.of_below hb1) (by simp)
  have hq1 := HQ.out.tch t1 (by simp)
  have B0 : w1.heap[w.heap.size]? = some (.cells #[.pointer (some ⟨qb, 0, none⟩)] 152 (0, 0)) := (hb1.block _ (by omega)).trans HW0.out
  have a0 : w1.cell? ⟨w.heap.size, 0, none⟩ = some (.pointer (some ⟨qb, 0, none⟩)) := cell_qC B0 0 _ rfl
  have a10 : w1.cell? ⟨qb, 10, none⟩ = some (.slice (some ⟨ga, 0, none⟩) Q.ats.length ca) := by rw [← hva]; exact cell_qC hq1.blk 10 _ rfl
  have a2 : w1.cell? ⟨ga, i * 3 + 2, none⟩ = some (.string a.ans) := by
    have h0 := hq1.a
    rw [hva] at h0
    have inh : Inhabited At := ⟨⟨⟨#[]⟩, 0, ⟨#[]⟩⟩⟩
    have h1 := own_cells At.row 3 (fun _ => rfl) h0 i hil 2 (.string a.ans) (by
      rw [List.getElem!_eq_getElem?_getD, ha]
      rfl)
    simpa using h1
  have HT1 : Hid (Tch [] w w1) := t1
  clear hb1 k0 k12 hwb t1 hq1 B0 HA HW0 HW1 HWT zz
  go_wp2_with fail
  go_ret3
  have tb : Tch [] w1 (Lib.bytesWorld w1 5 a.ans) := ⟨rfl, rfl, rfl, by rw [Lib.bytesWorld_size]; omega, fun k hk _ => Lib.bytesWorld_at_old w1 5 a.ans k hk⟩
  refine ⟨_, rfl, ⟨w1.heap.size, _, rfl, fun j u hj => ?_⟩, HT1.out.trans tb (by simp)⟩
  have hjl : j < a.ans.size := by
    have := (List.getElem?_eq_some_iff.1 hj).1
    simpa [bytesV] using this
  have e2 : (⟨w1.heap.size, 0, none⟩ : Addr).add j = ⟨w1.heap.size, j, none⟩ := by unfold Addr.add; split <;> simp_all
  rw [e2, Lib.bytesWorld_cell w1 5 a.ans j hjl]
  have hj' := hj
  simp only [bytesV, List.getElem?_map] at hj'
  have hjl' : j < a.ans.data.toList.length := hjl
  rw [List.getElem?_eq_getElem hjl'] at hj'
  simp only [Option.map_some, Option.some.injEq] at hj'
  rw [← hj']
  simp [List.getD, hjl]
end Go.Proofs.YtbdobaapadlcjaaGreatDoor

namespace Go.Proofs.YtbdobaapadlcjaaGreatDoor
open Go.RowKit
set_option linter.unusedVariables false
set_option linter.unusedSimpArgs false

theorem flat_set {α : Type} (row : α → List Value) (k : Nat) (hk : ∀ x, (row x).length = k) (l : List α) (i j : Nat) (v : Value) (x' : α) (hi : i < l.length) (hj : j < k) (hx : row x' = (row l[i]).set j v) : (l.flatMap row).set (i * k + j) v = (l.set i x').flatMap row := by
  induction l generalizing i with
  | nil => simp at hi
  | cons x l ih =>
    cases i with
    | zero =>
      rw [List.set_cons_zero, List.flatMap_cons, List.flatMap_cons, Nat.zero_mul, Nat.zero_add, List.set_append_left _ _ (by rw [hk]; exact hj), hx]
      rfl
    | succ i =>
      have e : (i + 1) * k + j = (row x).length + (i * k + j) := by rw [hk, Nat.add_mul, Nat.one_mul]; omega
      rw [List.set_cons_succ, List.flatMap_cons, List.flatMap_cons, e, List.set_append_right _ _ (by omega), Nat.add_sub_cancel_left, ih i (by simpa using hi) hx]

/-- A message in flight, once more. -/
def flyM (til : Int) (m : Ms) : Ms := { m with rcv := (oft m.rcv.toNat : Nat), til := til }
def flyAt (til : Int) (ms : List Ms) (z : Int) : List Ms := match ms[z.toNat]? with
  | some m => ms.set z.toNat (flyM til m)
  | none => ms
def flyAll (til : Int) (ms : List Ms) (zs : List Int) : List Ms := zs.foldl (flyAt til) ms
theorem flyAt_len (til : Int) (ms : List Ms) (z : Int) : (flyAt til ms z).length = ms.length := by
  unfold flyAt; split <;> simp
theorem flyAll_len (til : Int) (ms : List Ms) (zs : List Int) : (flyAll til ms zs).length = ms.length := by
  unfold flyAll
  induction zs generalizing ms with
  | nil => rfl
  | cons z zs ih => rw [List.foldl_cons, ih, flyAt_len]
theorem flyM_ok (til : Int) (m : Ms) (h : MsOk m) : MsOk (flyM til m) := ⟨h.num, ⟨by show (0 : Int) ≤ ((oft m.rcv.toNat : Nat) : Int); omega, by show ((oft m.rcv.toNat : Nat) : Int) ≤ 65535; have := oft_le m.rcv.toNat; omega⟩, h.grp, h.bod⟩
theorem flyAt_ok (til : Int) (ms : List Ms) (z : Int) (h : ∀ m ∈ ms, MsOk m) : ∀ m ∈ flyAt til ms z, MsOk m := by
  unfold flyAt
  split
  · rename_i m hm
    intro x hx
    rcases List.mem_or_eq_of_mem_set hx with hx | hx
    · exact h x hx
    · rw [hx]; exact flyM_ok til m (h m (List.mem_of_getElem? hm))
  · exact h
theorem flyAll_ok (til : Int) (ms : List Ms) (zs : List Int) (h : ∀ m ∈ ms, MsOk m) : ∀ m ∈ flyAll til ms zs, MsOk m := by
  unfold flyAll
  induction zs generalizing ms with
  | nil => exact h
  | cons z zs ih => rw [List.foldl_cons]; exact ih _ (flyAt_ok til ms z h)

/-- What Receive's closure has caught. -/
structure Cap (wr : World) (qb : Nat) (CC : Array Value) (cnt g0 gc ga base : Nat) (til : Int) (hds : List Int) (av : Value) (ans : List UInt8) : Prop where
  hgq : wr.heap[g0]? = some (.cells #[.pointer (some ⟨qb, 0, none⟩)] 152 (0, 0))
  hgr : wr.heap[g0 + 1]? = some (.cells CC 27 (0, 0))
  hgc : wr.heap[gc]? = some (.cells #[.int .i64 (cnt : Int)] 3 (0, 0))
  hga : wr.heap[ga]? = some (.cells #[av] 74 (0, 0))
  hgu : wr.heap[ga + 1]? = some (.cells #[.int .i64 til] 3 (0, 0))
  hhb : wr.heap[ga + 1 + 1]? = some (.cells (intRow hds cnt) 3 (0, 0))
  hgh : wr.heap[ga + 1 + 1 + 1]? = some (.cells #[.slice (some ⟨ga + 1 + 1, 0, none⟩) cnt cnt] 258 (0, 0))
  own : OwnB wr base av ans
theorem RcI.cap {w wr : World} {qb : Nat} {V : QV} {Q : QM} {CC : Array Value} {cnt gc ga base : Nat} {til : Int} {kh ka : Nat} {av : Value} (h : RcI w wr qb V Q CC cnt gc ga base til kh ka av) : Cap wr qb CC cnt w.heap.size gc ga base til (hdsL Q kh) av (ansL Q cnt ka) :=
  ⟨h.hgq, h.hgr, h.hgc, h.hga, h.hgu, h.hhb, h.hgh, h.own⟩
theorem Cap.keep {B : Nat} {T : List TypeId} {w w' : World} {qb : Nat} {CC : Array Value} {cnt g0 gc ga base : Nat} {til : Int} {hds : List Int} {av : Value} {ans : List UInt8} (h : Cap w qb CC cnt g0 gc ga base til hds av ans) (hf : Fr B T w w') (hT : ∀ t ∈ [152, 27, 3, 74, 258, 5], t ∉ T) : Cap w' qb CC cnt g0 gc ga base til hds av ans :=
  ⟨hf.keep _ _ _ h.hgq (hT _ (by decide)), hf.keep _ _ _ h.hgr (hT _ (by decide)), hf.keep _ _ _ h.hgc (hT _ (by decide)), hf.keep _ _ _ h.hga (hT _ (by decide)), hf.keep _ _ _ h.hgu (hT _ (by decide)), hf.keep _ _ _ h.hhb (hT _ (by decide)), hf.keep _ _ _ h.hgh (hT _ (by decide)), hf.own h.own (hT _ (by decide))⟩

/-- The messages' row is written. -/
theorem QR.setM {w : World} {qb : Nat} {V : QV} {Q : QM} (h : QR w qb V Q) {gm cm : Nat} (hvm : V.m = .slice (some ⟨gm, 0, none⟩) Q.ms.length cm) (i j : Nat) (v : Value) (x' : Ms) (hi : i < Q.ms.length) (hj : j < 5) (hx : x'.row = (Q.ms[i]).row.set j v) :
    QR (w.setCell ⟨gm, i * 5 + j, none⟩ v) qb V { Q with ms := Q.ms.set i x' } ∧ Tch [gm] w (w.setCell ⟨gm, i * 5 + j, none⟩ v) ∧ Fr 0 [226] w (w.setCell ⟨gm, i * 5 + j, none⟩ v) := by
  have t1 : Tch [gm] w (w.setCell ⟨gm, i * 5 + j, none⟩ v) := (Tch.refl _ _).setCell (fun _ => by simp) _
  have hm := h.m
  rw [hvm] at hm
  obtain ⟨C, hC⟩ : ∃ C, w.heap[gm]? = some (.cells C 226 (0, 0)) := by
    rcases hm.2 with ⟨e, _⟩ | ⟨g', cap', cur, e, _, hr, _⟩
    · simp at e
    · simp at e
      obtain ⟨e1, _⟩ := e
      subst e1
      exact ⟨_, hr⟩
  have hf : Fr 0 [226] w (w.setCell ⟨gm, i * 5 + j, none⟩ v) := Fr.one t1 (Nat.zero_le _) (Nat.zero_le _) hC (by decide)
  refine ⟨⟨hf.keep _ _ _ h.blk (by decide), ?_, hf.own h.r (by decide), hf.own h.d (by decide), hf.own h.a (by decide)⟩, t1, hf⟩
  have h2 := (World.ownsRow.stored hm (i * 5 + j) v).1
  show World.ownsRow _ 0 226 5 V.m (Q.ms.set i x').length ((Q.ms.set i x').flatMap Ms.row)
  rw [hvm, List.length_set, ← flat_set Ms.row 5 (fun _ => rfl) Q.ms i j v x' hi hj hx]
  exact h2
end Go.Proofs.YtbdobaapadlcjaaGreatDoor

namespace Go.Proofs.YtbdobaapadlcjaaGreatDoor
open Go.Shelf Go.RowKit Go.Lib
set_option linter.unusedVariables false

def l214_ren : Go.Shelf.Ren := ⟨fun | 24 => 214 | n => n, fun | 24 => 25 | 9 => 9 | 3 => 3 | 0 => 0 | 4 => 4 | n => n, fun | n => n⟩
theorem l214 : Go.Proofs.Lays2.n24 Tryz.prog l214_ren := {
  mixed := by kernel_rfl
  f24 := Tryz.func214.trans (congrArg some (by kernel_rfl))
  t0 := Tryz.underlying0
  a0 := Tryz.isAgg0
  z0 := Tryz.sizeOf0
  v0 := Tryz.zeroValue0
  t3 := Tryz.underlying3
  a3 := Tryz.isAgg3
  z3 := Tryz.sizeOf3
  v3 := Tryz.zeroValue3
  t4 := Tryz.underlying4
  a4 := Tryz.isAgg4
  z4 := Tryz.sizeOf4
  v4 := Tryz.zeroValue4
  t9 := Tryz.underlying9
  a9 := Tryz.isAgg9
  z9 := Tryz.sizeOf9
  v9 := Tryz.zeroValue9
  t24 := Tryz.underlying25
  a24 := Tryz.isAgg25
  z24 := Tryz.sizeOf25
  v24 := Tryz.zeroValue25
  i9 := by kernel_rfl }

/-- Cells from o on. -/
def putMany : List Value → Nat → List Value → List Value
  | xs, _, [] => xs
  | xs, o, v :: r => putMany (xs.set o v) (o + 1) r
theorem own_setCells {base e size n cap g : Nat} : ∀ (vs : List Value) (o : Nat) (w : World) (xs : List Value), w.ownsRow base e size (.slice (some ⟨g, 0, none⟩) n cap) n xs → (w.setCells g o vs).ownsRow base e size (.slice (some ⟨g, 0, none⟩) n cap) n (putMany xs o vs)
  | [], _, _, _, h => h
  | v :: r, o, w, xs, h => own_setCells r (o + 1) _ _ (World.ownsRow.stored h o v).1
theorem putMany_all (pre xs vs : List Value) (h : xs.length = vs.length) : putMany (pre ++ xs) pre.length vs = pre ++ vs := by
  induction vs generalizing pre xs with
  | nil =>
    have : xs = [] := List.length_eq_zero_iff.1 h
    simp [putMany, this]
  | cons v r ih =>
    cases xs with
    | nil => simp at h
    | cons x xs =>
      simp only [putMany]
      rw [List.set_append_right _ _ (Nat.le_refl _), Nat.sub_self, List.set_cons_zero]
      have e1 : pre ++ v :: xs = (pre ++ [v]) ++ xs := by simp
      have e2 : pre.length + 1 = (pre ++ [v]).length := by simp
      rw [e1, e2, ih (pre ++ [v]) xs (by simpa using h)]
      simp
theorem tch_setCells (g : Nat) : ∀ (vs : List Value) (o : Nat) (w : World), Tch [g] w (w.setCells g o vs)
  | [], _, w => Tch.refl _ _
  | v :: r, o, w => ((Tch.refl [g] w).setCell (fun _ => by simp) v).trans (tch_setCells g r (o + 1) _) (fun _ h _ => h)
/-- A row is cut. -/
theorem own_cut {w : World} {base e size n n' cap g : Nat} {xs : List Value} (h : w.ownsRow base e size (.slice (some ⟨g, 0, none⟩) n cap) n xs) (hn : n' ≤ n) : w.ownsRow base e size (.slice (some ⟨g, 0, none⟩) n' cap) n' (xs.take (n' * size)) := by
  have hle : n' * size ≤ n * size := Nat.mul_le_mul_right _ hn
  refine ⟨by rw [List.length_take, h.1]; omega, ?_⟩
  rcases h.2 with ⟨h', _⟩ | ⟨g', cap', cur, h', hb, hg, hnc, hcm, hcs, htake⟩
  · simp at h'
  · simp only [Value.slice.injEq, Option.some.injEq, Addr.mk.injEq, and_true, true_and] at h'
    obtain ⟨rfl, rfl⟩ := h'
    refine .inr ⟨g, cap, cur, rfl, hb, hg, by omega, hcm, hcs, ?_⟩
    rw [← htake, List.take_take, Nat.min_eq_left hle]

theorem delete_ready (rs : List ByteArray) (g c cnt : Nat) (w : World) (ho : w.ownsRow 0 9 1 (.slice (some ⟨g, 0, none⟩) rs.length c) rs.length (rs.map Value.string)) (hc : cnt ≤ rs.length) :
    Calls Tryz.prog 214 #[.slice (some ⟨g, 0, none⟩) rs.length c, .int .i64 0, .int .i64 (cnt : Int)] w fun e w' => e = .returned (.slice (some ⟨g, 0, none⟩) (rs.length - cnt) c) ∧ w'.ownsRow 0 9 1 (.slice (some ⟨g, 0, none⟩) (rs.length - cnt) c) (rs.length - cnt) ((rs.drop cnt).map Value.string) ∧ Tch [g] w w' := by
  obtain ⟨hnc, hcm, hrow⟩ : rs.length ≤ c ∧ c ≤ maxLen ∧ ∃ cur, w.heap[g]? = some (.cells cur 9 (0, 0)) := by
    rcases ho.2 with ⟨h', _⟩ | ⟨g', cap', cur, h', hb, hg, hnc, hcm, hcs, htake⟩
    · simp at h'
    · simp only [Value.slice.injEq, Option.some.injEq, Addr.mk.injEq, and_true, true_and] at h'
      obtain ⟨rfl, rfl⟩ := h'
      exact ⟨hnc, hcm, cur, hg⟩
  obtain ⟨cur, hrow⟩ := hrow
  have hcell : ∀ i, i < rs.length → w.cell? ⟨g, 0 + i, none⟩ = some (.string (rs.getD i ⟨#[]⟩)) := fun i hi => by
    have h1 := World.ownsRow.cells ho (g := g) rfl i (.string (rs.getD i ⟨#[]⟩)) (by simp [hi])
    have e2 : (⟨g, 0, none⟩ : Addr).add i = ⟨g, 0 + i, none⟩ := by unfold Addr.add; split <;> simp_all
    rw [e2] at h1
    exact h1
  refine (Any.slices_Delete_string_cells l214 g 0 rs.length c 0 cnt (fun i => rs.getD i ⟨#[]⟩) w hnc (by unfold maxLen at hcm; omega) (Nat.zero_le _) hc hcell (fun j hj => frozen_of_row w g _ cur 9 hrow)).mono ?_
  rintro e w' ⟨rfl, q, rfl⟩
  have hst : Lib.strsOf (fun i => rs.getD i ⟨#[]⟩) rs.length = rs.map (fun s => s.data.toList) := by
    apply List.ext_getElem
    · simp [Lib.strsOf]
    · intro i h1 h2
      simp [Lib.strsOf] at h1 ⊢
      simp [h1]
  have hw : (w.drewN q).ownsRow 0 9 1 (.slice (some ⟨g, 0, none⟩) rs.length c) rs.length (rs.map Value.string) := ho
  have t1 : Tch [] w (w.drewN q) := (Tch.refl [] w).drewN q
  refine ⟨rfl, ?_, (t1.sub (by simp)).trans (tch_setCells g _ 0 _) (fun _ h _ => h)⟩
  have h2 := own_setCells ((((Lib.strsOf (fun i => rs.getD i ⟨#[]⟩) rs.length).take 0 ++ (Lib.strsOf (fun i => rs.getD i ⟨#[]⟩) rs.length).drop cnt ++ List.replicate (cnt - 0) []).map encStr)) 0 (w.drewN q) _ hw
  have e1 : putMany (rs.map Value.string) 0 ((((Lib.strsOf (fun i => rs.getD i ⟨#[]⟩) rs.length).take 0 ++ (Lib.strsOf (fun i => rs.getD i ⟨#[]⟩) rs.length).drop cnt ++ List.replicate (cnt - 0) []).map encStr)) = (((Lib.strsOf (fun i => rs.getD i ⟨#[]⟩) rs.length).take 0 ++ (Lib.strsOf (fun i => rs.getD i ⟨#[]⟩) rs.length).drop cnt ++ List.replicate (cnt - 0) []).map encStr) := by
    have h3 := putMany_all [] (rs.map Value.string) (((Lib.strsOf (fun i => rs.getD i ⟨#[]⟩) rs.length).take 0 ++ (Lib.strsOf (fun i => rs.getD i ⟨#[]⟩) rs.length).drop cnt ++ List.replicate (cnt - 0) []).map encStr) (by simp [Lib.strsOf_length]; omega)
    simpa using h3
  rw [e1] at h2
  have h4 := own_cut h2 (n' := rs.length - cnt) (by omega)
  have e2 : ((((Lib.strsOf (fun i => rs.getD i ⟨#[]⟩) rs.length).take 0 ++ (Lib.strsOf (fun i => rs.getD i ⟨#[]⟩) rs.length).drop cnt ++ List.replicate (cnt - 0) []).map encStr)).take ((rs.length - cnt) * 1) = (rs.drop cnt).map Value.string := by
    rw [hst]
    simp only [List.take_zero, List.nil_append, Nat.mul_one, List.map_append]
    rw [List.take_append_of_le_length (by simp), List.take_of_length_le (by simp)]
    have e3 : (rs.map (fun s => s.data.toList)).map encStr = rs.map Value.string := by
      rw [List.map_map]
      apply List.map_congr_left
      intro s _
      cases s
      simp [encStr]
    rw [List.map_drop, e3, List.map_drop]
  rw [e2] at h4
  exact h4
end Go.Proofs.YtbdobaapadlcjaaGreatDoor

namespace Go.Proofs.YtbdobaapadlcjaaGreatDoor
open Go.RowKit
set_option linter.unusedVariables false
set_option linter.unusedSimpArgs false

theorem info234 : (Tryz.prog.info? 234).map (fun i => (i.zero, i.size, i.bytes)) = some (some (.agg #[.string ⟨#[]⟩, .int .i64 0, .string ⟨#[]⟩]), 3, 40) := by kernel_rfl
/-- The queue behind an attempt that is kept. -/
def remQ (Q : QM) (a : At) : QM := if a.id.size = 0 then Q else { Q with ats := Q.ats ++ [a] }
abbrev atV (a : At) : List Value := [.string a.id, .int .i64 a.til, .string a.ans]

theorem rem_fin (Q : QM) (V : QV) (a : At) (qb : Nat) (w W : World) (ht : Tch [] w W) (h : QR W qb V Q)
    (v' : Value) (w' : World) (ho : w'.ownsRow 0 234 3 v' (Q.ats.length + 1) (Q.ats.flatMap At.row ++ atV a)) (hg : (W.drew.alloc (.cells (atV a).toArray 234)).grownBy w' V.a.ownBlock) (hb : v'.ownBlock = V.a.ownBlock ∨ v'.ownBlock = some (W.drew.alloc (.cells (atV a).toArray 234)).heap.size) :
    ∃ g4 cap4, v' = .slice (some ⟨g4, 0, none⟩) (Q.ats.length + 1) cap4 ∧ w'.cell? ⟨qb, 10, none⟩ = some V.a ∧ w'.frozen? ⟨qb, 10, none⟩ = false ∧ (w'.setCell ⟨qb, 10, none⟩ v').cell? ⟨qb, 10, none⟩ = some v' ∧ qb < w'.heap.size ∧
      QL w (w'.setCell ⟨qb, 10, none⟩ v') qb V { Q with ats := Q.ats ++ [a] } := by
  obtain ⟨g4, cap4, hv⟩ := own_some ho
  have t1 : Tch [] W (W.drew.alloc (.cells (atV a).toArray 234)) := (Tch.refl _ _).drew.alloc _
  have t2 : Tch (bl V.a) W w' := (t1.sub (by simp)).trans (grown_tch hg) (fun x hx _ => hx)
  have f2 : Fr 0 [234] W w' := Fr.of_tch t2 (Nat.zero_le _) (fun _ _ => Nat.zero_le _) (fun b hb' C t hC => by
    by_cases e : 234 = t
    · rw [← e]; decide
    · exact absurd (mem_bl.1 hb') (own_ne h.a hC e))
  have hq1 : Qb w' qb Q.c (Q.next : Int) V.m V.r V.d V.a := f2.keep _ _ _ h.blk (by decide)
  have hq2 := hq1.set10 v'
  have t3 : Tch [qb] w' (w'.setCell ⟨qb, 10, none⟩ v') := (Tch.refl _ _).setCell (fun _ => by simp) _
  have f3 : Fr 0 [191] w' (w'.setCell ⟨qb, 10, none⟩ v') := Fr.one t3 (Nat.zero_le _) (Nat.zero_le _) hq1 (by decide)
  refine ⟨g4, cap4, hv, cell_qC hq1 10 _ rfl, hq1.fz 10, cell_qC hq2 10 _ rfl, hq1.lt, ⟨V.m, V.r, V.d, v'⟩, ⟨hq2, f3.own (f2.own h.m (by decide)) (by decide), f3.own (f2.own h.r (by decide)) (by decide), f3.own (f2.own h.d (by decide)) (by decide), ?_⟩, ?_, fun b hb' => ?_⟩
  · have h5 := f3.own ho (by decide)
    simpa [At.row, atV] using h5
  · refine ((ht.sub (S' := qbl qb V) (by simp)).trans t2 (fun x hx _ => mem_qbl.2 (.inr (.inr (.inr (.inr (mem_bl.1 hx))))))).trans t3 (fun x hx _ => mem_qbl.2 (.inl (by simpa using hx)))
  · rcases mem_qbl.1 hb' with e | e | e | e | e
    · exact .inl (mem_qbl.2 (.inl e))
    · exact .inl (mem_qbl.2 (.inr (.inl e)))
    · exact .inl (mem_qbl.2 (.inr (.inr (.inl e))))
    · exact .inl (mem_qbl.2 (.inr (.inr (.inr (.inl e)))))
    · rcases hb with h0 | h0
      · exact .inl (mem_qbl.2 (.inr (.inr (.inr (.inr (h0.symm.trans e))))))
      · right
        have e' : v'.ownBlock = some b := e
        rw [e'] at h0
        injection h0 with h0
        have := ht.size
        have := t1.size
        omega

set_option maxRecDepth 8000 in
set_option maxHeartbeats 2000000 in
theorem remember_any (Q : QM) (V : QV) (a : At) (qb : Nat) (w : World) (h : QR w qb V Q) (hn : Q.ats.length < 20) :
    Calls Tryz.prog 215 #[.pointer (some ⟨qb, 0, none⟩), .agg #[.string a.id, .int .i64 a.til, .string a.ans]] w fun e w' => e = .returned (.tuple #[]) ∧ QL w w' qb V (remQ Q a) := by
  have HQ : Hid (QR w qb V Q) := h
  by_cases hz : a.id.size = 0
  · have e0 : a.id = ⟨#[]⟩ := toList_nil _ hz
    have hr : Hid (remQ Q a = Q) := by show _ = _; unfold remQ; rw [if_pos hz]
    rw [e0]
    clear h
    go_enter Tryz.func215, Tryz.ntmps215
    go_wp2_with fail
    refine bodyPost_ret (results_none rfl _ _ _) rfl ⟨rfl, ?_⟩
    rw [hr.out]
    exact ⟨V, HQ.out.tch ((Tch.refl [] w).alloc _) (by simp), ((Tch.refl [] w).alloc _).sub (by simp), fun _ h => .inl h⟩
  · have hne := ne_nil _ hz
    have hr : Hid (remQ Q a = { Q with ats := Q.ats ++ [a] }) := by show _ = _; unfold remQ; rw [if_neg hz]
    obtain ⟨wa, hwa⟩ : ∃ wa, wa = w.alloc (.cells #[.string a.id, .int .i64 a.til, .string a.ans] 234) := ⟨_, rfl⟩
    have ta : Tch [] w wa := by rw [hwa]; exact (Tch.refl [] w).alloc _
    have ha := h.tch ta (by simp)
    have HWA : Hid (QR wa qb V Q) := ha
    have HTA : Hid (Tch [] w wa) := ta
    have hbx : wa.heap[w.heap.size]? = some (.cells #[.string a.id, .int .i64 a.til, .string a.ans] 234 (0, 0)) := by rw [hwa]; exact heap_alloc_new _ _
    have b0 : wa.cell? ⟨w.heap.size, 0, none⟩ = some (.string a.id) := cell_qC hbx 0 _ rfl
    have b1 : wa.cell? ⟨w.heap.size, 1, none⟩ = some (.int .i64 a.til) := cell_qC hbx 1 _ rfl
    have b2 : wa.cell? ⟨w.heap.size, 2, none⟩ = some (.string a.ans) := cell_qC hbx 2 _ rfl
    have q10 : wa.cell? ⟨qb, 10, none⟩ = some V.a := cell_qC ha.blk 10 _ rfl
    have hlt := ha.blk.lt
    have hlb := lt_of_block hbx
    have HG : Hid (∀ v' w', w'.ownsRow 0 234 3 v' (Q.ats.length + 1) (Q.ats.flatMap At.row ++ atV a) → (wa.drew.alloc (.cells (atV a).toArray 234)).grownBy w' V.a.ownBlock → (v'.ownBlock = V.a.ownBlock ∨ v'.ownBlock = some (wa.drew.alloc (.cells (atV a).toArray 234)).heap.size) → _) := fun v' w' => rem_fin Q V a qb w wa ta ha v' w'
    clear h ha ta hbx hz
    go_enter Tryz.func215, Tryz.ntmps215
    go_wp2_with fail
    rw [← hwa]
    clear hwa
    go_region_law (refine step_vals rfl (.tmp 11) (.tmp 13) 189 234 rfl Tryz.underlying189 (.agg #[.string ⟨#[]⟩, .int .i64 0, .string ⟨#[]⟩]) 3 40 info234 rfl (by decide) (by decide) V.a Q.ats.length (Q.ats.flatMap At.row) (by simp [Act.eval, Act.put]) (own_tch HWA.out.a ((Tch.refl [] _).drew.alloc _) (fun _ _ => by simp)) wa.heap.size (atV a) 1 (by simp [Act.eval, Act.put]) rfl (by decide) (heap_alloc_new _ _) (by intro u hu; simp at hu; rcases hu with rfl | rfl | rfl <;> rfl) (by omega) ?_; intro v' w9 ho3 hg3 hb3; obtain ⟨g4, cap4, hv4, c9, z9, c10, l9, hfin⟩ := HG.out v' w9 ho3 hg3 hb3; subst hv4; clear ho3 hg3 hb3; have HFIN : Hid (QL _ _ _ _ _) := hfin; clear hfin)
    all_goals (go_wp2_with fail; go_end0; exact ⟨rfl, by rw [hr.out]; exact HFIN.out⟩)
end Go.Proofs.YtbdobaapadlcjaaGreatDoor

namespace Go.Proofs.YtbdobaapadlcjaaGreatDoor
open Go.RowKit
set_option linter.unusedVariables false
set_option linter.unusedSimpArgs false

/-- The queue behind messages that were received. -/
def recvQ (Q : QM) (att : ByteArray) (cnt : Nat) (til : Int) (ans : List UInt8) : QM := remQ { Q with ms := flyAll til Q.ms (hdsL Q cnt), rs := Q.rs.drop cnt } ⟨att, til, ⟨ans.toArray⟩⟩

theorem flyAll_snoc (til : Int) (ms : List Ms) (zs : List Int) (z : Int) : flyAll til ms (zs ++ [z]) = flyAt til (flyAll til ms zs) z := by
  simp [flyAll, List.foldl_append]

set_option maxRecDepth 8000 in
set_option maxHeartbeats 4000000 in
theorem recvd_any (Q : QM) (V : QV) (CC : Array Value) (att : ByteArray) (qb cnt g0 gc ga base : Nat) (til : Int) (av : Value) (ans : List UInt8) (w : World) (h : QR w qb V Q) (hcp : Cap w qb CC cnt g0 gc ga base til (hdsL Q cnt) av ans) (hatt : CC[12]? = some (.string att)) (hc1 : 0 < cnt ∧ cnt ≤ 1000) (hcl : cnt ≤ Q.rs.length) (hrd : ∀ g ∈ Q.rs, 0 ≤ idxL (isG g) Q.ms) (hms : ∀ m ∈ Q.ms, MsOk m) (hnm : Q.ms.length ≤ 1000) (hna : Q.ats.length < 20) (han : 0 < ans.length) :
    Calls Tryz.prog 212 #[.pointer (some ⟨ga + 1 + 1 + 1, 0, none⟩), .pointer (some ⟨g0, 0, none⟩), .pointer (some ⟨ga + 1, 0, none⟩), .pointer (some ⟨gc, 0, none⟩), .pointer (some ⟨g0 + 1, 0, none⟩), .pointer (some ⟨ga, 0, none⟩)] w fun e w' => e = .returned (.tuple #[]) ∧ QL w w' qb V (recvQ Q att cnt til ans) := by
  have HQ : Hid (QR w qb V Q) := h
  have HC : Hid (Cap w qb CC cnt g0 gc ga base til (hdsL Q cnt) av ans) := hcp
  have hhl : (hdsL Q cnt).length = cnt := by simp [hdsL]; omega
  obtain ⟨gr0, cr, hvr⟩ : ∃ g c, V.r = .slice (some ⟨g, 0, none⟩) Q.rs.length c := by
    rcases h.r.2 with ⟨h0, h1⟩ | ⟨g, cap, cur, h0, _⟩
    · omega
    · exact ⟨_, _, h0⟩
  have hml : 0 < Q.ms.length := by
    have hm0 : Q.rs[0]'(by omega) ∈ Q.rs := List.getElem_mem _
    have h1 := hrd _ hm0
    have h2 := idxL_lt (isG (Q.rs[0]'(by omega))) Q.ms
    omega
  obtain ⟨gm, cm, hvm⟩ : ∃ g c, V.m = .slice (some ⟨g, 0, none⟩) Q.ms.length c := by
    rcases h.m.2 with ⟨h0, h1⟩ | ⟨g, cap, cur, h0, _⟩
    · omega
    · exact ⟨_, _, h0⟩
  have y0 : g0 ≠ qb := fun e => by
    have h1 := hcp.hgq
    have h2 : w.heap[qb]? = _ := h.blk
    rw [e, h2] at h1
    simp at h1
  have y1 : gc ≠ qb := fun e => by
    have h1 := hcp.hgc
    have h2 : w.heap[qb]? = _ := h.blk
    rw [e, h2] at h1
    simp at h1
  have c0 : w.cell? ⟨ga + 1 + 1 + 1, 0, none⟩ = some (.slice (some ⟨ga + 1 + 1, 0, none⟩) cnt cnt) := cell_of_one hcp.hgh
  clear h hcp
  go_enter Tryz.func212, Tryz.ntmps212
  go_wp2_with fail
  go_loopw [11] (fun v wr => ∃ k : Nat, k ≤ cnt ∧ v = .int .i64 (k : Int) ∧ QR wr qb V { Q with ms := flyAll til Q.ms ((hdsL Q cnt).take k) } ∧ Cap wr qb CC cnt g0 gc ga base til (hdsL Q cnt) av ans ∧ Tch [gm] w wr) (fun v _ => cnt - (intOf v).toNat)
  case atStart => exact ⟨0, Nat.zero_le _, rfl, HQ.out, HC.out, Tch.refl _ _⟩
  case round =>
    obtain ⟨k, hk, rfl, hqr, hcp, htc⟩ := hrel
    have HCP : Hid (Cap wr qb CC cnt g0 gc ga base til (hdsL Q cnt) av ans) := hcp
    have HTC : Hid (Tch [gm] w wr) := htc
    by_cases hlt : k < cnt
    · have hkl : k < Q.rs.length := by omega
      have hz0 := hrd Q.rs[k] (List.getElem_mem _)
      have hzl := idxL_lt (isG Q.rs[k]) Q.ms
      obtain ⟨i, hi⟩ : ∃ i : Nat, idxL (isG Q.rs[k]) Q.ms = (i : Int) := ⟨_, (Int.toNat_of_nonneg hz0).symm⟩
      have hzk : (hdsL Q cnt)[k]'(by omega) = (i : Int) := by simp [hdsL, hi]
      have hmk : ∀ m ∈ flyAll til Q.ms ((hdsL Q cnt).take k), MsOk m := flyAll_ok til Q.ms _ hms
      have hmkl := flyAll_len til Q.ms ((hdsL Q cnt).take k)
      have hnext : Hid (flyAll til Q.ms ((hdsL Q cnt).take (k + 1)) = flyAt til (flyAll til Q.ms ((hdsL Q cnt).take k)) (i : Int)) := by
        show _ = _
        rw [List.take_succ_eq_append_getElem (by omega), hzk, flyAll_snoc]
      generalize flyAll til Q.ms ((hdsL Q cnt).take k) = mk at hqr hmk hmkl hnext
      have hil : i < mk.length := by omega
      obtain ⟨m, hm⟩ : ∃ m, mk[i]? = some m := ⟨_, List.getElem?_eq_getElem hil⟩
      have hmi : mk[i] = m := by rw [List.getElem?_eq_getElem hil] at hm; exact Option.some.inj hm
      have hok := hmk m (List.mem_of_getElem? hm)
      obtain ⟨rcv, hrcv⟩ : ∃ n : Nat, m.rcv = (n : Int) := ⟨_, (Int.toNat_of_nonneg hok.rcv.1).symm⟩
      have hvm' : V.m = .slice (some ⟨gm, 0, none⟩) mk.length cm := by rw [hvm, hmkl]
      obtain ⟨hq1, ht1, hf1⟩ := hqr.setM hvm' i 3 (.int .i64 (oft rcv : Nat)) { m with rcv := (oft rcv : Nat) } hil (by decide) (by rw [hmi]; rfl)
      have hset1 : (mk.set i { m with rcv := (oft rcv : Nat) })[i]'(by simpa using hil) = { m with rcv := (oft rcv : Nat) } := by simp
      obtain ⟨hq2, ht2, hf2⟩ := hq1.setM (Q := { Q with ms := mk.set i { m with rcv := (oft rcv : Nat) } }) (gm := gm) (cm := cm) (by rw [hvm']; simp) i 4 (.int .i64 til) (flyM til m) (by simpa using hil) (by decide) (by
        show (flyM til m).row = (Ms.row ((mk.set i { m with rcv := (oft rcv : Nat) })[i]'_)).set 4 _
        rw [hset1]
        simp [flyM, Ms.row, hrcv])
      have HN : Hid (QR ((wr.setCell ⟨gm, i * 5 + 3, none⟩ (.int .i64 (oft rcv : Nat))).setCell ⟨gm, i * 5 + 4, none⟩ (.int .i64 til)) qb V { Q with ms := flyAll til Q.ms ((hdsL Q cnt).take (k + 1)) } ∧ Cap ((wr.setCell ⟨gm, i * 5 + 3, none⟩ (.int .i64 (oft rcv : Nat))).setCell ⟨gm, i * 5 + 4, none⟩ (.int .i64 til)) qb CC cnt g0 gc ga base til (hdsL Q cnt) av ans ∧ Tch [gm] w ((wr.setCell ⟨gm, i * 5 + 3, none⟩ (.int .i64 (oft rcv : Nat))).setCell ⟨gm, i * 5 + 4, none⟩ (.int .i64 til))) := by
        refine ⟨?_, (hcp.keep hf1 (by decide)).keep hf2 (by decide), (htc.trans ht1 (fun _ h _ => h)).trans ht2 (fun _ h _ => h)⟩
        have e : flyAll til Q.ms ((hdsL Q cnt).take (k + 1)) = mk.set i (flyM til m) := by
          rw [hnext.out]
          unfold flyAt
          rw [Int.toNat_natCast, hm]
        rw [e]
        simpa using hq2
      have HOF : Hid (∀ W, Calls Tryz.prog 213 #[.int .i64 (rcv : Int)] W fun e w' => e = .returned (.int .i64 (oft rcv : Nat)) ∧ w' = W) := fun W => oftener_any rcv W (by have := hok.rcv; omega)
      have d1 : wr.cell? ⟨ga + 1 + 1, k, none⟩ = some (.int .i64 (i : Int)) := by
        refine cell_qC hcp.hhb k _ ?_
        rw [intRow_get _ _ k (by omega), hzk]
      have d2 : wr.cell? ⟨g0, 0, none⟩ = some (.pointer (some ⟨qb, 0, none⟩)) := cell_of_one hcp.hgq
      have d3 : wr.cell? ⟨qb, 7, none⟩ = some (.slice (some ⟨gm, 0, none⟩) mk.length cm) := by rw [← hvm']; exact cell_qC hqr.blk 7 _ rfl
      have hmrow := hqr.m
      rw [hvm'] at hmrow
      have d4 : wr.cell? ⟨gm, i * 5 + 3, none⟩ = some (.int .i64 (rcv : Int)) := by
        have inh : Inhabited Ms := ⟨⟨0, ⟨#[]⟩, ⟨#[]⟩, 0, 0⟩⟩
        have h1 := own_cells Ms.row 5 (fun _ => rfl) hmrow i hil 3 (.int .i64 (rcv : Int)) (by
          rw [List.getElem!_eq_getElem?_getD, hm]
          simp [Ms.row, hrcv])
        simpa using h1
      have d5 : (wr.setCell ⟨gm, i * 5 + 3, none⟩ (.int .i64 (oft rcv : Nat))).cell? ⟨gm, i * 5 + 4, none⟩ = some (.int .i64 m.til) := by
        have inh : Inhabited Ms := ⟨⟨0, ⟨#[]⟩, ⟨#[]⟩, 0, 0⟩⟩
        have hr2 := hq1.m
        rw [hvm'] at hr2
        have e0 : mk.length = (mk.set i { m with rcv := (oft rcv : Nat) }).length := by simp
        rw [e0] at hr2
        have h1 := own_cells Ms.row 5 (fun _ => rfl) hr2 i (by simpa using hil) 4 (.int .i64 m.til) (by
          show (Ms.row ((mk.set i { m with rcv := (oft rcv : Nat) })[i]!))[4]? = _
          rw [List.getElem!_eq_getElem?_getD, List.getElem?_set_self hil]
          rfl)
        simpa using h1
      have f3 : wr.frozen? ⟨gm, i * 5 + 3, none⟩ = false := World.ownsRow.frozenAt hmrow _
      have f4 : (wr.setCell ⟨gm, i * 5 + 3, none⟩ (.int .i64 (oft rcv : Nat))).frozen? ⟨gm, i * 5 + 4, none⟩ = false := by
        have hr2 := hq1.m
        rw [hvm'] at hr2
        have e0 : mk.length = (mk.set i { m with rcv := (oft rcv : Nat) }).length := by simp
        rw [e0] at hr2
        exact World.ownsRow.frozenAt hr2 _
      have d6 : (wr.setCell ⟨gm, i * 5 + 3, none⟩ (.int .i64 (oft rcv : Nat))).cell? ⟨ga + 1, 0, none⟩ = some (.int .i64 til) := cell_of_one (hf1.keep _ _ _ hcp.hgu (by decide))
      clear hqr hcp htc hq1 ht1 hf1 hq2 ht2 hf2 hmrow hmk hok
      go_wp2_with (go_at_call 213; refine (HOF.out _).mono ?_; rintro e w' ⟨rfl, h'⟩; have h'' := h'.symm; subst h'')
      go_roundw
      case rel => exact ⟨k + 1, by omega, by go_num, HN.out⟩
      case measure => simp [intOf]; omega
    · have hke : cnt = k := by omega
      subst hke
      have hmall : (hdsL Q cnt).take cnt = hdsL Q cnt := List.take_of_length_le (by omega)
      rw [hmall] at hqr
      generalize hMS : flyAll til Q.ms (hdsL Q cnt) = MS at hqr
      have HMS : Hid (flyAll til Q.ms (hdsL Q cnt) = MS) := hMS
      have HQR : Hid (QR wr qb V { Q with ms := MS }) := hqr
      have hrr := hqr.r
      rw [hvr] at hrr
      have HRB : Hid (∃ C, wr.heap[gr0]? = some (.cells C 9 (0, 0))) := by
        rcases hrr.2 with ⟨e, _⟩ | ⟨g', cap', cur, e, _, hr, _⟩
        · simp at e
        · simp at e
          obtain ⟨e1, _⟩ := e
          subst e1
          exact ⟨_, hr⟩
      have HDL : Hid (Calls Tryz.prog 214 #[.slice (some ⟨gr0, 0, none⟩) Q.rs.length cr, .int .i64 0, .int .i64 (cnt : Int)] wr.drew fun e w' => e = .returned (.slice (some ⟨gr0, 0, none⟩) (Q.rs.length - cnt) cr) ∧ w'.ownsRow 0 9 1 (.slice (some ⟨gr0, 0, none⟩) (Q.rs.length - cnt) cr) (Q.rs.length - cnt) ((Q.rs.drop cnt).map Value.string) ∧ Tch [gr0] wr.drew w') := delete_ready Q.rs gr0 cr cnt wr.drew hrr hcl
      have e0 : wr.cell? ⟨g0, 0, none⟩ = some (.pointer (some ⟨qb, 0, none⟩)) := cell_of_one hcp.hgq
      have ec : wr.cell? ⟨gc, 0, none⟩ = some (.int .i64 (cnt : Int)) := cell_of_one hcp.hgc
      have e8 : wr.cell? ⟨qb, 8, none⟩ = some (.slice (some ⟨gr0, 0, none⟩) Q.rs.length cr) := by rw [← hvr]; exact cell_qC hqr.blk 8 _ rfl
      have lq := hqr.blk.lt
      have lg := lt_of_block hcp.hgq
      have lc := lt_of_block hcp.hgc
      clear hqr hcp htc hrr hmall c0
      go_wp2_with fail
      refine wp_region_noPanic ?_
      refine wp_region_held_drew (S := (fun w' => w'.cell? ⟨g0, 0, none⟩ = some (.pointer (some ⟨qb, 0, none⟩)) ∧ w'.cell? ⟨gc, 0, none⟩ = some (.int .i64 (cnt : Int)))) (by kernel_rfl) (by go_keep) (fun hHeld => ?_)
      refine wpAnyH_take (i := 0) (v := ?_) rfl (by kernel_rfl) (by kernel_rfl) (by kernel_rfl) (fun _ _ _ h => h) (Or.inl ⟨by rfl, ?_⟩) (by assumption) ?_
      rotate_left
      · (intro w hSw; (try dsimp only at hSw); go_simp; try with_reducible rfl)
      try simp only [Act.put, List.setIfInBounds_toArray, List.set_cons_zero, List.set_cons_succ]
      refine wpAnyH_take (i := 1) (v := ?_) rfl (by kernel_rfl) (by kernel_rfl) (by kernel_rfl) (fun _ _ _ h => h) (Or.inl ⟨by rfl, ?_⟩) (by assumption) ?_
      rotate_left
      · (intro w hSw; (try dsimp only at hSw); go_simp; try with_reducible rfl)
      try simp only [Act.put, List.setIfInBounds_toArray, List.set_cons_zero, List.set_cons_succ]
      refine wpAnyH_take (i := 2) (v := ?_) rfl (by kernel_rfl) (by kernel_rfl) (by kernel_rfl) (fun _ _ _ h => h) (Or.inl ⟨by rfl, ?_⟩) (by assumption) ?_
      rotate_left
      · (intro w hSw; (try dsimp only at hSw); go_simp; try with_reducible rfl)
      try simp only [Act.put, List.setIfInBounds_toArray, List.set_cons_zero, List.set_cons_succ]
      refine wpAnyH_take (i := 3) (v := ?_) rfl (by kernel_rfl) (by kernel_rfl) (by kernel_rfl) (fun _ _ _ h => h) (Or.inl ⟨by rfl, ?_⟩) (by assumption) ?_
      rotate_left
      · (intro w hSw; (try dsimp only at hSw); go_simp; try with_reducible rfl)
      try simp only [Act.put, List.setIfInBounds_toArray, List.set_cons_zero, List.set_cons_succ]
      refine wpAnyH_take (i := 5) (v := ?_) rfl (by kernel_rfl) (by kernel_rfl) (by kernel_rfl) (fun _ _ _ h => h) (Or.inl ⟨by rfl, ?_⟩) (by assumption) ?_
      rotate_left
      · (intro w hSw; (try dsimp only at hSw); go_simp; try with_reducible rfl)
      try simp only [Act.put, List.setIfInBounds_toArray, List.set_cons_zero, List.set_cons_succ]
      refine wpAnyH_ready (rs := [4]) (by kernel_rfl) (by simp) ?_
      refine AllReadyH.cons rfl (fun K' hK' => ?_) AllReadyH.nil
      go_simp
      refine hK'.out _ _ (by go_keep) (fun hHeld => ?_)
      clear hK' K'
      try simp only [Act.put, List.setIfInBounds_toArray, List.set_cons_zero, List.set_cons_succ]
      refine wpAnyH_ready (rs := [6]) (by kernel_rfl) (by simp) ?_
      refine AllReadyH.cons rfl (fun K' hK' => ?_) AllReadyH.nil
      go_simp
      refine HDL.out.mono ?_
      rintro e w7 ⟨rfl, ho7, ht7⟩
      have hf7 : Fr 0 [9] wr w7 := (Fr.of_nil [9] (Tch.refl [] wr).drew (Nat.zero_le _)).trans (Fr.of_tch ht7 (Nat.zero_le _) (fun _ _ => Nat.zero_le _) (fun b hb C t hC => by
        simp at hb
        subst hb
        obtain ⟨C', hC'⟩ := HRB.out
        have hC2 : wr.heap[b]? = some (.cells C t (0, 0)) := hC
        rw [hC'] at hC2
        simp at hC2
        rw [← hC2.2]; decide))
      have hq7 : Qb w7 qb Q.c (Q.next : Int) V.m (.slice (some ⟨gr0, 0, none⟩) Q.rs.length cr) V.d V.a := hf7.keep _ _ _ (by rw [← hvr]; exact HQR.out.blk) (by decide)
      have s0 : w7.cell? ⟨g0, 0, none⟩ = some (.pointer (some ⟨qb, 0, none⟩)) := cell_of_one (hf7.keep _ _ _ HCP.out.hgq (by decide))
      have s1 : w7.cell? ⟨gc, 0, none⟩ = some (.int .i64 (cnt : Int)) := cell_of_one (hf7.keep _ _ _ HCP.out.hgc (by decide))
      have s8 : w7.cell? ⟨qb, 8, none⟩ = some (.slice (some ⟨gr0, 0, none⟩) Q.rs.length cr) := cell_qC hq7 8 _ rfl
      have z8 := hq7.fz 8
      have H7 : Hid (Fr 0 [9] wr w7 ∧ Qb w7 qb Q.c (Q.next : Int) V.m (.slice (some ⟨gr0, 0, none⟩) Q.rs.length cr) V.d V.a ∧ w7.ownsRow 0 9 1 (.slice (some ⟨gr0, 0, none⟩) (Q.rs.length - cnt) cr) (Q.rs.length - cnt) ((Q.rs.drop cnt).map Value.string) ∧ Tch [gr0] wr w7) := ⟨hf7, hq7, ho7, ((Tch.refl [gr0] wr).drew).trans ht7 (fun _ h _ => h)⟩
      clear ho7 ht7 hf7 hq7
      go_wp2_with fail
      refine hK'.out _ _ (by go_keep) (fun hHeld => ?_)
      clear hK' K'
      try simp only [Act.put, List.setIfInBounds_toArray, List.set_cons_zero, List.set_cons_succ]
      refine wpAnyH_take (i := 7) (v := ?_) rfl (by kernel_rfl) (by kernel_rfl) (by kernel_rfl) (fun _ _ _ h => h) (Or.inl ⟨by rfl, ?_⟩) (by assumption) ?_
      rotate_left
      · (intro w hSw; (try dsimp only at hSw); go_simp; try with_reducible rfl)
      try simp only [Act.put, List.setIfInBounds_toArray, List.set_cons_zero, List.set_cons_succ]
      refine wpAnyH_take (i := 8) (v := ?_) rfl (by kernel_rfl) (by kernel_rfl) (by kernel_rfl) (fun _ _ _ h => h) (Or.inl ⟨by rfl, ?_⟩) (by assumption) ?_
      rotate_left
      · (intro w hSw; (try dsimp only at hSw); go_simp; try with_reducible rfl)
      try simp only [Act.put, List.setIfInBounds_toArray, List.set_cons_zero, List.set_cons_succ]
      refine wpAnyH_ready (rs := [9]) (by kernel_rfl) (by simp) ?_
      refine AllReadyH.cons rfl (fun K' hK' => ?_) AllReadyH.nil
      go_simp
      have co : ∀ b o, b ≠ qb → (w7.setCell ⟨qb, 8, none⟩ (.slice (some ⟨gr0, 0, none⟩) (Q.rs.length - cnt) cr)).cell? ⟨b, o, none⟩ = w7.cell? ⟨b, o, none⟩ := fun b o hne => World.cell?_of_block (a := ⟨b, o, none⟩) (heap_setCell_other _ _ _ _ (show b ≠ qb from hne))
      refine hK'.out _ _ ⟨(co _ _ y0).trans s0, (co _ _ y1).trans s1⟩ (fun hHeld => ?_)
      clear hK' K'
      try simp only [Act.put, List.setIfInBounds_toArray, List.set_cons_zero, List.set_cons_succ]
      refine wpAnyH_done (by kernel_rfl) ?_ _
      refine NoPanic.normal ?_
      have H8 : Hid (QR (w7.setCell ⟨qb, 8, none⟩ (.slice (some ⟨gr0, 0, none⟩) (Q.rs.length - cnt) cr)) qb ⟨V.m, .slice (some ⟨gr0, 0, none⟩) (Q.rs.length - cnt) cr, V.d, V.a⟩ { Q with ms := MS, rs := Q.rs.drop cnt } ∧ Cap (w7.setCell ⟨qb, 8, none⟩ (.slice (some ⟨gr0, 0, none⟩) (Q.rs.length - cnt) cr)) qb CC cnt g0 gc ga base til (hdsL Q cnt) av ans ∧ Tch (qbl qb V) w (w7.setCell ⟨qb, 8, none⟩ (.slice (some ⟨gr0, 0, none⟩) (Q.rs.length - cnt) cr))) := by
        have hq7 := H7.out.2.1
        have t8 : Tch [qb] w7 (w7.setCell ⟨qb, 8, none⟩ (.slice (some ⟨gr0, 0, none⟩) (Q.rs.length - cnt) cr)) := (Tch.refl _ _).setCell (fun _ => by simp) _
        have f8 : Fr 0 [191] w7 (w7.setCell ⟨qb, 8, none⟩ (.slice (some ⟨gr0, 0, none⟩) (Q.rs.length - cnt) cr)) := Fr.one t8 (Nat.zero_le _) (Nat.zero_le _) hq7 (by decide)
        have h0 := HQR.out
        refine ⟨⟨hq7.set8 _, f8.own (H7.out.1.own h0.m (by decide)) (by decide), ?_, f8.own (H7.out.1.own h0.d (by decide)) (by decide), f8.own (H7.out.1.own h0.a (by decide)) (by decide)⟩, (HCP.out.keep H7.out.1 (by decide)).keep f8 (by decide), ?_⟩
        · have h5 := f8.own H7.out.2.2.1 (by decide)
          have e5 : (Q.rs.drop cnt).length = Q.rs.length - cnt := by simp
          show World.ownsRow _ 0 9 1 _ (Q.rs.drop cnt).length ((Q.rs.drop cnt).map Value.string)
          rw [e5]
          exact h5
        · refine (((HTC.out.sub (S' := qbl qb V) (fun x hx _ => ?_)).trans H7.out.2.2.2 (fun x hx _ => ?_))).trans t8 (fun x hx _ => ?_)
          · simp at hx; subst hx; exact mem_qbl.2 (.inr (.inl (by rw [hvm]; rfl)))
          · simp at hx; subst hx; exact mem_qbl.2 (.inr (.inr (.inl (by rw [hvr]; rfl))))
          · simp at hx; exact mem_qbl.2 (.inl hx)
      clear co s0 s1 s8 z8 e0 ec e8 HDL HRB H7
      generalize hw8 : w7.setCell ⟨qb, 8, none⟩ (.slice (some ⟨gr0, 0, none⟩) (Q.rs.length - cnt) cr) = w8 at *
      have r0 : w8.cell? ⟨g0, 0, none⟩ = some (.pointer (some ⟨qb, 0, none⟩)) := cell_of_one H8.out.2.1.hgq
      have r1 : w8.cell? ⟨g0 + 1, 12, none⟩ = some (.string att) := cell_qC H8.out.2.1.hgr 12 _ hatt
      have r2 : w8.cell? ⟨ga + 1, 0, none⟩ = some (.int .i64 til) := cell_of_one H8.out.2.1.hgu
      have r3 : w8.cell? ⟨ga, 0, none⟩ = some av := cell_of_one H8.out.2.1.hga
      have hstr : (convert 74 9 av).run Tryz.prog w8 = .ok (.string ⟨ans.toArray⟩) w8 := OwnB.str H8.out.2.1.own han
      have HRM : Hid (Calls Tryz.prog 215 #[.pointer (some ⟨qb, 0, none⟩), .agg #[.string att, .int .i64 til, .string ⟨ans.toArray⟩]] w8 fun e w' => e = .returned (.tuple #[]) ∧ QL w8 w' qb ⟨V.m, .slice (some ⟨gr0, 0, none⟩) (Q.rs.length - cnt) cr, V.d, V.a⟩ (remQ { Q with ms := MS, rs := Q.rs.drop cnt } ⟨att, til, ⟨ans.toArray⟩⟩)) := remember_any _ _ ⟨att, til, ⟨ans.toArray⟩⟩ qb w8 H8.out.1 hna
      clear hw8
      go_wp2_with fail
      refine HRM.out.mono ?_
      rintro e w9 ⟨rfl, V9, hq9, ht9, hn9⟩
      have HF : Hid (QL w w9 qb V (recvQ Q att cnt til ans)) := by
        have hsub : ∀ x, x ∈ qbl qb ⟨V.m, .slice (some ⟨gr0, 0, none⟩) (Q.rs.length - cnt) cr, V.d, V.a⟩ → x ∈ qbl qb V := fun x hx => by
          rcases mem_qbl.1 hx with e | e | e | e | e
          · exact mem_qbl.2 (.inl e)
          · exact mem_qbl.2 (.inr (.inl e))
          · exact mem_qbl.2 (.inr (.inr (.inl (by rw [hvr]; exact e))))
          · exact mem_qbl.2 (.inr (.inr (.inr (.inl e))))
          · exact mem_qbl.2 (.inr (.inr (.inr (.inr e))))
        refine ⟨V9, ?_, H8.out.2.2.trans ht9 (fun x hx _ => hsub x hx), fun b hb => ?_⟩
        · unfold recvQ
          rw [HMS.out]
          exact hq9
        · rcases hn9 b hb with h1 | h1
          · exact .inl (hsub b h1)
          · exact .inr (Nat.le_trans H8.out.2.2.size h1)
      clear hq9 ht9 hn9
      go_wp2_with fail
      go_end0
      exact ⟨rfl, HF.out⟩
end Go.Proofs.YtbdobaapadlcjaaGreatDoor

namespace Go.Proofs.YtbdobaapadlcjaaGreatDoor
open Go.Shelf Go.RowKit Go.Lib
set_option linter.unusedVariables false
set_option linter.unusedSimpArgs false

theorem putMany_take (vs : List Value) : ∀ (xs : List Value) (o m : Nat), m ≤ o → (putMany xs o vs).take m = xs.take m := by
  induction vs with
  | nil => intro xs o m _; rfl
  | cons v r ih =>
    intro xs o m h
    simp only [putMany]
    rw [ih (xs.set o v) (o + 1) m (by omega), List.take_set_of_le h]
theorem putMany_mid (vs : List Value) : ∀ (pre ys post : List Value), ys.length = vs.length → putMany (pre ++ (ys ++ post)) pre.length vs = pre ++ (vs ++ post) := by
  induction vs with
  | nil =>
    intro pre ys post h
    have e : ys = [] := List.length_eq_zero_iff.1 h
    simp [putMany, e]
  | cons v r ih =>
    intro pre ys post h
    cases ys with
    | nil => simp at h
    | cons y ys =>
      simp only [putMany, List.cons_append]
      rw [List.set_append_right _ _ (Nat.le_refl _), Nat.sub_self, List.set_cons_zero]
      have e1 : pre ++ v :: (ys ++ post) = (pre ++ [v]) ++ (ys ++ post) := by simp
      have e2 : pre.length + 1 = (pre ++ [v]).length := by simp
      rw [e1, e2, ih (pre ++ [v]) ys post (by simpa using h)]
      simp
theorem flat_put {α : Type} (row : α → List Value) (k : Nat) (hk : ∀ x, (row x).length = k) (L : List α) (i : Nat) (x : α) (hi : i < L.length) : putMany (L.flatMap row) (i * k) (row x) = (L.set i x).flatMap row := by
  have e1 : L.flatMap row = (L.take i).flatMap row ++ (row L[i] ++ (L.drop (i + 1)).flatMap row) := by
    rw [← List.flatMap_cons, ← List.flatMap_append, List.getElem_cons_drop, List.take_append_drop]
  have e2 : ((L.take i).flatMap row).length = i * k := by rw [flat_len row k hk, List.length_take, Nat.min_eq_left (by omega)]
  rw [e1, ← e2, putMany_mid _ _ _ _ (by rw [hk, hk]), List.set_eq_take_append_cons_drop, if_pos hi, List.flatMap_append, List.flatMap_cons]
theorem flat_take {α : Type} (row : α → List Value) (k : Nat) (hk : ∀ x, (row x).length = k) (L : List α) (i : Nat) (hi : i ≤ L.length) : (L.flatMap row).take (i * k) = (L.take i).flatMap row := by
  have e1 : L.flatMap row = (L.take i).flatMap row ++ (L.drop i).flatMap row := by rw [← List.flatMap_append, List.take_append_drop]
  have e2 : ((L.take i).flatMap row).length = i * k := by rw [flat_len row k hk, List.length_take, Nat.min_eq_left (by omega)]
  rw [e1, ← e2, List.take_left']
  rfl
/-- Struck so far: L holds what is kept up to j, then whatever, then l from j on. -/
structure Dl {α : Type} (p : α → Bool) (l L : List α) (k j : Nat) : Prop where
  kj : k < j
  jn : j ≤ l.length
  len : L.length = l.length
  tk : L.take k = (l.take j).filter (fun x => !p x)
  dr : L.drop j = l.drop j
theorem Dl.get {α : Type} {p : α → Bool} {l L : List α} {k j : Nat} (h : Dl p l L k j) (hj : j < l.length) : L[j]? = l[j]? := by
  have h1 := congrArg (fun z => z[0]?) h.dr
  simpa using h1
theorem Dl.keep {α : Type} {p : α → Bool} {l L : List α} {k j : Nat} (h : Dl p l L k j) (x : α) (hx : l[j]? = some x) (hp : p x = false) : Dl p l (L.set k x) (k + 1) (j + 1) := by
  have hj : j < l.length := (List.getElem?_eq_some_iff.1 hx).1
  have hxe : l[j] = x := (List.getElem?_eq_some_iff.1 hx).2
  have hk := h.kj
  have hl := h.len
  refine ⟨by omega, by omega, by rw [List.length_set]; exact h.len, ?_, ?_⟩
  · have e1 : (L.set k x).take (k + 1) = L.take k ++ [x] := by
      rw [List.take_succ_eq_append_getElem (by simp; omega), List.take_set_of_le (Nat.le_refl _)]
      simp
    rw [e1, h.tk, List.take_succ_eq_append_getElem hj, List.filter_append, hxe]
    simp [hp]
  · rw [List.drop_set_of_lt (show k < j + 1 by omega)]
    have h1 := congrArg (List.drop 1) h.dr
    simpa using h1
theorem Dl.skip {α : Type} {p : α → Bool} {l L : List α} {k j : Nat} (h : Dl p l L k j) (x : α) (hx : l[j]? = some x) (hp : p x = true) : Dl p l L k (j + 1) := by
  have hj : j < l.length := (List.getElem?_eq_some_iff.1 hx).1
  have hxe : l[j] = x := (List.getElem?_eq_some_iff.1 hx).2
  have hk := h.kj
  refine ⟨by omega, by omega, h.len, ?_, ?_⟩
  · rw [h.tk, List.take_succ_eq_append_getElem hj, List.filter_append, hxe]
    simp [hp]
  · have h1 := congrArg (List.drop 1) h.dr
    simpa using h1
theorem idxL_first {α : Type} (p : α → Bool) : ∀ (l : List α) (i : Nat), idxL p l = (i : Int) → Dl p l l i (i + 1)
  | [], i, h => by simp [idxL] at h
  | x :: l, i, h => by
    simp only [idxL] at h
    by_cases hx : p x = true
    · rw [if_pos hx] at h
      have hi : i = 0 := by omega
      subst hi
      exact ⟨by omega, by simp, rfl, by simp [hx], rfl⟩
    · rw [if_neg hx] at h
      have hg := idxL_ge p l
      have hx' : p x = false := by simpa using hx
      split at h
      · omega
      · have ih := idxL_first p l (i - 1) (by omega)
        have hi : i - 1 + 1 = i := by omega
        have hjn := ih.jn
        rw [hi] at ih hjn
        refine ⟨by omega, by simp; omega, rfl, ?_, rfl⟩
        have h1 := ih.tk
        rw [List.take_succ_cons, List.filter_cons]
        simp only [hx', Bool.not_false, if_true]
        rw [← h1]
        cases i with
        | zero => omega
        | succ i => simp
theorem idxL_none {α : Type} (p : α → Bool) (l : List α) (h : idxL p l < 0) : l.filter (fun x => !p x) = l := by
  rw [List.filter_eq_self]
  intro x hx
  rw [(idxL_neg p l).1 h x hx]
  rfl


theorem idx_delD (v : Value) (l : List Dd) (now : Int) (B : Nat) (w : World) (ho : w.ownsRow 0 230 3 v l.length (l.flatMap Dd.row)) (hl : l.length ≤ 1000000) (hB : B < w.heap.size) (hcell : w.cell? ⟨B, 0, none⟩ = some (.int .i64 now)) :
    Calls Tryz.prog 268 #[v, .func (.func 294) #[] #[.pointer (some ⟨B, 0, none⟩)]] w fun e w' => e = .returned (.int .i64 (idxL (fun x => decide (x.til ≤ now)) l)) ∧ Below w.heap.size w w' := by
  have inh : Inhabited Dd := ⟨⟨⟨#[]⟩, 0, 0⟩⟩
  rcases ho.2 with ⟨rfl, h0⟩ | ⟨gd, cap, cur, rfl, _, hg, _⟩
  · have e0 : l = [] := List.length_eq_zero_iff.1 h0
    subst e0
    refine (idx_dd_none none 0 _ w).mono ?_
    rintro e w' ⟨rfl, rfl⟩
    exact ⟨rfl, Below.refl _ _⟩
  · have h := AnyQ.slices_IndexFunc l201 3 Tryz.isAgg230 Tryz.sizeOf230 Dd.row (fun _ => rfl) (fun x => decide (x.til ≤ now)) 294 #[.pointer (some ⟨B, 0, none⟩)] eg241 gd 0 l.length cap l w (del_pred now B w hB hcell) (Nat.le_refl _) (by omega) (lt_of_block hg) (fun j hj i v hi => own_cells Dd.row 3 (fun _ => rfl) ho j hj i v hi)
    rw [List.take_length, idxBy_eq] at h
    exact h
theorem zeroD (w : World) : (zeroValue 230).run Tryz.prog w = .ok (.agg #[.string ⟨#[]⟩, .int .i64 0, .int .i64 0]) w := by kernel_rfl
theorem run_clearD (w : World) (ty : TypeId) (g k m cd : Nat) (hc : ∀ j, j < m * 3 → (w.cell? ⟨g, k * 3 + j, none⟩).isSome = true) (hf : ∀ j, w.frozen? ⟨g, j, none⟩ = false) (hm : 0 < m) :
    (Builtin.clear_ #[188] ty #[.slice (some ⟨g, k * 3, none⟩) m cd]).run Tryz.prog w = .ok (.tuple #[]) (w.setCells g (k * 3) (Builtin.zeroCells #[.string ⟨#[]⟩, .int .i64 0, .int .i64 0] m).toList) := by
  obtain ⟨m', rfl⟩ : ∃ m', m = m' + 1 := ⟨m - 1, by omega⟩
  have hst := run_storeCells_cells (P := Tryz.prog) g (k * 3) (Builtin.zeroCells #[.string ⟨#[]⟩, .int .i64 0, .int .i64 0] (m' + 1)).toList 0 w (fun j hj => by
    rw [Nat.add_zero]
    exact hc j (by simpa [size_zeroCells] using hj)) (fun j hj => hf _) (fun v hv => by
    have hv' := Array.mem_toList_iff.1 hv
    unfold Builtin.zeroCells at hv'
    obtain ⟨i, hi, rfl⟩ := Array.mem_map.1 hv'
    have h3 : i % 3 = 0 ∨ i % 3 = 1 ∨ i % 3 = 2 := by omega
    show Value.oneCell' (#[.string ⟨#[]⟩, .int .i64 0, .int .i64 0][i % 3]!) = true
    rcases h3 with h | h | h <;> rw [h] <;> rfl)
  have hz : (Value.agg #[.string ⟨#[]⟩, .int .i64 0, .int .i64 0]).cells = #[.string ⟨#[]⟩, .int .i64 0, .int .i64 0] := rfl
  simp only [Nat.add_zero] at hst
  simp [Builtin.clear_, run_underlying Tryz.underlying188, zeroD, hz, hst]

set_option maxRecDepth 8000 in
set_option maxHeartbeats 4000000 in
theorem delD_any (v : Value) (l : List Dd) (now : Int) (B : Nat) (w : World) (ho : w.ownsRow 0 230 3 v l.length (l.flatMap Dd.row)) (hl : l.length ≤ 1000000) (hB : w.heap[B]? = some (.cells #[.int .i64 now] 3 (0, 0))) :
    Calls Tryz.prog 293 #[v, .func (.func 294) #[] #[.pointer (some ⟨B, 0, none⟩)]] w fun e w' => ∃ v', e = .returned v' ∧ v'.ownBlock = v.ownBlock ∧ w'.ownsRow 0 230 3 v' (l.filter (fun x => !decide (x.til ≤ now))).length ((l.filter (fun x => !decide (x.til ≤ now))).flatMap Dd.row) ∧ Tch (bl v) w w' := by
  have inh : Inhabited Dd := ⟨⟨⟨#[]⟩, 0, 0⟩⟩
  have hBl := lt_of_block hB
  have HB : Hid (w.heap[B]? = some (.cells #[.int .i64 now] 3 (0, 0))) := hB
  have HI : Hid (Calls Tryz.prog 268 _ w _) := idx_delD v l now B w ho hl hBl (cell_of_one hB)
  by_cases hneg : idxL (fun x : Dd => decide (x.til ≤ now)) l < 0
  · have hm1 : idxL (fun x : Dd => decide (x.til ≤ now)) l = -1 := by have := idxL_ge (fun x : Dd => decide (x.til ≤ now)) l; omega
    rw [hm1] at HI
    rw [idxL_none _ _ hneg]
    have HO : Hid (w.ownsRow 0 230 3 v l.length (l.flatMap Dd.row)) := ho
    clear hB ho hm1 hneg
    go_enter Tryz.func293, Tryz.ntmps293
    go_wp2_with (go_at_call 268; refine HI.out.mono ?_; rintro e w' ⟨rfl, hb⟩)
    go_ret
    exact ⟨v, rfl, rfl, own_tch HO.out (Tch.of_below (by assumption)) (fun _ _ => by simp), (Tch.of_below (by assumption)).sub (by simp)⟩
  · obtain ⟨i0, hi0⟩ : ∃ i : Nat, idxL (fun x : Dd => decide (x.til ≤ now)) l = (i : Int) := ⟨_, (Int.toNat_of_nonneg (by omega)).symm⟩
    have hdl := idxL_first _ l i0 hi0
    rw [hi0] at HI
    obtain ⟨gd, cd, rfl⟩ : ∃ g c, v = .slice (some ⟨g, 0, none⟩) l.length c := by
      rcases ho.2 with ⟨_, h0⟩ | ⟨g, cap, cur, h0, _⟩
      · have := hdl.jn; omega
      · exact ⟨g, cap, h0⟩
    have hcap : l.length ≤ cd := by
      rcases ho.2 with ⟨h', _⟩ | ⟨g', cap', cur, h', _, _, hnc, _⟩
      · simp at h'
      · simp at h'
        omega
    have hBg : B ≠ gd := fun e => by
      rw [e] at hB
      exact own_ne ho hB (by decide) rfl
    have HO : Hid (w.ownsRow 0 230 3 (.slice (some ⟨gd, 0, none⟩) l.length cd) l.length (l.flatMap Dd.row)) := ho
    have HD : Hid (Dl (fun x => decide (x.til ≤ now)) l l i0 (i0 + 1)) := hdl
    have hi1 : i0 < l.length := by have := hdl.jn; omega
    have hne1 : ((i0 : Int) == -1) = false := beq_eq_false_iff_ne.2 (by omega)
    clear hB ho hi0 hneg hdl
    go_enter Tryz.func293, Tryz.ntmps293
    go_wp2_with (go_at_call 268; refine HI.out.mono ?_; rintro e w' ⟨rfl, hb⟩; have T0 : Hid (Tch [gd] w w') := (Tch.of_below hb).sub (by simp); have O0 : Hid (w'.ownsRow 0 230 3 (.slice (some ⟨gd, 0, none⟩) l.length cd) l.length (l.flatMap Dd.row)) := own_tch HO.out (Tch.of_below hb) (fun _ _ => by simp); clear hb HI)
    go_loopw [5, 6] (fun iv jv wr => ∃ (k j : Nat) (L : List Dd), iv = .int .i64 (k : Int) ∧ jv = .int .i64 (j : Int) ∧ Dl (fun x => decide (x.til ≤ now)) l L k j ∧ wr.ownsRow 0 230 3 (.slice (some ⟨gd, 0, none⟩) l.length cd) L.length (L.flatMap Dd.row) ∧ Tch [gd] w wr) (fun _ jv _ => l.length - (intOf jv).toNat)
    case atStart => exact ⟨i0, i0 + 1, l, rfl, by go_num, HD.out, O0.out, T0.out⟩
    case round =>
      obtain ⟨k, j, L, rfl, rfl, hd, hor, htr⟩ := hrel
      have hkj := hd.kj
      have hjn := hd.jn
      have hll := hd.len
      have HOR : Hid (wr.ownsRow 0 230 3 (.slice (some ⟨gd, 0, none⟩) l.length cd) L.length (L.flatMap Dd.row)) := hor
      have HTR : Hid (Tch [gd] w wr) := htr
      have HDL : Hid (Dl (fun x => decide (x.til ≤ now)) l L k j) := hd
      have hgl : gd < wr.heap.size := own_lt hor rfl
      by_cases hlt : j < l.length
      · obtain ⟨x, hx⟩ : ∃ x, l[j]? = some x := ⟨_, List.getElem?_eq_getElem hlt⟩
        have hLx : L[j]? = some x := (hd.get hlt).trans hx
        have hjL : j < L.length := by omega
        have fm : ∀ i v, x.row[i]? = some v → wr.cell? ⟨gd, j * 3 + i, none⟩ = some v := fun i v hi => by
          have h1 := own_cells Dd.row 3 (fun _ => rfl) hor j hjL i v (by rw [List.getElem!_eq_getElem?_getD, hLx]; exact hi)
          simpa using h1
        have g0 : wr.cell? ⟨gd, j * 3, none⟩ = some (.string x.id) := fm 0 _ rfl
        have g1 : wr.cell? ⟨gd, j * 3 + 1, none⟩ = some (.int .i64 x.num) := fm 1 _ rfl
        have g2 : wr.cell? ⟨gd, j * 3 + 2, none⟩ = some (.int .i64 x.til) := fm 2 _ rfl
        have HP : Hid (∀ W, Tch [] wr W → Calls Tryz.prog 294 #[.agg #[(.string x.id), (.int .i64 x.num), (.int .i64 x.til)], .pointer (some ⟨B, 0, none⟩)] W fun e w' => e = .returned (.bool (decide (x.til ≤ now))) ∧ Below W.heap.size W w') := fun W hW => by
          have hBW : W.heap[B]? = some (.cells #[.int .i64 now] 3 (0, 0)) := (hW.block _ (Nat.lt_of_lt_of_le hBl HTR.out.size) (by simp)).trans ((HTR.out.block _ hBl (by simpa using hBg)).trans HB.out)
          exact del_pred now B W (lt_of_block hBW) (cell_of_one hBW) W x (Below.refl _ _)
        clear hd hor htr fm hLx
        have HP1 : Hid (Calls Tryz.prog 294 #[.agg #[(.string x.id), (.int .i64 x.num), (.int .i64 x.til)], .pointer (some ⟨B, 0, none⟩)] (wr.alloc (.cells #[(.string x.id), (.int .i64 x.num), (.int .i64 x.til)] 230)) fun e w' => e = .returned (.bool (decide (x.til ≤ now))) ∧ Tch [] wr w' ∧ w'.heap[wr.heap.size]? = some (.cells #[(.string x.id), (.int .i64 x.num), (.int .i64 x.til)] 230 (0, 0))) := (HP.out _ ((Tch.refl _ _).alloc _)).mono (by
          rintro e w' ⟨he, hb⟩
          exact ⟨he, ((Tch.refl [] wr).alloc _).trans (Tch.of_below hb) (by simp), (hb.block _ (by simp)).trans (heap_alloc_new _ _)⟩)
        clear HP
        by_cases hp : x.til ≤ now
        · have hdec : decide (x.til ≤ now) = true := by simpa using hp
          rw [hdec] at HP1
          have HPX : Hid (decide (x.til ≤ now) = true) := hdec
          clear hp hdec
          go_wp2_with fail
          refine HP1.out.mono ?_
          rintro e w1 ⟨rfl, ht1, hc1⟩
          have HR : Hid (w1.ownsRow 0 230 3 (.slice (some ⟨gd, 0, none⟩) l.length cd) L.length (L.flatMap Dd.row) ∧ Tch [gd] w w1) := ⟨own_tch HOR.out ht1 (fun _ _ => by simp), HTR.out.trans ht1 (by simp)⟩
          clear ht1 hc1 g0 g1 g2 HP1
          go_wp2_with fail
          go_roundw
          case rel => exact ⟨k, j + 1, L, rfl, by go_num, HDL.out.skip x hx HPX.out, HR.out.1, HR.out.2⟩
          case measure => simp [intOf]; omega
        · have hdec : decide (x.til ≤ now) = false := by simpa using hp
          rw [hdec] at HP1
          have HPX : Hid (decide (x.til ≤ now) = false) := hdec
          clear hp hdec
          go_wp2_with fail
          refine HP1.out.mono ?_
          rintro e w1 ⟨rfl, ht1, hc1⟩
          have ho1 := own_tch HOR.out ht1 (fun _ _ => by simp)
          have hkL : k < L.length := by omega
          obtain ⟨y, hy⟩ : ∃ y, L[k]? = some y := ⟨_, List.getElem?_eq_getElem hkL⟩
          have fk : ∀ i v, y.row[i]? = some v → w1.cell? ⟨gd, k * 3 + i, none⟩ = some v := fun i v hi => by
            have h1 := own_cells Dd.row 3 (fun _ => rfl) ho1 k hkL i v (by rw [List.getElem!_eq_getElem?_getD, hy]; exact hi)
            simpa using h1
          have k0 : w1.cell? ⟨gd, k * 3, none⟩ = some (.string y.id) := fk 0 _ rfl
          have k1 : w1.cell? ⟨gd, k * 3 + 1, none⟩ = some (.int .i64 y.num) := fk 1 _ rfl
          have k2 : w1.cell? ⟨gd, k * 3 + 2, none⟩ = some (.int .i64 y.til) := fk 2 _ rfl
          have m0 : w1.cell? ⟨wr.heap.size, 0, none⟩ = some (.string x.id) := cell_qC hc1 0 _ rfl
          have m1 : w1.cell? ⟨wr.heap.size, 1, none⟩ = some (.int .i64 x.num) := cell_qC hc1 1 _ rfl
          have m2 : w1.cell? ⟨wr.heap.size, 2, none⟩ = some (.int .i64 x.til) := cell_qC hc1 2 _ rfl
          rw [hll] at ho1
          have z0 : ∀ i, w1.frozen? ⟨gd, i, none⟩ = false := fun i => World.ownsRow.frozenAt ho1 i
          have HR : Hid ((((w1.setCell ⟨gd, k * 3, none⟩ (.string x.id)).setCell ⟨gd, k * 3 + 1, none⟩ (.int .i64 x.num)).setCell ⟨gd, k * 3 + 2, none⟩ (.int .i64 x.til)).ownsRow 0 230 3 (.slice (some ⟨gd, 0, none⟩) l.length cd) (L.set k x).length ((L.set k x).flatMap Dd.row) ∧ Tch [gd] w (((w1.setCell ⟨gd, k * 3, none⟩ (.string x.id)).setCell ⟨gd, k * 3 + 1, none⟩ (.int .i64 x.num)).setCell ⟨gd, k * 3 + 2, none⟩ (.int .i64 x.til))) := by
            refine ⟨?_, (((HTR.out.trans ht1 (by simp)).setCell (fun _ => by simp) _).setCell (fun _ => by simp) _).setCell (fun _ => by simp) _⟩
            rw [List.length_set, hll, ← flat_put Dd.row 3 (fun _ => rfl) L k x hkL]
            exact own_setCells x.row (k * 3) w1 _ ho1
          clear g0 g1 g2 HP1 ht1 hc1 ho1 fk hy
          go_wp2_with fail
          go_roundw
          case rel => exact ⟨k + 1, j + 1, L.set k x, by go_num, by go_num, HDL.out.keep x hx HPX.out, HR.out.1, HR.out.2⟩
          case measure => simp [intOf]; omega
      · have hje : l.length = j := by omega
        have hkk : (l.filter (fun x => !decide (x.til ≤ now))).length = k ∧ L.take k = l.filter (fun x => !decide (x.til ≤ now)) := by
          have h1 := hd.tk
          have e9 : l.take j = l := List.take_of_length_le (by omega)
          rw [e9] at h1
          refine ⟨?_, h1⟩
          rw [← h1, List.length_take]
          omega
        rw [hll] at hor
        have hclr := run_clearD wr 0 gd k (j - k) (cd - k) (fun i hi => by
          have h1 : k * 3 + i < (L.flatMap Dd.row).length := by rw [flat_len Dd.row 3 (fun _ => rfl)]; omega
          have h2 := World.ownsRow.cells hor (g := gd) rfl (k * 3 + i) _ (List.getElem?_eq_getElem h1)
          have e : (⟨gd, 0, none⟩ : Addr).add (k * 3 + i) = ⟨gd, k * 3 + i, none⟩ := by unfold Addr.add; split <;> simp_all
          rw [e] at h2
          rw [h2]
          rfl) (fun i => World.ownsRow.frozenAt hor i) (by omega)
        have HF : Hid ((wr.setCells gd (k * 3) (Builtin.zeroCells #[.string ⟨#[]⟩, .int .i64 0, .int .i64 0] (j - k)).toList).ownsRow 0 230 3 (.slice (some ⟨gd, 0, none⟩) k cd) (l.filter (fun x => !decide (x.til ≤ now))).length ((l.filter (fun x => !decide (x.til ≤ now))).flatMap Dd.row) ∧ Tch [gd] w (wr.setCells gd (k * 3) (Builtin.zeroCells #[.string ⟨#[]⟩, .int .i64 0, .int .i64 0] (j - k)).toList)) := by
          refine ⟨?_, htr.trans (tch_setCells gd _ _ _) (fun _ h _ => h)⟩
          have h1 := own_cut (own_setCells (Builtin.zeroCells #[.string ⟨#[]⟩, .int .i64 0, .int .i64 0] (j - k)).toList (k * 3) wr _ hor) (n' := k) (by omega)
          rw [putMany_take _ _ _ _ (Nat.le_refl _), flat_take Dd.row 3 (fun _ => rfl) L k (by omega), hkk.2] at h1
          rw [hkk.1]
          exact h1
        generalize wr.setCells gd (k * 3) (Builtin.zeroCells #[.string ⟨#[]⟩, .int .i64 0, .int .i64 0] (j - k)).toList = w2 at *
        clear hd hor htr hkk
        go_wp2_with fail
        go_ret
        exact ⟨.slice (some ⟨gd, 0, none⟩) k cd, rfl, rfl, HF.out.1, HF.out.2⟩

theorem eg296 : ∀ args w, (callFunc 296 args).run Tryz.prog w = .ok (.enter 296 args) w := enters_of Tryz.func296 (by kernel_rfl) rfl
theorem del_predA (now : Int) (B : Nat) (w : World) (hB : B < w.heap.size) (hcell : w.cell? ⟨B, 0, none⟩ = some (.int .i64 now)) :
    PredBelow Tryz.prog 296 #[.pointer (some ⟨B, 0, none⟩)] (fun x : At => .agg x.row.toArray) (fun x => decide (x.til ≤ now)) w := fun W x hb => by
  have hc : W.cell? ⟨B, 0, none⟩ = some (.int .i64 now) := (hb.cell (p := ⟨B, 0, none⟩) hB).trans hcell
  have hBW : B < W.heap.size := Nat.lt_of_lt_of_le hB hb.size
  have hne : B ≠ W.heap.size := by omega
  show Calls Tryz.prog 296 #[.agg #[.string x.id, .int .i64 x.til, .string x.ans], .pointer (some ⟨B, 0, none⟩)] W _
  go_enter Tryz.func296, Tryz.ntmps296
  go_wp2
  all_goals (go_ret; exact ⟨by simp_all, hb.alloc hb.size _⟩)

theorem idx_delA (v : Value) (l : List At) (now : Int) (B : Nat) (w : World) (ho : w.ownsRow 0 234 3 v l.length (l.flatMap At.row)) (hl : l.length ≤ 1000000) (hB : B < w.heap.size) (hcell : w.cell? ⟨B, 0, none⟩ = some (.int .i64 now)) :
    Calls Tryz.prog 262 #[v, .func (.func 296) #[] #[.pointer (some ⟨B, 0, none⟩)]] w fun e w' => e = .returned (.int .i64 (idxL (fun x => decide (x.til ≤ now)) l)) ∧ Below w.heap.size w w' := by
  have inh : Inhabited At := ⟨⟨⟨#[]⟩, 0, ⟨#[]⟩⟩⟩
  rcases ho.2 with ⟨rfl, h0⟩ | ⟨gd, cap, cur, rfl, _, hg, _⟩
  · have e0 : l = [] := List.length_eq_zero_iff.1 h0
    subst e0
    refine (idx_at_nil none 0 _ w).mono ?_
    rintro e w' ⟨rfl, rfl⟩
    exact ⟨rfl, Below.refl _ _⟩
  · have h := AnyQ.slices_IndexFunc l262 3 Tryz.isAgg234 Tryz.sizeOf234 At.row (fun _ => rfl) (fun x => decide (x.til ≤ now)) 296 #[.pointer (some ⟨B, 0, none⟩)] eg296 gd 0 l.length cap l w (del_predA now B w hB hcell) (Nat.le_refl _) (by omega) (lt_of_block hg) (fun j hj i v hi => own_cells At.row 3 (fun _ => rfl) ho j hj i v hi)
    rw [List.take_length, idxBy_eq] at h
    exact h
theorem zeroA (w : World) : (zeroValue 234).run Tryz.prog w = .ok (.agg #[.string ⟨#[]⟩, .int .i64 0, .string ⟨#[]⟩]) w := by kernel_rfl
theorem run_clearA (w : World) (ty : TypeId) (g k m cd : Nat) (hc : ∀ j, j < m * 3 → (w.cell? ⟨g, k * 3 + j, none⟩).isSome = true) (hf : ∀ j, w.frozen? ⟨g, j, none⟩ = false) (hm : 0 < m) :
    (Builtin.clear_ #[189] ty #[.slice (some ⟨g, k * 3, none⟩) m cd]).run Tryz.prog w = .ok (.tuple #[]) (w.setCells g (k * 3) (Builtin.zeroCells #[.string ⟨#[]⟩, .int .i64 0, .string ⟨#[]⟩] m).toList) := by
  obtain ⟨m', rfl⟩ : ∃ m', m = m' + 1 := ⟨m - 1, by omega⟩
  have hst := run_storeCells_cells (P := Tryz.prog) g (k * 3) (Builtin.zeroCells #[.string ⟨#[]⟩, .int .i64 0, .string ⟨#[]⟩] (m' + 1)).toList 0 w (fun j hj => by
    rw [Nat.add_zero]
    exact hc j (by simpa [size_zeroCells] using hj)) (fun j hj => hf _) (fun v hv => by
    have hv' := Array.mem_toList_iff.1 hv
    unfold Builtin.zeroCells at hv'
    obtain ⟨i, hi, rfl⟩ := Array.mem_map.1 hv'
    have h3 : i % 3 = 0 ∨ i % 3 = 1 ∨ i % 3 = 2 := by omega
    show Value.oneCell' (#[.string ⟨#[]⟩, .int .i64 0, .string ⟨#[]⟩][i % 3]!) = true
    rcases h3 with h | h | h <;> rw [h] <;> rfl)
  have hz : (Value.agg #[.string ⟨#[]⟩, .int .i64 0, .string ⟨#[]⟩]).cells = #[.string ⟨#[]⟩, .int .i64 0, .string ⟨#[]⟩] := rfl
  simp only [Nat.add_zero] at hst
  simp [Builtin.clear_, run_underlying Tryz.underlying189, zeroA, hz, hst]

set_option maxRecDepth 8000 in
set_option maxHeartbeats 4000000 in
theorem delA_any (v : Value) (l : List At) (now : Int) (B : Nat) (w : World) (ho : w.ownsRow 0 234 3 v l.length (l.flatMap At.row)) (hl : l.length ≤ 1000000) (hB : w.heap[B]? = some (.cells #[.int .i64 now] 3 (0, 0))) :
    Calls Tryz.prog 295 #[v, .func (.func 296) #[] #[.pointer (some ⟨B, 0, none⟩)]] w fun e w' => ∃ v', e = .returned v' ∧ v'.ownBlock = v.ownBlock ∧ w'.ownsRow 0 234 3 v' (l.filter (fun x => !decide (x.til ≤ now))).length ((l.filter (fun x => !decide (x.til ≤ now))).flatMap At.row) ∧ Tch (bl v) w w' := by
  have inh : Inhabited At := ⟨⟨⟨#[]⟩, 0, ⟨#[]⟩⟩⟩
  have hBl := lt_of_block hB
  have HB : Hid (w.heap[B]? = some (.cells #[.int .i64 now] 3 (0, 0))) := hB
  have HI : Hid (Calls Tryz.prog 262 _ w _) := idx_delA v l now B w ho hl hBl (cell_of_one hB)
  by_cases hneg : idxL (fun x : At => decide (x.til ≤ now)) l < 0
  · have hm1 : idxL (fun x : At => decide (x.til ≤ now)) l = -1 := by have := idxL_ge (fun x : At => decide (x.til ≤ now)) l; omega
    rw [hm1] at HI
    rw [idxL_none _ _ hneg]
    have HO : Hid (w.ownsRow 0 234 3 v l.length (l.flatMap At.row)) := ho
    clear hB ho hm1 hneg
    go_enter Tryz.func295, Tryz.ntmps295
    go_wp2_with (go_at_call 262; refine HI.out.mono ?_; rintro e w' ⟨rfl, hb⟩)
    go_ret
    exact ⟨v, rfl, rfl, own_tch HO.out (Tch.of_below (by assumption)) (fun _ _ => by simp), (Tch.of_below (by assumption)).sub (by simp)⟩
  · obtain ⟨i0, hi0⟩ : ∃ i : Nat, idxL (fun x : At => decide (x.til ≤ now)) l = (i : Int) := ⟨_, (Int.toNat_of_nonneg (by omega)).symm⟩
    have hdl := idxL_first _ l i0 hi0
    rw [hi0] at HI
    obtain ⟨gd, cd, rfl⟩ : ∃ g c, v = .slice (some ⟨g, 0, none⟩) l.length c := by
      rcases ho.2 with ⟨_, h0⟩ | ⟨g, cap, cur, h0, _⟩
      · have := hdl.jn; omega
      · exact ⟨g, cap, h0⟩
    have hcap : l.length ≤ cd := by
      rcases ho.2 with ⟨h', _⟩ | ⟨g', cap', cur, h', _, _, hnc, _⟩
      · simp at h'
      · simp at h'
        omega
    have hBg : B ≠ gd := fun e => by
      rw [e] at hB
      exact own_ne ho hB (by decide) rfl
    have HO : Hid (w.ownsRow 0 234 3 (.slice (some ⟨gd, 0, none⟩) l.length cd) l.length (l.flatMap At.row)) := ho
    have HD : Hid (Dl (fun x => decide (x.til ≤ now)) l l i0 (i0 + 1)) := hdl
    have hi1 : i0 < l.length := by have := hdl.jn; omega
    have hne1 : ((i0 : Int) == -1) = false := beq_eq_false_iff_ne.2 (by omega)
    clear hB ho hi0 hneg hdl
    go_enter Tryz.func295, Tryz.ntmps295
    go_wp2_with (go_at_call 262; refine HI.out.mono ?_; rintro e w' ⟨rfl, hb⟩; have T0 : Hid (Tch [gd] w w') := (Tch.of_below hb).sub (by simp); have O0 : Hid (w'.ownsRow 0 234 3 (.slice (some ⟨gd, 0, none⟩) l.length cd) l.length (l.flatMap At.row)) := own_tch HO.out (Tch.of_below hb) (fun _ _ => by simp); clear hb HI)
    go_loopw [5, 6] (fun iv jv wr => ∃ (k j : Nat) (L : List At), iv = .int .i64 (k : Int) ∧ jv = .int .i64 (j : Int) ∧ Dl (fun x => decide (x.til ≤ now)) l L k j ∧ wr.ownsRow 0 234 3 (.slice (some ⟨gd, 0, none⟩) l.length cd) L.length (L.flatMap At.row) ∧ Tch [gd] w wr) (fun _ jv _ => l.length - (intOf jv).toNat)
    case atStart => exact ⟨i0, i0 + 1, l, rfl, by go_num, HD.out, O0.out, T0.out⟩
    case round =>
      obtain ⟨k, j, L, rfl, rfl, hd, hor, htr⟩ := hrel
      have hkj := hd.kj
      have hjn := hd.jn
      have hll := hd.len
      have HOR : Hid (wr.ownsRow 0 234 3 (.slice (some ⟨gd, 0, none⟩) l.length cd) L.length (L.flatMap At.row)) := hor
      have HTR : Hid (Tch [gd] w wr) := htr
      have HDL : Hid (Dl (fun x => decide (x.til ≤ now)) l L k j) := hd
      have hgl : gd < wr.heap.size := own_lt hor rfl
      by_cases hlt : j < l.length
      · obtain ⟨x, hx⟩ : ∃ x, l[j]? = some x := ⟨_, List.getElem?_eq_getElem hlt⟩
        have hLx : L[j]? = some x := (hd.get hlt).trans hx
        have hjL : j < L.length := by omega
        have fm : ∀ i v, x.row[i]? = some v → wr.cell? ⟨gd, j * 3 + i, none⟩ = some v := fun i v hi => by
          have h1 := own_cells At.row 3 (fun _ => rfl) hor j hjL i v (by rw [List.getElem!_eq_getElem?_getD, hLx]; exact hi)
          simpa using h1
        have g0 : wr.cell? ⟨gd, j * 3, none⟩ = some (.string x.id) := fm 0 _ rfl
        have g1 : wr.cell? ⟨gd, j * 3 + 1, none⟩ = some (.int .i64 x.til) := fm 1 _ rfl
        have g2 : wr.cell? ⟨gd, j * 3 + 2, none⟩ = some (.string x.ans) := fm 2 _ rfl
        have HP : Hid (∀ W, Tch [] wr W → Calls Tryz.prog 296 #[.agg #[(.string x.id), (.int .i64 x.til), (.string x.ans)], .pointer (some ⟨B, 0, none⟩)] W fun e w' => e = .returned (.bool (decide (x.til ≤ now))) ∧ Below W.heap.size W w') := fun W hW => by
          have hBW : W.heap[B]? = some (.cells #[.int .i64 now] 3 (0, 0)) := (hW.block _ (Nat.lt_of_lt_of_le hBl HTR.out.size) (by simp)).trans ((HTR.out.block _ hBl (by simpa using hBg)).trans HB.out)
          exact del_predA now B W (lt_of_block hBW) (cell_of_one hBW) W x (Below.refl _ _)
        clear hd hor htr fm hLx
        have HP1 : Hid (Calls Tryz.prog 296 #[.agg #[(.string x.id), (.int .i64 x.til), (.string x.ans)], .pointer (some ⟨B, 0, none⟩)] (wr.alloc (.cells #[(.string x.id), (.int .i64 x.til), (.string x.ans)] 234)) fun e w' => e = .returned (.bool (decide (x.til ≤ now))) ∧ Tch [] wr w' ∧ w'.heap[wr.heap.size]? = some (.cells #[(.string x.id), (.int .i64 x.til), (.string x.ans)] 234 (0, 0))) := (HP.out _ ((Tch.refl _ _).alloc _)).mono (by
          rintro e w' ⟨he, hb⟩
          exact ⟨he, ((Tch.refl [] wr).alloc _).trans (Tch.of_below hb) (by simp), (hb.block _ (by simp)).trans (heap_alloc_new _ _)⟩)
        clear HP
        by_cases hp : x.til ≤ now
        · have hdec : decide (x.til ≤ now) = true := by simpa using hp
          rw [hdec] at HP1
          have HPX : Hid (decide (x.til ≤ now) = true) := hdec
          clear hp hdec
          go_wp2_with fail
          refine HP1.out.mono ?_
          rintro e w1 ⟨rfl, ht1, hc1⟩
          have HR : Hid (w1.ownsRow 0 234 3 (.slice (some ⟨gd, 0, none⟩) l.length cd) L.length (L.flatMap At.row) ∧ Tch [gd] w w1) := ⟨own_tch HOR.out ht1 (fun _ _ => by simp), HTR.out.trans ht1 (by simp)⟩
          clear ht1 hc1 g0 g1 g2 HP1
          go_wp2_with fail
          go_roundw
          case rel => exact ⟨k, j + 1, L, rfl, by go_num, HDL.out.skip x hx HPX.out, HR.out.1, HR.out.2⟩
          case measure => simp [intOf]; omega
        · have hdec : decide (x.til ≤ now) = false := by simpa using hp
          rw [hdec] at HP1
          have HPX : Hid (decide (x.til ≤ now) = false) := hdec
          clear hp hdec
          go_wp2_with fail
          refine HP1.out.mono ?_
          rintro e w1 ⟨rfl, ht1, hc1⟩
          have ho1 := own_tch HOR.out ht1 (fun _ _ => by simp)
          have hkL : k < L.length := by omega
          obtain ⟨y, hy⟩ : ∃ y, L[k]? = some y := ⟨_, List.getElem?_eq_getElem hkL⟩
          have fk : ∀ i v, y.row[i]? = some v → w1.cell? ⟨gd, k * 3 + i, none⟩ = some v := fun i v hi => by
            have h1 := own_cells At.row 3 (fun _ => rfl) ho1 k hkL i v (by rw [List.getElem!_eq_getElem?_getD, hy]; exact hi)
            simpa using h1
          have k0 : w1.cell? ⟨gd, k * 3, none⟩ = some (.string y.id) := fk 0 _ rfl
          have k1 : w1.cell? ⟨gd, k * 3 + 1, none⟩ = some (.int .i64 y.til) := fk 1 _ rfl
          have k2 : w1.cell? ⟨gd, k * 3 + 2, none⟩ = some (.string y.ans) := fk 2 _ rfl
          have m0 : w1.cell? ⟨wr.heap.size, 0, none⟩ = some (.string x.id) := cell_qC hc1 0 _ rfl
          have m1 : w1.cell? ⟨wr.heap.size, 1, none⟩ = some (.int .i64 x.til) := cell_qC hc1 1 _ rfl
          have m2 : w1.cell? ⟨wr.heap.size, 2, none⟩ = some (.string x.ans) := cell_qC hc1 2 _ rfl
          rw [hll] at ho1
          have z0 : ∀ i, w1.frozen? ⟨gd, i, none⟩ = false := fun i => World.ownsRow.frozenAt ho1 i
          have HR : Hid ((((w1.setCell ⟨gd, k * 3, none⟩ (.string x.id)).setCell ⟨gd, k * 3 + 1, none⟩ (.int .i64 x.til)).setCell ⟨gd, k * 3 + 2, none⟩ (.string x.ans)).ownsRow 0 234 3 (.slice (some ⟨gd, 0, none⟩) l.length cd) (L.set k x).length ((L.set k x).flatMap At.row) ∧ Tch [gd] w (((w1.setCell ⟨gd, k * 3, none⟩ (.string x.id)).setCell ⟨gd, k * 3 + 1, none⟩ (.int .i64 x.til)).setCell ⟨gd, k * 3 + 2, none⟩ (.string x.ans))) := by
            refine ⟨?_, (((HTR.out.trans ht1 (by simp)).setCell (fun _ => by simp) _).setCell (fun _ => by simp) _).setCell (fun _ => by simp) _⟩
            rw [List.length_set, hll, ← flat_put At.row 3 (fun _ => rfl) L k x hkL]
            exact own_setCells x.row (k * 3) w1 _ ho1
          clear g0 g1 g2 HP1 ht1 hc1 ho1 fk hy
          go_wp2_with fail
          go_roundw
          case rel => exact ⟨k + 1, j + 1, L.set k x, by go_num, by go_num, HDL.out.keep x hx HPX.out, HR.out.1, HR.out.2⟩
          case measure => simp [intOf]; omega
      · have hje : l.length = j := by omega
        have hkk : (l.filter (fun x => !decide (x.til ≤ now))).length = k ∧ L.take k = l.filter (fun x => !decide (x.til ≤ now)) := by
          have h1 := hd.tk
          have e9 : l.take j = l := List.take_of_length_le (by omega)
          rw [e9] at h1
          refine ⟨?_, h1⟩
          rw [← h1, List.length_take]
          omega
        rw [hll] at hor
        have hclr := run_clearA wr 0 gd k (j - k) (cd - k) (fun i hi => by
          have h1 : k * 3 + i < (L.flatMap At.row).length := by rw [flat_len At.row 3 (fun _ => rfl)]; omega
          have h2 := World.ownsRow.cells hor (g := gd) rfl (k * 3 + i) _ (List.getElem?_eq_getElem h1)
          have e : (⟨gd, 0, none⟩ : Addr).add (k * 3 + i) = ⟨gd, k * 3 + i, none⟩ := by unfold Addr.add; split <;> simp_all
          rw [e] at h2
          rw [h2]
          rfl) (fun i => World.ownsRow.frozenAt hor i) (by omega)
        have HF : Hid ((wr.setCells gd (k * 3) (Builtin.zeroCells #[.string ⟨#[]⟩, .int .i64 0, .string ⟨#[]⟩] (j - k)).toList).ownsRow 0 234 3 (.slice (some ⟨gd, 0, none⟩) k cd) (l.filter (fun x => !decide (x.til ≤ now))).length ((l.filter (fun x => !decide (x.til ≤ now))).flatMap At.row) ∧ Tch [gd] w (wr.setCells gd (k * 3) (Builtin.zeroCells #[.string ⟨#[]⟩, .int .i64 0, .string ⟨#[]⟩] (j - k)).toList)) := by
          refine ⟨?_, htr.trans (tch_setCells gd _ _ _) (fun _ h _ => h)⟩
          have h1 := own_cut (own_setCells (Builtin.zeroCells #[.string ⟨#[]⟩, .int .i64 0, .string ⟨#[]⟩] (j - k)).toList (k * 3) wr _ hor) (n' := k) (by omega)
          rw [putMany_take _ _ _ _ (Nat.le_refl _), flat_take At.row 3 (fun _ => rfl) L k (by omega), hkk.2] at h1
          rw [hkk.1]
          exact h1
        generalize wr.setCells gd (k * 3) (Builtin.zeroCells #[.string ⟨#[]⟩, .int .i64 0, .string ⟨#[]⟩] (j - k)).toList = w2 at *
        clear hd hor htr hkk
        go_wp2_with fail
        go_ret
        exact ⟨.slice (some ⟨gd, 0, none⟩) k cd, rfl, rfl, HF.out.1, HF.out.2⟩
/-- The queue behind the time. -/
def forgQ (now : Int) (Q : QM) : QM := { Q with ds := Q.ds.filter (fun x => !decide (x.til ≤ now)), ats := Q.ats.filter (fun x => !decide (x.til ≤ now)) }

theorem own_shape {w : World} {base e size n : Nat} {v : Value} {xs : List Value} (h : w.ownsRow base e size v n xs) : ∃ a c, v = .slice a n c := by
  rcases h.2 with ⟨rfl, rfl⟩ | ⟨g, cap, cur, rfl, _⟩
  · exact ⟨_, _, rfl⟩
  · exact ⟨_, _, rfl⟩

set_option maxRecDepth 8000 in
set_option maxHeartbeats 2000000 in
theorem forget_any (Q : QM) (V : QV) (qb : Nat) (now : Int) (w : World) (h : QR w qb V Q) (hnd : Q.ds.length ≤ 1000000) (hna : Q.ats.length ≤ 1000000) :
    Calls Tryz.prog 270 #[.pointer (some ⟨qb, 0, none⟩), .int .i64 now] w fun e w' => e = .returned (.tuple #[]) ∧ QL w w' qb V (forgQ now Q) := by
  have hmf : ∀ (fn : Fn) (first cap : Array Value) (w : World), (Instr.makeFunc fn first cap).run Tryz.prog w = .ok (.func fn first cap) w := fun _ _ _ _ => rfl
  have hlt := h.blk.lt
  have ta : Tch [] w (w.alloc (.cells #[.int .i64 now] 3)) := (Tch.refl _ _).alloc _
  have ha : QR (w.alloc (.cells #[.int .i64 now] 3)) qb V Q := h.tch ta (fun _ _ => by simp)
  have hbox : (w.alloc (.cells #[.int .i64 now] 3)).heap[w.heap.size]? = some (.cells #[.int .i64 now] 3 (0, 0)) := heap_alloc_new _ _
  have q9 : w.cell? ⟨qb, 9, none⟩ = some V.d := cell_qC h.blk 9 _ rfl
  have HD : Hid (Calls Tryz.prog 293 _ _ _) := delD_any V.d Q.ds now w.heap.size _ ha.d hnd hbox
  have HA : Hid (QR (w.alloc (.cells #[.int .i64 now] 3)) qb V Q ∧ (w.alloc (.cells #[.int .i64 now] 3)).heap[w.heap.size]? = some (.cells #[.int .i64 now] 3 (0, 0)) ∧ Tch [] w (w.alloc (.cells #[.int .i64 now] 3))) := ⟨ha, hbox, ta⟩
  clear h ha hbox ta
  go_enter Tryz.func270, Tryz.ntmps270
  go_wp2_with fail
  refine HD.out.mono ?_
  rintro e w1 ⟨vd, rfl, hbd, hod, ht1⟩
  obtain ⟨ad, cd, rfl⟩ := own_shape hod
  have f1 : Fr 0 [230] (w.alloc (.cells #[.int .i64 now] 3)) w1 := Fr.of_tch ht1 (Nat.zero_le _) (fun _ _ => Nat.zero_le _) (fun b hb C t hC => by
    by_cases e : 230 = t
    · rw [← e]; decide
    · exact absurd (mem_bl.1 hb) (own_ne HA.out.1.d hC e))
  have hq1 : Qb w1 qb Q.c (Q.next : Int) V.m V.r V.d V.a := f1.keep _ _ _ HA.out.1.blk (by decide)
  have d9 : w1.cell? ⟨qb, 9, none⟩ = some V.d := cell_qC hq1 9 _ rfl
  have z9 := hq1.fz 9
  have hq2 := hq1.set9 (.slice ad (Q.ds.filter (fun x => !decide (x.til ≤ now))).length cd)
  have t2 : Tch [qb] w1 (w1.setCell ⟨qb, 9, none⟩ (.slice ad (Q.ds.filter (fun x => !decide (x.til ≤ now))).length cd)) := (Tch.refl _ _).setCell (fun _ => by simp) _
  have f2 : Fr 0 [191] w1 (w1.setCell ⟨qb, 9, none⟩ (.slice ad (Q.ds.filter (fun x => !decide (x.til ≤ now))).length cd)) := Fr.one t2 (Nat.zero_le _) (Nat.zero_le _) hq1 (by decide)
  have HX : Hid (QR (w1.setCell ⟨qb, 9, none⟩ (.slice ad (Q.ds.filter (fun x => !decide (x.til ≤ now))).length cd)) qb ⟨V.m, V.r, .slice ad (Q.ds.filter (fun x => !decide (x.til ≤ now))).length cd, V.a⟩ { Q with ds := Q.ds.filter (fun x => !decide (x.til ≤ now)) } ∧ Tch (qbl qb V) w (w1.setCell ⟨qb, 9, none⟩ (.slice ad (Q.ds.filter (fun x => !decide (x.til ≤ now))).length cd)) ∧ (w1.setCell ⟨qb, 9, none⟩ (.slice ad (Q.ds.filter (fun x => !decide (x.til ≤ now))).length cd)).heap[w.heap.size]? = some (.cells #[.int .i64 now] 3 (0, 0)) ∧ Value.ownBlock (.slice ad (Q.ds.filter (fun x => !decide (x.til ≤ now))).length cd) = V.d.ownBlock) := by
    refine ⟨⟨hq2, f2.own (f1.own HA.out.1.m (by decide)) (by decide), f2.own (f1.own HA.out.1.r (by decide)) (by decide), f2.own hod (by decide), f2.own (f1.own HA.out.1.a (by decide)) (by decide)⟩, ?_, f2.keep _ _ _ (f1.keep _ _ _ HA.out.2.1 (by decide)) (by decide), hbd⟩
    exact (((HA.out.2.2.sub (S' := qbl qb V) (by simp)).trans ht1 (fun x hx _ => mem_qbl.2 (.inr (.inr (.inr (.inl (mem_bl.1 hx))))))).trans t2 (fun x hx _ => mem_qbl.2 (.inl (by simpa using hx))))
  clear hod ht1 hbd f1 hq1 t2 f2 HD q9 HA
  have hlt2 := hq2.lt
  generalize hdn : (Q.ds.filter (fun x => !decide (x.til ≤ now))) = DS at *
  have d10 : (w1.setCell ⟨qb, 9, none⟩ (.slice ad DS.length cd)).cell? ⟨qb, 10, none⟩ = some V.a := cell_qC hq2 10 _ rfl
  have HD2 : Hid (Calls Tryz.prog 295 _ _ _) := delA_any V.a Q.ats now w.heap.size _ HX.out.1.a hna HX.out.2.2.1
  clear hq2
  go_wp2_with fail
  refine HD2.out.mono ?_
  rintro e w3 ⟨va, rfl, hba, hoa, ht3⟩
  obtain ⟨aa, ca, rfl⟩ := own_shape hoa
  obtain ⟨h1, h2, h3, h4⟩ := HX.out
  have f3 : Fr 0 [234] (w1.setCell ⟨qb, 9, none⟩ (.slice ad DS.length cd)) w3 := Fr.of_tch ht3 (Nat.zero_le _) (fun _ _ => Nat.zero_le _) (fun b hb C t hC => by
    by_cases e : 234 = t
    · rw [← e]; decide
    · exact absurd (mem_bl.1 hb) (own_ne h1.a hC e))
  have hq3 : Qb w3 qb Q.c (Q.next : Int) V.m V.r (.slice ad DS.length cd) V.a := f3.keep _ _ _ h1.blk (by decide)
  have e10 : w3.cell? ⟨qb, 10, none⟩ = some V.a := cell_qC hq3 10 _ rfl
  have z10 := hq3.fz 10
  have hq4 := hq3.set10 (.slice aa (Q.ats.filter (fun x => !decide (x.til ≤ now))).length ca)
  have t4 : Tch [qb] w3 (w3.setCell ⟨qb, 10, none⟩ (.slice aa (Q.ats.filter (fun x => !decide (x.til ≤ now))).length ca)) := (Tch.refl _ _).setCell (fun _ => by simp) _
  have f4 : Fr 0 [191] w3 (w3.setCell ⟨qb, 10, none⟩ (.slice aa (Q.ats.filter (fun x => !decide (x.til ≤ now))).length ca)) := Fr.one t4 (Nat.zero_le _) (Nat.zero_le _) hq3 (by decide)
  have HF : Hid (QL w (w3.setCell ⟨qb, 10, none⟩ (.slice aa (Q.ats.filter (fun x => !decide (x.til ≤ now))).length ca)) qb V (forgQ now Q)) := by
    refine ⟨⟨V.m, V.r, .slice ad DS.length cd, .slice aa (Q.ats.filter (fun x : At => !decide (x.til ≤ now))).length ca⟩, ⟨hq4, f4.own (f3.own h1.m (by decide)) (by decide), f4.own (f3.own h1.r (by decide)) (by decide), ?_, f4.own hoa (by decide)⟩, ?_, fun b hb => ?_⟩
    · have h5 := f4.own (f3.own h1.d (by decide)) (by decide)
      unfold forgQ
      rw [hdn]
      exact h5
    · exact ((h2.trans ht3 (fun x hx _ => mem_qbl.2 (.inr (.inr (.inr (.inr (mem_bl.1 hx))))))).trans t4 (fun x hx _ => mem_qbl.2 (.inl (by simpa using hx))))
    · left
      rcases mem_qbl.1 hb with e | e | e | e | e
      · exact mem_qbl.2 (.inl e)
      · exact mem_qbl.2 (.inr (.inl e))
      · exact mem_qbl.2 (.inr (.inr (.inl e)))
      · exact mem_qbl.2 (.inr (.inr (.inr (.inl (h4.symm.trans e)))))
      · exact mem_qbl.2 (.inr (.inr (.inr (.inr (hba.symm.trans e)))))
  have hlt4 := hq3.lt
  clear hoa ht3 hba f3 hq3 hq4 t4 f4 h1 h2 h3 h4 HD2 d10
  go_wp2_with fail
  go_end0
  exact ⟨rfl, HF.out⟩
end Go.Proofs.YtbdobaapadlcjaaGreatDoor

namespace Go.Proofs.YtbdobaapadlcjaaGreatDoor
open Go.RowKit
set_option linter.unusedVariables false
set_option linter.unusedSimpArgs false

set_option maxHeartbeats 2000000 in
theorem due_none (l : List Ms) (v : Value) (qb : Nat) (now : Int) (w : World) (c7 : w.cell? ⟨qb, 7, none⟩ = some v) (ho : w.ownsRow 0 226 5 v l.length (l.flatMap Ms.row)) (hl : l.length ≤ 1000000) (hd : ∀ m ∈ l, ¬ (0 < m.til ∧ m.til ≤ now)) :
    Calls Tryz.prog 297 #[.pointer (some ⟨qb, 0, none⟩), .int .i64 now] w fun e w' => e = .returned (.slice none 0 0) ∧ Below w.heap.size w w' := by
  have inh : Inhabited Ms := ⟨⟨0, ⟨#[]⟩, ⟨#[]⟩, 0, 0⟩⟩
  rcases ho.2 with ⟨rfl, h0⟩ | ⟨gd, cd, cur, rfl, _, hg, hnc, _⟩
  · clear ho hd
    go_enter Tryz.func297, Tryz.ntmps297
    go_wp2
    refine wp_loop_rounds 1 ?_
    rw [rounds_succ]
    go_wp2_with (go_at_call 301; refine (sort_none _ _ _ _).mono ?_; rintro e w' ⟨rfl, rfl⟩)
    refine wp_loop_rounds 1 ?_
    rw [rounds_succ]
    go_wp2
    go_ret
    exact ⟨rfl, Below.refl _ _⟩
  · have HO : Hid (w.ownsRow 0 226 5 (.slice (some ⟨gd, 0, none⟩) l.length cd) l.length (l.flatMap Ms.row)) := ho
    have hgl := lt_of_block hg
    have HD : Hid (∀ m ∈ l, ¬ (0 < m.til ∧ m.til ≤ now)) := hd
    clear hg ho hd
    go_enter Tryz.func297, Tryz.ntmps297
    go_wp2_with fail
    go_loopw [5, 16] (fun dv jv wr => ∃ j : Nat, j ≤ l.length ∧ dv = .slice none 0 0 ∧ jv = .int .i64 (j : Int) ∧ Below w.heap.size w wr) (fun _ jv _ => l.length - (intOf jv).toNat)
    case atStart => exact ⟨0, Nat.zero_le _, rfl, rfl, Below.refl _ _⟩
    case round =>
      obtain ⟨j, hj, rfl, rfl, hb⟩ := hrel
      have HB : Hid (Below w.heap.size w wr) := hb
      by_cases hlt : j < l.length
      · have hor := own_tch HO.out (Tch.of_below hb) (fun _ _ => by simp)
        have hgr := own_lt hor rfl
        obtain ⟨m, hm⟩ : ∃ m, l[j]? = some m := ⟨_, List.getElem?_eq_getElem hlt⟩
        have hnd := HD.out m (List.mem_of_getElem? hm)
        have fm : ∀ i v, m.row[i]? = some v → wr.cell? ⟨gd, j * 5 + i, none⟩ = some v := fun i v hi => by
          have h1 := own_cells Ms.row 5 (fun _ => rfl) hor j hlt i v (by rw [List.getElem!_eq_getElem?_getD, hm]; exact hi)
          simpa using h1
        have g0 : wr.cell? ⟨gd, j * 5, none⟩ = some (.int .i64 m.num) := fm 0 _ rfl
        have g1 : wr.cell? ⟨gd, j * 5 + 1, none⟩ = some (.string m.grp) := fm 1 _ rfl
        have g2 : wr.cell? ⟨gd, j * 5 + 2, none⟩ = some (.string m.bod) := fm 2 _ rfl
        have g3 : wr.cell? ⟨gd, j * 5 + 3, none⟩ = some (.int .i64 m.rcv) := fm 3 _ rfl
        have g4 : wr.cell? ⟨gd, j * 5 + 4, none⟩ = some (.int .i64 m.til) := fm 4 _ rfl
        clear fm hor hm hb
        by_cases h0 : 0 < m.til
        · have h1 : ¬ m.til ≤ now := fun h => hnd ⟨h0, h⟩
          go_wp2_with fail
          go_roundw
          case rel => exact ⟨j + 1, by omega, rfl, by go_num, HB.out.alloc HB.out.size _⟩
          case measure => simp [intOf]; omega
        · go_wp2_with fail
          go_roundw
          case rel => exact ⟨j + 1, by omega, rfl, by go_num, HB.out.alloc HB.out.size _⟩
          case measure => simp [intOf]; omega
      · have hje : j = l.length := by omega
        subst hje
        clear hb
        go_wp2_with (go_at_call 301; refine (sort_none _ _ _ _).mono ?_; rintro e w' ⟨rfl, rfl⟩)
        refine wp_loop_rounds 1 ?_
        rw [rounds_succ]
        go_wp2
        go_ret
        exact ⟨rfl, HB.out⟩

set_option maxHeartbeats 2000000 in
theorem bring_none (l : List Ms) (v : Value) (st qb : Nat) (now : Int) (w : World) (c0 : w.cell? ⟨st, 0, none⟩ = some (.int .i64 now)) (c1 : w.cell? ⟨qb, 1, none⟩ = some (.int .u8 45)) (c7 : w.cell? ⟨qb, 7, none⟩ = some v) (ho : w.ownsRow 0 226 5 v l.length (l.flatMap Ms.row)) (hl : l.length ≤ 1000000) (hd : ∀ m ∈ l, ¬ (0 < m.til ∧ m.til ≤ now)) :
    Calls Tryz.prog 271 #[.pointer (some ⟨st, 0, none⟩), .pointer (some ⟨qb, 0, none⟩)] w fun e w' => e = .returned (.tuple #[]) ∧ Below w.heap.size w w' := by
  have HD : Hid (Calls Tryz.prog 204 _ w _) := dead_any qb w c1 st
  have HU : Hid (Calls Tryz.prog 297 _ w _) := due_none l v qb now w c7 ho hl hd
  clear ho hd
  go_enter Tryz.func271, Tryz.ntmps271
  go_wp2_with (first | (go_at_call 204; refine HD.out.mono ?_; rintro e w' ⟨rfl, rfl⟩) | (go_at_call 297; refine HU.out.mono ?_; rintro e w' ⟨rfl, hb⟩))
  refine wp_loop_rounds 1 ?_
  rw [rounds_succ]
  go_wp2
  go_end0
  exact ⟨rfl, by assumption⟩
end Go.Proofs.YtbdobaapadlcjaaGreatDoor

namespace Go.Proofs.YtbdobaapadlcjaaGreatDoor
open Go.RowKit
set_option linter.unusedVariables false
set_option linter.unusedSimpArgs false

theorem stC_R (w : World) (st b : Nat) (now : Int) (q : Value) (h : w.heap[st]? = some (.cells (stC now q b) 156 (0, 0))) : w.cell? ⟨st, 26, none⟩ = some (.func (.func 207) #[] #[.pointer (some ⟨b + 1 + 1, 0, none⟩)]) := by
  simp [World.cell?, h, stC, deedsC]
theorem cellsR (r : Wp.Rq) (x : Sl) (hop : r.op = 82) (hq : r.q = 97) : cellsOf r x.v = #[.int .u8 82, .int .u8 97, .int .u8 (r.d.toNat : Int), .int .i64 r.vis, .int .i64 r.win, .int .i64 r.rcv, .int .i64 r.quo, .int .i64 r.mx, .int .i64 r.tic, .string r.grp, .string r.ded, .string r.bod, .string r.att, .string r.han, .slice x.a x.n x.c] := by
  have ho' : ((r.op.toNat : Nat) : Int) = 82 := by rw [hop]; rfl
  have hq' : ((r.q.toNat : Nat) : Int) = 97 := by rw [hq]; rfl
  unfold cellsOf Sl.v; rw [ho', hq']
/-- An answer's bytes behind a zero. -/
abbrev okL (l : List UInt8) : ByteArray := ⟨(0 :: l).toArray⟩

set_option maxRecDepth 8000 in
set_option maxHeartbeats 2000000 in
theorem within_R (K : Value → Value → World → Prop) (r : Wp.Rq) (x : Sl) (st b qb : Nat) (now : Int) (w : World) (hq : r.q = 97)
    (hst : w.heap[st]? = some (.cells (stC now (.pointer (some ⟨qb, 0, none⟩)) b) 156 (0, 0))) (hb3 : w.heap[b + 2]? = some (.cells #[.func (.func 163) #[] #[]] 221 (0, 0)))
    (hS : ∀ W, Tch [] w W → Calls Tryz.prog 163 #[.pointer (some ⟨qb, 0, none⟩), .int .i64 now, .agg (cellsOf r x.v)] W fun e w' => ∃ av chg, e = .returned (.tuple #[av, chg, .int .i64 0]) ∧ Tch [] W w' ∧ K av chg w') :
    Calls Tryz.prog 207 #[.pointer (some ⟨st, 0, none⟩), .agg (cellsOf r x.v), .pointer (some ⟨b + 1 + 1, 0, none⟩)] w fun e w' => ∃ av chg, e = .returned (.tuple #[av, chg, .int .i64 0]) ∧ Tch [] w w' ∧ K av chg w' := by
  have hlt := lt_of_block hst
  have hltb := lt_of_block hb3
  have HST : Hid (w.heap[st]? = _) := hst
  have HB3 : Hid (w.heap[b + 2]? = _) := hb3
  have HN : Hid (∀ W, Tch [] w W → _) := hS
  have cells : cellsOf r x.v = #[.int .u8 (r.op.toNat : Int), .int .u8 97, .int .u8 (r.d.toNat : Int), .int .i64 r.vis, .int .i64 r.win, .int .i64 r.rcv, .int .i64 r.quo, .int .i64 r.mx, .int .i64 r.tic, .string r.grp, .string r.ded, .string r.bod, .string r.att, .string r.han, .slice x.a x.n x.c] := cells97 r x hq
  rw [cells] at HN
  rw [cells, show b + 1 + 1 = b + 2 from rfl]
  clear cells hS
  go_enter Tryz.func207, Tryz.ntmps207
  have c1 : (w.alloc (.cells #[.int .u8 (r.op.toNat : Int), .int .u8 97, .int .u8 (r.d.toNat : Int), .int .i64 r.vis, .int .i64 r.win, .int .i64 r.rcv, .int .i64 r.quo, .int .i64 r.mx, .int .i64 r.tic, .string r.grp, .string r.ded, .string r.bod, .string r.att, .string r.han, .slice x.a x.n x.c] 27)).cell? ⟨st, 1, none⟩ = some (.pointer (some ⟨qb, 0, none⟩)) := stC_q _ _ _ _ _ ((Below.heap_alloc _ _ _ hlt).trans hst)
  go_wp2_with (go_at_call 200; refine (at_any _ _ _ c1).mono ?_; rintro e w' ⟨rfl, rfl⟩)
  obtain ⟨wb, hwb⟩ : ∃ wb, wb = w.alloc (.cells #[.int .u8 (r.op.toNat : Int), .int .u8 97, .int .u8 (r.d.toNat : Int), .int .i64 r.vis, .int .i64 r.win, .int .i64 r.rcv, .int .i64 r.quo, .int .i64 r.mx, .int .i64 r.tic, .string r.grp, .string r.ded, .string r.bod, .string r.att, .string r.han, .slice x.a x.n x.c] 27) := ⟨_, rfl⟩
  rw [← hwb]
  have hrow : wb.heap[w.heap.size]? = some (.cells #[.int .u8 (r.op.toNat : Int), .int .u8 97, .int .u8 (r.d.toNat : Int), .int .i64 r.vis, .int .i64 r.win, .int .i64 r.rcv, .int .i64 r.quo, .int .i64 r.mx, .int .i64 r.tic, .string r.grp, .string r.ded, .string r.bod, .string r.att, .string r.han, .slice x.a x.n x.c] 27 (0, 0)) := by rw [hwb]; exact heap_alloc_new _ _
  have hsb : wb.heap[st]? = some (.cells (stC now (.pointer (some ⟨qb, 0, none⟩)) b) 156 (0, 0)) := by rw [hwb]; exact (Below.heap_alloc _ _ _ hlt).trans HST.out
  have hbb : wb.heap[b + 2]? = some (.cells #[.func (.func 163) #[] #[]] 221 (0, 0)) := by rw [hwb]; exact (Below.heap_alloc _ _ _ hltb).trans HB3.out
  have TB : Hid (Tch [] w wb) := by rw [hwb]; exact (Tch.refl _ _).alloc _
  have e0 : wb.cell? ⟨w.heap.size, 0, none⟩ = some (.int .u8 (r.op.toNat : Int)) := by simp [World.cell?, hrow]
  have e1 : wb.cell? ⟨w.heap.size, 1, none⟩ = some (.int .u8 97) := by simp [World.cell?, hrow]
  have e2 : wb.cell? ⟨w.heap.size, 2, none⟩ = some (.int .u8 (r.d.toNat : Int)) := by simp [World.cell?, hrow]
  have e3 : wb.cell? ⟨w.heap.size, 3, none⟩ = some (.int .i64 r.vis) := by simp [World.cell?, hrow]
  have e4 : wb.cell? ⟨w.heap.size, 4, none⟩ = some (.int .i64 r.win) := by simp [World.cell?, hrow]
  have e5 : wb.cell? ⟨w.heap.size, 5, none⟩ = some (.int .i64 r.rcv) := by simp [World.cell?, hrow]
  have e6 : wb.cell? ⟨w.heap.size, 6, none⟩ = some (.int .i64 r.quo) := by simp [World.cell?, hrow]
  have e7 : wb.cell? ⟨w.heap.size, 7, none⟩ = some (.int .i64 r.mx) := by simp [World.cell?, hrow]
  have e8 : wb.cell? ⟨w.heap.size, 8, none⟩ = some (.int .i64 r.tic) := by simp [World.cell?, hrow]
  have e9 : wb.cell? ⟨w.heap.size, 9, none⟩ = some (.string r.grp) := by simp [World.cell?, hrow]
  have e10 : wb.cell? ⟨w.heap.size, 10, none⟩ = some (.string r.ded) := by simp [World.cell?, hrow]
  have e11 : wb.cell? ⟨w.heap.size, 11, none⟩ = some (.string r.bod) := by simp [World.cell?, hrow]
  have e12 : wb.cell? ⟨w.heap.size, 12, none⟩ = some (.string r.att) := by simp [World.cell?, hrow]
  have e13 : wb.cell? ⟨w.heap.size, 13, none⟩ = some (.string r.han) := by simp [World.cell?, hrow]
  have e14 : wb.cell? ⟨w.heap.size, 14, none⟩ = some (.slice x.a x.n x.c) := by simp [World.cell?, hrow]
  have cn := stC_now _ _ _ _ _ hsb
  have cb := cell_of_one hbb
  have hlL : w.heap.size < wb.heap.size := lt_of_block hrow
  have hlX : st < wb.heap.size := lt_of_block hsb
  have hlB : b + 2 < wb.heap.size := lt_of_block hbb
  have HN1 : Hid (Calls Tryz.prog 163 _ wb.drew _) := HN.out wb.drew TB.out.drew
  clear hrow hsb hbb hwb hst hb3 c1
  go_region_held3 (fun w' => w'.cell? ⟨w.heap.size, 0, none⟩ = some (.int .u8 (r.op.toNat : Int)) ∧ w'.cell? ⟨w.heap.size, 1, none⟩ = some (.int .u8 97) ∧ w'.cell? ⟨w.heap.size, 2, none⟩ = some (.int .u8 (r.d.toNat : Int)) ∧ w'.cell? ⟨w.heap.size, 3, none⟩ = some (.int .i64 r.vis) ∧ w'.cell? ⟨w.heap.size, 4, none⟩ = some (.int .i64 r.win) ∧ w'.cell? ⟨w.heap.size, 5, none⟩ = some (.int .i64 r.rcv) ∧ w'.cell? ⟨w.heap.size, 6, none⟩ = some (.int .i64 r.quo) ∧ w'.cell? ⟨w.heap.size, 7, none⟩ = some (.int .i64 r.mx) ∧ w'.cell? ⟨w.heap.size, 8, none⟩ = some (.int .i64 r.tic) ∧ w'.cell? ⟨w.heap.size, 9, none⟩ = some (.string r.grp) ∧ w'.cell? ⟨w.heap.size, 10, none⟩ = some (.string r.ded) ∧ w'.cell? ⟨w.heap.size, 11, none⟩ = some (.string r.bod) ∧ w'.cell? ⟨w.heap.size, 12, none⟩ = some (.string r.att) ∧ w'.cell? ⟨w.heap.size, 13, none⟩ = some (.string r.han) ∧ w'.cell? ⟨w.heap.size, 14, none⟩ = some (.slice x.a x.n x.c) ∧ w'.cell? ⟨b + 2, 0, none⟩ = some (.func (.func 163) #[] #[]) ∧ w'.cell? ⟨st, 0, none⟩ = some (.int .i64 now)) (go_keep) (first | (go_at_call 163; refine HN1.out.mono ?_; rintro e w1 ⟨av, chg, rfl, ht, hk⟩; have k0 := (ht.cell (a := ⟨w.heap.size, 0, none⟩) hlL (by simp)).trans e0; have k1 := (ht.cell (a := ⟨w.heap.size, 1, none⟩) hlL (by simp)).trans e1; have k2 := (ht.cell (a := ⟨w.heap.size, 2, none⟩) hlL (by simp)).trans e2; have k3 := (ht.cell (a := ⟨w.heap.size, 3, none⟩) hlL (by simp)).trans e3; have k4 := (ht.cell (a := ⟨w.heap.size, 4, none⟩) hlL (by simp)).trans e4; have k5 := (ht.cell (a := ⟨w.heap.size, 5, none⟩) hlL (by simp)).trans e5; have k6 := (ht.cell (a := ⟨w.heap.size, 6, none⟩) hlL (by simp)).trans e6; have k7 := (ht.cell (a := ⟨w.heap.size, 7, none⟩) hlL (by simp)).trans e7; have k8 := (ht.cell (a := ⟨w.heap.size, 8, none⟩) hlL (by simp)).trans e8; have k9 := (ht.cell (a := ⟨w.heap.size, 9, none⟩) hlL (by simp)).trans e9; have k10 := (ht.cell (a := ⟨w.heap.size, 10, none⟩) hlL (by simp)).trans e10; have k11 := (ht.cell (a := ⟨w.heap.size, 11, none⟩) hlL (by simp)).trans e11; have k12 := (ht.cell (a := ⟨w.heap.size, 12, none⟩) hlL (by simp)).trans e12; have k13 := (ht.cell (a := ⟨w.heap.size, 13, none⟩) hlL (by simp)).trans e13; have k14 := (ht.cell (a := ⟨w.heap.size, 14, none⟩) hlL (by simp)).trans e14; have kx := (ht.cell (a := ⟨b + 2, 0, none⟩) hlB (by simp)).trans cb; have ky := (ht.cell (a := ⟨st, 0, none⟩) hlX (by simp)).trans cn))
  have T1 : Hid (Tch [] w w1) := TB.out.drew.trans ht (by simp)
  clear ht
  go_wp2_with fail
  go_ret3
  exact ⟨av, chg, rfl, T1.out, hk⟩

set_option maxRecDepth 8000 in
set_option maxHeartbeats 2000000 in
theorem plan_R (B m xb : Nat) (K : ByteArray → World → Prop) (l : List UInt8) (hl : l.length ≤ 10000) (hl0 : 0 < l.length) (r : Wp.Rq) (x : Sl) (st b qb : Nat) (now : Int) (w : World) (hop : r.op = 82) (hq : r.q = 97)
    (hst : w.heap[st]? = some (.cells (stC now (.pointer (some ⟨qb, 0, none⟩)) b) 156 (0, 0))) (hb3 : w.heap[b + 2]? = some (.cells #[.func (.func 163) #[] #[]] 221 (0, 0)))
    (hS : ∀ W, Tch [] w W → Calls Tryz.prog 163 #[.pointer (some ⟨qb, 0, none⟩), .int .i64 now, .agg (cellsOf r x.v)] W fun e w' => ∃ av chg, e = .returned (.tuple #[av, chg, .int .i64 0]) ∧ Tch [] W w' ∧ Rdb w' av l ∧ ∀ w2, Tch [] w' w2 → Chg B m xb st K (okL l) chg w2) :
    Calls Tryz.prog 62 #[.pointer (some ⟨st, 0, none⟩), .agg (cellsOf r x.v)] w fun e w' => Tch [] w w' ∧ Planned B m xb st K e w' := by
  have hlt := lt_of_block hst
  have hltb := lt_of_block hb3
  have HST : Hid (w.heap[st]? = _) := hst
  have HN : Hid (∀ W, Tch [] w W → Calls Tryz.prog 207 #[.pointer (some ⟨st, 0, none⟩), .agg (cellsOf r x.v), .pointer (some ⟨b + 1 + 1, 0, none⟩)] W fun e w' => ∃ av chg, e = .returned (.tuple #[av, chg, .int .i64 0]) ∧ Tch [] W w' ∧ Rdb w' av l ∧ ∀ w2, Tch [] w' w2 → Chg B m xb st K (okL l) chg w2) := fun W ht =>
    within_R (fun av chg w' => Rdb w' av l ∧ ∀ w2, Tch [] w' w2 → Chg B m xb st K (okL l) chg w2) r x st b qb now W hq ((ht.block _ hlt (by simp)).trans hst) ((ht.block _ hltb (by simp)).trans hb3) (fun W' ht' => hS W' (ht.trans ht' (by simp)))
  rw [cellsR r x hop hq] at HN
  rw [cellsR r x hop hq]
  clear hS hb3
  obtain ⟨i0, hi, hz0, hz1, hz2⟩ := info_parts info5
  go_enter Tryz.func62, Tryz.ntmps62
  have hw17 : IntKind.u8.wrap 17 = 17 := by decide
  go_wp2_with fail
  obtain ⟨wb, hwb⟩ : ∃ wb, wb = w.alloc (.cells #[.int .u8 82, .int .u8 97, .int .u8 (r.d.toNat : Int), .int .i64 r.vis, .int .i64 r.win, .int .i64 r.rcv, .int .i64 r.quo, .int .i64 r.mx, .int .i64 r.tic, .string r.grp, .string r.ded, .string r.bod, .string r.att, .string r.han, .slice x.a x.n x.c] 27) := ⟨_, rfl⟩
  rw [← hwb]
  have hrow : wb.heap[w.heap.size]? = some (.cells #[.int .u8 82, .int .u8 97, .int .u8 (r.d.toNat : Int), .int .i64 r.vis, .int .i64 r.win, .int .i64 r.rcv, .int .i64 r.quo, .int .i64 r.mx, .int .i64 r.tic, .string r.grp, .string r.ded, .string r.bod, .string r.att, .string r.han, .slice x.a x.n x.c] 27 (0, 0)) := by rw [hwb]; exact heap_alloc_new _ _
  have hsb : wb.heap[st]? = some (.cells (stC now (.pointer (some ⟨qb, 0, none⟩)) b) 156 (0, 0)) := by rw [hwb]; exact (Below.heap_alloc _ _ _ hlt).trans HST.out
  have TB : Hid (Tch [] w wb) := by rw [hwb]; exact (Tch.refl _ _).alloc _
  have e0 : wb.cell? ⟨w.heap.size, 0, none⟩ = some (.int .u8 82) := by simp [World.cell?, hrow]
  have e1 : wb.cell? ⟨w.heap.size, 1, none⟩ = some (.int .u8 97) := by simp [World.cell?, hrow]
  have e2 : wb.cell? ⟨w.heap.size, 2, none⟩ = some (.int .u8 (r.d.toNat : Int)) := by simp [World.cell?, hrow]
  have e3 : wb.cell? ⟨w.heap.size, 3, none⟩ = some (.int .i64 r.vis) := by simp [World.cell?, hrow]
  have e4 : wb.cell? ⟨w.heap.size, 4, none⟩ = some (.int .i64 r.win) := by simp [World.cell?, hrow]
  have e5 : wb.cell? ⟨w.heap.size, 5, none⟩ = some (.int .i64 r.rcv) := by simp [World.cell?, hrow]
  have e6 : wb.cell? ⟨w.heap.size, 6, none⟩ = some (.int .i64 r.quo) := by simp [World.cell?, hrow]
  have e7 : wb.cell? ⟨w.heap.size, 7, none⟩ = some (.int .i64 r.mx) := by simp [World.cell?, hrow]
  have e8 : wb.cell? ⟨w.heap.size, 8, none⟩ = some (.int .i64 r.tic) := by simp [World.cell?, hrow]
  have e9 : wb.cell? ⟨w.heap.size, 9, none⟩ = some (.string r.grp) := by simp [World.cell?, hrow]
  have e10 : wb.cell? ⟨w.heap.size, 10, none⟩ = some (.string r.ded) := by simp [World.cell?, hrow]
  have e11 : wb.cell? ⟨w.heap.size, 11, none⟩ = some (.string r.bod) := by simp [World.cell?, hrow]
  have e12 : wb.cell? ⟨w.heap.size, 12, none⟩ = some (.string r.att) := by simp [World.cell?, hrow]
  have e13 : wb.cell? ⟨w.heap.size, 13, none⟩ = some (.string r.han) := by simp [World.cell?, hrow]
  have e14 : wb.cell? ⟨w.heap.size, 14, none⟩ = some (.slice x.a x.n x.c) := by simp [World.cell?, hrow]
  have cx2 := stC_R _ _ _ _ _ hsb
  have hlL : w.heap.size < wb.heap.size := lt_of_block hrow
  have hlX : st < wb.heap.size := lt_of_block hsb
  have HN1 : Hid (Calls Tryz.prog 207 _ wb.drew _) := HN.out wb.drew TB.out.drew
  clear hrow hsb hwb hst
  go_region_held3 (fun w' => w'.cell? ⟨w.heap.size, 0, none⟩ = some (.int .u8 82) ∧ w'.cell? ⟨w.heap.size, 1, none⟩ = some (.int .u8 97) ∧ w'.cell? ⟨w.heap.size, 2, none⟩ = some (.int .u8 (r.d.toNat : Int)) ∧ w'.cell? ⟨w.heap.size, 3, none⟩ = some (.int .i64 r.vis) ∧ w'.cell? ⟨w.heap.size, 4, none⟩ = some (.int .i64 r.win) ∧ w'.cell? ⟨w.heap.size, 5, none⟩ = some (.int .i64 r.rcv) ∧ w'.cell? ⟨w.heap.size, 6, none⟩ = some (.int .i64 r.quo) ∧ w'.cell? ⟨w.heap.size, 7, none⟩ = some (.int .i64 r.mx) ∧ w'.cell? ⟨w.heap.size, 8, none⟩ = some (.int .i64 r.tic) ∧ w'.cell? ⟨w.heap.size, 9, none⟩ = some (.string r.grp) ∧ w'.cell? ⟨w.heap.size, 10, none⟩ = some (.string r.ded) ∧ w'.cell? ⟨w.heap.size, 11, none⟩ = some (.string r.bod) ∧ w'.cell? ⟨w.heap.size, 12, none⟩ = some (.string r.att) ∧ w'.cell? ⟨w.heap.size, 13, none⟩ = some (.string r.han) ∧ w'.cell? ⟨w.heap.size, 14, none⟩ = some (.slice x.a x.n x.c) ∧ w'.cell? ⟨st, 26, none⟩ = some (.func (.func 207) #[] #[.pointer (some ⟨b + 1 + 1, 0, none⟩)])) (go_keep) (first | (go_at_call 207; refine HN1.out.mono ?_; rintro e w1 ⟨av, chg, rfl, ht, hown, hk⟩; have k0 := (ht.cell (a := ⟨w.heap.size, 0, none⟩) hlL (by simp)).trans e0; have k1 := (ht.cell (a := ⟨w.heap.size, 1, none⟩) hlL (by simp)).trans e1; have k2 := (ht.cell (a := ⟨w.heap.size, 2, none⟩) hlL (by simp)).trans e2; have k3 := (ht.cell (a := ⟨w.heap.size, 3, none⟩) hlL (by simp)).trans e3; have k4 := (ht.cell (a := ⟨w.heap.size, 4, none⟩) hlL (by simp)).trans e4; have k5 := (ht.cell (a := ⟨w.heap.size, 5, none⟩) hlL (by simp)).trans e5; have k6 := (ht.cell (a := ⟨w.heap.size, 6, none⟩) hlL (by simp)).trans e6; have k7 := (ht.cell (a := ⟨w.heap.size, 7, none⟩) hlL (by simp)).trans e7; have k8 := (ht.cell (a := ⟨w.heap.size, 8, none⟩) hlL (by simp)).trans e8; have k9 := (ht.cell (a := ⟨w.heap.size, 9, none⟩) hlL (by simp)).trans e9; have k10 := (ht.cell (a := ⟨w.heap.size, 10, none⟩) hlL (by simp)).trans e10; have k11 := (ht.cell (a := ⟨w.heap.size, 11, none⟩) hlL (by simp)).trans e11; have k12 := (ht.cell (a := ⟨w.heap.size, 12, none⟩) hlL (by simp)).trans e12; have k13 := (ht.cell (a := ⟨w.heap.size, 13, none⟩) hlL (by simp)).trans e13; have k14 := (ht.cell (a := ⟨w.heap.size, 14, none⟩) hlL (by simp)).trans e14; have kx := (ht.cell (a := ⟨st, 26, none⟩) hlX (by simp)).trans cx2))
  obtain ⟨g, cap, hav, hcell⟩ := hown
  subst hav
  have HC : Hid (∀ j u, (bytesV l)[j]? = some u → w1.cell? ((⟨g, 0, none⟩ : Addr).add j) = some u) := hcell
  have HK : Hid (∀ w2, Tch [] w1 w2 → Chg B m xb st K (okL l) chg w2) := hk
  have HOW : Hid (∀ W : World, (W.alloc (.cells #[.int .u8 0] 5)).ownsRow W.heap.size 5 1 (.slice (some ⟨W.heap.size, 0, none⟩) 1 1) 1 [.int .u8 0]) := fun W => ⟨rfl, .inr ⟨W.heap.size, 1, #[.int .u8 0], rfl, Nat.le_refl _, heap_alloc_new _ _, by decide, by decide, rfl, rfl⟩⟩
  have HTW : Hid (Tch [] w w1) := TB.out.drew.trans ht (by simp)
  clear ht hcell hk
  go_wp2_with (at_builtin; refine wpList_append_own _ rfl _ _ 74 rfl w1.heap.size 5 i0 (.int .u8 0) 1 1 Tryz.underlying74 hi hz0 hz1 hz2 rfl (by decide) _ _ _ rfl (HOW.out w1) ⟨g, 0, none⟩ l.length cap (bytesV l) rfl ?c0 ?c1 ?c2 ?c3 ?c4 ?c5 ?_)
  case c0 => simp [bytesV]
  case c1 => exact fun j u hu => Lib.cell?_alloc_some _ (HC.out j u hu)
  case c2 => intro u hu; obtain ⟨z, _, rfl⟩ := List.mem_map.1 hu; rfl
  case c3 => unfold maxLen; omega
  case c4 => omega
  case c5 => simp
  intro v' w2 hown' hgrow _
  have hstr : (convert 74 9 v').run Tryz.prog w2 = .ok (.string (okL l)) w2 := OwnB.str (l := 0 :: l) (by
    have h := hown'
    unfold OwnB
    rw [List.length_cons, Nat.add_comm]
    exact h) (by simp)
  have HT2 : Hid (Tch [] w1 w2) := ((Tch.refl [] w1).alloc _).grown hgrow (fun j hj hlt => by
    simp [Value.ownBlock] at hj
    omega)
  clear hown' hgrow
  go_wp2_with fail
  rcases HK.out _ HT2.out with ⟨rfl, hk⟩ | ⟨f, fc, rfl, eg, hk⟩
  · go_ret2
    exact ⟨HTW.out.trans HT2.out (by simp), okL l, .inl ⟨rfl, hk⟩⟩
  · go_ret2
    exact ⟨HTW.out.trans HT2.out (by simp), okL l, .inr ⟨f, fc, rfl, eg, hk⟩⟩
end Go.Proofs.YtbdobaapadlcjaaGreatDoor
