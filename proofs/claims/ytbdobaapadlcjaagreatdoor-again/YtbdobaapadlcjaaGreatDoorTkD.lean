/-
  THE WALKS of state.Do (61) and Broker.Do (34), out of what Plan answers.
-/
import Derived.Test.YtbdobaapadlcjaaGreatDoorJrD
import Derived.Test.YtbdobaapadlcjaaGreatDoorBackK
import Derived.Deep.RegionHeld3
import Derived.Shelf.Abstract
namespace Go.Proofs.YtbdobaapadlcjaaGreatDoor
open Go.RowKit

theorem func_nil1 (fn : Fn) (f c : Array Value) (W : World) : (binOp .neq 1 (.func fn f c) .nilFunc).run Tryz.prog W = .ok (.bool true) W := by kernel_rfl
theorem func_nil2 (fn : Fn) (f c : Array Value) (W : World) : (binOp .eql 1 (.func fn f c) .nilFunc).run Tryz.prog W = .ok (.bool false) W := by kernel_rfl
theorem nil_nil2 (W : World) : (binOp .eql 1 .nilFunc .nilFunc).run Tryz.prog W = .ok (.bool true) W := by kernel_rfl
theorem nil_nil1 (W : World) : (binOp .neq 1 .nilFunc .nilFunc).run Tryz.prog W = .ok (.bool false) W := by kernel_rfl

def laidIn (w : World) (C : Array Value) : World := (w.alloc (.cells (cellsOf (opR 0) (Sl.v ⟨none, 0, 0⟩)) 27)).setRow w.heap.size C
theorem laidIn_heap (w : World) (C : Array Value) : (laidIn w C).heap[w.heap.size]? = some (.cells C 27 (0, 0)) := setRow_heap _ _ _ _ 27 (0, 0) (heap_alloc_new _ _)
theorem laidIn_tch (w : World) (C : Array Value) : Tch [] w (laidIn w C) := ((Tch.refl _ _).alloc _).setRow (fun h => absurd h (Nat.lt_irrefl _)) _
theorem laidIn_is (w : World) (C : Array Value) : (w.alloc (.cells #[.int .u8 0, .int .u8 0, .int .u8 0, .int .i64 0, .int .i64 0, .int .i64 0, .int .i64 0, .int .i64 0, .int .i64 0, .string ⟨#[]⟩, .string ⟨#[]⟩, .string ⟨#[]⟩, .string ⟨#[]⟩, .string ⟨#[]⟩, .slice none 0 0] 27)).setRow w.heap.size C = laidIn w C := rfl
theorem laidIn_size (w : World) (C : Array Value) : (laidIn w C).heap.size = w.heap.size + 1 := by simp [laidIn]

theorem parse_good (B : Nat) (s : ByteArray) (r : Wp.Rq) (w : World) (hs : s.size ≤ maxLen) (hL : Lays B w) (hBw : B ≤ w.heap.size) (hg : parseGood s = true) (hr : (endSt s).r = r) :
    Calls Tryz.prog 60 #[.string s] w fun e w' => ∃ y : Sl, e = .returned (.tuple #[.agg (cellsOf r y.v), .int .i64 0]) ∧ Below w.heap.size w w' := by
  refine (parse_any B s w hs hL hBw).mono ?_
  rintro e w' ⟨h | h, hb⟩
  · obtain ⟨_, y, he, _⟩ := h
    exact ⟨y, by rw [he, hr], hb⟩
  · rw [hg] at h
    exact absurd h.1 (by decide)

/-- What Plan leaves: nothing to change, or a closure that makes the change when it is laid down. -/
def Planned (B m x st : Nat) (K : ByteArray → World → Prop) (e : Ending) (w1 : World) : Prop :=
  ∃ t, (e = .returned (.tuple #[.string t, .nilFunc]) ∧ ∀ w2, Tch [] w1 w2 → K t w2) ∨
    ∃ f cap, e = .returned (.tuple #[.string t, .func (.func f) #[] cap]) ∧ (∀ args w, (callFunc f args).run Tryz.prog w = .ok (.enter f args) w) ∧ ∀ w2 w3, Tch [] w1 w2 → Fr B TJ w2 w3 → Jn false B m w3 x st → Calls Tryz.prog f cap w3 fun e w' => e = .returned (.tuple #[]) ∧ K t w'
theorem Planned.shape {B m x st : Nat} {K : ByteArray → World → Prop} {e : Ending} {w : World} (h : Planned B m x st K e w) : ∃ t chg, e = .returned (.tuple #[.string t, chg]) := by
  obtain ⟨t, ⟨h, _⟩ | ⟨f, cap, h, _⟩⟩ := h
  · exact ⟨_, _, h⟩
  · exact ⟨_, _, h⟩

set_option maxRecDepth 8000 in
set_option maxHeartbeats 2000000 in
theorem bdo_walk (fr : Bool) (K : ByteArray → World → Prop) (B m : Nat) (s : ByteArray) (r : Wp.Rq) (x st : Nat) (Cst : Array Value) (w : World) (hs : s.size ≤ 300) (hL : Lays B w) (hT : Tab w) (hBw : B ≤ w.heap.size) (h3 : 3 ≤ B) (hg : parseGood s = true) (hr : (endSt s).r = r)
    (hJ : Jn fr B (m + 1) w x st) (hm : m ≤ 24) (hst : w.heap[st]? = some (.cells Cst 156 (0, 0)))
    (hW : fr = true → ∀ W S, Tch S w W → st ∉ S → Calls Tryz.prog 65 #[.pointer (some ⟨st, 0, none⟩)] W fun e w' => ∃ t, e = .returned (.string t) ∧ t.size ≤ 1000 ∧ Tch [] W w')
    (hP : ∀ (W : World) (y : Sl), Tch [] w W → Calls Tryz.prog 62 #[.pointer (some ⟨st, 0, none⟩), .agg (cellsOf r y.v)] W fun e w' => Tch [] W w' ∧ Planned B m x st K e w') :
    Calls Tryz.prog 34 #[.pointer (some ⟨x, 0, none⟩), .string s] w fun e w' => ∃ t, e = .returned (.string t) ∧ K t w' := by
  obtain ⟨j, d, room, v, fs, n, k, hJp⟩ := hJ
  have hx := hJp.hx
  have hltx := lt_of_block hx
  have hltj := lt_of_block hJp.jr.hj
  have hjst : st ≠ j := fun e => by
    have h1 := hJp.jr.hj
    rw [← e, hst] at h1
    simp at h1
  have a0 : w.cell? ⟨x, 0, none⟩ = some (.pointer (some ⟨st, 0, none⟩)) := (cell_of_row w x 0 _ 99 (0, 0) hx).trans rfl
  have a1 : w.cell? ⟨x, 1, none⟩ = some (.pointer (some ⟨j, 0, none⟩)) := (cell_of_row w x 1 _ 99 (0, 0) hx).trans rfl
  have aj : w.cell? ⟨j, 2, none⟩ = some (.bool false) := hJp.jr.c2
  -- Lay, at a world that lies behind w by new blocks alone
  have HLAY : Hid (∀ W rv, Tch [] w W → OwnB W w.heap.size rv (recB s) → Calls Tryz.prog 63 #[.pointer (some ⟨j, 0, none⟩), rv, .func (.func 65) #[.pointer (some ⟨st, 0, none⟩)] #[]] W fun e w' => e = .returned (.bool true) ∧ Fr B TJ W w' ∧ Jn false B m w' x st) := fun W rv ht ho => by
    refine lay_ok fr B m w.heap.size x st j d room v fs n k rv (recB s) W ⟨(ht.block _ hltx (by simp)).trans hx, hJp.jr.tch ht (by simp), hJp.lo, hJp.ro, hJp.bd⟩ hm (Nat.le_trans hBw ht.size) h3 (hT.below (B := 3) (ht.below (by simp) (by omega)) (by decide)) ho (by rw [recB_length]; omega) (by rw [recB_length]; omega) ?_
    intro hf W2 ht2
    exact hW hf W2 [j] ((ht.sub (by simp)).trans ht2 (fun _ h _ => h)) (by simpa using hjst)
  have HREC : Hid (∀ W, Tch [] w W → Calls Tryz.prog 64 #[.slice none 0 0, .string s] W fun e w' => ∃ rv, e = .returned rv ∧ OwnB w' w.heap.size rv (recB s) ∧ Tch [] W w') := fun W ht => by
    refine (record_any s W (by omega) (hT.below (B := 3) (ht.below (by simp) (by omega)) (by decide)) (by have := ht.size; omega)).mono ?_
    rintro e w' ⟨rv, rfl, ho, hb⟩
    exact ⟨rv, rfl, ⟨ho.1, by
      rcases ho.2 with h | ⟨g, cap, cur, rfl, hb', rest⟩
      · exact .inl h
      · exact .inr ⟨g, cap, cur, rfl, Nat.le_trans ht.size hb', rest⟩⟩, Tch.of_below hb⟩
  have HD : Hid (∀ (W : World) (y : Sl), _) := hP
  have hfn := func_nil2
  have hnn := nil_nil2
  have HXB : Hid (w.heap[x]? = some (.cells #[.pointer (some ⟨st, 0, none⟩), .pointer (some ⟨j, 0, none⟩)] 99 (0, 0))) := hx
  clear hx hP hJp hW hst
  go_enter Tryz.func34, Tryz.ntmps34
  go_wp2_with (go_at_call 59; go_in)
  refine (parse_good B s r _ (by unfold maxLen; omega) hL hBw hg hr).mono ?_
  rintro e w1 ⟨y, rfl, hb⟩
  have cx := (hb.cell (p := ⟨x, 0, none⟩) hltx).trans a0
  have cx1 := (hb.cell (p := ⟨x, 1, none⟩) hltx).trans a1
  have HBL : Hid (Below w.heap.size w w1) := hb
  have hsz := hb.size
  have HXL : Hid ((laidIn w1 (cellsOf r y.v)).heap[w1.heap.size]? = some (.cells (cellsOf r y.v) 27 (0, 0))) := laidIn_heap _ _
  have HTL : Hid (Tch [] w1 (laidIn w1 (cellsOf r y.v))) := laidIn_tch _ _
  have cx2 : (laidIn w1 (cellsOf r y.v)).cell? ⟨x, 0, none⟩ = some (.pointer (some ⟨st, 0, none⟩)) := ((laidIn_tch _ _).cell (World.block_lt_of_cell? _ _ cx) (by simp)).trans cx
  have cx3 : (laidIn w1 (cellsOf r y.v)).cell? ⟨x, 1, none⟩ = some (.pointer (some ⟨j, 0, none⟩)) := ((laidIn_tch _ _).cell (World.block_lt_of_cell? _ _ cx1) (by simp)).trans cx1
  obtain ⟨wl, hwl⟩ : ∃ wl, wl = laidIn w1 (cellsOf r y.v) := ⟨_, rfl⟩
  rw [← hwl] at HXL HTL cx2 cx3
  have HWL : Hid (wl = laidIn w1 (cellsOf r y.v)) := hwl
  clear hb hwl a0 a1 aj
  go_wp2_with (first
    | (refine wpList_store_row rfl 27 _ _ rfl w1.heap.size (cellsOf r y.v) ?hx ?hy 27 ?old ?hg ?hi ?hs ?h1 ?k; (case hx => rfl); (case hy => rfl); (case hg => exact heap_alloc_new _ _); (case hi => exact info37); (case hs => rfl); (case h1 => exact cells_one _ _); rw [laidIn_is, ← HWL.out]))
  have hrow := HXL.out
  rw [show cellsOf r y.v = #[.int .u8 (r.op.toNat : Int), .int .u8 (r.q.toNat : Int), .int .u8 (r.d.toNat : Int), .int .i64 r.vis, .int .i64 r.win, .int .i64 r.rcv, .int .i64 r.quo, .int .i64 r.mx, .int .i64 r.tic, .string r.grp, .string r.ded, .string r.bod, .string r.att, .string r.han, .slice y.a y.n y.c] from rfl] at hrow
  have e0 : wl.cell? ⟨w1.heap.size, 0, none⟩ = some (.int .u8 (r.op.toNat : Int)) := by simp [World.cell?, hrow]
  have e1 : wl.cell? ⟨w1.heap.size, 1, none⟩ = some (.int .u8 (r.q.toNat : Int)) := by simp [World.cell?, hrow]
  have e2 : wl.cell? ⟨w1.heap.size, 2, none⟩ = some (.int .u8 (r.d.toNat : Int)) := by simp [World.cell?, hrow]
  have e3 : wl.cell? ⟨w1.heap.size, 3, none⟩ = some (.int .i64 r.vis) := by simp [World.cell?, hrow]
  have e4 : wl.cell? ⟨w1.heap.size, 4, none⟩ = some (.int .i64 r.win) := by simp [World.cell?, hrow]
  have e5 : wl.cell? ⟨w1.heap.size, 5, none⟩ = some (.int .i64 r.rcv) := by simp [World.cell?, hrow]
  have e6 : wl.cell? ⟨w1.heap.size, 6, none⟩ = some (.int .i64 r.quo) := by simp [World.cell?, hrow]
  have e7 : wl.cell? ⟨w1.heap.size, 7, none⟩ = some (.int .i64 r.mx) := by simp [World.cell?, hrow]
  have e8 : wl.cell? ⟨w1.heap.size, 8, none⟩ = some (.int .i64 r.tic) := by simp [World.cell?, hrow]
  have e9 : wl.cell? ⟨w1.heap.size, 9, none⟩ = some (.string r.grp) := by simp [World.cell?, hrow]
  have e10 : wl.cell? ⟨w1.heap.size, 10, none⟩ = some (.string r.ded) := by simp [World.cell?, hrow]
  have e11 : wl.cell? ⟨w1.heap.size, 11, none⟩ = some (.string r.bod) := by simp [World.cell?, hrow]
  have e12 : wl.cell? ⟨w1.heap.size, 12, none⟩ = some (.string r.att) := by simp [World.cell?, hrow]
  have e13 : wl.cell? ⟨w1.heap.size, 13, none⟩ = some (.string r.han) := by simp [World.cell?, hrow]
  have e14 : wl.cell? ⟨w1.heap.size, 14, none⟩ = some (.slice y.a y.n y.c) := by simp [World.cell?, hrow]
  have hlL : w1.heap.size < wl.heap.size := lt_of_block HXL.out
  have hlX : x < wl.heap.size := World.block_lt_of_cell? _ _ cx2
  have HX1 : Hid (wl.cell? ⟨x, 1, none⟩ = some (.pointer (some ⟨j, 0, none⟩))) := cx3
  have HTW : Hid (Tch [] w wl) := (Tch.of_below HBL.out).trans HTL.out (by simp)
  have HPL : Hid (∀ n, Calls Tryz.prog 62 #[.pointer (some ⟨st, 0, none⟩), .agg (cellsOf r y.v)] (wl.drewN n) fun e w' => Tch [] (wl.drewN n) w' ∧ Planned B m x st K e w') := fun n => HD.out (wl.drewN n) y (HTW.out.drewN n)
  rw [show cellsOf r y.v = #[.int .u8 (r.op.toNat : Int), .int .u8 (r.q.toNat : Int), .int .u8 (r.d.toNat : Int), .int .i64 r.vis, .int .i64 r.win, .int .i64 r.rcv, .int .i64 r.quo, .int .i64 r.mx, .int .i64 r.tic, .string r.grp, .string r.ded, .string r.bod, .string r.att, .string r.han, .slice y.a y.n y.c] from rfl] at HPL
  have HPL1 : Hid (Calls Tryz.prog 62 #[.pointer (some ⟨st, 0, none⟩), .agg #[.int .u8 (r.op.toNat : Int), .int .u8 (r.q.toNat : Int), .int .u8 (r.d.toNat : Int), .int .i64 r.vis, .int .i64 r.win, .int .i64 r.rcv, .int .i64 r.quo, .int .i64 r.mx, .int .i64 r.tic, .string r.grp, .string r.ded, .string r.bod, .string r.att, .string r.han, .slice y.a y.n y.c]] wl.drew fun e w' => Tch [] wl.drew w' ∧ Planned B m x st K e w') := HPL.out 1
  clear hrow cx3
  go_region_held3 (fun w' => w'.cell? ⟨w1.heap.size, 0, none⟩ = some (.int .u8 (r.op.toNat : Int)) ∧ w'.cell? ⟨w1.heap.size, 1, none⟩ = some (.int .u8 (r.q.toNat : Int)) ∧ w'.cell? ⟨w1.heap.size, 2, none⟩ = some (.int .u8 (r.d.toNat : Int)) ∧ w'.cell? ⟨w1.heap.size, 3, none⟩ = some (.int .i64 r.vis) ∧ w'.cell? ⟨w1.heap.size, 4, none⟩ = some (.int .i64 r.win) ∧ w'.cell? ⟨w1.heap.size, 5, none⟩ = some (.int .i64 r.rcv) ∧ w'.cell? ⟨w1.heap.size, 6, none⟩ = some (.int .i64 r.quo) ∧ w'.cell? ⟨w1.heap.size, 7, none⟩ = some (.int .i64 r.mx) ∧ w'.cell? ⟨w1.heap.size, 8, none⟩ = some (.int .i64 r.tic) ∧ w'.cell? ⟨w1.heap.size, 9, none⟩ = some (.string r.grp) ∧ w'.cell? ⟨w1.heap.size, 10, none⟩ = some (.string r.ded) ∧ w'.cell? ⟨w1.heap.size, 11, none⟩ = some (.string r.bod) ∧ w'.cell? ⟨w1.heap.size, 12, none⟩ = some (.string r.att) ∧ w'.cell? ⟨w1.heap.size, 13, none⟩ = some (.string r.han) ∧ w'.cell? ⟨w1.heap.size, 14, none⟩ = some (.slice y.a y.n y.c) ∧ w'.cell? ⟨x, 0, none⟩ = some (.pointer (some ⟨st, 0, none⟩))) (go_keep) (first | (go_at_call 62; refine HPL1.out.mono ?_; rintro e w2 ⟨ht, hpl⟩; obtain ⟨t, chg, rfl⟩ := hpl.shape; have k0 := (ht.cell (a := ⟨w1.heap.size, 0, none⟩) hlL (by simp)).trans e0; have k1 := (ht.cell (a := ⟨w1.heap.size, 1, none⟩) hlL (by simp)).trans e1; have k2 := (ht.cell (a := ⟨w1.heap.size, 2, none⟩) hlL (by simp)).trans e2; have k3 := (ht.cell (a := ⟨w1.heap.size, 3, none⟩) hlL (by simp)).trans e3; have k4 := (ht.cell (a := ⟨w1.heap.size, 4, none⟩) hlL (by simp)).trans e4; have k5 := (ht.cell (a := ⟨w1.heap.size, 5, none⟩) hlL (by simp)).trans e5; have k6 := (ht.cell (a := ⟨w1.heap.size, 6, none⟩) hlL (by simp)).trans e6; have k7 := (ht.cell (a := ⟨w1.heap.size, 7, none⟩) hlL (by simp)).trans e7; have k8 := (ht.cell (a := ⟨w1.heap.size, 8, none⟩) hlL (by simp)).trans e8; have k9 := (ht.cell (a := ⟨w1.heap.size, 9, none⟩) hlL (by simp)).trans e9; have k10 := (ht.cell (a := ⟨w1.heap.size, 10, none⟩) hlL (by simp)).trans e10; have k11 := (ht.cell (a := ⟨w1.heap.size, 11, none⟩) hlL (by simp)).trans e11; have k12 := (ht.cell (a := ⟨w1.heap.size, 12, none⟩) hlL (by simp)).trans e12; have k13 := (ht.cell (a := ⟨w1.heap.size, 13, none⟩) hlL (by simp)).trans e13; have k14 := (ht.cell (a := ⟨w1.heap.size, 14, none⟩) hlL (by simp)).trans e14; have kx := (ht.cell (a := ⟨x, 0, none⟩) hlX (by simp)).trans cx2))
  have kx1 : w2.cell? ⟨x, 1, none⟩ = some (.pointer (some ⟨j, 0, none⟩)) := (ht.cell (a := ⟨x, 1, none⟩) hlX (by simp)).trans HX1.out
  have HT2 : Hid (Tch [] w w2) := (HTW.out.drew).trans ht (by simp)
  have hlX2 : x < w2.heap.size := World.block_lt_of_cell? _ _ kx
  clear ht cx2 cx cx1 e0 k0 e1 k1 e2 k2 e3 k3 e4 k4 e5 k5 e6 k6 e7 k7 e8 k8 e9 k9 e10 k10 e11 k11 e12 k12 e13 k13 e14 k14
  obtain ⟨t', ⟨he, hk⟩ | ⟨f, cap, he, eg, hc⟩⟩ := hpl
  · simp only [Ending.returned.injEq, Value.tuple.injEq, Array.mk.injEq, List.cons.injEq, Value.string.injEq, and_true] at he
    obtain ⟨rfl, rfl⟩ := he
    go_wp2_with fail
    go_ret
    exact ⟨_, rfl, hk _ (Tch.refl _ _)⟩
  · simp only [Ending.returned.injEq, Value.tuple.injEq, Array.mk.injEq, List.cons.injEq, Value.string.injEq, and_true] at he
    obtain ⟨rfl, rfl⟩ := he
    have HC : Hid (∀ w2' w3, _) := hc
    clear hc
    go_wp2_with fail
    go_region_held3 (fun w' => w'.cell? ⟨x, 0, none⟩ = some (.pointer (some ⟨st, 0, none⟩)) ∧ w'.cell? ⟨x, 1, none⟩ = some (.pointer (some ⟨j, 0, none⟩))) (go_keep) (first | (go_at_call 64; refine (HREC.out _ HT2.out.drew).mono ?_; rintro e w3 ⟨rv, rfl, ho, ht3⟩; have m0 := (ht3.cell (a := ⟨x, 0, none⟩) hlX2 (by simp)).trans kx; have m1 := (ht3.cell (a := ⟨x, 1, none⟩) hlX2 (by simp)).trans kx1; have HT3 : Hid (Tch [] w w3 ∧ Tch [] w2 w3 ∧ OwnB w3 w.heap.size rv (recB s)) := ⟨HT2.out.drew.trans ht3 (by simp), (Tch.refl [] w2).drew.trans ht3 (by simp), ho⟩; clear ho ht3) | (go_at_call 63; refine (HLAY.out _ _ HT3.out.1 HT3.out.2.2).mono ?_; rintro e w4 ⟨rfl, hfr, hjn⟩; have hb4 := hfr.keep x _ 99 ((HT3.out.1.block x hltx (by simp)).trans HXB.out) (by decide); have n0 : w4.cell? ⟨x, 0, none⟩ = some (.pointer (some ⟨st, 0, none⟩)) := (cell_of_row w4 x 0 _ 99 (0, 0) hb4).trans rfl; have n1 : w4.cell? ⟨x, 1, none⟩ = some (.pointer (some ⟨j, 0, none⟩)) := (cell_of_row w4 x 1 _ 99 (0, 0) hb4).trans rfl; have HC4 : Hid (Calls Tryz.prog f cap w4 fun e w' => e = .returned (.tuple #[]) ∧ K t w') := HC.out w3 w4 HT3.out.2.1 hfr hjn; clear hfr hjn hb4))
    all_goals go_wp2_with (go_at_fn f; refine HC4.out.mono ?_; rintro e w5 ⟨rfl, hk⟩)
    all_goals go_ret
    all_goals exact ⟨t, rfl, hk⟩
end Go.Proofs.YtbdobaapadlcjaaGreatDoor
