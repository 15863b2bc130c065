/-
  THE WALKS of state.Do (61) and Broker.Do (34), out of what Plan answers.
-/
import Derived.Test.YtohanpmkgpcdcaaGreatDoorTkT
import Derived.Test.YtohanpmkgpcdcaaGreatDoorBackK
import Derived.Deep.RegionHeld3
import Derived.Shelf.Abstract
namespace Go.Proofs.YtohanpmkgpcdcaaGreatDoor
open Go.RowKit

theorem func_nil1 (fn : Fn) (f c : Array Value) (W : World) : (binOp .neq 1 (.func fn f c) .nilFunc).run Tryz.prog W = .ok (.bool true) W := by kernel_rfl
theorem nil_nil1 (W : World) : (binOp .neq 1 .nilFunc .nilFunc).run Tryz.prog W = .ok (.bool false) W := by kernel_rfl

def laidIn (w : World) (C : Array Value) : World := (w.alloc (.cells (cellsOf (opR 0) (Sl.v ⟨none, 0, 0⟩)) 27)).setRow w.heap.size C
theorem laidIn_heap (w : World) (C : Array Value) : (laidIn w C).heap[w.heap.size]? = some (.cells C 27 (0, 0)) := setRow_heap _ _ _ _ 27 (0, 0) (heap_alloc_new _ _)
theorem laidIn_tch (w : World) (C : Array Value) : Tch [] w (laidIn w C) := ((Tch.refl _ _).alloc _).setRow (fun h => absurd h (Nat.lt_irrefl _)) _
theorem laidIn_is (w : World) (C : Array Value) : (w.alloc (.cells #[.int .u8 0, .int .u8 0, .int .u8 0, .int .i64 0, .int .i64 0, .int .i64 0, .int .i64 0, .int .i64 0, .int .i64 0, .string ⟨#[]⟩, .string ⟨#[]⟩, .string ⟨#[]⟩, .string ⟨#[]⟩, .string ⟨#[]⟩, .slice none 0 0] 27)).setRow w.heap.size C = laidIn w C := rfl
theorem laidIn_size (w : World) (C : Array Value) : (laidIn w C).heap.size = w.heap.size + 1 := by simp [laidIn]

theorem parse_good (B : Nat) (s : ByteArray) (r : Wp.Rq) (w : World) (hs : s.size ≤ maxLen) (hL : Lays B w) (hBw : B ≤ w.heap.size) (hg : parseGood s = true) (hr : (endSt s).r = r) :
    Calls Tryz.prog 59 #[.string s] w fun e w' => ∃ y : Sl, e = .returned (.tuple #[.agg (cellsOf r y.v), .int .i64 0]) ∧ Below w.heap.size w w' := by
  refine (parse_any B s w hs hL hBw).mono ?_
  rintro e w' ⟨h | h, hb⟩
  · obtain ⟨_, y, he, _⟩ := h
    exact ⟨y, by rw [he, hr], hb⟩
  · rw [hg] at h
    exact absurd h.1 (by decide)

/-- What Plan leaves: nothing to change, or a closure that makes the change. -/
def Planned (P : ByteArray → World → Prop) (e : Ending) (w1 : World) : Prop :=
  ∃ t, (e = .returned (.tuple #[.string t, .nilFunc]) ∧ P t w1) ∨
    ∃ f cap, e = .returned (.tuple #[.string t, .func (.func f) #[] cap]) ∧ (∀ args w, (callFunc f args).run Tryz.prog w = .ok (.enter f args) w) ∧ Calls Tryz.prog f cap w1 fun e w' => e = .returned (.tuple #[]) ∧ P t w'

set_option maxHeartbeats 1000000 in
theorem sdo_walk (K : ByteArray → World → Prop) (r : Wp.Rq) (y : Sl) (st : Nat) (w : World)
    (hP : Calls Tryz.prog 81 #[.pointer (some ⟨st, 0, none⟩), .agg (cellsOf r y.v)] (w.alloc (.cells (cellsOf r y.v) 27)) (Planned K)) :
    Calls Tryz.prog 61 #[.pointer (some ⟨st, 0, none⟩), .agg (cellsOf r y.v)] w fun e w' => ∃ t, e = .returned (.string t) ∧ K t w' := by
  rw [show cellsOf r y.v = #[.int .u8 (r.op.toNat : Int), .int .u8 (r.q.toNat : Int), .int .u8 (r.d.toNat : Int), .int .i64 r.vis, .int .i64 r.win, .int .i64 r.rcv, .int .i64 r.quo, .int .i64 r.mx, .int .i64 r.tic, .string r.grp, .string r.ded, .string r.bod, .string r.att, .string r.han, .slice y.a y.n y.c] from rfl] at hP
  rw [show cellsOf r y.v = #[.int .u8 (r.op.toNat : Int), .int .u8 (r.q.toNat : Int), .int .u8 (r.d.toNat : Int), .int .i64 r.vis, .int .i64 r.win, .int .i64 r.rcv, .int .i64 r.quo, .int .i64 r.mx, .int .i64 r.tic, .string r.grp, .string r.ded, .string r.bod, .string r.att, .string r.han, .slice y.a y.n y.c] from rfl]
  have HP : Hid (Calls Tryz.prog 81 _ _ _) := hP
  have hfn := func_nil1
  have hnn := nil_nil1
  clear hP
  go_enter Tryz.func61, Tryz.ntmps61
  go_wp2_with fail
  refine HP.out.mono ?_
  rintro e w1 ⟨t, ⟨rfl, hk⟩ | ⟨f, cap, rfl, eg, hc⟩⟩
  · go_wp2_with fail
    go_ret
    exact ⟨t, rfl, hk⟩
  · have HC : Hid (Calls Tryz.prog f cap w1 _) := hc
    clear hc
    go_wp2_with (go_at_fn f; refine HC.out.mono ?_; rintro e w2 ⟨rfl, hk⟩)
    go_ret
    exact ⟨t, rfl, hk⟩

end Go.Proofs.YtohanpmkgpcdcaaGreatDoor

namespace Go.Proofs.YtohanpmkgpcdcaaGreatDoor
open Go.RowKit

set_option maxRecDepth 8000 in
set_option maxHeartbeats 2000000 in
theorem bdo_walk (K : ByteArray → World → Prop) (S : List Nat) (B : Nat) (s : ByteArray) (r : Wp.Rq) (x st : Nat) (w : World) (hs : s.size ≤ maxLen) (hL : Lays B w) (hBw : B ≤ w.heap.size) (hg : parseGood s = true) (hr : (endSt s).r = r)
    (hx : w.heap[x]? = some (.cells #[.pointer (some ⟨st, 0, none⟩)] 101 (0, 0))) (hS : ∀ k ∈ S, k < w.heap.size) (hxS : x ∉ S)
    (hD : ∀ (W : World) (y : Sl), Tch [] w W → Calls Tryz.prog 61 #[.pointer (some ⟨st, 0, none⟩), .agg (cellsOf r y.v)] W fun e w' => ∃ t, e = .returned (.string t) ∧ Tch S W w' ∧ K t w') :
    Calls Tryz.prog 34 #[.pointer (some ⟨x, 0, none⟩), .string s] w fun e w' => ∃ t, e = .returned (.string t) ∧ K t w' := by
  have hltx := lt_of_block hx
  have HB : Hid (w.heap[x]? = _) := hx
  have HD : Hid (∀ (W : World) (y : Sl), _) := hD
  clear hx hD
  go_enter Tryz.func34, Tryz.ntmps34
  go_wp2_with fail
  refine (parse_good B s r _ hs hL hBw hg hr).mono ?_
  rintro e w1 ⟨y, rfl, hb⟩
  have cx := cell_of_one ((hb.block _ hltx).trans HB.out)
  have HBL : Hid (Below w.heap.size w w1) := hb
  have hsz := hb.size
  have HBS : Hid (w1.heap.size ∉ S) := fun h => by have := hS _ h; omega
  have HXL : Hid ((laidIn w1 (cellsOf r y.v)).heap[w1.heap.size]? = some (.cells (cellsOf r y.v) 27 (0, 0))) := laidIn_heap _ _
  have HTL : Hid (Tch [] w1 (laidIn w1 (cellsOf r y.v))) := laidIn_tch _ _
  have cx2 : (laidIn w1 (cellsOf r y.v)).cell? ⟨x, 0, none⟩ = some (.pointer (some ⟨st, 0, none⟩)) := ((laidIn_tch _ _).cell (World.block_lt_of_cell? _ _ cx) (by simp)).trans cx
  obtain ⟨wl, hwl⟩ : ∃ wl, wl = laidIn w1 (cellsOf r y.v) := ⟨_, rfl⟩
  rw [← hwl] at HXL HTL cx2
  have HWL : Hid (wl = laidIn w1 (cellsOf r y.v)) := hwl
  clear hb hwl
  go_wp2_with (first
    | (refine wpList_store_row rfl 27 _ _ rfl w1.heap.size (cellsOf r y.v) ?hx ?hy 27 ?old ?hg ?hi ?hs ?h1 ?k; (case hx => rfl); (case hy => rfl); (case hg => exact heap_alloc_new _ _); (case hi => exact info37); (case hs => rfl); (case h1 => exact cells_one _ _); rw [laidIn_is, ← HWL.out]))
  have hrow := HXL.out
  rw [show cellsOf r y.v = #[.int .u8 (r.op.toNat : Int), .int .u8 (r.q.toNat : Int), .int .u8 (r.d.toNat : Int), .int .i64 r.vis, .int .i64 r.win, .int .i64 r.rcv, .int .i64 r.quo, .int .i64 r.mx, .int .i64 r.tic, .string r.grp, .string r.ded, .string r.bod, .string r.att, .string r.han, .slice y.a y.n y.c] from rfl] at hrow
  have e0 : wl.cell? ⟨w1.heap.size, 0, none⟩ = some (.int .u8 (r.op.toNat : Int)) := by simp [World.cell?, hrow]
  have e1 : wl.cell? ⟨w1.heap.size, 1, none⟩ = some (.int .u8 (r.q.toNat : Int)) := by simp [World.cell?, hrow]
  have e2 : wl.cell? ⟨w1.heap.size, 2, none⟩ = some (.int .u8 (r.d.toNat : Int)) := by simp [World.cell?, hrow]
  have e3 : wl.cell? ⟨w1.heap.size, 3, none⟩ = some (.int .i64 r.vis) := by simp [World.cell?, hrow]
  have e4 : wl.cell? ⟨w1.heap.size, 4, none⟩ = some (.int .i64 r.win) := by simp [World.cell?, hrow]
  have e5 : wl.cell? ⟨w1.heap.size, 5, none⟩ = some (.int .i64 r.rcv) := by simp [World.cell?, hrow]
  have e6 : wl.cell? ⟨w1.heap.size, 6, none⟩ = some (.int .i64 r.quo) := by simp [World.cell?, hrow]
  have e7 : wl.cell? ⟨w1.heap.size, 7, none⟩ = some (.int .i64 r.mx) := by simp [World.cell?, hrow]
  have e8 : wl.cell? ⟨w1.heap.size, 8, none⟩ = some (.int .i64 r.tic) := by simp [World.cell?, hrow]
  have e9 : wl.cell? ⟨w1.heap.size, 9, none⟩ = some (.string r.grp) := by simp [World.cell?, hrow]
  have e10 : wl.cell? ⟨w1.heap.size, 10, none⟩ = some (.string r.ded) := by simp [World.cell?, hrow]
  have e11 : wl.cell? ⟨w1.heap.size, 11, none⟩ = some (.string r.bod) := by simp [World.cell?, hrow]
  have e12 : wl.cell? ⟨w1.heap.size, 12, none⟩ = some (.string r.att) := by simp [World.cell?, hrow]
  have e13 : wl.cell? ⟨w1.heap.size, 13, none⟩ = some (.string r.han) := by simp [World.cell?, hrow]
  have e14 : wl.cell? ⟨w1.heap.size, 14, none⟩ = some (.slice y.a y.n y.c) := by simp [World.cell?, hrow]
  have hlL : w1.heap.size < wl.heap.size := lt_of_block HXL.out
  have hlX : x < wl.heap.size := World.block_lt_of_cell? _ _ cx2
  have HPL : Hid (∀ n, Calls Tryz.prog 61 #[.pointer (some ⟨st, 0, none⟩), .agg (cellsOf r y.v)] (wl.drewN n) fun e w' => ∃ t, e = .returned (.string t) ∧ Tch S (wl.drewN n) w' ∧ K t w') := fun n => HD.out (wl.drewN n) y (((Tch.of_below HBL.out).trans HTL.out (by simp)).drewN n)
  rw [show cellsOf r y.v = #[.int .u8 (r.op.toNat : Int), .int .u8 (r.q.toNat : Int), .int .u8 (r.d.toNat : Int), .int .i64 r.vis, .int .i64 r.win, .int .i64 r.rcv, .int .i64 r.quo, .int .i64 r.mx, .int .i64 r.tic, .string r.grp, .string r.ded, .string r.bod, .string r.att, .string r.han, .slice y.a y.n y.c] from rfl] at HPL
  have HPL1 : Hid (Calls Tryz.prog 61 #[.pointer (some ⟨st, 0, none⟩), .agg #[.int .u8 (r.op.toNat : Int), .int .u8 (r.q.toNat : Int), .int .u8 (r.d.toNat : Int), .int .i64 r.vis, .int .i64 r.win, .int .i64 r.rcv, .int .i64 r.quo, .int .i64 r.mx, .int .i64 r.tic, .string r.grp, .string r.ded, .string r.bod, .string r.att, .string r.han, .slice y.a y.n y.c]] wl.drew fun e w' => ∃ t, e = .returned (.string t) ∧ Tch S wl.drew w' ∧ K t w') := HPL.out 1
  clear hrow
  go_region_held3 (fun w' => w'.cell? ⟨w1.heap.size, 0, none⟩ = some (.int .u8 (r.op.toNat : Int)) ∧ w'.cell? ⟨w1.heap.size, 1, none⟩ = some (.int .u8 (r.q.toNat : Int)) ∧ w'.cell? ⟨w1.heap.size, 2, none⟩ = some (.int .u8 (r.d.toNat : Int)) ∧ w'.cell? ⟨w1.heap.size, 3, none⟩ = some (.int .i64 r.vis) ∧ w'.cell? ⟨w1.heap.size, 4, none⟩ = some (.int .i64 r.win) ∧ w'.cell? ⟨w1.heap.size, 5, none⟩ = some (.int .i64 r.rcv) ∧ w'.cell? ⟨w1.heap.size, 6, none⟩ = some (.int .i64 r.quo) ∧ w'.cell? ⟨w1.heap.size, 7, none⟩ = some (.int .i64 r.mx) ∧ w'.cell? ⟨w1.heap.size, 8, none⟩ = some (.int .i64 r.tic) ∧ w'.cell? ⟨w1.heap.size, 9, none⟩ = some (.string r.grp) ∧ w'.cell? ⟨w1.heap.size, 10, none⟩ = some (.string r.ded) ∧ w'.cell? ⟨w1.heap.size, 11, none⟩ = some (.string r.bod) ∧ w'.cell? ⟨w1.heap.size, 12, none⟩ = some (.string r.att) ∧ w'.cell? ⟨w1.heap.size, 13, none⟩ = some (.string r.han) ∧ w'.cell? ⟨w1.heap.size, 14, none⟩ = some (.slice y.a y.n y.c) ∧ w'.cell? ⟨x, 0, none⟩ = some (.pointer (some ⟨st, 0, none⟩))) (go_keep) (first | (go_at_call 61; refine HPL1.out.mono ?_; rintro e w2 ⟨t, rfl, ht, hk⟩; have k0 := (ht.cell (a := ⟨w1.heap.size, 0, none⟩) hlL HBS.out).trans e0; have k1 := (ht.cell (a := ⟨w1.heap.size, 1, none⟩) hlL HBS.out).trans e1; have k2 := (ht.cell (a := ⟨w1.heap.size, 2, none⟩) hlL HBS.out).trans e2; have k3 := (ht.cell (a := ⟨w1.heap.size, 3, none⟩) hlL HBS.out).trans e3; have k4 := (ht.cell (a := ⟨w1.heap.size, 4, none⟩) hlL HBS.out).trans e4; have k5 := (ht.cell (a := ⟨w1.heap.size, 5, none⟩) hlL HBS.out).trans e5; have k6 := (ht.cell (a := ⟨w1.heap.size, 6, none⟩) hlL HBS.out).trans e6; have k7 := (ht.cell (a := ⟨w1.heap.size, 7, none⟩) hlL HBS.out).trans e7; have k8 := (ht.cell (a := ⟨w1.heap.size, 8, none⟩) hlL HBS.out).trans e8; have k9 := (ht.cell (a := ⟨w1.heap.size, 9, none⟩) hlL HBS.out).trans e9; have k10 := (ht.cell (a := ⟨w1.heap.size, 10, none⟩) hlL HBS.out).trans e10; have k11 := (ht.cell (a := ⟨w1.heap.size, 11, none⟩) hlL HBS.out).trans e11; have k12 := (ht.cell (a := ⟨w1.heap.size, 12, none⟩) hlL HBS.out).trans e12; have k13 := (ht.cell (a := ⟨w1.heap.size, 13, none⟩) hlL HBS.out).trans e13; have k14 := (ht.cell (a := ⟨w1.heap.size, 14, none⟩) hlL HBS.out).trans e14; have kx := (ht.cell (a := ⟨x, 0, none⟩) hlX hxS).trans cx2))
  go_wp2_with fail
  go_ret
  exact ⟨t, rfl, by assumption⟩
end Go.Proofs.YtohanpmkgpcdcaaGreatDoor
