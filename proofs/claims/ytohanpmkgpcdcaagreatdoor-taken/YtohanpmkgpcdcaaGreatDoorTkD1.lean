/-
  THE WALKS of state.Do (61) and Broker.Do (34), out of what Plan answers.
-/
import Derived.Test.YtohanpmkgpcdcaaGreatDoorTkT
import Derived.Test.YtohanpmkgpcdcaaGreatDoorBackK
import Derived.Deep.RegionHeld3
import Derived.Shelf.Abstract
namespace Go.Proofs.YtohanpmkgpcdcaaGreatDoor
open Go.RowKit

theorem func_nil1 (fn : Fn) (f c : Array Value) (W : World) : (binOp .neq 1 (.func fn f c) .nilFunc).run Tryz.prog W = .ok (.bool true) W := by kernel_rfl
theorem nil_nil1 (W : World) : (binOp .neq 1 .nilFunc .nilFunc).run Tryz.prog W = .ok (.bool false) W := by kernel_rfl

def laidIn (w : World) (C : Array Value) : World := (w.alloc (.cells (cellsOf (opR 0) (Sl.v ⟨none, 0, 0⟩)) 27)).setRow w.heap.size C
theorem laidIn_heap (w : World) (C : Array Value) : (laidIn w C).heap[w.heap.size]? = some (.cells C 27 (0, 0)) := setRow_heap _ _ _ _ 27 (0, 0) (heap_alloc_new _ _)
theorem laidIn_tch (w : World) (C : Array Value) : Tch [] w (laidIn w C) := ((Tch.refl _ _).alloc _).setRow (fun h => absurd h (Nat.lt_irrefl _)) _
theorem laidIn_is (w : World) (C : Array Value) : (w.alloc (.cells #[.int .u8 0, .int .u8 0, .int .u8 0, .int .i64 0, .int .i64 0, .int .i64 0, .int .i64 0, .int .i64 0, .int .i64 0, .string ⟨#[]⟩, .string ⟨#[]⟩, .string ⟨#[]⟩, .string ⟨#[]⟩, .string ⟨#[]⟩, .slice none 0 0] 27)).setRow w.heap.size C = laidIn w C := rfl
theorem laidIn_size (w : World) (C : Array Value) : (laidIn w C).heap.size = w.heap.size + 1 := by simp [laidIn]

theorem parse_good (B : Nat) (s : ByteArray) (r : Wp.Rq) (w : World) (hs : s.size ≤ maxLen) (hL : Lays B w) (hBw : B ≤ w.heap.size) (hg : parseGood s = true) (hr : (endSt s).r = r) :
    Calls Tryz.prog 59 #[.string s] w fun e w' => ∃ y : Sl, e = .returned (.tuple #[.agg (cellsOf r y.v), .int .i64 0]) ∧ Below w.heap.size w w' := by
  refine (parse_any B s w hs hL hBw).mono ?_
  rintro e w' ⟨h | h, hb⟩
  · obtain ⟨_, y, he, _⟩ := h
    exact ⟨y, by rw [he, hr], hb⟩
  · rw [hg] at h
    exact absurd h.1 (by decide)

/-- What Plan leaves: nothing to change, or a closure that makes the change. -/
def Planned (P : ByteArray → World → Prop) (e : Ending) (w1 : World) : Prop :=
  ∃ t, (e = .returned (.tuple #[.string t, .nilFunc]) ∧ P t w1) ∨
    ∃ f cap, e = .returned (.tuple #[.string t, .func (.func f) #[] cap]) ∧ (∀ args w, (callFunc f args).run Tryz.prog w = .ok (.enter f args) w) ∧ Calls Tryz.prog f cap w1 fun e w' => e = .returned (.tuple #[]) ∧ P t w'

set_option maxHeartbeats 1000000 in
theorem sdo_walk (K : ByteArray → World → Prop) (r : Wp.Rq) (y : Sl) (st : Nat) (w : World)
    (hP : Calls Tryz.prog 81 #[.pointer (some ⟨st, 0, none⟩), .agg (cellsOf r y.v)] (w.alloc (.cells (cellsOf r y.v) 27)) (Planned K)) :
    Calls Tryz.prog 61 #[.pointer (some ⟨st, 0, none⟩), .agg (cellsOf r y.v)] w fun e w' => ∃ t, e = .returned (.string t) ∧ K t w' := by
  rw [show cellsOf r y.v = #[.int .u8 (r.op.toNat : Int), .int .u8 (r.q.toNat : Int), .int .u8 (r.d.toNat : Int), .int .i64 r.vis, .int .i64 r.win, .int .i64 r.rcv, .int .i64 r.quo, .int .i64 r.mx, .int .i64 r.tic, .string r.grp, .string r.ded, .string r.bod, .string r.att, .string r.han, .slice y.a y.n y.c] from rfl] at hP
  rw [show cellsOf r y.v = #[.int .u8 (r.op.toNat : Int), .int .u8 (r.q.toNat : Int), .int .u8 (r.d.toNat : Int), .int .i64 r.vis, .int .i64 r.win, .int .i64 r.rcv, .int .i64 r.quo, .int .i64 r.mx, .int .i64 r.tic, .string r.grp, .string r.ded, .string r.bod, .string r.att, .string r.han, .slice y.a y.n y.c] from rfl]
  have HP : Hid (Calls Tryz.prog 81 _ _ _) := hP
  have hfn := func_nil1
  have hnn := nil_nil1
  clear hP
  go_enter Tryz.func61, Tryz.ntmps61
  go_wp2_with fail
  refine HP.out.mono ?_
  rintro e w1 ⟨t, ⟨rfl, hk⟩ | ⟨f, cap, rfl, eg, hc⟩⟩
  · go_wp2_with fail
    go_ret
    exact ⟨t, rfl, hk⟩
  · have HC : Hid (Calls Tryz.prog f cap w1 _) := hc
    clear hc
    go_wp2_with (go_at_fn f; refine HC.out.mono ?_; rintro e w2 ⟨rfl, hk⟩)
    go_ret
    exact ⟨t, rfl, hk⟩

end Go.Proofs.YtohanpmkgpcdcaaGreatDoor
