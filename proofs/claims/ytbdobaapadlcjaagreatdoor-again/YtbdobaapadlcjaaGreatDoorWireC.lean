/-
  THE WALKS of package wire's erase (80) and blank (81).
-/
import Derived.Test.YtbdobaapadlcjaaGreatDoorWireA
namespace Go.Proofs.YtbdobaapadlcjaaGreatDoor
open Go.RowKit
set_option linter.unusedVariables false

/-- Where a field stands among the cells, and what it is when it is without anything. -/
def offOf (f : Nat) : Nat := if f = 14 then 14 else if f ≤ 1 then f + 1 else if f ≤ 7 then f + 1 else if f = 8 then 8 else f
def zeroOf (f : Nat) : Value := if f ≤ 1 then .int .u8 0 else if f ≤ 8 then .int .i64 0 else if f ≤ 13 then .string ⟨#[]⟩ else .slice none 0 0

set_option maxHeartbeats 1000000 in
theorem erase_any (B b f : Nat) (v : Value) (w : World) (hf : f < 15) (hL : Lays B w) (hc : w.cell? ⟨b, offOf f, none⟩ = some v) (hz : w.frozen? ⟨b, offOf f, none⟩ = false) :
    Calls Tryz.prog 110 #[.pointer (some ⟨b, 0, none⟩), .int .i64 (f : Int)] w fun e w' => e = .returned (.tuple #[]) ∧ w' = w.setCell ⟨b, offOf f, none⟩ (zeroOf f) := by
  have hr := hL.2.1
  have hx : f = 0 ∨ f = 1 ∨ f = 2 ∨ f = 3 ∨ f = 4 ∨ f = 5 ∨ f = 6 ∨ f = 7 ∨ f = 8 ∨ f = 9 ∨ f = 10 ∨ f = 11 ∨ f = 12 ∨ f = 13 ∨ f = 14 := by omega
  rcases hx with rfl | rfl | rfl | rfl | rfl | rfl | rfl | rfl | rfl | rfl | rfl | rfl | rfl | rfl | rfl
  · have hc' : w.cell? ⟨b, 1, none⟩ = some v := hc
    have hz' : w.frozen? ⟨b, 1, none⟩ = false := hz
    have t0 : w.cell? ⟨1, 0, none⟩ = some (.int .i64 0) := hr 0 (by decide)
    clear hc hz hr hL
    go_enter Tryz.func110, Tryz.ntmps110
    go_wp2
    go_end0
    exact ⟨rfl, rfl⟩
  · have hc' : w.cell? ⟨b, 2, none⟩ = some v := hc
    have hz' : w.frozen? ⟨b, 2, none⟩ = false := hz
    have t3 : w.cell? ⟨1, 3, none⟩ = some (.int .i64 0) := hr 3 (by decide)
    clear hc hz hr hL
    go_enter Tryz.func110, Tryz.ntmps110
    go_wp2
    go_end0
    exact ⟨rfl, rfl⟩
  · have hc' : w.cell? ⟨b, 3, none⟩ = some v := hc
    have hz' : w.frozen? ⟨b, 3, none⟩ = false := hz
    have t6 : w.cell? ⟨1, 6, none⟩ = some (.int .i64 2) := hr 6 (by decide)
    clear hc hz hr hL
    go_enter Tryz.func110, Tryz.ntmps110
    go_wp2
    go_end0
    exact ⟨rfl, rfl⟩
  · have hc' : w.cell? ⟨b, 4, none⟩ = some v := hc
    have hz' : w.frozen? ⟨b, 4, none⟩ = false := hz
    have t9 : w.cell? ⟨1, 9, none⟩ = some (.int .i64 2) := hr 9 (by decide)
    clear hc hz hr hL
    go_enter Tryz.func110, Tryz.ntmps110
    go_wp2
    go_end0
    exact ⟨rfl, rfl⟩
  · have hc' : w.cell? ⟨b, 5, none⟩ = some v := hc
    have hz' : w.frozen? ⟨b, 5, none⟩ = false := hz
    have t12 : w.cell? ⟨1, 12, none⟩ = some (.int .i64 1) := hr 12 (by decide)
    clear hc hz hr hL
    go_enter Tryz.func110, Tryz.ntmps110
    go_wp2
    go_end0
    exact ⟨rfl, rfl⟩
  · have hc' : w.cell? ⟨b, 6, none⟩ = some v := hc
    have hz' : w.frozen? ⟨b, 6, none⟩ = false := hz
    have t15 : w.cell? ⟨1, 15, none⟩ = some (.int .i64 1) := hr 15 (by decide)
    clear hc hz hr hL
    go_enter Tryz.func110, Tryz.ntmps110
    go_wp2
    go_end0
    exact ⟨rfl, rfl⟩
  · have hc' : w.cell? ⟨b, 7, none⟩ = some v := hc
    have hz' : w.frozen? ⟨b, 7, none⟩ = false := hz
    have t18 : w.cell? ⟨1, 18, none⟩ = some (.int .i64 1) := hr 18 (by decide)
    clear hc hz hr hL
    go_enter Tryz.func110, Tryz.ntmps110
    go_wp2
    go_end0
    exact ⟨rfl, rfl⟩
  · have hc' : w.cell? ⟨b, 8, none⟩ = some v := hc
    have hz' : w.frozen? ⟨b, 8, none⟩ = false := hz
    have t21 : w.cell? ⟨1, 21, none⟩ = some (.int .i64 2) := hr 21 (by decide)
    clear hc hz hr hL
    go_enter Tryz.func110, Tryz.ntmps110
    go_wp2
    go_end0
    exact ⟨rfl, rfl⟩
  · have hc' : w.cell? ⟨b, 8, none⟩ = some v := hc
    have hz' : w.frozen? ⟨b, 8, none⟩ = false := hz
    have t24 : w.cell? ⟨1, 24, none⟩ = some (.int .i64 2) := hr 24 (by decide)
    clear hc hz hr hL
    go_enter Tryz.func110, Tryz.ntmps110
    go_wp2
    go_end0
    exact ⟨rfl, rfl⟩
  · have hc' : w.cell? ⟨b, 9, none⟩ = some v := hc
    have hz' : w.frozen? ⟨b, 9, none⟩ = false := hz
    have t27 : w.cell? ⟨1, 27, none⟩ = some (.int .i64 3) := hr 27 (by decide)
    clear hc hz hr hL
    go_enter Tryz.func110, Tryz.ntmps110
    go_wp2
    go_end0
    exact ⟨rfl, rfl⟩
  · have hc' : w.cell? ⟨b, 10, none⟩ = some v := hc
    have hz' : w.frozen? ⟨b, 10, none⟩ = false := hz
    have t30 : w.cell? ⟨1, 30, none⟩ = some (.int .i64 3) := hr 30 (by decide)
    clear hc hz hr hL
    go_enter Tryz.func110, Tryz.ntmps110
    go_wp2
    go_end0
    exact ⟨rfl, rfl⟩
  · have hc' : w.cell? ⟨b, 11, none⟩ = some v := hc
    have hz' : w.frozen? ⟨b, 11, none⟩ = false := hz
    have t33 : w.cell? ⟨1, 33, none⟩ = some (.int .i64 3) := hr 33 (by decide)
    clear hc hz hr hL
    go_enter Tryz.func110, Tryz.ntmps110
    go_wp2
    go_end0
    exact ⟨rfl, rfl⟩
  · have hc' : w.cell? ⟨b, 12, none⟩ = some v := hc
    have hz' : w.frozen? ⟨b, 12, none⟩ = false := hz
    have t36 : w.cell? ⟨1, 36, none⟩ = some (.int .i64 3) := hr 36 (by decide)
    clear hc hz hr hL
    go_enter Tryz.func110, Tryz.ntmps110
    go_wp2
    go_end0
    exact ⟨rfl, rfl⟩
  · have hc' : w.cell? ⟨b, 13, none⟩ = some v := hc
    have hz' : w.frozen? ⟨b, 13, none⟩ = false := hz
    have t39 : w.cell? ⟨1, 39, none⟩ = some (.int .i64 3) := hr 39 (by decide)
    clear hc hz hr hL
    go_enter Tryz.func110, Tryz.ntmps110
    go_wp2
    go_end0
    exact ⟨rfl, rfl⟩
  · have hc' : w.cell? ⟨b, 14, none⟩ = some v := hc
    have hz' : w.frozen? ⟨b, 14, none⟩ = false := hz
    have t42 : w.cell? ⟨1, 42, none⟩ = some (.int .i64 4) := hr 42 (by decide)
    clear hc hz hr hL
    go_enter Tryz.func110, Tryz.ntmps110
    go_wp2
    go_end0
    exact ⟨rfl, rfl⟩

/-- Is a request without anything? As the walk spells it. -/
def blankW (r : Wp.Rq) (n : Nat) : Bool :=
  (bits .or .u8 (bits .or .u8 (r.op.toNat : Int) (r.q.toNat : Int)) (r.d.toNat : Int) == 0) &&
  (bits .or .i64 (bits .or .i64 (bits .or .i64 (bits .or .i64 (bits .or .i64 r.vis r.win) r.rcv) r.quo) r.mx) r.tic == 0) &&
  (r.grp.toList.isEmpty && r.ded.toList.isEmpty && r.bod.toList.isEmpty && r.att.toList.isEmpty && r.han.toList.isEmpty) && ((n : Int) == 0)

set_option maxHeartbeats 2000000 in
theorem blank_any (r : Wp.Rq) (a : Option Addr) (n cap : Nat) (w : World) :
    Calls Tryz.prog 111 #[.agg (cellsOf r (.slice a n cap))] w fun e w' => e = .returned (.bool (blankW r n)) ∧ Below w.heap.size w w' := by
  unfold cellsOf blankW
  go_enter Tryz.func111, Tryz.ntmps111
  go_wp2
  all_goals
    go_ret
    refine ⟨?_, (Below.refl _ _).alloc (Nat.le_refl _) _⟩
    exact ret_bool (by simp [*])
end Go.Proofs.YtbdobaapadlcjaaGreatDoor
