/-
  THE WALKS of package wire's small functions: isOp (67), letterOf (82), numberOf (84), textOf (86), measure (93).
-/
import Derived.Test.YtbdobaapadlcjaaGreatDoorProg
import Derived.Test.YtbdobaapadlcjaaGreatDoorWirePlain
import Derived.WalkKit
import Derived.WalkSpells
import Derived.WalkLawsBesides
import Derived.Outline
import Derived.Below
namespace Go.Proofs.YtbdobaapadlcjaaGreatDoor
open Go.RowKit

/-- What package wire's two tables hold in a world; the rows of the fields lie below block B. -/
def Lays (B : Nat) (w : World) : Prop :=
  2 < B ∧ (∀ i, i < 45 → w.cell? ⟨1, i, none⟩ = some (.int .i64 (Wp.rowTab.getD i 0))) ∧
  (∀ i, i < 26 → ∃ a cap, w.cell? ⟨0, i, none⟩ = some (.slice a (Wp.lay i).length cap) ∧
    ∀ j, j < (Wp.lay i).length → ∃ b o, a = some ⟨b, o, none⟩ ∧ b < B ∧ w.cell? ⟨b, o + j, none⟩ = some (.int .i64 ((Wp.lay i).getD j 0 : Nat)))

theorem Lays.below {B : Nat} {w w' : World} (h : Lays B w) (hb : Below B w w') : Lays B w' := by
  obtain ⟨h2, hr, hl⟩ := h
  refine ⟨h2, fun i hi => (hb.cell (p := ⟨1, i, none⟩) (show 1 < B by omega)).trans (hr i hi), fun i hi => ?_⟩
  obtain ⟨a, cap, hc, hj⟩ := hl i hi
  refine ⟨a, cap, (hb.cell (p := ⟨0, i, none⟩) (show 0 < B by omega)).trans hc, fun j hjl => ?_⟩
  obtain ⟨b, o, ha, hbB, hcj⟩ := hj j hjl
  exact ⟨b, o, ha, hbB, (hb.cell (p := ⟨b, o + j, none⟩) hbB).trans hcj⟩

theorem ret_bool {a b : Bool} (h : a = b) : Ending.returned (.bool a) = .returned (.bool b) := by rw [h]
theorem ret_ptr {x a b : Nat} (h : a = b) : Ending.returned (.pointer (some ⟨x, a, none⟩)) = .returned (.pointer (some ⟨x, b, none⟩)) := by rw [h]
theorem ret_int {k : IntKind} {a b : Int} (h : a = b) : Ending.returned (.int k a) = .returned (.int k b) := by rw [h]
set_option maxHeartbeats 400000 in
theorem isOp_any (B : Nat) (op : UInt8) (w : World) (hL : Lays B w) :
    Calls Tryz.prog 85 #[.int .u8 (op.toNat : Int)] w fun e w' => e = .returned (.bool (Wp.isOp op)) ∧ w' = w := by
  have hop := op.toNat_lt
  generalize hn : op.toNat = n at hop
  by_cases h1 : 65 ≤ n
  · by_cases h2 : n ≤ 90
    · obtain ⟨i, rfl⟩ : ∃ i, n = 65 + i := ⟨n - 65, by omega⟩
      obtain ⟨a, cap, hc, _⟩ := hL.2.2 i (by omega)
      have hf : Hid (Wp.isOp op = decide (0 < (Wp.lay i).length)) := by
        show Wp.isOp op = _
        simp [Wp.isOp, hn, h2]
      generalize (Wp.lay i).length = len at hc hf
      clear hn hL
      go_enter Tryz.func85, Tryz.ntmps85
      go_wp2
      go_ret
      exact ⟨ret_bool hf.out.symm, rfl⟩
    · have hf : Hid (Wp.isOp op = false) := by
        show Wp.isOp op = _
        simp [Wp.isOp, hn, h2]
      clear hn hL
      go_enter Tryz.func85, Tryz.ntmps85
      go_wp2
      go_ret
      exact ⟨ret_bool hf.out.symm, rfl⟩
  · have hf : Hid (Wp.isOp op = false) := by
      show Wp.isOp op = _
      simp [Wp.isOp, hn, h1]
    clear hn hL
    go_enter Tryz.func85, Tryz.ntmps85
    go_wp2
    go_ret
    exact ⟨ret_bool hf.out.symm, rfl⟩

theorem letterOf_any (b f : Nat) (w : World) (hf : f < 15) :
    Calls Tryz.prog 112 #[.pointer (some ⟨b, 0, none⟩), .int .i64 (f : Int)] w fun e w' => e = .returned (.pointer (some ⟨b, Wp.letOff f, none⟩)) ∧ w' = w := by
  by_cases h : f = 1
  · subst h
    go_enter Tryz.func112, Tryz.ntmps112
    go_wp2
    go_ret
    exact ⟨rfl, rfl⟩
  · have h' : ((f : Int) == 1) = false := beq_eq_false_iff_ne.2 (by omega)
    have hv : Hid (Wp.letOff f = 1) := by show Wp.letOff f = 1; simp [Wp.letOff, h]
    go_enter Tryz.func112, Tryz.ntmps112
    go_wp2
    go_ret
    exact ⟨ret_ptr hv.out.symm, rfl⟩

theorem numberOf_any (b f : Nat) (w : World) (hf : f < 15) :
    Calls Tryz.prog 113 #[.pointer (some ⟨b, 0, none⟩), .int .i64 (f : Int)] w fun e w' => e = .returned (.pointer (some ⟨b, Wp.numOff f, none⟩)) ∧ w' = w := by
  have hx : f = 0 ∨ f = 1 ∨ f = 2 ∨ f = 3 ∨ f = 4 ∨ f = 5 ∨ f = 6 ∨ f = 7 ∨ f = 8 ∨ f = 9 ∨ f = 10 ∨ f = 11 ∨ f = 12 ∨ f = 13 ∨ f = 14 := by omega
  rcases hx with rfl | rfl | rfl | rfl | rfl | rfl | rfl | rfl | rfl | rfl | rfl | rfl | rfl | rfl | rfl
  all_goals
    go_enter Tryz.func113, Tryz.ntmps113
    go_wp2
    go_ret
    exact ⟨rfl, rfl⟩

theorem textOf_any (b f : Nat) (w : World) (hf : f < 15) :
    Calls Tryz.prog 115 #[.pointer (some ⟨b, 0, none⟩), .int .i64 (f : Int)] w fun e w' => e = .returned (.pointer (some ⟨b, Wp.txtOff f, none⟩)) ∧ w' = w := by
  have hx : f = 0 ∨ f = 1 ∨ f = 2 ∨ f = 3 ∨ f = 4 ∨ f = 5 ∨ f = 6 ∨ f = 7 ∨ f = 8 ∨ f = 9 ∨ f = 10 ∨ f = 11 ∨ f = 12 ∨ f = 13 ∨ f = 14 := by omega
  rcases hx with rfl | rfl | rfl | rfl | rfl | rfl | rfl | rfl | rfl | rfl | rfl | rfl | rfl | rfl | rfl
  all_goals
    go_enter Tryz.func115, Tryz.ntmps115
    go_wp2
    go_ret
    exact ⟨rfl, rfl⟩

/-- A request's fifteen cells. -/
def cellsOf (r : Wp.Rq) (bv : Value) : Array Value := #[.int .u8 (r.op.toNat : Int), .int .u8 (r.q.toNat : Int), .int .u8 (r.d.toNat : Int), .int .i64 r.vis, .int .i64 r.win, .int .i64 r.rcv, .int .i64 r.quo, .int .i64 r.mx, .int .i64 r.tic, .string r.grp, .string r.ded, .string r.bod, .string r.att, .string r.han, bv]
/-- Block b holds a request. -/
def Box (w : World) (b : Nat) (r : Wp.Rq) (bv : Value) : Prop := ∀ i v, (cellsOf r bv)[i]? = some v → w.cell? ⟨b, i, none⟩ = some v

set_option maxHeartbeats 1000000 in
theorem measure_any (B b f : Nat) (r : Wp.Rq) (a : Option Addr) (n cap : Nat) (w : World) (hf : f < 15) (hL : Lays B w) (hB : Box w b r (.slice a n cap)) :
    Calls Tryz.prog 147 #[.pointer (some ⟨b, 0, none⟩), .int .i64 (f : Int)] w fun e w' => e = .returned (.int .i64 (r.measure n f)) ∧ w' = w := by
  have hx : f = 0 ∨ f = 1 ∨ f = 2 ∨ f = 3 ∨ f = 4 ∨ f = 5 ∨ f = 6 ∨ f = 7 ∨ f = 8 ∨ f = 9 ∨ f = 10 ∨ f = 11 ∨ f = 12 ∨ f = 13 ∨ f = 14 := by omega
  have hr := hL.2.1
  rcases hx with rfl | rfl | rfl | rfl | rfl | rfl | rfl | rfl | rfl | rfl | rfl | rfl | rfl | rfl | rfl
  · have t0 : w.cell? ⟨1, 0, none⟩ = some (.int .i64 0) := hr 0 (by decide)
    have c1 : w.cell? ⟨b, 1, none⟩ = some (.int .u8 (r.q.toNat : Int)) := hB 1 _ rfl
    have hl := r.q.toNat_lt
    clear hB hr hL
    go_enter Tryz.func147, Tryz.ntmps147
    go_wp2
    go_ret
    exact ⟨rfl, rfl⟩
  · have t3 : w.cell? ⟨1, 3, none⟩ = some (.int .i64 0) := hr 3 (by decide)
    have c2 : w.cell? ⟨b, 2, none⟩ = some (.int .u8 (r.d.toNat : Int)) := hB 2 _ rfl
    have hl := r.d.toNat_lt
    clear hB hr hL
    go_enter Tryz.func147, Tryz.ntmps147
    go_wp2
    go_ret
    exact ⟨rfl, rfl⟩
  · have t6 : w.cell? ⟨1, 6, none⟩ = some (.int .i64 2) := hr 6 (by decide)
    have c3 : w.cell? ⟨b, 3, none⟩ = some (.int .i64 r.vis) := hB 3 _ rfl
    clear hB hr hL
    go_enter Tryz.func147, Tryz.ntmps147
    go_wp2
    go_ret
    exact ⟨rfl, rfl⟩
  · have t9 : w.cell? ⟨1, 9, none⟩ = some (.int .i64 2) := hr 9 (by decide)
    have c4 : w.cell? ⟨b, 4, none⟩ = some (.int .i64 r.win) := hB 4 _ rfl
    clear hB hr hL
    go_enter Tryz.func147, Tryz.ntmps147
    go_wp2
    go_ret
    exact ⟨rfl, rfl⟩
  · have t12 : w.cell? ⟨1, 12, none⟩ = some (.int .i64 1) := hr 12 (by decide)
    have c5 : w.cell? ⟨b, 5, none⟩ = some (.int .i64 r.rcv) := hB 5 _ rfl
    clear hB hr hL
    go_enter Tryz.func147, Tryz.ntmps147
    go_wp2
    go_ret
    exact ⟨rfl, rfl⟩
  · have t15 : w.cell? ⟨1, 15, none⟩ = some (.int .i64 1) := hr 15 (by decide)
    have c6 : w.cell? ⟨b, 6, none⟩ = some (.int .i64 r.quo) := hB 6 _ rfl
    clear hB hr hL
    go_enter Tryz.func147, Tryz.ntmps147
    go_wp2
    go_ret
    exact ⟨rfl, rfl⟩
  · have t18 : w.cell? ⟨1, 18, none⟩ = some (.int .i64 1) := hr 18 (by decide)
    have c7 : w.cell? ⟨b, 7, none⟩ = some (.int .i64 r.mx) := hB 7 _ rfl
    clear hB hr hL
    go_enter Tryz.func147, Tryz.ntmps147
    go_wp2
    go_ret
    exact ⟨rfl, rfl⟩
  · have t21 : w.cell? ⟨1, 21, none⟩ = some (.int .i64 2) := hr 21 (by decide)
    have c8 : w.cell? ⟨b, 8, none⟩ = some (.int .i64 r.tic) := hB 8 _ rfl
    clear hB hr hL
    go_enter Tryz.func147, Tryz.ntmps147
    go_wp2
    go_ret
    exact ⟨rfl, rfl⟩
  · have t24 : w.cell? ⟨1, 24, none⟩ = some (.int .i64 2) := hr 24 (by decide)
    have c8 : w.cell? ⟨b, 8, none⟩ = some (.int .i64 r.tic) := hB 8 _ rfl
    clear hB hr hL
    go_enter Tryz.func147, Tryz.ntmps147
    go_wp2
    go_ret
    exact ⟨rfl, rfl⟩
  · have t27 : w.cell? ⟨1, 27, none⟩ = some (.int .i64 3) := hr 27 (by decide)
    have c9 : w.cell? ⟨b, 9, none⟩ = some (.string r.grp) := hB 9 _ rfl
    clear hB hr hL
    go_enter Tryz.func147, Tryz.ntmps147
    go_wp2
    go_ret
    exact ⟨rfl, rfl⟩
  · have t30 : w.cell? ⟨1, 30, none⟩ = some (.int .i64 3) := hr 30 (by decide)
    have c10 : w.cell? ⟨b, 10, none⟩ = some (.string r.ded) := hB 10 _ rfl
    clear hB hr hL
    go_enter Tryz.func147, Tryz.ntmps147
    go_wp2
    go_ret
    exact ⟨rfl, rfl⟩
  · have t33 : w.cell? ⟨1, 33, none⟩ = some (.int .i64 3) := hr 33 (by decide)
    have c11 : w.cell? ⟨b, 11, none⟩ = some (.string r.bod) := hB 11 _ rfl
    clear hB hr hL
    go_enter Tryz.func147, Tryz.ntmps147
    go_wp2
    go_ret
    exact ⟨rfl, rfl⟩
  · have t36 : w.cell? ⟨1, 36, none⟩ = some (.int .i64 3) := hr 36 (by decide)
    have c12 : w.cell? ⟨b, 12, none⟩ = some (.string r.att) := hB 12 _ rfl
    clear hB hr hL
    go_enter Tryz.func147, Tryz.ntmps147
    go_wp2
    go_ret
    exact ⟨rfl, rfl⟩
  · have t39 : w.cell? ⟨1, 39, none⟩ = some (.int .i64 3) := hr 39 (by decide)
    have c13 : w.cell? ⟨b, 13, none⟩ = some (.string r.han) := hB 13 _ rfl
    clear hB hr hL
    go_enter Tryz.func147, Tryz.ntmps147
    go_wp2
    go_ret
    exact ⟨rfl, rfl⟩
  · have t42 : w.cell? ⟨1, 42, none⟩ = some (.int .i64 4) := hr 42 (by decide)
    have c14 : w.cell? ⟨b, 14, none⟩ = some (.slice a n cap) := hB 14 _ rfl
    clear hB hr hL
    go_enter Tryz.func147, Tryz.ntmps147
    go_wp2
    go_ret
    exact ⟨rfl, rfl⟩

end Go.Proofs.YtbdobaapadlcjaaGreatDoor
