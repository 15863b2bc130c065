/-
  THE WALKS of disk.New (38), state.within (103), state.deeds (80), state.New (61), wharf.Open (39), opened (23).
-/
import Derived.Test.YtohanpmkgpcdcaaGreatDoorWireK
namespace Go.Proofs.YtohanpmkgpcdcaaGreatDoor
open Go.RowKit

/-- The table of what is done: in p, r, s, v lie the four methods of a queue. -/
def wit (b : Nat) : Value := .func (.func 147) #[] #[.pointer (some ⟨b, 0, none⟩)]
def fnv (k : Nat) : Value := .func (.func k) #[] #[]
def deedsC (b : Nat) : Array Value :=
  #[.func (.func 103) #[] #[], .func (.func 104) #[] #[], .func (.func 105) #[] #[], .nilFunc, .func (.func 106) #[] #[], .nilFunc, .nilFunc, .nilFunc, .nilFunc, .nilFunc, .nilFunc, .nilFunc, .nilFunc, .nilFunc, .nilFunc,
    .func (.func 147) #[] #[.pointer (some ⟨b + 1, 0, none⟩)], .nilFunc,
    .func (.func 147) #[] #[.pointer (some ⟨b + 1 + 1, 0, none⟩)],
    .func (.func 147) #[] #[.pointer (some ⟨b + 1 + 1 + 1, 0, none⟩)],
    .func (.func 111) #[] #[], .nilFunc,
    .func (.func 147) #[] #[.pointer (some ⟨b + 1 + 1 + 1 + 1, 0, none⟩)],
    .nilFunc, .func (.func 113) #[] #[], .nilFunc, .nilFunc]

set_option maxHeartbeats 400000 in
theorem within_any (k : Nat) (w : World) : Calls Tryz.prog 107 #[.func (.func k) #[] #[]] w fun e w' =>
    e = .returned (.func (.func 147) #[] #[.pointer (some ⟨w.heap.size, 0, none⟩)]) ∧ w' = w.alloc (.cells #[.func (.func k) #[] #[]] 170) := by
  have hmf : ∀ (fn : Fn) (first cap : Array Value) (w : World), (Instr.makeFunc fn first cap).run Tryz.prog w = .ok (.func fn first cap) w := fun _ _ _ _ => rfl
  go_enter Tryz.func107, Tryz.ntmps107
  go_wp2
  go_ret
  exact ⟨rfl, rfl⟩

def nils26 : Array Value := #[.nilFunc, .nilFunc, .nilFunc, .nilFunc, .nilFunc, .nilFunc, .nilFunc, .nilFunc, .nilFunc, .nilFunc, .nilFunc, .nilFunc, .nilFunc, .nilFunc, .nilFunc, .nilFunc, .nilFunc, .nilFunc, .nilFunc, .nilFunc, .nilFunc, .nilFunc, .nilFunc, .nilFunc, .nilFunc, .nilFunc]
theorem five (w : World) (A B C D E : Obj) : (((((w.alloc A).alloc B).alloc C).alloc D).alloc E).heap[w.heap.size]? = some A := by
  rw [Below.heap_alloc _ _ _ (by simp; omega), Below.heap_alloc _ _ _ (by simp; omega), Below.heap_alloc _ _ _ (by simp; omega), heap_alloc2_old]
theorem five3 (w : World) (A B C D E : Obj) : (((((w.alloc A).alloc B).alloc C).alloc D).alloc E).heap[w.heap.size + 3]? = some D := by
  have h := heap_alloc_new (((w.alloc A).alloc B).alloc C) D
  rw [World.size_alloc, World.size_alloc, World.size_alloc] at h
  rw [Below.heap_alloc _ _ _ (by simp)]
  exact h
theorem five_below (w : World) (A B C D E : Obj) : Below w.heap.size w (((((w.alloc A).alloc B).alloc C).alloc D).alloc E) :=
  (((((Below.refl _ _).alloc (Nat.le_refl _) _).alloc (by simp) _).alloc (by simp; omega) _).alloc (by simp; omega) _).alloc (by simp; omega) _
theorem deeds_one (b : Nat) : (deedsC b).all (·.oneCell') = true := by kernel_rfl

set_option maxHeartbeats 400000 in
theorem deeds_any (w : World) : Calls Tryz.prog 82 #[] w fun e w' => e = .returned (.agg (deedsC w.heap.size)) ∧ Below w.heap.size w w' ∧ w'.heap.size = w.heap.size + 5 ∧
    w'.heap[w.heap.size + 3]? = some (.cells #[.func (.func 110) #[] #[]] 170 (0, 0)) := by
  have hmf : ∀ (fn : Fn) (first cap : Array Value) (w : World), (Instr.makeFunc fn first cap).run Tryz.prog w = .ok (.func fn first cap) w := fun _ _ _ _ => rfl
  go_enter Tryz.func82, Tryz.ntmps82
  go_wp2_with (first | go_in | (refine wpList_store_row rfl 143 _ _ rfl w.heap.size (deedsC w.heap.size) ?hx ?hy 143 nils26 ?hg ?hi ?hs ?h1 ?k; (case hx => kernel_rfl); (case hy => kernel_rfl); (case hg => exact five _ _ _ _ _ _); (case hi => kernel_rfl); (case hs => kernel_rfl); (case h1 => exact deeds_one _)))
  refine bodyPost_ret (results_cell_row (p := 0) rfl _ _ w.heap.size 143 (deedsC w.heap.size) (0, 0) _ rfl (setRow_heap _ _ _ _ 143 (0, 0) (five _ _ _ _ _ _)) Tryz.underlying143 rfl (by kernel_rfl)) rfl ⟨rfl, ?_, ?_, ?_⟩
  · exact below_setRow (five_below _ _ _ _ _ _) (Nat.le_refl _) _
  · simp
  · rw [setRow_other _ _ _ _ (by omega)]
    exact five3 _ _ _ _ _ _

/-- The state's cells. -/
def stC (now : Int) (q : Value) (b : Nat) : Array Value := #[.int .i64 now, q, .pointer none, .pointer none, .pointer none, .pointer none, .pointer none, .pointer none, .pointer none] ++ deedsC b

set_option maxHeartbeats 400000 in
theorem new_any (w : World) : Calls Tryz.prog 62 #[] w fun e w' => e = .returned (.pointer (some ⟨w.heap.size + 5, 0, none⟩)) ∧ Below w.heap.size w w' ∧ w'.heap.size = w.heap.size + 6 ∧
    w'.heap[w.heap.size + 5]? = some (.cells (stC 0 (.pointer none) w.heap.size) 148 (0, 0)) ∧ w'.heap[w.heap.size + 3]? = some (.cells #[.func (.func 110) #[] #[]] 170 (0, 0)) := by
  have hsz : (deedsC w.heap.size).size = 26 := rfl
  go_enter Tryz.func62, Tryz.ntmps62
  go_wp2_with (go_at_call 82; refine (deeds_any _).mono ?_; rintro e w1 ⟨rfl, hb, hs, hc⟩)
  go_ret
  refine ⟨rfl, hb.alloc (by omega) _, by simp [hs], ?_, ?_⟩
  · rw [← hs, heap_alloc_new]
    exact congrArg (fun z => some (Obj.cells z 148 (0, 0))) (by kernel_rfl)
  · rw [Below.heap_alloc _ _ _ (by omega)]
    exact hc

/-- A broker in x, its state in st, b: where its table's closures lie. -/
structure Brk (w : World) (x st b : Nat) (now : Int) (q : Value) : Prop where
  hx : w.heap[x]? = some (.cells #[.pointer (some ⟨st, 0, none⟩)] 101 (0, 0))
  hst : w.heap[st]? = some (.cells (stC now q b) 148 (0, 0))
  hb : w.heap[b + 3]? = some (.cells #[.func (.func 110) #[] #[]] 170 (0, 0))

set_option maxHeartbeats 400000 in
theorem open_any (v : Option Addr) (w : World) : Calls Tryz.prog 40 #[.pointer v] w fun e w' => e = .returned (.tuple #[.pointer (some ⟨w.heap.size + 6, 0, none⟩), .int .i64 0]) ∧ Below w.heap.size w w' ∧ w'.heap.size = w.heap.size + 7 ∧
    Brk w' (w.heap.size + 6) (w.heap.size + 5) w.heap.size 0 (.pointer none) := by
  go_enter Tryz.func40, Tryz.ntmps40
  go_wp2_with (go_at_call 62; refine (new_any _).mono ?_; rintro e w1 ⟨rfl, hb, hs, hst, hc⟩)
  go_ret2
  refine ⟨rfl, hb.alloc (by omega) _, by simp [hs], ?_, ?_, ?_⟩
  · rw [← hs, heap_alloc_new]
  · rw [Below.heap_alloc _ _ _ (by omega)]
    exact hst
  · rw [Below.heap_alloc _ _ _ (by omega)]
    exact hc

set_option maxHeartbeats 400000 in
theorem opened_any (w : World) : Calls Tryz.prog 24 #[] w fun e w' => e = .returned (.tuple #[.pointer (some ⟨w.heap.size + 7, 0, none⟩), .pointer (some ⟨w.heap.size, 0, none⟩)]) ∧ Below w.heap.size w w' ∧ w'.heap.size = w.heap.size + 8 ∧
    Brk w' (w.heap.size + 7) (w.heap.size + 6) (w.heap.size + 1) 0 (.pointer none) := by
  go_enter Tryz.func24, Tryz.ntmps24
  go_wp2_with (first | (go_at_call 40; refine (open_any _ _).mono ?_; rintro e w1 ⟨rfl, hb, hs, hB⟩) | go_in)
  go_ret2
  rw [World.size_alloc] at hb hs hB
  exact ⟨rfl, ((Below.refl _ _).alloc (Nat.le_refl _) _).trans (hb.mono (by omega)), by omega, hB⟩
end Go.Proofs.YtohanpmkgpcdcaaGreatDoor
