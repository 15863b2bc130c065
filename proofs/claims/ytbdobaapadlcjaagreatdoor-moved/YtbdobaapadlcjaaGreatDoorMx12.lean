/-
  THE WALKS of disk.New (38), state.within (103), state.deeds (80), state.New (61), wharf.Open (39), opened (23).
-/
import Derived.Test.YtbdobaapadlcjaaGreatDoorMx11
import Derived.Handy
namespace Go.Proofs.YtbdobaapadlcjaaGreatDoor
open Go.RowKit

/-- The table of what is done: in p, r, s, v lie the four methods of a queue. -/
def wit (b : Nat) : Value := .func (.func 207) #[] #[.pointer (some ⟨b, 0, none⟩)]
def fnv (k : Nat) : Value := .func (.func k) #[] #[]
def deedsC (b : Nat) : Array Value :=
  #[.func (.func 157) #[] #[], .func (.func 158) #[] #[], .func (.func 159) #[] #[], .nilFunc, .func (.func 160) #[] #[], .nilFunc, .nilFunc, .nilFunc, .nilFunc, .nilFunc, .nilFunc, .nilFunc, .nilFunc, .nilFunc, .nilFunc,
    .func (.func 207) #[] #[.pointer (some ⟨b + 1, 0, none⟩)], .nilFunc,
    .func (.func 207) #[] #[.pointer (some ⟨b + 1 + 1, 0, none⟩)],
    .func (.func 207) #[] #[.pointer (some ⟨b + 1 + 1 + 1, 0, none⟩)],
    .func (.func 165) #[] #[], .nilFunc,
    .func (.func 207) #[] #[.pointer (some ⟨b + 1 + 1 + 1 + 1, 0, none⟩)],
    .nilFunc, .func (.func 167) #[] #[], .nilFunc, .nilFunc]

def nils26 : Array Value := #[.nilFunc, .nilFunc, .nilFunc, .nilFunc, .nilFunc, .nilFunc, .nilFunc, .nilFunc, .nilFunc, .nilFunc, .nilFunc, .nilFunc, .nilFunc, .nilFunc, .nilFunc, .nilFunc, .nilFunc, .nilFunc, .nilFunc, .nilFunc, .nilFunc, .nilFunc, .nilFunc, .nilFunc, .nilFunc, .nilFunc]
theorem five (w : World) (A B C D E : Obj) : (((((w.alloc A).alloc B).alloc C).alloc D).alloc E).heap[w.heap.size]? = some A := by
  rw [Below.heap_alloc _ _ _ (by simp; omega), Below.heap_alloc _ _ _ (by simp; omega), Below.heap_alloc _ _ _ (by simp; omega), heap_alloc2_old]
theorem five3 (w : World) (A B C D E : Obj) : (((((w.alloc A).alloc B).alloc C).alloc D).alloc E).heap[w.heap.size + 3]? = some D := by
  have h := heap_alloc_new (((w.alloc A).alloc B).alloc C) D
  rw [World.size_alloc, World.size_alloc, World.size_alloc] at h
  rw [Below.heap_alloc _ _ _ (by simp)]
  exact h
theorem five_at (w : World) (A B C D E : Obj) : (((((w.alloc A).alloc B).alloc C).alloc D).alloc E).heap[w.heap.size + 1]? = some B ∧ (((((w.alloc A).alloc B).alloc C).alloc D).alloc E).heap[w.heap.size + 2]? = some C ∧ (((((w.alloc A).alloc B).alloc C).alloc D).alloc E).heap[w.heap.size + 3]? = some D ∧ (((((w.alloc A).alloc B).alloc C).alloc D).alloc E).heap[w.heap.size + 4]? = some E := by
  have h1 := heap_alloc_new (w.alloc A) B
  have h2 := heap_alloc_new ((w.alloc A).alloc B) C
  have h4 := heap_alloc_new ((((w.alloc A).alloc B).alloc C).alloc D) E
  rw [World.size_alloc] at h1
  rw [World.size_alloc, World.size_alloc] at h2
  rw [World.size_alloc, World.size_alloc, World.size_alloc, World.size_alloc] at h4
  refine ⟨?_, ?_, five3 w A B C D E, h4⟩
  · rw [Below.heap_alloc _ _ _ (by simp), Below.heap_alloc _ _ _ (by simp), Below.heap_alloc _ _ _ (by simp)]
    exact h1
  · rw [Below.heap_alloc _ _ _ (by simp), Below.heap_alloc _ _ _ (by simp)]
    exact h2
/-- The four methods of a queue that the table's closures have caught. -/
def Tbl (w : World) (b : Nat) : Prop := ∀ i f : Nat, (i, f) ∈ [(1, 162), (2, 163), (3, 164), (4, 166)] → w.heap[b + i]? = some (.cells #[.func (.func f) #[] #[]] 221 (0, 0))
theorem Tbl.tch {w w' : World} {b : Nat} (h : Tbl w b) {S : List Nat} (ht : Tch S w w') (hS : ∀ i, b + i ∉ S) : Tbl w' b := fun i f hi => (ht.block _ (lt_of_block (h i f hi)) (hS i)).trans (h i f hi)
theorem five_below (w : World) (A B C D E : Obj) : Below w.heap.size w (((((w.alloc A).alloc B).alloc C).alloc D).alloc E) :=
  (((((Below.refl _ _).alloc (Nat.le_refl _) _).alloc (by simp) _).alloc (by simp; omega) _).alloc (by simp; omega) _).alloc (by simp; omega) _
theorem deeds_one (b : Nat) : (deedsC b).all (·.oneCell') = true := by kernel_rfl

set_option maxHeartbeats 400000 in
theorem deeds_any (w : World) : Calls Tryz.prog 127 #[] w fun e w' => e = .returned (.agg (deedsC w.heap.size)) ∧ Below w.heap.size w w' ∧ w'.heap.size = w.heap.size + 5 ∧
    Tbl w' w.heap.size := by
  have hmf : ∀ (fn : Fn) (first cap : Array Value) (w : World), (Instr.makeFunc fn first cap).run Tryz.prog w = .ok (.func fn first cap) w := fun _ _ _ _ => rfl
  go_enter Tryz.func127, Tryz.ntmps127
  go_wp2_with (first | go_in | (refine wpList_store_row rfl 154 _ _ rfl w.heap.size (deedsC w.heap.size) ?hx ?hy 154 nils26 ?hg ?hi ?hs ?h1 ?k; (case hx => kernel_rfl); (case hy => kernel_rfl); (case hg => exact five _ _ _ _ _ _); (case hi => kernel_rfl); (case hs => kernel_rfl); (case h1 => exact deeds_one _)))
  refine bodyPost_ret (results_cell_row (p := 0) rfl _ _ w.heap.size 154 (deedsC w.heap.size) (0, 0) _ rfl (setRow_heap _ _ _ _ 154 (0, 0) (five _ _ _ _ _ _)) Tryz.underlying154 rfl (by kernel_rfl)) rfl ⟨rfl, ?_, ?_, ?_⟩
  · exact below_setRow (five_below _ _ _ _ _ _) (Nat.le_refl _) _
  · simp
  · intro i f hi
    simp only [List.mem_cons, Prod.mk.injEq, List.not_mem_nil, or_false] at hi
    rcases hi with ⟨rfl, rfl⟩ | ⟨rfl, rfl⟩ | ⟨rfl, rfl⟩ | ⟨rfl, rfl⟩
    · rw [setRow_other _ _ _ _ (by omega)]
      exact (five_at _ _ _ _ _ _).1
    · rw [setRow_other _ _ _ _ (by omega)]
      exact (five_at _ _ _ _ _ _).2.1
    · rw [setRow_other _ _ _ _ (by omega)]
      exact (five_at _ _ _ _ _ _).2.2.1
    · rw [setRow_other _ _ _ _ (by omega)]
      exact (five_at _ _ _ _ _ _).2.2.2

/-- The state's cells. -/
def stC (now : Int) (q : Value) (b : Nat) : Array Value := #[.int .i64 now, q, .pointer none, .pointer none, .pointer none, .pointer none, .pointer none, .pointer none, .pointer none] ++ deedsC b

set_option maxHeartbeats 400000 in
theorem new_any (w : World) : Calls Tryz.prog 98 #[] w fun e w' => e = .returned (.pointer (some ⟨w.heap.size + 5, 0, none⟩)) ∧ Below w.heap.size w w' ∧ w'.heap.size = w.heap.size + 6 ∧
    w'.heap[w.heap.size + 5]? = some (.cells (stC 0 (.pointer none) w.heap.size) 156 (0, 0)) ∧ Tbl w' w.heap.size := by
  have hsz : (deedsC w.heap.size).size = 26 := rfl
  go_enter Tryz.func98, Tryz.ntmps98
  go_wp2_with (go_at_call 127; refine (deeds_any _).mono ?_; rintro e w1 ⟨rfl, hb, hs, hc⟩)
  go_ret
  refine ⟨rfl, hb.alloc (by omega) _, by simp [hs], ?_, ?_⟩
  · rw [← hs, heap_alloc_new]
    exact congrArg (fun z => some (Obj.cells z 156 (0, 0))) (by kernel_rfl)
  · exact hc.tch ((Tch.refl [] _).alloc _) (by simp)

/-- A broker's state in st, b: where its table's closures lie. -/
structure Brk (w : World) (st b : Nat) (now : Int) (q : Value) : Prop where
  hst : w.heap[st]? = some (.cells (stC now q b) 156 (0, 0))
  tb : Tbl w b
set_option maxHeartbeats 400000 in
theorem records_none (w : World) : Calls Tryz.prog 96 #[.string ⟨#[]⟩] w fun e w' => e = .returned (.tuple #[.slice none 0 0, .bool true]) ∧ Below w.heap.size w w' := by
  go_enter Tryz.func96, Tryz.ntmps96
  go_wp2_with (go_at_call 83; go_in)
  refine wp_loop_rounds 1 ?_
  rw [rounds_succ]
  go_wp2_with (go_at_call 88; go_in)
  go_ret2
  exact ⟨rfl, (Below.refl _ _).alloc (Nat.le_refl _) _⟩

set_option maxHeartbeats 400000 in
theorem jopen_none (d : Nat) (v : Value) (w : World) (h : Dd0 w d v []) :
    Calls Tryz.prog 66 #[.pointer (some ⟨d, 0, none⟩)] w fun e w' => e = .returned (.tuple #[.pointer (some ⟨w.heap.size, 0, none⟩), .string ⟨#[]⟩, .slice none 0 0]) ∧ Below w.heap.size w w' ∧ w.heap.size < w'.heap.size ∧
      w'.heap[w.heap.size]? = some (.cells #[.pointer (some ⟨d, 0, none⟩), .int .i64 0, .bool false] 143 (0, 0)) := by
  have HD : Hid (∀ W, Tch [] w W → Calls Tryz.prog 95 #[.pointer (some ⟨d, 0, none⟩), .string jn] W fun e w' => e = .returned (.string ⟨#[]⟩) ∧ w' = W) := fun W ht => by
    have h' : Dd0 W d v [] := h.tch ht (by simp)
    exact Dk.read_d d v (-1) false [] jn W h'.blk h'.own (by simp)
  clear h
  go_enter Tryz.func66, Tryz.ntmps66
  go_wp2_with (first | (go_at_call 95; refine (HD.out _ ((Tch.refl [] w).alloc _)).mono ?_; rintro e w' ⟨rfl, rfl⟩) | (go_at_call 96; refine (records_none _).mono ?_; rintro e w2 ⟨rfl, hb⟩))
  go_ret3
  rw [World.size_alloc] at hb
  exact ⟨rfl, ((Below.refl _ _).alloc (Nat.le_refl _) _).trans (hb.mono (by omega)), by have := hb.size; rw [World.size_alloc] at this; omega, (hb.block _ (by omega)).trans (heap_alloc_new _ _)⟩

set_option maxHeartbeats 400000 in
theorem restore_none (w : World) : Calls Tryz.prog 67 #[.string ⟨#[]⟩, .slice none 0 0] w fun e w' => e = .returned (.tuple #[.pointer (some ⟨w.heap.size + 5, 0, none⟩), .bool true]) ∧ Below w.heap.size w w' ∧ w'.heap.size = w.heap.size + 6 ∧
    w'.heap[w.heap.size + 5]? = some (.cells (stC 0 (.pointer none) w.heap.size) 156 (0, 0)) ∧ Tbl w' w.heap.size := by
  go_enter Tryz.func67, Tryz.ntmps67
  go_wp2_with (go_at_call 98; refine (new_any _).mono ?_; rintro e w1 ⟨rfl, hb, hs, hst, hc⟩)
  go_ret2
  exact ⟨rfl, hb, hs, hst, hc⟩

/-- What Open leaves of a disk without files. -/
structure Opn (B : Nat) (w : World) (x st b j d : Nat) (v : Value) : Prop where
  hx : w.heap[x]? = some (.cells #[.pointer (some ⟨st, 0, none⟩), .pointer (some ⟨j, 0, none⟩)] 99 (0, 0))
  jr : Jr w j d 0 v [] 0 0
  brk : Brk w st b 0 (.pointer none)
  lo : B ≤ x ∧ B ≤ st ∧ B ≤ j ∧ B ≤ b
theorem good0 : Gd0 [] 0 0 := ⟨by decide, Nat.le_refl _, by simp⟩

set_option maxHeartbeats 400000 in
theorem open_any (d : Nat) (v : Value) (w : World) (h : Dd0 w d v []) : Calls Tryz.prog 40 #[.pointer (some ⟨d, 0, none⟩)] w fun e w' => ∃ x st b j, e = .returned (.tuple #[.pointer (some ⟨x, 0, none⟩), .int .i64 0]) ∧ Below w.heap.size w w' ∧ Opn w.heap.size w' x st b j d v := by
  have HS : Hid (Calls Tryz.prog 42 #[.pointer (some ⟨d, 0, none⟩)] w fun e w' => e = .returned (.bool false) ∧ w' = w) := Dk.stopped_d d v (-1) false w h.blk
  have HO : Hid (Calls Tryz.prog 66 #[.pointer (some ⟨d, 0, none⟩)] w _) := jopen_none d v w h
  have HD : Hid (Dd0 w d v []) := h
  clear h
  go_enter Tryz.func40, Tryz.ntmps40
  go_wp2_with (first | (go_at_call 42; refine HS.out.mono ?_; rintro e w' ⟨rfl, h'⟩; have h'' := h'.symm; subst h'') | (go_at_call 66; refine HO.out.mono ?_; rintro e w1 ⟨rfl, hb1, hz1, hj1⟩) | (go_at_call 67; refine (restore_none _).mono ?_; rintro e w2 ⟨rfl, hb2, hz2, hst2, hc2⟩))
  go_ret2
  have hz : w2.heap.size = w1.heap.size + 6 := hz2
  have t2 : Below w.heap.size w w2 := hb1.trans (hb2.mono (by omega))
  refine ⟨w1.heap.size + 6, w1.heap.size + 5, w1.heap.size, w.heap.size, rfl, t2.alloc (by omega) _, ⟨by rw [← hz]; exact heap_alloc_new _ _, ⟨?_, HD.out.tch (Tch.of_below (t2.alloc (by omega) _)) (by simp), good0⟩, ⟨?_, ?_⟩, by omega, by omega, by omega, by omega⟩⟩
  · rw [Below.heap_alloc _ _ _ (by omega), hb2.block _ hz1]
    exact hj1
  · rw [Below.heap_alloc _ _ _ (by omega)]
    exact hst2
  · exact hc2.tch ((Tch.refl [] _).alloc _) (by simp)

theorem dnew (w : World) : Dd0 (w.alloc (.cells (Dk.dcells (.slice none 0 0) (-1) false) 110)) w.heap.size (.slice none 0 0) [] :=
  ⟨heap_alloc_new _ _, Dk.Own.nil _ _, by simp [Value.ownBlock]⟩

set_option maxHeartbeats 400000 in
theorem opened_any (w : World) : Calls Tryz.prog 24 #[] w fun e w' => ∃ x st b j d, e = .returned (.tuple #[.pointer (some ⟨x, 0, none⟩), .pointer (some ⟨d, 0, none⟩)]) ∧ Below w.heap.size w w' ∧ Opn w.heap.size w' x st b j d (.slice none 0 0) ∧ d = w.heap.size := by
  go_enter Tryz.func24, Tryz.ntmps24
  go_wp2_with fail
  refine (Dk.new_d _).mono ?_
  rintro e w1 ⟨rfl, hw1⟩
  have hd1 := dnew w
  rw [← hw1] at hd1
  have hz : w1.heap.size = w.heap.size + 1 := by rw [hw1]; simp
  have HB1 : Hid (Below w.heap.size w w1) := by rw [hw1]; exact (Below.refl _ _).alloc (Nat.le_refl _) _
  clear hw1
  go_wp2_with fail
  refine (open_any _ _ _ hd1).mono ?_
  rintro e w2 ⟨x, st, b, j, rfl, hb, hB⟩
  go_wp2_with fail
  go_ret2
  have b1 := HB1.out
  exact ⟨x, st, b, j, _, rfl, b1.trans (hb.mono (by omega)), ⟨hB.hx, hB.jr, hB.brk, by have := hB.lo; omega⟩, rfl⟩
end Go.Proofs.YtbdobaapadlcjaaGreatDoor
