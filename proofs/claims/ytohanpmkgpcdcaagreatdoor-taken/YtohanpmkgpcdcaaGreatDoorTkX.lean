/-
  THE WALKS of Forget (204), set (161), goOn's closure (160).
-/
import Derived.Test.YtohanpmkgpcdcaaGreatDoorTkS
import Derived.Test.YtohanpmkgpcdcaaGreatDoorTkW
namespace Go.Proofs.YtohanpmkgpcdcaaGreatDoor
open Go.Shelf Go.RowKit Go.Lib
set_option linter.unusedVariables false

set_option maxHeartbeats 400000 in
theorem idx_at_none (a : Option Addr) (c : Nat) (fv : Value) (w : World) : Calls Tryz.prog 195 #[.slice a 0 c, fv] w fun e w' => e = .returned (.int .i64 (-1)) ∧ w' = w := by
  go_enter Tryz.func195, Tryz.ntmps195
  go_wp2
  refine wp_loop_rounds 1 ?_
  rw [rounds_succ]
  go_wp2
  go_ret
  exact ⟨rfl, rfl⟩
set_option maxHeartbeats 400000 in
theorem del_none (a : Option Addr) (c : Nat) (fv : Value) (w : World) : Calls Tryz.prog 242 #[.slice a 0 c, fv] w fun e w' => e = .returned (.slice a 0 c) ∧ w' = w := by
  go_enter Tryz.func242, Tryz.ntmps242
  go_wp2_with (go_at_call 195; refine (idx_at_none _ _ _ _).mono ?_; rintro e w' ⟨rfl, rfl⟩)
  go_ret
  exact ⟨rfl, rfl⟩

set_option maxRecDepth 8000 in
set_option maxHeartbeats 2000000 in
theorem forget_walk (J : World → Prop) (S : List Nat) (c : Wp.Rq) (qb gd n cd : Nat) (now next : Int) (ms rs ds : Value) (w : World) (hq : Qb w qb c next ms rs ds (.slice none 0 0)) (hS : qb ∉ S)
    (hdel : Calls Tryz.prog 240 #[ds, .func (.func 241) #[] #[.pointer (some ⟨w.heap.size, 0, none⟩)]] (w.alloc (.cells #[.int .i64 now] 3)) fun e w1 => e = .returned (.slice (some ⟨gd, 0, none⟩) n cd) ∧ Tch S (w.alloc (.cells #[.int .i64 now] 3)) w1 ∧ J w1) :
    Calls Tryz.prog 204 #[.pointer (some ⟨qb, 0, none⟩), .int .i64 now] w fun e w' => e = .returned (.tuple #[]) ∧ ∃ w1, Tch S (w.alloc (.cells #[.int .i64 now] 3)) w1 ∧ J w1 ∧ w' = (w1.setCell ⟨qb, 9, none⟩ (.slice (some ⟨gd, 0, none⟩) n cd)).setCell ⟨qb, 10, none⟩ (.slice none 0 0) := by
  have hmf : ∀ (fn : Fn) (first cap : Array Value) (w : World), (Instr.makeFunc fn first cap).run Tryz.prog w = .ok (.func fn first cap) w := fun _ _ _ _ => rfl
  have hlt := hq.lt
  have hqa : Qb (w.alloc (.cells #[.int .i64 now] 3)) qb c next ms rs ds (.slice none 0 0) := (Below.heap_alloc _ _ _ hlt).trans hq
  have q9 : w.cell? ⟨qb, 9, none⟩ = some ds := cell_qC hq 9 _ rfl
  have HD : Hid (Calls Tryz.prog 240 _ _ _) := hdel
  have HQ : Hid (Qb (w.alloc (.cells #[.int .i64 now] 3)) qb c next ms rs ds (.slice none 0 0)) := hqa
  clear hdel hq hqa
  go_enter Tryz.func204, Tryz.ntmps204
  go_wp2_with fail
  refine HD.out.mono ?_
  rintro e w1 ⟨rfl, ht, hj⟩
  have hq1 : Qb w1 qb c next ms rs ds (.slice none 0 0) := (ht.block _ HQ.out.lt hS).trans HQ.out
  have d9 : w1.cell? ⟨qb, 9, none⟩ = some ds := cell_qC hq1 9 _ rfl
  have z9 := hq1.fz 9
  have hq2 := hq1.set9 (.slice (some ⟨gd, 0, none⟩) n cd)
  have d10 : (w1.setCell ⟨qb, 9, none⟩ (.slice (some ⟨gd, 0, none⟩) n cd)).cell? ⟨qb, 10, none⟩ = some (.slice none 0 0) := cell_qC hq2 10 _ rfl
  have z10 := hq2.fz 10
  have HT : Hid (Tch S (w.alloc (.cells #[.int .i64 now] 3)) w1) := ht
  clear ht hq1 hq2
  go_wp2_with (go_at_call 242; refine (del_none _ _ _ _).mono ?_; rintro e w' ⟨rfl, rfl⟩)
  go_end0
  exact ⟨rfl, w1, HT.out, hj, rfl⟩
end Go.Proofs.YtohanpmkgpcdcaaGreatDoor
