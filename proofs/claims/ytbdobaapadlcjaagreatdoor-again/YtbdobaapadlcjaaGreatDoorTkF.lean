/-
  THE WALK of the statements' shaped (29) at the Op C, with the numbers that it gives.
-/
import Derived.Test.YtbdobaapadlcjaaGreatDoorBackG
namespace Go.Proofs.YtbdobaapadlcjaaGreatDoor.Keep
open Go.RowKit
set_option linter.unusedVariables false

set_option maxHeartbeats 1000000 in
theorem shaped_C (r : Wp.Rq) (x : Sl) (w : World) (hm : r.op.toNat % 10 = 0) (hw : Wf r) (hz : Szs r) :
    Calls Tryz.prog 30 #[.agg (cellsOf r x.v)] w fun e w' => (∃ q d : UInt8, e = .returned (.agg (cellsOf ⟨67, q, d, (1 + pk r.vis 1000), pk r.win 1001, pk r.rcv 10, (1 + pk r.quo 50), 0, 0, ⟨#[]⟩, ⟨#[]⟩, ⟨#[]⟩, ⟨#[]⟩, ⟨#[]⟩⟩ (Sl.v ⟨none, 0, 0⟩)))) ∧ Below w.heap.size w w' := by
  have hmi : ((r.op.toNat : Nat) : Int) % 10 = 0 := by omega
  have hch : (ByteArray.mk #[67, 88, 80, 83, 82, 65, 69, 84, 86, 66])[0].toNat = 67 := rfl
  have hpkV : Hid (∀ W, Calls Tryz.prog 14 #[.int .i64 r.vis, .int .i64 1000] W fun e w' => e = .returned (.int .i64 (pk r.vis 1000)) ∧ w' = W) := fun W => pick_any r.vis 1000 W hw.vis.1 hw.vis.2 (by decide) (by decide)
  have hp1V := pk_nonneg r.vis 1000 (by decide)
  have hp2V := pk_lt r.vis 1000 (by decide)
  generalize pk r.vis 1000 = V at hpkV hp1V hp2V ⊢
  have hpkW2 : Hid (∀ W, Calls Tryz.prog 14 #[.int .i64 r.win, .int .i64 1001] W fun e w' => e = .returned (.int .i64 (pk r.win 1001)) ∧ w' = W) := fun W => pick_any r.win 1001 W hw.win.1 hw.win.2 (by decide) (by decide)
  have hp1W2 := pk_nonneg r.win 1001 (by decide)
  have hp2W2 := pk_lt r.win 1001 (by decide)
  generalize pk r.win 1001 = W2 at hpkW2 hp1W2 hp2W2 ⊢
  have hpkR : Hid (∀ W, Calls Tryz.prog 14 #[.int .i64 r.rcv, .int .i64 10] W fun e w' => e = .returned (.int .i64 (pk r.rcv 10)) ∧ w' = W) := fun W => pick_any r.rcv 10 W hw.rcv.1 hw.rcv.2 (by decide) (by decide)
  have hp1R := pk_nonneg r.rcv 10 (by decide)
  have hp2R := pk_lt r.rcv 10 (by decide)
  generalize pk r.rcv 10 = R at hpkR hp1R hp2R ⊢
  have hpkU : Hid (∀ W, Calls Tryz.prog 14 #[.int .i64 r.quo, .int .i64 50] W fun e w' => e = .returned (.int .i64 (pk r.quo 50)) ∧ w' = W) := fun W => pick_any r.quo 50 W hw.quo.1 hw.quo.2 (by decide) (by decide)
  have hp1U := pk_nonneg r.quo 50 (by decide)
  have hp2U := pk_lt r.quo 50 (by decide)
  generalize pk r.quo 50 = U at hpkU hp1U hp2U ⊢
  have hinf := info37
  clear hw hz
  rw [show cellsOf r x.v = #[.int .u8 (r.op.toNat : Int), .int .u8 (r.q.toNat : Int), .int .u8 (r.d.toNat : Int), .int .i64 r.vis, .int .i64 r.win, .int .i64 r.rcv, .int .i64 r.quo, .int .i64 r.mx, .int .i64 r.tic, .string r.grp, .string r.ded, .string r.bod, .string r.att, .string r.han, .slice x.a x.n x.c] from rfl]
  go_enter Tryz.func30, Tryz.ntmps30
  go_wp2_with fail
  refine (letter_any r.q _).mono ?_
  rintro e w' ⟨⟨d, rfl, hd1, hd2⟩, rfl⟩
  go_wp2_with fail
  refine (hpkV.out _).mono ?_
  rintro e w' ⟨rfl, rfl⟩
  go_wp2_with fail
  refine (hpkW2.out _).mono ?_
  rintro e w' ⟨rfl, rfl⟩
  go_wp2_with fail
  refine (hpkR.out _).mono ?_
  rintro e w' ⟨rfl, rfl⟩
  go_wp2_with fail
  refine (hpkU.out _).mono ?_
  rintro e w' ⟨rfl, rfl⟩
  go_wp2_with fail
  refine (letter_any r.d _).mono ?_
  rintro e w' ⟨⟨d2, rfl, he1, he2⟩, rfl⟩
  by_cases hdd : d2 = d
  · have hdb : (((d2.toNat : Nat) : Int) == ((d.toNat : Nat) : Int)) = true := by rw [hdd]; simp
    clear hdd
    go_wp2_with fail
    refine bodyPost_ret (results_cell_row (p := 2) rfl _ _ (w.heap.size + 1) 27 (cellsOf ⟨67, d, 45, (1 + V), W2, R, (1 + U), 0, 0, ⟨#[]⟩, ⟨#[]⟩, ⟨#[]⟩, ⟨#[]⟩, ⟨#[]⟩⟩ (Sl.v ⟨none, 0, 0⟩)) (0, 0) _ rfl ?_ Tryz.underlying27 rfl hinf) rfl ⟨⟨_, _, rfl⟩, ?_⟩
    · exact heap3 _ _ _ _
    · exact below3 _ _ _ _
  · have hdb : (((d2.toNat : Nat) : Int) == ((d.toNat : Nat) : Int)) = false := by
      rw [beq_eq_false_iff_ne]
      intro e
      exact hdd (UInt8.toNat_inj.1 (by omega))
    have HDD : Hid (d2 ≠ d) := hdd
    clear hdd
    go_wp2_with fail
    refine bodyPost_ret (results_cell_row (p := 2) rfl _ _ (w.heap.size + 1) 27 (cellsOf ⟨67, d, d2, (1 + V), W2, R, (1 + U), 0, 0, ⟨#[]⟩, ⟨#[]⟩, ⟨#[]⟩, ⟨#[]⟩, ⟨#[]⟩⟩ (Sl.v ⟨none, 0, 0⟩)) (0, 0) _ rfl ?_ Tryz.underlying27 rfl hinf) rfl ⟨⟨_, _, rfl⟩, ?_⟩
    · exact heap3 _ _ _ _
    · exact below3 _ _ _ _
end Go.Proofs.YtbdobaapadlcjaaGreatDoor.Keep
