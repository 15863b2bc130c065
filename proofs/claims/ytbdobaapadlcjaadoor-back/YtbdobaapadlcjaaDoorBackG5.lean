/-
  THE WALK of the statements' shaped (11), some of the Ops.
-/
import Derived.Test.YtbdobaapadlcjaaDoorBackG
namespace Go.Proofs.YtbdobaapadlcjaaDoor.Keep
open Go.RowKit
set_option linter.unusedVariables false

set_option maxHeartbeats 1000000 in
theorem shaped_0 (r : Wp.Rq) (x : Sl) (w : World) (hm : r.op.toNat % 10 = 0) (hw : Wf r) (hz : Szs r) :
    Calls Tryd.prog 11 #[.agg (cellsOf r x.v)] w fun e w' => Shaped w e w' ∧ Below w.heap.size w w' := by
  have hmi : ((r.op.toNat : Nat) : Int) % 10 = 0 := by omega
  have hch : (ByteArray.mk #[67, 88, 80, 83, 82, 65, 69, 84, 86, 66])[0].toNat = 67 := rfl
  have hpkV : Hid (∀ W, Calls Tryd.prog 17 #[.int .i64 r.vis, .int .i64 1000] W fun e w' => e = .returned (.int .i64 (pk r.vis 1000)) ∧ w' = W) := fun W => pick_any r.vis 1000 W hw.vis.1 hw.vis.2 (by decide) (by decide)
  have hp1V := pk_nonneg r.vis 1000 (by decide)
  have hp2V := pk_lt r.vis 1000 (by decide)
  generalize pk r.vis 1000 = V at hpkV hp1V hp2V
  have hpkW2 : Hid (∀ W, Calls Tryd.prog 17 #[.int .i64 r.win, .int .i64 1001] W fun e w' => e = .returned (.int .i64 (pk r.win 1001)) ∧ w' = W) := fun W => pick_any r.win 1001 W hw.win.1 hw.win.2 (by decide) (by decide)
  have hp1W2 := pk_nonneg r.win 1001 (by decide)
  have hp2W2 := pk_lt r.win 1001 (by decide)
  generalize pk r.win 1001 = W2 at hpkW2 hp1W2 hp2W2
  have hpkR : Hid (∀ W, Calls Tryd.prog 17 #[.int .i64 r.rcv, .int .i64 10] W fun e w' => e = .returned (.int .i64 (pk r.rcv 10)) ∧ w' = W) := fun W => pick_any r.rcv 10 W hw.rcv.1 hw.rcv.2 (by decide) (by decide)
  have hp1R := pk_nonneg r.rcv 10 (by decide)
  have hp2R := pk_lt r.rcv 10 (by decide)
  generalize pk r.rcv 10 = R at hpkR hp1R hp2R
  have hpkU : Hid (∀ W, Calls Tryd.prog 17 #[.int .i64 r.quo, .int .i64 50] W fun e w' => e = .returned (.int .i64 (pk r.quo 50)) ∧ w' = W) := fun W => pick_any r.quo 50 W hw.quo.1 hw.quo.2 (by decide) (by decide)
  have hp1U := pk_nonneg r.quo 50 (by decide)
  have hp2U := pk_lt r.quo 50 (by decide)
  generalize pk r.quo 50 = U at hpkU hp1U hp2U
  have hinf := info37
  clear hw hz
  unfold cellsOf Sl.v
  go_enter Tryd.func11, Tryd.ntmps11
  go_wp2_with fail
  refine (letter_any r.q _).mono ?_
  rintro e w' ⟨⟨d, rfl, hd1, hd2⟩, rfl⟩
  go_wp2_with fail
  refine (hpkV.out _).mono ?_
  rintro e w' ⟨rfl, rfl⟩
  go_wp2_with fail
  refine (hpkW2.out _).mono ?_
  rintro e w' ⟨rfl, rfl⟩
  go_wp2_with fail
  refine (hpkR.out _).mono ?_
  rintro e w' ⟨rfl, rfl⟩
  go_wp2_with fail
  refine (hpkU.out _).mono ?_
  rintro e w' ⟨rfl, rfl⟩
  go_wp2_with fail
  refine (letter_any r.d _).mono ?_
  rintro e w' ⟨⟨d2, rfl, he1, he2⟩, rfl⟩
  by_cases hdd : d2 = d
  · have hdb : (((d2.toNat : Nat) : Int) == ((d.toNat : Nat) : Int)) = true := by rw [hdd]; simp
    clear hdd
    go_wp2_with fail
    have hrt : rightW (⟨67, d, 45, (1 + V), W2, R, (1 + U), 0, 0, ⟨#[]⟩, ⟨#[]⟩, ⟨#[]⟩, ⟨#[]⟩, ⟨#[]⟩⟩ : Wp.Rq) ⟨none, 0, 0⟩ (Wp.short []) = true := by
      refine (right_iff _ _ _ (wf_small _ ⟨by show (0 : Int) ≤ 1 + V; omega, by show 1 + V ≤ (1001 : Int); omega⟩ ⟨by show (0 : Int) ≤ W2; omega, by show W2 ≤ (1001 : Int); omega⟩ ⟨by show (0 : Int) ≤ R; omega, by show R ≤ (1001 : Int); omega⟩ ⟨by show (0 : Int) ≤ 1 + U; omega, by show 1 + U ≤ (1001 : Int); omega⟩ zz zz)).2 ⟨2, by decide, rfl, ?_, rfl, rfl⟩
      show List.all [0, 2, 3, 4, 1, 5] _ = true
      simp only [List.all_cons, List.all_nil, Bool.and_true, Bool.and_eq_true]
      exact ⟨fits_of _ _ _ 0 (by decide) (by decide) (by decide) (show (97 : Int) ≤ (d.toNat : Int) by omega) (show (d.toNat : Int) ≤ 104 by omega), fits_of _ _ _ 2 (by decide) (by decide) (by decide) (show (1 : Int) ≤ 1 + V by omega) (show 1 + V ≤ (1000 : Int) by omega), fits_of _ _ _ 3 (by decide) (by decide) (by decide) (show (0 : Int) ≤ W2 by omega) (show W2 ≤ (1000 : Int) by omega), fits_of _ _ _ 4 (by decide) (by decide) (by decide) (show (0 : Int) ≤ R by omega) (show R ≤ (9 : Int) by omega), fits_dead _ _ _ (Or.inl rfl), fits_of _ _ _ 5 (by decide) (by decide) (by decide) (show (1 : Int) ≤ 1 + U by omega) (show 1 + U ≤ (50 : Int) by omega)⟩
    refine bodyPost_ret (results_cell_row (p := 2) rfl _ _ (w.heap.size + 1) 37 (cellsOf ⟨67, d, 45, (1 + V), W2, R, (1 + U), 0, 0, ⟨#[]⟩, ⟨#[]⟩, ⟨#[]⟩, ⟨#[]⟩, ⟨#[]⟩⟩ (Sl.v ⟨none, 0, 0⟩)) (0, 0) _ rfl ?_ Tryd.underlying37 rfl hinf) rfl ⟨shaped_end _ hrt (wf_small _ ⟨by show (0 : Int) ≤ 1 + V; omega, by show 1 + V ≤ (1001 : Int); omega⟩ ⟨by show (0 : Int) ≤ W2; omega, by show W2 ≤ (1001 : Int); omega⟩ ⟨by show (0 : Int) ≤ R; omega, by show R ≤ (1001 : Int); omega⟩ ⟨by show (0 : Int) ≤ 1 + U; omega, by show 1 + U ≤ (1001 : Int); omega⟩ zz zz), ?_⟩
    · exact heap3 _ _ _ _
    · exact below3 _ _ _ _
  · have hdb : (((d2.toNat : Nat) : Int) == ((d.toNat : Nat) : Int)) = false := by
      rw [beq_eq_false_iff_ne]
      intro e
      exact hdd (UInt8.toNat_inj.1 (by omega))
    have HDD : Hid (d2 ≠ d) := hdd
    clear hdd
    go_wp2_with fail
    have hrt : rightW (⟨67, d, d2, (1 + V), W2, R, (1 + U), 0, 0, ⟨#[]⟩, ⟨#[]⟩, ⟨#[]⟩, ⟨#[]⟩, ⟨#[]⟩⟩ : Wp.Rq) ⟨none, 0, 0⟩ (Wp.short []) = true := by
      refine (right_iff _ _ _ (wf_small _ ⟨by show (0 : Int) ≤ 1 + V; omega, by show 1 + V ≤ (1001 : Int); omega⟩ ⟨by show (0 : Int) ≤ W2; omega, by show W2 ≤ (1001 : Int); omega⟩ ⟨by show (0 : Int) ≤ R; omega, by show R ≤ (1001 : Int); omega⟩ ⟨by show (0 : Int) ≤ 1 + U; omega, by show 1 + U ≤ (1001 : Int); omega⟩ zz zz)).2 ⟨2, by decide, rfl, ?_, rfl, rfl⟩
      show List.all [0, 2, 3, 4, 1, 5] _ = true
      simp only [List.all_cons, List.all_nil, Bool.and_true, Bool.and_eq_true]
      exact ⟨fits_of _ _ _ 0 (by decide) (by decide) (by decide) (show (97 : Int) ≤ (d.toNat : Int) by omega) (show (d.toNat : Int) ≤ 104 by omega), fits_of _ _ _ 2 (by decide) (by decide) (by decide) (show (1 : Int) ≤ 1 + V by omega) (show 1 + V ≤ (1000 : Int) by omega), fits_of _ _ _ 3 (by decide) (by decide) (by decide) (show (0 : Int) ≤ W2 by omega) (show W2 ≤ (1000 : Int) by omega), fits_of _ _ _ 4 (by decide) (by decide) (by decide) (show (0 : Int) ≤ R by omega) (show R ≤ (9 : Int) by omega), fits_dead _ _ _ (Or.inr ⟨he1, he2, HDD.out⟩), fits_of _ _ _ 5 (by decide) (by decide) (by decide) (show (1 : Int) ≤ 1 + U by omega) (show 1 + U ≤ (50 : Int) by omega)⟩
    refine bodyPost_ret (results_cell_row (p := 2) rfl _ _ (w.heap.size + 1) 37 (cellsOf ⟨67, d, d2, (1 + V), W2, R, (1 + U), 0, 0, ⟨#[]⟩, ⟨#[]⟩, ⟨#[]⟩, ⟨#[]⟩, ⟨#[]⟩⟩ (Sl.v ⟨none, 0, 0⟩)) (0, 0) _ rfl ?_ Tryd.underlying37 rfl hinf) rfl ⟨shaped_end _ hrt (wf_small _ ⟨by show (0 : Int) ≤ 1 + V; omega, by show 1 + V ≤ (1001 : Int); omega⟩ ⟨by show (0 : Int) ≤ W2; omega, by show W2 ≤ (1001 : Int); omega⟩ ⟨by show (0 : Int) ≤ R; omega, by show R ≤ (1001 : Int); omega⟩ ⟨by show (0 : Int) ≤ 1 + U; omega, by show 1 + U ≤ (1001 : Int); omega⟩ zz zz), ?_⟩
    · exact heap3 _ _ _ _
    · exact below3 _ _ _ _
end Go.Proofs.YtbdobaapadlcjaaDoor.Keep
