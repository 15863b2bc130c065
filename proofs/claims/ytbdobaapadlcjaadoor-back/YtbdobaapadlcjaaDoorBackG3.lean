/-
  THE WALK of the statements' shaped (11), some of the Ops.
-/
import Derived.Test.YtbdobaapadlcjaaDoorBackG
namespace Go.Proofs.YtbdobaapadlcjaaDoor.Keep
open Go.RowKit
set_option linter.unusedVariables false

set_option maxHeartbeats 1000000 in
theorem shaped_7 (r : Wp.Rq) (x : Sl) (w : World) (hm : r.op.toNat % 10 = 7) (hw : Wf r) (hz : Szs r) :
    Calls Tryd.prog 11 #[.agg (cellsOf r x.v)] w fun e w' => Shaped w e w' ∧ Below w.heap.size w w' := by
  have hmi : ((r.op.toNat : Nat) : Int) % 10 = 7 := by omega
  have hch : (ByteArray.mk #[67, 88, 80, 83, 82, 65, 69, 84, 86, 66])[7].toNat = 84 := rfl
  have hpkP : Hid (∀ W, Calls Tryd.prog 17 #[.int .i64 r.tic, .int .i64 1000] W fun e w' => e = .returned (.int .i64 (pk r.tic 1000)) ∧ w' = W) := fun W => pick_any r.tic 1000 W hw.tic.1 hw.tic.2 (by decide) (by decide)
  have hp1P := pk_nonneg r.tic 1000 (by decide)
  have hp2P := pk_lt r.tic 1000 (by decide)
  generalize pk r.tic 1000 = P at hpkP hp1P hp2P
  have hinf := info37
  clear hw hz
  unfold cellsOf Sl.v
  go_enter Tryd.func11, Tryd.ntmps11
  go_wp2_with fail
  refine (letter_any r.q _).mono ?_
  rintro e w' ⟨⟨d, rfl, hd1, hd2⟩, rfl⟩
  go_wp2_with fail
  refine (hpkP.out _).mono ?_
  rintro e w' ⟨rfl, rfl⟩
  go_wp2_with fail
  have hrt : rightW (⟨84, 0, 0, 0, 0, 0, 0, 0, (1 + P), ⟨#[]⟩, ⟨#[]⟩, ⟨#[]⟩, ⟨#[]⟩, ⟨#[]⟩⟩ : Wp.Rq) ⟨none, 0, 0⟩ (Wp.short []) = true := by
    refine (right_iff _ _ _ (wf_small _ zz zz zz zz zz ⟨by show (0 : Int) ≤ 1 + P; omega, by show 1 + P ≤ (1001 : Int); omega⟩)).2 ⟨19, by decide, rfl, ?_, rfl, rfl⟩
    show List.all [8] _ = true
    simp only [List.all_cons, List.all_nil, Bool.and_true]
    exact fits_of _ _ _ 8 (by decide) (by decide) (by decide) (show (1 : Int) ≤ 1 + P by omega) (show 1 + P ≤ (1000 : Int) by omega)
  refine bodyPost_ret (results_cell_row (p := 2) rfl _ _ (w.heap.size + 1) 37 (cellsOf ⟨84, 0, 0, 0, 0, 0, 0, 0, (1 + P), ⟨#[]⟩, ⟨#[]⟩, ⟨#[]⟩, ⟨#[]⟩, ⟨#[]⟩⟩ (Sl.v ⟨none, 0, 0⟩)) (0, 0) _ rfl ?_ Tryd.underlying37 rfl hinf) rfl ⟨shaped_end _ hrt (wf_small _ zz zz zz zz zz ⟨by show (0 : Int) ≤ 1 + P; omega, by show 1 + P ≤ (1001 : Int); omega⟩), ?_⟩
  · exact heap3 _ _ _ _
  · exact below3 _ _ _ _

set_option maxHeartbeats 1000000 in
theorem shaped_6 (r : Wp.Rq) (x : Sl) (w : World) (hm : r.op.toNat % 10 = 6) (hw : Wf r) (hz : Szs r) :
    Calls Tryd.prog 11 #[.agg (cellsOf r x.v)] w fun e w' => Shaped w e w' ∧ Below w.heap.size w w' := by
  have hmi : ((r.op.toNat : Nat) : Int) % 10 = 6 := by omega
  have hch : (ByteArray.mk #[67, 88, 80, 83, 82, 65, 69, 84, 86, 66])[6].toNat = 69 := rfl
  have hsh : Hid (∀ W, Calls Tryd.prog 41 #[.string r.han, .int .i64 255] W fun e w' => e = .returned (.string (sh r.han 255)) ∧ w' = W) := fun W => short_any r.han 255 W hz.han (by decide)
  have hss := sh_size r.han 255
  generalize sh r.han 255 = T at hsh hss
  have hpkP : Hid (∀ W, Calls Tryd.prog 17 #[.int .i64 r.tic, .int .i64 1001] W fun e w' => e = .returned (.int .i64 (pk r.tic 1001)) ∧ w' = W) := fun W => pick_any r.tic 1001 W hw.tic.1 hw.tic.2 (by decide) (by decide)
  have hp1P := pk_nonneg r.tic 1001 (by decide)
  have hp2P := pk_lt r.tic 1001 (by decide)
  generalize pk r.tic 1001 = P at hpkP hp1P hp2P
  have hinf := info37
  clear hw hz
  unfold cellsOf Sl.v
  go_enter Tryd.func11, Tryd.ntmps11
  go_wp2_with fail
  refine (letter_any r.q _).mono ?_
  rintro e w' ⟨⟨d, rfl, hd1, hd2⟩, rfl⟩
  go_wp2_with fail
  refine (hsh.out _).mono ?_
  rintro e w' ⟨rfl, rfl⟩
  go_wp2_with fail
  refine (hpkP.out _).mono ?_
  rintro e w' ⟨rfl, rfl⟩
  go_wp2_with fail
  have hrt : rightW (⟨69, 0, 0, 0, 0, 0, 0, 0, P, ⟨#[]⟩, ⟨#[]⟩, ⟨#[]⟩, ⟨#[]⟩, T⟩ : Wp.Rq) ⟨none, 0, 0⟩ (Wp.short []) = true := by
    refine (right_iff _ _ _ (wf_small _ zz zz zz zz zz ⟨by show (0 : Int) ≤ P; omega, by show P ≤ (1001 : Int); omega⟩)).2 ⟨4, by decide, rfl, ?_, rfl, rfl⟩
    show List.all [13, 7] _ = true
    simp only [List.all_cons, List.all_nil, Bool.and_true, Bool.and_eq_true]
    exact ⟨fits_of _ _ _ 13 (by decide) (by decide) (by decide) (show (0 : Int) ≤ (T.size : Int) by omega) (show (T.size : Int) ≤ 255 by omega), fits_of _ _ _ 7 (by decide) (by decide) (by decide) (show (0 : Int) ≤ P by omega) (show P ≤ (1000 : Int) by omega)⟩
  refine bodyPost_ret (results_cell_row (p := 2) rfl _ _ (w.heap.size + 1) 37 (cellsOf ⟨69, 0, 0, 0, 0, 0, 0, 0, P, ⟨#[]⟩, ⟨#[]⟩, ⟨#[]⟩, ⟨#[]⟩, T⟩ (Sl.v ⟨none, 0, 0⟩)) (0, 0) _ rfl ?_ Tryd.underlying37 rfl hinf) rfl ⟨shaped_end _ hrt (wf_small _ zz zz zz zz zz ⟨by show (0 : Int) ≤ P; omega, by show P ≤ (1001 : Int); omega⟩), ?_⟩
  · exact heap3 _ _ _ _
  · exact below3 _ _ _ _
end Go.Proofs.YtbdobaapadlcjaaDoor.Keep
