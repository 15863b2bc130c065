/-
  THE WALK of the statements' shaped (11), some of the Ops.
-/
import Derived.Test.YtbdobaapadlcjaaDoorBackG
namespace Go.Proofs.YtbdobaapadlcjaaDoor.Keep
open Go.RowKit
set_option linter.unusedVariables false

set_option maxHeartbeats 1000000 in
theorem shaped_4 (r : Wp.Rq) (x : Sl) (w : World) (hm : r.op.toNat % 10 = 4) (hw : Wf r) (hz : Szs r) :
    Calls Tryd.prog 11 #[.agg (cellsOf r x.v)] w fun e w' => Shaped w e w' ∧ Below w.heap.size w w' := by
  have hmi : ((r.op.toNat : Nat) : Int) % 10 = 4 := by omega
  have hch : (ByteArray.mk #[67, 88, 80, 83, 82, 65, 69, 84, 86, 66])[4].toNat = 82 := rfl
  have hsh : Hid (∀ W, Calls Tryd.prog 41 #[.string r.att, .int .i64 8] W fun e w' => e = .returned (.string (sh r.att 8)) ∧ w' = W) := fun W => short_any r.att 8 W hz.att (by decide)
  have hss := sh_size r.att 8
  generalize sh r.att 8 = T at hsh hss
  have hpkP : Hid (∀ W, Calls Tryd.prog 17 #[.int .i64 r.mx, .int .i64 10] W fun e w' => e = .returned (.int .i64 (pk r.mx 10)) ∧ w' = W) := fun W => pick_any r.mx 10 W hw.mx.1 hw.mx.2 (by decide) (by decide)
  have hp1P := pk_nonneg r.mx 10 (by decide)
  have hp2P := pk_lt r.mx 10 (by decide)
  generalize pk r.mx 10 = P at hpkP hp1P hp2P
  have hinf := info37
  clear hw hz
  unfold cellsOf Sl.v
  go_enter Tryd.func11, Tryd.ntmps11
  go_wp2_with fail
  refine (letter_any r.q _).mono ?_
  rintro e w' ⟨⟨d, rfl, hd1, hd2⟩, rfl⟩
  go_wp2_with fail
  refine (hsh.out _).mono ?_
  rintro e w' ⟨rfl, rfl⟩
  go_wp2_with fail
  refine (hpkP.out _).mono ?_
  rintro e w' ⟨rfl, rfl⟩
  go_wp2_with fail
  have hrt : rightW (⟨82, d, 0, 0, 0, 0, 0, (1 + P), 0, ⟨#[]⟩, ⟨#[]⟩, ⟨#[]⟩, T, ⟨#[]⟩⟩ : Wp.Rq) ⟨none, 0, 0⟩ (Wp.short []) = true := by
    refine (right_iff _ _ _ (wf_small _ zz zz zz zz ⟨by show (0 : Int) ≤ 1 + P; omega, by show 1 + P ≤ (1001 : Int); omega⟩ zz)).2 ⟨17, by decide, rfl, ?_, rfl, rfl⟩
    show List.all [0, 12, 6] _ = true
    simp only [List.all_cons, List.all_nil, Bool.and_true, Bool.and_eq_true]
    exact ⟨fits_of _ _ _ 0 (by decide) (by decide) (by decide) (show (97 : Int) ≤ (d.toNat : Int) by omega) (show (d.toNat : Int) ≤ 104 by omega), fits_of _ _ _ 12 (by decide) (by decide) (by decide) (show (0 : Int) ≤ (T.size : Int) by omega) (show (T.size : Int) ≤ 8 by omega), fits_of _ _ _ 6 (by decide) (by decide) (by decide) (show (1 : Int) ≤ 1 + P by omega) (show 1 + P ≤ (10 : Int) by omega)⟩
  refine bodyPost_ret (results_cell_row (p := 2) rfl _ _ (w.heap.size + 1) 37 (cellsOf ⟨82, d, 0, 0, 0, 0, 0, (1 + P), 0, ⟨#[]⟩, ⟨#[]⟩, ⟨#[]⟩, T, ⟨#[]⟩⟩ (Sl.v ⟨none, 0, 0⟩)) (0, 0) _ rfl ?_ Tryd.underlying37 rfl hinf) rfl ⟨shaped_end _ hrt (wf_small _ zz zz zz zz ⟨by show (0 : Int) ≤ 1 + P; omega, by show 1 + P ≤ (1001 : Int); omega⟩ zz), ?_⟩
  · exact heap3 _ _ _ _
  · exact below3 _ _ _ _

set_option maxHeartbeats 1000000 in
theorem shaped_3 (r : Wp.Rq) (x : Sl) (w : World) (hm : r.op.toNat % 10 = 3) (hw : Wf r) (hz : Szs r) :
    Calls Tryd.prog 11 #[.agg (cellsOf r x.v)] w fun e w' => Shaped w e w' ∧ Below w.heap.size w w' := by
  have hmi : ((r.op.toNat : Nat) : Int) % 10 = 3 := by omega
  have hch : (ByteArray.mk #[67, 88, 80, 83, 82, 65, 69, 84, 86, 66])[3].toNat = 83 := rfl
  have hsh : Hid (∀ W, Calls Tryd.prog 41 #[.string r.bod, .int .i64 255] W fun e w' => e = .returned (.string (sh r.bod 255)) ∧ w' = W) := fun W => short_any r.bod 255 W hz.bod (by decide)
  have hss := sh_size r.bod 255
  generalize sh r.bod 255 = T at hsh hss
  have HZ : Hid (r.grp.size ≤ maxLen ∧ r.ded.size ≤ maxLen) := ⟨hz.grp, hz.ded⟩
  have hinf := info37
  clear hw hz
  unfold cellsOf Sl.v
  go_enter Tryd.func11, Tryd.ntmps11
  go_wp2_with fail
  refine (letter_any r.q _).mono ?_
  rintro e w' ⟨⟨d, rfl, hd1, hd2⟩, rfl⟩
  go_wp2_with fail
  refine (named_any r.grp _ HZ.out.1).mono ?_
  rintro e w' ⟨⟨G, rfl, hg1, hg2⟩, rfl⟩
  go_wp2_with fail
  refine (dedup_any r.ded _ HZ.out.2).mono ?_
  rintro e w' ⟨⟨D, rfl, hD1, hD2⟩, rfl⟩
  have HD2 : Hid (Wp.dedOk D = true) := hD2
  clear hD2
  go_wp2_with fail
  refine (hsh.out _).mono ?_
  rintro e w' ⟨rfl, rfl⟩
  go_wp2_with fail
  have hrt : rightW (⟨83, d, 0, 0, 0, 0, 0, 0, 0, G, D, T, ⟨#[]⟩, ⟨#[]⟩⟩ : Wp.Rq) ⟨none, 0, 0⟩ (Wp.short []) = true := by
    refine (right_iff _ _ _ (wf_small _ zz zz zz zz zz zz)).2 ⟨18, by decide, rfl, ?_, rfl, rfl⟩
    show List.all [0, 9, 10, 11] _ = true
    simp only [List.all_cons, List.all_nil, Bool.and_true, Bool.and_eq_true]
    exact ⟨fits_of _ _ _ 0 (by decide) (by decide) (by decide) (show (97 : Int) ≤ (d.toNat : Int) by omega) (show (d.toNat : Int) ≤ 104 by omega), fits_of _ _ _ 9 (by decide) (by decide) (by decide) (show (1 : Int) ≤ (G.size : Int) by omega) (show (G.size : Int) ≤ 8 by omega), fits_dedup _ _ _ hD1 HD2.out, fits_of _ _ _ 11 (by decide) (by decide) (by decide) (show (0 : Int) ≤ (T.size : Int) by omega) (show (T.size : Int) ≤ 255 by omega)⟩
  refine bodyPost_ret (results_cell_row (p := 2) rfl _ _ (w.heap.size + 1) 37 (cellsOf ⟨83, d, 0, 0, 0, 0, 0, 0, 0, G, D, T, ⟨#[]⟩, ⟨#[]⟩⟩ (Sl.v ⟨none, 0, 0⟩)) (0, 0) _ rfl ?_ Tryd.underlying37 rfl hinf) rfl ⟨shaped_end _ hrt (wf_small _ zz zz zz zz zz zz), ?_⟩
  · exact heap3 _ _ _ _
  · exact below3 _ _ _ _
end Go.Proofs.YtbdobaapadlcjaaDoor.Keep
