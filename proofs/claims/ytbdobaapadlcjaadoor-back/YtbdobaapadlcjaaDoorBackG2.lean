/-
  THE WALK of the statements' shaped (11), some of the Ops.
-/
import Derived.Test.YtbdobaapadlcjaaDoorBackG
namespace Go.Proofs.YtbdobaapadlcjaaDoor.Keep
open Go.RowKit
set_option linter.unusedVariables false

set_option maxHeartbeats 1000000 in
theorem shaped_8 (r : Wp.Rq) (x : Sl) (w : World) (hm : r.op.toNat % 10 = 8) (hw : Wf r) (hz : Szs r) :
    Calls Tryd.prog 11 #[.agg (cellsOf r x.v)] w fun e w' => Shaped w e w' ∧ Below w.heap.size w w' := by
  have hmi : ((r.op.toNat : Nat) : Int) % 10 = 8 := by omega
  have hch : (ByteArray.mk #[67, 88, 80, 83, 82, 65, 69, 84, 86, 66])[8].toNat = 86 := rfl
  have hinf := info37
  clear hw hz
  unfold cellsOf Sl.v
  go_enter Tryd.func11, Tryd.ntmps11
  go_wp2_with fail
  refine (letter_any r.q _).mono ?_
  rintro e w' ⟨⟨d, rfl, hd1, hd2⟩, rfl⟩
  go_wp2_with fail
  have hrt : rightW (⟨86, d, 0, 0, 0, 0, 0, 0, 0, ⟨#[]⟩, ⟨#[]⟩, ⟨#[]⟩, ⟨#[]⟩, ⟨#[]⟩⟩ : Wp.Rq) ⟨none, 0, 0⟩ (Wp.short []) = true := by
    refine (right_iff _ _ _ (wf_small _ zz zz zz zz zz zz)).2 ⟨21, by decide, rfl, ?_, rfl, rfl⟩
    show List.all [0] _ = true
    simp only [List.all_cons, List.all_nil, Bool.and_true]
    exact fits_of _ _ _ 0 (by decide) (by decide) (by decide) (show (97 : Int) ≤ (d.toNat : Int) by omega) (show (d.toNat : Int) ≤ 104 by omega)
  refine bodyPost_ret (results_cell_row (p := 2) rfl _ _ (w.heap.size + 1) 37 (cellsOf ⟨86, d, 0, 0, 0, 0, 0, 0, 0, ⟨#[]⟩, ⟨#[]⟩, ⟨#[]⟩, ⟨#[]⟩, ⟨#[]⟩⟩ (Sl.v ⟨none, 0, 0⟩)) (0, 0) _ rfl ?_ Tryd.underlying37 rfl hinf) rfl ⟨shaped_end _ hrt (wf_small _ zz zz zz zz zz zz), ?_⟩
  · exact heap3 _ _ _ _
  · exact below3 _ _ _ _

set_option maxHeartbeats 1000000 in
theorem shaped_5 (r : Wp.Rq) (x : Sl) (w : World) (hm : r.op.toNat % 10 = 5) (hw : Wf r) (hz : Szs r) :
    Calls Tryd.prog 11 #[.agg (cellsOf r x.v)] w fun e w' => Shaped w e w' ∧ Below w.heap.size w w' := by
  have hmi : ((r.op.toNat : Nat) : Int) % 10 = 5 := by omega
  have hch : (ByteArray.mk #[67, 88, 80, 83, 82, 65, 69, 84, 86, 66])[5].toNat = 65 := rfl
  have hsh : Hid (∀ W, Calls Tryd.prog 41 #[.string r.han, .int .i64 255] W fun e w' => e = .returned (.string (sh r.han 255)) ∧ w' = W) := fun W => short_any r.han 255 W hz.han (by decide)
  have hss := sh_size r.han 255
  generalize sh r.han 255 = T at hsh hss
  have hinf := info37
  clear hw hz
  unfold cellsOf Sl.v
  go_enter Tryd.func11, Tryd.ntmps11
  go_wp2_with fail
  refine (letter_any r.q _).mono ?_
  rintro e w' ⟨⟨d, rfl, hd1, hd2⟩, rfl⟩
  go_wp2_with fail
  refine (hsh.out _).mono ?_
  rintro e w' ⟨rfl, rfl⟩
  go_wp2_with fail
  have hrt : rightW (⟨65, 0, 0, 0, 0, 0, 0, 0, 0, ⟨#[]⟩, ⟨#[]⟩, ⟨#[]⟩, ⟨#[]⟩, T⟩ : Wp.Rq) ⟨none, 0, 0⟩ (Wp.short []) = true := by
    refine (right_iff _ _ _ (wf_small _ zz zz zz zz zz zz)).2 ⟨0, by decide, rfl, ?_, rfl, rfl⟩
    show List.all [13] _ = true
    simp only [List.all_cons, List.all_nil, Bool.and_true]
    exact fits_of _ _ _ 13 (by decide) (by decide) (by decide) (show (0 : Int) ≤ (T.size : Int) by omega) (show (T.size : Int) ≤ 255 by omega)
  refine bodyPost_ret (results_cell_row (p := 2) rfl _ _ (w.heap.size + 1) 37 (cellsOf ⟨65, 0, 0, 0, 0, 0, 0, 0, 0, ⟨#[]⟩, ⟨#[]⟩, ⟨#[]⟩, ⟨#[]⟩, T⟩ (Sl.v ⟨none, 0, 0⟩)) (0, 0) _ rfl ?_ Tryd.underlying37 rfl hinf) rfl ⟨shaped_end _ hrt (wf_small _ zz zz zz zz zz zz), ?_⟩
  · exact heap3 _ _ _ _
  · exact below3 _ _ _ _
end Go.Proofs.YtbdobaapadlcjaaDoor.Keep
