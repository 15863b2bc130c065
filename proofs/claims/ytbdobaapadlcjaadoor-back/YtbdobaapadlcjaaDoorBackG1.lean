/-
  THE WALK of the statements' shaped (11), some of the Ops.
-/
import Derived.Test.YtbdobaapadlcjaaDoorBackG
namespace Go.Proofs.YtbdobaapadlcjaaDoor.Keep
open Go.RowKit
set_option linter.unusedVariables false

set_option maxHeartbeats 1000000 in
theorem shaped_1 (r : Wp.Rq) (x : Sl) (w : World) (hm : r.op.toNat % 10 = 1) (hw : Wf r) (hz : Szs r) :
    Calls Tryd.prog 11 #[.agg (cellsOf r x.v)] w fun e w' => Shaped w e w' ∧ Below w.heap.size w w' := by
  have hmi : ((r.op.toNat : Nat) : Int) % 10 = 1 := by omega
  have hch : (ByteArray.mk #[67, 88, 80, 83, 82, 65, 69, 84, 86, 66])[1].toNat = 88 := rfl
  have hinf := info37
  clear hw hz
  unfold cellsOf Sl.v
  go_enter Tryd.func11, Tryd.ntmps11
  go_wp2_with fail
  refine (letter_any r.q _).mono ?_
  rintro e w' ⟨⟨d, rfl, hd1, hd2⟩, rfl⟩
  go_wp2_with fail
  have hrt : rightW (⟨88, d, 0, 0, 0, 0, 0, 0, 0, ⟨#[]⟩, ⟨#[]⟩, ⟨#[]⟩, ⟨#[]⟩, ⟨#[]⟩⟩ : Wp.Rq) ⟨none, 0, 0⟩ (Wp.short []) = true := by
    refine (right_iff _ _ _ (wf_small _ zz zz zz zz zz zz)).2 ⟨23, by decide, rfl, ?_, rfl, rfl⟩
    show List.all [0] _ = true
    simp only [List.all_cons, List.all_nil, Bool.and_true]
    exact fits_of _ _ _ 0 (by decide) (by decide) (by decide) (show (97 : Int) ≤ (d.toNat : Int) by omega) (show (d.toNat : Int) ≤ 104 by omega)
  refine bodyPost_ret (results_cell_row (p := 2) rfl _ _ (w.heap.size + 1) 37 (cellsOf ⟨88, d, 0, 0, 0, 0, 0, 0, 0, ⟨#[]⟩, ⟨#[]⟩, ⟨#[]⟩, ⟨#[]⟩, ⟨#[]⟩⟩ (Sl.v ⟨none, 0, 0⟩)) (0, 0) _ rfl ?_ Tryd.underlying37 rfl hinf) rfl ⟨shaped_end _ hrt (wf_small _ zz zz zz zz zz zz), ?_⟩
  · exact heap3 _ _ _ _
  · exact below3 _ _ _ _

set_option maxHeartbeats 1000000 in
theorem shaped_2 (r : Wp.Rq) (x : Sl) (w : World) (hm : r.op.toNat % 10 = 2) (hw : Wf r) (hz : Szs r) :
    Calls Tryd.prog 11 #[.agg (cellsOf r x.v)] w fun e w' => Shaped w e w' ∧ Below w.heap.size w w' := by
  have hmi : ((r.op.toNat : Nat) : Int) % 10 = 2 := by omega
  have hch : (ByteArray.mk #[67, 88, 80, 83, 82, 65, 69, 84, 86, 66])[2].toNat = 80 := rfl
  have hinf := info37
  clear hw hz
  unfold cellsOf Sl.v
  go_enter Tryd.func11, Tryd.ntmps11
  go_wp2_with fail
  refine (letter_any r.q _).mono ?_
  rintro e w' ⟨⟨d, rfl, hd1, hd2⟩, rfl⟩
  go_wp2_with fail
  have hrt : rightW (⟨80, d, 0, 0, 0, 0, 0, 0, 0, ⟨#[]⟩, ⟨#[]⟩, ⟨#[]⟩, ⟨#[]⟩, ⟨#[]⟩⟩ : Wp.Rq) ⟨none, 0, 0⟩ (Wp.short []) = true := by
    refine (right_iff _ _ _ (wf_small _ zz zz zz zz zz zz)).2 ⟨15, by decide, rfl, ?_, rfl, rfl⟩
    show List.all [0] _ = true
    simp only [List.all_cons, List.all_nil, Bool.and_true]
    exact fits_of _ _ _ 0 (by decide) (by decide) (by decide) (show (97 : Int) ≤ (d.toNat : Int) by omega) (show (d.toNat : Int) ≤ 104 by omega)
  refine bodyPost_ret (results_cell_row (p := 2) rfl _ _ (w.heap.size + 1) 37 (cellsOf ⟨80, d, 0, 0, 0, 0, 0, 0, 0, ⟨#[]⟩, ⟨#[]⟩, ⟨#[]⟩, ⟨#[]⟩, ⟨#[]⟩⟩ (Sl.v ⟨none, 0, 0⟩)) (0, 0) _ rfl ?_ Tryd.underlying37 rfl hinf) rfl ⟨shaped_end _ hrt (wf_small _ zz zz zz zz zz zz), ?_⟩
  · exact heap3 _ _ _ _
  · exact below3 _ _ _ _
end Go.Proofs.YtbdobaapadlcjaaDoor.Keep
