/-
  THE WALK of the statements' spoilt (16): out of a right request one that is not right.
-/
import Derived.Test.YtbdobaapadlcjaaDoorBackH
namespace Go.Proofs.YtbdobaapadlcjaaDoor.Keep
open Go.RowKit
set_option linter.unusedVariables false

theorem i64_hi : i64 1001 := by unfold i64; decide
theorem i64_one : i64 1 := by unfold i64; decide
theorem no_op (r : Wp.Rq) (x : Sl) (b : Bool) (h : r.op = 68) : rightW r x b = false := by
  unfold rightW
  rw [h]
  rfl
theorem no_hi (r : Wp.Rq) (x : Sl) (b : Bool) (hw : Wf r) (h : r.op.toNat = 84 ∨ r.op.toNat = 69) (ht : r.tic = 1001) : rightW r x b = false := by
  rw [Bool.eq_false_iff]
  intro hr
  obtain ⟨i, hi, hop, hall, _, _⟩ := (right_iff r x b hw).1 hr
  rcases h with h | h
  · obtain rfl : i = 19 := by omega
    have h8 := List.all_eq_true.1 hall 8 (by decide)
    have e1 : r.measure x.n 8 = r.tic := rfl
    have e2 : Wp.most 8 = 1000 := rfl
    have e3 : Wp.least 8 = 1 := rfl
    unfold Wp.Rq.fits at h8
    rw [if_neg (fun e => by cases e.1), e1, e2, e3, ht, if_neg (by decide), if_pos (by decide)] at h8
    cases h8
  · obtain rfl : i = 4 := by omega
    have h8 := List.all_eq_true.1 hall 7 (by decide)
    have e1 : r.measure x.n 7 = r.tic := rfl
    have e2 : Wp.most 7 = 1000 := rfl
    have e3 : Wp.least 7 = 0 := rfl
    unfold Wp.Rq.fits at h8
    rw [if_neg (fun e => by cases e.1), e1, e2, e3, ht, if_neg (by decide), if_pos (by decide)] at h8
    cases h8
theorem no_tic (r : Wp.Rq) (x : Sl) (b : Bool) (hw : Wf r) (h1 : r.op.toNat ≠ 84) (h2 : r.op.toNat ≠ 69) (ht : r.tic = 1) : rightW r x b = false := by
  rw [Bool.eq_false_iff]
  intro hr
  obtain ⟨i, hi, hop, _, her, _⟩ := (right_iff r x b hw).1 hr
  have h3 : i ≠ 19 := by omega
  have h4 : i ≠ 4 := by omega
  simp only [opsAt, List.mem_cons, List.not_mem_nil, or_false] at hi
  have ht' := congrArg Wp.Rq.tic her
  rcases hi with rfl | rfl | rfl | rfl | rfl | rfl | rfl | rfl | rfl | rfl
  all_goals first
    | exact absurd rfl h3
    | exact absurd rfl h4
    | (have e : r.tic = 0 := ht'
       rw [ht] at e
       cases e)
theorem no_grp (r : Wp.Rq) (x : Sl) (b : Bool) (hw : Wf r) (h1 : r.op.toNat ≠ 83) (ht : r.grp = ⟨#[103]⟩) : rightW r x b = false := by
  rw [Bool.eq_false_iff]
  intro hr
  obtain ⟨i, hi, hop, _, her, _⟩ := (right_iff r x b hw).1 hr
  have h3 : i ≠ 18 := by omega
  simp only [opsAt, List.mem_cons, List.not_mem_nil, or_false] at hi
  have ht' := congrArg Wp.Rq.grp her
  rcases hi with rfl | rfl | rfl | rfl | rfl | rfl | rfl | rfl | rfl | rfl
  all_goals first
    | exact absurd rfl h3
    | (have e : r.grp = ⟨#[]⟩ := ht'
       rw [ht] at e
       cases e)
theorem no_empty (r : Wp.Rq) (x : Sl) (b : Bool) (hw : Wf r) (h1 : r.op.toNat = 83) (ht : r.grp = ⟨#[]⟩) : rightW r x b = false := by
  rw [Bool.eq_false_iff]
  intro hr
  obtain ⟨i, hi, hop, hall, _, _⟩ := (right_iff r x b hw).1 hr
  obtain rfl : i = 18 := by omega
  have h8 := List.all_eq_true.1 hall 9 (by decide)
  have e1 : r.measure x.n 9 = (r.grp.size : Int) := rfl
  have e3 : Wp.least 9 = 1 := rfl
  unfold Wp.Rq.fits at h8
  rw [if_neg (fun e => by cases e.1), e1, e3, ht, if_pos (by decide)] at h8
  cases h8

/-- What spoilt answers. -/
def Spoilt (bs : List ByteArray) (w : World) (e : Ending) (w' : World) : Prop :=
  ∃ (r : Wp.Rq) (x : Sl), e = .returned (.agg (cellsOf r x.v)) ∧ rightW r x (Wp.short bs) = false ∧ x.n = bs.length ∧ FStrs w.heap.size w' x.a bs

set_option maxRecDepth 100000 in
set_option maxHeartbeats 2000000 in
theorem spoilt_any (r : Wp.Rq) (x : Sl) (which : Int) (bs : List ByteArray) (w : World) (hw : Wf r) (hn : x.n = bs.length) (hb : bs.length ≤ 1000) (hS : Strs w x.a bs) (hp1 : -9223372036854775808 ≤ which) (hp2 : which ≤ 9223372036854775807) :
    Calls Tryd.prog 16 #[.agg (cellsOf r x.v), .int .i64 which] w fun e w' => Spoilt bs w e w' ∧ Below w.heap.size w w' := by
  have HCP : Hid (∀ W, Below w.heap.size w W → Calls Tryd.prog 13 #[.agg (cellsOf r x.v)] W fun e w' => (∃ y : Sl, e = .returned (.agg (cellsOf r y.v)) ∧ y.n = bs.length ∧ FStrs W.heap.size w' y.a bs) ∧ Below W.heap.size W w') :=
    fun W hW => copied_any r x bs W hn hb (hS.below hW)
  have HPK : Hid (∀ W, Calls Tryd.prog 17 #[.int .i64 which, .int .i64 3] W fun e w' => e = .returned (.int .i64 (pk which 3)) ∧ w' = W) := fun W => pick_any which 3 W hp1 hp2 (by decide) (by decide)
  have hq1 := pk_nonneg which 3 (by decide)
  have hq2 := pk_lt which 3 (by decide)
  have hinf := info37
  generalize pk which 3 = P at HPK hq1 hq2
  clear hS hn hp1 hp2
  generalize hC : cellsOf r x.v = C at HCP ⊢
  have HCS : Hid (C.size = 15) := by show _ = _; rw [← hC]; rfl
  clear hC
  go_enter Tryd.func16, Tryd.ntmps16
  go_wp2_with (refine wpList_load_row rfl 37 _ rfl w.heap.size rfl 37 C (0, 0) _ (heap_alloc2_old _ _ _) Tryd.underlying37 rfl (by rw [HCS.out]; exact hinf) ?_)
  refine (HCP.out _ (((Below.refl _ _).alloc (Nat.le_refl _) _).alloc (by simp) _)).mono ?_
  rintro e w1 ⟨⟨y, rfl, hyn, hyf⟩, hb1⟩
  have hres : Blk w1 (w.heap.size + 1) (opR 0) ⟨none, 0, 0⟩ := by
    unfold Blk
    rw [hb1.block (w.heap.size + 1) (by simp), heap_alloc2_new]; rfl
  have HB1 : Hid (Below w.heap.size w w1) := (((Below.refl _ _).alloc (Nat.le_refl _) _).alloc (by simp) _).trans (hb1.mono (by simp; omega))
  have HY : Hid (y.n = bs.length ∧ FStrs (w.heap.size + 1 + 1) w1 y.a bs) := ⟨hyn, by simpa using hyf⟩
  have HS1 : Hid (w.heap.size + 1 + 1 ≤ w1.heap.size) := by
    show _ ≤ _
    have := hb1.size; simpa using this
  have HRES : Hid (Blk w1 (w.heap.size + 1) (opR 0) ⟨none, 0, 0⟩) := hres
  clear hyn hyf hb1 hres
  unfold cellsOf Sl.v
  go_wp2_with fail
  refine (HPK.out _).mono ?_
  rintro e w2 ⟨rfl, rfl⟩
  have HR : Hid (∀ X, (w1.alloc X).heap[w.heap.size + 1]? = some (.cells (cellsOf (opR 0) (Sl.v ⟨none, 0, 0⟩)) 37 (0, 0))) := fun X => (Below.heap_alloc _ _ _ (by have := HS1.out; omega)).trans HRES.out
  have HF : Hid (∀ X C, FStrs w.heap.size ((w1.alloc X).setRow (w.heap.size + 1) C) y.a bs) := fun X C j hj => by
    obtain ⟨g, o, ha, hg, hc⟩ := HY.out.2 j hj
    have hlt : g < w1.heap.size := World.block_lt_of_cell? _ _ hc
    have hne : g ≠ w.heap.size + 1 := by omega
    have e1 : ((w1.alloc X).setRow (w.heap.size + 1) C).heap[g]? = w1.heap[g]? := (setRow_other _ _ g _ hne).trans (Below.heap_alloc _ _ _ hlt)
    exact ⟨g, o, ha, by omega, (World.cell?_of_block (a := ⟨g, o + j, none⟩) e1).trans hc⟩
  have HBL : Hid (∀ X C, Below w.heap.size w ((w1.alloc X).setRow (w.heap.size + 1) C)) := fun X C =>
    Go.Proofs.YtbdobaapadlcjaaDoor.below_setRow (HB1.out.alloc (by have := HS1.out; omega) _) (by omega) _
  have HW : Hid (Wf r) := hw
  clear hw
  have hP : P = 0 ∨ P = 1 ∨ P = 2 := by omega
  rcases hP with rfl | rfl | rfl
  · go_wp2_with (refine wpList_store_row rfl 37 _ _ rfl (w.heap.size + 1) (cellsOf { r with op := 68 } y.v) rfl rfl 37 _ (HR.out _) hinf rfl (cells_one _ _) ?_)
    refine bodyPost_ret (results_cell_row (p := 4) rfl _ _ (w.heap.size + 1) 37 _ (0, 0) _ rfl (setRow_heap _ _ _ _ 37 (0, 0) (HR.out _)) Tryd.underlying37 rfl hinf) rfl ⟨⟨{ r with op := 68 }, y, rfl, no_op _ _ _ rfl, HY.out.1, HF.out _ _⟩, HBL.out _ _⟩
  · by_cases h84 : r.op.toNat = 84
    · have e84 : (((r.op.toNat : Nat) : Int) == 84) = true := by rw [h84]; rfl
      have H84 : Hid (r.op.toNat = 84) := h84
      clear h84
      go_wp2_with (refine wpList_store_row rfl 37 _ _ rfl (w.heap.size + 1) (cellsOf { r with tic := 1001 } y.v) rfl rfl 37 _ (HR.out _) hinf rfl (cells_one _ _) ?_)
      refine bodyPost_ret (results_cell_row (p := 4) rfl _ _ (w.heap.size + 1) 37 _ (0, 0) _ rfl (setRow_heap _ _ _ _ 37 (0, 0) (HR.out _)) Tryd.underlying37 rfl hinf) rfl ⟨⟨{ r with tic := 1001 }, y, rfl, no_hi _ _ _ ⟨HW.out.vis, HW.out.win, HW.out.rcv, HW.out.quo, HW.out.mx, i64_hi⟩ (Or.inl H84.out) rfl, HY.out.1, HF.out _ _⟩, HBL.out _ _⟩
    · have e84 : (((r.op.toNat : Nat) : Int) == 84) = false := beq_eq_false_iff_ne.2 (by omega)
      by_cases h69 : r.op.toNat = 69
      · have e69 : (((r.op.toNat : Nat) : Int) == 69) = true := by rw [h69]; rfl
        have H69 : Hid (r.op.toNat = 69) := h69
        clear h69 h84
        go_wp2_with (refine wpList_store_row rfl 37 _ _ rfl (w.heap.size + 1) (cellsOf { r with tic := 1001 } y.v) rfl rfl 37 _ (HR.out _) hinf rfl (cells_one _ _) ?_)
        refine bodyPost_ret (results_cell_row (p := 4) rfl _ _ (w.heap.size + 1) 37 _ (0, 0) _ rfl (setRow_heap _ _ _ _ 37 (0, 0) (HR.out _)) Tryd.underlying37 rfl hinf) rfl ⟨⟨{ r with tic := 1001 }, y, rfl, no_hi _ _ _ ⟨HW.out.vis, HW.out.win, HW.out.rcv, HW.out.quo, HW.out.mx, i64_hi⟩ (Or.inr H69.out) rfl, HY.out.1, HF.out _ _⟩, HBL.out _ _⟩
      · have e69 : (((r.op.toNat : Nat) : Int) == 69) = false := beq_eq_false_iff_ne.2 (by omega)
        have H0 : Hid (r.op.toNat ≠ 84 ∧ r.op.toNat ≠ 69) := ⟨h84, h69⟩
        clear h69 h84
        go_wp2_with (refine wpList_store_row rfl 37 _ _ rfl (w.heap.size + 1) (cellsOf { r with tic := 1 } y.v) rfl rfl 37 _ (HR.out _) hinf rfl (cells_one _ _) ?_)
        refine bodyPost_ret (results_cell_row (p := 4) rfl _ _ (w.heap.size + 1) 37 _ (0, 0) _ rfl (setRow_heap _ _ _ _ 37 (0, 0) (HR.out _)) Tryd.underlying37 rfl hinf) rfl ⟨⟨{ r with tic := 1 }, y, rfl, no_tic _ _ _ ⟨HW.out.vis, HW.out.win, HW.out.rcv, HW.out.quo, HW.out.mx, i64_one⟩ H0.out.1 H0.out.2 rfl, HY.out.1, HF.out _ _⟩, HBL.out _ _⟩
  · by_cases h83 : r.op.toNat = 83
    · have e83 : (((r.op.toNat : Nat) : Int) == 83) = true := by rw [h83]; rfl
      have H83 : Hid (r.op.toNat = 83) := h83
      clear h83
      go_wp2_with (refine wpList_store_row rfl 37 _ _ rfl (w.heap.size + 1) (cellsOf { r with grp := ⟨#[]⟩ } y.v) rfl rfl 37 _ (HR.out _) hinf rfl (cells_one _ _) ?_)
      refine bodyPost_ret (results_cell_row (p := 4) rfl _ _ (w.heap.size + 1) 37 _ (0, 0) _ rfl (setRow_heap _ _ _ _ 37 (0, 0) (HR.out _)) Tryd.underlying37 rfl hinf) rfl ⟨⟨{ r with grp := ⟨#[]⟩ }, y, rfl, no_empty _ _ _ ⟨HW.out.vis, HW.out.win, HW.out.rcv, HW.out.quo, HW.out.mx, HW.out.tic⟩ H83.out rfl, HY.out.1, HF.out _ _⟩, HBL.out _ _⟩
    · have e83 : (((r.op.toNat : Nat) : Int) == 83) = false := beq_eq_false_iff_ne.2 (by omega)
      have H83 : Hid (r.op.toNat ≠ 83) := h83
      clear h83
      go_wp2_with (refine wpList_store_row rfl 37 _ _ rfl (w.heap.size + 1) (cellsOf { r with grp := ⟨#[103]⟩ } y.v) rfl rfl 37 _ (HR.out _) hinf rfl (cells_one _ _) ?_)
      refine bodyPost_ret (results_cell_row (p := 4) rfl _ _ (w.heap.size + 1) 37 _ (0, 0) _ rfl (setRow_heap _ _ _ _ 37 (0, 0) (HR.out _)) Tryd.underlying37 rfl hinf) rfl ⟨⟨{ r with grp := ⟨#[103]⟩ }, y, rfl, no_grp _ _ _ ⟨HW.out.vis, HW.out.win, HW.out.rcv, HW.out.quo, HW.out.mx, HW.out.tic⟩ H83.out rfl, HY.out.1, HF.out _ _⟩, HBL.out _ _⟩
end Go.Proofs.YtbdobaapadlcjaaDoor.Keep
