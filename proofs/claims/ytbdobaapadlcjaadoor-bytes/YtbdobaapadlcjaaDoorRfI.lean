/-
  THE WALK of package wharfref's Right (62), whole: it answers what package wire's right does.
-/
import Derived.Test.YtbdobaapadlcjaaDoorRfH
import Derived.Test.YtbdobaapadlcjaaDoorRfE1
import Derived.Test.YtbdobaapadlcjaaDoorRfE2
import Derived.Test.YtbdobaapadlcjaaDoorRfG1
namespace Go.Proofs.YtbdobaapadlcjaaDoor.Ref
open Go.RowKit
set_option linter.unusedSimpArgs false
set_option linter.unusedVariables false

theorem res_67 (r : Wp.Rq) (x : Sl) (b : Bool) (hw : Wf r) (hop : r.op.toNat = 67) (he : (⟨r.op, r.q, r.d, r.vis, r.win, r.rcv, r.quo, 0, 0, ⟨#[]⟩, ⟨#[]⟩, ⟨#[]⟩, ⟨#[]⟩, ⟨#[]⟩⟩ : Wp.Rq) = r) (hx : x.n = 0) : rightW r x b = ((ltq r && rightQ r)) := by
  rw [Bool.eq_iff_iff, right_at r x b hw 2 (by decide) hop]
  have n2 : r.fits x.n b 2 = true ↔ 1 ≤ r.vis ∧ r.vis ≤ 1000 := fits_num r x.n b 2 (by decide) (by decide) (by decide)
  have n3 : r.fits x.n b 3 = true ↔ 0 ≤ r.win ∧ r.win ≤ 1000 := fits_num r x.n b 3 (by decide) (by decide) (by decide)
  have n4 : r.fits x.n b 4 = true ↔ 0 ≤ r.rcv ∧ r.rcv ≤ 9 := fits_num r x.n b 4 (by decide) (by decide) (by decide)
  have n5 : r.fits x.n b 5 = true ↔ 1 ≤ r.quo ∧ r.quo ≤ 50 := fits_num r x.n b 5 (by decide) (by decide) (by decide)
  have h1 : (erAll { r with op := 0 } (Wp.lay 2) = opR 0) = True := eq_true ((er_67 r).2 he)
  have h2 : ((ebAll x (Wp.lay 2)).n = 0) = True := eq_true (by rw [eb_67]; exact hx)
  have hl : Wp.lay 2 = [0, 2, 3, 4, 1, 5] := rfl
  rw [h1, h2, hl]
  simp only [List.forall_mem_cons, List.not_mem_nil, false_implies, implies_true, and_true, n2, n3, n4, n5, ltq_iff, fits_d]
  all_goals clear h1 h2 he
  all_goals skip
  all_goals (simp only [ltq, rightQ, Bool.and_eq_true, Bool.or_eq_true, decide_eq_true_eq, beq_iff_eq, bne_iff_ne, ne_eq] <;> omega)
theorem no_67 (r : Wp.Rq) (x : Sl) (b : Bool) (hw : Wf r) (hop : r.op.toNat = 67) (h : rightW r x b = true) : (⟨r.op, r.q, r.d, r.vis, r.win, r.rcv, r.quo, 0, 0, ⟨#[]⟩, ⟨#[]⟩, ⟨#[]⟩, ⟨#[]⟩, ⟨#[]⟩⟩ : Wp.Rq) = r ∧ x.n = 0 := by
  rw [right_at r x b hw 2 (by decide) hop] at h
  exact ⟨(er_67 r).1 h.2.1, h.2.2⟩
theorem any_67 (r : Wp.Rq) (x : Sl) (bs : List ByteArray) (w : World) (hw : Wf r) (hop : r.op.toNat = 67) (hxn : x.n = bs.length) :
    Calls Tryd.prog 62 #[.agg (cellsOf r x.v)] w fun e w' => e = .returned (.bool (rightW r x (Wp.short bs))) ∧ Below w.heap.size w w' := by
  by_cases hx : x.n = 0
  · have hY : ∀ (W : World) (a : Option Addr), Strs W a [] := fun W a j hj => absurd hj (by simp)
    have hS : ∀ W, Calls Tryd.prog 33 #[.agg (cellsOf ⟨r.op, r.q, r.d, r.vis, r.win, r.rcv, r.quo, 0, 0, ⟨#[]⟩, ⟨#[]⟩, ⟨#[]⟩, ⟨#[]⟩, ⟨#[]⟩⟩ (Sl.v ⟨none, 0, 0⟩)), .agg (cellsOf r x.v)] W fun e w' => e = .returned (.bool (fieldsEq ⟨r.op, r.q, r.d, r.vis, r.win, r.rcv, r.quo, 0, 0, ⟨#[]⟩, ⟨#[]⟩, ⟨#[]⟩, ⟨#[]⟩, ⟨#[]⟩⟩ r)) ∧ Below W.heap.size W w' := fun W => by
      have h := same_bs ⟨r.op, r.q, r.d, r.vis, r.win, r.rcv, r.quo, 0, 0, ⟨#[]⟩, ⟨#[]⟩, ⟨#[]⟩, ⟨#[]⟩, ⟨#[]⟩⟩ r none x.a 0 x.c [] W (by decide) (hY W _) (hY W _)
      have e : x.v = .slice x.a 0 x.c := by show Value.slice x.a x.n x.c = _; rw [hx]
      rw [e]
      exact h
    by_cases he : (⟨r.op, r.q, r.d, r.vis, r.win, r.rcv, r.quo, 0, 0, ⟨#[]⟩, ⟨#[]⟩, ⟨#[]⟩, ⟨#[]⟩, ⟨#[]⟩⟩ : Wp.Rq) = r
    · rw [res_67 r x _ hw hop he hx]
      refine right_67 r _ x _ w hop (fun W => only_67 r x W hop) (fun W _ => ?_)
      have h := hS W
      rw [(fieldsEq_iff _ _).2 he] at h
      exact h
    · have hf : rightW r x (Wp.short bs) = false := by
        rw [Bool.eq_false_iff]
        exact fun h => he (no_67 r x _ hw hop h).1
      rw [hf]
      refine right_no r _ x _ w (fun W => only_67 r x W hop) (fun W _ => ?_)
      have h := hS W
      rw [show fieldsEq ⟨r.op, r.q, r.d, r.vis, r.win, r.rcv, r.quo, 0, 0, ⟨#[]⟩, ⟨#[]⟩, ⟨#[]⟩, ⟨#[]⟩, ⟨#[]⟩⟩ r = false from Bool.eq_false_iff.2 (fun h => he ((fieldsEq_iff _ _).1 h))] at h
      exact h
  · have hf : rightW r x (Wp.short bs) = false := by
      rw [Bool.eq_false_iff]
      exact fun h => hx (no_67 r x _ hw hop h).2
    rw [hf]
    exact right_no r _ x _ w (fun W => only_67 r x W hop) (fun W _ => same_len _ _ _ _ W (fun e => hx e.symm))

theorem res_88 (r : Wp.Rq) (x : Sl) (b : Bool) (hw : Wf r) (hop : r.op.toNat = 88) (he : (⟨r.op, r.q, 0, 0, 0, 0, 0, 0, 0, ⟨#[]⟩, ⟨#[]⟩, ⟨#[]⟩, ⟨#[]⟩, ⟨#[]⟩⟩ : Wp.Rq) = r) (hx : x.n = 0) : rightW r x b = (ltq r) := by
  rw [Bool.eq_iff_iff, right_at r x b hw 23 (by decide) hop]
  have h1 : (erAll { r with op := 0 } (Wp.lay 23) = opR 0) = True := eq_true ((er_88 r).2 he)
  have h2 : ((ebAll x (Wp.lay 23)).n = 0) = True := eq_true (by rw [eb_88]; exact hx)
  have hl : Wp.lay 23 = [0] := rfl
  rw [h1, h2, hl]
  simp only [List.forall_mem_cons, List.not_mem_nil, false_implies, implies_true, and_true, ltq_iff]
  all_goals clear h1 h2 he
  all_goals skip
  all_goals (simp only [ltq, rightQ, Bool.and_eq_true, Bool.or_eq_true, decide_eq_true_eq, beq_iff_eq, bne_iff_ne, ne_eq] <;> omega)
theorem no_88 (r : Wp.Rq) (x : Sl) (b : Bool) (hw : Wf r) (hop : r.op.toNat = 88) (h : rightW r x b = true) : (⟨r.op, r.q, 0, 0, 0, 0, 0, 0, 0, ⟨#[]⟩, ⟨#[]⟩, ⟨#[]⟩, ⟨#[]⟩, ⟨#[]⟩⟩ : Wp.Rq) = r ∧ x.n = 0 := by
  rw [right_at r x b hw 23 (by decide) hop] at h
  exact ⟨(er_88 r).1 h.2.1, h.2.2⟩
theorem any_88 (r : Wp.Rq) (x : Sl) (bs : List ByteArray) (w : World) (hw : Wf r) (hop : r.op.toNat = 88) (hxn : x.n = bs.length) :
    Calls Tryd.prog 62 #[.agg (cellsOf r x.v)] w fun e w' => e = .returned (.bool (rightW r x (Wp.short bs))) ∧ Below w.heap.size w w' := by
  by_cases hx : x.n = 0
  · have hY : ∀ (W : World) (a : Option Addr), Strs W a [] := fun W a j hj => absurd hj (by simp)
    have hS : ∀ W, Calls Tryd.prog 33 #[.agg (cellsOf ⟨r.op, r.q, 0, 0, 0, 0, 0, 0, 0, ⟨#[]⟩, ⟨#[]⟩, ⟨#[]⟩, ⟨#[]⟩, ⟨#[]⟩⟩ (Sl.v ⟨none, 0, 0⟩)), .agg (cellsOf r x.v)] W fun e w' => e = .returned (.bool (fieldsEq ⟨r.op, r.q, 0, 0, 0, 0, 0, 0, 0, ⟨#[]⟩, ⟨#[]⟩, ⟨#[]⟩, ⟨#[]⟩, ⟨#[]⟩⟩ r)) ∧ Below W.heap.size W w' := fun W => by
      have h := same_bs ⟨r.op, r.q, 0, 0, 0, 0, 0, 0, 0, ⟨#[]⟩, ⟨#[]⟩, ⟨#[]⟩, ⟨#[]⟩, ⟨#[]⟩⟩ r none x.a 0 x.c [] W (by decide) (hY W _) (hY W _)
      have e : x.v = .slice x.a 0 x.c := by show Value.slice x.a x.n x.c = _; rw [hx]
      rw [e]
      exact h
    by_cases he : (⟨r.op, r.q, 0, 0, 0, 0, 0, 0, 0, ⟨#[]⟩, ⟨#[]⟩, ⟨#[]⟩, ⟨#[]⟩, ⟨#[]⟩⟩ : Wp.Rq) = r
    · rw [res_88 r x _ hw hop he hx]
      refine right_88 r _ x _ w hop (fun W => only_88 r x W hop) (fun W _ => ?_)
      have h := hS W
      rw [(fieldsEq_iff _ _).2 he] at h
      exact h
    · have hf : rightW r x (Wp.short bs) = false := by
        rw [Bool.eq_false_iff]
        exact fun h => he (no_88 r x _ hw hop h).1
      rw [hf]
      refine right_no r _ x _ w (fun W => only_88 r x W hop) (fun W _ => ?_)
      have h := hS W
      rw [show fieldsEq ⟨r.op, r.q, 0, 0, 0, 0, 0, 0, 0, ⟨#[]⟩, ⟨#[]⟩, ⟨#[]⟩, ⟨#[]⟩, ⟨#[]⟩⟩ r = false from Bool.eq_false_iff.2 (fun h => he ((fieldsEq_iff _ _).1 h))] at h
      exact h
  · have hf : rightW r x (Wp.short bs) = false := by
      rw [Bool.eq_false_iff]
      exact fun h => hx (no_88 r x _ hw hop h).2
    rw [hf]
    exact right_no r _ x _ w (fun W => only_88 r x W hop) (fun W _ => same_len _ _ _ _ W (fun e => hx e.symm))

theorem res_80 (r : Wp.Rq) (x : Sl) (b : Bool) (hw : Wf r) (hop : r.op.toNat = 80) (he : (⟨r.op, r.q, 0, 0, 0, 0, 0, 0, 0, ⟨#[]⟩, ⟨#[]⟩, ⟨#[]⟩, ⟨#[]⟩, ⟨#[]⟩⟩ : Wp.Rq) = r) (hx : x.n = 0) : rightW r x b = (ltq r) := by
  rw [Bool.eq_iff_iff, right_at r x b hw 15 (by decide) hop]
  have h1 : (erAll { r with op := 0 } (Wp.lay 15) = opR 0) = True := eq_true ((er_80 r).2 he)
  have h2 : ((ebAll x (Wp.lay 15)).n = 0) = True := eq_true (by rw [eb_80]; exact hx)
  have hl : Wp.lay 15 = [0] := rfl
  rw [h1, h2, hl]
  simp only [List.forall_mem_cons, List.not_mem_nil, false_implies, implies_true, and_true, ltq_iff]
  all_goals clear h1 h2 he
  all_goals skip
  all_goals (simp only [ltq, rightQ, Bool.and_eq_true, Bool.or_eq_true, decide_eq_true_eq, beq_iff_eq, bne_iff_ne, ne_eq] <;> omega)
theorem no_80 (r : Wp.Rq) (x : Sl) (b : Bool) (hw : Wf r) (hop : r.op.toNat = 80) (h : rightW r x b = true) : (⟨r.op, r.q, 0, 0, 0, 0, 0, 0, 0, ⟨#[]⟩, ⟨#[]⟩, ⟨#[]⟩, ⟨#[]⟩, ⟨#[]⟩⟩ : Wp.Rq) = r ∧ x.n = 0 := by
  rw [right_at r x b hw 15 (by decide) hop] at h
  exact ⟨(er_80 r).1 h.2.1, h.2.2⟩
theorem any_80 (r : Wp.Rq) (x : Sl) (bs : List ByteArray) (w : World) (hw : Wf r) (hop : r.op.toNat = 80) (hxn : x.n = bs.length) :
    Calls Tryd.prog 62 #[.agg (cellsOf r x.v)] w fun e w' => e = .returned (.bool (rightW r x (Wp.short bs))) ∧ Below w.heap.size w w' := by
  by_cases hx : x.n = 0
  · have hY : ∀ (W : World) (a : Option Addr), Strs W a [] := fun W a j hj => absurd hj (by simp)
    have hS : ∀ W, Calls Tryd.prog 33 #[.agg (cellsOf ⟨r.op, r.q, 0, 0, 0, 0, 0, 0, 0, ⟨#[]⟩, ⟨#[]⟩, ⟨#[]⟩, ⟨#[]⟩, ⟨#[]⟩⟩ (Sl.v ⟨none, 0, 0⟩)), .agg (cellsOf r x.v)] W fun e w' => e = .returned (.bool (fieldsEq ⟨r.op, r.q, 0, 0, 0, 0, 0, 0, 0, ⟨#[]⟩, ⟨#[]⟩, ⟨#[]⟩, ⟨#[]⟩, ⟨#[]⟩⟩ r)) ∧ Below W.heap.size W w' := fun W => by
      have h := same_bs ⟨r.op, r.q, 0, 0, 0, 0, 0, 0, 0, ⟨#[]⟩, ⟨#[]⟩, ⟨#[]⟩, ⟨#[]⟩, ⟨#[]⟩⟩ r none x.a 0 x.c [] W (by decide) (hY W _) (hY W _)
      have e : x.v = .slice x.a 0 x.c := by show Value.slice x.a x.n x.c = _; rw [hx]
      rw [e]
      exact h
    by_cases he : (⟨r.op, r.q, 0, 0, 0, 0, 0, 0, 0, ⟨#[]⟩, ⟨#[]⟩, ⟨#[]⟩, ⟨#[]⟩, ⟨#[]⟩⟩ : Wp.Rq) = r
    · rw [res_80 r x _ hw hop he hx]
      refine right_80 r _ x _ w hop (fun W => only_80 r x W hop) (fun W _ => ?_)
      have h := hS W
      rw [(fieldsEq_iff _ _).2 he] at h
      exact h
    · have hf : rightW r x (Wp.short bs) = false := by
        rw [Bool.eq_false_iff]
        exact fun h => he (no_80 r x _ hw hop h).1
      rw [hf]
      refine right_no r _ x _ w (fun W => only_80 r x W hop) (fun W _ => ?_)
      have h := hS W
      rw [show fieldsEq ⟨r.op, r.q, 0, 0, 0, 0, 0, 0, 0, ⟨#[]⟩, ⟨#[]⟩, ⟨#[]⟩, ⟨#[]⟩, ⟨#[]⟩⟩ r = false from Bool.eq_false_iff.2 (fun h => he ((fieldsEq_iff _ _).1 h))] at h
      exact h
  · have hf : rightW r x (Wp.short bs) = false := by
      rw [Bool.eq_false_iff]
      exact fun h => hx (no_80 r x _ hw hop h).2
    rw [hf]
    exact right_no r _ x _ w (fun W => only_80 r x W hop) (fun W _ => same_len _ _ _ _ W (fun e => hx e.symm))

theorem res_86 (r : Wp.Rq) (x : Sl) (b : Bool) (hw : Wf r) (hop : r.op.toNat = 86) (he : (⟨r.op, r.q, 0, 0, 0, 0, 0, 0, 0, ⟨#[]⟩, ⟨#[]⟩, ⟨#[]⟩, ⟨#[]⟩, ⟨#[]⟩⟩ : Wp.Rq) = r) (hx : x.n = 0) : rightW r x b = (ltq r) := by
  rw [Bool.eq_iff_iff, right_at r x b hw 21 (by decide) hop]
  have h1 : (erAll { r with op := 0 } (Wp.lay 21) = opR 0) = True := eq_true ((er_86 r).2 he)
  have h2 : ((ebAll x (Wp.lay 21)).n = 0) = True := eq_true (by rw [eb_86]; exact hx)
  have hl : Wp.lay 21 = [0] := rfl
  rw [h1, h2, hl]
  simp only [List.forall_mem_cons, List.not_mem_nil, false_implies, implies_true, and_true, ltq_iff]
  all_goals clear h1 h2 he
  all_goals skip
  all_goals (simp only [ltq, rightQ, Bool.and_eq_true, Bool.or_eq_true, decide_eq_true_eq, beq_iff_eq, bne_iff_ne, ne_eq] <;> omega)
theorem no_86 (r : Wp.Rq) (x : Sl) (b : Bool) (hw : Wf r) (hop : r.op.toNat = 86) (h : rightW r x b = true) : (⟨r.op, r.q, 0, 0, 0, 0, 0, 0, 0, ⟨#[]⟩, ⟨#[]⟩, ⟨#[]⟩, ⟨#[]⟩, ⟨#[]⟩⟩ : Wp.Rq) = r ∧ x.n = 0 := by
  rw [right_at r x b hw 21 (by decide) hop] at h
  exact ⟨(er_86 r).1 h.2.1, h.2.2⟩
theorem any_86 (r : Wp.Rq) (x : Sl) (bs : List ByteArray) (w : World) (hw : Wf r) (hop : r.op.toNat = 86) (hxn : x.n = bs.length) :
    Calls Tryd.prog 62 #[.agg (cellsOf r x.v)] w fun e w' => e = .returned (.bool (rightW r x (Wp.short bs))) ∧ Below w.heap.size w w' := by
  by_cases hx : x.n = 0
  · have hY : ∀ (W : World) (a : Option Addr), Strs W a [] := fun W a j hj => absurd hj (by simp)
    have hS : ∀ W, Calls Tryd.prog 33 #[.agg (cellsOf ⟨r.op, r.q, 0, 0, 0, 0, 0, 0, 0, ⟨#[]⟩, ⟨#[]⟩, ⟨#[]⟩, ⟨#[]⟩, ⟨#[]⟩⟩ (Sl.v ⟨none, 0, 0⟩)), .agg (cellsOf r x.v)] W fun e w' => e = .returned (.bool (fieldsEq ⟨r.op, r.q, 0, 0, 0, 0, 0, 0, 0, ⟨#[]⟩, ⟨#[]⟩, ⟨#[]⟩, ⟨#[]⟩, ⟨#[]⟩⟩ r)) ∧ Below W.heap.size W w' := fun W => by
      have h := same_bs ⟨r.op, r.q, 0, 0, 0, 0, 0, 0, 0, ⟨#[]⟩, ⟨#[]⟩, ⟨#[]⟩, ⟨#[]⟩, ⟨#[]⟩⟩ r none x.a 0 x.c [] W (by decide) (hY W _) (hY W _)
      have e : x.v = .slice x.a 0 x.c := by show Value.slice x.a x.n x.c = _; rw [hx]
      rw [e]
      exact h
    by_cases he : (⟨r.op, r.q, 0, 0, 0, 0, 0, 0, 0, ⟨#[]⟩, ⟨#[]⟩, ⟨#[]⟩, ⟨#[]⟩, ⟨#[]⟩⟩ : Wp.Rq) = r
    · rw [res_86 r x _ hw hop he hx]
      refine right_86 r _ x _ w hop (fun W => only_86 r x W hop) (fun W _ => ?_)
      have h := hS W
      rw [(fieldsEq_iff _ _).2 he] at h
      exact h
    · have hf : rightW r x (Wp.short bs) = false := by
        rw [Bool.eq_false_iff]
        exact fun h => he (no_86 r x _ hw hop h).1
      rw [hf]
      refine right_no r _ x _ w (fun W => only_86 r x W hop) (fun W _ => ?_)
      have h := hS W
      rw [show fieldsEq ⟨r.op, r.q, 0, 0, 0, 0, 0, 0, 0, ⟨#[]⟩, ⟨#[]⟩, ⟨#[]⟩, ⟨#[]⟩, ⟨#[]⟩⟩ r = false from Bool.eq_false_iff.2 (fun h => he ((fieldsEq_iff _ _).1 h))] at h
      exact h
  · have hf : rightW r x (Wp.short bs) = false := by
      rw [Bool.eq_false_iff]
      exact fun h => hx (no_86 r x _ hw hop h).2
    rw [hf]
    exact right_no r _ x _ w (fun W => only_86 r x W hop) (fun W _ => same_len _ _ _ _ W (fun e => hx e.symm))

theorem res_83 (r : Wp.Rq) (x : Sl) (b : Bool) (hw : Wf r) (hop : r.op.toNat = 83) (he : (⟨r.op, r.q, 0, 0, 0, 0, 0, 0, 0, r.grp, r.ded, r.bod, ⟨#[]⟩, ⟨#[]⟩⟩ : Wp.Rq) = r) (hx : x.n = 0) : rightW r x b = (ltq r && (decide (1 ≤ (r.grp.size : Int)) && decide ((r.grp.size : Int) ≤ 8)) && (decide (r.ded.size ≤ 8) && Wp.dedOk r.ded) && decide ((r.bod.size : Int) ≤ 255)) := by
  rw [Bool.eq_iff_iff, right_at r x b hw 18 (by decide) hop]
  have n9 : r.fits x.n b 9 = true ↔ 1 ≤ (r.grp.size : Int) ∧ (r.grp.size : Int) ≤ 8 := fits_num r x.n b 9 (by decide) (by decide) (by decide)
  have n11 : r.fits x.n b 11 = true ↔ 0 ≤ (r.bod.size : Int) ∧ (r.bod.size : Int) ≤ 255 := fits_num r x.n b 11 (by decide) (by decide) (by decide)
  have h1 : (erAll { r with op := 0 } (Wp.lay 18) = opR 0) = True := eq_true ((er_83 r).2 he)
  have h2 : ((ebAll x (Wp.lay 18)).n = 0) = True := eq_true (by rw [eb_83]; exact hx)
  have hl : Wp.lay 18 = [0, 9, 10, 11] := rfl
  rw [h1, h2, hl]
  simp only [List.forall_mem_cons, List.not_mem_nil, false_implies, implies_true, and_true, n9, n11, ltq_iff, fits_ded]
  all_goals clear h1 h2 he
  generalize Wp.dedOk r.ded = dk
  cases dk <;> (simp [ltq]; try omega)
theorem no_83 (r : Wp.Rq) (x : Sl) (b : Bool) (hw : Wf r) (hop : r.op.toNat = 83) (h : rightW r x b = true) : (⟨r.op, r.q, 0, 0, 0, 0, 0, 0, 0, r.grp, r.ded, r.bod, ⟨#[]⟩, ⟨#[]⟩⟩ : Wp.Rq) = r ∧ x.n = 0 := by
  rw [right_at r x b hw 18 (by decide) hop] at h
  exact ⟨(er_83 r).1 h.2.1, h.2.2⟩
theorem any_83 (r : Wp.Rq) (x : Sl) (bs : List ByteArray) (w : World) (hw : Wf r) (hop : r.op.toNat = 83) (hxn : x.n = bs.length) :
    Calls Tryd.prog 62 #[.agg (cellsOf r x.v)] w fun e w' => e = .returned (.bool (rightW r x (Wp.short bs))) ∧ Below w.heap.size w w' := by
  by_cases hx : x.n = 0
  · have hY : ∀ (W : World) (a : Option Addr), Strs W a [] := fun W a j hj => absurd hj (by simp)
    have hS : ∀ W, Calls Tryd.prog 33 #[.agg (cellsOf ⟨r.op, r.q, 0, 0, 0, 0, 0, 0, 0, r.grp, r.ded, r.bod, ⟨#[]⟩, ⟨#[]⟩⟩ (Sl.v ⟨none, 0, 0⟩)), .agg (cellsOf r x.v)] W fun e w' => e = .returned (.bool (fieldsEq ⟨r.op, r.q, 0, 0, 0, 0, 0, 0, 0, r.grp, r.ded, r.bod, ⟨#[]⟩, ⟨#[]⟩⟩ r)) ∧ Below W.heap.size W w' := fun W => by
      have h := same_bs ⟨r.op, r.q, 0, 0, 0, 0, 0, 0, 0, r.grp, r.ded, r.bod, ⟨#[]⟩, ⟨#[]⟩⟩ r none x.a 0 x.c [] W (by decide) (hY W _) (hY W _)
      have e : x.v = .slice x.a 0 x.c := by show Value.slice x.a x.n x.c = _; rw [hx]
      rw [e]
      exact h
    by_cases he : (⟨r.op, r.q, 0, 0, 0, 0, 0, 0, 0, r.grp, r.ded, r.bod, ⟨#[]⟩, ⟨#[]⟩⟩ : Wp.Rq) = r
    · rw [res_83 r x _ hw hop he hx]
      refine right_83 r _ x _ w hop (fun W => only_83 r x W hop) (fun W _ => ?_)
      have h := hS W
      rw [(fieldsEq_iff _ _).2 he] at h
      exact h
    · have hf : rightW r x (Wp.short bs) = false := by
        rw [Bool.eq_false_iff]
        exact fun h => he (no_83 r x _ hw hop h).1
      rw [hf]
      refine right_no r _ x _ w (fun W => only_83 r x W hop) (fun W _ => ?_)
      have h := hS W
      rw [show fieldsEq ⟨r.op, r.q, 0, 0, 0, 0, 0, 0, 0, r.grp, r.ded, r.bod, ⟨#[]⟩, ⟨#[]⟩⟩ r = false from Bool.eq_false_iff.2 (fun h => he ((fieldsEq_iff _ _).1 h))] at h
      exact h
  · have hf : rightW r x (Wp.short bs) = false := by
      rw [Bool.eq_false_iff]
      exact fun h => hx (no_83 r x _ hw hop h).2
    rw [hf]
    exact right_no r _ x _ w (fun W => only_83 r x W hop) (fun W _ => same_len _ _ _ _ W (fun e => hx e.symm))

theorem res_82 (r : Wp.Rq) (x : Sl) (b : Bool) (hw : Wf r) (hop : r.op.toNat = 82) (he : (⟨r.op, r.q, 0, 0, 0, 0, 0, r.mx, 0, ⟨#[]⟩, ⟨#[]⟩, ⟨#[]⟩, r.att, ⟨#[]⟩⟩ : Wp.Rq) = r) (hx : x.n = 0) : rightW r x b = ((ltq r && (decide (1 ≤ r.mx) && decide (r.mx ≤ 10)) && decide ((r.att.size : Int) ≤ 8))) := by
  rw [Bool.eq_iff_iff, right_at r x b hw 17 (by decide) hop]
  have n12 : r.fits x.n b 12 = true ↔ 0 ≤ (r.att.size : Int) ∧ (r.att.size : Int) ≤ 8 := fits_num r x.n b 12 (by decide) (by decide) (by decide)
  have n6 : r.fits x.n b 6 = true ↔ 1 ≤ r.mx ∧ r.mx ≤ 10 := fits_num r x.n b 6 (by decide) (by decide) (by decide)
  have h1 : (erAll { r with op := 0 } (Wp.lay 17) = opR 0) = True := eq_true ((er_82 r).2 he)
  have h2 : ((ebAll x (Wp.lay 17)).n = 0) = True := eq_true (by rw [eb_82]; exact hx)
  have hl : Wp.lay 17 = [0, 12, 6] := rfl
  rw [h1, h2, hl]
  simp only [List.forall_mem_cons, List.not_mem_nil, false_implies, implies_true, and_true, n12, n6, ltq_iff]
  all_goals clear h1 h2 he
  all_goals skip
  all_goals (simp only [ltq, rightQ, Bool.and_eq_true, Bool.or_eq_true, decide_eq_true_eq, beq_iff_eq, bne_iff_ne, ne_eq] <;> omega)
theorem no_82 (r : Wp.Rq) (x : Sl) (b : Bool) (hw : Wf r) (hop : r.op.toNat = 82) (h : rightW r x b = true) : (⟨r.op, r.q, 0, 0, 0, 0, 0, r.mx, 0, ⟨#[]⟩, ⟨#[]⟩, ⟨#[]⟩, r.att, ⟨#[]⟩⟩ : Wp.Rq) = r ∧ x.n = 0 := by
  rw [right_at r x b hw 17 (by decide) hop] at h
  exact ⟨(er_82 r).1 h.2.1, h.2.2⟩
theorem any_82 (r : Wp.Rq) (x : Sl) (bs : List ByteArray) (w : World) (hw : Wf r) (hop : r.op.toNat = 82) (hxn : x.n = bs.length) :
    Calls Tryd.prog 62 #[.agg (cellsOf r x.v)] w fun e w' => e = .returned (.bool (rightW r x (Wp.short bs))) ∧ Below w.heap.size w w' := by
  by_cases hx : x.n = 0
  · have hY : ∀ (W : World) (a : Option Addr), Strs W a [] := fun W a j hj => absurd hj (by simp)
    have hS : ∀ W, Calls Tryd.prog 33 #[.agg (cellsOf ⟨r.op, r.q, 0, 0, 0, 0, 0, r.mx, 0, ⟨#[]⟩, ⟨#[]⟩, ⟨#[]⟩, r.att, ⟨#[]⟩⟩ (Sl.v ⟨none, 0, 0⟩)), .agg (cellsOf r x.v)] W fun e w' => e = .returned (.bool (fieldsEq ⟨r.op, r.q, 0, 0, 0, 0, 0, r.mx, 0, ⟨#[]⟩, ⟨#[]⟩, ⟨#[]⟩, r.att, ⟨#[]⟩⟩ r)) ∧ Below W.heap.size W w' := fun W => by
      have h := same_bs ⟨r.op, r.q, 0, 0, 0, 0, 0, r.mx, 0, ⟨#[]⟩, ⟨#[]⟩, ⟨#[]⟩, r.att, ⟨#[]⟩⟩ r none x.a 0 x.c [] W (by decide) (hY W _) (hY W _)
      have e : x.v = .slice x.a 0 x.c := by show Value.slice x.a x.n x.c = _; rw [hx]
      rw [e]
      exact h
    by_cases he : (⟨r.op, r.q, 0, 0, 0, 0, 0, r.mx, 0, ⟨#[]⟩, ⟨#[]⟩, ⟨#[]⟩, r.att, ⟨#[]⟩⟩ : Wp.Rq) = r
    · rw [res_82 r x _ hw hop he hx]
      refine right_82 r _ x _ w hop (fun W => only_82 r x W hop) (fun W _ => ?_)
      have h := hS W
      rw [(fieldsEq_iff _ _).2 he] at h
      exact h
    · have hf : rightW r x (Wp.short bs) = false := by
        rw [Bool.eq_false_iff]
        exact fun h => he (no_82 r x _ hw hop h).1
      rw [hf]
      refine right_no r _ x _ w (fun W => only_82 r x W hop) (fun W _ => ?_)
      have h := hS W
      rw [show fieldsEq ⟨r.op, r.q, 0, 0, 0, 0, 0, r.mx, 0, ⟨#[]⟩, ⟨#[]⟩, ⟨#[]⟩, r.att, ⟨#[]⟩⟩ r = false from Bool.eq_false_iff.2 (fun h => he ((fieldsEq_iff _ _).1 h))] at h
      exact h
  · have hf : rightW r x (Wp.short bs) = false := by
      rw [Bool.eq_false_iff]
      exact fun h => hx (no_82 r x _ hw hop h).2
    rw [hf]
    exact right_no r _ x _ w (fun W => only_82 r x W hop) (fun W _ => same_len _ _ _ _ W (fun e => hx e.symm))

theorem res_65 (r : Wp.Rq) (x : Sl) (b : Bool) (hw : Wf r) (hop : r.op.toNat = 65) (he : (⟨r.op, 0, 0, 0, 0, 0, 0, 0, 0, ⟨#[]⟩, ⟨#[]⟩, ⟨#[]⟩, ⟨#[]⟩, r.han⟩ : Wp.Rq) = r) (hx : x.n = 0) : rightW r x b = (decide ((r.han.size : Int) ≤ 255)) := by
  rw [Bool.eq_iff_iff, right_at r x b hw 0 (by decide) hop]
  have n13 : r.fits x.n b 13 = true ↔ 0 ≤ (r.han.size : Int) ∧ (r.han.size : Int) ≤ 255 := fits_num r x.n b 13 (by decide) (by decide) (by decide)
  have h1 : (erAll { r with op := 0 } (Wp.lay 0) = opR 0) = True := eq_true ((er_65 r).2 he)
  have h2 : ((ebAll x (Wp.lay 0)).n = 0) = True := eq_true (by rw [eb_65]; exact hx)
  have hl : Wp.lay 0 = [13] := rfl
  rw [h1, h2, hl]
  simp only [List.forall_mem_cons, List.not_mem_nil, false_implies, implies_true, and_true, n13]
  all_goals clear h1 h2 he
  all_goals skip
  all_goals (simp only [ltq, rightQ, Bool.and_eq_true, Bool.or_eq_true, decide_eq_true_eq, beq_iff_eq, bne_iff_ne, ne_eq] <;> omega)
theorem no_65 (r : Wp.Rq) (x : Sl) (b : Bool) (hw : Wf r) (hop : r.op.toNat = 65) (h : rightW r x b = true) : (⟨r.op, 0, 0, 0, 0, 0, 0, 0, 0, ⟨#[]⟩, ⟨#[]⟩, ⟨#[]⟩, ⟨#[]⟩, r.han⟩ : Wp.Rq) = r ∧ x.n = 0 := by
  rw [right_at r x b hw 0 (by decide) hop] at h
  exact ⟨(er_65 r).1 h.2.1, h.2.2⟩
theorem any_65 (r : Wp.Rq) (x : Sl) (bs : List ByteArray) (w : World) (hw : Wf r) (hop : r.op.toNat = 65) (hxn : x.n = bs.length) :
    Calls Tryd.prog 62 #[.agg (cellsOf r x.v)] w fun e w' => e = .returned (.bool (rightW r x (Wp.short bs))) ∧ Below w.heap.size w w' := by
  by_cases hx : x.n = 0
  · have hY : ∀ (W : World) (a : Option Addr), Strs W a [] := fun W a j hj => absurd hj (by simp)
    have hS : ∀ W, Calls Tryd.prog 33 #[.agg (cellsOf ⟨r.op, 0, 0, 0, 0, 0, 0, 0, 0, ⟨#[]⟩, ⟨#[]⟩, ⟨#[]⟩, ⟨#[]⟩, r.han⟩ (Sl.v ⟨none, 0, 0⟩)), .agg (cellsOf r x.v)] W fun e w' => e = .returned (.bool (fieldsEq ⟨r.op, 0, 0, 0, 0, 0, 0, 0, 0, ⟨#[]⟩, ⟨#[]⟩, ⟨#[]⟩, ⟨#[]⟩, r.han⟩ r)) ∧ Below W.heap.size W w' := fun W => by
      have h := same_bs ⟨r.op, 0, 0, 0, 0, 0, 0, 0, 0, ⟨#[]⟩, ⟨#[]⟩, ⟨#[]⟩, ⟨#[]⟩, r.han⟩ r none x.a 0 x.c [] W (by decide) (hY W _) (hY W _)
      have e : x.v = .slice x.a 0 x.c := by show Value.slice x.a x.n x.c = _; rw [hx]
      rw [e]
      exact h
    by_cases he : (⟨r.op, 0, 0, 0, 0, 0, 0, 0, 0, ⟨#[]⟩, ⟨#[]⟩, ⟨#[]⟩, ⟨#[]⟩, r.han⟩ : Wp.Rq) = r
    · rw [res_65 r x _ hw hop he hx]
      refine right_65 r _ x _ w hop (fun W => only_65 r x W hop) (fun W _ => ?_)
      have h := hS W
      rw [(fieldsEq_iff _ _).2 he] at h
      exact h
    · have hf : rightW r x (Wp.short bs) = false := by
        rw [Bool.eq_false_iff]
        exact fun h => he (no_65 r x _ hw hop h).1
      rw [hf]
      refine right_no r _ x _ w (fun W => only_65 r x W hop) (fun W _ => ?_)
      have h := hS W
      rw [show fieldsEq ⟨r.op, 0, 0, 0, 0, 0, 0, 0, 0, ⟨#[]⟩, ⟨#[]⟩, ⟨#[]⟩, ⟨#[]⟩, r.han⟩ r = false from Bool.eq_false_iff.2 (fun h => he ((fieldsEq_iff _ _).1 h))] at h
      exact h
  · have hf : rightW r x (Wp.short bs) = false := by
      rw [Bool.eq_false_iff]
      exact fun h => hx (no_65 r x _ hw hop h).2
    rw [hf]
    exact right_no r _ x _ w (fun W => only_65 r x W hop) (fun W _ => same_len _ _ _ _ W (fun e => hx e.symm))

theorem res_69 (r : Wp.Rq) (x : Sl) (b : Bool) (hw : Wf r) (hop : r.op.toNat = 69) (he : (⟨r.op, 0, 0, 0, 0, 0, 0, 0, r.tic, ⟨#[]⟩, ⟨#[]⟩, ⟨#[]⟩, ⟨#[]⟩, r.han⟩ : Wp.Rq) = r) (hx : x.n = 0) : rightW r x b = (((decide (0 ≤ r.tic) && decide (r.tic ≤ 1000)) && decide ((r.han.size : Int) ≤ 255))) := by
  rw [Bool.eq_iff_iff, right_at r x b hw 4 (by decide) hop]
  have n13 : r.fits x.n b 13 = true ↔ 0 ≤ (r.han.size : Int) ∧ (r.han.size : Int) ≤ 255 := fits_num r x.n b 13 (by decide) (by decide) (by decide)
  have n7 : r.fits x.n b 7 = true ↔ 0 ≤ r.tic ∧ r.tic ≤ 1000 := fits_num r x.n b 7 (by decide) (by decide) (by decide)
  have h1 : (erAll { r with op := 0 } (Wp.lay 4) = opR 0) = True := eq_true ((er_69 r).2 he)
  have h2 : ((ebAll x (Wp.lay 4)).n = 0) = True := eq_true (by rw [eb_69]; exact hx)
  have hl : Wp.lay 4 = [13, 7] := rfl
  rw [h1, h2, hl]
  simp only [List.forall_mem_cons, List.not_mem_nil, false_implies, implies_true, and_true, n13, n7]
  all_goals clear h1 h2 he
  all_goals skip
  all_goals (simp only [ltq, rightQ, Bool.and_eq_true, Bool.or_eq_true, decide_eq_true_eq, beq_iff_eq, bne_iff_ne, ne_eq] <;> omega)
theorem no_69 (r : Wp.Rq) (x : Sl) (b : Bool) (hw : Wf r) (hop : r.op.toNat = 69) (h : rightW r x b = true) : (⟨r.op, 0, 0, 0, 0, 0, 0, 0, r.tic, ⟨#[]⟩, ⟨#[]⟩, ⟨#[]⟩, ⟨#[]⟩, r.han⟩ : Wp.Rq) = r ∧ x.n = 0 := by
  rw [right_at r x b hw 4 (by decide) hop] at h
  exact ⟨(er_69 r).1 h.2.1, h.2.2⟩
theorem any_69 (r : Wp.Rq) (x : Sl) (bs : List ByteArray) (w : World) (hw : Wf r) (hop : r.op.toNat = 69) (hxn : x.n = bs.length) :
    Calls Tryd.prog 62 #[.agg (cellsOf r x.v)] w fun e w' => e = .returned (.bool (rightW r x (Wp.short bs))) ∧ Below w.heap.size w w' := by
  by_cases hx : x.n = 0
  · have hY : ∀ (W : World) (a : Option Addr), Strs W a [] := fun W a j hj => absurd hj (by simp)
    have hS : ∀ W, Calls Tryd.prog 33 #[.agg (cellsOf ⟨r.op, 0, 0, 0, 0, 0, 0, 0, r.tic, ⟨#[]⟩, ⟨#[]⟩, ⟨#[]⟩, ⟨#[]⟩, r.han⟩ (Sl.v ⟨none, 0, 0⟩)), .agg (cellsOf r x.v)] W fun e w' => e = .returned (.bool (fieldsEq ⟨r.op, 0, 0, 0, 0, 0, 0, 0, r.tic, ⟨#[]⟩, ⟨#[]⟩, ⟨#[]⟩, ⟨#[]⟩, r.han⟩ r)) ∧ Below W.heap.size W w' := fun W => by
      have h := same_bs ⟨r.op, 0, 0, 0, 0, 0, 0, 0, r.tic, ⟨#[]⟩, ⟨#[]⟩, ⟨#[]⟩, ⟨#[]⟩, r.han⟩ r none x.a 0 x.c [] W (by decide) (hY W _) (hY W _)
      have e : x.v = .slice x.a 0 x.c := by show Value.slice x.a x.n x.c = _; rw [hx]
      rw [e]
      exact h
    by_cases he : (⟨r.op, 0, 0, 0, 0, 0, 0, 0, r.tic, ⟨#[]⟩, ⟨#[]⟩, ⟨#[]⟩, ⟨#[]⟩, r.han⟩ : Wp.Rq) = r
    · rw [res_69 r x _ hw hop he hx]
      refine right_69 r _ x _ w hop (fun W => only_69 r x W hop) (fun W _ => ?_)
      have h := hS W
      rw [(fieldsEq_iff _ _).2 he] at h
      exact h
    · have hf : rightW r x (Wp.short bs) = false := by
        rw [Bool.eq_false_iff]
        exact fun h => he (no_69 r x _ hw hop h).1
      rw [hf]
      refine right_no r _ x _ w (fun W => only_69 r x W hop) (fun W _ => ?_)
      have h := hS W
      rw [show fieldsEq ⟨r.op, 0, 0, 0, 0, 0, 0, 0, r.tic, ⟨#[]⟩, ⟨#[]⟩, ⟨#[]⟩, ⟨#[]⟩, r.han⟩ r = false from Bool.eq_false_iff.2 (fun h => he ((fieldsEq_iff _ _).1 h))] at h
      exact h
  · have hf : rightW r x (Wp.short bs) = false := by
      rw [Bool.eq_false_iff]
      exact fun h => hx (no_69 r x _ hw hop h).2
    rw [hf]
    exact right_no r _ x _ w (fun W => only_69 r x W hop) (fun W _ => same_len _ _ _ _ W (fun e => hx e.symm))

theorem res_84 (r : Wp.Rq) (x : Sl) (b : Bool) (hw : Wf r) (hop : r.op.toNat = 84) (he : (⟨r.op, 0, 0, 0, 0, 0, 0, 0, r.tic, ⟨#[]⟩, ⟨#[]⟩, ⟨#[]⟩, ⟨#[]⟩, ⟨#[]⟩⟩ : Wp.Rq) = r) (hx : x.n = 0) : rightW r x b = ((decide (1 ≤ r.tic) && decide (r.tic ≤ 1000))) := by
  rw [Bool.eq_iff_iff, right_at r x b hw 19 (by decide) hop]
  have n8 : r.fits x.n b 8 = true ↔ 1 ≤ r.tic ∧ r.tic ≤ 1000 := fits_num r x.n b 8 (by decide) (by decide) (by decide)
  have h1 : (erAll { r with op := 0 } (Wp.lay 19) = opR 0) = True := eq_true ((er_84 r).2 he)
  have h2 : ((ebAll x (Wp.lay 19)).n = 0) = True := eq_true (by rw [eb_84]; exact hx)
  have hl : Wp.lay 19 = [8] := rfl
  rw [h1, h2, hl]
  simp only [List.forall_mem_cons, List.not_mem_nil, false_implies, implies_true, and_true, n8]
  all_goals clear h1 h2 he
  all_goals skip
  all_goals (simp only [ltq, rightQ, Bool.and_eq_true, Bool.or_eq_true, decide_eq_true_eq, beq_iff_eq, bne_iff_ne, ne_eq] <;> omega)
theorem no_84 (r : Wp.Rq) (x : Sl) (b : Bool) (hw : Wf r) (hop : r.op.toNat = 84) (h : rightW r x b = true) : (⟨r.op, 0, 0, 0, 0, 0, 0, 0, r.tic, ⟨#[]⟩, ⟨#[]⟩, ⟨#[]⟩, ⟨#[]⟩, ⟨#[]⟩⟩ : Wp.Rq) = r ∧ x.n = 0 := by
  rw [right_at r x b hw 19 (by decide) hop] at h
  exact ⟨(er_84 r).1 h.2.1, h.2.2⟩
theorem any_84 (r : Wp.Rq) (x : Sl) (bs : List ByteArray) (w : World) (hw : Wf r) (hop : r.op.toNat = 84) (hxn : x.n = bs.length) :
    Calls Tryd.prog 62 #[.agg (cellsOf r x.v)] w fun e w' => e = .returned (.bool (rightW r x (Wp.short bs))) ∧ Below w.heap.size w w' := by
  by_cases hx : x.n = 0
  · have hY : ∀ (W : World) (a : Option Addr), Strs W a [] := fun W a j hj => absurd hj (by simp)
    have hS : ∀ W, Calls Tryd.prog 33 #[.agg (cellsOf ⟨r.op, 0, 0, 0, 0, 0, 0, 0, r.tic, ⟨#[]⟩, ⟨#[]⟩, ⟨#[]⟩, ⟨#[]⟩, ⟨#[]⟩⟩ (Sl.v ⟨none, 0, 0⟩)), .agg (cellsOf r x.v)] W fun e w' => e = .returned (.bool (fieldsEq ⟨r.op, 0, 0, 0, 0, 0, 0, 0, r.tic, ⟨#[]⟩, ⟨#[]⟩, ⟨#[]⟩, ⟨#[]⟩, ⟨#[]⟩⟩ r)) ∧ Below W.heap.size W w' := fun W => by
      have h := same_bs ⟨r.op, 0, 0, 0, 0, 0, 0, 0, r.tic, ⟨#[]⟩, ⟨#[]⟩, ⟨#[]⟩, ⟨#[]⟩, ⟨#[]⟩⟩ r none x.a 0 x.c [] W (by decide) (hY W _) (hY W _)
      have e : x.v = .slice x.a 0 x.c := by show Value.slice x.a x.n x.c = _; rw [hx]
      rw [e]
      exact h
    by_cases he : (⟨r.op, 0, 0, 0, 0, 0, 0, 0, r.tic, ⟨#[]⟩, ⟨#[]⟩, ⟨#[]⟩, ⟨#[]⟩, ⟨#[]⟩⟩ : Wp.Rq) = r
    · rw [res_84 r x _ hw hop he hx]
      refine right_84 r _ x _ w hop (fun W => only_84 r x W hop) (fun W _ => ?_)
      have h := hS W
      rw [(fieldsEq_iff _ _).2 he] at h
      exact h
    · have hf : rightW r x (Wp.short bs) = false := by
        rw [Bool.eq_false_iff]
        exact fun h => he (no_84 r x _ hw hop h).1
      rw [hf]
      refine right_no r _ x _ w (fun W => only_84 r x W hop) (fun W _ => ?_)
      have h := hS W
      rw [show fieldsEq ⟨r.op, 0, 0, 0, 0, 0, 0, 0, r.tic, ⟨#[]⟩, ⟨#[]⟩, ⟨#[]⟩, ⟨#[]⟩, ⟨#[]⟩⟩ r = false from Bool.eq_false_iff.2 (fun h => he ((fieldsEq_iff _ _).1 h))] at h
      exact h
  · have hf : rightW r x (Wp.short bs) = false := by
      rw [Bool.eq_false_iff]
      exact fun h => hx (no_84 r x _ hw hop h).2
    rw [hf]
    exact right_no r _ x _ w (fun W => only_84 r x W hop) (fun W _ => same_len _ _ _ _ W (fun e => hx e.symm))

theorem any_66 (r : Wp.Rq) (x : Sl) (bs : List ByteArray) (w : World) (hw : Wf r) (hop : r.op.toNat = 66) (hxn : x.n = bs.length) (hb : bs.length ≤ 8796093022208) (hbs : ∀ s ∈ bs, s.size ≤ maxLen) (hS : Strs w x.a bs) :
    Calls Tryd.prog 62 #[.agg (cellsOf r x.v)] w fun e w' => e = .returned (.bool (rightW r x (Wp.short bs))) ∧ Below w.heap.size w w' := by
  have hSm : ∀ W, Below w.heap.size w W → Calls Tryd.prog 33 #[.agg (cellsOf ⟨r.op, 0, 0, 0, 0, 0, 0, 0, 0, ⟨#[]⟩, ⟨#[]⟩, ⟨#[]⟩, ⟨#[]⟩, ⟨#[]⟩⟩ x.v), .agg (cellsOf r x.v)] W fun e w' => e = .returned (.bool (fieldsEq ⟨r.op, 0, 0, 0, 0, 0, 0, 0, 0, ⟨#[]⟩, ⟨#[]⟩, ⟨#[]⟩, ⟨#[]⟩, ⟨#[]⟩⟩ r)) ∧ Below W.heap.size W w' := fun W hW => by
    have h := same_bs ⟨r.op, 0, 0, 0, 0, 0, 0, 0, 0, ⟨#[]⟩, ⟨#[]⟩, ⟨#[]⟩, ⟨#[]⟩, ⟨#[]⟩⟩ r x.a x.a x.c x.c bs W hb (hS.below hW) (hS.below hW)
    have e : x.v = .slice x.a bs.length x.c := by show Value.slice x.a x.n x.c = _; rw [hxn]
    rw [e]
    exact h
  by_cases he : (⟨r.op, 0, 0, 0, 0, 0, 0, 0, 0, ⟨#[]⟩, ⟨#[]⟩, ⟨#[]⟩, ⟨#[]⟩, ⟨#[]⟩⟩ : Wp.Rq) = r
  · have hr : rightW r x (Wp.short bs) = (Wp.short bs && (decide (1 ≤ bs.length) && decide (bs.length ≤ 10))) := by
      rw [Bool.eq_iff_iff, right_at r x _ hw 1 (by decide) hop]
      have h1 : (erAll { r with op := 0 } (Wp.lay 1) = opR 0) = True := eq_true ((er_66 r).2 he)
      have h2 : ((ebAll x (Wp.lay 1)).n = 0) = True := eq_true (eb_66 x)
      have hl : Wp.lay 1 = [14] := rfl
      rw [h1, h2, hl]
      simp only [List.forall_mem_cons, List.not_mem_nil, false_implies, implies_true, and_true, fits_bat, hxn, Bool.and_eq_true, decide_eq_true_eq]
      exact and_comm
    rw [hr]
    refine right_66 r _ x _ w bs hop hxn hb hbs hS (fun W => only_66 r x W hop) (fun W hW => ?_)
    have h := hSm W hW
    rw [(fieldsEq_iff _ _).2 he] at h
    exact h
  · have hf : rightW r x (Wp.short bs) = false := by
      rw [Bool.eq_false_iff]
      intro h
      rw [right_at r x _ hw 1 (by decide) hop] at h
      exact he ((er_66 r).1 h.2.1)
    rw [hf]
    refine right_no r _ x _ w (fun W => only_66 r x W hop) (fun W hW => ?_)
    have h := hSm W hW
    rw [show fieldsEq ⟨r.op, 0, 0, 0, 0, 0, 0, 0, 0, ⟨#[]⟩, ⟨#[]⟩, ⟨#[]⟩, ⟨#[]⟩, ⟨#[]⟩⟩ r = false from Bool.eq_false_iff.2 (fun h => he ((fieldsEq_iff _ _).1 h))] at h
    exact h
theorem any_none (r : Wp.Rq) (x : Sl) (bs : List ByteArray) (w : World) (hw : Wf r) (hxn : x.n = bs.length) (h : r.op.toNat ≠ 67 ∧ r.op.toNat ≠ 88 ∧ r.op.toNat ≠ 80 ∧ r.op.toNat ≠ 86 ∧ r.op.toNat ≠ 83 ∧ r.op.toNat ≠ 82 ∧ r.op.toNat ≠ 65 ∧ r.op.toNat ≠ 69 ∧ r.op.toNat ≠ 84 ∧ r.op.toNat ≠ 66) :
    Calls Tryd.prog 62 #[.agg (cellsOf r x.v)] w fun e w' => e = .returned (.bool (rightW r x (Wp.short bs))) ∧ Below w.heap.size w w' := by
  have hf : rightW r x (Wp.short bs) = false := by
    rw [Bool.eq_false_iff]
    intro hr
    obtain ⟨i, hi, he, _⟩ := (right_iff r x _ hw).1 hr
    simp only [opsAt, List.mem_cons, List.not_mem_nil, or_false] at hi
    omega
  rw [hf]
  have ho := fun W => only_none r x W r.op.toNat rfl h
  by_cases hx : x.n = 0
  · have hY : ∀ (W : World) (a : Option Addr), Strs W a [] := fun W a j hj => absurd hj (by simp)
    have hS : ∀ W, Calls Tryd.prog 33 #[.agg (cellsOf ⟨r.op, 0, 0, 0, 0, 0, 0, 0, 0, ⟨#[]⟩, ⟨#[]⟩, ⟨#[]⟩, ⟨#[]⟩, ⟨#[]⟩⟩ (Sl.v ⟨none, 0, 0⟩)), .agg (cellsOf r x.v)] W fun e w' => e = .returned (.bool (fieldsEq ⟨r.op, 0, 0, 0, 0, 0, 0, 0, 0, ⟨#[]⟩, ⟨#[]⟩, ⟨#[]⟩, ⟨#[]⟩, ⟨#[]⟩⟩ r)) ∧ Below W.heap.size W w' := fun W => by
      have h := same_bs ⟨r.op, 0, 0, 0, 0, 0, 0, 0, 0, ⟨#[]⟩, ⟨#[]⟩, ⟨#[]⟩, ⟨#[]⟩, ⟨#[]⟩⟩ r none x.a 0 x.c [] W (by decide) (hY W _) (hY W _)
      have e : x.v = .slice x.a 0 x.c := by show Value.slice x.a x.n x.c = _; rw [hx]
      rw [e]
      exact h
    cases hq : fieldsEq ⟨r.op, 0, 0, 0, 0, 0, 0, 0, 0, ⟨#[]⟩, ⟨#[]⟩, ⟨#[]⟩, ⟨#[]⟩, ⟨#[]⟩⟩ r with
    | true =>
      rw [hq] at hS
      exact right_none r _ x _ w r.op.toNat rfl h ho (fun W _ => hS W)
    | false =>
      rw [hq] at hS
      exact right_no r _ x _ w ho (fun W _ => hS W)
  · exact right_no r _ x _ w ho (fun W _ => same_len _ _ _ _ W (fun e => hx e.symm))
theorem right_any (r : Wp.Rq) (x : Sl) (bs : List ByteArray) (w : World) (hw : Wf r) (hxn : x.n = bs.length) (hb : bs.length ≤ 8796093022208) (hbs : ∀ s ∈ bs, s.size ≤ maxLen) (hS : Strs w x.a bs) :
    Calls Tryd.prog 62 #[.agg (cellsOf r x.v)] w fun e w' => e = .returned (.bool (rightW r x (Wp.short bs))) ∧ Below w.heap.size w w' := by
  by_cases h67 : r.op.toNat = 67
  · exact any_67 r x bs w hw h67 hxn
  by_cases h88 : r.op.toNat = 88
  · exact any_88 r x bs w hw h88 hxn
  by_cases h80 : r.op.toNat = 80
  · exact any_80 r x bs w hw h80 hxn
  by_cases h86 : r.op.toNat = 86
  · exact any_86 r x bs w hw h86 hxn
  by_cases h83 : r.op.toNat = 83
  · exact any_83 r x bs w hw h83 hxn
  by_cases h82 : r.op.toNat = 82
  · exact any_82 r x bs w hw h82 hxn
  by_cases h65 : r.op.toNat = 65
  · exact any_65 r x bs w hw h65 hxn
  by_cases h69 : r.op.toNat = 69
  · exact any_69 r x bs w hw h69 hxn
  by_cases h84 : r.op.toNat = 84
  · exact any_84 r x bs w hw h84 hxn
  by_cases h66 : r.op.toNat = 66
  · exact any_66 r x bs w hw h66 hxn hb hbs hS
  exact any_none r x bs w hw hxn ⟨h67, h88, h80, h86, h83, h82, h65, h69, h84, h66⟩
end Go.Proofs.YtbdobaapadlcjaaDoor.Ref
