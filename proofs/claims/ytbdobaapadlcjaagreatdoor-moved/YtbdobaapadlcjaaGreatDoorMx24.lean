/-
  slices.DeleteFunc at the messages of a group (291).
-/
import Derived.Test.YtbdobaapadlcjaaGreatDoorMx23
namespace Go.Proofs.YtbdobaapadlcjaaGreatDoor
open Go.Shelf Go.RowKit Go.Lib
set_option linter.unusedVariables false
set_option linter.unusedSimpArgs false

theorem delm_pred (gr : ByteArray) (B : Nat) (w : World) (hB : B < w.heap.size) (hcell : w.cell? ⟨B, 0, none⟩ = some (.string gr)) :
    PredBelow Tryz.prog 292 #[.pointer (some ⟨B, 0, none⟩)] (fun x : Ms => .agg x.row.toArray) (isG gr) w := fun W x hb => by
  have hc : W.cell? ⟨B, 0, none⟩ = some (.string gr) := (hb.cell (p := ⟨B, 0, none⟩) hB).trans hcell
  have hBW : B < W.heap.size := Nat.lt_of_lt_of_le hB hb.size
  have hne : B ≠ W.heap.size := by omega
  show Calls Tryz.prog 292 #[.agg #[.int .i64 x.num, .string x.grp, .string x.bod, .int .i64 x.rcv, .int .i64 x.til], .pointer (some ⟨B, 0, none⟩)] W _
  go_enter Tryz.func292, Tryz.ntmps292
  go_wp2
  all_goals (go_ret; exact ⟨by simp_all, hb.alloc hb.size _⟩)
theorem eg292 : ∀ args w, (callFunc 292 args).run Tryz.prog w = .ok (.enter 292 args) w := enters_of Tryz.func292 (by kernel_rfl) rfl
theorem idx_delM (v : Value) (l : List Ms) (gr : ByteArray) (B : Nat) (w : World) (ho : w.ownsRow 0 226 5 v l.length (l.flatMap Ms.row)) (hl : l.length ≤ 1000000) (hB : B < w.heap.size) (hcell : w.cell? ⟨B, 0, none⟩ = some (.string gr)) :
    Calls Tryz.prog 264 #[v, .func (.func 292) #[] #[.pointer (some ⟨B, 0, none⟩)]] w fun e w' => e = .returned (.int .i64 (idxL (isG gr) l)) ∧ Below w.heap.size w w' := by
  have inh : Inhabited Ms := ⟨⟨0, ⟨#[]⟩, ⟨#[]⟩, 0, 0⟩⟩
  rcases ho.2 with ⟨rfl, h0⟩ | ⟨gd, cap, cur, rfl, _, hg, _⟩
  · have e0 : l = [] := List.length_eq_zero_iff.1 h0
    subst e0
    refine (idx_ms_none none 0 _ w).mono ?_
    rintro e w' ⟨rfl, rfl⟩
    exact ⟨rfl, Below.refl _ _⟩
  · have h := AnyQ.slices_IndexFunc l197 5 Tryz.isAgg226 Tryz.sizeOf226 Ms.row (fun _ => rfl) (isG gr) 292 #[.pointer (some ⟨B, 0, none⟩)] eg292 gd 0 l.length cap l w (delm_pred gr B w hB hcell) (Nat.le_refl _) (by omega) (lt_of_block hg) (fun j hj i v hi => own_cells Ms.row 5 (fun _ => rfl) ho j hj i v hi)
    rw [List.take_length, idxBy_eq] at h
    exact h
theorem zeroM (w : World) : (zeroValue 226).run Tryz.prog w = .ok (.agg #[.int .i64 0, .string ⟨#[]⟩, .string ⟨#[]⟩, .int .i64 0, .int .i64 0]) w := by kernel_rfl
theorem run_clearM (w : World) (ty : TypeId) (g k m cd : Nat) (hc : ∀ j, j < m * 5 → (w.cell? ⟨g, k * 5 + j, none⟩).isSome = true) (hf : ∀ j, w.frozen? ⟨g, j, none⟩ = false) (hm : 0 < m) :
    (Builtin.clear_ #[187] ty #[.slice (some ⟨g, k * 5, none⟩) m cd]).run Tryz.prog w = .ok (.tuple #[]) (w.setCells g (k * 5) (Builtin.zeroCells #[.int .i64 0, .string ⟨#[]⟩, .string ⟨#[]⟩, .int .i64 0, .int .i64 0] m).toList) := by
  obtain ⟨m', rfl⟩ : ∃ m', m = m' + 1 := ⟨m - 1, by omega⟩
  have hst := run_storeCells_cells (P := Tryz.prog) g (k * 5) (Builtin.zeroCells #[.int .i64 0, .string ⟨#[]⟩, .string ⟨#[]⟩, .int .i64 0, .int .i64 0] (m' + 1)).toList 0 w (fun j hj => by
    rw [Nat.add_zero]
    exact hc j (by simpa [size_zeroCells] using hj)) (fun j hj => hf _) (fun v hv => by
    have hv' := Array.mem_toList_iff.1 hv
    unfold Builtin.zeroCells at hv'
    obtain ⟨i, hi, rfl⟩ := Array.mem_map.1 hv'
    have h3 : i % 5 = 0 ∨ i % 5 = 1 ∨ i % 5 = 2 ∨ i % 5 = 3 ∨ i % 5 = 4 := by omega
    show Value.oneCell' (#[.int .i64 0, .string ⟨#[]⟩, .string ⟨#[]⟩, .int .i64 0, .int .i64 0][i % 5]!) = true
    rcases h3 with h | h | h | h | h <;> rw [h] <;> rfl)
  have hz : (Value.agg #[.int .i64 0, .string ⟨#[]⟩, .string ⟨#[]⟩, .int .i64 0, .int .i64 0]).cells = #[.int .i64 0, .string ⟨#[]⟩, .string ⟨#[]⟩, .int .i64 0, .int .i64 0] := rfl
  simp only [Nat.add_zero] at hst
  simp [Builtin.clear_, run_underlying Tryz.underlying187, zeroM, hz, hst]

set_option maxRecDepth 8000 in
set_option maxHeartbeats 4000000 in
theorem delM_any (v : Value) (l : List Ms) (gr : ByteArray) (B : Nat) (w : World) (ho : w.ownsRow 0 226 5 v l.length (l.flatMap Ms.row)) (hl : l.length ≤ 1000000) (hB : w.heap[B]? = some (.cells #[.string gr] 9 (0, 0))) :
    Calls Tryz.prog 291 #[v, .func (.func 292) #[] #[.pointer (some ⟨B, 0, none⟩)]] w fun e w' => ∃ v', e = .returned v' ∧ v'.ownBlock = v.ownBlock ∧ w'.ownsRow 0 226 5 v' (l.filter (fun x => !isG gr x)).length ((l.filter (fun x => !isG gr x)).flatMap Ms.row) ∧ Tch (bl v) w w' := by
  have inh : Inhabited Ms := ⟨⟨0, ⟨#[]⟩, ⟨#[]⟩, 0, 0⟩⟩
  have hBl := lt_of_block hB
  have HB : Hid (w.heap[B]? = some (.cells #[.string gr] 9 (0, 0))) := hB
  have HI : Hid (Calls Tryz.prog 264 _ w _) := idx_delM v l gr B w ho hl hBl (cell_of_one hB)
  by_cases hneg : idxL (isG gr) l < 0
  · have hm1 : idxL (isG gr) l = -1 := by have := idxL_ge (isG gr) l; omega
    rw [hm1] at HI
    rw [idxL_none _ _ hneg]
    have HO : Hid (w.ownsRow 0 226 5 v l.length (l.flatMap Ms.row)) := ho
    clear hB ho hm1 hneg
    go_enter Tryz.func291, Tryz.ntmps291
    go_wp2_with (go_at_call 264; refine HI.out.mono ?_; rintro e w' ⟨rfl, hb⟩)
    go_ret
    exact ⟨v, rfl, rfl, own_tch HO.out (Tch.of_below (by assumption)) (fun _ _ => by simp), (Tch.of_below (by assumption)).sub (by simp)⟩
  · obtain ⟨i0, hi0⟩ : ∃ i : Nat, idxL (isG gr) l = (i : Int) := ⟨_, (Int.toNat_of_nonneg (by omega)).symm⟩
    have hdl := idxL_first _ l i0 hi0
    rw [hi0] at HI
    obtain ⟨gd, cd, rfl⟩ : ∃ g c, v = .slice (some ⟨g, 0, none⟩) l.length c := by
      rcases ho.2 with ⟨_, h0⟩ | ⟨g, cap, cur, h0, _⟩
      · have := hdl.jn; omega
      · exact ⟨g, cap, h0⟩
    have hcap : l.length ≤ cd := by
      rcases ho.2 with ⟨h', _⟩ | ⟨g', cap', cur, h', _, _, hnc, _⟩
      · simp at h'
      · simp at h'
        omega
    have hBg : B ≠ gd := fun e => by
      rw [e] at hB
      exact own_ne ho hB (by decide) rfl
    have HO : Hid (w.ownsRow 0 226 5 (.slice (some ⟨gd, 0, none⟩) l.length cd) l.length (l.flatMap Ms.row)) := ho
    have HD : Hid (Dl (isG gr) l l i0 (i0 + 1)) := hdl
    have hi1 : i0 < l.length := by have := hdl.jn; omega
    have hne1 : ((i0 : Int) == -1) = false := beq_eq_false_iff_ne.2 (by omega)
    clear hB ho hi0 hneg hdl
    go_enter Tryz.func291, Tryz.ntmps291
    go_wp2_with (go_at_call 264; refine HI.out.mono ?_; rintro e w' ⟨rfl, hb⟩; have T0 : Hid (Tch [gd] w w') := (Tch.of_below hb).sub (by simp); have O0 : Hid (w'.ownsRow 0 226 5 (.slice (some ⟨gd, 0, none⟩) l.length cd) l.length (l.flatMap Ms.row)) := own_tch HO.out (Tch.of_below hb) (fun _ _ => by simp); clear hb HI)
    go_loopw [5, 6] (fun iv jv wr => ∃ (k j : Nat) (L : List Ms), iv = .int .i64 (k : Int) ∧ jv = .int .i64 (j : Int) ∧ Dl (isG gr) l L k j ∧ wr.ownsRow 0 226 5 (.slice (some ⟨gd, 0, none⟩) l.length cd) L.length (L.flatMap Ms.row) ∧ Tch [gd] w wr) (fun _ jv _ => l.length - (intOf jv).toNat)
    case atStart => exact ⟨i0, i0 + 1, l, rfl, by go_num, HD.out, O0.out, T0.out⟩
    case round =>
      obtain ⟨k, j, L, rfl, rfl, hd, hor, htr⟩ := hrel
      have hkj := hd.kj
      have hjn := hd.jn
      have hll := hd.len
      have HOR : Hid (wr.ownsRow 0 226 5 (.slice (some ⟨gd, 0, none⟩) l.length cd) L.length (L.flatMap Ms.row)) := hor
      have HTR : Hid (Tch [gd] w wr) := htr
      have HDL : Hid (Dl (isG gr) l L k j) := hd
      have hgl : gd < wr.heap.size := own_lt hor rfl
      by_cases hlt : j < l.length
      · obtain ⟨x, hx⟩ : ∃ x, l[j]? = some x := ⟨_, List.getElem?_eq_getElem hlt⟩
        have hLx : L[j]? = some x := (hd.get hlt).trans hx
        have hjL : j < L.length := by omega
        have fm : ∀ i v, x.row[i]? = some v → wr.cell? ⟨gd, j * 5 + i, none⟩ = some v := fun i v hi => by
          have h1 := own_cells Ms.row 5 (fun _ => rfl) hor j hjL i v (by rw [List.getElem!_eq_getElem?_getD, hLx]; exact hi)
          simpa using h1
        have g0 : wr.cell? ⟨gd, j * 5, none⟩ = some (.int .i64 x.num) := fm 0 _ rfl
        have g1 : wr.cell? ⟨gd, j * 5 + 1, none⟩ = some (.string x.grp) := fm 1 _ rfl
        have g2 : wr.cell? ⟨gd, j * 5 + 2, none⟩ = some (.string x.bod) := fm 2 _ rfl
        have g3 : wr.cell? ⟨gd, j * 5 + 3, none⟩ = some (.int .i64 x.rcv) := fm 3 _ rfl
        have g4 : wr.cell? ⟨gd, j * 5 + 4, none⟩ = some (.int .i64 x.til) := fm 4 _ rfl
        have HP : Hid (∀ W, Tch [] wr W → Calls Tryz.prog 292 #[.agg #[(.int .i64 x.num), (.string x.grp), (.string x.bod), (.int .i64 x.rcv), (.int .i64 x.til)], .pointer (some ⟨B, 0, none⟩)] W fun e w' => e = .returned (.bool (isG gr x)) ∧ Below W.heap.size W w') := fun W hW => by
          have hBW : W.heap[B]? = some (.cells #[.string gr] 9 (0, 0)) := (hW.block _ (Nat.lt_of_lt_of_le hBl HTR.out.size) (by simp)).trans ((HTR.out.block _ hBl (by simpa using hBg)).trans HB.out)
          exact delm_pred gr B W (lt_of_block hBW) (cell_of_one hBW) W x (Below.refl _ _)
        clear hd hor htr fm hLx
        have HP1 : Hid (Calls Tryz.prog 292 #[.agg #[(.int .i64 x.num), (.string x.grp), (.string x.bod), (.int .i64 x.rcv), (.int .i64 x.til)], .pointer (some ⟨B, 0, none⟩)] (wr.alloc (.cells #[(.int .i64 x.num), (.string x.grp), (.string x.bod), (.int .i64 x.rcv), (.int .i64 x.til)] 226)) fun e w' => e = .returned (.bool (isG gr x)) ∧ Tch [] wr w' ∧ w'.heap[wr.heap.size]? = some (.cells #[(.int .i64 x.num), (.string x.grp), (.string x.bod), (.int .i64 x.rcv), (.int .i64 x.til)] 226 (0, 0))) := (HP.out _ ((Tch.refl _ _).alloc _)).mono (by
          rintro e w' ⟨he, hb⟩
          exact ⟨he, ((Tch.refl [] wr).alloc _).trans (Tch.of_below hb) (by simp), (hb.block _ (by simp)).trans (heap_alloc_new _ _)⟩)
        clear HP
        by_cases hp : isG gr x = true
        · have hdec : isG gr x = true := by simpa using hp
          rw [hdec] at HP1
          have HPX : Hid (isG gr x = true) := hdec
          clear hp hdec
          go_wp2_with fail
          refine HP1.out.mono ?_
          rintro e w1 ⟨rfl, ht1, hc1⟩
          have HR : Hid (w1.ownsRow 0 226 5 (.slice (some ⟨gd, 0, none⟩) l.length cd) L.length (L.flatMap Ms.row) ∧ Tch [gd] w w1) := ⟨own_tch HOR.out ht1 (fun _ _ => by simp), HTR.out.trans ht1 (by simp)⟩
          clear ht1 hc1 g0 g1 g2 g3 g4 HP1
          go_wp2_with fail
          go_roundw
          case rel => exact ⟨k, j + 1, L, rfl, by go_num, HDL.out.skip x hx HPX.out, HR.out.1, HR.out.2⟩
          case measure => simp [intOf]; omega
        · have hdec : isG gr x = false := by simpa using hp
          rw [hdec] at HP1
          have HPX : Hid (isG gr x = false) := hdec
          clear hp hdec
          go_wp2_with fail
          refine HP1.out.mono ?_
          rintro e w1 ⟨rfl, ht1, hc1⟩
          have ho1 := own_tch HOR.out ht1 (fun _ _ => by simp)
          have hkL : k < L.length := by omega
          obtain ⟨y, hy⟩ : ∃ y, L[k]? = some y := ⟨_, List.getElem?_eq_getElem hkL⟩
          have fk : ∀ i v, y.row[i]? = some v → w1.cell? ⟨gd, k * 5 + i, none⟩ = some v := fun i v hi => by
            have h1 := own_cells Ms.row 5 (fun _ => rfl) ho1 k hkL i v (by rw [List.getElem!_eq_getElem?_getD, hy]; exact hi)
            simpa using h1
          have k0 : w1.cell? ⟨gd, k * 5, none⟩ = some (.int .i64 y.num) := fk 0 _ rfl
          have k1 : w1.cell? ⟨gd, k * 5 + 1, none⟩ = some (.string y.grp) := fk 1 _ rfl
          have k2 : w1.cell? ⟨gd, k * 5 + 2, none⟩ = some (.string y.bod) := fk 2 _ rfl
          have k3 : w1.cell? ⟨gd, k * 5 + 3, none⟩ = some (.int .i64 y.rcv) := fk 3 _ rfl
          have k4 : w1.cell? ⟨gd, k * 5 + 4, none⟩ = some (.int .i64 y.til) := fk 4 _ rfl
          have m0 : w1.cell? ⟨wr.heap.size, 0, none⟩ = some (.int .i64 x.num) := cell_qC hc1 0 _ rfl
          have m1 : w1.cell? ⟨wr.heap.size, 1, none⟩ = some (.string x.grp) := cell_qC hc1 1 _ rfl
          have m2 : w1.cell? ⟨wr.heap.size, 2, none⟩ = some (.string x.bod) := cell_qC hc1 2 _ rfl
          have m3 : w1.cell? ⟨wr.heap.size, 3, none⟩ = some (.int .i64 x.rcv) := cell_qC hc1 3 _ rfl
          have m4 : w1.cell? ⟨wr.heap.size, 4, none⟩ = some (.int .i64 x.til) := cell_qC hc1 4 _ rfl
          rw [hll] at ho1
          have z0 : ∀ i, w1.frozen? ⟨gd, i, none⟩ = false := fun i => World.ownsRow.frozenAt ho1 i
          have HR : Hid ((((((w1.setCell ⟨gd, k * 5, none⟩ (.int .i64 x.num)).setCell ⟨gd, k * 5 + 1, none⟩ (.string x.grp)).setCell ⟨gd, k * 5 + 2, none⟩ (.string x.bod)).setCell ⟨gd, k * 5 + 3, none⟩ (.int .i64 x.rcv)).setCell ⟨gd, k * 5 + 4, none⟩ (.int .i64 x.til)).ownsRow 0 226 5 (.slice (some ⟨gd, 0, none⟩) l.length cd) (L.set k x).length ((L.set k x).flatMap Ms.row) ∧ Tch [gd] w (((((w1.setCell ⟨gd, k * 5, none⟩ (.int .i64 x.num)).setCell ⟨gd, k * 5 + 1, none⟩ (.string x.grp)).setCell ⟨gd, k * 5 + 2, none⟩ (.string x.bod)).setCell ⟨gd, k * 5 + 3, none⟩ (.int .i64 x.rcv)).setCell ⟨gd, k * 5 + 4, none⟩ (.int .i64 x.til))) := by
            refine ⟨?_, (((((HTR.out.trans ht1 (by simp)).setCell (fun _ => by simp) _).setCell (fun _ => by simp) _).setCell (fun _ => by simp) _).setCell (fun _ => by simp) _).setCell (fun _ => by simp) _⟩
            rw [List.length_set, hll, ← flat_put Ms.row 5 (fun _ => rfl) L k x hkL]
            exact own_setCells x.row (k * 5) w1 _ ho1
          clear g0 g1 g2 g3 g4 HP1 ht1 hc1 ho1 fk hy
          go_wp2_with fail
          go_roundw
          case rel => exact ⟨k + 1, j + 1, L.set k x, by go_num, by go_num, HDL.out.keep x hx HPX.out, HR.out.1, HR.out.2⟩
          case measure => simp [intOf]; omega
      · have hje : l.length = j := by omega
        have hkk : (l.filter (fun x => !isG gr x)).length = k ∧ L.take k = l.filter (fun x => !isG gr x) := by
          have h1 := hd.tk
          have e9 : l.take j = l := List.take_of_length_le (by omega)
          rw [e9] at h1
          refine ⟨?_, h1⟩
          rw [← h1, List.length_take]
          omega
        rw [hll] at hor
        have hclr := run_clearM wr 0 gd k (j - k) (cd - k) (fun i hi => by
          have h1 : k * 5 + i < (L.flatMap Ms.row).length := by rw [flat_len Ms.row 5 (fun _ => rfl)]; omega
          have h2 := World.ownsRow.cells hor (g := gd) rfl (k * 5 + i) _ (List.getElem?_eq_getElem h1)
          have e : (⟨gd, 0, none⟩ : Addr).add (k * 5 + i) = ⟨gd, k * 5 + i, none⟩ := by unfold Addr.add; split <;> simp_all
          rw [e] at h2
          rw [h2]
          rfl) (fun i => World.ownsRow.frozenAt hor i) (by omega)
        have HF : Hid ((wr.setCells gd (k * 5) (Builtin.zeroCells #[.int .i64 0, .string ⟨#[]⟩, .string ⟨#[]⟩, .int .i64 0, .int .i64 0] (j - k)).toList).ownsRow 0 226 5 (.slice (some ⟨gd, 0, none⟩) k cd) (l.filter (fun x => !isG gr x)).length ((l.filter (fun x => !isG gr x)).flatMap Ms.row) ∧ Tch [gd] w (wr.setCells gd (k * 5) (Builtin.zeroCells #[.int .i64 0, .string ⟨#[]⟩, .string ⟨#[]⟩, .int .i64 0, .int .i64 0] (j - k)).toList)) := by
          refine ⟨?_, htr.trans (tch_setCells gd _ _ _) (fun _ h _ => h)⟩
          have h1 := own_cut (own_setCells (Builtin.zeroCells #[.int .i64 0, .string ⟨#[]⟩, .string ⟨#[]⟩, .int .i64 0, .int .i64 0] (j - k)).toList (k * 5) wr _ hor) (n' := k) (by omega)
          rw [putMany_take _ _ _ _ (Nat.le_refl _), flat_take Ms.row 5 (fun _ => rfl) L k (by omega), hkk.2] at h1
          rw [hkk.1]
          exact h1
        generalize wr.setCells gd (k * 5) (Builtin.zeroCells #[.int .i64 0, .string ⟨#[]⟩, .string ⟨#[]⟩, .int .i64 0, .int .i64 0] (j - k)).toList = w2 at *
        clear hd hor htr hkk
        go_wp2_with fail
        go_ret
        exact ⟨.slice (some ⟨gd, 0, none⟩) k cd, rfl, rfl, HF.out.1, HF.out.2⟩

end Go.Proofs.YtbdobaapadlcjaaGreatDoor
