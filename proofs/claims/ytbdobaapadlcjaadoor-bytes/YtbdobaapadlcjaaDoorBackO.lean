/-
  WHAT THE ROWS' LISTS GIVE: package wire's tables, cell by cell.
-/
import Derived.Test.YtbdobaapadlcjaaDoorRows
import Derived.Test.YtbdobaapadlcjaaDoorBackN
import Derived.Deep.Strs
namespace Go.Proofs.YtbdobaapadlcjaaDoor.Keep
open Go.ChangeShapes Go.WideShapes Go.ChangeAt Go.RowKit Go.Deep
set_option linter.unusedVariables false

theorem gLay : Tryd.prog.globalNamed "wharf/wire.layouts" = some 1 := by kernel_rfl
theorem gLayT : (Tryd.prog.globals[1]?).map (·.type) = some 96 := by kernel_rfl
theorem gRow : Tryd.prog.globalNamed "wharf/wire.rows" = some 2 := by kernel_rfl
theorem gRowT : (Tryd.prog.globals[2]?).map (·.type) = some 118 := by kernel_rfl
theorem cells95 : Tryd.prog.cellsOf 95 = 1 := by kernel_rfl
theorem cells97 : Tryd.prog.cellsOf 97 = 1 := by kernel_rfl
theorem cells116 : Tryd.prog.cellsOf 116 = 1 := by kernel_rfl
theorem cells117 : Tryd.prog.cellsOf 117 = 3 := by kernel_rfl

/-- A list of fields as the row lists it. -/
def dat (l : List Nat) : DataW Unit := if l = [] then .nil else .slice (l.map fun (f : Nat) => DataW.lit (.int .i64 (f : Int))) []
theorem laid_lay (i : Nat) (hi : i < 26) : ∀ l, (Rows.laid_wharf_wire_layouts (H := Unit)) = .agg l → l[i]? = some (dat (Wp.lay i)) := by
  intro l hl
  injection hl with hl
  subst hl
  have hx : i = 0 ∨ i = 1 ∨ i = 2 ∨ i = 3 ∨ i = 4 ∨ i = 5 ∨ i = 6 ∨ i = 7 ∨ i = 8 ∨ i = 9 ∨ i = 10 ∨ i = 11 ∨ i = 12 ∨ i = 13 ∨ i = 14 ∨ i = 15 ∨ i = 16 ∨ i = 17 ∨ i = 18 ∨ i = 19 ∨ i = 20 ∨ i = 21 ∨ i = 22 ∨ i = 23 ∨ i = 24 ∨ i = 25 := by omega
  rcases hx with rfl | rfl | rfl | rfl | rfl | rfl | rfl | rfl | rfl | rfl | rfl | rfl | rfl | rfl | rfl | rfl | rfl | rfl | rfl | rfl | rfl | rfl | rfl | rfl | rfl | rfl <;> rfl
theorem laid_row (i : Nat) (hi : i < 15) : ∀ l, (Rows.laid_wharf_wire_rows (H := Unit)) = .agg l → l[i]? = some (.agg [.lit (.int .i64 (Wp.rowTab.getD (3 * i) 0)), .lit (.int .i64 (Wp.rowTab.getD (3 * i + 1) 0)), .lit (.int .i64 (Wp.rowTab.getD (3 * i + 2) 0))]) := by
  intro l hl
  injection hl with hl
  subst hl
  have hx : i = 0 ∨ i = 1 ∨ i = 2 ∨ i = 3 ∨ i = 4 ∨ i = 5 ∨ i = 6 ∨ i = 7 ∨ i = 8 ∨ i = 9 ∨ i = 10 ∨ i = 11 ∨ i = 12 ∨ i = 13 ∨ i = 14 := by omega
  rcases hx with rfl | rfl | rfl | rfl | rfl | rfl | rfl | rfl | rfl | rfl | rfl | rfl | rfl | rfl | rfl <;> rfl
theorem lits_nat (zs : List Int) (l : List Nat) (h : (lits .i64 zs : List (DataW Unit)) = l.map fun (f : Nat) => DataW.lit (.int .i64 (f : Int))) : zs = l.map fun (f : Nat) => (f : Int) := by
  induction l generalizing zs with
  | nil =>
    cases zs with
    | nil => rfl
    | cons z zs => simp [lits] at h
  | cons f l ih =>
    cases zs with
    | nil => simp [lits] at h
    | cons z zs =>
      simp only [lits, List.map_cons, List.cons.injEq, DataW.lit.injEq, Lit.int.injEq, true_and] at h
      rw [List.map_cons, h.1, ih zs h.2]
theorem addr_spot {W : World} {a : Addr} {v : Value} (h : W.cell? a = some v) : a.spot = none := by
  unfold World.cell? at h
  split at h
  · cases hsp : a.spot with
    | none => rfl
    | some x => simp [hsp] at h
  · simp at h

/-- FROM THE ROW's LIST TO THE TABLES. -/
theorem lays_of {W : World} {rest : List (String × DataW Unit)} (h : laidMet Tryd.prog (("wharf/wire.layouts", Rows.laid_wharf_wire_layouts) :: ("wharf/wire.rows", Rows.laid_wharf_wire_rows) :: rest) W) : Lays W.heap.size W := by
  obtain ⟨ps, ⟨g, t, cs, fuel, p, q, hg, ht, hvar, hd, ⟨g2, t2, cs2, fuel2, p2, q2, hg2, ht2, hvar2, hd2, _, _⟩, _⟩, _⟩ := h
  obtain rfl := Option.some.inj (gLay.symm.trans hg)
  obtain rfl := Option.some.inj (gLayT.symm.trans ht)
  obtain rfl := Option.some.inj (gRow.symm.trans hg2)
  obtain rfl := Option.some.inj (gRowT.symm.trans ht2)
  have hrow : ∀ i, i < 45 → W.cell? ⟨2, i, none⟩ = some (.int .i64 (Wp.rowTab.getD i 0)) := by
    obtain ⟨xs, m, _, hx, hl, hlen, hel⟩ := DataW.trod_array Tryd.underlying118 hd2
    intro i hi
    have hi3 : i / 3 < 15 := by omega
    have h1 := hel (i / 3) hi3
    rw [cells117, List.getElem?_eq_getElem (by omega)] at h1
    obtain ⟨y0, y1, y2, n, hy, _, a0, a1, a2⟩ := trod_struct3 Tryd.underlying117 h1
    have hdat := laid_row (i / 3) hi3 _ (congrArg Prod.fst hx)
    rw [List.getElem?_map, List.getElem?_eq_getElem (by omega)] at hdat
    have hdat2 := Option.some.inj hdat
    rw [hy] at hdat2
    injection hdat2 with hdat3
    simp only [List.cons.injEq, and_true] at hdat3
    obtain ⟨z0, e0, f0, _⟩ := DataW.trod_int Tryd.underlying116 a0
    obtain ⟨z1, e1, f1, _⟩ := DataW.trod_int Tryd.underlying3 a1
    obtain ⟨z2, e2, f2, _⟩ := DataW.trod_int Tryd.underlying3 a2
    rw [f0, f1, f2] at hdat3
    simp only [DataW.lit.injEq, Lit.int.injEq, true_and] at hdat3
    have hc2 : W.cell? ⟨2, i, none⟩ = cs2[i]? := World.var?_cell gRow hvar2 i
    rw [hc2]
    have hmod : i = i / 3 * 3 ∨ i = i / 3 * 3 + 1 ∨ i = i / 3 * 3 + 2 := by omega
    rcases hmod with hm | hm | hm
    · have e := congrArg (·[0]?) e0
      simp [cells116] at e
      rw [hm, e, hdat3.1]
      rw [Nat.mul_comm 3 (i / 3)]
    · have e := congrArg (·[0]?) e1
      simp [cells3] at e
      rw [hm, e, hdat3.2.1]
      rw [Nat.mul_comm 3 (i / 3)]
    · have e := congrArg (·[0]?) e2
      simp [cells3] at e
      rw [hm, e, hdat3.2.2]
      rw [Nat.mul_comm 3 (i / 3)]
  refine ⟨?_, hrow, ?_⟩
  · exact World.block_lt_of_cell? _ _ (hrow 0 (by decide))
  · obtain ⟨xs, m, _, hx, hl, hlen, hel⟩ := DataW.trod_array Tryd.underlying96 hd
    intro i hi
    have h1 := hel i hi
    rw [cells95, Nat.mul_one, List.getElem?_eq_getElem (by omega)] at h1
    have hdat := laid_lay i hi _ (congrArg Prod.fst hx)
    rw [List.getElem?_map, List.getElem?_eq_getElem (by omega)] at hdat
    have hdat2 := Option.some.inj hdat
    have hc1 : W.cell? ⟨1, i, none⟩ = cs[i]? := World.var?_cell gLay hvar i
    rcases open_ints Tryd.underlying95 Tryd.underlying97 cells97 h1 with ⟨hcs, hy⟩ | ⟨a, len, cap, zs, hcs, _, hle, _, hz, hy, hcell, _⟩
    · have e := congrArg (·[0]?) hcs
      simp at e
      have hlay : Wp.lay i = [] := by
        have h2 : (DataW.nil : DataW Unit) = dat (Wp.lay i) := (congrArg Prod.fst hy).symm.trans hdat2
        unfold dat at h2
        by_cases hn : Wp.lay i = []
        · exact hn
        · rw [if_neg hn] at h2; cases h2
      refine ⟨none, 0, ?_, fun j hj => ?_⟩
      · rw [hc1, e, hlay]; rfl
      · rw [hlay] at hj; simp at hj
    · have e := congrArg (·[0]?) hcs
      simp at e
      have h2 : (.slice (lits .i64 (zs.take len)) (lits .i64 (zs.drop len)) : DataW Unit) = dat (Wp.lay i) := (congrArg Prod.fst hy).symm.trans hdat2
      unfold dat at h2
      by_cases hn : Wp.lay i = []
      · rw [if_pos hn] at h2; cases h2
      · rw [if_neg hn] at h2
        injection h2 with h3 h4
        have h5 := lits_nat _ _ h3
        have hzl : zs.length = cap := hz
        have hll : (Wp.lay i).length = len := by
          have := congrArg List.length h5
          rw [List.length_take, List.length_map] at this
          omega
        refine ⟨some a, cap, ?_, fun j hj => ?_⟩
        · rw [hc1, e, hll]
        · have hj2 : j < zs.length := by omega
          have h0 := hcell 0 (by omega)
          have hs := addr_spot (by rw [show a.add 0 = a by unfold Addr.add; rw [if_pos rfl]] at h0; exact h0)
          obtain ⟨b, o, sp⟩ := a
          simp only at hs
          subst hs
          have h6 := hcell j hj2
          rw [addr_at] at h6
          refine ⟨b, o, rfl, World.block_lt_of_cell? _ _ h6, ?_⟩
          rw [h6]
          congr 2
          have h7 := congrArg (fun l => l.getD j 0) h5
          simp only [List.getD_eq_getElem?_getD, List.getElem?_map, List.getElem?_take] at h7 ⊢
          rw [if_pos (by omega)] at h7
          rw [h7, List.getElem?_eq_getElem hj]
          rfl
end Go.Proofs.YtbdobaapadlcjaaDoor.Keep
