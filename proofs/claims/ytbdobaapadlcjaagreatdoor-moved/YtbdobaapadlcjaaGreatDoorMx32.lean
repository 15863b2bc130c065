/-
  Due (297), whatever is due.
-/
import Derived.Test.YtbdobaapadlcjaaGreatDoorMx31
import Derived.Test.YtbdobaapadlcjaaGreatDoorMx28
namespace Go.Proofs.YtbdobaapadlcjaaGreatDoor
open Go.RowKit
set_option linter.unusedVariables false
set_option linter.unusedSimpArgs false

/-- The messages in flight whose time is over. -/
def dueL (now : Int) (l : List Ms) : List Ms := l.filter fun m => decide (0 < m.til ∧ m.til ≤ now)
theorem dueL_yes {now : Int} {l : List Ms} {j : Nat} {m : Ms} (hm : l[j]? = some m) (h : 0 < m.til ∧ m.til ≤ now) : dueL now (l.take (j + 1)) = dueL now (l.take j) ++ [m] := by
  unfold dueL
  rw [List.take_add_one, hm, List.filter_append]
  simp [h]
theorem dueL_no {now : Int} {l : List Ms} {j : Nat} {m : Ms} (hm : l[j]? = some m) (h : ¬ (0 < m.til ∧ m.til ≤ now)) : dueL now (l.take (j + 1)) = dueL now (l.take j) := by
  unfold dueL
  rw [List.take_add_one, hm, List.filter_append]
  have h2 : [m].filter (fun m => decide (0 < m.til ∧ m.til ≤ now)) = [] := by
    rw [List.filter_cons]
    simp only [h, decide_false]
    rfl
  simp only [Option.toList_some, h2, List.append_nil]
theorem own_le {w : World} {base b' t size n : Nat} {v : Value} {xs : List Value} (h : w.ownsRow base t size v n xs) (hb : b' ≤ base) : w.ownsRow b' t size v n xs := by
  refine ⟨h.1, ?_⟩
  rcases h.2 with hn | ⟨g, cap, cur, h0, hb2, hg, rest⟩
  · exact .inl hn
  · exact .inr ⟨g, cap, cur, h0, Nat.le_trans hb hb2, hg, rest⟩
theorem dueL_len (now : Int) (l : List Ms) (j : Nat) : (dueL now (l.take j)).length ≤ l.length := by
  have h1 := List.length_filter_le (fun m : Ms => decide (0 < m.til ∧ m.til ≤ now)) (l.take j)
  have h2 : (l.take j).length ≤ l.length := by rw [List.length_take]; omega
  exact Nat.le_trans h1 h2
/-- What Due gives: the numbers of what is due, in order. -/
def DueW (l' : List Ms) (w : World) (v : Value) (w' : World) : Prop := w'.ownsRow w.heap.size 3 1 v l'.length (l'.map fun m => .int .i64 m.num) ∧ Tch [] w w'

set_option maxRecDepth 8000 in
set_option maxHeartbeats 4000000 in
theorem due_any (l : List Ms) (v : Value) (qb : Nat) (now : Int) (w : World) (c7 : w.cell? ⟨qb, 7, none⟩ = some v) (ho : w.ownsRow 0 226 5 v l.length (l.flatMap Ms.row)) (hl : l.length ≤ 1000) :
    Calls Tryz.prog 297 #[.pointer (some ⟨qb, 0, none⟩), .int .i64 now] w fun e w' => ∃ v' l', e = .returned v' ∧ l'.Perm (dueL now l) ∧ Asc l' ∧ DueW l' w v' w' := by
  have inh : Inhabited Ms := ⟨⟨0, ⟨#[]⟩, ⟨#[]⟩, 0, 0⟩⟩
  have hasc0 : Asc [] := fun i j hi hj _ => by simp at hi
  rcases ho.2 with ⟨rfl, h0⟩ | ⟨gd, cd, cur, rfl, _, hg, hnc, _⟩
  · have hle : l = [] := List.length_eq_zero_iff.1 h0
    subst hle
    clear ho
    go_enter Tryz.func297, Tryz.ntmps297
    go_wp2
    refine wp_loop_rounds 1 ?_
    rw [rounds_succ]
    go_wp2_with (go_at_call 301; go_loud (refine (sort_none _ _ _ _).mono ?_; rintro e w' ⟨rfl, hw⟩; have hw' := hw.symm; subst hw'))
    refine wp_loop_rounds 1 ?_
    rw [rounds_succ]
    go_wp2
    go_ret
    exact ⟨_, [], rfl, List.Perm.refl _, hasc0, World.ownsRow_nil _ _ _ _, Tch.refl _ _⟩
  · have HO : Hid (w.ownsRow 0 226 5 (.slice (some ⟨gd, 0, none⟩) l.length cd) l.length (l.flatMap Ms.row)) := ho
    have hgl := lt_of_block hg
    clear hg ho
    go_enter Tryz.func297, Tryz.ntmps297
    go_wp2_with fail
    go_loopw [5, 16] (fun dv jv wr => ∃ (j : Nat) (v1 : Value), j ≤ l.length ∧ dv = v1 ∧ jv = .int .i64 (j : Int) ∧ wr.ownsRow w.heap.size 226 5 v1 (dueL now (l.take j)).length ((dueL now (l.take j)).flatMap Ms.row) ∧ Tch [] w wr) (fun _ jv _ => l.length - (intOf jv).toNat)
    case atStart => exact ⟨0, _, Nat.zero_le _, rfl, rfl, World.ownsRow_nil _ _ _ _, Tch.refl _ _⟩
    case round =>
      obtain ⟨j, v1, hj, rfl, rfl, hv1, ht⟩ := hrel
      have HV : Hid (wr.ownsRow w.heap.size 226 5 u5 (dueL now (l.take j)).length ((dueL now (l.take j)).flatMap Ms.row)) := hv1
      have HT : Hid (Tch [] w wr) := ht
      have zr := ht.size
      have hln := dueL_len now l j
      by_cases hlt : j < l.length
      · have hor := own_tch HO.out ht (fun _ _ => by simp)
        have hgr := own_lt hor rfl
        obtain ⟨m, hm⟩ : ∃ m, l[j]? = some m := ⟨_, List.getElem?_eq_getElem hlt⟩
        have fm : ∀ i v, m.row[i]? = some v → wr.cell? ⟨gd, j * 5 + i, none⟩ = some v := fun i v hi => by
          have h1 := own_cells Ms.row 5 (fun _ => rfl) hor j hlt i v (by rw [List.getElem!_eq_getElem?_getD, hm]; exact hi)
          simpa using h1
        have g0 : wr.cell? ⟨gd, j * 5, none⟩ = some (.int .i64 m.num) := fm 0 _ rfl
        have g1 : wr.cell? ⟨gd, j * 5 + 1, none⟩ = some (.string m.grp) := fm 1 _ rfl
        have g2 : wr.cell? ⟨gd, j * 5 + 2, none⟩ = some (.string m.bod) := fm 2 _ rfl
        have g3 : wr.cell? ⟨gd, j * 5 + 3, none⟩ = some (.int .i64 m.rcv) := fm 3 _ rfl
        have g4 : wr.cell? ⟨gd, j * 5 + 4, none⟩ = some (.int .i64 m.til) := fm 4 _ rfl
        have HN : Hid (¬ (0 < m.til ∧ m.til ≤ now) → dueL now (l.take (j + 1)) = dueL now (l.take j)) := fun h => dueL_no hm h
        have HY : Hid (0 < m.til ∧ m.til ≤ now → dueL now (l.take (j + 1)) = dueL now (l.take j) ++ [m]) := fun h => dueL_yes hm h
        clear fm hor hm ht hv1
        by_cases h0 : 0 < m.til
        · by_cases h1 : m.til ≤ now
          · have HR : Hid (dueL now (l.take (j + 1)) = dueL now (l.take j) ++ [m]) := HY.out ⟨h0, h1⟩
            clear HN HY
            obtain ⟨oa, oc, hoe⟩ := own_shape' HV.out
            subst hoe
            generalize dueL now (l.take j) = D at *
            go_wp2_with (at_builtin; refine wpList_valsD w.heap.size _ rfl _ _ 187 226 rfl Tryz.underlying187 (.agg #[.int .i64 0, .string ⟨#[]⟩, .string ⟨#[]⟩, .int .i64 0, .int .i64 0]) 5 56 info214 rfl (by decide) (by decide) (.slice oa D.length oc) D.length (D.flatMap Ms.row) ?hvs ?hvo ?hvb (wr.heap.size + 1) m.row 1 ?hvx rfl (by decide) ?hvg ?hv1 (by omega) ?hvk)
            case hvo => exact own_tch HV.out (((Tch.refl [] _).alloc _).alloc _) (fun _ _ => by simp)
            case hvb => omega
            case hvg =>
              obtain ⟨_, h⟩ := Array.getElem?_eq_some_iff.1 (heap_alloc2_new wr (.cells #[.int .i64 m.num, .string m.grp, .string m.bod, .int .i64 m.rcv, .int .i64 m.til] 226) (.cells #[.int .i64 m.num, .string m.grp, .string m.bod, .int .i64 m.rcv, .int .i64 m.til] 226))
              exact h
            case hv1 => intro u hu; simp [Ms.row] at hu; rcases hu with rfl | rfl | rfl | rfl | rfl <;> rfl
            intro v2 w2 ho2 hg2 hb2
            have HO2 : Hid (w2.ownsRow w.heap.size 226 5 v2 (dueL now (l.take (j + 1))).length ((dueL now (l.take (j + 1))).flatMap Ms.row) ∧ Tch [] w w2) := by
              refine ⟨by rw [HR.out]; simpa using ho2, ((HT.out.alloc _).alloc _).grown hg2 (fun j hj hlt => ?_)⟩
              have := own_ge' HV.out j hj
              omega
            clear ho2 hg2 hb2
            go_wp2_with fail
            go_roundw
            case rel => exact ⟨j + 1, v2, by omega, rfl, by go_num, HO2.out.1, HO2.out.2⟩
            case measure => simp [intOf]; omega
          · have HR : Hid (dueL now (l.take (j + 1)) = dueL now (l.take j)) := HN.out (fun h => h1 h.2)
            clear HN HY
            go_wp2_with fail
            go_roundw
            case rel => exact ⟨j + 1, _, by omega, rfl, by go_num, by rw [HR.out]; exact own_tch HV.out ((Tch.refl [] _).alloc _) (fun _ _ => by simp), HT.out.alloc _⟩
            case measure => simp [intOf]; omega
        · have HR : Hid (dueL now (l.take (j + 1)) = dueL now (l.take j)) := HN.out (fun h => h0 h.1)
          clear HN HY
          go_wp2_with fail
          go_roundw
          case rel => exact ⟨j + 1, _, by omega, rfl, by go_num, by rw [HR.out]; exact own_tch HV.out ((Tch.refl [] _).alloc _) (fun _ _ => by simp), HT.out.alloc _⟩
          case measure => simp [intOf]; omega
      · have hje : j = l.length := by omega
        subst hje
        clear ht hv1
        obtain ⟨D, HD⟩ : ∃ D, Hid (dueL now l = D) := ⟨_, rfl⟩
        have HV2 : Hid (wr.ownsRow w.heap.size 226 5 u5 D.length (D.flatMap Ms.row)) := by
          have h := HV.out
          rw [List.take_length, HD.out] at h
          exact h
        have hDl : D.length ≤ l.length := by rw [← HD.out]; rw [List.take_length] at hln; exact hln
        clear HV hln
        rcases HV2.out.2 with ⟨rfl, h0⟩ | ⟨g, c, cur2, rfl, hb, hg, _⟩
        · have hDe : D = [] := List.length_eq_zero_iff.1 h0
          have HDE : Hid (dueL now l = []) := HD.out.trans hDe
          clear HD hDe HV2
          go_wp2_with (go_at_call 301; refine (sort_none _ _ _ _).mono ?_; rintro e w' ⟨rfl, rfl⟩)
          refine wp_loop_rounds 1 ?_
          rw [rounds_succ]
          go_wp2
          go_ret
          exact ⟨_, [], rfl, by rw [HDE.out], hasc0, World.ownsRow_nil _ _ _ _, HT.out⟩
        · have HS : Hid (Calls Tryz.prog 301 #[.slice (some ⟨g, 0, none⟩) D.length c, .func (.func 302) #[] #[]] wr _) := sort_any D g c w.heap.size wr HV2.out (by omega)
          have hgl2 := lt_of_block hg
          clear hg HV2
          go_wp2_with (go_at_call 301; refine HS.out.mono ?_; rintro e w3 ⟨rfl, l', hp, hasc, hcl, ht3⟩; have HP : Hid (l'.Perm D ∧ Asc l') := ⟨hp, hasc⟩; have hle := hp.length_eq; have HCL : Hid (∀ j (hj : j < l'.length) i u, (l'[j].row)[i]? = some u → w3.cell? ⟨g, j * 5 + i, none⟩ = some u) := hcl; have HT3 : Hid (Tch [] w w3) := (HT.out.trans ht3 (fun x hx hlt => by simp at hx; omega)); have z3 := HT3.out.size; have z4 := ht3.size; clear hp hasc hcl ht3)
          go_loopw [8, 38] (fun nv jv wq => ∃ (j : Nat) (v2 : Value), j ≤ l'.length ∧ nv = v2 ∧ jv = .int .i64 (j : Int) ∧ wq.ownsRow w3.heap.size 3 1 v2 j ((l'.take j).map fun m => .int .i64 m.num) ∧ Tch [] w3 wq) (fun _ jv _ => l'.length - (intOf jv).toNat)
          case atStart => exact ⟨0, _, Nat.zero_le _, rfl, rfl, World.ownsRow_nil _ _ _ _, Tch.refl _ _⟩
          case round =>
            obtain ⟨j, v2, hj2, rfl, rfl, hv2, ht2⟩ := hrel
            have HV2 : Hid (wr.ownsRow w3.heap.size 3 1 u8 j ((l'.take j).map fun m => .int .i64 m.num)) := hv2
            have HT2 : Hid (Tch [] w3 wr) := ht2
            have z2 := ht2.size
            have hgw : g < wr.heap.size := by omega
            have hg3 : g < w3.heap.size := by omega
            clear hv2
            by_cases hlt : j < l'.length
            · obtain ⟨m, hm⟩ : ∃ m, l'[j] = m := ⟨_, rfl⟩
              have fm : ∀ i v, m.row[i]? = some v → wr.cell? ⟨g, j * 5 + i, none⟩ = some v := fun i v hi => by
                have h1 := HCL.out j hlt i v (by rw [hm]; exact hi)
                rw [← h1]
                exact ht2.cell hg3 (by simp)
              have g0 : wr.cell? ⟨g, j * 5, none⟩ = some (.int .i64 m.num) := fm 0 _ rfl
              have g1 : wr.cell? ⟨g, j * 5 + 1, none⟩ = some (.string m.grp) := fm 1 _ rfl
              have g2 : wr.cell? ⟨g, j * 5 + 2, none⟩ = some (.string m.bod) := fm 2 _ rfl
              have g3 : wr.cell? ⟨g, j * 5 + 3, none⟩ = some (.int .i64 m.rcv) := fm 3 _ rfl
              have g4 : wr.cell? ⟨g, j * 5 + 4, none⟩ = some (.int .i64 m.til) := fm 4 _ rfl
              have HR : Hid (l'.take (j + 1) = l'.take j ++ [m]) := by
                show _ = _
                rw [List.take_add_one, List.getElem?_eq_getElem hlt, hm]
                rfl
              clear fm hm ht2
              obtain ⟨oa, oc, hoe⟩ := own_shape' HV2.out
              subst hoe
              have hj3 : j < D.length := by omega
              go_wp2_with (at_builtin; refine wpList_valsD w3.heap.size _ rfl _ _ 258 3 rfl Tryz.underlying258 (.int .i64 0) 1 8 info3 rfl (by decide) (by decide) (.slice oa j oc) j ((l'.take j).map fun m => .int .i64 m.num) ?hys ?hyo ?hyb (wr.heap.size + 1) [.int .i64 m.num] 1 ?hyx rfl (by decide) ?hyg ?hy1 (by omega) ?hyk)
              case hyo => exact own_tch HV2.out (((Tch.refl [] _).alloc _).alloc _) (fun _ _ => by simp)
              case hys => simp [Act.eval, Act.put]
              case hyx => simp [Act.eval, Act.put]
              case hyb => simp only [World.size_alloc]; omega
              case hyg => exact heap_alloc2_new _ _ _
              case hy1 => intro u hu; simp at hu; subst hu; rfl
              intro v2 w2 ho2 hg2 hb2
              have HO2 : Hid (w2.ownsRow w3.heap.size 3 1 v2 (j + 1) ((l'.take (j + 1)).map fun m => .int .i64 m.num) ∧ Tch [] w3 w2) := by
                refine ⟨by rw [HR.out]; simpa using ho2, ((HT2.out.alloc _).alloc _).grown hg2 (fun j hj hlt => ?_)⟩
                have := own_ge' HV2.out j hj
                omega
              clear ho2 hg2 hb2
              go_wp2_with fail
              go_roundw
              case rel => exact ⟨j + 1, v2, by omega, rfl, by go_num, HO2.out.1, HO2.out.2⟩
              case measure => simp [intOf]; omega
            · have hje : j = l'.length := by omega
              subst hje
              clear ht2
              obtain ⟨oa, oc, hoe⟩ := own_shape' HV2.out
              subst hoe
              have hDe : ¬ ((l'.length : Int) < (D.length : Int)) := by omega
              have HF : Hid (wr.ownsRow w3.heap.size 3 1 (.slice oa D.length oc) l'.length (l'.map fun m => .int .i64 m.num)) := by
                have h := HV2.out
                rw [List.take_length] at h
                show wr.ownsRow _ _ _ _ _ _
                rw [← hle]
                exact h
              go_wp2_with fail
              go_ret
              refine ⟨_, rfl, l', by rw [HD.out]; exact HP.out.1, HP.out.2, own_le HF.out z3, HT3.out.trans HT2.out (fun x hx => by simp at hx)⟩
end Go.Proofs.YtbdobaapadlcjaaGreatDoor
