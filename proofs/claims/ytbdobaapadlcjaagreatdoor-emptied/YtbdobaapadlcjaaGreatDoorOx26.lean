import Derived.Test.YtbdobaapadlcjaaGreatDoorOx25
import Derived.Test.YtbdobaapadlcjaaGreatDoorOx23
namespace Go.Proofs.YtbdobaapadlcjaaGreatDoor
open Go.RowKit
set_option linter.unusedVariables false
set_option linter.unusedSimpArgs false
def dueL (now : Int) (l : List Ms) : List Ms := l.filter fun m => decide (0 < m.til ∧ m.til ≤ now)
theorem dueL_yes {now : Int} {l : List Ms} {j : Nat} {m : Ms} (hm : l[j]? = some m) (h : 0 < m.til ∧ m.til ≤ now) : dueL now (l.take (j + 1)) = dueL now (l.take j) ++ [m] := by
  unfold dueL
  rw [List.take_add_one, hm, List.filter_append]
  simp [h]
theorem dueL_no {now : Int} {l : List Ms} {j : Nat} {m : Ms} (hm : l[j]? = some m) (h : ¬ (0 < m.til ∧ m.til ≤ now)) : dueL now (l.take (j + 1)) = dueL now (l.take j) := by
  unfold dueL
  rw [List.take_add_one, hm, List.filter_append]
  have h2 : [m].filter (fun m => decide (0 < m.til ∧ m.til ≤ now)) = [] := by
    rw [List.filter_cons]
    simp only [h, decide_false]
    rfl
  simp only [Option.toList_some, h2, List.append_nil]
theorem own_le {w : World} {base b' t size n : Nat} {v : Value} {xs : List Value} (h : w.ownsRow base t size v n xs) (hb : b' ≤ base) : w.ownsRow b' t size v n xs := by
  refine ⟨h.1, ?_⟩
  rcases h.2 with hn | ⟨g, cap, cur, h0, hb2, hg, rest⟩
  · exact .inl hn
  · exact .inr ⟨g, cap, cur, h0, Nat.le_trans hb hb2, hg, rest⟩
theorem dueL_len (now : Int) (l : List Ms) (j : Nat) : (dueL now (l.take j)).length ≤ l.length := by
  have h1 := List.length_filter_le (fun m : Ms => decide (0 < m.til ∧ m.til ≤ now)) (l.take j)
  have h2 : (l.take j).length ≤ l.length := by rw [List.length_take]; omega
  exact Nat.le_trans h1 h2
def DueW (l' : List Ms) (w : World) (v : Value) (w' : World) : Prop := w'.ownsRow w.heap.size 3 1 v l'.length (l'.map fun m => .int .i64 m.num) ∧ Tch [] w w'
set_option maxRecDepth 8000 in
set_option maxHeartbeats 4000000 in
theorem due_any (l : List Ms) (v : Value) (qb : Nat) (now : Int) (w : World) (c7 : w.cell? ⟨qb, 7, none⟩ = some v) (ho : w.ownsRow 0 226 5 v l.length (l.flatMap Ms.row)) (hl : l.length ≤ 1000) :
    Calls Tryz.prog 297 #[.pointer (some ⟨qb, 0, none⟩), .int .i64 now] w fun e w' => ∃ v' l', e = .returned v' ∧ l'.Perm (dueL now l) ∧ Asc l' ∧ DueW l' w v' w' := by
  have inh : Inhabited Ms := ⟨⟨0, ⟨#[]⟩, ⟨#[]⟩, 0, 0⟩⟩
  have hasc0 : Asc [] := fun i j hi hj _ => by simp at hi
  rcases ho.2 with ⟨rfl, h0⟩ | ⟨gd, cd, cur, rfl, _, hg, hnc, _⟩
  · have hle : l = [] := List.length_eq_zero_iff.1 h0
    subst hle
    clear ho
    go_enter Tryz.func297, Tryz.ntmps297
    go_wp2
    refine wp_loop_rounds 1 ?_
    rw [rounds_succ]
    go_wp2_with (go_at_call 301; go_loud (refine (sort_none _ _ _ _).mono ?_; rintro e w' ⟨rfl, hw⟩; have hw' := hw.symm; subst hw'))
    refine wp_loop_rounds 1 ?_
    rw [rounds_succ]
    go_wp2
    go_ret
    exact ⟨_, [], rfl, List.Perm.refl _, hasc0, World.ownsRow_nil _ _ _ _, Tch.refl _ _⟩
  · have HO : Hid (w.ownsRow 0 226 5 (.slice (some ⟨gd, 0, none⟩) l.length cd) l.length (l.flatMap Ms.row)) := ho
    have hgl := lt_of_block hg
    clear hg ho
    go_enter Tryz.func297, Tryz.ntmps297
    go_wp2_with fail
    go_loopw [5, 16] (fun dv jv wr => ∃ (j : Nat) (v1 : Value), j ≤ l.length ∧ dv = v1 ∧ jv = .int .i64 (j : Int) ∧ wr.ownsRow w.heap.size 226 5 v1 (dueL now (l.take j)).length ((dueL now (l.take j)).flatMap Ms.row) ∧ Tch [] w wr) (fun _ jv _ => l.length - (intOf jv).toNat)
    case atStart => exact ⟨0, _, Nat.zero_le _, rfl, rfl, World.ownsRow_nil _ _ _ _, Tch.refl _ _⟩
    case round =>
      obtain ⟨j, v1, hj, rfl, rfl, hv1, ht⟩ := hrel
      have HV : Hid (wr.ownsRow w.heap.size 226 5 u5 (dueL now (l.take j)).length ((dueL now (l.take j)).flatMap Ms.row)) := hv1
      have HT : Hid (Tch [] w wr) := ht
      have zr := ht.size
      have hln := dueL_len now l j
      by_cases hlt : j < l.length
      · have hor := own_tch HO.out ht (fun _ _ => by simp)
        have hgr := own_lt hor rfl
        obtain ⟨m, hm⟩ : ∃ m, l[j]? = some m := ⟨_, List.getElem?_eq_getElem hlt⟩
        have fm : ∀ i v, m.row[i]? = some v → wr.cell? ⟨gd, j * 5 + i, none⟩ = some v := fun i v hi => by
          have h1 := own_cells Ms.row 5 (fun _ => rfl) hor j hlt i v (by rw [List.getElem!_eq_getElem?_getD, hm]; exact hi)
          simpa using h1
        have g0 : wr.cell? ⟨gd, j * 5, none⟩ = some (.int .i64 m.num) := fm 0 _ rfl
        have g1 : wr.cell? ⟨gd, j * 5 + 1, none⟩ = some (.string m.grp) := fm 1 _ rfl
        have g2 : wr.cell? ⟨gd, j * 5 + 2, none⟩ = some (.string m.bod) := fm 2 _ rfl
        have g3 : wr.cell? ⟨gd, j * 5 + 3, none⟩ = some (.int .i64 m.rcv) := fm 3 _ rfl
        have g4 : wr.cell? ⟨gd, j * 5 + 4, none⟩ = some (.int .i64 m.til) := fm 4 _ rfl
        have HN : Hid (¬ (0 < m.til ∧ m.til ≤ now) → dueL now (l.take (j + 1)) = dueL now (l.take j)) := fun h => dueL_no hm h
        have HY : Hid (0 < m.til ∧ m.til ≤ now → dueL now (l.take (j + 1)) = dueL now (l.take j) ++ [m]) := fun h => dueL_yes hm h
        clear fm hor hm ht hv1
        by_cases h0 : 0 < m.til
        · by_cases h1 : m.til ≤ now
          · have HR : Hid (dueL now (l.take (j + 1)) = dueL now (l.take j) ++ [m]) := HY.out ⟨h0, h1⟩
            clear HN HY
            obtain ⟨oa, oc, hoe⟩ := own_shape' HV.out
            subst hoe
            generalize dueL now (l.take j) = D at *
            go_wp2_with (at_builtin; refine wpList_valsD w.heap.size _ rfl _ _ 187 226 rfl Tryz.underlying187 (.agg #[.int .i64 0, .string ⟨#[]⟩, .string ⟨#[]⟩, .int .i64 0, .int .i64 0]) 5 56 info214 rfl (by decide) (by decide) (.slice oa D.length oc) D.length (D.flatMap Ms.row) ?hvs ?hvo ?hvb (wr.heap.size + 1) m.row 1 ?hvx rfl (by decide) ?hvg ?hv1 (by omega) ?hvk)
            case hvo => exact own_tch HV.out (((Tch.refl [] _).alloc _).alloc _) (fun _ _ => by simp)
            case hvb => omega
            case hvg =>
              obtain ⟨_, h⟩ := Array.getElem?_eq_some_iff.1 (heap_alloc2_new wr (.cells #[.int .i64 m.num, .string m.grp, .string m.bod, .int .i64 m.rcv, .int .i64 m.til] 226) (.cells #[.int .i64 m.num, .string m.grp, .string m.bod, .int .i64 m.rcv, .int .i64 m.til] 226))
              exact h
            case hv1 => intro u hu; simp [Ms.row] at hu; rcases hu with rfl | rfl | rfl | rfl | rfl <;> rfl
            intro v2 w2 ho2 hg2 hb2
            have HO2 : Hid (w2.ownsRow w.heap.size 226 5 v2 (dueL now (l.take (j + 1))).length ((dueL now (l.take (j + 1))).flatMap Ms.row) ∧ Tch [] w w2) := by
              refine ⟨by rw [HR.out]; simpa using ho2, ((HT.out.alloc _).alloc _).grown hg2 (fun j hj hlt => ?_)⟩
              have := own_ge' HV.out j hj
              omega
            clear ho2 hg2 hb2
            go_wp2_with fail
            go_roundw
            case rel => exact ⟨j + 1, v2, by omega, rfl, by go_num, HO2.out.1, HO2.out.2⟩
            case measure => simp [intOf]; omega
          · have HR : Hid (dueL now (l.take (j + 1)) = dueL now (l.take j)) := HN.out (fun h => h1 h.2)
            clear HN HY
            go_wp2_with fail
            go_roundw
            case rel => exact ⟨j + 1, _, by omega, rfl, by go_num, by rw [HR.out]; exact own_tch HV.out ((Tch.refl [] _).alloc _) (fun _ _ => by simp), HT.out.alloc _⟩
            case measure => simp [intOf]; omega
        · have HR : Hid (dueL now (l.take (j + 1)) = dueL now (l.take j)) := HN.out (fun h => h0 h.1)
          clear HN HY
          go_wp2_with fail
          go_roundw
          case rel => exact ⟨j + 1, _, by omega, rfl, by go_num, by rw [HR.out]; exact own_tch HV.out ((Tch.refl [] _).alloc _) (fun _ _ => by simp), HT.out.alloc _⟩
          case measure => simp [intOf]; omega
      · have hje : j = l.length := by omega
        subst hje
        clear ht hv1
        obtain ⟨D, HD⟩ : ∃ D, Hid (dueL now l = D) := ⟨_, rfl⟩
        have HV2 : Hid (wr.ownsRow w.heap.size 226 5 u5 D.length (D.flatMap Ms.row)) := by
          have h := HV.out
          rw [List.take_length, HD.out] at h
          exact h
        have hDl : D.length ≤ l.length := by rw [← HD.out]; rw [List.take_length] at hln; exact hln
        clear HV hln
        rcases HV2.out.2 with ⟨rfl, h0⟩ | ⟨g, c, cur2, rfl, hb, hg, _⟩
        · have hDe : D = [] := List.length_eq_zero_iff.1 h0
          have HDE : Hid (dueL now l = []) := HD.out.trans hDe
          clear HD hDe HV2
          go_wp2_with (go_at_call 301; refine (sort_none _ _ _ _).mono ?_; rintro e w' ⟨rfl, rfl⟩)
          refine wp_loop_rounds 1 ?_
          rw [rounds_succ]
          go_wp2
          go_ret
          exact ⟨_, [], rfl, by rw [HDE.out], hasc0, World.ownsRow_nil _ _ _ _, HT.out⟩
        · have HS : Hid (Calls Tryz.prog 301 #[.slice (some ⟨g, 0, none⟩) D.length c, .func (.func 302) #[] #[]] wr _) := sort_any D g c w.heap.size wr HV2.out (by omega)
          have hgl2 := lt_of_block hg
          clear hg HV2
          go_wp2_with (go_at_call 301; refine HS.out.mono ?_; rintro e w3 ⟨rfl, l', hp, hasc, hcl, ht3⟩; have HP : Hid (l'.Perm D ∧ Asc l') := ⟨hp, hasc⟩; have hle := hp.length_eq; have HCL : Hid (∀ j (hj : j < l'.length) i u, (l'[j].row)[i]? = some u → w3.cell? ⟨g, j * 5 + i, none⟩ = some u) := hcl; have HT3 : Hid (Tch [] w w3) := (HT.out.trans ht3 (fun x hx hlt => by simp at hx; omega)); have z3 := HT3.out.size; have z4 := ht3.size; clear hp hasc hcl ht3)
          go_loopw [8, 38] (fun nv jv wq => ∃ (j : Nat) (v2 : Value), j ≤ l'.length ∧ nv = v2 ∧ jv = .int .i64 (j : Int) ∧ wq.ownsRow w3.heap.size 3 1 v2 j ((l'.take j).map fun m => .int .i64 m.num) ∧ Tch [] w3 wq) (fun _ jv _ => l'.length - (intOf jv).toNat)
          case atStart => exact ⟨0, _, Nat.zero_le _, rfl, rfl, World.ownsRow_nil _ _ _ _, Tch.refl _ _⟩
          case round =>
            obtain ⟨j, v2, hj2, rfl, rfl, hv2, ht2⟩ := hrel
            have HV2 : Hid (wr.ownsRow w3.heap.size 3 1 u8 j ((l'.take j).map fun m => .int .i64 m.num)) := hv2
            have HT2 : Hid (Tch [] w3 wr) := ht2
            have z2 := ht2.size
            have hgw : g < wr.heap.size := by omega
            have hg3 : g < w3.heap.size := by omega
            clear hv2
            by_cases hlt : j < l'.length
            · obtain ⟨m, hm⟩ : ∃ m, l'[j] = m := ⟨_, rfl⟩
              have fm : ∀ i v, m.row[i]? = some v → wr.cell? ⟨g, j * 5 + i, none⟩ = some v := fun i v hi => by
                have h1 := HCL.out j hlt i v (by rw [hm]; exact hi)
                rw [← h1]
                exact ht2.cell hg3 (by simp)
              have g0 : wr.cell? ⟨g, j * 5, none⟩ = some (.int .i64 m.num) := fm 0 _ rfl
              have g1 : wr.cell? ⟨g, j * 5 + 1, none⟩ = some (.string m.grp) := fm 1 _ rfl
              have g2 : wr.cell? ⟨g, j * 5 + 2, none⟩ = some (.string m.bod) := fm 2 _ rfl
              have g3 : wr.cell? ⟨g, j * 5 + 3, none⟩ = some (.int .i64 m.rcv) := fm 3 _ rfl
              have g4 : wr.cell? ⟨g, j * 5 + 4, none⟩ = some (.int .i64 m.til) := fm 4 _ rfl
              have HR : Hid (l'.take (j + 1) = l'.take j ++ [m]) := by
                show _ = _
                rw [List.take_add_one, List.getElem?_eq_getElem hlt, hm]
                rfl
              clear fm hm ht2
              obtain ⟨oa, oc, hoe⟩ := own_shape' HV2.out
              subst hoe
              have hj3 : j < D.length := by omega
              go_wp2_with (at_builtin; refine wpList_valsD w3.heap.size _ rfl _ _ 258 3 rfl Tryz.underlying258 (.int .i64 0) 1 8 info3 rfl (by decide) (by decide) (.slice oa j oc) j ((l'.take j).map fun m => .int .i64 m.num) ?hys ?hyo ?hyb (wr.heap.size + 1) [.int .i64 m.num] 1 ?hyx rfl (by decide) ?hyg ?hy1 (by omega) ?hyk)
              case hyo => exact own_tch HV2.out (((Tch.refl [] _).alloc _).alloc _) (fun _ _ => by simp)
              case hys => simp [Act.eval, Act.put]
              case hyx => simp [Act.eval, Act.put]
              case hyb => simp only [World.size_alloc]; omega
              case hyg => exact heap_alloc2_new _ _ _
              case hy1 => intro u hu; simp at hu; subst hu; rfl
              intro v2 w2 ho2 hg2 hb2
              have HO2 : Hid (w2.ownsRow w3.heap.size 3 1 v2 (j + 1) ((l'.take (j + 1)).map fun m => .int .i64 m.num) ∧ Tch [] w3 w2) := by
                refine ⟨by rw [HR.out]; simpa using ho2, ((HT2.out.alloc _).alloc _).grown hg2 (fun j hj hlt => ?_)⟩
                have := own_ge' HV2.out j hj
                omega
              clear ho2 hg2 hb2
              go_wp2_with fail
              go_roundw
              case rel => exact ⟨j + 1, v2, by omega, rfl, by go_num, HO2.out.1, HO2.out.2⟩
              case measure => simp [intOf]; omega
            · have hje : j = l'.length := by omega
              subst hje
              clear ht2
              obtain ⟨oa, oc, hoe⟩ := own_shape' HV2.out
              subst hoe
              have hDe : ¬ ((l'.length : Int) < (D.length : Int)) := by omega
              have HF : Hid (wr.ownsRow w3.heap.size 3 1 (.slice oa D.length oc) l'.length (l'.map fun m => .int .i64 m.num)) := by
                have h := HV2.out
                rw [List.take_length] at h
                show wr.ownsRow _ _ _ _ _ _
                rw [← hle]
                exact h
              go_wp2_with fail
              go_ret
              refine ⟨_, rfl, l', by rw [HD.out]; exact HP.out.1, HP.out.2, own_le HF.out z3, HT3.out.trans HT2.out (fun x hx => by simp at hx)⟩
theorem add_zero_at (g j : Nat) : (⟨g, 0, none⟩ : Addr).add j = ⟨g, j, none⟩ := by unfold Addr.add; split <;> simp_all
set_option maxRecDepth 8000 in
set_option maxHeartbeats 2000000 in
theorem bring_walk (I : Nat → List Int → World → Prop) (K : World → Prop) (st qb : Nat) (now : Int) (dv : Value) (w : World) (c0 : w.cell? ⟨st, 0, none⟩ = some (.int .i64 now))
    (hD : Calls Tryz.prog 204 #[.pointer (some ⟨st, 0, none⟩), .pointer (some ⟨qb, 0, none⟩)] w fun e w' => e = .returned dv ∧ w' = w)
    (hU : Calls Tryz.prog 297 #[.pointer (some ⟨qb, 0, none⟩), .int .i64 now] w fun e w' => ∃ v ns, e = .returned v ∧ w'.ownsRow w.heap.size 3 1 v ns.length (ns.map fun n => .int .i64 n) ∧ ns.length ≤ 1000 ∧ I w'.heap.size ns w')
    (hS : ∀ B n ns W, I B (n :: ns) W → Calls Tryz.prog 203 #[.pointer (some ⟨qb, 0, none⟩), .int .i64 n, dv] W fun e w' => e = .returned (.tuple #[]) ∧ I B ns w' ∧ ∃ S, Tch S W w' ∧ ∀ x ∈ S, x < w.heap.size ∨ B ≤ x)
    (hK : ∀ B W, I B [] W → K W) :
    Calls Tryz.prog 271 #[.pointer (some ⟨st, 0, none⟩), .pointer (some ⟨qb, 0, none⟩)] w fun e w' => e = .returned (.tuple #[]) ∧ K w' := by
  have HD : Hid (Calls Tryz.prog 204 #[.pointer (some ⟨st, 0, none⟩), .pointer (some ⟨qb, 0, none⟩)] w fun e w' => e = .returned dv ∧ w' = w) := hD
  have HU : Hid (Calls Tryz.prog 297 #[.pointer (some ⟨qb, 0, none⟩), .int .i64 now] w fun e w' => ∃ v ns, e = .returned v ∧ w'.ownsRow w.heap.size 3 1 v ns.length (ns.map fun n => .int .i64 n) ∧ ns.length ≤ 1000 ∧ I w'.heap.size ns w') := hU
  have HS : Hid (∀ B n ns W, I B (n :: ns) W → Calls Tryz.prog 203 #[.pointer (some ⟨qb, 0, none⟩), .int .i64 n, dv] W fun e w' => e = .returned (.tuple #[]) ∧ I B ns w' ∧ ∃ S, Tch S W w' ∧ ∀ x ∈ S, x < w.heap.size ∨ B ≤ x) := hS
  have HK : Hid (∀ B W, I B [] W → K W) := hK
  have hl := World.block_lt_of_cell? _ _ c0
  clear hD hU hS hK
  go_enter Tryz.func271, Tryz.ntmps271
  go_wp2_with fail
  refine HD.out.mono ?_
  rintro e w' ⟨rfl, h'⟩
  have h'' := h'.symm
  subst h''
  clear HD
  go_wp2_with fail
  refine HU.out.mono ?_
  rintro e w1 ⟨v, ns, rfl, ho, hn, hI⟩
  clear HU
  have HI : Hid (I w1.heap.size ns w1) := hI
  clear hI
  rcases ho.2 with ⟨rfl, h0⟩ | ⟨g, c, cur, rfl, hb, hg, _⟩
  · have hne : ns = [] := List.length_eq_zero_iff.1 h0
    subst hne
    have HK1 : Hid (K w1) := HK.out _ _ HI.out
    clear HI HK HS ho
    go_wp2_with fail
    refine wp_loop_rounds 1 ?_
    rw [rounds_succ]
    go_wp2_with fail
    go_end0
    exact ⟨rfl, HK1.out⟩
  · have hgl := lt_of_block hg
    have HO1 : Hid (w1.ownsRow w.heap.size 3 1 (.slice (some ⟨g, 0, none⟩) ns.length c) ns.length (ns.map fun n => .int .i64 n)) := ho
    clear ho hg
    obtain ⟨B, hB⟩ : ∃ B, B = w1.heap.size := ⟨_, rfl⟩
    rw [← hB] at HI hgl
    go_wp2_with fail
    go_loopw [17] (fun jv wr => ∃ j : Nat, j ≤ ns.length ∧ jv = .int .i64 (j : Int) ∧ wr.ownsRow w.heap.size 3 1 (.slice (some ⟨g, 0, none⟩) ns.length c) ns.length (ns.map fun n => .int .i64 n) ∧ I B (ns.drop j) wr) (fun jv _ => ns.length - (intOf jv).toNat)
    case atStart => exact ⟨0, Nat.zero_le _, rfl, HO1.out, HI.out⟩
    case round =>
      obtain ⟨j, hj, rfl, ho, hI⟩ := hrel
      have HO : Hid (wr.ownsRow w.heap.size 3 1 (.slice (some ⟨g, 0, none⟩) ns.length c) ns.length (ns.map fun n => .int .i64 n)) := ho
      by_cases hlt : j < ns.length
      · have hdrop : ns.drop j = ns[j] :: ns.drop (j + 1) := List.drop_eq_getElem_cons hlt
        have hgr := own_lt ho rfl
        have cj : wr.cell? ⟨g, j, none⟩ = some (.int .i64 ns[j]) := by
          have h1 := World.ownsRow.cells ho (g := g) rfl j (.int .i64 ns[j]) (by simp [hlt])
          rw [add_zero_at] at h1
          exact h1
        rw [hdrop] at hI
        have HC := HS.out _ _ _ _ hI
        generalize ns[j] = n at *
        have HC' : Hid (Calls Tryz.prog 203 #[.pointer (some ⟨qb, 0, none⟩), .int .i64 n, dv] wr fun e w' => e = .returned (.tuple #[]) ∧ I B (ns.drop (j + 1)) w' ∧ ∃ S, Tch S wr w' ∧ ∀ x ∈ S, x < w.heap.size ∨ B ≤ x) := HC
        clear HC hI hdrop ho
        go_wp2_with fail
        refine HC'.out.mono ?_
        rintro e w2 ⟨rfl, hI2, S, hT, hSx⟩
        have HN : Hid (w2.ownsRow w.heap.size 3 1 (.slice (some ⟨g, 0, none⟩) ns.length c) ns.length (ns.map fun n => .int .i64 n) ∧ I B (ns.drop (j + 1)) w2) := ⟨own_tch HO.out hT (fun k hk hm => by
          simp [Value.ownBlock] at hk
          subst hk
          rcases hSx g hm with h | h <;> omega), hI2⟩
        clear hI2 hT hSx HC'
        go_wp2_with fail
        go_roundw
        case rel => exact ⟨j + 1, by omega, by go_num, HN.out.1, HN.out.2⟩
        case measure => simp [intOf]; omega
      · have hje : j = ns.length := by omega
        subst hje
        have HK1 : Hid (K wr) := HK.out B wr (by rw [List.drop_length] at hI; exact hI)
        clear hI ho
        go_wp2_with fail
        go_end0
        exact ⟨rfl, HK1.out⟩
theorem qrow_cell {w : World} {base : Nat} {oa : Option Addr} {oc : Nat} {qs : List Nat} (h : w.ownsRow base 152 1 (.slice oa qs.length oc) qs.length (qs.map fun q => .pointer (some ⟨q, 0, none⟩))) (j : Nat) (hj : j < qs.length) :
    ∃ g, oa = some ⟨g, 0, none⟩ ∧ base ≤ g ∧ g < w.heap.size ∧ w.cell? ⟨g, j, none⟩ = some (.pointer (some ⟨qs[j], 0, none⟩)) := by
  rcases h.2 with ⟨h1, h0⟩ | ⟨g, c, cur, h1, hb, hg, _⟩
  · omega
  · simp only [Value.slice.injEq, true_and] at h1
    obtain ⟨rfl, rfl⟩ := h1
    have h2 := World.ownsRow.cells h (g := g) rfl j (.pointer (some ⟨qs[j], 0, none⟩)) (by simp [hj])
    rw [add_zero_at] at h2
    exact ⟨g, rfl, hb, lt_of_block hg, h2⟩
set_option maxRecDepth 8000 in
set_option maxHeartbeats 4000000 in
theorem setg_walk (I : Nat → List Nat → World → Prop) (J : Nat → Nat → List Nat → World → Prop) (K : World → Prop) (st b : Nat) (now0 now : Int) (Pq : Nat → Option Nat) (w : World) (h : Stb w st b now0 (fun i => ptrV (Pq i)))
    (hI0 : ∀ W, Tch [] (w.setCell ⟨st, 0, none⟩ (.int .i64 now)) W → I W.heap.size (qsL Pq 8) W)
    (hI : ∀ B q qs W, I B (q :: qs) W → Calls Tryz.prog 270 #[.pointer (some ⟨q, 0, none⟩), .int .i64 now] W fun e w' => e = .returned (.tuple #[]) ∧ I B qs w' ∧ ∃ S, Tch S W w' ∧ ∀ x ∈ S, x < w.heap.size ∨ B ≤ x)
    (hIJ : ∀ B W, I B [] W → Stb W st b now (fun i => ptrV (Pq i)) ∧ ∀ W', Tch [] W W' → J W.heap.size W'.heap.size (qsL Pq 8) W')
    (hJ : ∀ A B q qs W, J A B (q :: qs) W → Calls Tryz.prog 271 #[.pointer (some ⟨st, 0, none⟩), .pointer (some ⟨q, 0, none⟩)] W fun e w' => e = .returned (.tuple #[]) ∧ J A B qs w' ∧ ∃ S, Tch S W w' ∧ ∀ x ∈ S, x < A ∨ B ≤ x)
    (hK : ∀ A B W, J A B [] W → K W) :
    Calls Tryz.prog 221 #[.pointer (some ⟨st, 0, none⟩), .int .i64 now] w fun e w' => e = .returned (.tuple #[]) ∧ K w' := by
  have c0 := h.now
  have z0 := h.fz 0
  have hl := h.lt
  obtain ⟨ws, hws⟩ : ∃ ws, ws = w.setCell ⟨st, 0, none⟩ (.int .i64 now) := ⟨_, rfl⟩
  have hst : Stb ws st b now (fun i => ptrV (Pq i)) := by rw [hws]; exact h.set0 now
  have zs : ws.heap.size = w.heap.size := by rw [hws]; exact World.size_setCell _ _ _
  have HT := there_g st b now Pq ws hst
  rw [zs] at HT
  have HTH : Hid (Calls Tryz.prog 93 #[.pointer (some ⟨st, 0, none⟩)] ws fun e w' => ∃ v, e = .returned v ∧ w'.ownsRow w.heap.size 152 1 v (qsL Pq 8).length ((qsL Pq 8).map fun q => .pointer (some ⟨q, 0, none⟩)) ∧ Tch [] ws w') := HT
  rw [← hws] at hI0
  have HI0 : Hid (∀ W, Tch [] ws W → I W.heap.size (qsL Pq 8) W) := hI0
  have HI : Hid (∀ B q qs W, I B (q :: qs) W → Calls Tryz.prog 270 #[.pointer (some ⟨q, 0, none⟩), .int .i64 now] W fun e w' => e = .returned (.tuple #[]) ∧ I B qs w' ∧ ∃ S, Tch S W w' ∧ ∀ x ∈ S, x < w.heap.size ∨ B ≤ x) := hI
  have HIJ : Hid (∀ B W, I B [] W → Stb W st b now (fun i => ptrV (Pq i)) ∧ ∀ W', Tch [] W W' → J W.heap.size W'.heap.size (qsL Pq 8) W') := hIJ
  have HJ : Hid (∀ A B q qs W, J A B (q :: qs) W → Calls Tryz.prog 271 #[.pointer (some ⟨st, 0, none⟩), .pointer (some ⟨q, 0, none⟩)] W fun e w' => e = .returned (.tuple #[]) ∧ J A B qs w' ∧ ∃ S, Tch S W w' ∧ ∀ x ∈ S, x < A ∨ B ≤ x) := hJ
  have HK : Hid (∀ A B W, J A B [] W → K W) := hK
  have HTG : Hid (∀ W, Stb W st b now (fun i => ptrV (Pq i)) → Calls Tryz.prog 93 #[.pointer (some ⟨st, 0, none⟩)] W fun e w' => ∃ v, e = .returned v ∧ w'.ownsRow W.heap.size 152 1 v (qsL Pq 8).length ((qsL Pq 8).map fun q => .pointer (some ⟨q, 0, none⟩)) ∧ Tch [] W w') := fun W hW => there_g st b now Pq W hW
  have hq8 := qsL_len Pq 8
  clear h hst HT hI0 hI hIJ hJ hK zs
  generalize qsL Pq 8 = qs at *
  go_enter Tryz.func221, Tryz.ntmps221
  go_wp2_with fail
  rw [← hws]
  clear hws
  refine HTH.out.mono ?_
  rintro e w1 ⟨v, rfl, ho, ht⟩
  have HI1 : Hid (I w1.heap.size qs w1) := HI0.out w1 ht
  clear HTH HI0 ht
  obtain ⟨B, hB⟩ : ∃ B, B = w1.heap.size := ⟨_, rfl⟩
  rw [← hB] at HI1
  obtain ⟨oa, oc, hoe⟩ := own_shape' ho
  subst hoe
  have HO1 : Hid (w1.ownsRow w.heap.size 152 1 (.slice oa qs.length oc) qs.length (qs.map fun q => .pointer (some ⟨q, 0, none⟩))) := ho
  have HGB : Hid (∀ g, oa = some ⟨g, 0, none⟩ → 0 < qs.length → w.heap.size ≤ g ∧ g < B) := fun g hg h0 => by
    obtain ⟨g', hg', h1, h2, _⟩ := qrow_cell ho 0 h0
    rw [hg] at hg'
    simp only [Option.some.injEq, Addr.mk.injEq, and_true] at hg'
    subst hg'
    rw [hB]
    exact ⟨h1, h2⟩
  clear ho hB
  go_wp2_with fail
  go_loopw [15] (fun jv wr => ∃ j : Nat, j ≤ qs.length ∧ jv = .int .i64 (j : Int) ∧ wr.ownsRow w.heap.size 152 1 (.slice oa qs.length oc) qs.length (qs.map fun q => .pointer (some ⟨q, 0, none⟩)) ∧ I B (qs.drop j) wr) (fun jv _ => qs.length - (intOf jv).toNat)
  case atStart => exact ⟨0, Nat.zero_le _, rfl, HO1.out, HI1.out⟩
  case round =>
    obtain ⟨j, hj, rfl, ho, hIj⟩ := hrel
    have HO : Hid (wr.ownsRow w.heap.size 152 1 (.slice oa qs.length oc) qs.length (qs.map fun q => .pointer (some ⟨q, 0, none⟩))) := ho
    by_cases hlt : j < qs.length
    · have hdrop : qs.drop j = qs[j] :: qs.drop (j + 1) := List.drop_eq_getElem_cons hlt
      obtain ⟨g, hoa, hbg, hgr, cj⟩ := qrow_cell ho j hlt
      have hgB := HGB.out g hoa (by omega)
      subst hoa
      rw [hdrop] at hIj
      have HC := HI.out _ _ _ _ hIj
      generalize qs[j] = q at *
      have HC' : Hid (Calls Tryz.prog 270 #[.pointer (some ⟨q, 0, none⟩), .int .i64 now] wr fun e w' => e = .returned (.tuple #[]) ∧ I B (qs.drop (j + 1)) w' ∧ ∃ S, Tch S wr w' ∧ ∀ x ∈ S, x < w.heap.size ∨ B ≤ x) := HC
      clear HC hIj hdrop ho
      go_wp2_with fail
      refine HC'.out.mono ?_
      rintro e w2 ⟨rfl, hI2, S, hT, hSx⟩
      have HN : Hid (w2.ownsRow w.heap.size 152 1 (.slice (some ⟨g, 0, none⟩) qs.length oc) qs.length (qs.map fun q => .pointer (some ⟨q, 0, none⟩)) ∧ I B (qs.drop (j + 1)) w2) := ⟨own_tch HO.out hT (fun k hk hm => by
        simp [Value.ownBlock] at hk
        subst hk
        rcases hSx g hm with h | h <;> omega), hI2⟩
      clear hI2 hT hSx HC'
      go_wp2_with fail
      go_roundw
      case rel => exact ⟨j + 1, by omega, by go_num, HN.out.1, HN.out.2⟩
      case measure => simp [intOf]; omega
    · have hje : j = qs.length := by omega
      subst hje
      rw [List.drop_length] at hIj
      obtain ⟨hst2, hJ0⟩ := HIJ.out B wr hIj
      have HT2 : Hid (Calls Tryz.prog 93 #[.pointer (some ⟨st, 0, none⟩)] wr _) := HTG.out wr hst2
      have HJ0 : Hid (∀ W', Tch [] wr W' → J wr.heap.size W'.heap.size qs W') := hJ0
      clear hIj hst2 hJ0 ho HO HI HIJ HTG HO1 HI1 HGB
      go_wp2_with fail
      refine HT2.out.mono ?_
      rintro e w1 ⟨v, rfl, ho, ht⟩
      have HJ1 : Hid (J wr.heap.size w1.heap.size qs w1) := HJ0.out w1 ht
      obtain ⟨B2, hB⟩ : ∃ B2, B2 = w1.heap.size := ⟨_, rfl⟩
      obtain ⟨A, hA⟩ : ∃ A, A = wr.heap.size := ⟨_, rfl⟩
      rw [← hB, ← hA] at HJ1
      rw [← hA] at ho
      obtain ⟨oa2, oc2, hoe⟩ := own_shape' ho
      subst hoe
      have HO1 : Hid (w1.ownsRow A 152 1 (.slice oa2 qs.length oc2) qs.length (qs.map fun q => .pointer (some ⟨q, 0, none⟩))) := ho
      have HGB : Hid (∀ g, oa2 = some ⟨g, 0, none⟩ → 0 < qs.length → A ≤ g ∧ g < B2) := fun g hg h0 => by
        obtain ⟨g', hg', h1, h2, _⟩ := qrow_cell ho 0 h0
        rw [hg] at hg'
        simp only [Option.some.injEq, Addr.mk.injEq, and_true] at hg'
        subst hg'
        rw [hB]
        exact ⟨h1, h2⟩
      clear ho hB hA ht HT2 HJ0
      go_wp2_with fail
      go_loopw [26] (fun jv wq => ∃ j : Nat, j ≤ qs.length ∧ jv = .int .i64 (j : Int) ∧ wq.ownsRow A 152 1 (.slice oa2 qs.length oc2) qs.length (qs.map fun q => .pointer (some ⟨q, 0, none⟩)) ∧ J A B2 (qs.drop j) wq) (fun jv _ => qs.length - (intOf jv).toNat)
      case atStart => exact ⟨0, Nat.zero_le _, rfl, HO1.out, HJ1.out⟩
      case round =>
        obtain ⟨j, hj2, rfl, ho, hIj⟩ := hrel
        have HO : Hid (wr.ownsRow A 152 1 (.slice oa2 qs.length oc2) qs.length (qs.map fun q => .pointer (some ⟨q, 0, none⟩))) := ho
        by_cases hlt : j < qs.length
        · have hdrop : qs.drop j = qs[j] :: qs.drop (j + 1) := List.drop_eq_getElem_cons hlt
          obtain ⟨g, hoa, hbg, hgr, cj⟩ := qrow_cell ho j hlt
          have hgB := HGB.out g hoa (by omega)
          subst hoa
          rw [hdrop] at hIj
          have HC := HJ.out _ _ _ _ _ hIj
          generalize qs[j] = q at *
          have HC' : Hid (Calls Tryz.prog 271 #[.pointer (some ⟨st, 0, none⟩), .pointer (some ⟨q, 0, none⟩)] wr fun e w' => e = .returned (.tuple #[]) ∧ J A B2 (qs.drop (j + 1)) w' ∧ ∃ S, Tch S wr w' ∧ ∀ x ∈ S, x < A ∨ B2 ≤ x) := HC
          clear HC hIj hdrop ho
          go_wp2_with fail
          refine HC'.out.mono ?_
          rintro e w2 ⟨rfl, hI2, S, hT, hSx⟩
          have HN : Hid (w2.ownsRow A 152 1 (.slice (some ⟨g, 0, none⟩) qs.length oc2) qs.length (qs.map fun q => .pointer (some ⟨q, 0, none⟩)) ∧ J A B2 (qs.drop (j + 1)) w2) := ⟨own_tch HO.out hT (fun k hk hm => by
            simp [Value.ownBlock] at hk
            subst hk
            rcases hSx g hm with h | h <;> omega), hI2⟩
          clear hI2 hT hSx HC'
          go_wp2_with fail
          go_roundw
          case rel => exact ⟨j + 1, by omega, by go_num, HN.out.1, HN.out.2⟩
          case measure => simp [intOf]; omega
        · have hje : j = qs.length := by omega
          subst hje
          have HK1 : Hid (K wr) := HK.out A B2 wr (by rw [List.drop_length] at hIj; exact hIj)
          clear hIj ho
          go_wp2_with fail
          go_end0
          exact ⟨rfl, HK1.out⟩
end Go.Proofs.YtbdobaapadlcjaaGreatDoor
