/-
  DISKS: Names of the reference's disk.
-/
import Derived.Test.YtbdobaapadlcjaaDoorDkJ
namespace Go.Proofs.YtbdobaapadlcjaaDoor.Dk
open Go.RowKit
set_option linter.unusedVariables false
set_option linter.unusedSimpArgs false

/-- Strings are put behind the others, as one step of a region that draws its order. -/
theorem step_strs {ops : Array Oper} {o : Oper} {a : Act} {w : World} {K : Act → World → Prop} {Q : Exit → Act → World → Prop} {E : Prop} (hgd : o.guard = none) (s x : Operand)
    (ho : o.op = .call { callee := .builtin .append, args := #[s, x], argTypes := #[28, 28] })
    (v : Value) (l : List ByteArray) (hs : a.eval s = v) (hown : OwnS w v l) (g : Nat) (news : List ByteArray) (m : Nat) (hx : a.eval x = .slice (some ⟨g, 0, none⟩) m m) (hm : news.length = m) (hm0 : 0 < m) (hg : w.heap[g]? = some (.cells (news.map Value.string).toArray 9 (0, 0))) (hn : l.length + m ≤ 1073741824)
    (h : ∀ v' w', OwnS w' v' (l ++ news) → w.grownBy w' v.ownBlock → (v'.ownBlock = v.ownBlock ∨ v'.ownBlock = some w.heap.size) → K (a.put o.dst v') w') :
    if Region.wanted o (yielded ops a.tmps) = true then Oper.wp Tryd.prog o a w K Q else E := by
  have hw : Region.wanted o (yielded ops a.tmps) = true := by simp [Region.wanted, hgd]
  rw [if_pos hw]
  obtain ⟨i0, hi, hz0, hz1, hz2⟩ := info_parts info9
  obtain ⟨v', w', hr, h2, h3, h4⟩ := run_app (P := Tryd.prog) w 0 28 o.type 9 i0 _ 1 16 Tryd.underlying28 hi hz0 hz1 hz2 rfl (by decide) v l.length (l.map Value.string) hown ⟨g, 0, none⟩ m m (news.map Value.string) (by simp [hm]) (fun j u hj => by
    have e : (⟨g, 0, none⟩ : Addr).add j = ⟨g, j, none⟩ := by unfold Addr.add; split <;> simp_all
    rw [e, cell_of_row w g j _ 9 (0, 0) hg, ← hj]
    simp) (fun u hu => by
    obtain ⟨b, _, rfl⟩ := List.mem_map.1 hu
    rfl) (by unfold maxLen; omega) (by omega) (Nat.zero_le _) hm0
  unfold Oper.wp execOp
  simp only [ho, resolve, invoke, builtin, Sem.run_bind, Sem.run_pure, Result.andThen_ok, List.map_toArray, List.map_cons, List.map_nil, hs, hx, hr]
  refine h v' w' ?_ h3 h4
  show w'.ownsRow 0 9 1 v' (l ++ news).length ((l ++ news).map Value.string)
  rw [List.length_append, List.map_append, hm]
  exact h2

/-- What the reference has behind j of the names that rise. -/
def midN (x : ByteArray) (l : List ByteArray) : List ByteArray := if l.any (lt x) = true then insN x l else l
theorem midN_nil (x : ByteArray) : midN x [] = [] := rfl
theorem midN_old {x e : ByteArray} {l : List ByteArray} (h : l.any (lt x) = true) : midN x (l ++ [e]) = midN x l ++ [e] ∧ (l ++ [e]).any (lt x) = true := by
  have h2 : (l ++ [e]).any (lt x) = true := by rw [List.any_append, h]; rfl
  refine ⟨?_, h2⟩
  unfold midN
  rw [if_pos h, if_pos h2]
  induction l with
  | nil => simp at h
  | cons a l ih =>
    cases ha : lt x a with
    | true => simp [insN, ha]
    | false =>
      have h3 : l.any (lt x) = true := by rw [List.any_cons, ha] at h; exact h
      have h4 := ih h3 (by rw [List.any_append, h3]; rfl)
      unfold insN at h4 ⊢
      simp only [List.cons_append, List.takeWhile_cons, List.dropWhile_cons, ha, Bool.not_false, if_true]
      rw [h4]
theorem any_no {x : ByteArray} {l : List ByteArray} (h : l.any (lt x) = false) : ∀ e ∈ l, lt x e = false := fun e he => by
  have := List.any_eq_false.1 h e he
  simpa using this
theorem midN_new {x e : ByteArray} {l : List ByteArray} (h : l.any (lt x) = false) (he : lt x e = true) : midN x (l ++ [e]) = midN x l ++ [x] ++ [e] ∧ (l ++ [e]).any (lt x) = true := by
  have h2 : (l ++ [e]).any (lt x) = true := by rw [List.any_append]; simp [he]
  refine ⟨?_, h2⟩
  have e1 : midN x l = l := by unfold midN; simp [h]
  have e2 : midN x (l ++ [e]) = insN x (l ++ [e]) := by unfold midN; rw [if_pos h2]
  rw [e1, e2, insN_split (any_no h) (.inr ⟨e, [], rfl, he⟩)]
  simp
theorem midN_pass {x e : ByteArray} {l : List ByteArray} (h : l.any (lt x) = false) (he : lt x e = false) : midN x (l ++ [e]) = midN x l ++ [e] ∧ (l ++ [e]).any (lt x) = false := by
  have h2 : (l ++ [e]).any (lt x) = false := by rw [List.any_append, h]; simp [he]
  refine ⟨?_, h2⟩
  have e1 : midN x l = l := by unfold midN; simp [h]
  have e2 : midN x (l ++ [e]) = l ++ [e] := by unfold midN; rw [h2]; rfl
  rw [e1, e2]
theorem midN_end {x : ByteArray} {l : List ByteArray} : insN x l = if l.any (lt x) = true then midN x l else midN x l ++ [x] := by
  unfold midN
  cases h : l.any (lt x) with
  | true => rfl
  | false =>
    rw [if_neg (by simp), if_neg (by simp)]
    exact insN_none (any_no h)
theorem midN_len (x : ByteArray) (l : List ByteArray) : (midN x l).length ≤ l.length + 1 := by
  unfold midN
  split
  · rw [insN_len]; omega
  · omega

set_option maxRecDepth 10000 in
set_option maxHeartbeats 4000000 in
theorem names_r (p : Nat) (v : Value) (left : Int) (st : Bool) (fs : List DF) (w : World) (h : DBlk w p 79 v left st) (ho : Own w 83 v fs) (hn : fs.length < 8388608) :
    Calls Tryd.prog 53 #[.pointer (some ⟨p, 0, none⟩)] w fun e w' => ∃ a1 cap1, e = .returned (.slice a1 fs.length cap1) ∧ OwnS w' (.slice a1 fs.length cap1) (nmS fs) ∧ (∀ b, (Value.slice a1 fs.length cap1).ownBlock = some b → w.heap.size ≤ b) ∧ Tch [] w w' := by
  have h0 := h.c0
  obtain ⟨a, cap, rfl, hc⟩ := ho.at
  have HC : Hid (∀ j (hj : j < fs.length), ∃ g, a = some ⟨g, 0, none⟩ ∧ w.cell? ⟨g, j * 3, none⟩ = some (.string fs[j].name) ∧ w.cell? ⟨g, j * 3 + 1, none⟩ = some (.string fs[j].data) ∧ w.cell? ⟨g, j * 3 + 2, none⟩ = some (.int .i64 (fs[j].safe : Nat))) := hc
  have HB : Hid (DBlk w p 79 (.slice a fs.length cap) left st) := h
  clear hc h ho
  go_enter Tryd.func53, Tryd.ntmps53
  go_wp2_with fail
  go_loopw [3, 4] (fun ov i wr => ∃ (k : Nat) (v1 : Value), k ≤ fs.length ∧ ov = v1 ∧ i = .int .i64 k ∧ OwnS wr v1 (nmS (fs.take k)) ∧ (∀ b, v1.ownBlock = some b → w.heap.size ≤ b) ∧ Tch [] w wr) (fun _ i _ => fs.length - (intOf i).toNat)
  case atStart => exact ⟨0, _, Nat.zero_le _, rfl, rfl, OwnS.nil _, fun b hb => by simp [Value.ownBlock] at hb, Tch.refl _ _⟩
  case round =>
    obtain ⟨k, v1, hk, rfl, rfl, hown, hnew, htch⟩ := hrel
    have HOW : Hid (OwnS wr u3 (nmS (fs.take k)) ∧ (∀ b, u3.ownBlock = some b → w.heap.size ≤ b) ∧ Tch [] w wr) := ⟨hown, hnew, htch⟩
    have c0 := (htch.cell HB.out.lt (by simp)).trans h0
    by_cases hkn : k < fs.length
    · obtain ⟨g, rfl, c1, c2, c3⟩ := HC.out k hkn
      have d1 := (htch.cell (World.block_lt_of_cell? _ _ c1) (by simp)).trans c1
      have HTK : Hid (nmS (fs.take (k + 1)) = insN fs[k].name (nmS (fs.take k))) := by
        show _ = _
        rw [List.take_succ_eq_append_getElem hkn, nmS_snoc]
      have hln : (nmS (fs.take k)).length = k := by rw [nmS_len, List.length_take]; omega
      obtain ⟨ao, co, ho3, _⟩ := hown.at
      rw [hln] at ho3
      have hpw := HB.out.lt
      have hgw := World.block_lt_of_cell? _ _ d1
      clear c1 c2 c3 hown hnew h0
      generalize fs[k].name = x at d1 HTK
      generalize nmS (fs.take k) = R at HOW HTK hln
      have hkl : ((k : Int) < (fs.length : Int)) := by omega
      subst ho3
      have HTW : Hid (Tch [] w wr) := htch
      clear htch
      obtain ⟨w0, hw0⟩ : ∃ w0, w0 = wr := ⟨_, rfl⟩
      have HW0 : Hid (OwnS w0 (.slice ao k co) R ∧ (∀ b, (Value.slice ao k co).ownBlock = some b → w.heap.size ≤ b) ∧ Tch [] w w0 ∧ p < w0.heap.size ∧ g < w0.heap.size ∧ w0.cell? ⟨p, 0, none⟩ = some (.slice (some ⟨g, 0, none⟩) fs.length cap) ∧ w0.cell? ⟨g, k * 3, none⟩ = some (.string x)) := by
        rw [hw0]
        exact ⟨HOW.out.1, HOW.out.2.1, HOW.out.2.2, Nat.lt_of_lt_of_le hpw HTW.out.size, hgw, c0, d1⟩
      have HWE : Hid (w0 = wr) := hw0
      clear hw0
      go_wp2_with fail
      go_loopw [5, 6, 7] (fun lv bv kv wq => ∃ (j : Nat) (v2 : Value), j ≤ k ∧ lv = v2 ∧ bv = .bool ((R.take j).any (lt x)) ∧ kv = .int .i64 j ∧ OwnS wq v2 (midN x (R.take j)) ∧ (∀ b, v2.ownBlock = some b → w0.heap.size ≤ b) ∧ Tch [] w0 wq) (fun _ _ kv _ => k - (intOf kv).toNat)
      case atStart => exact ⟨0, _, Nat.zero_le _, rfl, rfl, rfl, OwnS.nil _, fun b hb => by simp [Value.ownBlock] at hb, by rw [HWE.out]; exact Tch.refl _ _⟩
      case round =>
        obtain ⟨j, v2, hj, rfl, rfl, rfl, hoq, hnq, htq⟩ := hrel
        have HQ : Hid (OwnS wr u5 (midN x (R.take j)) ∧ (∀ b, u5.ownBlock = some b → w0.heap.size ≤ b) ∧ Tch [] w0 wr) := ⟨hoq, hnq, htq⟩
        have q0 := (htq.cell (a := ⟨p, 0, none⟩) HW0.out.2.2.2.1 (by simp)).trans HW0.out.2.2.2.2.2.1
        have q1 := (htq.cell (a := ⟨g, k * 3, none⟩) HW0.out.2.2.2.2.1 (by simp)).trans HW0.out.2.2.2.2.2.2
        clear c0 d1
        by_cases hjn : j < k
        · have hjl : ((j : Int) < (k : Int)) := by omega
          have hRj : R[j]? = some (R[j]'(by omega)) := List.getElem?_eq_getElem (by omega)
          obtain ⟨aq, cq, eq, hcq⟩ := HW0.out.1.at
          rw [hln] at eq
          injection eq with eq1 eq2 eq3
          subst eq1 eq3
          obtain ⟨g3, hg3, q3, _⟩ := hcq j (by omega)
          subst hg3
          have q2 := (htq.cell (World.block_lt_of_cell? _ _ q3) (by simp)).trans q3
          have htk : R.take (j + 1) = R.take j ++ [R[j]'(by omega)] := List.take_succ_eq_append_getElem (by omega)
          have HML : Hid ((midN x (R.take j)).length ≤ 8388609) := by
            show _ ≤ _
            have := midN_len x (R.take j)
            rw [List.length_take] at this
            omega
          generalize (R[j]'(by omega)) = y at q2 q3 htk hRj
          have HQ3 : Hid (w0.cell? ⟨g3, j, none⟩ = some (.string y)) := q3
          clear q3
          have HGT : Hid ((!(Op.bytesLess y.toList x.toList || y.toList == x.toList)) = lt x y) := lt_gt y x
          clear hoq hnq htq hcq eq2 hRj
          have HTJ : Hid (R.take (j + 1) = R.take j ++ [y]) := htk
          clear htk
          generalize R.take j = A at HQ HML HTJ ⊢
          cases hin : A.any (lt x) with
          | true =>
            obtain ⟨hm1, hm2⟩ := midN_old (e := y) hin
            generalize midN x A = M at HQ HML hm1
            have HM : Hid (midN x (A ++ [y]) = M ++ [y] ∧ (A ++ [y]).any (lt x) = true) := ⟨hm1, hm2⟩
            clear hm1 hm2 hin
            go_wp2_with fail
            go_quiet (fail)
            go_wp2_with (at_builtin; refine wpList_strs _ rfl _ _ rfl u5 M rfl (HQ.out.1.tch (((Tch.refl [] _).drewN nq).alloc _) (fun _ _ => by simp)) wr.heap.size [y] 1 rfl rfl (by decide) (heap_alloc_new _ _) (by have := HML.out; omega) ?_)
            intro v' w3 ho3 hg3 hb3
            have HFN : Hid (OwnS w3 v' (M ++ [y]) ∧ (∀ b, v'.ownBlock = some b → w0.heap.size ≤ b) ∧ Tch [] w0 w3) := by
              refine ⟨ho3, fun b hb => ?_, ?_⟩
              · rcases hb3 with h | h
                · exact HQ.out.2.1 b (h.symm.trans hb)
                · rw [hb] at h
                  injection h with h
                  have := HQ.out.2.2.size
                  omega
              · exact ((HQ.out.2.2.drewN nq).alloc _).grown hg3 (fun b hb hlt => by have := HQ.out.2.1 b hb; omega)
            clear ho3 hg3 hb3
            go_wp2_with fail
            go_roundw
            case rel => exact ⟨j + 1, _, by omega, rfl, by rw [HTJ.out, HM.out.2], by go_num, by rw [HTJ.out, HM.out.1]; exact HFN.out.1, HFN.out.2.1, HFN.out.2.2⟩
            case measure => simp [intOf]; omega
          | false =>
            cases hgt : lt x y with
            | false =>
              have hg2 : (Op.bytesLess y.toList x.toList || y.toList == x.toList) = true := by
                have := HGT.out
                rw [hgt] at this
                simpa only [Bool.not_eq_false'] using this
              obtain ⟨hm1, hm2⟩ := midN_pass (e := y) hin hgt
              generalize midN x A = M at HQ HML hm1
              have HM : Hid (midN x (A ++ [y]) = M ++ [y] ∧ (A ++ [y]).any (lt x) = false) := ⟨hm1, hm2⟩
              clear hm1 hm2 hin
              go_wp2_with fail
              go_quiet (fail)
              go_wp2_with (at_builtin; refine wpList_strs _ rfl _ _ rfl u5 M rfl (HQ.out.1.tch (((Tch.refl [] _).drewN nq).alloc _) (fun _ _ => by simp)) wr.heap.size [y] 1 rfl rfl (by decide) (heap_alloc_new _ _) (by have := HML.out; omega) ?_)
              intro v' w3 ho3 hg3 hb3
              have HFN : Hid (OwnS w3 v' (M ++ [y]) ∧ (∀ b, v'.ownBlock = some b → w0.heap.size ≤ b) ∧ Tch [] w0 w3) := by
                refine ⟨ho3, fun b hb => ?_, ?_⟩
                · rcases hb3 with h | h
                  · exact HQ.out.2.1 b (h.symm.trans hb)
                  · rw [hb] at h
                    injection h with h
                    have := HQ.out.2.2.size
                    omega
                · exact ((HQ.out.2.2.drewN nq).alloc _).grown hg3 (fun b hb hlt => by have := HQ.out.2.1 b hb; omega)
              clear ho3 hg3 hb3
              go_wp2_with fail
              go_roundw
              case rel => exact ⟨j + 1, _, by omega, rfl, by rw [HTJ.out, HM.out.2], by go_num, by rw [HTJ.out, HM.out.1]; exact HFN.out.1, HFN.out.2.1, HFN.out.2.2⟩
              case measure => simp [intOf]; omega
            | true =>
              have hg2 : (Op.bytesLess y.toList x.toList || y.toList == x.toList) = false := by
                have := HGT.out
                rw [hgt] at this
                simpa only [Bool.not_eq_true'] using this
              obtain ⟨hm1, hm2⟩ := midN_new (e := y) hin hgt
              generalize midN x A = M at HQ HML hm1
              have HM : Hid (midN x (A ++ [y]) = M ++ [x] ++ [y] ∧ (A ++ [y]).any (lt x) = true) := ⟨hm1, hm2⟩
              clear hm1 hm2 hin
              go_wp2_with fail
              go_quiet (fail)
              go_wp2_with (at_builtin; refine wpList_strs _ rfl _ _ rfl u5 M rfl (HQ.out.1.tch (((Tch.refl [] _).drewN nq).alloc _) (fun _ _ => by simp)) wr.heap.size [x] 1 rfl rfl (by decide) (heap_alloc_new _ _) (by have := HML.out; omega) ?_)
              intro v' w3 ho3 hg3 hb3
              have HFN : Hid (OwnS w3 v' (M ++ [x]) ∧ (∀ b, v'.ownBlock = some b → w0.heap.size ≤ b) ∧ Tch [] w0 w3) := by
                refine ⟨ho3, fun b hb => ?_, ?_⟩
                · rcases hb3 with h | h
                  · exact HQ.out.2.1 b (h.symm.trans hb)
                  · rw [hb] at h
                    injection h with h
                    have := HQ.out.2.2.size
                    omega
                · exact ((HQ.out.2.2.drewN nq).alloc _).grown hg3 (fun b hb hlt => by have := HQ.out.2.1 b hb; omega)
              have q4 : w3.cell? ⟨g3, j, none⟩ = some (.string y) := (HFN.out.2.2.cell (World.block_lt_of_cell? _ _ HQ3.out) (by simp)).trans HQ3.out
              clear ho3 hg3 hb3 q2 q0 q1
              go_wp2_with (at_builtin; refine wpList_strs _ rfl _ _ rfl v' (M ++ [x]) rfl (HFN.out.1.tch ((Tch.refl [] _).alloc _) (fun _ _ => by simp)) w3.heap.size [y] 1 rfl rfl (by decide) (heap_alloc_new _ _) (by have := HML.out; simp; omega) ?_)
              intro v4 w4 ho4 hg4 hb4
              have HFN4 : Hid (OwnS w4 v4 (M ++ [x] ++ [y]) ∧ (∀ b, v4.ownBlock = some b → w0.heap.size ≤ b) ∧ Tch [] w0 w4) := by
                refine ⟨by simpa using ho4, fun b hb => ?_, ?_⟩
                · rcases hb4 with h | h
                  · exact HFN.out.2.1 b (h.symm.trans hb)
                  · rw [hb] at h
                    injection h with h
                    have := HFN.out.2.2.size
                    omega
                · exact (HFN.out.2.2.alloc _).grown hg4 (fun b hb hlt => by have := HFN.out.2.1 b hb; omega)
              clear ho4 hg4 hb4 q4
              go_wp2_with fail
              go_roundw
              case rel => exact ⟨j + 1, _, by omega, rfl, by rw [HTJ.out, HM.out.2], by go_num, by rw [HTJ.out, HM.out.1]; exact HFN4.out.1, HFN4.out.2.1, HFN4.out.2.2⟩
              case measure => simp [intOf]; omega
        · obtain rfl : j = k := by omega
          have hjl : ¬ ((j : Int) < (j : Int)) := by omega
          rw [List.take_of_length_le (by omega)] at HQ ⊢
          clear hoq hnq htq
          have HND : Hid (insN x R = if R.any (lt x) = true then midN x R else midN x R ++ [x]) := midN_end
          have HML : Hid ((midN x R).length ≤ 8388609) := by
            show _ ≤ _
            have := midN_len x R
            omega
          have HWT : Hid (w.heap.size ≤ w0.heap.size ∧ Tch [] w w0) := ⟨HW0.out.2.2.1.size, HW0.out.2.2.1⟩
          cases hin : R.any (lt x) with
          | true =>
            have HE : Hid (insN x R = midN x R) := by
              show _ = _
              rw [HND.out, hin, if_pos rfl]
            clear hin
            go_wp2_with fail
            go_roundw
            case rel => exact ⟨j + 1, _, by omega, rfl, by go_num, by rw [HTK.out, HE.out]; exact HQ.out.1, fun b hb => Nat.le_trans HWT.out.1 (HQ.out.2.1 b hb), HWT.out.2.trans HQ.out.2.2 (fun x hx => by cases hx)⟩
            case measure => simp [intOf]; omega
          | false =>
            have HE : Hid (insN x R = midN x R ++ [x]) := by
              show _ = _
              rw [HND.out, hin]; rfl
            clear hin
            go_wp2_with (at_builtin; refine wpList_strs _ rfl _ _ rfl u5 (midN x R) rfl (HQ.out.1.tch ((Tch.refl [] _).alloc _) (fun _ _ => by simp)) wr.heap.size [x] 1 rfl rfl (by decide) (heap_alloc_new _ _) (by have := HML.out; omega) ?_)
            intro v' w3 ho3 hg3 hb3
            have HFN : Hid (OwnS w3 v' (midN x R ++ [x]) ∧ (∀ b, v'.ownBlock = some b → w0.heap.size ≤ b) ∧ Tch [] w0 w3) := by
              refine ⟨ho3, fun b hb => ?_, ?_⟩
              · rcases hb3 with h | h
                · exact HQ.out.2.1 b (h.symm.trans hb)
                · rw [hb] at h
                  injection h with h
                  have := HQ.out.2.2.size
                  omega
              · exact (HQ.out.2.2.alloc _).grown hg3 (fun b hb hlt => by have := HQ.out.2.1 b hb; omega)
            clear ho3 hg3 hb3
            go_wp2_with fail
            go_roundw
            case rel => exact ⟨j + 1, _, by omega, rfl, by go_num, by rw [HTK.out, HE.out]; exact HFN.out.1, fun b hb => Nat.le_trans HWT.out.1 (HFN.out.2.1 b hb), HWT.out.2.trans HFN.out.2.2 (fun x hx => by cases hx)⟩
            case measure => simp [intOf]; omega
    · have hkl : ¬ ((k : Int) < (fs.length : Int)) := by omega
      rw [List.take_of_length_le (by omega)] at HOW
      obtain ⟨a1, cap1, hv, _⟩ := HOW.out.1.at
      rw [nmS_len] at hv
      clear hown hnew htch
      subst hv
      go_wp2_with fail
      go_ret
      exact ⟨a1, cap1, rfl, HOW.out.1, HOW.out.2.1, HOW.out.2.2⟩
end Go.Proofs.YtbdobaapadlcjaaDoor.Dk
