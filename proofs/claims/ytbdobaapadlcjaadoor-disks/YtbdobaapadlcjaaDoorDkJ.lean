/-
  DISKS: lists of strings in rows of their own; Names of the disk.
-/
import Derived.Test.YtbdobaapadlcjaaDoorDkF
import Derived.Test.YtbdobaapadlcjaaDoorDkI
namespace Go.Proofs.YtbdobaapadlcjaaDoor.Dk
open Go.RowKit
set_option linter.unusedVariables false
set_option linter.unusedSimpArgs false

theorem info9 : (Tryd.prog.info? 9).map (fun i => (i.zero, i.size, i.bytes)) = some (some (Value.string ⟨#[]⟩), 1, 16) := by kernel_rfl
/-- A list of strings in a row of its own. -/
def OwnS (w : World) (v : Value) (l : List ByteArray) : Prop := w.ownsRow 0 9 1 v l.length (l.map Value.string)
theorem OwnS.nil (w : World) : OwnS w (.slice none 0 0) [] := World.ownsRow_nil w 0 9 1
theorem OwnS.tch {w w' : World} {v : Value} {l : List ByteArray} (h : OwnS w v l) {S : List Nat} (ht : Tch S w w') (hS : ∀ b, v.ownBlock = some b → b ∉ S) : OwnS w' v l := by
  refine ⟨h.1, ?_⟩
  rcases h.2 with h0 | ⟨g, cap, cur, rfl, hb, hg, h1, h2, h3, h4⟩
  · exact .inl h0
  · exact .inr ⟨g, cap, cur, rfl, hb, (ht.block g (Array.getElem?_eq_some_iff.1 hg).1 (hS g rfl)).trans hg, h1, h2, h3, h4⟩
theorem OwnS.at {w : World} {v : Value} {l : List ByteArray} (h : OwnS w v l) : ∃ a cap, v = .slice a l.length cap ∧ ∀ j (hj : j < l.length), ∃ g, a = some ⟨g, 0, none⟩ ∧ w.cell? ⟨g, j, none⟩ = some (.string l[j]) ∧ w.frozen? ⟨g, j, none⟩ = false := by
  rcases h.2 with ⟨rfl, hn⟩ | ⟨g, cap, cur, rfl, _, hg, _⟩
  · obtain rfl := List.eq_nil_of_length_eq_zero hn
    exact ⟨none, 0, rfl, fun j hj => by cases hj⟩
  · refine ⟨_, _, rfl, fun j hj => ⟨g, rfl, ?_, World.ownsRow.frozenAt h j⟩⟩
    rw [World.ownsRow.cellAt h j (by omega)]
    simp [hj]
theorem OwnS.slc {w : World} {v : Value} {l : List ByteArray} (h : OwnS w v l) (hn : 0 < l.length) : ∃ g cap, v = .slice (some ⟨g, 0, none⟩) l.length cap := by
  rcases h.2 with ⟨_, h0⟩ | ⟨g, cap, cur, hv, _⟩
  · omega
  · exact ⟨g, cap, hv⟩
theorem OwnS.set {w : World} {g cap : Nat} {l : List ByteArray} (h : OwnS w (.slice (some ⟨g, 0, none⟩) l.length cap) l) (j : Nat) (s : ByteArray) : OwnS (w.setCell ⟨g, j, none⟩ (.string s)) (.slice (some ⟨g, 0, none⟩) l.length cap) (l.set j s) := by
  have h2 := (World.ownsRow.stored h j (.string s)).1
  unfold OwnS
  rw [List.length_set, List.map_set]
  exact h2
theorem Tch.drewN {S : List Nat} {a w : World} (h : Tch S a w) (n : Nat) : Tch S a (w.drewN n) := ⟨h.os, h.tape, h.output, h.size, h.block⟩
theorem OwnS.drewN {w : World} {v : Value} {l : List ByteArray} (h : OwnS w v l) (n : Nat) : OwnS (w.drewN n) v l := h
/-- Strings are put behind the others. -/
theorem wpList_strs (w : World) {ops : Array Oper} {rest : List Oper} {o : Oper} {a : Act} {Q : Exit → Act → World → Prop} (hgd : o.guard = none) (s x : Operand)
    (ho : o.op = .call { callee := .builtin .append, args := #[s, x], argTypes := #[28, 28] })
    (v : Value) (l : List ByteArray) (hs : a.eval s = v) (hown : OwnS w v l) (g : Nat) (news : List ByteArray) (m : Nat) (hx : a.eval x = .slice (some ⟨g, 0, none⟩) m m) (hm : news.length = m) (hm0 : 0 < m) (hg : w.heap[g]? = some (.cells (news.map Value.string).toArray 9 (0, 0))) (hn : l.length + m ≤ 1073741824)
    (h : ∀ v' w', OwnS w' v' (l ++ news) → w.grownBy w' v.ownBlock → (v'.ownBlock = v.ownBlock ∨ v'.ownBlock = some w.heap.size) → wpList Tryd.prog ops Q rest (a.put o.dst v') w') : wpList Tryd.prog ops Q (o :: rest) a w := by
  obtain ⟨i0, hi, hz0, hz1, hz2⟩ := info_parts info9
  refine wpList_app w hgd s x 28 ho 0 9 i0 _ 1 16 Tryd.underlying28 hi hz0 hz1 hz2 rfl (by decide) v l.length (l.map Value.string) hs hown ⟨g, 0, none⟩ m m (news.map Value.string) hx (by simp [hm]) ?_ ?_ ?_ ?_ (Nat.zero_le _) hm0 ?_
  · intro j u hj
    have e : (⟨g, 0, none⟩ : Addr).add j = ⟨g, j, none⟩ := by unfold Addr.add; split <;> simp_all
    rw [e, cell_of_row w g j _ 9 (0, 0) hg, ← hj]
    simp
  · intro u hu
    obtain ⟨b, _, rfl⟩ := List.mem_map.1 hu
    rfl
  · unfold maxLen; omega
  · omega
  · intro v' w' h1 h2 h3
    refine h v' w' ?_ h2 h3
    show w'.ownsRow 0 9 1 v' (l ++ news).length ((l ++ news).map Value.string)
    rw [List.length_append, List.map_append, hm]
    exact h1
theorem bub (l : List ByteArray) (x : ByteArray) (j : Nat) (h0 : 0 < j) (hj : j ≤ l.length) : ((l.take j ++ x :: l.drop j).set j (l[j - 1]'(by omega))).set (j - 1) x = l.take (j - 1) ++ x :: l.drop (j - 1) := by
  obtain ⟨i, rfl⟩ : ∃ i, j = i + 1 := ⟨j - 1, by omega⟩
  have h1 : l.take (i + 1) = l.take i ++ [l[i]] := List.take_succ_eq_append_getElem (by omega)
  have h2 : l.drop i = l[i] :: l.drop (i + 1) := (List.getElem_cons_drop ..).symm
  have hl : (l.take i).length = i := by rw [List.length_take]; omega
  simp only [Nat.add_sub_cancel]
  rw [h1, h2, List.append_assoc, List.set_append_right _ _ (by omega), hl, show i + 1 - i = 1 by omega]
  show (l.take i ++ l[i] :: l[i] :: l.drop (i + 1)).set i x = _
  rw [List.set_append_right _ _ (by omega), hl, Nat.sub_self]
  rfl

set_option maxRecDepth 10000 in
set_option maxHeartbeats 2000000 in
theorem names_d (p : Nat) (v : Value) (left : Int) (st : Bool) (fs : List DF) (w : World) (h : DBlk w p 76 v left st) (ho : Own w 81 v fs) (hn : fs.length < 8388608) :
    Calls Tryd.prog 52 #[.pointer (some ⟨p, 0, none⟩)] w fun e w' => ∃ a1 cap1, e = .returned (.slice a1 fs.length cap1) ∧ OwnS w' (.slice a1 fs.length cap1) (nmS fs) ∧ (∀ b, (Value.slice a1 fs.length cap1).ownBlock = some b → w.heap.size ≤ b) ∧ Tch [] w w' := by
  have h0 := h.c0
  obtain ⟨a, cap, rfl, hc⟩ := ho.at
  have HC : Hid (∀ j (hj : j < fs.length), ∃ g, a = some ⟨g, 0, none⟩ ∧ w.cell? ⟨g, j * 3, none⟩ = some (.string fs[j].name) ∧ w.cell? ⟨g, j * 3 + 1, none⟩ = some (.string fs[j].data) ∧ w.cell? ⟨g, j * 3 + 2, none⟩ = some (.int .i64 (fs[j].safe : Nat))) := hc
  clear hc h ho
  go_enter Tryd.func52, Tryd.ntmps52
  go_wp2_with fail
  go_loopw [3, 13] (fun ov i wr => ∃ (k : Nat) (v1 : Value), k ≤ fs.length ∧ ov = v1 ∧ i = .int .i64 k ∧ OwnS wr v1 (nmS (fs.take k)) ∧ (∀ b, v1.ownBlock = some b → w.heap.size ≤ b) ∧ Tch [] w wr) (fun _ i _ => fs.length - (intOf i).toNat)
  case atStart => exact ⟨0, _, Nat.zero_le _, rfl, rfl, OwnS.nil _, fun b hb => by simp [Value.ownBlock] at hb, Tch.refl _ _⟩
  case round =>
    obtain ⟨k, v1, hk, rfl, rfl, hown, hnew, htch⟩ := hrel
    have HOW : Hid (OwnS wr u3 (nmS (fs.take k)) ∧ (∀ b, u3.ownBlock = some b → w.heap.size ≤ b) ∧ Tch [] w wr) := ⟨hown, hnew, htch⟩
    by_cases hkn : k < fs.length
    · obtain ⟨g, rfl, c1, c2, c3⟩ := HC.out k hkn
      have d1 := (htch.cell (World.block_lt_of_cell? _ _ c1) (by simp)).trans c1
      have d2 := (htch.cell (World.block_lt_of_cell? _ _ c2) (by simp)).trans c2
      have d3 := (htch.cell (World.block_lt_of_cell? _ _ c3) (by simp)).trans c3
      have HTK : Hid (nmS (fs.take (k + 1)) = insN fs[k].name (nmS (fs.take k))) := by
        show _ = _
        rw [List.take_succ_eq_append_getElem hkn, nmS_snoc]
      have hln : (nmS (fs.take k)).length = k := by rw [nmS_len, List.length_take]; omega
      have HSR : Hid (Srt (nmS (fs.take k))) := nmS_srt _
      clear c1 c2 c3 hown hnew htch
      generalize fs[k] = f at d1 d2 d3 HTK
      generalize nmS (fs.take k) = R at HOW HTK hln HSR
      have hkl : ((k : Int) < (fs.length : Int)) := by omega
      go_wp2_with (at_builtin; refine wpList_strs _ rfl _ _ rfl u3 R rfl (HOW.out.1.tch (((Tch.refl [] _).alloc _).alloc _) (fun _ _ => by simp)) (wr.heap.size + 1) [f.name] 1 rfl rfl (by decide) (heap_alloc2_new _ _ _) (by omega) ?_)
      intro v' w3 ho3 hg3 hb3
      obtain ⟨g3, cap3, hv3⟩ := ho3.slc (by simp)
      have HFN : Hid (OwnS w3 v' (R ++ [f.name]) ∧ (∀ b, v'.ownBlock = some b → w.heap.size ≤ b) ∧ Tch [] w w3) := by
        refine ⟨ho3, fun b hb => ?_, ?_⟩
        · rcases hb3 with h | h
          · exact HOW.out.2.1 b (h.symm.trans hb)
          · rw [hb] at h
            injection h with h
            have := HOW.out.2.2.size
            omega
        · exact ((HOW.out.2.2.alloc _).alloc _).grown hg3 (fun b hb hlt => by have := HOW.out.2.1 b hb; omega)
      have hl3 : (R ++ [f.name]).length = k + 1 := by simp [hln]
      rw [hl3] at hv3
      clear ho3 hg3 hb3
      subst hv3
      have hw1 : wrap64 ((k : Int) + 1 - 1) = (k : Int) := by simp [wrap64]; omega
      go_wp2_with fail
      have HN3 : Hid (∀ b, (Value.slice (some ⟨g3, 0, none⟩) (k + 1) cap3).ownBlock = some b → w.heap.size ≤ b) := HFN.out.2.1
      have HGW : Hid (w.heap.size ≤ g3) := HFN.out.2.1 g3 rfl
      go_loopw [6] (fun kv wq => ∃ j : Nat, j ≤ k ∧ kv = .int .i64 j ∧ OwnS wq (.slice (some ⟨g3, 0, none⟩) (k + 1) cap3) (R.take j ++ f.name :: R.drop j) ∧ (∀ e ∈ R.drop j, lt f.name e = true) ∧ Tch [] w wq) (fun kv _ => (intOf kv).toNat)
      case atStart =>
        refine ⟨k, Nat.le_refl _, rfl, ?_, ?_, HFN.out.2.2⟩
        · rw [← hln, List.take_length, List.drop_length, hln]; exact HFN.out.1
        · rw [← hln, List.drop_length]; intro e he; cases he
      case round =>
        obtain ⟨j, hj, rfl, hoq, hgt, htq⟩ := hrel
        have hlq : (R.take j ++ f.name :: R.drop j).length = k + 1 := by rw [List.length_append, List.length_cons, List.length_take, List.length_drop]; omega
        by_cases hj0 : 0 < j
        · have hx : (R.take j ++ f.name :: R.drop j)[j]? = some f.name := by
            rw [List.getElem?_append_right (by rw [List.length_take]; omega), List.length_take, show j - min j R.length = 0 by omega]; rfl
          have hy : (R.take j ++ f.name :: R.drop j)[j - 1]? = some (R[j - 1]'(by omega)) := by
            rw [List.getElem?_append_left (by rw [List.length_take]; omega), List.getElem?_take, if_pos (by omega), List.getElem?_eq_getElem (by omega)]
          have hb := bub R f.name j hj0 (by omega)
          have hD : R.drop (j - 1) = (R[j - 1]'(by omega)) :: R.drop j := by
            have h2 : R.drop (j - 1) = (R[j - 1]'(by omega)) :: R.drop (j - 1 + 1) := (List.getElem_cons_drop ..).symm
            rw [show j - 1 + 1 = j by omega] at h2
            exact h2
          have ha : lt f.name (R[j - 1]'(by omega)) = false → insN f.name R = R.take j ++ f.name :: R.drop j := fun h => insN_at HSR.out j (by omega) hgt (fun _ => h)
          generalize (R[j - 1]'(by omega)) = y at hy hb hD ha
          obtain ⟨aq, cq, eq, hcq⟩ := hoq.at
          rw [hlq] at eq
          injection eq with eq1 eq2 eq3
          subst eq1 eq3
          obtain ⟨gq, hgq, cx, zx⟩ := hcq j (by omega)
          injection hgq with hgq
          injection hgq with hgq
          subst hgq
          obtain ⟨gq, hgq, cy, zy⟩ := hcq (j - 1) (by omega)
          injection hgq with hgq
          injection hgq with hgq
          subst hgq
          rw [(List.getElem?_eq_some_iff.1 hx).2] at cx
          rw [(List.getElem?_eq_some_iff.1 hy).2] at cy
          have HQ : Hid (OwnS wr (.slice (some ⟨g3, 0, none⟩) (k + 1) cap3) (R.take j ++ f.name :: R.drop j) ∧ (∀ e ∈ R.drop j, lt f.name e = true) ∧ Tch [] w wr ∧ ((R.take j ++ f.name :: R.drop j).set j y).set (j - 1) f.name = R.take (j - 1) ++ f.name :: R.drop (j - 1) ∧ R.drop (j - 1) = y :: R.drop j) := ⟨hoq, hgt, htq, hb, hD⟩
          have HA : Hid (lt f.name y = false → insN f.name R = R.take j ++ f.name :: R.drop j) := ha
          have HLT : Hid (Op.bytesLess f.name.toList y.toList = lt f.name y) := rfl
          clear hoq hgt htq hb hD ha hcq hx hy hlq eq2
          have hwj : wrap64 ((j : Int) - 1) = (j : Int) - 1 := by simp [wrap64]; omega
          have hji : ((j - 1 : Nat) : Int) = (j : Int) - 1 := by omega
          have hjt : ((j : Int) - 1).toNat = j - 1 := by omega
          have hjp : (0 : Int) < (j : Int) := by omega
          have hj1 : (0 : Int) ≤ (j : Int) - 1 := by omega
          have hj2 : (j : Int) - 1 < (k : Int) + 1 := by omega
          have hj3 : (j : Int) < (k : Int) + 1 := by omega
          cases hq : lt f.name y with
          | true =>
            have hq2 : Op.bytesLess f.name.toList y.toList = true := HLT.out.trans hq
            go_wp2_with fail
            go_quiet (fail)
            go_wp2_with fail
            go_roundw
            case rel =>
              refine ⟨j - 1, by omega, by go_num, ?_, ?_, ?_⟩
              · have h1 := HQ.out.1.drewN nq
                have hlq : (R.take j ++ f.name :: R.drop j).length = k + 1 := by rw [List.length_append, List.length_cons, List.length_take, List.length_drop]; omega
                rw [← hlq] at h1 ⊢
                have h2 := h1.set j y
                rw [← List.length_set (i := j) (a := y)] at h2 ⊢
                have h3 := h2.set (j - 1) f.name
                rw [HQ.out.2.2.2.1] at h3
                exact h3
              · intro e he
                rw [HQ.out.2.2.2.2] at he
                rcases List.mem_cons.1 he with rfl | he
                · exact hq
                · exact HQ.out.2.1 e he
              · exact ((HQ.out.2.2.1.drewN nq).setCell (fun h => by have := HGW.out; simp at h; omega) _).setCell (fun h => by have := HGW.out; simp at h; omega) _
            case measure => simp [intOf]; omega
          | false =>
            have hq2 : Op.bytesLess f.name.toList y.toList = false := HLT.out.trans hq
            have HE : Hid (insN f.name R = R.take j ++ f.name :: R.drop j) := HA.out hq
            go_wp2_with fail
            go_quiet (fail)
            go_wp2_with fail
            go_roundw
            case rel => exact ⟨k + 1, _, by omega, rfl, by go_num, by rw [HTK.out, HE.out]; exact HQ.out.1.drewN nq, HN3.out, HQ.out.2.2.1.drewN nq⟩
            case measure => simp [intOf]; omega
        · obtain rfl : j = 0 := by omega
          have HE : Hid (insN f.name R = R.take 0 ++ f.name :: R.drop 0) := insN_at HSR.out 0 (Nat.zero_le _) hgt (fun h => by omega)
          have HQ : Hid (OwnS wr (.slice (some ⟨g3, 0, none⟩) (k + 1) cap3) (R.take 0 ++ f.name :: R.drop 0) ∧ Tch [] w wr) := ⟨hoq, htq⟩
          clear hoq hgt htq
          go_wp2_with fail
          go_quiet (fail)
          go_wp2_with fail
          go_roundw
          case rel => exact ⟨k + 1, _, by omega, rfl, by go_num, by rw [HTK.out, HE.out]; exact HQ.out.1.drewN nq, HN3.out, HQ.out.2.drewN nq⟩
          case measure => simp [intOf]; omega
    · have hkl : ¬ ((k : Int) < (fs.length : Int)) := by omega
      rw [List.take_of_length_le (by omega)] at HOW
      obtain ⟨a1, cap1, hv, _⟩ := HOW.out.1.at
      rw [nmS_len] at hv
      clear hown hnew htch
      subst hv
      go_wp2_with fail
      go_ret
      exact ⟨a1, cap1, rfl, HOW.out.1, HOW.out.2.1, HOW.out.2.2⟩
end Go.Proofs.YtbdobaapadlcjaaDoor.Dk
