import Derived.Test.YtbdobaapadlcjaaGreatDoorOx30
import Derived.Test.YtbdobaapadlcjaaGreatDoorOx36
namespace Go.Proofs.YtbdobaapadlcjaaGreatDoor
open Go.RowKit
set_option linter.unusedVariables false
set_option linter.unusedSimpArgs false
theorem find_first {p : Ms → Bool} : ∀ (l : List Ms), Ups l → ∀ x, l.find? p = some x → ∀ y ∈ l, p y = true → x.num ≤ y.num
  | [], _, x, h, _, _, _ => by simp at h
  | a :: r, hu, x, h, y, hy, hp => by
    obtain ⟨h1, h2⟩ := List.pairwise_cons.1 hu
    by_cases ha : p a = true
    · rw [List.find?_cons, ha] at h
      injection h with h
      subst h
      rcases List.mem_cons.1 hy with rfl | hy
      · omega
      · have := h1 y hy; omega
    · have ha' : p a = false := by simpa using ha
      rw [List.find?_cons, ha'] at h
      rcases List.mem_cons.1 hy with rfl | hy
      · exact absurd hp ha
      · exact find_first r h2 x h y hy hp
def isHead (ms : List Ms) (m : Ms) : Bool := (ms.find? (isG m.grp)).map Ms.num == some m.num
theorem isHead_find {ms : List Ms} (hu : Ups ms) {m : Ms} (hm : m ∈ ms) : isHead ms m = true ↔ ms.find? (isG m.grp) = some m := by
  unfold isHead
  rw [beq_iff_eq]
  constructor
  · intro h
    obtain ⟨x, h1, h2⟩ := Option.map_eq_some_iff.1 h
    rw [h1, num_inj hu (List.mem_of_find?_eq_some h1) hm h2]
  · intro h
    rw [h]
    rfl
theorem isHead_iff {ms : List Ms} (hu : Ups ms) {m : Ms} (hm : m ∈ ms) : isHead ms m = true ↔ ∀ y ∈ ms, y.grp = m.grp → m.num ≤ y.num := by
  rw [isHead_find hu hm]
  constructor
  · intro h y hy he
    exact find_first ms hu m h y hy ((isG_iff _ _).2 he)
  · intro h
    cases hf : ms.find? (isG m.grp) with
    | none => exact absurd ((isG_iff m.grp m).2 rfl) (List.find?_eq_none.1 hf m hm)
    | some x =>
      have h1 := find_first ms hu x hf m hm ((isG_iff _ _).2 rfl)
      have h2 := List.mem_of_find?_eq_some hf
      have h3 := (isG_iff _ _).1 (List.find?_some hf)
      have h4 := h x h2 h3
      rw [num_inj hu h2 hm (by omega)]
def inG (gs : List ByteArray) (m : Ms) : Bool := gs.any (fun g => isG g m)
theorem inG_iff (gs : List ByteArray) (m : Ms) : inG gs m = true ↔ m.grp ∈ gs := by
  unfold inG
  rw [List.any_eq_true]
  constructor
  · rintro ⟨g, hg, he⟩
    rw [(isG_iff g m).1 he]
    exact hg
  · intro h
    exact ⟨m.grp, h, (isG_iff _ _).2 rfl⟩
def flyH (til : Int) (ms : List Ms) (gs : List ByteArray) (m : Ms) : Ms := if inG gs m = true ∧ isHead ms m = true then flyM til m else m
theorem flyH_num (til : Int) (ms : List Ms) (gs : List ByteArray) (m : Ms) : (flyH til ms gs m).num = m.num := by unfold flyH; split <;> rfl
theorem flyH_grp (til : Int) (ms : List Ms) (gs : List ByteArray) (m : Ms) : (flyH til ms gs m).grp = m.grp := by unfold flyH; split <;> rfl
theorem flyH_bod (til : Int) (ms : List Ms) (gs : List ByteArray) (m : Ms) : (flyH til ms gs m).bod = m.bod := by unfold flyH; split <;> rfl
theorem flyH_til (til : Int) (ms : List Ms) (gs : List ByteArray) (m : Ms) : (flyH til ms gs m).til = if inG gs m = true ∧ isHead ms m = true then til else m.til := by unfold flyH; split <;> rfl
theorem ups_idx {l : List Ms} (h : Ups l) {i j : Nat} (hi : i < l.length) (hj : j < l.length) (e : l[i].num = l[j].num) : i = j := by
  have h1 := List.pairwise_iff_getElem.1 h
  by_cases h2 : i < j
  · have := h1 i j hi hj h2; omega
  · by_cases h3 : j < i
    · have := h1 j i hj hi h3; omega
    · omega
theorem QW.hidx {i : Nat} {Q : QM} (h : QW i Q) {g : ByteArray} (hg : g ∈ Q.rs) : 0 ≤ idxL (isG g) Q.ms := by
  obtain ⟨m, hm, he⟩ := ((h.rr g).1 hg).1
  exact (idxL_ex _ _).2 ⟨m, hm, (isG_iff g m).2 he⟩
theorem fly_map {i : Nat} {Q : QM} (h : QW i Q) (til : Int) : ∀ (k : Nat), k ≤ Q.rs.length → flyAll til Q.ms (hdsL Q k) = Q.ms.map (flyH til Q.ms (Q.rs.take k))
  | 0, _ => by
    have e : Q.ms.map (flyH til Q.ms (Q.rs.take 0)) = Q.ms := by
      rw [List.map_congr_left (g := id) (fun x _ => ?_), List.map_id]
      unfold flyH
      rw [if_neg (by simp [inG])]
      rfl
    rw [e]
    rfl
  | k + 1, hk => by
    have hkl : k < Q.rs.length := by omega
    have ih := fly_map h til k (by omega)
    have e1 : hdsL Q (k + 1) = hdsL Q k ++ [idxL (isG Q.rs[k]) Q.ms] := by
      unfold hdsL
      rw [List.take_succ_eq_append_getElem hkl, List.map_append]
      rfl
    have hgm : Q.rs[k] ∈ Q.rs := List.getElem_mem hkl
    obtain ⟨p, hp⟩ : ∃ p : Nat, idxL (isG Q.rs[k]) Q.ms = (p : Int) := ⟨_, (Int.toNat_of_nonneg (h.hidx hgm)).symm⟩
    obtain ⟨hpl, hpg, hpf⟩ := idxL_fnd _ _ p hp
    have hgrp := (isG_iff _ _).1 hpg
    have hnot : Q.rs[k] ∉ Q.rs.take k := fun hm => by
      have h1 := h.rn
      rw [← List.take_append_drop k Q.rs, List.nodup_append] at h1
      have h2 : Q.rs[k] ∈ Q.rs.drop k := by
        rw [List.drop_eq_getElem_cons hkl]
        exact List.mem_cons_self
      exact h1.2.2 _ hm _ h2 rfl
    rw [e1, flyAll_snoc, ih, hp]
    unfold flyAt
    have e2 : (Q.ms.map (flyH til Q.ms (Q.rs.take k)))[((p : Nat) : Int).toNat]? = some Q.ms[p] := by
      rw [Int.toNat_natCast, List.getElem?_map, List.getElem?_eq_getElem hpl]
      show some _ = _
      unfold flyH
      rw [if_neg (by rw [inG_iff, hgrp]; exact fun hc => hnot hc.1)]
    rw [e2]
    show (Q.ms.map _).set ((p : Nat) : Int).toNat _ = _
    rw [Int.toNat_natCast]
    apply List.ext_getElem (by simp)
    intro j h1 h2
    have hjl : j < Q.ms.length := by simpa using h2
    rw [List.getElem_set]
    simp only [List.getElem_map]
    by_cases e : p = j
    · subst e
      rw [if_pos rfl]
      unfold flyH
      rw [if_pos ⟨by rw [inG_iff, hgrp, List.take_succ_eq_append_getElem hkl]; exact List.mem_append.2 (.inr (List.mem_singleton.2 rfl)), (isHead_find h.nums (List.getElem_mem hpl)).2 (by rw [hgrp]; exact hpf)⟩]
    · rw [if_neg e]
      unfold flyH
      have e3 : (inG (Q.rs.take (k + 1)) Q.ms[j] = true ∧ isHead Q.ms Q.ms[j] = true) ↔ (inG (Q.rs.take k) Q.ms[j] = true ∧ isHead Q.ms Q.ms[j] = true) := by
        rw [inG_iff, inG_iff, List.take_succ_eq_append_getElem hkl, List.mem_append]
        constructor
        · rintro ⟨h3 | h3, h4⟩
          · exact ⟨h3, h4⟩
          · exfalso
            simp at h3
            have h5 := (isHead_find h.nums (List.getElem_mem hjl)).1 h4
            rw [h3, hpf] at h5
            injection h5 with h5
            exact e (ups_idx h.nums hpl hjl (by rw [h5]))
        · rintro ⟨h3, h4⟩
          exact ⟨.inl h3, h4⟩
      by_cases h6 : inG (Q.rs.take k) Q.ms[j] = true ∧ isHead Q.ms Q.ms[j] = true
      · rw [if_pos h6, if_pos (e3.2 h6)]
      · rw [if_neg h6, if_neg (fun h7 => h6 (e3.1 h7))]
theorem QW.recv {i : Nat} {Q : QM} (h : QW i Q) {cnt : Nat} (hc : cnt ≤ Q.rs.length) {til : Int} (ht : 0 < til ∧ til ≤ 61000) : QW i { Q with ms := flyAll til Q.ms (hdsL Q cnt), rs := Q.rs.drop cnt } := by
  rw [fly_map h til cnt hc]
  have hnd := h.rn
  rw [← List.take_append_drop cnt Q.rs, List.nodup_append] at hnd
  refine { c := h.c, nx := h.nx, mq := by simpa using h.mq, nums := ups_map h.nums _ (flyH_num _ _ _), mok := fun x hx => ?_, hd := fun x hx hf y hy he => ?_, rn := hnd.2.1, rr := fun g => ?_, dn := h.dn, dok := h.dok, al := h.al, aok := h.aok }
  · obtain ⟨a, ha, rfl⟩ := List.mem_map.1 hx
    have h1 := h.mok a ha
    refine ⟨by rw [flyH_num]; exact h1.num, by rw [flyH_grp]; exact h1.grp, by rw [flyH_bod]; exact h1.bod, ?_, ?_⟩
    · unfold flyH
      split
      · exact ⟨by show (0 : Int) ≤ ((oft a.rcv.toNat : Nat) : Int); omega, by show ((oft a.rcv.toNat : Nat) : Int) ≤ 65535; have := oft_le a.rcv.toNat; omega⟩
      · exact h1.rcv
    · rw [flyH_til]
      split
      · exact ⟨by omega, ht.2⟩
      · exact h1.til
  · obtain ⟨a, ha, rfl⟩ := List.mem_map.1 hx
    obtain ⟨b, hb, rfl⟩ := List.mem_map.1 hy
    rw [flyH_grp, flyH_grp] at he
    rw [flyH_num, flyH_num]
    rw [flyH_til] at hf
    split at hf
    · rename_i h1
      exact (isHead_iff h.nums ha).1 h1.2 b hb he
    · exact h.hd a ha hf b hb he
  · show g ∈ Q.rs.drop cnt ↔ (∃ x ∈ Q.ms.map (flyH til Q.ms (Q.rs.take cnt)), x.grp = g) ∧ ∀ x ∈ Q.ms.map (flyH til Q.ms (Q.rs.take cnt)), x.grp = g → x.til = 0
    constructor
    · intro hg
      obtain ⟨⟨a, ha, he⟩, hz⟩ := (h.rr g).1 (List.mem_of_mem_drop hg)
      have hnt : g ∉ Q.rs.take cnt := fun hm => hnd.2.2 g hm g hg rfl
      refine ⟨⟨_, List.mem_map_of_mem ha, by rw [flyH_grp]; exact he⟩, fun x hx he => ?_⟩
      obtain ⟨b, hb, rfl⟩ := List.mem_map.1 hx
      rw [flyH_grp] at he
      rw [flyH_til, if_neg (by rw [inG_iff, he]; exact fun hc => hnt hc.1)]
      exact hz b hb he
    · rintro ⟨⟨x, hx, hxg⟩, hz⟩
      obtain ⟨a, ha, rfl⟩ := List.mem_map.1 hx
      rw [flyH_grp] at hxg
      have hnt : g ∉ Q.rs.take cnt := fun hm => by
        cases hf : Q.ms.find? (isG g) with
        | none => exact absurd ((isG_iff g a).2 hxg) (List.find?_eq_none.1 hf a ha)
        | some y =>
          have hy := List.mem_of_find?_eq_some hf
          have hyg := (isG_iff _ _).1 (List.find?_some hf)
          have h1 := hz _ (List.mem_map_of_mem hy) (by rw [flyH_grp]; exact hyg)
          rw [flyH_til, if_pos ⟨by rw [inG_iff, hyg]; exact hm, (isHead_find h.nums hy).2 (by rw [hyg]; exact hf)⟩] at h1
          omega
      have hg : g ∈ Q.rs := (h.rr g).2 ⟨⟨a, ha, hxg⟩, fun b hb he => by
        have h1 := hz _ (List.mem_map_of_mem hb) (by rw [flyH_grp]; exact he)
        rw [flyH_til, if_neg (by rw [inG_iff, he]; exact fun hc => hnt hc.1)] at h1
        exact h1⟩
      rw [← List.take_append_drop cnt Q.rs] at hg
      rcases List.mem_append.1 hg with hg | hg
      · exact absurd hg hnt
      · exact hg
theorem recvQ_none (Q : QM) (cnt : Nat) (til : Int) (ans : List UInt8) : recvQ Q ⟨#[]⟩ cnt til ans = { Q with ms := flyAll til Q.ms (hdsL Q cnt), rs := Q.rs.drop cnt } := by
  unfold recvQ remQ
  exact if_pos rfl
theorem drop_eq {i : Nat} {Q : QM} (h : QW i Q) {num : Int} {m : Ms} (hf : Q.ms.find? (isN num) = some m) : dropQ Q num = { Q with ms := Q.ms.filter (fun a => !isN num a), rs := if idxL (isG m.grp) (Q.ms.filter (fun a => !isN num a)) < 0 then Q.rs else Q.rs ++ [m.grp] } := by
  unfold dropQ
  rw [hf]
  simp only [erase_filter num Q.ms m h.nums hf]
theorem QW.drop {i : Nat} {Q : QM} (h : QW i Q) {num : Int} {m : Ms} (hf : Q.ms.find? (isN num) = some m) (ht : 0 < m.til) : QW i (dropQ Q num) := by
  rw [drop_eq h hf]
  obtain ⟨hm, hn⟩ := find_mem hf
  subst hn
  have hmem : ∀ x, x ∈ Q.ms.filter (fun a => !isN m.num a) ↔ x ∈ Q.ms ∧ x.num ≠ m.num := fun x => by
    rw [List.mem_filter]
    refine and_congr_right (fun _ => ?_)
    rw [Bool.not_eq_true', ← Bool.not_eq_true, isN_iff]
  have hzero : ∀ b ∈ Q.ms, b.grp = m.grp → b.num ≠ m.num → b.til = 0 := fun b hb he hne => by
    have h1 := (h.mok b hb).til
    by_cases h2 : 0 < b.til
    · exact absurd (congrArg Ms.num (h.one hb hm h2 ht he)) hne
    · omega
  refine { c := h.c, nx := h.nx, mq := ?_, nums := ups_filter h.nums _, mok := fun x hx => h.mok x ((hmem x).1 hx).1, hd := fun x hx ht y hy he => h.hd x ((hmem x).1 hx).1 ht y ((hmem y).1 hy).1 he, rn := ?_, rr := fun g => ?_, dn := h.dn, dok := h.dok, al := h.al, aok := h.aok }
  · have h1 := List.length_filter_le (fun a => !isN m.num a) Q.ms
    have h2 := h.mq
    show ((Q.ms.filter (fun a => !isN m.num a)).length : Int) ≤ Q.c.quo
    omega
  · show (if idxL (isG m.grp) (Q.ms.filter (fun a => !isN m.num a)) < 0 then Q.rs else Q.rs ++ [m.grp]).Nodup
    split
    · exact h.rn
    · rw [List.nodup_append]
      refine ⟨h.rn, by simp, fun a ha b hb => ?_⟩
      simp at hb
      subst hb
      exact fun e => h.nr hm ht (e ▸ ha)
  · show g ∈ (if idxL (isG m.grp) (Q.ms.filter (fun a => !isN m.num a)) < 0 then Q.rs else Q.rs ++ [m.grp]) ↔ (∃ x ∈ Q.ms.filter (fun a => !isN m.num a), x.grp = g) ∧ ∀ x ∈ Q.ms.filter (fun a => !isN m.num a), x.grp = g → x.til = 0
    have hin : g ∈ (if idxL (isG m.grp) (Q.ms.filter (fun a => !isN m.num a)) < 0 then Q.rs else Q.rs ++ [m.grp]) ↔ g ∈ Q.rs ∨ (g = m.grp ∧ ∃ x ∈ Q.ms.filter (fun a => !isN m.num a), x.grp = m.grp) := by
      by_cases hneg : idxL (isG m.grp) (Q.ms.filter (fun a => !isN m.num a)) < 0
      · rw [if_pos hneg]
        constructor
        · exact .inl
        · rintro (h1 | ⟨_, x, hx, he⟩)
          · exact h1
          · have := (idxL_neg _ _).1 hneg x hx
            rw [(isG_iff _ _).2 he] at this
            simp at this
      · rw [if_neg hneg]
        obtain ⟨x, hx, he⟩ := (idxL_ex _ _).1 (show 0 ≤ idxL (isG m.grp) (Q.ms.filter (fun a => !isN m.num a)) by omega)
        rw [List.mem_append]
        constructor
        · rintro (h1 | h1)
          · exact .inl h1
          · simp at h1
            exact .inr ⟨h1, x, hx, (isG_iff _ _).1 he⟩
        · rintro (h1 | ⟨h1, _⟩)
          · exact .inl h1
          · exact .inr (by simp [h1])
    rw [hin]
    constructor
    · rintro (hg | ⟨rfl, x, hx, he⟩)
      · obtain ⟨⟨a, ha, he⟩, hz⟩ := (h.rr g).1 hg
        refine ⟨⟨a, (hmem a).2 ⟨ha, fun e => ?_⟩, he⟩, fun x hx he => hz x ((hmem x).1 hx).1 he⟩
        have := num_inj h.nums ha hm e
        subst this
        have := hz a ha he
        omega
      · exact ⟨⟨x, hx, he⟩, fun y hy hye => hzero y ((hmem y).1 hy).1 hye ((hmem y).1 hy).2⟩
    · rintro ⟨⟨x, hx, hxg⟩, hz⟩
      by_cases e : g = m.grp
      · exact .inr ⟨e, x, hx, by rw [hxg, e]⟩
      · refine .inl ((h.rr g).2 ⟨⟨x, ((hmem x).1 hx).1, hxg⟩, fun b hb he => hz b ((hmem b).2 ⟨hb, fun en => ?_⟩) he⟩)
        have := num_inj h.nums hb hm en
        subst this
        exact e he.symm
theorem QW.ext {i : Nat} {Q : QM} (h : QW i Q) {num til : Int} {m : Ms} (hf : Q.ms.find? (isN num) = some m) (ht : 0 < m.til) (hl : 0 < til ∧ til ≤ 61000) : QW i (tilQ Q num til) := by
  obtain ⟨hm, hn⟩ := find_mem hf
  subst hn
  rw [tilQ_eq Q h.nums]
  have hz0 : ∀ a ∈ Q.ms, (tilM m.num til a).til = 0 ↔ a.til = 0 := fun a ha => by
    rw [tilM_til]
    split
    · rename_i e
      have := num_inj h.nums ha hm e
      subst this
      constructor <;> intro h1 <;> omega
    · exact Iff.rfl
  refine { c := h.c, nx := h.nx, mq := by simpa using h.mq, nums := ups_map h.nums _ (tilM_num _ _), mok := h.msT ⟨by omega, hl.2⟩, hd := fun x hx hf y hy he => ?_, rn := h.rn, rr := fun g => ?_, dn := h.dn, dok := h.dok, al := h.al, aok := h.aok }
  · obtain ⟨a, ha, rfl⟩ := List.mem_map.1 hx
    obtain ⟨b, hb, rfl⟩ := List.mem_map.1 hy
    rw [tilM_grp, tilM_grp] at he
    rw [tilM_num, tilM_num]
    have h1 := hz0 a ha
    have h2 := (h.mok a ha).til
    exact h.hd a ha (by omega) b hb he
  · show g ∈ Q.rs ↔ (∃ x ∈ Q.ms.map (tilM m.num til), x.grp = g) ∧ ∀ x ∈ Q.ms.map (tilM m.num til), x.grp = g → x.til = 0
    rw [h.rr g]
    constructor
    · rintro ⟨⟨a, ha, he⟩, hz⟩
      refine ⟨⟨_, List.mem_map_of_mem ha, by rw [tilM_grp]; exact he⟩, fun x hx he => ?_⟩
      obtain ⟨b, hb, rfl⟩ := List.mem_map.1 hx
      rw [tilM_grp] at he
      exact (hz0 b hb).2 (hz b hb he)
    · rintro ⟨⟨x, hx, hxg⟩, hz⟩
      obtain ⟨a, ha, rfl⟩ := List.mem_map.1 hx
      rw [tilM_grp] at hxg
      exact ⟨⟨a, ha, hxg⟩, fun b hb he => (hz0 b hb).1 (hz _ (List.mem_map_of_mem hb) (by rw [tilM_grp]; exact he))⟩
theorem QW.send {i : Nat} {Q : QM} (h : QW i Q) {r : Wp.Rq} {now : Int} (hq : (Q.ms.length : Int) < Q.c.quo) (hn : Q.next ≤ 200) (hg : 1 ≤ r.grp.size ∧ r.grp.size ≤ 8) (hb : r.bod.size ≤ 40) (hid : (didS r).size ≤ 8) (hnow : 0 ≤ now ∧ now ≤ 60000) : QW i (sendQ Q r now) := by
  have h1 := h.put (g := r.grp) (b := r.bod) (by omega) hn hg hb
  have hnx := h.nx
  have hwin := h.c.win
  refine { c := h1.c, nx := h1.nx, mq := h1.mq, nums := h1.nums, mok := h1.mok, hd := h1.hd, rn := h1.rn, rr := h1.rr, dn := ?_, dok := ?_, al := h1.al, aok := h1.aok }
  · show (if 0 < Q.c.win then Q.ds ++ [⟨didS r, (Q.next : Nat), now + Q.c.win⟩] else Q.ds).Pairwise _
    split
    · rw [List.pairwise_append]
      refine ⟨h.dn, by simp, fun a ha b hb => ?_⟩
      simp at hb
      subst hb
      exact (h.dok a ha).2.1.2
    · exact h.dn
  · show ∀ d ∈ (if 0 < Q.c.win then Q.ds ++ [⟨didS r, (Q.next : Nat), now + Q.c.win⟩] else Q.ds), d.id.size ≤ 8 ∧ (1 ≤ d.num ∧ d.num < ((Q.next + 1 : Nat) : Int)) ∧ 0 ≤ d.til ∧ d.til ≤ 62000
    have hold : ∀ d ∈ Q.ds, d.id.size ≤ 8 ∧ (1 ≤ d.num ∧ d.num < ((Q.next + 1 : Nat) : Int)) ∧ 0 ≤ d.til ∧ d.til ≤ 62000 := fun d hd => by
      have h2 := h.dok d hd
      exact ⟨h2.1, ⟨h2.2.1.1, by have := h2.2.1.2; omega⟩, h2.2.2⟩
    split
    · intro d hd
      rcases List.mem_append.1 hd with hd | hd
      · exact hold d hd
      · simp at hd
        subst hd
        exact ⟨hid, ⟨by show (1 : Int) ≤ (Q.next : Nat); omega, by show ((Q.next : Nat) : Int) < ((Q.next + 1 : Nat) : Int); omega⟩, by show (0 : Int) ≤ now + Q.c.win; omega, by show now + Q.c.win ≤ 62000; omega⟩
    · exact hold
theorem MsG.ok {nx : Nat} {m : Ms} (h : MsG nx m) (hn : nx ≤ 201) : MsOk m := ⟨by have := h.num; omega, h.rcv, by have := h.grp; omega, by have := h.bod; omega⟩
theorem QW.mso {i : Nat} {Q : QM} (h : QW i Q) : ∀ m ∈ Q.ms, MsOk m := fun m hm => (h.mok m hm).ok h.nx.2
theorem QW.giv {i : Nat} {Q : QM} (h : QW i Q) (g : ByteArray) : (givM Q g).length ≤ 58 := by
  unfold givM
  split
  · rename_i m hm
    have h1 := h.mok m (List.mem_of_getElem? hm)
    rw [givB_len]
    have := h1.grp
    have := h1.bod
    omega
  · simp
theorem QW.ans {i : Nat} {Q : QM} (h : QW i Q) (cnt : Nat) (hc : cnt ≤ 10) : (ansL Q cnt cnt).length ≤ 600 := by
  unfold ansL
  rw [List.length_append, lowB_length]
  have h1 := flt_len (givM Q) 58 (Q.rs.take cnt) (fun g _ => h.giv g)
  rw [List.length_take] at h1
  omega
theorem QW.rem {i : Nat} {Q : QM} (h : QW i Q) (hl : Q.ats.length < 20) (a : At) (h1 : a.id.size ≤ 8) (h2 : 0 < a.ans.size ∧ a.ans.size ≤ 600) (h3 : 0 ≤ a.til ∧ a.til ≤ 62000) : QW i (remQ Q a) := by
  unfold remQ
  split
  · exact h
  · refine { c := h.c, nx := h.nx, mq := h.mq, nums := h.nums, mok := h.mok, hd := h.hd, rn := h.rn, rr := h.rr, dn := h.dn, dok := h.dok, al := ?_, aok := fun x hx => ?_ }
    · show (Q.ats ++ [a]).length ≤ 20
      simp
      omega
    · rcases List.mem_append.1 hx with hx | hx
      · exact h.aok x hx
      · simp at hx
        subst hx
        exact ⟨⟨by omega, h1⟩, h2, h3⟩
def recvC (c : Nat → Option QM) (i : Nat) (Q : QM) (att : ByteArray) (cnt : Nat) (now : Int) : Nat → Option QM := if cnt = 0 then c else setC c i (some (recvQ Q att cnt (now + Q.c.vis) (ansL Q cnt cnt)))
theorem op_R (B : Nat) (r : Wp.Rq) (x st b i mx cnt : Nat) (now : Int) (c : Nat → Option QM) (col : Nat → Nat) (w : World) (hE : Env B w) (hb : Bk B w x st b now c col) (hop : r.op = 82) (hi : i < 8) (hq : r.q.toNat = 97 + i) (Q : QM) (hQ : c i = some Q) (hid : idxL (isA r.att) Q.ats < 0) (hna : Q.ats.length < 20) (has : r.att.size ≤ 8) (hmx : r.mx = (mx : Nat)) (hm1 : 1 ≤ mx ∧ mx ≤ 10) (hcnt : cnt = if mx ≤ Q.rs.length then mx else Q.rs.length)
    (Z : Nat → Option BQ) (o : Option ByteArray) (room : Int) (hs : SG B w st b now Z col) (hc : ctZ Z = c) (W : World) (y : Sl) (ht : Tch [] w W) :
    Calls Tryz.prog 62 #[.pointer (some ⟨st, 0, none⟩), .agg (cellsOf r y.v)] W fun e w' => Tch [] W w' ∧ PlG B (fun w => Jg B w x st o room) (fun t w' => t = okL (ansL Q cnt cnt) ∧ Did B x st b w col now (recvC c i Q r.att cnt now) w') e w' := by
  have hQ' : ctZ Z i = some Q := by rw [hc]; exact hQ
  obtain ⟨z, hz, hzq⟩ := ctZ_get hQ'
  have hW := hb.wf i Q hi hQ
  have hnw := hb.nw
  have hvis := hW.c.vis
  have hcl : cnt ≤ Q.rs.length ∧ cnt ≤ 10 := by split at hcnt <;> omega
  have hrl := hW.rl
  have hml := hW.ml
  refine plan_w B _ _ r y st b 17 207 (b + 2) now _ W (by rw [hop]; rfl) (by decide) (hs.tch ht).stb rfl eg207 ?_
  intro W1 ht1
  have tW := ht.trans ht1 (by simp)
  have hsW := hs.tch tW
  refine within_g B _ _ r y st b i 163 (b + 2) z.qb now _ W1 hq hi hsW.stb (by show ptrV (ptZ Z i) = _; unfold ptZ; rw [hz]; rfl) (hsW.tb 2 163 (by decide)) eg163 ?_
  intro W2 ht2
  have tW2 := tW.trans ht2 (by simp)
  have hqr : ∀ {W'}, Tch [] w W' → QR W' z.qb z.V Q := fun {W'} h => by rw [← hzq]; exact (hs.tch h).qr i z hi hz
  refine (receive_some Q z.V r y z.qb now W2 (hqr tW2) (by have := hW.al; omega) (by omega) hid mx cnt hmx hm1 hcnt hnw ⟨by omega, by omega⟩ (by omega) (fun g hg => hW.hidx hg) hW.mso).mono ?_
  rintro e w' ⟨gc, ga, base, av, ⟨h0, rfl, hown, ht'⟩ | ⟨h0, rfl, hrc, hg1, hg2, hg3⟩⟩
  · refine ⟨ht', .inr ⟨av, .nilFunc, ansL Q cnt cnt, rfl, .inr ⟨ansL_pos Q cnt cnt, by have := hW.ans cnt hcl.2; omega, Rdb.of_own hown (ansL_pos Q cnt cnt)⟩, fun w2 ht2 => .inl ⟨rfl, fun w3 ht3 => ⟨rfl, ?_⟩⟩⟩⟩
    have t3 : Tch [] w w3 := ((tW2.trans ht' (by simp)).trans ht2 (by simp)).trans ht3 (by simp)
    unfold recvC
    rw [if_pos h0]
    exact did_same hb hE.size t3
  · refine ⟨hrc.tch, .inr ⟨av, _, ansL Q cnt cnt, rfl, .inr ⟨ansL_pos Q cnt cnt, by have := hW.ans cnt hcl.2; omega, Rdb.of_own hrc.own (ansL_pos Q cnt cnt)⟩, fun w1 ht1 => .inr ⟨212, _, rfl, eg212, fun w2 w3 ht2 hf3 hj3 => ?_⟩⟩⟩
    have t2 : Tch [] w w2 := ((tW2.trans hrc.tch (by simp)).trans ht1 (by simp)).trans ht2 (by simp)
    have hs3 := hs.lay t2 hf3
    have hz2 := t2.size
    have hz3 := hf3.size
    have hcp := (hrc.tch0 (ht1.trans ht2 (by simp))).cap.keep hf3 (by decide)
    refine (recvd_any Q z.V (cellsOf r y.v) r.att z.qb cnt W2.heap.size gc ga base (now + Q.c.vis) av (ansL Q cnt cnt) w3 (by rw [← hzq]; exact hs3.qr i z hi hz) hcp rfl ⟨h0, by omega⟩ hcl.1 (fun g hg => hW.hidx hg) hW.mso (by omega) hna (ansL_pos Q cnt cnt)).mono ?_
    rintro e w4 ⟨rfl, hl⟩
    have hsn := hs3.updn (by have := hE.size; omega) hi hz hl
    rw [hc] at hsn
    unfold recvC
    rw [if_neg (by omega)]
    refine ⟨rfl, rfl, did_n hE.size t2 hf3 hj3 hsn (hb.wf.set ?_) hnw⟩
    exact QW.rem (hW.recv hcl.1 ⟨by omega, by omega⟩) hna _ has ⟨by show 0 < (ansL Q cnt cnt).toArray.size; simpa using ansL_pos Q cnt cnt, by show (ansL Q cnt cnt).toArray.size ≤ 600; simpa using hW.ans cnt hcl.2⟩ ⟨by show (0 : Int) ≤ now + Q.c.vis; omega, by show now + Q.c.vis ≤ 62000; omega⟩
theorem op_S (B : Nat) (r : Wp.Rq) (x st b i : Nat) (now : Int) (c : Nat → Option QM) (col : Nat → Nat) (w : World) (hE : Env B w) (hb : Bk B w x st b now c col) (hop : r.op = 83) (hi : i < 8) (hq : r.q.toNat = 97 + i) (Q : QM) (hQ : c i = some Q) (hid : idxL (isI (didS r)) Q.ds < 0) (hbod : r.bod.size ≤ 40) (hgrp : 1 ≤ r.grp.size ∧ r.grp.size ≤ 8) (hdd : r.ded.size ≤ 8) (hquo : (Q.ms.length : Int) < Q.c.quo) (hk : Q.next ≤ 200)
    (Z : Nat → Option BQ) (o : Option ByteArray) (room : Int) (hs : SG B w st b now Z col) (hc : ctZ Z = c) (W : World) (y : Sl) (ht : Tch [] w W) :
    Calls Tryz.prog 62 #[.pointer (some ⟨st, 0, none⟩), .agg (cellsOf r y.v)] W fun e w' => Tch [] W w' ∧ PlG B (fun w => Jg B w x st o room) (fun t w' => t = okL (lowB Q.next 4) ∧ Did B x st b w col now (setC c i (some (sendQ Q r now))) w') e w' := by
  have hQ' : ctZ Z i = some Q := by rw [hc]; exact hQ
  obtain ⟨z, hz, hzq⟩ := ctZ_get hQ'
  have hW := hb.wf i Q hi hQ
  have hnw := hb.nw
  have hwin := hW.c.win
  have hrl := hW.rl
  have hml := hW.ml
  have hdl := hW.dl
  have hids : (didS r).size ≤ 8 := by
    unfold didS
    split
    · show (0 :: lowB _ 4).toArray.size ≤ 8
      simp [lowB_length]
    · exact hdd
  refine plan_w B _ _ r y st b 18 207 (b + 3) now _ W (by rw [hop]; rfl) (by decide) (hs.tch ht).stb rfl eg207 ?_
  intro W1 ht1
  have tW := ht.trans ht1 (by simp)
  have hsW := hs.tch tW
  refine within_g B _ _ r y st b i 164 (b + 3) z.qb now _ W1 hq hi hsW.stb (by show ptrV (ptZ Z i) = _; unfold ptZ; rw [hz]; rfl) (hsW.tb 3 164 (by decide)) eg164 ?_
  intro W2 ht2
  have tW2 := tW.trans ht2 (by simp)
  have hqW : QR W2 z.qb z.V Q := by rw [← hzq]; exact (hs.tch tW2).qr i z hi hz
  obtain ⟨am, cm, hvm⟩ := own_shape hqW.m
  have hbk := hqW.blk
  rw [hvm] at hbk
  have hz2 := tW2.size
  have hE3 := hE.three
  have hES := hE.size
  refine (sendg_new Q.c r y z.qb Q.next Q.ms.length cm am Q.ds now z.V.r z.V.d z.V.a W2 hbk hbod (hE.tab.tch tW2 (by simp) (by omega)) (by omega) hqW.d (by omega) hid hquo hk).mono ?_
  rintro e w' ⟨av, gi, rfl, hown, hb', b0, bi, b1, b2⟩
  have t1 := Tch.of_below hb'
  refine ⟨t1, .inr ⟨av, _, lowB Q.next 4, rfl, .inr ⟨by rw [lowB_length]; omega, by rw [lowB_length]; omega, Rdb.of_own hown (by rw [lowB_length]; omega)⟩, fun w1 ht1 => .inr ⟨218, _, rfl, eg158, fun w2 w3 ht2 hf3 hj3 => ?_⟩⟩⟩
  have t2 : Tch [] w w2 := ((tW2.trans t1 (by simp)).trans ht1 (by simp)).trans ht2 (by simp)
  have hs3 := hs.lay t2 hf3
  have hzz2 := t2.size
  have hzz3 := hf3.size
  have kp : ∀ (j : Nat) (C : Array Value) (t : TypeId), w'.heap[j]? = some (.cells C t (0, 0)) → t ∉ TJ → w3.heap[j]? = some (.cells C t (0, 0)) := fun j C t hj hT => hf3.keep j C t (((ht1.trans ht2 (by simp)).block j (lt_of_block hj) (by simp)).trans hj) hT
  refine (sent_q Q z.V r y z.qb W2.heap.size gi (W2.heap.size + 1) (W2.heap.size + 2) now w3 (by rw [← hzq]; exact hs3.qr i z hi hz) (by omega) (by omega) (by omega) hk ⟨by omega, by omega⟩ hnw (kp _ _ _ b0 (by decide)) (kp _ _ _ bi (by decide)) (kp _ _ _ b1 (by decide)) (kp _ _ _ b2 (by decide))).mono ?_
  rintro e w4 ⟨rfl, hl⟩
  have hsn := hs3.updn (by omega) hi hz hl
  rw [hc] at hsn
  exact ⟨rfl, rfl, did_n hE.size t2 hf3 hj3 hsn (hb.wf.set (hW.send hquo hk hgrp hbod hids hnw)) hnw⟩
def HanIs (s : ByteArray) (i num rcv : Nat) : Prop := ∃ h8 : s.size = 8, s[0] = 72 ∧ isLet s[1] = true ∧ s[1].toNat = 97 + i ∧ leN (tk (s.extract 2 8) 4).data.toList = num ∧ leN (tk (lf (s.extract 2 8) 4) 2).data.toList = rcv
theorem find_sg (B : Nat) (s : ByteArray) (st b i num rcv : Nat) (now : Int) (Z : Nat → Option BQ) (col : Nat → Nat) (w : World) (hE : Env B w) (hh : HanIs s i num rcv) (hi : i < 8) (hs : SG B w st b now Z col) (x : BQ) (hx : Z i = some x) (hl : x.Q.ms.length ≤ 1000) :
    Calls Tryz.prog 194 #[.pointer (some ⟨st, 0, none⟩), .string s] w fun e w' => e = .returned (.tuple #[if fliesQ x.Q num rcv = true then .pointer (some ⟨x.qb, 0, none⟩) else .pointer none, .int .i64 (if fliesQ x.Q num rcv = true then (num : Int) else 0), .int .i64 (if fliesQ x.Q num rcv = true then 0 else 8)]) ∧ Tch [] w w' := by
  obtain ⟨h8, h0, h1, h2, h3, h4⟩ := hh
  have hrd := read_yes B s w hE.lays hE.size h8 h0 h1
  rw [h3, h4] at hrd
  refine find_fl (fliesQ x.Q num rcv) st x.qb s ((s[1].toNat : Nat) : Int) num rcv w ⟨hrd, fun W ht => ?_⟩ (fun W ht => ?_)
  · have h5 := at_g st b i now _ W (hs.tch ht).stb hi
    have e : ((s[1].toNat : Nat) : Int) = 97 + (i : Int) := by rw [h2]; omega
    rw [e]
    have e2 : ptrV (ptZ Z i) = .pointer (some ⟨x.qb, 0, none⟩) := by unfold ptZ; rw [hx]; rfl
    rw [e2] at h5
    exact h5
  · exact flies_any x.Q x.V x.qb s[1] num rcv W ((hs.tch ht).qr i x hi hx) hl
theorem flies_get {Q : QM} {num rcv : Int} (h : fliesQ Q num rcv = true) : ∃ m, Q.ms.find? (isN num) = some m ∧ 0 < m.til ∧ m.rcv = rcv := by
  unfold fliesQ at h
  cases hf : Q.ms.find? (isN num) with
  | none => rw [hf] at h; simp at h
  | some m =>
    rw [hf] at h
    simp at h
    exact ⟨m, rfl, h.1, h.2⟩
theorem op_A (B : Nat) (r : Wp.Rq) (x st b i num rcv : Nat) (now : Int) (c : Nat → Option QM) (col : Nat → Nat) (w : World) (hE : Env B w) (hb : Bk B w x st b now c col) (hop : r.op = 65) (hi : i < 8) (hh : HanIs r.han i num rcv) (Q : QM) (hQ : c i = some Q) (hfl : fliesQ Q num rcv = true)
    (Z : Nat → Option BQ) (o : Option ByteArray) (room : Int) (hs : SG B w st b now Z col) (hc : ctZ Z = c) (W : World) (y : Sl) (ht : Tch [] w W) :
    Calls Tryz.prog 62 #[.pointer (some ⟨st, 0, none⟩), .agg (cellsOf r y.v)] W fun e w' => Tch [] W w' ∧ PlG B (fun w => Jg B w x st o room) (fun t w' => t = okL [] ∧ Did B x st b w col now (setC c i (some (dropQ Q num))) w') e w' := by
  have hQ' : ctZ Z i = some Q := by rw [hc]; exact hQ
  obtain ⟨z, hz, hzq⟩ := ctZ_get hQ'
  have hW := hb.wf i Q hi hQ
  have hrl := hW.rl
  have hml := hW.ml
  obtain ⟨m, hf, hft, hfr⟩ := flies_get hfl
  refine plan_p B _ _ r y st b 0 157 now _ W (by rw [hop]; rfl) (by decide) (hs.tch ht).stb rfl eg157 ?_
  intro W1 ht1
  have tW := ht.trans ht1 (by simp)
  refine (ack_ok (num : Int) z.qb r y st W1 (fun W2 ht2 => ?_)).mono ?_
  · have tW2 := tW.trans ht2 (by simp)
    have h1 := find_sg B r.han st b i num rcv now Z col W2 (hE.tch tW2 (by simp)) hh hi (hs.tch tW2) z hz (by rw [hzq]; omega)
    rw [hzq, hfl] at h1
    exact h1
  · rintro e w1 ⟨gq, gn, rfl, ht2, hgq, hgn⟩
    refine ⟨ht2, .inr ⟨_, _, [], rfl, .inl ⟨rfl, rfl⟩, fun w2 ht3 => .inr ⟨195, _, rfl, eg195, fun w3 w4 ht4 hf4 hJ4 => ?_⟩⟩⟩
    have t23 : Tch [] w1 w3 := ht3.trans ht4 (by simp)
    have t3 : Tch [] w w3 := (tW.trans ht2 (by simp)).trans t23 (by simp)
    have hs4 := hs.lay t3 hf4
    have hz3 := t3.size
    have hz4 := hf4.size
    have kgq := hf4.keep _ _ _ ((t23.block _ (lt_of_block hgq) (by simp)).trans hgq) (by decide)
    have kgn := hf4.keep _ _ _ ((t23.block _ (lt_of_block hgn) (by simp)).trans hgn) (by decide)
    obtain ⟨p, hp, _⟩ := find_idx hf
    refine ackd_walk _ (num : Int) z.qb gq gn w4 kgq kgn ((drop_any Q z.V z.qb num w4 (by rw [← hzq]; exact hs4.qr i z hi hz) (by omega) (by omega) (by rw [hp]; omega)).mono ?_)
    rintro e w5 ⟨rfl, hl⟩
    have hsn := hs4.updn (by have := hE.size; omega) hi hz hl
    rw [hc] at hsn
    exact ⟨rfl, rfl, did_n hE.size t3 hf4 hJ4 hsn (hb.wf.set (hW.drop hf hft)) hb.nw⟩
end Go.Proofs.YtbdobaapadlcjaaGreatDoor
