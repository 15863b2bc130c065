/-
  QUEUES THAT CAN BE (pure): sending, receiving, letting go, setting the time anew.
-/
import Derived.Test.YtbdobaapadlcjaaGreatDoorMx40
import Derived.Test.YtbdobaapadlcjaaGreatDoorMx48
namespace Go.Proofs.YtbdobaapadlcjaaGreatDoor
open Go.RowKit
set_option linter.unusedVariables false
set_option linter.unusedSimpArgs false

theorem find_first {p : Ms → Bool} : ∀ (l : List Ms), Ups l → ∀ x, l.find? p = some x → ∀ y ∈ l, p y = true → x.num ≤ y.num
  | [], _, x, h, _, _, _ => by simp at h
  | a :: r, hu, x, h, y, hy, hp => by
    obtain ⟨h1, h2⟩ := List.pairwise_cons.1 hu
    by_cases ha : p a = true
    · rw [List.find?_cons, ha] at h
      injection h with h
      subst h
      rcases List.mem_cons.1 hy with rfl | hy
      · omega
      · have := h1 y hy; omega
    · have ha' : p a = false := by simpa using ha
      rw [List.find?_cons, ha'] at h
      rcases List.mem_cons.1 hy with rfl | hy
      · exact absurd hp ha
      · exact find_first r h2 x h y hy hp
/-- Is a message the first of its group? -/
def isHead (ms : List Ms) (m : Ms) : Bool := (ms.find? (isG m.grp)).map Ms.num == some m.num
theorem isHead_find {ms : List Ms} (hu : Ups ms) {m : Ms} (hm : m ∈ ms) : isHead ms m = true ↔ ms.find? (isG m.grp) = some m := by
  unfold isHead
  rw [beq_iff_eq]
  constructor
  · intro h
    obtain ⟨x, h1, h2⟩ := Option.map_eq_some_iff.1 h
    rw [h1, num_inj hu (List.mem_of_find?_eq_some h1) hm h2]
  · intro h
    rw [h]
    rfl
theorem isHead_iff {ms : List Ms} (hu : Ups ms) {m : Ms} (hm : m ∈ ms) : isHead ms m = true ↔ ∀ y ∈ ms, y.grp = m.grp → m.num ≤ y.num := by
  rw [isHead_find hu hm]
  constructor
  · intro h y hy he
    exact find_first ms hu m h y hy ((isG_iff _ _).2 he)
  · intro h
    cases hf : ms.find? (isG m.grp) with
    | none => exact absurd ((isG_iff m.grp m).2 rfl) (List.find?_eq_none.1 hf m hm)
    | some x =>
      have h1 := find_first ms hu x hf m hm ((isG_iff _ _).2 rfl)
      have h2 := List.mem_of_find?_eq_some hf
      have h3 := (isG_iff _ _).1 (List.find?_some hf)
      have h4 := h x h2 h3
      rw [num_inj hu h2 hm (by omega)]
/-- Is a message of one of some groups? -/
def inG (gs : List ByteArray) (m : Ms) : Bool := gs.any (fun g => isG g m)
theorem inG_iff (gs : List ByteArray) (m : Ms) : inG gs m = true ↔ m.grp ∈ gs := by
  unfold inG
  rw [List.any_eq_true]
  constructor
  · rintro ⟨g, hg, he⟩
    rw [(isG_iff g m).1 he]
    exact hg
  · intro h
    exact ⟨m.grp, h, (isG_iff _ _).2 rfl⟩
/-- What becomes of a message when the heads of groups are given out. -/
def flyH (til : Int) (ms : List Ms) (gs : List ByteArray) (m : Ms) : Ms := if inG gs m = true ∧ isHead ms m = true then flyM til m else m
theorem flyH_num (til : Int) (ms : List Ms) (gs : List ByteArray) (m : Ms) : (flyH til ms gs m).num = m.num := by unfold flyH; split <;> rfl
theorem flyH_grp (til : Int) (ms : List Ms) (gs : List ByteArray) (m : Ms) : (flyH til ms gs m).grp = m.grp := by unfold flyH; split <;> rfl
theorem flyH_bod (til : Int) (ms : List Ms) (gs : List ByteArray) (m : Ms) : (flyH til ms gs m).bod = m.bod := by unfold flyH; split <;> rfl
theorem flyH_til (til : Int) (ms : List Ms) (gs : List ByteArray) (m : Ms) : (flyH til ms gs m).til = if inG gs m = true ∧ isHead ms m = true then til else m.til := by unfold flyH; split <;> rfl
theorem ups_idx {l : List Ms} (h : Ups l) {i j : Nat} (hi : i < l.length) (hj : j < l.length) (e : l[i].num = l[j].num) : i = j := by
  have h1 := List.pairwise_iff_getElem.1 h
  by_cases h2 : i < j
  · have := h1 i j hi hj h2; omega
  · by_cases h3 : j < i
    · have := h1 j i hj hi h3; omega
    · omega
theorem QW.hidx {i : Nat} {Q : QM} (h : QW i Q) {g : ByteArray} (hg : g ∈ Q.rs) : 0 ≤ idxL (isG g) Q.ms := by
  obtain ⟨m, hm, he⟩ := ((h.rr g).1 hg).1
  exact (idxL_ex _ _).2 ⟨m, hm, (isG_iff g m).2 he⟩
theorem fly_map {i : Nat} {Q : QM} (h : QW i Q) (til : Int) : ∀ (k : Nat), k ≤ Q.rs.length → flyAll til Q.ms (hdsL Q k) = Q.ms.map (flyH til Q.ms (Q.rs.take k))
  | 0, _ => by
    have e : Q.ms.map (flyH til Q.ms (Q.rs.take 0)) = Q.ms := by
      rw [List.map_congr_left (g := id) (fun x _ => ?_), List.map_id]
      unfold flyH
      rw [if_neg (by simp [inG])]
      rfl
    rw [e]
    rfl
  | k + 1, hk => by
    have hkl : k < Q.rs.length := by omega
    have ih := fly_map h til k (by omega)
    have e1 : hdsL Q (k + 1) = hdsL Q k ++ [idxL (isG Q.rs[k]) Q.ms] := by
      unfold hdsL
      rw [List.take_succ_eq_append_getElem hkl, List.map_append]
      rfl
    have hgm : Q.rs[k] ∈ Q.rs := List.getElem_mem hkl
    obtain ⟨p, hp⟩ : ∃ p : Nat, idxL (isG Q.rs[k]) Q.ms = (p : Int) := ⟨_, (Int.toNat_of_nonneg (h.hidx hgm)).symm⟩
    obtain ⟨hpl, hpg, hpf⟩ := idxL_fnd _ _ p hp
    have hgrp := (isG_iff _ _).1 hpg
    have hnot : Q.rs[k] ∉ Q.rs.take k := fun hm => by
      have h1 := h.rn
      rw [← List.take_append_drop k Q.rs, List.nodup_append] at h1
      have h2 : Q.rs[k] ∈ Q.rs.drop k := by
        rw [List.drop_eq_getElem_cons hkl]
        exact List.mem_cons_self
      exact h1.2.2 _ hm _ h2 rfl
    rw [e1, flyAll_snoc, ih, hp]
    unfold flyAt
    have e2 : (Q.ms.map (flyH til Q.ms (Q.rs.take k)))[((p : Nat) : Int).toNat]? = some Q.ms[p] := by
      rw [Int.toNat_natCast, List.getElem?_map, List.getElem?_eq_getElem hpl]
      show some _ = _
      unfold flyH
      rw [if_neg (by rw [inG_iff, hgrp]; exact fun hc => hnot hc.1)]
    rw [e2]
    show (Q.ms.map _).set ((p : Nat) : Int).toNat _ = _
    rw [Int.toNat_natCast]
    apply List.ext_getElem (by simp)
    intro j h1 h2
    have hjl : j < Q.ms.length := by simpa using h2
    rw [List.getElem_set]
    simp only [List.getElem_map]
    by_cases e : p = j
    · subst e
      rw [if_pos rfl]
      unfold flyH
      rw [if_pos ⟨by rw [inG_iff, hgrp, List.take_succ_eq_append_getElem hkl]; exact List.mem_append.2 (.inr (List.mem_singleton.2 rfl)), (isHead_find h.nums (List.getElem_mem hpl)).2 (by rw [hgrp]; exact hpf)⟩]
    · rw [if_neg e]
      unfold flyH
      have e3 : (inG (Q.rs.take (k + 1)) Q.ms[j] = true ∧ isHead Q.ms Q.ms[j] = true) ↔ (inG (Q.rs.take k) Q.ms[j] = true ∧ isHead Q.ms Q.ms[j] = true) := by
        rw [inG_iff, inG_iff, List.take_succ_eq_append_getElem hkl, List.mem_append]
        constructor
        · rintro ⟨h3 | h3, h4⟩
          · exact ⟨h3, h4⟩
          · exfalso
            simp at h3
            have h5 := (isHead_find h.nums (List.getElem_mem hjl)).1 h4
            rw [h3, hpf] at h5
            injection h5 with h5
            exact e (ups_idx h.nums hpl hjl (by rw [h5]))
        · rintro ⟨h3, h4⟩
          exact ⟨.inl h3, h4⟩
      by_cases h6 : inG (Q.rs.take k) Q.ms[j] = true ∧ isHead Q.ms Q.ms[j] = true
      · rw [if_pos h6, if_pos (e3.2 h6)]
      · rw [if_neg h6, if_neg (fun h7 => h6 (e3.1 h7))]
theorem QW.recv {i : Nat} {Q : QM} (h : QW i Q) {cnt : Nat} (hc : cnt ≤ Q.rs.length) {til : Int} (ht : 0 < til ∧ til ≤ 61000) : QW i { Q with ms := flyAll til Q.ms (hdsL Q cnt), rs := Q.rs.drop cnt } := by
  rw [fly_map h til cnt hc]
  have hnd := h.rn
  rw [← List.take_append_drop cnt Q.rs, List.nodup_append] at hnd
  refine { c := h.c, nx := h.nx, mq := by simpa using h.mq, nums := ups_map h.nums _ (flyH_num _ _ _), mok := fun x hx => ?_, hd := fun x hx hf y hy he => ?_, rn := hnd.2.1, rr := fun g => ?_, dn := h.dn, dok := h.dok, al := h.al, aok := h.aok }
  · obtain ⟨a, ha, rfl⟩ := List.mem_map.1 hx
    have h1 := h.mok a ha
    refine ⟨by rw [flyH_num]; exact h1.num, by rw [flyH_grp]; exact h1.grp, by rw [flyH_bod]; exact h1.bod, ?_, ?_⟩
    · unfold flyH
      split
      · exact ⟨by show (0 : Int) ≤ ((oft a.rcv.toNat : Nat) : Int); omega, by show ((oft a.rcv.toNat : Nat) : Int) ≤ 65535; have := oft_le a.rcv.toNat; omega⟩
      · exact h1.rcv
    · rw [flyH_til]
      split
      · exact ⟨by omega, ht.2⟩
      · exact h1.til
  · obtain ⟨a, ha, rfl⟩ := List.mem_map.1 hx
    obtain ⟨b, hb, rfl⟩ := List.mem_map.1 hy
    rw [flyH_grp, flyH_grp] at he
    rw [flyH_num, flyH_num]
    rw [flyH_til] at hf
    split at hf
    · rename_i h1
      exact (isHead_iff h.nums ha).1 h1.2 b hb he
    · exact h.hd a ha hf b hb he
  · show g ∈ Q.rs.drop cnt ↔ (∃ x ∈ Q.ms.map (flyH til Q.ms (Q.rs.take cnt)), x.grp = g) ∧ ∀ x ∈ Q.ms.map (flyH til Q.ms (Q.rs.take cnt)), x.grp = g → x.til = 0
    constructor
    · intro hg
      obtain ⟨⟨a, ha, he⟩, hz⟩ := (h.rr g).1 (List.mem_of_mem_drop hg)
      have hnt : g ∉ Q.rs.take cnt := fun hm => hnd.2.2 g hm g hg rfl
      refine ⟨⟨_, List.mem_map_of_mem ha, by rw [flyH_grp]; exact he⟩, fun x hx he => ?_⟩
      obtain ⟨b, hb, rfl⟩ := List.mem_map.1 hx
      rw [flyH_grp] at he
      rw [flyH_til, if_neg (by rw [inG_iff, he]; exact fun hc => hnt hc.1)]
      exact hz b hb he
    · rintro ⟨⟨x, hx, hxg⟩, hz⟩
      obtain ⟨a, ha, rfl⟩ := List.mem_map.1 hx
      rw [flyH_grp] at hxg
      have hnt : g ∉ Q.rs.take cnt := fun hm => by
        cases hf : Q.ms.find? (isG g) with
        | none => exact absurd ((isG_iff g a).2 hxg) (List.find?_eq_none.1 hf a ha)
        | some y =>
          have hy := List.mem_of_find?_eq_some hf
          have hyg := (isG_iff _ _).1 (List.find?_some hf)
          have h1 := hz _ (List.mem_map_of_mem hy) (by rw [flyH_grp]; exact hyg)
          rw [flyH_til, if_pos ⟨by rw [inG_iff, hyg]; exact hm, (isHead_find h.nums hy).2 (by rw [hyg]; exact hf)⟩] at h1
          omega
      have hg : g ∈ Q.rs := (h.rr g).2 ⟨⟨a, ha, hxg⟩, fun b hb he => by
        have h1 := hz _ (List.mem_map_of_mem hb) (by rw [flyH_grp]; exact he)
        rw [flyH_til, if_neg (by rw [inG_iff, he]; exact fun hc => hnt hc.1)] at h1
        exact h1⟩
      rw [← List.take_append_drop cnt Q.rs] at hg
      rcases List.mem_append.1 hg with hg | hg
      · exact absurd hg hnt
      · exact hg
theorem recvQ_none (Q : QM) (cnt : Nat) (til : Int) (ans : List UInt8) : recvQ Q ⟨#[]⟩ cnt til ans = { Q with ms := flyAll til Q.ms (hdsL Q cnt), rs := Q.rs.drop cnt } := by
  unfold recvQ remQ
  exact if_pos rfl
theorem drop_eq {i : Nat} {Q : QM} (h : QW i Q) {num : Int} {m : Ms} (hf : Q.ms.find? (isN num) = some m) : dropQ Q num = { Q with ms := Q.ms.filter (fun a => !isN num a), rs := if idxL (isG m.grp) (Q.ms.filter (fun a => !isN num a)) < 0 then Q.rs else Q.rs ++ [m.grp] } := by
  unfold dropQ
  rw [hf]
  simp only [erase_filter num Q.ms m h.nums hf]
theorem QW.drop {i : Nat} {Q : QM} (h : QW i Q) {num : Int} {m : Ms} (hf : Q.ms.find? (isN num) = some m) (ht : 0 < m.til) : QW i (dropQ Q num) := by
  rw [drop_eq h hf]
  obtain ⟨hm, hn⟩ := find_mem hf
  subst hn
  have hmem : ∀ x, x ∈ Q.ms.filter (fun a => !isN m.num a) ↔ x ∈ Q.ms ∧ x.num ≠ m.num := fun x => by
    rw [List.mem_filter]
    refine and_congr_right (fun _ => ?_)
    rw [Bool.not_eq_true', ← Bool.not_eq_true, isN_iff]
  have hzero : ∀ b ∈ Q.ms, b.grp = m.grp → b.num ≠ m.num → b.til = 0 := fun b hb he hne => by
    have h1 := (h.mok b hb).til
    by_cases h2 : 0 < b.til
    · exact absurd (congrArg Ms.num (h.one hb hm h2 ht he)) hne
    · omega
  refine { c := h.c, nx := h.nx, mq := ?_, nums := ups_filter h.nums _, mok := fun x hx => h.mok x ((hmem x).1 hx).1, hd := fun x hx ht y hy he => h.hd x ((hmem x).1 hx).1 ht y ((hmem y).1 hy).1 he, rn := ?_, rr := fun g => ?_, dn := h.dn, dok := h.dok, al := h.al, aok := h.aok }
  · have h1 := List.length_filter_le (fun a => !isN m.num a) Q.ms
    have h2 := h.mq
    show ((Q.ms.filter (fun a => !isN m.num a)).length : Int) ≤ Q.c.quo
    omega
  · show (if idxL (isG m.grp) (Q.ms.filter (fun a => !isN m.num a)) < 0 then Q.rs else Q.rs ++ [m.grp]).Nodup
    split
    · exact h.rn
    · rw [List.nodup_append]
      refine ⟨h.rn, by simp, fun a ha b hb => ?_⟩
      simp at hb
      subst hb
      exact fun e => h.nr hm ht (e ▸ ha)
  · show g ∈ (if idxL (isG m.grp) (Q.ms.filter (fun a => !isN m.num a)) < 0 then Q.rs else Q.rs ++ [m.grp]) ↔ (∃ x ∈ Q.ms.filter (fun a => !isN m.num a), x.grp = g) ∧ ∀ x ∈ Q.ms.filter (fun a => !isN m.num a), x.grp = g → x.til = 0
    have hin : g ∈ (if idxL (isG m.grp) (Q.ms.filter (fun a => !isN m.num a)) < 0 then Q.rs else Q.rs ++ [m.grp]) ↔ g ∈ Q.rs ∨ (g = m.grp ∧ ∃ x ∈ Q.ms.filter (fun a => !isN m.num a), x.grp = m.grp) := by
      by_cases hneg : idxL (isG m.grp) (Q.ms.filter (fun a => !isN m.num a)) < 0
      · rw [if_pos hneg]
        constructor
        · exact .inl
        · rintro (h1 | ⟨_, x, hx, he⟩)
          · exact h1
          · have := (idxL_neg _ _).1 hneg x hx
            rw [(isG_iff _ _).2 he] at this
            simp at this
      · rw [if_neg hneg]
        obtain ⟨x, hx, he⟩ := (idxL_ex _ _).1 (show 0 ≤ idxL (isG m.grp) (Q.ms.filter (fun a => !isN m.num a)) by omega)
        rw [List.mem_append]
        constructor
        · rintro (h1 | h1)
          · exact .inl h1
          · simp at h1
            exact .inr ⟨h1, x, hx, (isG_iff _ _).1 he⟩
        · rintro (h1 | ⟨h1, _⟩)
          · exact .inl h1
          · exact .inr (by simp [h1])
    rw [hin]
    constructor
    · rintro (hg | ⟨rfl, x, hx, he⟩)
      · obtain ⟨⟨a, ha, he⟩, hz⟩ := (h.rr g).1 hg
        refine ⟨⟨a, (hmem a).2 ⟨ha, fun e => ?_⟩, he⟩, fun x hx he => hz x ((hmem x).1 hx).1 he⟩
        have := num_inj h.nums ha hm e
        subst this
        have := hz a ha he
        omega
      · exact ⟨⟨x, hx, he⟩, fun y hy hye => hzero y ((hmem y).1 hy).1 hye ((hmem y).1 hy).2⟩
    · rintro ⟨⟨x, hx, hxg⟩, hz⟩
      by_cases e : g = m.grp
      · exact .inr ⟨e, x, hx, by rw [hxg, e]⟩
      · refine .inl ((h.rr g).2 ⟨⟨x, ((hmem x).1 hx).1, hxg⟩, fun b hb he => hz b ((hmem b).2 ⟨hb, fun en => ?_⟩) he⟩)
        have := num_inj h.nums hb hm en
        subst this
        exact e he.symm
theorem QW.send {i : Nat} {Q : QM} (h : QW i Q) {r : Wp.Rq} {now : Int} (hq : (Q.ms.length : Int) < Q.c.quo) (hn : Q.next ≤ 200) (hg : 1 ≤ r.grp.size ∧ r.grp.size ≤ 8) (hb : r.bod.size ≤ 40) (hid : (didS r).size ≤ 8) (hnow : 0 ≤ now ∧ now ≤ 60000) : QW i (sendQ Q r now) := by
  have h1 := h.put (g := r.grp) (b := r.bod) (by omega) hn hg hb
  have hnx := h.nx
  have hwin := h.c.win
  refine { c := h1.c, nx := h1.nx, mq := h1.mq, nums := h1.nums, mok := h1.mok, hd := h1.hd, rn := h1.rn, rr := h1.rr, dn := ?_, dok := ?_, al := h1.al, aok := h1.aok }
  · show (if 0 < Q.c.win then Q.ds ++ [⟨didS r, (Q.next : Nat), now + Q.c.win⟩] else Q.ds).Pairwise _
    split
    · rw [List.pairwise_append]
      refine ⟨h.dn, by simp, fun a ha b hb => ?_⟩
      simp at hb
      subst hb
      exact (h.dok a ha).2.1.2
    · exact h.dn
  · show ∀ d ∈ (if 0 < Q.c.win then Q.ds ++ [⟨didS r, (Q.next : Nat), now + Q.c.win⟩] else Q.ds), d.id.size ≤ 8 ∧ (1 ≤ d.num ∧ d.num < ((Q.next + 1 : Nat) : Int)) ∧ 0 ≤ d.til ∧ d.til ≤ 62000
    have hold : ∀ d ∈ Q.ds, d.id.size ≤ 8 ∧ (1 ≤ d.num ∧ d.num < ((Q.next + 1 : Nat) : Int)) ∧ 0 ≤ d.til ∧ d.til ≤ 62000 := fun d hd => by
      have h2 := h.dok d hd
      exact ⟨h2.1, ⟨h2.2.1.1, by have := h2.2.1.2; omega⟩, h2.2.2⟩
    split
    · intro d hd
      rcases List.mem_append.1 hd with hd | hd
      · exact hold d hd
      · simp at hd
        subst hd
        exact ⟨hid, ⟨by show (1 : Int) ≤ (Q.next : Nat); omega, by show ((Q.next : Nat) : Int) < ((Q.next + 1 : Nat) : Int); omega⟩, by show (0 : Int) ≤ now + Q.c.win; omega, by show now + Q.c.win ≤ 62000; omega⟩
    · exact hold
end Go.Proofs.YtbdobaapadlcjaaGreatDoor
