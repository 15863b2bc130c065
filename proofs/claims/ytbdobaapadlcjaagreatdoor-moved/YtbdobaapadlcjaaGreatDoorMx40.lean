/-
  QUEUES THAT CAN BE (pure): coming back, moving, putting, forgetting.
-/
import Derived.Test.YtbdobaapadlcjaaGreatDoorMx39
namespace Go.Proofs.YtbdobaapadlcjaaGreatDoor
open Go.RowKit
set_option linter.unusedVariables false
set_option linter.unusedSimpArgs false

theorem tilQ_eq (Q : QM) (h : Ups Q.ms) (num til : Int) : tilQ Q num til = { Q with ms := Q.ms.map (tilM num til) } := by
  have h1 := til_map Q h num til
  unfold tilQ at h1 ⊢
  cases hf : Q.ms.find? (isN num) with
  | none =>
    simp only [hf] at h1 ⊢
    rw [← h1]
  | some m =>
    simp only [hf] at h1 ⊢
    rw [← h1]
theorem QW.msT {i : Nat} {Q : QM} (h : QW i Q) {num til : Int} (ht : 0 ≤ til ∧ til ≤ 61000) : ∀ x ∈ Q.ms.map (tilM num til), MsG Q.next x := fun x hx => by
  obtain ⟨a, ha, rfl⟩ := List.mem_map.1 hx
  have h1 := h.mok a ha
  refine ⟨by rw [tilM_num]; exact h1.num, by rw [tilM_grp]; exact h1.grp, by rw [tilM_bod]; exact h1.bod, by rw [tilM_rcv]; exact h1.rcv, ?_⟩
  rw [tilM_til]
  split
  · exact ht
  · exact h1.til
/-- The group of what flies is not ready. -/
theorem QW.nr {i : Nat} {Q : QM} (h : QW i Q) {m : Ms} (hm : m ∈ Q.ms) (ht : 0 < m.til) : m.grp ∉ Q.rs := fun hg => by
  have := ((h.rr _).1 hg).2 m hm rfl
  omega
/-- Behind a message of a group that comes back none of the group flies. -/
theorem QW.zero {i : Nat} {Q : QM} (h : QW i Q) {m : Ms} (hm : m ∈ Q.ms) (ht : 0 < m.til) {b : Ms} (hb : b ∈ Q.ms) (hg : b.grp = m.grp) : (tilM m.num 0 b).til = 0 := by
  rw [tilM_til]
  split
  · rfl
  · rename_i hne
    have h1 := (h.mok b hb).til
    by_cases h2 : 0 < b.til
    · exact absurd (congrArg Ms.num (h.one hb hm h2 ht hg)) hne
    · omega
theorem QW.hdT {i : Nat} {Q : QM} (h : QW i Q) (num : Int) : ∀ x ∈ Q.ms.map (tilM num 0), 0 < x.til → ∀ y ∈ Q.ms.map (tilM num 0), y.grp = x.grp → x.num ≤ y.num := fun x hx ht y hy he => by
  obtain ⟨a, ha, rfl⟩ := List.mem_map.1 hx
  obtain ⟨b, hb, rfl⟩ := List.mem_map.1 hy
  rw [tilM_grp, tilM_grp] at he
  rw [tilM_num, tilM_num]
  rw [tilM_til] at ht
  split at ht
  · omega
  · exact h.hd a ha ht b hb he
theorem QW.ready {i : Nat} {Q : QM} (h : QW i Q) {num : Int} {m : Ms} (hf : Q.ms.find? (isN num) = some m) (ht : 0 < m.til) : QW i (readyQ (tilQ Q num 0) m.grp) := by
  obtain ⟨hm, hn⟩ := find_mem hf
  subst hn
  rw [tilQ_eq Q h.nums]
  refine { c := h.c, nx := h.nx, mq := by simpa [readyQ] using h.mq, nums := ups_map h.nums _ (tilM_num _ _), mok := h.msT ⟨by omega, by omega⟩, hd := h.hdT m.num, rn := ?_, rr := ?_, dn := h.dn, dok := h.dok, al := h.al, aok := h.aok }
  · show (Q.rs ++ [m.grp]).Nodup
    rw [List.nodup_append]
    refine ⟨h.rn, by simp, fun a ha b hb => ?_⟩
    simp at hb
    subst hb
    exact fun e => h.nr hm ht (e ▸ ha)
  · intro g
    show g ∈ Q.rs ++ [m.grp] ↔ (∃ x ∈ Q.ms.map (tilM m.num 0), x.grp = g) ∧ ∀ x ∈ Q.ms.map (tilM m.num 0), x.grp = g → x.til = 0
    constructor
    · intro hg
      rcases List.mem_append.1 hg with hg | hg
      · obtain ⟨⟨a, ha, he⟩, hz⟩ := (h.rr g).1 hg
        refine ⟨⟨tilM m.num 0 a, List.mem_map_of_mem ha, by rw [tilM_grp]; exact he⟩, fun x hx he => ?_⟩
        obtain ⟨b, hb, rfl⟩ := List.mem_map.1 hx
        rw [tilM_grp] at he
        rw [tilM_til]
        split
        · rfl
        · exact hz b hb he
      · simp at hg
        subst hg
        refine ⟨⟨tilM m.num 0 m, List.mem_map_of_mem hm, tilM_grp _ _ _⟩, fun x hx he => ?_⟩
        obtain ⟨b, hb, rfl⟩ := List.mem_map.1 hx
        rw [tilM_grp] at he
        exact h.zero hm ht hb he
    · rintro ⟨⟨x, hx, hxg⟩, hz⟩
      by_cases e : g = m.grp
      · exact List.mem_append.2 (.inr (by simp [e]))
      · refine List.mem_append.2 (.inl ((h.rr g).2 ⟨?_, fun b hb he => ?_⟩))
        · obtain ⟨a, ha, rfl⟩ := List.mem_map.1 hx
          rw [tilM_grp] at hxg
          exact ⟨a, ha, hxg⟩
        · have h1 := hz _ (List.mem_map_of_mem hb) (by rw [tilM_grp]; exact he)
          rw [tilM_til] at h1
          split at h1
          · rename_i hn
            have := num_inj h.nums hb hm hn
            subst this
            exact absurd he.symm e
          · exact h1
theorem QW.out {i : Nat} {Q : QM} (h : QW i Q) {num : Int} {m : Ms} (hf : Q.ms.find? (isN num) = some m) (ht : 0 < m.til) : QW i { tilQ Q num 0 with ms := (tilQ Q num 0).ms.filter (fun x => !isG m.grp x) } := by
  obtain ⟨hm, hn⟩ := find_mem hf
  subst hn
  rw [tilQ_eq Q h.nums]
  have hmem : ∀ x, x ∈ (Q.ms.map (tilM m.num 0)).filter (fun x => !isG m.grp x) ↔ x ∈ Q.ms.map (tilM m.num 0) ∧ x.grp ≠ m.grp := fun x => by
    rw [List.mem_filter]
    refine and_congr_right (fun _ => ?_)
    rw [Bool.not_eq_true', ← Bool.not_eq_true, isG_iff]
  refine { c := h.c, nx := h.nx, mq := ?_, nums := ups_filter (ups_map h.nums _ (tilM_num _ _)) _, mok := fun x hx => h.msT ⟨by omega, by omega⟩ x ((hmem x).1 hx).1, hd := fun x hx ht y hy he => h.hdT m.num x ((hmem x).1 hx).1 ht y ((hmem y).1 hy).1 he, rn := h.rn, rr := ?_, dn := h.dn, dok := h.dok, al := h.al, aok := h.aok }
  · have h1 := List.length_filter_le (fun x => !isG m.grp x) (Q.ms.map (tilM m.num 0))
    have h2 := h.mq
    rw [List.length_map] at h1
    show (((Q.ms.map (tilM m.num 0)).filter (fun x => !isG m.grp x)).length : Int) ≤ Q.c.quo
    omega
  · intro g
    show g ∈ Q.rs ↔ (∃ x ∈ (Q.ms.map (tilM m.num 0)).filter (fun x => !isG m.grp x), x.grp = g) ∧ ∀ x ∈ (Q.ms.map (tilM m.num 0)).filter (fun x => !isG m.grp x), x.grp = g → x.til = 0
    constructor
    · intro hg
      obtain ⟨⟨a, ha, he⟩, hz⟩ := (h.rr g).1 hg
      have hne : g ≠ m.grp := fun e => h.nr hm ht (e ▸ hg)
      refine ⟨⟨tilM m.num 0 a, (hmem _).2 ⟨List.mem_map_of_mem ha, by rw [tilM_grp, he]; exact hne⟩, by rw [tilM_grp]; exact he⟩, fun x hx he => ?_⟩
      obtain ⟨b, hb, rfl⟩ := List.mem_map.1 ((hmem x).1 hx).1
      rw [tilM_grp] at he
      rw [tilM_til]
      split
      · rfl
      · exact hz b hb he
    · rintro ⟨⟨x, hx, hxg⟩, hz⟩
      obtain ⟨h1, h2⟩ := (hmem x).1 hx
      obtain ⟨a, ha, rfl⟩ := List.mem_map.1 h1
      rw [tilM_grp] at hxg h2
      refine (h.rr g).2 ⟨⟨a, ha, hxg⟩, fun b hb he => ?_⟩
      have h3 := hz (tilM m.num 0 b) ((hmem _).2 ⟨List.mem_map_of_mem hb, by rw [tilM_grp, he, ← hxg]; exact h2⟩) (by rw [tilM_grp]; exact he)
      rw [tilM_til] at h3
      split at h3
      · rename_i hn
        have := num_inj h.nums hb hm hn
        subst this
        rw [hxg] at h2
        exact absurd he.symm h2
      · exact h3
theorem QW.put {i : Nat} {Q : QM} (h : QW i Q) {g b : ByteArray} (hq : (Q.ms.length : Int) + 1 ≤ Q.c.quo) (hn : Q.next ≤ 200) (hg : 1 ≤ g.size ∧ g.size ≤ 8) (hb : b.size ≤ 40) : QW i (putQ Q g b) := by
  have hmem : ∀ x, x ∈ Q.ms ++ [⟨(Q.next : Nat), g, b, 0, 0⟩] ↔ x ∈ Q.ms ∨ x = ⟨(Q.next : Nat), g, b, 0, 0⟩ := fun x => by simp
  have hnx := h.nx
  refine { c := h.c, nx := ⟨by show 1 ≤ Q.next + 1; omega, by show Q.next + 1 ≤ 201; omega⟩, mq := by show ((Q.ms ++ [_]).length : Int) ≤ Q.c.quo; simpa using hq, nums := ?_, mok := fun x hx => ?_, hd := fun x hx ht y hy he => ?_, rn := ?_, rr := ?_, dn := h.dn, dok := fun d hd => ⟨(h.dok d hd).1, ⟨(h.dok d hd).2.1.1, by have := (h.dok d hd).2.1.2; show d.num < ((Q.next + 1 : Nat) : Int); omega⟩, (h.dok d hd).2.2⟩, al := h.al, aok := h.aok }
  · show Ups (Q.ms ++ [_])
    rw [Ups, List.pairwise_append]
    refine ⟨h.nums, by simp, fun a ha c hc => ?_⟩
    simp at hc
    subst hc
    exact (h.mok a ha).num.2
  · rcases (hmem x).1 hx with hx | rfl
    · exact (h.mok x hx).mono (by show Q.next ≤ Q.next + 1; omega)
    · exact ⟨⟨by show (1 : Int) ≤ (Q.next : Nat); omega, by show ((Q.next : Nat) : Int) < ((Q.next + 1 : Nat) : Int); omega⟩, hg, hb, ⟨by show (0 : Int) ≤ 0; omega, by show (0 : Int) ≤ 65535; omega⟩, ⟨by show (0 : Int) ≤ 0; omega, by show (0 : Int) ≤ 61000; omega⟩⟩
  · rcases (hmem x).1 hx with hx | rfl
    · rcases (hmem y).1 hy with hy | rfl
      · exact h.hd x hx ht y hy he
      · have := (h.mok x hx).num.2
        show x.num ≤ ((Q.next : Nat) : Int)
        omega
    · exact absurd ht (by show ¬ (0 : Int) < 0; omega)
  · show (if idxL (isG g) Q.ms < 0 then Q.rs ++ [g] else Q.rs).Nodup
    split
    · rename_i hneg
      rw [List.nodup_append]
      refine ⟨h.rn, by simp, fun a ha c hc => ?_⟩
      simp at hc
      subst hc
      intro e
      subst e
      obtain ⟨⟨m, hm, he⟩, _⟩ := (h.rr a).1 ha
      have := (idxL_neg _ _).1 hneg m hm
      rw [(isG_iff a m).2 he] at this
      simp at this
    · exact h.rn
  · intro g'
    show g' ∈ (if idxL (isG g) Q.ms < 0 then Q.rs ++ [g] else Q.rs) ↔ (∃ x ∈ Q.ms ++ [⟨(Q.next : Nat), g, b, 0, 0⟩], x.grp = g') ∧ ∀ x ∈ Q.ms ++ [⟨(Q.next : Nat), g, b, 0, 0⟩], x.grp = g' → x.til = 0
    have hall : (∀ x ∈ Q.ms ++ [(⟨(Q.next : Nat), g, b, 0, 0⟩ : Ms)], x.grp = g' → x.til = 0) ↔ ∀ x ∈ Q.ms, x.grp = g' → x.til = 0 := by
      constructor
      · intro h1 x hx
        exact h1 x ((hmem x).2 (.inl hx))
      · intro h1 x hx he
        rcases (hmem x).1 hx with hx | rfl
        · exact h1 x hx he
        · rfl
    rw [hall]
    by_cases hneg : idxL (isG g) Q.ms < 0
    · rw [if_pos hneg]
      have hno : ∀ m ∈ Q.ms, m.grp ≠ g := fun m hm he => by
        have := (idxL_neg _ _).1 hneg m hm
        rw [(isG_iff g m).2 he] at this
        simp at this
      constructor
      · intro hg'
        rcases List.mem_append.1 hg' with hg' | hg'
        · obtain ⟨⟨m, hm, he⟩, hz⟩ := (h.rr g').1 hg'
          exact ⟨⟨m, (hmem m).2 (.inl hm), he⟩, hz⟩
        · simp at hg'
          subst hg'
          exact ⟨⟨_, (hmem _).2 (.inr rfl), rfl⟩, fun x hx he => absurd he (hno x hx)⟩
      · rintro ⟨⟨x, hx, he⟩, hz⟩
        rcases (hmem x).1 hx with hx | rfl
        · exact List.mem_append.2 (.inl ((h.rr g').2 ⟨⟨x, hx, he⟩, hz⟩))
        · exact List.mem_append.2 (.inr (by simp [← he]))
    · rw [if_neg hneg]
      obtain ⟨m0, hm0, he0⟩ := (idxL_ex (isG g) Q.ms).1 (by omega)
      rw [isG_iff] at he0
      constructor
      · intro hg'
        obtain ⟨⟨m, hm, he⟩, hz⟩ := (h.rr g').1 hg'
        exact ⟨⟨m, (hmem m).2 (.inl hm), he⟩, hz⟩
      · rintro ⟨⟨x, hx, he⟩, hz⟩
        refine (h.rr g').2 ⟨?_, hz⟩
        rcases (hmem x).1 hx with hx | rfl
        · exact ⟨x, hx, he⟩
        · exact ⟨m0, hm0, he0.trans he⟩
theorem QW.putL {j : Nat} : ∀ (l : List Ms) {T : QM}, QW j T → (T.ms.length : Int) + l.length ≤ T.c.quo → T.next + l.length ≤ 201 → (∀ m ∈ l, (1 ≤ m.grp.size ∧ m.grp.size ≤ 8) ∧ m.bod.size ≤ 40) → QW j (putL T l)
  | [], T, h, _, _, _ => h
  | m :: l, T, h, h1, h2, h3 => by
    rw [List.length_cons] at h1 h2
    have h4 := h3 m List.mem_cons_self
    have hp := h.put (g := m.grp) (b := m.bod) (by omega) (by omega) h4.1 h4.2
    refine QW.putL l (T := putQ T m.grp m.bod) hp ?_ ?_ (fun x hx => h3 x (List.mem_cons_of_mem _ hx))
    · show ((T.ms ++ [_]).length : Int) + l.length ≤ T.c.quo
      rw [List.length_append]
      simp
      omega
    · show T.next + 1 + l.length ≤ 201
      omega
/-- All queues can be. -/
def WFc (c : Nat → Option QM) : Prop := ∀ i Q, i < 8 → c i = some Q → QW i Q
theorem WFc.set {c : Nat → Option QM} (h : WFc c) {i : Nat} {Q : QM} (hQ : QW i Q) : WFc (setC c i (some Q)) := fun j T hj hT => by
  by_cases e : j = i
  · subst e
    rw [setC_same] at hT
    injection hT with hT
    exact hT ▸ hQ
  · rw [setC_ne _ _ e] at hT
    exact h j T hj hT
/-- Another message that flies is found again. -/
theorem find_til {l : List Ms} (h : Ups l) {num num' : Int} (hne : num' ≠ num) {m : Ms} (hf : l.find? (isN num') = some m) : (l.map (tilM num 0)).find? (isN num') = some m := by
  obtain ⟨hm, hn⟩ := find_mem hf
  have e : tilM num 0 m = m := by
    unfold tilM
    rw [if_neg]
    intro e
    have := (isN_iff num m).1 e
    omega
  have h1 := find_num _ (ups_map h (tilM num 0) (tilM_num _ _)) m (by rw [← e]; exact List.mem_map_of_mem hm)
  rw [← hn]
  exact h1
theorem back_wf {c : Nat → Option QM} {i : Nat} {num : Int} {Q : QM} {m : Ms} (hW : WFc c) (hi : i < 8) (hQ : c i = some Q) (hf : Q.ms.find? (isN num) = some m) (ht : 0 < m.til) :
    WFc (backC c i num) ∧ (∃ Q', backC c i num i = some Q' ∧ Q'.c = Q.c ∧ ∀ num', num' ≠ num → ∀ m', Q.ms.find? (isN num') = some m' → 0 < m'.til → Q'.ms.find? (isN num') = some m') := by
  have h := hW i Q hi hQ
  obtain ⟨hm, hn⟩ := find_mem hf
  have hb : backC c i num = match deadC c Q.c with
      | none => setC c i (some (readyQ (tilQ Q num 0) m.grp))
      | some (j, T) => if upQ Q.c m.rcv = true ∧ roomQ T (cntG m.grp (tilQ Q num 0).ms) = true then
          setC (setC c i (some { tilQ Q num 0 with ms := (tilQ Q num 0).ms.filter (fun x => !isG m.grp x) })) j (some (putL T ((tilQ Q num 0).ms.filter (isG m.grp))))
        else setC c i (some (readyQ (tilQ Q num 0) m.grp)) := by
    unfold backC
    rw [hQ]
    simp only [hf]
    rfl
  have hR : WFc (setC c i (some (readyQ (tilQ Q num 0) m.grp))) ∧ (∃ Q', setC c i (some (readyQ (tilQ Q num 0) m.grp)) i = some Q' ∧ Q'.c = Q.c ∧ ∀ num', num' ≠ num → ∀ m', Q.ms.find? (isN num') = some m' → 0 < m'.til → Q'.ms.find? (isN num') = some m') := by
    refine ⟨hW.set (h.ready hf ht), _, setC_same _ _ _, tilQ_c _ _ _, fun num' hne m' hf' _ => ?_⟩
    show (tilQ Q num 0).ms.find? (isN num') = some m'
    rw [til_map Q h.nums]
    exact find_til h.nums hne hf'
  rw [hb]
  cases hd : deadC c Q.c with
  | none => exact hR
  | some p =>
    obtain ⟨j, T⟩ := p
    show WFc (if _ then _ else _) ∧ _
    by_cases hc : upQ Q.c m.rcv = true ∧ roomQ T (cntG m.grp (tilQ Q num 0).ms) = true
    · simp only [hc, and_self, if_true]
      have hjT : deadJ Q.c = some j ∧ c j = some T := by
        unfold deadC at hd
        obtain ⟨j', h1, h2⟩ := Option.bind_eq_some_iff.1 hd
        obtain ⟨T', h3, h4⟩ := Option.map_eq_some_iff.1 h2
        injection h4 with h5 h6
        subst h5
        subst h6
        exact ⟨h1, h3⟩
      have hj : j < 8 ∧ j ≠ i := by
        have h1 := hjT.1
        rcases h.c.d with h2 | ⟨j', h2, h3, h4⟩
        · unfold deadJ at h1
          rw [if_pos h2] at h1
          simp at h1
        · unfold deadJ at h1
          split at h1
          · simp at h1
          · injection h1 with h1
            constructor <;> omega
      have hT := hW j T hj.1 hjT.2
      have hroom := hc.2
      unfold roomQ at hroom
      simp only [Bool.and_eq_true, decide_eq_true_eq] at hroom
      refine ⟨(hW.set (h.out hf ht)).set (QW.putL _ hT ?_ ?_ (fun x hx => ?_)), { tilQ Q num 0 with ms := (tilQ Q num 0).ms.filter (fun x => !isG m.grp x) }, by rw [setC_ne _ _ (Ne.symm hj.2), setC_same], tilQ_c _ _ _, fun num' hne m' hf' ht' => ?_⟩
      · show (T.ms.length : Int) + (cntG m.grp (tilQ Q num 0).ms : Nat) ≤ T.c.quo
        omega
      · exact hroom.2
      · rw [til_map Q h.nums] at hx
        have h1 := h.msT (num := num) (til := 0) ⟨by omega, by omega⟩ x (List.mem_filter.1 hx).1
        exact ⟨h1.grp, h1.bod⟩
      · show ((tilQ Q num 0).ms.filter (fun x => !isG m.grp x)).find? (isN num') = some m'
        rw [til_map Q h.nums]
        have h1 := find_til h.nums hne hf'
        obtain ⟨h2, h3⟩ := find_mem h1
        have h4 := find_num _ (ups_filter (ups_map h.nums (tilM num 0) (tilM_num _ _)) (fun x => !isG m.grp x)) m' (List.mem_filter.2 ⟨h2, by
          rw [Bool.not_eq_true', ← Bool.not_eq_true, isG_iff]
          intro he
          have h5 := h.one (find_mem hf').1 hm ht' ht he
          rw [h5] at h3
          omega⟩)
        rw [h3] at h4
        exact h4
    · simp only [hc, if_false]
      exact hR
end Go.Proofs.YtbdobaapadlcjaaGreatDoor
