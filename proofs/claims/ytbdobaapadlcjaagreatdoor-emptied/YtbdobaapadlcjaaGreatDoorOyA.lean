import Derived.Test.YtbdobaapadlcjaaGreatDoorOxCard
import Derived.Test.YtbdobaapadlcjaaGreatDoorOx45
import Derived.Deep.Slices
namespace Go.Proofs.YtbdobaapadlcjaaGreatDoor
open Go.RowKit
set_option linter.unusedVariables false
set_option linter.unusedSimpArgs false
theorem asc_eq : ∀ (a b : List Int), a.Pairwise (· < ·) → b.Pairwise (· < ·) → (∀ x, x ∈ a ↔ x ∈ b) → a = b
  | [], [], _, _, _ => rfl
  | [], y :: b, _, _, h => absurd ((h y).2 List.mem_cons_self) (by simp)
  | x :: a, [], _, _, h => absurd ((h x).1 List.mem_cons_self) (by simp)
  | x :: a, y :: b, ha, hb, h => by
    obtain ⟨h1, h2⟩ := List.pairwise_cons.1 ha
    obtain ⟨h3, h4⟩ := List.pairwise_cons.1 hb
    have hxy : x = y := by
      rcases List.mem_cons.1 ((h x).1 List.mem_cons_self) with e | e
      · exact e
      · rcases List.mem_cons.1 ((h y).2 List.mem_cons_self) with e2 | e2
        · exact e2.symm
        · have := h3 x e
          have := h1 y e2
          omega
    subst hxy
    have hab : a = b := asc_eq a b h2 h4 (fun z => ⟨fun hz => by
      rcases List.mem_cons.1 ((h z).1 (List.mem_cons_of_mem _ hz)) with e | e
      · have := h1 z hz
        omega
      · exact e, fun hz => by
      rcases List.mem_cons.1 ((h z).2 (List.mem_cons_of_mem _ hz)) with e | e
      · have := h3 z hz
        omega
      · exact e⟩)
    rw [hab]
theorem PR.left {now : Int} {Q : QM} {ss : List Sn} {ps : List (Nat × Nat)} (h : PR now Q ss ps) (hu : Ups Q.ms) : ss.countP (fun s => !s.gone) = Q.ms.length := by
  have e : (ss.filter (fun s => !s.gone)).map Sn.num = Q.ms.map Ms.num := by
    refine asc_eq _ _ ?_ ?_ (fun z => ⟨fun hz => ?_, fun hz => ?_⟩)
    · rw [List.pairwise_map]
      exact h.up.filter _
    · rw [List.pairwise_map]
      exact hu
    · obtain ⟨s, hs, rfl⟩ := List.mem_map.1 hz
      obtain ⟨hs1, hs2⟩ := List.mem_filter.1 hs
      obtain ⟨m, hm, e⟩ := h.sm s hs1 (by simpa using hs2)
      exact List.mem_map.2 ⟨m, hm, e⟩
    · obtain ⟨m, hm, rfl⟩ := List.mem_map.1 hz
      obtain ⟨s, hs, e1, _, _, e4, _⟩ := h.ms m hm
      exact List.mem_map.2 ⟨s, List.mem_filter.2 ⟨hs, by simp [e4]⟩, e1⟩
  have h1 := congrArg List.length e
  rw [List.length_map, List.length_map] at h1
  rw [List.countP_eq_length_filter]
  exact h1
theorem PR.still {now : Int} {Q : QM} {ss : List Sn} {ps : List (Nat × Nat)} (h : PR now Q ss ps) (hW : QW 0 Q) : ∀ m ∈ Q.ms.map (zeroN (dueN (now + 1000) Q.ms)), m.til = 0 := fun m hm => by
  obtain ⟨a, ha, rfl⟩ := List.mem_map.1 hm
  rw [zeroN_til]
  by_cases hp : a.num ∈ dueN (now + 1000) Q.ms
  · rw [if_pos hp]
  · rw [if_neg hp]
    have h1 : ¬ (0 < a.til ∧ a.til ≤ now + 1000) := fun e => hp ((mem_dueN (now := now + 1000) hW.nums ha).2 e)
    have h2 := (hW.mok a ha).til
    by_cases h0 : 0 < a.til
    · have := h.tl a ha h0
      omega
    · omega
theorem find_filt (n k : Int) (h : n ≠ k) : ∀ (l : List Ms), (l.filter (fun a => !isN k a)).find? (isN n) = l.find? (isN n)
  | [] => rfl
  | a :: r => by
    rw [List.filter_cons]
    by_cases hk : a.num = k
    · rw [if_neg (by rw [(isN_iff k a).2 hk]; simp), find_filt n k h r, List.find?_cons]
      have : isN n a = false := by
        cases e : isN n a with
        | false => rfl
        | true => exact absurd (((isN_iff n a).1 e).symm.trans hk) h
      rw [this]
    · have : ¬ isN k a = true := fun e => hk ((isN_iff k a).1 e)
      rw [if_pos (by simpa using this), List.find?_cons, List.find?_cons, find_filt n k h r]
theorem len_filt (n : Int) : ∀ (l : List Ms), Ups l → (∃ m ∈ l, m.num = n) → (l.filter (fun a => !isN n a)).length + 1 = l.length
  | [], _, h => by
    obtain ⟨m, hm, _⟩ := h
    simp at hm
  | a :: r, hu, h => by
    obtain ⟨h1, h2⟩ := List.pairwise_cons.1 hu
    by_cases hn : a.num = n
    · have e : (a :: r).filter (fun a => !isN n a) = r := by
        rw [List.filter_cons, if_neg (by rw [(isN_iff n a).2 hn]; simp), List.filter_eq_self]
        intro x hx
        have : ¬ isN n x = true := fun e => by have := (isN_iff n x).1 e; have := h1 x hx; omega
        simpa using this
      rw [e, List.length_cons]
    · have e : (a :: r).filter (fun a => !isN n a) = a :: r.filter (fun a => !isN n a) := by
        rw [List.filter_cons, if_pos]
        have : ¬ isN n a = true := fun e => hn ((isN_iff n a).1 e)
        simpa using this
      obtain ⟨m, hm, hmn⟩ := h
      have hmr : m ∈ r := by
        rcases List.mem_cons.1 hm with rfl | hm'
        · exact absurd hmn hn
        · exact hm'
      rw [e, List.length_cons, List.length_cons, len_filt n r h2 ⟨m, hmr, hmn⟩]
structure AK (P : Nat → Nat × Nat) (cnt L k : Nat) (Q : QM) : Prop where
  fl : ∀ m ∈ Q.ms, 0 < m.til → ∃ j, k ≤ j ∧ j < cnt ∧ m.num = ((P j).1 : Int)
  ok : ∀ j, k ≤ j → j < cnt → fliesQ Q ((P j).1 : Int) ((P j).2 : Int) = true
  len : Q.ms.length + k = L
  ats : Q.ats = []
  q : Q.c.q = 97
theorem AK.step {P : Nat → Nat × Nat} {cnt L k : Nat} {Q : QM} (hW : QW 0 Q) (h : AK P cnt L k Q) (hk : k < cnt) (hinj : ∀ i j, i < cnt → j < cnt → (P i).1 = (P j).1 → i = j) : AK P cnt L (k + 1) (dropQ Q ((P k).1 : Int)) := by
  have hf := h.ok k (Nat.le_refl _) hk
  unfold fliesQ at hf
  cases hfd : Q.ms.find? (isN ((P k).1 : Int)) with
  | none => rw [hfd] at hf; simp at hf
  | some m =>
    obtain ⟨hm, hn⟩ := find_mem hfd
    rw [drop_eq hW hfd]
    refine ⟨fun a ha h0 => ?_, fun j hj hjc => ?_, ?_, h.ats, h.q⟩
    · obtain ⟨ha1, ha2⟩ := List.mem_filter.1 ha
      obtain ⟨j, hj1, hj2, hj3⟩ := h.fl a ha1 h0
      refine ⟨j, ?_, hj2, hj3⟩
      by_cases e : j = k
      · subst e
        rw [(isN_iff _ a).2 hj3] at ha2
        simp at ha2
      · omega
    · have h1 := h.ok j (by omega) hjc
      unfold fliesQ at h1 ⊢
      have hne : ((P j).1 : Int) ≠ ((P k).1 : Int) := fun e => by
        have := hinj j k hjc hk (by omega)
        omega
      show (match (Q.ms.filter (fun a => !isN ((P k).1 : Int) a)).find? (isN ((P j).1 : Int)) with
        | some m => decide (0 < m.til) && m.rcv == ((P j).2 : Int)
        | none => false) = true
      rw [find_filt _ _ hne]
      exact h1
    · have h1 := len_filt ((P k).1 : Int) Q.ms hW.nums ⟨m, hm, hn⟩
      have h2 := h.len
      show (Q.ms.filter (fun a => !isN ((P k).1 : Int) a)).length + (k + 1) = L
      omega
theorem AK.fin {P : Nat → Nat × Nat} {cnt L : Nat} {Q : QM} (hW : QW 0 Q) (h : AK P cnt L cnt Q) : ∀ m ∈ Q.ms, m.til = 0 := fun m hm => by
  have h1 := (hW.mok m hm).til
  by_cases h0 : 0 < m.til
  · obtain ⟨j, h2, h3, _⟩ := h.fl m hm h0
    omega
  · omega
theorem told_ak {Q : QM} (hW : QW 0 Q) (hq : Q.c.q = 97) (h0 : ∀ m ∈ Q.ms, m.til = 0) (ha : Q.ats = []) {til : Int} (ht : 0 < til) {cnt : Nat} (hc : cnt ≤ Q.rs.length) :
    ∃ P : Nat → Nat × Nat, (∀ j, j < cnt → (P j).1 < 4294967296 ∧ (P j).2 < 65536 ∧ ∃ (hj : j < Q.rs.length), ∃ g b, entG Q Q.rs[j] = ⟨hB (P j), g, b⟩) ∧ (∀ i j, i < cnt → j < cnt → (P i).1 = (P j).1 → i = j) ∧ AK P cnt Q.ms.length 0 (rcvK Q til cnt) := by
  have each : ∀ j, j < cnt → ∃ m : Ms, ∃ (hj : j < Q.rs.length), m ∈ Q.ms ∧ m.grp = Q.rs[j] ∧ Q.ms.find? (isG m.grp) = some m ∧ entG Q Q.rs[j] = ⟨⟨(hanB Q.c.q m.num.toNat (oft m.rcv.toNat)).toArray⟩, m.grp, m.bod⟩ := fun j hj => by
    obtain ⟨m, a, b, c, d, _⟩ := first_of hW (k := j) (by omega)
    exact ⟨m, by omega, a, b, c, d⟩
  obtain ⟨f, hf⟩ := @Go.Deep.choose_lt Ms ⟨⟨0, ⟨#[]⟩, ⟨#[]⟩, 0, 0⟩⟩ _ _ each
  have hnum : ∀ j, j < cnt → 1 ≤ (f j).num ∧ (f j).num < (Q.next : Int) := fun j hj => by
    obtain ⟨_, hm, _⟩ := hf j hj
    exact (hW.mok _ hm).num
  have hnx := hW.nx
  have hcast : ∀ j, j < cnt → (((f j).num.toNat : Nat) : Int) = (f j).num := fun j hj => Int.toNat_of_nonneg (by have := hnum j hj; omega)
  refine ⟨fun j => ((f j).num.toNat, oft (f j).rcv.toNat), fun j hj => ?_, fun i j hi hj e => ?_, ?_⟩
  · obtain ⟨hjr, hm, hg, hfd, he⟩ := hf j hj
    have h1 := hnum j hj
    have h2 := oft_le (f j).rcv.toNat
    refine ⟨by show (f j).num.toNat < 4294967296; omega, by show oft (f j).rcv.toNat < 65536; omega, hjr, (f j).grp, (f j).bod, ?_⟩
    rw [he]
    unfold hB
    rw [hq]
  · have e' : (f i).num = (f j).num := by
      have h1 := hcast i hi
      have h2 := hcast j hj
      have e2 : (f i).num.toNat = (f j).num.toNat := e
      omega
    obtain ⟨hir, hmi, hgi, _⟩ := hf i hi
    obtain ⟨hjr, hmj, hgj, _⟩ := hf j hj
    have h3 := num_inj hW.nums hmi hmj e'
    have h4 : Q.rs[i] = Q.rs[j] := by rw [← hgi, ← hgj, h3]
    by_cases hlt : i < j
    · exact absurd h4 (List.pairwise_iff_getElem.1 hW.rn i j hir hjr hlt)
    · by_cases hgt : j < i
      · exact absurd h4.symm (List.pairwise_iff_getElem.1 hW.rn j i hjr hir hgt)
      · omega
  · refine ⟨fun m hm hp => ?_, fun j _ hj => ?_, ?_, ha, hq⟩
    · have hm' : m ∈ Q.ms.map (flyH til Q.ms (Q.rs.take cnt)) := hm
      obtain ⟨a, ha1, rfl⟩ := List.mem_map.1 hm'
      by_cases hx : inG (Q.rs.take cnt) a = true ∧ isHead Q.ms a = true
      · have h1 := (inG_iff _ a).1 hx.1
        obtain ⟨j, hj, he⟩ := List.mem_iff_getElem.1 h1
        rw [List.length_take] at hj
        rw [List.getElem_take] at he
        have hjc : j < cnt := by omega
        obtain ⟨hjr, hmj, hgj, hfj, _⟩ := hf j hjc
        have h2 := (isHead_find hW.nums ha1).1 hx.2
        rw [hgj, he, h2] at hfj
        injection hfj with hfj
        refine ⟨j, Nat.zero_le _, hjc, ?_⟩
        show (flyH til Q.ms (Q.rs.take cnt) a).num = (((f j).num.toNat : Nat) : Int)
        rw [flyH_num, hcast j hjc, ← hfj]
      · exfalso
        unfold flyH at hp
        rw [if_neg hx, h0 a ha1] at hp
        omega
    · obtain ⟨hjr, hmj, hgj, hfj, _⟩ := hf j hj
      have hup : Ups (rcvK Q til cnt).ms := ups_map hW.nums _ (flyH_num _ _ _)
      have hin : inG (Q.rs.take cnt) (f j) = true := (inG_iff _ _).2 (by
        rw [hgj]
        exact List.mem_iff_getElem.2 ⟨j, by rw [List.length_take]; omega, by rw [List.getElem_take]⟩)
      have hfl : flyH til Q.ms (Q.rs.take cnt) (f j) = flyM til (f j) := by
        unfold flyH
        rw [if_pos ⟨hin, (isHead_find hW.nums hmj).2 hfj⟩]
      have hmem : flyM til (f j) ∈ (rcvK Q til cnt).ms := List.mem_map.2 ⟨f j, hmj, hfl⟩
      have h2 := find_num (rcvK Q til cnt).ms hup _ hmem
      have h3 : (flyM til (f j)).num = (((f j).num.toNat : Nat) : Int) := (hcast j hj).symm
      rw [h3] at h2
      unfold fliesQ
      show (match (rcvK Q til cnt).ms.find? (isN (((f j).num.toNat : Nat) : Int)) with
        | some m => decide (0 < m.til) && m.rcv == ((oft (f j).rcv.toNat : Nat) : Int)
        | none => false) = true
      rw [h2]
      show (decide (0 < til) && ((oft (f j).rcv.toNat : Nat) : Int) == ((oft (f j).rcv.toNat : Nat) : Int)) = true
      simp [ht]
    · show (Q.ms.map _).length + 0 = _
      rw [List.length_map]
      rfl
theorem told_cnt {Q : QM} (hW : QW 0 Q) (h0 : ∀ m ∈ Q.ms, m.til = 0) {cnt : Nat} (hcnt : cnt = if 10 ≤ Q.rs.length then 10 else Q.rs.length) : cnt ≤ Q.rs.length ∧ cnt ≤ Q.ms.length ∧ cnt ≤ 10 ∧ (0 < Q.ms.length → 0 < cnt) := by
  have h1 : cnt ≤ Q.rs.length ∧ cnt ≤ 10 := by split at hcnt <;> omega
  have h2 := fly_rcv hW (til := 1) (by omega) cnt h1.1
  have h3 : flyCnt (rcvK Q 1 cnt) ≤ (rcvK Q 1 cnt).ms.length := List.countP_le_length
  have h4 : (rcvK Q 1 cnt).ms.length = Q.ms.length := by
    show (Q.ms.map _).length = _
    rw [List.length_map]
  refine ⟨h1.1, by omega, h1.2, fun hp => ?_⟩
  have hm : Q.ms[0] ∈ Q.ms := List.getElem_mem hp
  have h5 := (hW.rr Q.ms[0].grp).2 ⟨⟨_, hm, rfl⟩, fun m hm _ => h0 m hm⟩
  have h6 := List.length_pos_of_mem h5
  split at hcnt <;> omega
def EI (B : Nat) (w0 : World) (x st b lb : Nat) (now : Int) (cq : Wp.Rq) (L : Nat) (w : World) : Prop := ∃ Q sv tv ss hs, OL B w0 w x st b lb now (oneC Q) cq sv tv ss hs ∧ (∀ m ∈ Q.ms, m.til = 0) ∧ Q.ms.length = L ∧ Q.ats = [] ∧ Q.c.q = 97
def EJ (B : Nat) (w0 : World) (x st b lb : Nat) (now : Int) (cq : Wp.Rq) (P : Nat → Nat × Nat) (L k : Nat) (v : Value) (es : List Ge) (w : World) : Prop := ∃ Q sv tv ss hs, OL B w0 w x st b lb now (oneC Q) cq sv tv ss hs ∧ AK P es.length L k Q ∧ w.ownsRow 0 50 3 v es.length (es.flatMap Ge.row)
theorem EI.tch {B : Nat} {w0 w w' : World} {x st b lb : Nat} {now : Int} {cq : Wp.Rq} {L : Nat} (h : EI B w0 x st b lb now cq L w) (ht : Tch [] w w') : EI B w0 x st b lb now cq L w' := by
  obtain ⟨Q, sv, tv, ss, hs, ho, hr⟩ := h
  exact ⟨Q, sv, tv, ss, hs, ho.tch ht, hr⟩
theorem EJ.tch {B : Nat} {w0 w w' : World} {x st b lb : Nat} {now : Int} {cq : Wp.Rq} {P : Nat → Nat × Nat} {L k : Nat} {v : Value} {es : List Ge} (h : EJ B w0 x st b lb now cq P L k v es w) (ht : Tch [] w w') : EJ B w0 x st b lb now cq P L k v es w' := by
  obtain ⟨Q, sv, tv, ss, hs, ho, hr, hv⟩ := h
  exact ⟨Q, sv, tv, ss, hs, ho.tch ht, hr, own_tch hv ht (by simp)⟩
theorem EI.c0 {B : Nat} {w0 w : World} {x st b lb : Nat} {now : Int} {cq : Wp.Rq} {L : Nat} (h : EI B w0 x st b lb now cq L w) : w.cell? ⟨lb, 0, none⟩ = some (.pointer (some ⟨x, 0, none⟩)) ∧ lb < w.heap.size := by
  obtain ⟨Q, sv, tv, ss, hs, ho, hr⟩ := h
  exact ⟨ho.lr.c0, ho.lr.lt⟩
theorem EJ.c0 {B : Nat} {w0 w : World} {x st b lb : Nat} {now : Int} {cq : Wp.Rq} {P : Nat → Nat × Nat} {L k : Nat} {v : Value} {es : List Ge} (h : EJ B w0 x st b lb now cq P L k v es w) : w.cell? ⟨lb, 0, none⟩ = some (.pointer (some ⟨x, 0, none⟩)) ∧ lb < w.heap.size := by
  obtain ⟨Q, sv, tv, ss, hs, ho, hr⟩ := h
  exact ⟨ho.lr.c0, ho.lr.lt⟩
theorem EI.bel {B : Nat} {w0 w : World} {x st b lb : Nat} {now : Int} {cq : Wp.Rq} {L : Nat} (h : EI B w0 x st b lb now cq L w) : Below B w0 w := by
  obtain ⟨Q, sv, tv, ss, hs, ho, hr⟩ := h
  exact ho.bel
theorem EJ.bel {B : Nat} {w0 w : World} {x st b lb : Nat} {now : Int} {cq : Wp.Rq} {P : Nat → Nat × Nat} {L k : Nat} {v : Value} {es : List Ge} (h : EJ B w0 x st b lb now cq P L k v es w) : Below B w0 w := by
  obtain ⟨Q, sv, tv, ss, hs, ho, hr⟩ := h
  exact ho.bel
theorem EJ.le {B : Nat} {w0 w : World} {x st b lb : Nat} {now : Int} {cq : Wp.Rq} {P : Nat → Nat × Nat} {L k : Nat} {v : Value} {es : List Ge} (h : EJ B w0 x st b lb now cq P L k v es w) : k ≤ L := by
  obtain ⟨Q, sv, tv, ss, hs, ho, hr, hv⟩ := h
  have := hr.len
  omega
theorem EJ.fin {B : Nat} {w0 w : World} {x st b lb : Nat} {now : Int} {cq : Wp.Rq} {P : Nat → Nat × Nat} {L : Nat} {v : Value} {es : List Ge} (h : EJ B w0 x st b lb now cq P L es.length v es w) : EI B w0 x st b lb now cq (L - es.length) w := by
  obtain ⟨Q, sv, tv, ss, hs, ho, hr, hv⟩ := h
  obtain ⟨col, hb, h9⟩ := ho.bk
  have hW := hb.wf 0 Q (by omega) rfl
  exact ⟨Q, sv, tv, ss, hs, ho, hr.fin hW, by have := hr.len; omega, hr.ats, hr.q⟩
theorem EJ.cell {B : Nat} {w0 w : World} {x st b lb : Nat} {now : Int} {cq : Wp.Rq} {P : Nat → Nat × Nat} {L k : Nat} {va : Option Addr} {vc : Nat} {es : List Ge} (h : EJ B w0 x st b lb now cq P L k (.slice va es.length vc) es w) (j : Nat) (hj : j < es.length) : ∃ g, va = some ⟨g, 0, none⟩ ∧ g < w.heap.size ∧ w.cell? ⟨g, j * 3, none⟩ = some (.string es[j].h) := by
  obtain ⟨Q, sv, tv, ss, hs, ho, hr, hv⟩ := h
  have inh : Inhabited Ge := ⟨es[j]⟩
  obtain ⟨g, rfl⟩ : ∃ g, va = some ⟨g, 0, none⟩ := by
    rcases hv.2 with ⟨_, h1⟩ | ⟨g, cap, cur, h0, _⟩
    · omega
    · simp at h0
      exact ⟨g, h0.1⟩
  have h1 := own_cells Ge.row 3 (fun _ => rfl) hv j hj 0 (.string es[j].h) (by
    rw [List.getElem!_eq_getElem?_getD, List.getElem?_eq_getElem hj]
    rfl)
  have h2 : w.cell? ⟨g, j * 3, none⟩ = some (.string es[j].h) := by simpa using h1
  exact ⟨g, rfl, World.block_lt_of_cell? _ _ h2, h2⟩
theorem receive_e {B : Nat} {w0 w : World} {x st b lb : Nat} {now : Int} {cq : Wp.Rq} {L : Nat} (h : EI B w0 x st b lb now cq L w) :
    Calls Tryz.prog 22 #[.pointer (some ⟨x, 0, none⟩), .int .u8 97, .string ⟨#[]⟩, .int .i64 10] w fun e w' => ∃ va vc P es, e = .returned (.tuple #[.slice va es.length vc, .bool true]) ∧ (es.length ≤ L ∧ es.length ≤ 10 ∧ (0 < L → 0 < es.length)) ∧ (∀ j (hj : j < es.length), (P j).1 < 4294967296 ∧ (P j).2 < 65536 ∧ es[j].h = hB (P j)) ∧ (∀ i j, i < es.length → j < es.length → (P i).1 = (P j).1 → i = j) ∧ EJ B w0 x st b lb now cq P L 0 (.slice va es.length vc) es w' := by
  obtain ⟨Q, sv, tv, ss, hs, ho, h0, hL, ha, hq⟩ := h
  obtain ⟨col, hb, h9⟩ := ho.bk
  have hW := hb.wf 0 Q (by omega) rfl
  obtain ⟨cnt, hcnt⟩ : ∃ cnt, cnt = if 10 ≤ Q.rs.length then 10 else Q.rs.length := ⟨_, rfl⟩
  obtain ⟨k1, k2, k3, k4⟩ := told_cnt hW h0 hcnt
  have hnw := hb.nw
  have hvis := hW.c.vis
  obtain ⟨P, hP, hinj, hak⟩ := told_ak hW hq h0 ha (til := now + Q.c.vis) (by omega) k1
  have hlen := entL_len Q cnt k1
  refine (receive_g B 97 x st b 0 10 cnt now (oneC Q) col w ho.env hb (by omega) rfl Q rfl (by rw [ha]; show 0 < 20; omega) ⟨by omega, by omega⟩ hcnt).mono ?_
  rintro e w' ⟨v, rfl, how, hd⟩
  rw [rcv_eq hW now k1] at hd
  obtain ⟨va, vc, hv⟩ := own_shape how
  subst hv
  refine ⟨va, vc, P, entL Q cnt, rfl, ?_, fun j hj => ?_, ?_, rcvK Q (now + Q.c.vis) cnt, sv, tv, ss, hs, ho.did h9 hd, ?_, how⟩
  · rw [hlen, ← hL]
    exact ⟨k2, k3, k4⟩
  · have hjc : j < cnt := by omega
    obtain ⟨b1, b2, hjr, g, bo, he⟩ := hP j hjc
    refine ⟨b1, b2, ?_⟩
    have e1 : (entL Q cnt)[j] = entG Q Q.rs[j] := by simp [entL]
    rw [e1, he]
  · rw [hlen]
    exact hinj
  · rw [hlen, ← hL]
    exact hak
theorem ack_e {B : Nat} {w0 w : World} {x st b lb : Nat} {now : Int} {cq : Wp.Rq} {P : Nat → Nat × Nat} {L k : Nat} {v : Value} {es : List Ge} (h : EJ B w0 x st b lb now cq P L k v es w) (hk : k < es.length) (hb1 : (P k).1 < 4294967296) (hb2 : (P k).2 < 65536) (hinj : ∀ i j, i < es.length → j < es.length → (P i).1 = (P j).1 → i = j) :
    Calls Tryz.prog 18 #[.pointer (some ⟨x, 0, none⟩), .agg #[.int .u8 65, .int .u8 0, .int .u8 0, .int .i64 0, .int .i64 0, .int .i64 0, .int .i64 0, .int .i64 0, .int .i64 0, .string ⟨#[]⟩, .string ⟨#[]⟩, .string ⟨#[]⟩, .string ⟨#[]⟩, .string (hB (P k)), .slice none 0 0]] w fun e w' => e = .returned (.string ⟨#[0]⟩) ∧ EJ B w0 x st b lb now cq P L (k + 1) v es w' := by
  obtain ⟨Q, sv, tv, ss, hs, ho, hr, hv⟩ := h
  obtain ⟨col, hb, h9⟩ := ho.bk
  have hW := hb.wf 0 Q (by omega) rfl
  have hh := han_is 97 0 (P k).1 (P k).2 rfl (by decide) hb1 hb2
  have hrok : Rok (ackR (hB (P k))) := ack_rok _ (by rw [hB_size]; omega)
  have hf := hr.ok k (Nat.le_refl _) hk
  have h1 := ask_op (A := okL []) (Dd := Did B x st b w col now (setC (oneC Q) 0 (some (dropQ Q (P k).1)))) B (ackR (hB (P k))) x st b now (oneC Q) col w ho.env hb hrok (fun Z o room hs hc W y htW => op_A B _ x st b 0 (P k).1 (P k).2 now (oneC Q) col w ho.env hb rfl (by omega) hh Q rfl hf Z o room hs hc W y htW)
  refine h1.mono ?_
  rintro e w' ⟨rfl, hd⟩
  rw [set_oneC] at hd
  refine ⟨rfl, _, sv, tv, ss, hs, ho.did h9 hd, hr.step hW hk hinj, ?_⟩
  obtain ⟨_, _, _, hfq⟩ := hd
  exact hfq.own hv (by decide)
theorem ticks_e {B : Nat} {w0 w : World} {x st b lb : Nat} {now : Int} {cq : Wp.Rq} {Q : QM} {sv tv : Value} {ss : List Sn} {ps : List (Nat × Nat)} (h : OP B w0 w x st b lb now cq Q sv tv ss ps) (hn : now + 1000 ≤ 60000) :
    Calls Tryz.prog 23 #[.pointer (some ⟨lb, 0, none⟩), .agg #[.int .i64 0, .int .i64 999, .int .i64 0, .string ⟨#[]⟩, .string ⟨#[]⟩, .string ⟨#[]⟩]] w fun e w' => e = .returned (.bool true) ∧ ∃ Q' ss', OP B w0 w' x st b lb (now + 1000) cq Q' sv tv ss' ps ∧ ∀ m ∈ Q'.ms, m.til = 0 := by
  have hW := h.wf
  have hsl : ss.length ≤ 200 := h.pr.len hW.nx.2
  refine (ticks_g B w0 w x st b lb now (oneC Q) cq sv tv ss (ps.map hB) 0 999 0 ⟨#[]⟩ ⟨#[]⟩ ⟨#[]⟩ 1000 (by unfold i64; omega) (by decide) (by omega) h.ol).mono ?_
  rintro e w' ⟨rfl, hor⟩
  refine ⟨rfl, ?_⟩
  rcases hor with ⟨hx, _⟩ | ⟨_, ho⟩
  · omega
  · obtain ⟨rs', ht⟩ := time_one (now + 1000) Q hW.nums h.pr.dd
    rw [ht] at ho
    refine ⟨_, _, ⟨ho, h.pr.tick hW.nums (by omega) rfl rfl rfl ?_ (fun d hd => (List.mem_filter.1 hd).1), h.cc⟩, h.pr.still hW⟩
    show Q.ats.filter _ = []
    rw [h.pr.ats]
    rfl
theorem OP.ei {B : Nat} {w0 w : World} {x st b lb : Nat} {now : Int} {cq : Wp.Rq} {Q : QM} {sv tv : Value} {ss : List Sn} {ps : List (Nat × Nat)} (h : OP B w0 w x st b lb now cq Q sv tv ss ps) (h0 : ∀ m ∈ Q.ms, m.til = 0) : EI B w0 x st b lb now cq (ss.countP (fun s => !s.gone)) w :=
  ⟨Q, sv, tv, ss, ps.map hB, h.ol, h0, (h.pr.left h.wf.nums).symm, h.pr.ats, h.cc.1⟩
theorem count_take_succ {α : Type} (p : α → Bool) (l : List α) (j : Nat) (h : j < l.length) : (l.take (j + 1)).countP p = (l.take j).countP p + (if p l[j] = true then 1 else 0) := by
  rw [List.take_succ_eq_append_getElem h, List.countP_append, List.countP_singleton]
set_option maxRecDepth 8000 in
set_option maxHeartbeats 8000000 in
theorem emptied_walk (B : Nat) (r : Wp.Rq) (x : Sl) (ga : Option Addr) (gc : Nat) (sc : List St6) (w : World) (hw : Wf r) (hz : Keep.Szs r) (hE : Env B w) (hok : ∀ s ∈ sc, s.Ok) (hln : sc.length ≤ 2000000000000) (hga : Scr B w ga sc) :
    Calls Tryz.prog 7 #[.agg (cellsOf r x.v), .slice ga sc.length gc] w fun e w' => e = .returned (.bool true) ∧ Below B w w' := by
  have HBG : Hid (∀ W, Tch [] w W → Calls Tryz.prog 12 #[.agg (cellsOf r x.v)] W fun e w' => ∃ lb xb st b, e = .returned (.pointer (some ⟨lb, 0, none⟩)) ∧ SP B w xb st b lb (cqN (pk r.vis 1000) (pk r.win 1001) (pk r.rcv 10) (pk r.quo 50)) 0 w') := fun W ht => by
    refine (begun_g B r x W hw hz (hE.tch ht (by simp))).mono ?_
    rintro e w' ⟨lb, xb, st, b, he, hs⟩
    exact ⟨lb, xb, st, b, he, hs.base (ht.below (by simp) hE.size)⟩
  have HTA : Hid (∀ o, Tch [] w (w.alloc o)) := fun o => (Tch.refl [] w).alloc o
  generalize cqN (pk r.vis 1000) (pk r.win 1001) (pk r.rcv 10) (pk r.quo 50) = cq at *
  have HST : Hid (∀ W xb st b lb (i : Nat) (hi : i < sc.length), SP B w xb st b lb cq (i : Int) W → Calls Tryz.prog 13 #[.pointer (some ⟨lb, 0, none⟩), .agg #[.int .i64 sc[i].kd, .int .i64 sc[i].a, .int .i64 sc[i].bb, .string sc[i].s1, .string sc[i].s2, .string sc[i].s3]] W fun e w' => e = .returned (.bool true) ∧ SP B w xb st b lb cq ((i + 1 : Nat) : Int) w') := fun W xb st b lb i hi h => by
    have ho := hok _ (List.getElem_mem hi)
    exact step_g B w W xb st b lb cq (i : Int) sc[i].kd sc[i].a sc[i].bb sc[i].s1 sc[i].s2 sc[i].s3 ho.s1 ho.s2 ho.s3 ho.a ho.bb (by omega) h
  have HGA : Hid (Scr B w ga sc) := hga
  have HBW : Hid (B ≤ w.heap.size) := hE.size
  rw [show cellsOf r x.v = #[.int .u8 (r.op.toNat : Int), .int .u8 (r.q.toNat : Int), .int .u8 (r.d.toNat : Int), .int .i64 r.vis, .int .i64 r.win, .int .i64 r.rcv, .int .i64 r.quo, .int .i64 r.mx, .int .i64 r.tic, .string r.grp, .string r.ded, .string r.bod, .string r.att, .string r.han, .slice x.a x.n x.c] from rfl] at HBG ⊢
  clear hw hz hE hok hga
  go_enter Tryz.func7, Tryz.ntmps7
  go_wp2_with fail
  refine (HBG.out _ (HTA.out _)).mono ?_
  rintro e w1 ⟨lb, xb, st, b, rfl, hs1⟩
  have HS1 : Hid (SP B w xb st b lb cq 0 w1) := hs1
  clear hs1 HBG HTA
  generalize (Value.agg #[.int .u8 (r.op.toNat : Int), .int .u8 (r.q.toNat : Int), .int .u8 (r.d.toNat : Int), .int .i64 r.vis, .int .i64 r.win, .int .i64 r.rcv, .int .i64 r.quo, .int .i64 r.mx, .int .i64 r.tic, .string r.grp, .string r.ded, .string r.bod, .string r.att, .string r.han, .slice x.a x.n x.c]) = A0
  go_wp2_with fail
  go_loopw [6] (fun v wr => ∃ i : Nat, v = .int .i64 (i : Int) ∧ i ≤ sc.length ∧ SP B w xb st b lb cq (i : Int) wr) (fun v _ => sc.length - (intOf v).toNat)
  case atStart => exact ⟨0, rfl, Nat.zero_le _, HS1.out⟩
  case round =>
    obtain ⟨i, rfl, hi, hs⟩ := hrel
    clear HS1
    by_cases hlt : i < sc.length
    · obtain ⟨g, o, rfl, hg, hcs⟩ := HGA.out (by omega)
      have hb := hs.bel
      have hc : ∀ (k : Nat) (u : Value), (sc[i].row)[k]? = some u → wr.cell? ⟨g, o + i * 6 + k, none⟩ = some u := fun k u hu => by
        rw [hb.cell (p := ⟨g, o + i * 6 + k, none⟩) hg]
        exact hcs i hlt k u hu
      have d0 : wr.cell? ⟨g, o + i * 6, none⟩ = some (.int .i64 sc[i].kd) := hc 0 _ rfl
      have d1 : wr.cell? ⟨g, o + i * 6 + 1, none⟩ = some (.int .i64 sc[i].a) := hc 1 _ rfl
      have d2 : wr.cell? ⟨g, o + i * 6 + 2, none⟩ = some (.int .i64 sc[i].bb) := hc 2 _ rfl
      have d3 : wr.cell? ⟨g, o + i * 6 + 3, none⟩ = some (.string sc[i].s1) := hc 3 _ rfl
      have d4 : wr.cell? ⟨g, o + i * 6 + 4, none⟩ = some (.string sc[i].s2) := hc 4 _ rfl
      have d5 : wr.cell? ⟨g, o + i * 6 + 5, none⟩ = some (.string sc[i].s3) := hc 5 _ rfl
      have gl : g < wr.heap.size := World.block_lt_of_cell? _ _ d0
      have HS : Hid (Calls Tryz.prog 13 _ wr _) := HST.out wr xb st b lb i hlt hs
      clear hc hcs hs hb
      generalize sc[i].kd = q0 at *
      generalize sc[i].a = q1 at *
      generalize sc[i].bb = q2 at *
      generalize sc[i].s1 = q3 at *
      generalize sc[i].s2 = q4 at *
      generalize sc[i].s3 = q5 at *
      go_wp2_with fail
      refine HS.out.mono ?_
      rintro e w2 ⟨rfl, hs2⟩
      have HS2 : Hid (SP B w xb st b lb cq ((i + 1 : Nat) : Int) w2) := hs2
      clear hs2 HS d0 d1 d2 d3 d4 d5
      go_wp2_with fail
      go_roundw
      case rel => exact ⟨i + 1, by go_num, by omega, HS2.out⟩
      case measure => simp [intOf]; omega
    · obtain ⟨now, Q, sv, tv, ss, ps, hop, _⟩ := hs
      have hnw := hop.nw
      have c16 := hop.ol.lr.c16
      have ll := hop.ol.lr.lt
      have HOP : Hid (OP B w wr xb st b lb now cq Q sv tv ss ps) := hop
      clear hop HST HGA
      have hw1 : IntKind.i64.wrap (now + 1000) = now + 1000 := by rw [IntKind.wrap_i64]; omega
      by_cases hno : 60000 < now + 1000
      · have HB : Hid (Below B w wr) := HOP.out.ol.bel
        go_wp2_with fail
        go_ret
        exact ⟨rfl, HB.out⟩
      · have HTK : Hid (∀ W, Tch [] wr W → Calls Tryz.prog 23 #[.pointer (some ⟨lb, 0, none⟩), .agg #[.int .i64 0, .int .i64 999, .int .i64 0, .string ⟨#[]⟩, .string ⟨#[]⟩, .string ⟨#[]⟩]] W fun e w' => e = .returned (.bool true) ∧ ∃ Q' ss', OP B w w' xb st b lb (now + 1000) cq Q' sv tv ss' ps ∧ ∀ m ∈ Q'.ms, m.til = 0) := fun W ht => ticks_e (HOP.out.tch ht) (by omega)
        have HTC : Hid (∀ q, Tch [] wr (wr.drewN q)) := fun q => (Tch.refl [] wr).drewN q
        clear HOP
        go_wp2_with fail
        refine (HTK.out _ (Tch.refl _ _)).mono ?_
        rintro e w2 ⟨rfl, Q2, ss2, hop2, h02⟩
        obtain ⟨sa, sl, rfl⟩ := own_shape hop2.ol.lr.row
        have hsl : ss2.length ≤ 200 := hop2.pr.len hop2.wf.nx.2
        have HO2 : Hid (OP B w w2 xb st b lb (now + 1000) cq Q2 (.slice sa ss2.length sl) tv ss2 ps ∧ ∀ m ∈ Q2.ms, m.til = 0) := ⟨hop2, h02⟩
        clear hop2 h02 HTK HTC c16 ll
        go_wp2_with fail
        go_loopw [9, 10] (fun s v wx => ∃ i : Nat, i ≤ ss2.length ∧ s = .int .i64 (((ss2.take i).countP (fun s => !s.gone) : Nat) : Int) ∧ v = .int .i64 (i : Int) ∧ Tch [] w2 wx) (fun _ v _ => ss2.length - (intOf v).toNat)
        case atStart => exact ⟨0, Nat.zero_le _, rfl, rfl, Tch.refl _ _⟩
        case round =>
          obtain ⟨j, hj, rfl, rfl, htr⟩ := hrel
          have HTR : Hid (Tch [] w2 wr) := htr
          have hop3 := HO2.out.1.tch htr
          have c17 := hop3.ol.lr.c17
          have ll := hop3.ol.lr.lt
          clear htr
          by_cases hjl : j < ss2.length
          · obtain ⟨g, rfl, lg, hc⟩ := hop3.ol.lr.sc j hjl
            have d5 : wr.cell? ⟨g, j * 6 + 5, none⟩ = some (.bool ss2[j].gone) := hc 5 _ rfl
            have hct := count_take_succ (fun s : Sn => !s.gone) ss2 j hjl
            have hcl : (ss2.take j).countP (fun s => !s.gone) ≤ 200 := Nat.le_trans List.countP_le_length (by rw [List.length_take]; omega)
            clear hc hop3
            cases hgo : ss2[j].gone with
            | true =>
              rw [hgo] at d5
              have e1 : (ss2.take (j + 1)).countP (fun s => !s.gone) = (ss2.take j).countP (fun s => !s.gone) := by rw [hct, if_neg (by simp [hgo])]; omega
              go_wp2_with fail
              go_roundw
              case rel => exact ⟨j + 1, by omega, by rw [e1], by go_num, HTR.out⟩
              case measure => simp [intOf]; omega
            | false =>
              rw [hgo] at d5
              have e1 : (ss2.take (j + 1)).countP (fun s => !s.gone) = (ss2.take j).countP (fun s => !s.gone) + 1 := by rw [hct, if_pos (by simp [hgo])]
              go_wp2_with fail
              go_roundw
              case rel => exact ⟨j + 1, by omega, by rw [e1]; go_num, by go_num, HTR.out⟩
              case measure => simp [intOf]; omega
          · have hje : j = ss2.length := by omega
            subst hje
            rw [List.take_length]
            have HEI : Hid (EI B w xb st b lb (now + 1000) cq (ss2.countP (fun s => !s.gone)) wr) := hop3.ei HO2.out.2
            have hcl : ss2.countP (fun s => !s.gone) ≤ 200 := Nat.le_trans List.countP_le_length hsl
            clear hop3 HO2 HTR
            generalize ss2.countP (fun s => !s.gone) = L0 at *
            generalize now + 1000 = nw at *
            go_wp2_with fail
            go_loopw [9] (fun v wx => ∃ L : Nat, L ≤ 200 ∧ v = .int .i64 (L : Int) ∧ EI B w xb st b lb nw cq L wx) (fun v _ => (intOf v).toNat)
            case atStart => exact ⟨L0, hcl, rfl, HEI.out⟩
            case round =>
              obtain ⟨L, hL, rfl, hei⟩ := hrel
              obtain ⟨c0, l0⟩ := hei.c0
              have HR : Hid (∀ W, Tch [] wr W → Calls Tryz.prog 22 _ W _) := fun W ht => receive_e (hei.tch ht)
              clear HEI hei c17 ll
              by_cases hLp : 0 < L
              · have hLp' : (0 : Int) < (L : Int) := by omega
                go_wp2_with fail
                refine (HR.out _ (Tch.refl _ _)).mono ?_
                rintro e w4 ⟨va, vc, P, es, rfl, ⟨hle, h10, hpos⟩, hP, hinj, hej⟩
                have hp := hpos hLp
                have HP : Hid (∀ j (hj : j < es.length), (P j).1 < 4294967296 ∧ (P j).2 < 65536 ∧ es[j].h = hB (P j)) := hP
                have HI : Hid (∀ i j, i < es.length → j < es.length → (P i).1 = (P j).1 → i = j) := hinj
                have HEJ : Hid (EJ B w xb st b lb nw cq P L 0 (.slice va es.length vc) es w4) := hej
                clear hpos hP hinj hej HR c0 l0
                have q1 : ((es.length : Int) == 0) = false := beq_eq_false_iff_ne.2 (by omega)
                have q2 : decide ((L : Int) < (es.length : Int)) = false := decide_eq_false (by omega)
                have q3 : decide (L < es.length) = false := decide_eq_false (by omega)
                go_wp2_with fail
                go_loopw [13] (fun v wx => ∃ k : Nat, k ≤ es.length ∧ v = .int .i64 (k : Int) ∧ EJ B w xb st b lb nw cq P L k (.slice va es.length vc) es wx) (fun v _ => es.length - (intOf v).toNat)
                case atStart => exact ⟨0, Nat.zero_le _, rfl, HEJ.out⟩
                case round =>
                  obtain ⟨k, hk, rfl, hej⟩ := hrel
                  clear HEJ
                  by_cases hkl : k < es.length
                  · obtain ⟨c0, l0⟩ := hej.c0
                    obtain ⟨g, rfl, lg, d0⟩ := hej.cell k hkl
                    obtain ⟨b1, b2, eh⟩ := HP.out k hkl
                    rw [eh] at d0
                    have HA : Hid (∀ q, Calls Tryz.prog 18 #[.pointer (some ⟨xb, 0, none⟩), .agg #[.int .u8 65, .int .u8 0, .int .u8 0, .int .i64 0, .int .i64 0, .int .i64 0, .int .i64 0, .int .i64 0, .int .i64 0, .string ⟨#[]⟩, .string ⟨#[]⟩, .string ⟨#[]⟩, .string ⟨#[]⟩, .string (hB (P k)), .slice none 0 0]] (wr.drewN q) fun e w' => e = .returned (.string ⟨#[0]⟩) ∧ w'.cell? ⟨lb, 0, none⟩ = some (.pointer (some ⟨xb, 0, none⟩)) ∧ w'.cell? ⟨g, k * 3, none⟩ = some (.string (hB (P k))) ∧ EJ B w xb st b lb nw cq P L (k + 1) (.slice (some ⟨g, 0, none⟩) es.length vc) es w') := fun q => by
                      refine (ack_e (hej.tch ((Tch.refl [] wr).drewN q)) hkl b1 b2 HI.out).mono ?_
                      rintro e w' ⟨he, hj⟩
                      obtain ⟨g', hg', _, d'⟩ := hj.cell k hkl
                      simp only [Option.some.injEq, Addr.mk.injEq, and_true] at hg'
                      subst hg'
                      rw [eh] at d'
                      exact ⟨he, hj.c0.1, d', hj⟩
                    have HA1 : Hid (Calls Tryz.prog 18 _ wr.drew _) := HA.out 1
                    clear hej eh HA
                    generalize hB (P k) = hn at *
                    go_wp2_with fail
                    go_region_held3 (fun w' => w'.cell? ⟨lb, 0, none⟩ = some (.pointer (some ⟨xb, 0, none⟩)) ∧ w'.cell? ⟨g, k * 3, none⟩ = some (.string hn)) (go_keep) (first | (go_at_call 18; refine HA1.out.mono ?_; rintro e w5 ⟨rfl, e0, e1, hej5⟩; have HEJ5 : Hid (EJ B w xb st b lb nw cq P L (k + 1) (.slice (some ⟨g, 0, none⟩) es.length vc) es w5) := hej5; clear hej5 HA1))
                    clear c0 l0 d0 lg
                    go_wp2_with fail
                    go_roundw
                    case rel => exact ⟨k + 1, by omega, by go_num, HEJ5.out⟩
                    case measure => simp [intOf]; omega
                  · have hke : k = es.length := by omega
                    subst hke
                    have HEF : Hid (EI B w xb st b lb nw cq (L - es.length) wr) := hej.fin
                    clear hej HP HI
                    go_wp2_with fail
                    go_roundw
                    case rel => exact ⟨L - es.length, by omega, by go_num, HEF.out⟩
                    case measure => simp [intOf]; omega
              · have hLe : L = 0 := by omega
                subst hLe
                go_wp2_with fail
                refine (HR.out _ (Tch.refl _ _)).mono ?_
                rintro e w4 ⟨va, vc, P, es, rfl, ⟨hle, h10, hpos⟩, hP, hinj, hej⟩
                have he0 : es.length = 0 := by omega
                have HB : Hid (Below B w w4) := hej.bel
                rw [he0]
                clear hpos hP hinj hej HR c0 l0
                go_wp2_with fail
                go_ret
                exact ⟨rfl, HB.out⟩
end Go.Proofs.YtbdobaapadlcjaaGreatDoor
