import Derived.Test.YtbdobaapadlcjaaGreatDoorOx42
import Derived.Test.YtbdobaapadlcjaaGreatDoorOx43
namespace Go.Proofs.YtbdobaapadlcjaaGreatDoor
open Go.RowKit
set_option linter.unusedVariables false
set_option linter.unusedSimpArgs false
theorem set_map_num (ss : List Sn) (i : Nat) (hi : i < ss.length) (s' : Sn) (hn : s'.num = ss[i].num) : (ss.set i s').map Sn.num = ss.map Sn.num := by
  apply List.ext_getElem?
  intro j
  rw [List.getElem?_map, List.getElem?_map, List.getElem?_set]
  by_cases e : i = j
  · subst e
    rw [if_pos rfl, if_pos hi, List.getElem?_eq_getElem hi]
    simp [hn]
  · rw [if_neg e]
theorem set_up {ss : List Sn} (hp : ss.Pairwise (fun a b => a.num < b.num)) (i : Nat) (hi : i < ss.length) (s' : Sn) (hn : s'.num = ss[i].num) : (ss.set i s').Pairwise (fun a b => a.num < b.num) := by
  have h1 : (ss.map Sn.num).Pairwise (· < ·) := by rw [List.pairwise_map]; exact hp
  rw [← set_map_num ss i hi s' hn, List.pairwise_map] at h1
  exact h1
theorem set_mem {ss : List Sn} (hp : ss.Pairwise (fun a b => a.num < b.num)) {i : Nat} (hi : i < ss.length) {s' x : Sn} (hx : x ∈ ss.set i s') : x = s' ∨ x ∈ ss ∧ x.num ≠ ss[i].num := by
  obtain ⟨j, hj, rfl⟩ := List.mem_iff_getElem.1 hx
  rw [List.length_set] at hj
  by_cases e : i = j
  · subst e
    exact .inl (by rw [List.getElem_set_self])
  · rw [List.getElem_set_ne e]
    refine .inr ⟨List.getElem_mem hj, fun he => e ?_⟩
    have h1 := List.pairwise_iff_getElem.1 hp
    by_cases h2 : i < j
    · have := h1 i j hi hj h2; omega
    · by_cases h3 : j < i
      · have := h1 j i hj hi h3; omega
      · omega
theorem mem_set {ss : List Sn} {i : Nat} {s' x : Sn} (hi : i < ss.length) (hx : x ∈ ss) (hne : x.num ≠ ss[i].num) : x ∈ ss.set i s' := by
  obtain ⟨j, hj, rfl⟩ := List.mem_iff_getElem.1 hx
  have e : i ≠ j := fun e => hne (by subst e; rfl)
  exact List.mem_iff_getElem.2 ⟨j, by rw [List.length_set]; exact hj, by rw [List.getElem_set_ne e]⟩
theorem self_set {ss : List Sn} {i : Nat} {s' : Sn} (hi : i < ss.length) : s' ∈ ss.set i s' := List.mem_iff_getElem.2 ⟨i, by rw [List.length_set]; exact hi, by rw [List.getElem_set_self]⟩
def atN (n : Int) (f : Ms → Ms) (x : Ms) : Ms := if x.num = n then f x else x
theorem PR.upd {now : Int} {Q Q' : QM} {ss : List Sn} {ps ps' : List (Nat × Nat)} (h : PR now Q ss ps) (f : Ms → Ms) (n : Int) (hf : ∀ x, (f x).num = x.num ∧ (f x).grp = x.grp ∧ (f x).bod = x.bod) (hm : Q'.ms = Q.ms.map (atN n f)) (hn : Q'.next = Q.next) (hc : Q'.c = Q.c) (ha : Q'.ats = []) (hds : Q'.ds = Q.ds)
    {i : Nat} (hi : i < ss.length) (hin : ss[i].num = n) (s' : Sn) (hs : s'.num = ss[i].num ∧ s'.grp = ss[i].grp ∧ s'.bod = ss[i].bod ∧ s'.gone = false)
    (hnew : ∀ m ∈ Q.ms, m.num = n → (s'.fl = true ↔ 0 < (f m).til) ∧ (0 < (f m).til → s'.til = (f m).til ∧ (now < (f m).til ∧ (f m).til ≤ now + 1000) ∧ lastB ps' m.num.toNat = hB (m.num.toNat, (f m).rcv.toNat)))
    (hmem : ∃ m ∈ Q.ms, m.num = n)
    (hlst : ∀ k : Int, k ≠ n → 0 ≤ k → lastB ps' k.toNat = lastB ps k.toNat) (hpok : ∀ p ∈ ps', (1 ≤ p.1 ∧ p.1 < Q.next) ∧ p.2 < 65536) (hpos : ∀ m ∈ Q.ms, 0 ≤ m.num) : PR now Q' (ss.set i s') ps' where
  up := set_up h.up i hi s' hs.1
  sn := fun s hs' => by
    rw [hn]
    rcases set_mem h.up hi hs' with rfl | ⟨h1, _⟩
    · rw [hs.1]
      exact h.sn _ (List.getElem_mem hi)
    · exact h.sn s h1
  ms := fun m' hm' => by
    rw [hm] at hm'
    obtain ⟨m, hm1, rfl⟩ := List.mem_map.1 hm'
    obtain ⟨s, hs1, e1, e2, e3, e4, e5, e6⟩ := h.ms m hm1
    unfold atN
    by_cases hk : m.num = n
    · rw [if_pos hk]
      have he : s = ss[i] := sn_inj h.up hs1 (List.getElem_mem hi) (by rw [e1, hk, hin])
      subst he
      obtain ⟨g1, g2⟩ := hnew m hm1 hk
      obtain ⟨f1, f2, f3⟩ := hf m
      exact ⟨s', self_set hi, by rw [hs.1, e1, f1], by rw [hs.2.1, e2, f2], by rw [hs.2.2.1, e3, f3], hs.2.2.2, g1, fun h0 => (g2 h0).1⟩
    · rw [if_neg hk]
      exact ⟨s, mem_set hi hs1 (by rw [e1, hin]; exact hk), e1, e2, e3, e4, e5, e6⟩
  sm := fun s hs' hg => by
    rw [hm]
    rcases set_mem h.up hi hs' with rfl | ⟨h1, h2⟩
    · obtain ⟨m, hm1, e⟩ := hmem
      refine ⟨atN n f m, List.mem_map_of_mem hm1, ?_⟩
      unfold atN
      rw [if_pos e, (hf m).1, e, hs.1, hin]
    · obtain ⟨m, hm1, e⟩ := h.sm s h1 hg
      refine ⟨atN n f m, List.mem_map_of_mem hm1, ?_⟩
      unfold atN
      rw [if_neg (by rw [e, ← hin]; exact h2), e]
  gf := fun s hs' hg => by
    rcases set_mem h.up hi hs' with rfl | ⟨h1, h2⟩
    · rw [hs.2.2.2] at hg
      simp at hg
    · exact h.gf s h1 hg
  tl := fun m' hm' h0 => by
    rw [hm] at hm'
    obtain ⟨m, hm1, rfl⟩ := List.mem_map.1 hm'
    unfold atN at h0 ⊢
    by_cases hk : m.num = n
    · rw [if_pos hk] at h0 ⊢
      exact ((hnew m hm1 hk).2 h0).2.1
    · rw [if_neg hk] at h0 ⊢
      exact h.tl m hm1 h0
  lst := fun m' hm' h0 => by
    rw [hm] at hm'
    obtain ⟨m, hm1, rfl⟩ := List.mem_map.1 hm'
    unfold atN at h0 ⊢
    by_cases hk : m.num = n
    · rw [if_pos hk] at h0 ⊢
      rw [(hf m).1]
      exact ((hnew m hm1 hk).2 h0).2.2
    · rw [if_neg hk] at h0 ⊢
      rw [hlst m.num hk (hpos m hm1)]
      exact h.lst m hm1 h0
  pok := by rw [hn]; exact hpok
  ats := ha
  dd := by rw [hc]; exact h.dd
  ds := fun d hd => by
    rw [hds] at hd
    obtain ⟨⟨s, hs0, e⟩, hw⟩ := h.ds d hd
    rw [hc]
    refine ⟨?_, hw⟩
    by_cases hk : s.num = ss[i].num
    · exact ⟨s', self_set hi, by rw [hs.1, ← hk, e]⟩
    · exact ⟨s, mem_set hi hs0 hk, e⟩
theorem PR.gone {now : Int} {Q Q' : QM} {ss : List Sn} {ps : List (Nat × Nat)} (h : PR now Q ss ps) (n : Int) (hm : Q'.ms = Q.ms.filter (fun a => !isN n a)) (hn : Q'.next = Q.next) (hc : Q'.c = Q.c) (ha : Q'.ats = []) (hds : Q'.ds = Q.ds)
    {i : Nat} (hi : i < ss.length) (hin : ss[i].num = n) (s' : Sn) (hs : s'.num = ss[i].num ∧ s'.gone = true ∧ s'.fl = false) : PR now Q' (ss.set i s') ps where
  up := set_up h.up i hi s' hs.1
  sn := fun s hs' => by
    rw [hn]
    rcases set_mem h.up hi hs' with rfl | ⟨h1, _⟩
    · rw [hs.1]
      exact h.sn _ (List.getElem_mem hi)
    · exact h.sn s h1
  ms := fun m hm' => by
    rw [hm] at hm'
    obtain ⟨hm1, hne⟩ := List.mem_filter.1 hm'
    have hk : m.num ≠ n := fun e => by rw [(isN_iff n m).2 e] at hne; simp at hne
    obtain ⟨s, hs1, e1, e2, e3, e4, e5, e6⟩ := h.ms m hm1
    exact ⟨s, mem_set hi hs1 (by rw [e1, hin]; exact hk), e1, e2, e3, e4, e5, e6⟩
  sm := fun s hs' hg => by
    rw [hm]
    rcases set_mem h.up hi hs' with rfl | ⟨h1, h2⟩
    · rw [hs.2.1] at hg
      simp at hg
    · obtain ⟨m, hm1, e⟩ := h.sm s h1 hg
      refine ⟨m, List.mem_filter.2 ⟨hm1, ?_⟩, e⟩
      have hk : ¬ isN n m = true := fun e' => h2 (by rw [hin, ← (isN_iff n m).1 e', e])
      simpa using hk
  gf := fun s hs' hg => by
    rcases set_mem h.up hi hs' with rfl | ⟨h1, h2⟩
    · exact hs.2.2
    · exact h.gf s h1 hg
  tl := fun m hm' h0 => by
    rw [hm] at hm'
    exact h.tl m (List.mem_filter.1 hm').1 h0
  lst := fun m hm' h0 => by
    rw [hm] at hm'
    exact h.lst m (List.mem_filter.1 hm').1 h0
  pok := by rw [hn]; exact h.pok
  ats := ha
  dd := by rw [hc]; exact h.dd
  ds := fun d hd => by
    rw [hds] at hd
    obtain ⟨⟨s, hs0, e⟩, hw⟩ := h.ds d hd
    rw [hc]
    refine ⟨?_, hw⟩
    by_cases hk : s.num = ss[i].num
    · exact ⟨s', self_set hi, by rw [hs.1, ← hk, e]⟩
    · exact ⟨s, mem_set hi hs0 hk, e⟩
theorem PR.sent {now : Int} {Q : QM} {ss : List Sn} {ps : List (Nat × Nat)} (h : PR now Q ss ps) (hnx : 1 ≤ Q.next) (r : Wp.Rq) : PR now (sendQ Q r now) (ss ++ [⟨(Q.next : Nat), r.grp, r.bod, false, 0, false⟩]) ps where
  up := by
    rw [List.pairwise_append]
    exact ⟨h.up, List.pairwise_singleton _ _, fun a ha b hb => by
      rw [List.mem_singleton] at hb
      subst hb
      exact (h.sn a ha).2⟩
  sn := fun s hs => by
    show 1 ≤ s.num ∧ s.num < ((Q.next + 1 : Nat) : Int)
    rcases List.mem_append.1 hs with h1 | h1
    · have := h.sn s h1
      omega
    · rw [List.mem_singleton] at h1
      subst h1
      show 1 ≤ ((Q.next : Nat) : Int) ∧ ((Q.next : Nat) : Int) < ((Q.next + 1 : Nat) : Int)
      omega
  ms := fun m hm => by
    have hm' : m ∈ Q.ms ++ [⟨(Q.next : Nat), r.grp, r.bod, 0, 0⟩] := hm
    rcases List.mem_append.1 hm' with h1 | h1
    · obtain ⟨s, hs1, e⟩ := h.ms m h1
      exact ⟨s, List.mem_append_left _ hs1, e⟩
    · rw [List.mem_singleton] at h1
      subst h1
      exact ⟨_, List.mem_append_right _ (List.mem_singleton.2 rfl), rfl, rfl, rfl, rfl, by simp, by simp⟩
  sm := fun s hs hg => by
    show ∃ m ∈ Q.ms ++ [⟨(Q.next : Nat), r.grp, r.bod, 0, 0⟩], m.num = s.num
    rcases List.mem_append.1 hs with h1 | h1
    · obtain ⟨m, hm, e⟩ := h.sm s h1 hg
      exact ⟨m, List.mem_append_left _ hm, e⟩
    · rw [List.mem_singleton] at h1
      subst h1
      exact ⟨_, List.mem_append_right _ (List.mem_singleton.2 rfl), rfl⟩
  gf := fun s hs hg => by
    rcases List.mem_append.1 hs with h1 | h1
    · exact h.gf s h1 hg
    · rw [List.mem_singleton] at h1
      subst h1
      rfl
  tl := fun m hm h0 => by
    have hm' : m ∈ Q.ms ++ [⟨(Q.next : Nat), r.grp, r.bod, 0, 0⟩] := hm
    rcases List.mem_append.1 hm' with h1 | h1
    · exact h.tl m h1 h0
    · rw [List.mem_singleton] at h1
      subst h1
      simp at h0
  lst := fun m hm h0 => by
    have hm' : m ∈ Q.ms ++ [⟨(Q.next : Nat), r.grp, r.bod, 0, 0⟩] := hm
    rcases List.mem_append.1 hm' with h1 | h1
    · exact h.lst m h1 h0
    · rw [List.mem_singleton] at h1
      subst h1
      simp at h0
  pok := fun p hp => by
    show (1 ≤ p.1 ∧ p.1 < Q.next + 1) ∧ _
    have := h.pok p hp
    exact ⟨by omega, this.2⟩
  ats := h.ats
  dd := h.dd
  ds := fun d hd => by
    show _ ∧ 0 < Q.c.win
    have hd' : d ∈ (if 0 < Q.c.win then Q.ds ++ [⟨didS r, (Q.next : Nat), now + Q.c.win⟩] else Q.ds) := hd
    have hold : d ∈ Q.ds → (∃ s ∈ ss ++ [(⟨(Q.next : Nat), r.grp, r.bod, false, 0, false⟩ : Sn)], s.num = d.num) ∧ 0 < Q.c.win := fun h1 => by
      obtain ⟨⟨s, hs, e⟩, hw⟩ := h.ds d h1
      exact ⟨⟨s, List.mem_append_left _ hs, e⟩, hw⟩
    by_cases hw : 0 < Q.c.win
    · rw [if_pos hw] at hd'
      rcases List.mem_append.1 hd' with h1 | h1
      · exact hold h1
      · rw [List.mem_singleton] at h1
        subst h1
        exact ⟨⟨_, List.mem_append_right _ (List.mem_singleton.2 rfl), rfl⟩, hw⟩
    · rw [if_neg hw] at hd'
      exact hold hd'
theorem PR.new (now : Int) (r : Wp.Rq) (hd : r.d = 45) : PR now (newM r) [] [] :=
  { up := List.Pairwise.nil, sn := fun s hs => by simp at hs, ms := fun m hm => by simp [newM] at hm, sm := fun s hs => by simp at hs, gf := fun s hs => by simp at hs, tl := fun m hm => by simp [newM] at hm, lst := fun m hm => by simp [newM] at hm, pok := fun p hp => by simp at hp, ats := rfl, dd := hd, ds := fun d hd => by simp [newM] at hd }
theorem lastB_snoc (ps : List (Nat × Nat)) (p : Nat × Nat) (n : Nat) : lastB (ps ++ [p]) n = if p.1 = n then hB p else lastB ps n := by
  have h := lastB_succ (ps ++ [p]) n ps.length (by simp)
  rw [List.take_of_length_le (by simp)] at h
  rw [h]
  simp
theorem PR.told {now til : Int} {Q Q' : QM} {ss : List Sn} {ps : List (Nat × Nat)} (h : PR now Q ss ps) (hpos : ∀ m ∈ Q.ms, 0 ≤ m.num) {m : Ms} (hm0 : m ∈ Q.ms) (hu : Ups Q.ms) (ho : oft m.rcv.toNat < 65536) (htil : 0 < til ∧ now < til ∧ til ≤ now + 1000) (hm : Q'.ms = Q.ms.map (atN m.num (flyM til))) (hn : Q'.next = Q.next) (hc : Q'.c = Q.c) (ha : Q'.ats = []) (hds : Q'.ds = Q.ds)
    {i : Nat} (hi : i < ss.length) (hin : ss[i].num = m.num) : PR now Q' (ss.set i (toldS ss[i] til)) (ps ++ [(m.num.toNat, oft m.rcv.toNat)]) := by
  obtain ⟨s, hs1, e1, e2, e3, e4, e5, e6⟩ := h.ms m hm0
  have he : s = ss[i] := sn_inj h.up hs1 (List.getElem_mem hi) (by rw [e1, hin])
  refine h.upd (flyM til) m.num (fun x => ⟨rfl, rfl, rfl⟩) hm hn hc ha hds hi hin _ ⟨rfl, rfl, rfl, by show ss[i].gone = false; rw [← he]; exact e4⟩ (fun x hx hxn => ?_) ⟨m, hm0, rfl⟩ (fun k hk hk0 => ?_) (fun p hp => ?_) hpos
  · have hxm := num_inj hu hx hm0 hxn
    subst hxm
    refine ⟨⟨fun _ => htil.1, fun _ => rfl⟩, fun _ => ⟨rfl, htil.2, ?_⟩⟩
    rw [lastB_snoc, if_pos rfl]
    rfl
  · rw [lastB_snoc, if_neg]
    intro e
    have := hpos m hm0
    have e' : m.num.toNat = k.toNat := e
    omega
  · rcases List.mem_append.1 hp with h1 | h1
    · exact h.pok p h1
    · rw [List.mem_singleton] at h1
      subst h1
      have h2 := h.sn s hs1
      rw [e1] at h2
      refine ⟨?_, ho⟩
      show 1 ≤ m.num.toNat ∧ m.num.toNat < Q.next
      omega
def rcvK (Q : QM) (til : Int) (k : Nat) : QM := { Q with ms := Q.ms.map (flyH til Q.ms (Q.rs.take k)), rs := Q.rs.drop k }
theorem rcvK_wf {Q : QM} (h : QW 0 Q) {til : Int} (ht : 0 < til ∧ til ≤ 61000) {k : Nat} (hk : k ≤ Q.rs.length) : QW 0 (rcvK Q til k) := by
  have h1 := h.recv hk ht
  rw [fly_map h til k hk] at h1
  exact h1
theorem rcv_eq {Q : QM} (h : QW 0 Q) (now : Int) {cnt : Nat} (hc : cnt ≤ Q.rs.length) : recvC (oneC Q) 0 Q ⟨#[]⟩ cnt now = oneC (rcvK Q (now + Q.c.vis) cnt) := by
  unfold recvC
  by_cases h0 : cnt = 0
  · subst h0
    rw [if_pos rfl]
    have h1 : Q.ms.map (flyH (now + Q.c.vis) Q.ms (Q.rs.take 0)) = Q.ms := by
      rw [List.map_congr_left (g := id) (fun x _ => ?_), List.map_id]
      unfold flyH
      rw [if_neg (by simp [inG])]
      rfl
    have h2 : rcvK Q (now + Q.c.vis) 0 = Q := by
      unfold rcvK
      rw [h1]
      rfl
    rw [h2]
  · rw [if_neg h0, set_oneC, recvQ_none, fly_map h _ cnt hc]
    rfl
theorem first_le {p : Ms → Bool} : ∀ (l : List Ms) (m : Ms), Ups l → l.find? p = some m → ∀ m' ∈ l, p m' = true → m.num ≤ m'.num
  | [], m, _, hf, m', hm', _ => by simp at hm'
  | a :: r, m, hu, hf, m', hm', hp => by
    obtain ⟨h1, h2⟩ := List.pairwise_cons.1 hu
    rw [List.find?_cons] at hf
    cases ha : p a with
    | true =>
      rw [ha] at hf
      injection hf with hf
      subst hf
      rcases List.mem_cons.1 hm' with rfl | hm'
      · omega
      · have := h1 m' hm'
        omega
    | false =>
      rw [ha] at hf
      rcases List.mem_cons.1 hm' with rfl | hm'
      · rw [hp] at ha
        simp at ha
      · exact first_le r m h2 hf m' hm' hp
theorem first_of {Q : QM} (h : QW 0 Q) {k : Nat} (hk : k < Q.rs.length) : ∃ m, m ∈ Q.ms ∧ m.grp = Q.rs[k] ∧ Q.ms.find? (isG m.grp) = some m ∧ entG Q Q.rs[k] = ⟨⟨(hanB Q.c.q m.num.toNat (oft m.rcv.toNat)).toArray⟩, m.grp, m.bod⟩ ∧ ∀ m' ∈ Q.ms, m'.grp = m.grp → m'.til = 0 ∧ m.num ≤ m'.num := by
  have hg : Q.rs[k] ∈ Q.rs := List.getElem_mem hk
  generalize Q.rs[k] = g at *
  have h1 := h.hidx hg
  obtain ⟨i, hi⟩ : ∃ i : Nat, idxL (isG g) Q.ms = (i : Int) := ⟨_, (Int.toNat_of_nonneg h1).symm⟩
  obtain ⟨hil, hpi, hfi⟩ := idxL_fnd _ _ i hi
  have hgr : Q.ms[i].grp = g := (isG_iff g _).1 hpi
  refine ⟨Q.ms[i], List.getElem_mem hil, hgr, by rw [hgr]; exact hfi, ?_, fun m' hm' he => ⟨?_, ?_⟩⟩
  · unfold entG
    rw [hi, Int.toNat_natCast, List.getElem?_eq_getElem hil]
  · exact ((h.rr g).1 hg).2 m' hm' (he.trans hgr)
  · exact first_le Q.ms _ h.nums hfi m' hm' ((isG_iff g m').2 (he.trans hgr))
theorem rcvK_at {Q : QM} {til : Int} {k : Nat} {x : Ms} (hx : x.grp ∉ Q.rs.take k) : flyH til Q.ms (Q.rs.take k) x = x := by
  unfold flyH
  rw [if_neg (fun e => hx ((inG_iff _ x).1 e.1))]
theorem rs_fresh {Q : QM} (h : QW 0 Q) {k : Nat} (hk : k < Q.rs.length) : Q.rs[k] ∉ Q.rs.take k := fun hm => by
  obtain ⟨j, hj, he⟩ := List.mem_iff_getElem.1 hm
  rw [List.length_take] at hj
  rw [List.getElem_take] at he
  have h1 := List.pairwise_iff_getElem.1 h.rn j k (by omega) hk (by omega)
  exact h1 he
theorem rcvK_succ {Q : QM} (h : QW 0 Q) (til : Int) {k : Nat} (hk : k < Q.rs.length) {m : Ms} (hm : m ∈ Q.ms) (hg : m.grp = Q.rs[k]) (hf : Q.ms.find? (isG m.grp) = some m) : (rcvK Q til (k + 1)).ms = (rcvK Q til k).ms.map (atN m.num (flyM til)) := by
  show Q.ms.map _ = (Q.ms.map _).map _
  rw [List.map_map]
  refine List.map_congr_left (fun x hx => ?_)
  show flyH til Q.ms (Q.rs.take (k + 1)) x = atN m.num (flyM til) (flyH til Q.ms (Q.rs.take k) x)
  have hnew : Q.rs.take (k + 1) = Q.rs.take k ++ [Q.rs[k]] := by rw [List.take_add_one, List.getElem?_eq_getElem hk]; rfl
  by_cases hn : x.num = m.num
  · have he := num_inj h.nums hx hm hn
    subst he
    have hsame : flyH til Q.ms (Q.rs.take k) x = x := rcvK_at (by rw [hg]; exact rs_fresh h hk)
    rw [hsame]
    unfold atN
    rw [if_pos rfl]
    unfold flyH
    rw [if_pos ⟨(inG_iff _ x).2 (by rw [hnew, hg]; exact List.mem_append_right _ (List.mem_singleton.2 rfl)), (isHead_find h.nums hx).2 hf⟩]
  · unfold atN
    rw [if_neg (by rw [flyH_num]; exact hn)]
    unfold flyH
    by_cases h1 : inG (Q.rs.take k) x = true ∧ isHead Q.ms x = true
    · rw [if_pos h1, if_pos ⟨(inG_iff _ x).2 (by rw [hnew]; exact List.mem_append_left _ ((inG_iff _ x).1 h1.1)), h1.2⟩]
    · rw [if_neg h1, if_neg]
      rintro ⟨h2, h3⟩
      have h4 := (inG_iff _ x).1 h2
      rw [hnew] at h4
      rcases List.mem_append.1 h4 with h5 | h5
      · exact h1 ⟨(inG_iff _ x).2 h5, h3⟩
      · rw [List.mem_singleton] at h5
        have h6 := (isHead_find h.nums hx).1 h3
        rw [h5, ← hg, hf] at h6
        injection h6 with h6
        exact hn (by rw [h6])
theorem PR.hears {now til : Int} {Q : QM} {ss : List Sn} {ps : List (Nat × Nat)} {k : Nat} (hW : QW 0 Q) (hq : Q.c.q = 97) (hk : k < Q.rs.length) (htil : 0 < til ∧ now < til ∧ til ≤ now + 1000) (h : PR now (rcvK Q til k) ss ps) :
    ∃ (p : Nat × Nat) (i : Nat) (hi : i < ss.length), entG Q Q.rs[k] = ⟨hB p, ss[i].grp, ss[i].bod⟩ ∧ p.1 < 4294967296 ∧ idxL (fun m => m.num == (p.1 : Int)) ss = (i : Int) ∧ ss[i].gone = false ∧ (∀ j (hj : j < ss.length), ss[j].grp = ss[i].grp → ss[j].gone = false → ss[j].fl = false ∧ i ≤ j) ∧ PR now (rcvK Q til (k + 1)) (ss.set i (toldS ss[i] til)) (ps ++ [p]) := by
  obtain ⟨m, hm, hg, hf, hent, hfst⟩ := first_of hW hk
  have hfr := rs_fresh hW hk
  have hmk : m ∈ (rcvK Q til k).ms := List.mem_map.2 ⟨m, hm, rcvK_at (by rw [hg]; exact hfr)⟩
  obtain ⟨s, hs, e1, e2, e3, e4, e5, e6⟩ := h.ms m hmk
  obtain ⟨i, hi, rfl⟩ := List.mem_iff_getElem.1 hs
  have hmn := (hW.mok m hm).num
  have hnx := hW.nx
  have hrc := (hW.mok m hm).rcv
  have hup : Ups (rcvK Q til k).ms := ups_map hW.nums _ (flyH_num _ _ _)
  have hpos : ∀ x ∈ (rcvK Q til k).ms, 0 ≤ x.num := fun x hx => by
    obtain ⟨a, ha, rfl⟩ := List.mem_map.1 hx
    rw [flyH_num]
    have := (hW.mok a ha).num
    omega
  have hcast : ((m.num.toNat : Nat) : Int) = m.num := Int.toNat_of_nonneg (by omega)
  have hpw := List.pairwise_iff_getElem.1 h.up
  refine ⟨(m.num.toNat, oft m.rcv.toNat), i, hi, ?_, ?_, ?_, e4, fun j hj hgr hgo => ?_, ?_⟩
  · rw [hent, e2, e3]
    unfold hB
    rw [hq]
  · show m.num.toNat < 4294967296
    omega
  · refine idxL_hit _ ss i hi ?_ (fun j hj => ?_)
    · show (ss[i].num == ((m.num.toNat : Nat) : Int)) = true
      rw [hcast, e1]
      simp
    · show (ss[j].num == ((m.num.toNat : Nat) : Int)) = false
      have := hpw j i (by omega) hi hj
      rw [hcast, ← e1]
      exact beq_eq_false_iff_ne.2 (by omega)
  · obtain ⟨m', hm', en⟩ := h.sm _ (List.getElem_mem hj) hgo
    obtain ⟨s2, hs2, d1, d2, d3, d4, d5, d6⟩ := h.ms m' hm'
    have hse : s2 = ss[j] := sn_inj h.up hs2 (List.getElem_mem hj) (by rw [d1, en])
    subst hse
    obtain ⟨a, ha, rfl⟩ := List.mem_map.1 hm'
    rw [flyH_grp] at d2
    have hag : a.grp = m.grp := by rw [← d2, hgr, e2]
    have hsame : flyH til Q.ms (Q.rs.take k) a = a := rcvK_at (by rw [hag, hg]; exact hfr)
    rw [hsame] at d1 d5
    obtain ⟨t0, hle⟩ := hfst a ha hag
    refine ⟨?_, ?_⟩
    · cases hfl : ss[j].fl with
      | false => rfl
      | true =>
        have := d5.1 hfl
        omega
    · by_cases hij : i ≤ j
      · exact hij
      · have := hpw j i hj hi (by omega)
        omega
  · exact h.told hpos hmk hup (by have := oft_le m.rcv.toNat; omega) htil (rcvK_succ hW til hk hm hg hf) rfl rfl h.ats rfl hi e1
theorem PR.busy {now : Int} {Q : QM} {ss : List Sn} {ps : List (Nat × Nat)} (hW : QW 0 Q) (h : PR now Q ss ps) (hr : Q.rs = []) : ∀ s ∈ ss, s.gone = true ∨ busyB ss s.grp = true := fun s hs => by
  by_cases hg : s.gone = true
  · exact .inl hg
  · have hg' : s.gone = false := by simpa using hg
    obtain ⟨m, hm, e⟩ := h.sm s hs hg'
    obtain ⟨s2, hs2, d1, d2, _⟩ := h.ms m hm
    have hse : s2 = s := sn_inj h.up hs2 hs (by rw [d1, e])
    subst hse
    refine .inr ?_
    have hn : ¬ ∀ x ∈ Q.ms, x.grp = m.grp → x.til = 0 := fun hall => by
      have := (hW.rr m.grp).2 ⟨⟨m, hm, rfl⟩, hall⟩
      rw [hr] at this
      simp at this
    obtain ⟨x, hx⟩ := Classical.not_forall.1 hn
    obtain ⟨hx1, hx2⟩ := Classical.not_imp.1 hx
    obtain ⟨hx3, hx4⟩ := Classical.not_imp.1 hx2
    have hxt := (hW.mok x hx1).til
    obtain ⟨s3, hs3, f1, f2, _, _, f5, _⟩ := h.ms x hx1
    unfold busyB
    rw [List.any_eq_true]
    refine ⟨s3, hs3, ?_⟩
    rw [f5.2 (by omega), f2, hx3, d2]
    simp
def fly0 (m : Ms) : Bool := decide (0 < m.til)
def flyCnt (Q : QM) : Nat := Q.ms.countP fly0
theorem flyCnt_le {i : Nat} {Q : QM} (h : QW i Q) : flyCnt Q ≤ 50 := Nat.le_trans List.countP_le_length h.ml
theorem count_at (n : Int) (f : Ms → Ms) : ∀ (l : List Ms), Ups l → (l.map (atN n f)).countP fly0 + 1 ≥ l.countP fly0
  | [], _ => by simp
  | a :: r, hu => by
    obtain ⟨h1, h2⟩ := List.pairwise_cons.1 hu
    rw [List.map_cons, List.countP_cons, List.countP_cons]
    by_cases h : a.num = n
    · have e : r.map (atN n f) = r := by
        rw [List.map_congr_left (g := id) (fun x hx => ?_), List.map_id]
        unfold atN
        rw [if_neg (by have := h1 x hx; omega)]
        rfl
      rw [e]
      have : (if fly0 a = true then 1 else 0) ≤ 1 := by split <;> omega
      omega
    · have e : atN n f a = a := by unfold atN; rw [if_neg h]
      rw [e]
      have := count_at n f r h2
      omega
theorem count_up (n : Int) (f : Ms → Ms) (hf : ∀ x, fly0 (f x) = true) : ∀ (l : List Ms), Ups l → (∃ m ∈ l, m.num = n ∧ m.til = 0) → (l.map (atN n f)).countP fly0 ≥ l.countP fly0 + 1
  | [], _, h => by
    obtain ⟨m, hm, _⟩ := h
    simp at hm
  | a :: r, hu, h => by
    obtain ⟨h1, h2⟩ := List.pairwise_cons.1 hu
    rw [List.map_cons, List.countP_cons, List.countP_cons]
    by_cases hn : a.num = n
    · have e : r.map (atN n f) = r := by
        rw [List.map_congr_left (g := id) (fun x hx => ?_), List.map_id]
        unfold atN
        rw [if_neg (by have := h1 x hx; omega)]
        rfl
      obtain ⟨m, hm, hmn, hmt⟩ := h
      have hma : m = a := by
        rcases List.mem_cons.1 hm with rfl | hm'
        · rfl
        · have := h1 m hm'
          omega
      subst hma
      have e2 : fly0 (atN n f m) = true := by unfold atN; rw [if_pos hn]; exact hf m
      have e3 : fly0 m = false := by unfold fly0; rw [hmt]; decide
      rw [e, e2, e3]
      simp
    · have e : atN n f a = a := by unfold atN; rw [if_neg hn]
      rw [e]
      obtain ⟨m, hm, hmn, hmt⟩ := h
      have hmr : m ∈ r := by
        rcases List.mem_cons.1 hm with rfl | hm'
        · exact absurd hmn hn
        · exact hm'
      have := count_up n f hf r h2 ⟨m, hmr, hmn, hmt⟩
      omega
theorem fly_rcv {Q : QM} (h : QW 0 Q) {til : Int} (ht : 0 < til) : ∀ (k : Nat), k ≤ Q.rs.length → flyCnt Q + k ≤ flyCnt (rcvK Q til k)
  | 0, _ => by
    have h1 : Q.ms.map (flyH til Q.ms (Q.rs.take 0)) = Q.ms := by
      rw [List.map_congr_left (g := id) (fun x _ => ?_), List.map_id]
      unfold flyH
      rw [if_neg (by simp [inG])]
      rfl
    unfold flyCnt rcvK
    simp only [h1]
    omega
  | k + 1, hk => by
    have ih := fly_rcv h ht k (by omega)
    obtain ⟨m, hm, hg, hf, _, hfst⟩ := first_of h (k := k) (by omega)
    have hsame : flyH til Q.ms (Q.rs.take k) m = m := rcvK_at (by rw [hg]; exact rs_fresh h (by omega))
    have hup : Ups (rcvK Q til k).ms := ups_map h.nums _ (flyH_num _ _ _)
    have h2 := count_up m.num (flyM til) (fun x => decide_eq_true ht) (rcvK Q til k).ms hup ⟨m, List.mem_map.2 ⟨m, hm, hsame⟩, rfl, (hfst m hm rfl).1⟩
    rw [← rcvK_succ h til (by omega) hm hg hf] at h2
    unfold flyCnt at ih ⊢
    omega
theorem count_drop (n : Int) : ∀ (l : List Ms), Ups l → (l.filter (fun a => !isN n a)).countP fly0 + 1 ≥ l.countP fly0
  | [], _ => by simp
  | a :: r, hu => by
    obtain ⟨h1, h2⟩ := List.pairwise_cons.1 hu
    by_cases h : a.num = n
    · have e : (a :: r).filter (fun a => !isN n a) = r := by
        rw [List.filter_cons, if_neg (by rw [(isN_iff n a).2 h]; simp), List.filter_eq_self]
        intro x hx
        have : ¬ isN n x = true := fun e => by have := (isN_iff n x).1 e; have := h1 x hx; omega
        simpa using this
      rw [e, List.countP_cons]
      have : (if fly0 a = true then 1 else 0) ≤ 1 := by split <;> omega
      omega
    · have e : (a :: r).filter (fun a => !isN n a) = a :: r.filter (fun a => !isN n a) := by
        rw [List.filter_cons, if_pos]
        have : ¬ isN n a = true := fun e => h ((isN_iff n a).1 e)
        simpa using this
      rw [e, List.countP_cons, List.countP_cons]
      have := count_drop n r h2
      omega
end Go.Proofs.YtbdobaapadlcjaaGreatDoor
