/-
  AGAIN: what holds behind the first R; what is told again; receive (22). QUEUES THAT CAN BE (pure): what every change keeps.
-/
import Derived.Test.YtbdobaapadlcjaaGreatDoorMx38
import Derived.Test.YtbdobaapadlcjaaGreatDoorMx35
namespace Go.Proofs.YtbdobaapadlcjaaGreatDoor
open Go.RowKit Keep
set_option linter.unusedVariables false
set_option linter.unusedSimpArgs false

theorem str_inj {a b : ByteArray} (h : a.toList = b.toList) : a = b := ByteArray.ext (Array.toList_inj.1 (by rw [← ByteArray.toList_eq, ← ByteArray.toList_eq]; exact h))
theorem isG_iff (g : ByteArray) (m : Ms) : isG g m = true ↔ m.grp = g := by
  unfold isG
  rw [beq_iff_eq]
  exact ⟨str_inj, fun h => by rw [h]⟩
/-- What is told of a ready group. -/
def entG (Q : QM) (g : ByteArray) : Ge := match Q.ms[(idxL (isG g) Q.ms).toNat]? with
  | some m => ⟨⟨(hanB Q.c.q m.num.toNat (oft m.rcv.toNat)).toArray⟩, m.grp, m.bod⟩
  | none => ⟨⟨#[]⟩, g, ⟨#[]⟩⟩
theorem idxL_at {α : Type} (p : α → Bool) : ∀ (l : List α) (i : Nat), idxL p l = (i : Int) → ∃ h : i < l.length, p l[i] = true
  | [], i, h => by simp only [idxL] at h; omega
  | x :: l, i, h => by
    simp only [idxL] at h
    by_cases hx : p x = true
    · rw [if_pos hx] at h
      have : i = 0 := by omega
      subst this
      exact ⟨by simp, hx⟩
    · rw [if_neg hx] at h
      split at h
      · omega
      · obtain ⟨j, rfl⟩ : ∃ j, i = j + 1 := ⟨i - 1, by omega⟩
        obtain ⟨hl, hp⟩ := idxL_at p l j (by omega)
        exact ⟨by simp; omega, by simpa using hp⟩
theorem ent_of (Q : QM) (g : ByteArray) (h0 : 0 ≤ idxL (isG g) Q.ms) (hms : ∀ m ∈ Q.ms, MsOk m) : (entG Q g).g = g ∧ GeOk (entG Q g) ∧ givM Q g = (entG Q g).bytes := by
  obtain ⟨i, hi⟩ : ∃ i : Nat, idxL (isG g) Q.ms = (i : Int) := ⟨_, (Int.toNat_of_nonneg h0).symm⟩
  obtain ⟨hl, hp⟩ := idxL_at _ _ i hi
  have hg := (isG_iff g _).1 hp
  have hok := hms _ (List.getElem_mem hl)
  have e1 : Q.ms[(idxL (isG g) Q.ms).toNat]? = some Q.ms[i] := by rw [hi]; simp [hl]
  have e2 : entG Q g = ⟨⟨(hanB Q.c.q Q.ms[i].num.toNat (oft Q.ms[i].rcv.toNat)).toArray⟩, Q.ms[i].grp, Q.ms[i].bod⟩ := by unfold entG; rw [e1]
  have e3 : givM Q g = givB Q.c.q Q.ms[i].num.toNat Q.ms[i].rcv.toNat Q.ms[i].grp Q.ms[i].bod := by unfold givM; rw [e1]
  rw [e2, e3]
  refine ⟨hg, ⟨?_, hok.grp, hok.bod⟩, rfl⟩
  show (hanB Q.c.q Q.ms[i].num.toNat (oft Q.ms[i].rcv.toNat)).toArray.size = 8
  simp [hanB, lowB_length]
/-- All that is told. -/
def entL (Q : QM) (cnt : Nat) : List Ge := (Q.rs.take cnt).map (entG Q)
theorem entL_len (Q : QM) (cnt : Nat) (h : cnt ≤ Q.rs.length) : (entL Q cnt).length = cnt := by simp [entL]; omega
theorem ans_rec (Q : QM) (cnt : Nat) (h : cnt ≤ Q.rs.length) (hrd : ∀ g ∈ Q.rs, 0 ≤ idxL (isG g) Q.ms) (hms : ∀ m ∈ Q.ms, MsOk m) : okL (ansL Q cnt cnt) = recS (entL Q cnt) := by
  have e : (Q.rs.take cnt).flatMap (givM Q) = (entL Q cnt).flatMap Ge.bytes := by
    unfold entL
    rw [List.flatMap_map]
    have h2 : ∀ l : List ByteArray, (∀ g ∈ l, 0 ≤ idxL (isG g) Q.ms) → l.flatMap (givM Q) = l.flatMap (fun g => (entG Q g).bytes) := fun l => by
      induction l with
      | nil => intro _; rfl
      | cons g l ih =>
        intro hl
        rw [List.flatMap_cons, List.flatMap_cons, ih (fun x hx => hl x (by simp [hx])), (ent_of Q g (hl g (by simp)) hms).2.2]
    exact h2 _ (fun g hg => hrd g (List.mem_of_mem_take hg))
  unfold recS ansL
  rw [entL_len Q cnt h, e]
theorem entL_ok (Q : QM) (cnt : Nat) (hrd : ∀ g ∈ Q.rs, 0 ≤ idxL (isG g) Q.ms) (hms : ∀ m ∈ Q.ms, MsOk m) : ∀ x ∈ entL Q cnt, GeOk x := fun x hx => by
  unfold entL at hx
  obtain ⟨g, hg, rfl⟩ := List.mem_map.1 hx
  exact (ent_of Q g (hrd g (List.mem_of_mem_take hg)) hms).2.1
/-- What holds behind the first R. -/
structure SJ (Q0 Q : QM) (cnt : Nat) (att : ByteArray) (ans : List UInt8) : Prop where
  c : Q.c = Q0.c
  grp : Q.ms.map Ms.grp = Q0.ms.map Ms.grp
  len : Q.ms.length = Q0.ms.length
  ok : ∀ m ∈ Q.ms, MsOk m
  til : ∀ m ∈ Q.ms, m.til = 0 ∨ m.til = Q0.c.vis
  rs : Q.rs = Q0.rs.drop cnt
  ds : Q.ds.length ≤ Q0.ds.length
  rep : (cnt = 0 ∧ Q.rs = [] ∧ Q.ats = [] ∧ ans = lowB 0 1) ∨ (0 < cnt ∧ Q.ats = [⟨att, Q0.c.vis, ⟨ans.toArray⟩⟩])
/-- A request of the Op R that is right. -/
structure Rcv (r : Wp.Rq) (mx : Nat) : Prop where
  wf : Wf r
  right : rightW r nil0 (Wp.short []) = true
  op : r.op = 82
  q : r.q = 97
  small : (printS r nil0 []).size ≤ 300
  max : r.mx = (mx : Nat)
  m1 : 1 ≤ mx ∧ mx ≤ 10

end Go.Proofs.YtbdobaapadlcjaaGreatDoor

namespace Go.Proofs.YtbdobaapadlcjaaGreatDoor
open Go.RowKit
set_option linter.unusedVariables false
set_option linter.unusedSimpArgs false

theorem isN_iff (n : Int) (m : Ms) : isN n m = true ↔ m.num = n := by
  show (m.num == n) = true ↔ _
  rw [beq_iff_eq]
abbrev Ups (l : List Ms) : Prop := l.Pairwise (fun a b => a.num < b.num)
theorem find_num : ∀ (l : List Ms), Ups l → ∀ m ∈ l, l.find? (isN m.num) = some m
  | [], _, m, hm => by simp at hm
  | a :: r, hp, m, hm => by
    rcases List.mem_cons.1 hm with rfl | hm
    · simp [List.find?_cons]
    · have h1 := (List.pairwise_cons.1 hp).1 m hm
      have h2 : isN m.num a = false := by
        show (a.num == m.num) = false
        exact beq_eq_false_iff_ne.2 (by omega)
      rw [List.find?_cons, h2]
      exact find_num r (List.pairwise_cons.1 hp).2 m hm
theorem find_mem {l : List Ms} {n : Int} {m : Ms} (h : l.find? (isN n) = some m) : m ∈ l ∧ m.num = n := ⟨List.mem_of_find?_eq_some h, (isN_iff n m).1 (List.find?_some h)⟩
theorem num_inj {l : List Ms} (hp : Ups l) {a b : Ms} (ha : a ∈ l) (hb : b ∈ l) (e : a.num = b.num) : a = b := by
  have h1 := find_num l hp a ha
  have h2 := find_num l hp b hb
  rw [e, h2] at h1
  exact (Option.some.inj h1).symm
/-- A message whose time is set, by its number. -/
def tilM (num til : Int) (a : Ms) : Ms := if isN num a = true then { a with til := til } else a
theorem tilM_num (num til : Int) (a : Ms) : (tilM num til a).num = a.num := by unfold tilM; split <;> rfl
theorem tilM_grp (num til : Int) (a : Ms) : (tilM num til a).grp = a.grp := by unfold tilM; split <;> rfl
theorem tilM_bod (num til : Int) (a : Ms) : (tilM num til a).bod = a.bod := by unfold tilM; split <;> rfl
theorem tilM_rcv (num til : Int) (a : Ms) : (tilM num til a).rcv = a.rcv := by unfold tilM; split <;> rfl
theorem tilM_til (num til : Int) (a : Ms) : (tilM num til a).til = if a.num = num then til else a.til := by
  unfold tilM
  by_cases h : a.num = num
  · rw [if_pos ((isN_iff num a).2 h), if_pos h]
  · rw [if_neg (fun e => h ((isN_iff num a).1 e)), if_neg h]
theorem set_map (num til : Int) : ∀ (l : List Ms) (m : Ms), Ups l → l.find? (isN num) = some m → l.set (idxL (isN num) l).toNat { m with til := til } = l.map (tilM num til)
  | [], m, _, hf => by simp at hf
  | a :: r, m, hp, hf => by
    obtain ⟨h1, h2⟩ := List.pairwise_cons.1 hp
    by_cases ha : isN num a = true
    · rw [List.find?_cons, ha] at hf
      injection hf with hf
      subst hf
      have e : idxL (isN num) (a :: r) = 0 := by unfold idxL; rw [if_pos ha]
      rw [e, List.map_cons]
      have e2 : r.map (tilM num til) = r := by
        rw [List.map_congr_left (g := id) (fun x hx => ?_), List.map_id]
        have := h1 x hx
        have := (isN_iff num a).1 ha
        exact if_neg (fun e => by have := (isN_iff num x).1 e; omega)
      rw [e2]
      show { a with til := til } :: r = _
      unfold tilM
      rw [if_pos ha]
    · have ha' : isN num a = false := by simpa using ha
      rw [List.find?_cons, ha'] at hf
      have ih := set_map num til r m h2 hf
      obtain ⟨p, hp1, hp2, _⟩ := find_idx hf
      have e : idxL (isN num) (a :: r) = ((p + 1 : Nat) : Int) := by
        unfold idxL
        rw [if_neg ha, hp1, if_neg (by omega)]
        omega
      rw [e, List.map_cons]
      rw [hp1] at ih
      show (a :: r).set (p + 1) _ = _
      rw [List.set_cons_succ]
      have e3 : tilM num til a = a := by unfold tilM; rw [if_neg ha]
      rw [e3]
      congr 1
theorem til_map (Q : QM) (h : Ups Q.ms) (num til : Int) : (tilQ Q num til).ms = Q.ms.map (tilM num til) := by
  unfold tilQ
  cases hf : Q.ms.find? (isN num) with
  | none =>
    have h1 := List.find?_eq_none.1 hf
    show Q.ms = _
    rw [List.map_congr_left (g := id) (fun x hx => ?_), List.map_id]
    exact if_neg (h1 x hx)
  | some m => exact set_map num til Q.ms m h hf
theorem erase_filter (num : Int) : ∀ (l : List Ms) (m : Ms), Ups l → l.find? (isN num) = some m → l.eraseIdx (idxL (isN num) l).toNat = l.filter (fun a => !isN num a)
  | [], m, _, hf => by simp at hf
  | a :: r, m, hp, hf => by
    obtain ⟨h1, h2⟩ := List.pairwise_cons.1 hp
    by_cases ha : isN num a = true
    · have e : idxL (isN num) (a :: r) = 0 := by unfold idxL; rw [if_pos ha]
      have e2 : r.filter (fun a => !isN num a) = r := by
        rw [List.filter_eq_self]
        intro x hx
        have := h1 x hx
        have := (isN_iff num a).1 ha
        have h3 : isN num x = false := by
          show (x.num == num) = false
          exact beq_eq_false_iff_ne.2 (by omega)
        rw [h3]; rfl
      rw [e, List.filter_cons, ha, e2]
      rfl
    · have ha' : isN num a = false := by simpa using ha
      rw [List.find?_cons, ha'] at hf
      have ih := erase_filter num r m h2 hf
      obtain ⟨p, hp1, hp2, _⟩ := find_idx hf
      have e : idxL (isN num) (a :: r) = ((p + 1 : Nat) : Int) := by
        unfold idxL
        rw [if_neg ha, hp1, if_neg (by omega)]
        omega
      rw [hp1] at ih
      rw [e, List.filter_cons, ha', ← ih]
      rfl
theorem ups_map {l : List Ms} (h : Ups l) (f : Ms → Ms) (hf : ∀ a, (f a).num = a.num) : Ups (l.map f) := by
  rw [Ups, List.pairwise_map]
  exact h.imp (fun {a b} hab => by rw [hf, hf]; exact hab)
theorem ups_filter {l : List Ms} (h : Ups l) (p : Ms → Bool) : Ups (l.filter p) := List.Pairwise.sublist List.filter_sublist h

/-- A message that can be. -/
structure MsG (nx : Nat) (m : Ms) : Prop where
  num : 1 ≤ m.num ∧ m.num < (nx : Int)
  grp : 1 ≤ m.grp.size ∧ m.grp.size ≤ 8
  bod : m.bod.size ≤ 40
  rcv : 0 ≤ m.rcv ∧ m.rcv ≤ 65535
  til : 0 ≤ m.til ∧ m.til ≤ 61000
theorem MsG.mono {nx nx' : Nat} {m : Ms} (h : MsG nx m) (hn : nx ≤ nx') : MsG nx' m := ⟨⟨h.num.1, by have := h.num.2; omega⟩, h.grp, h.bod, h.rcv, h.til⟩
/-- Settings that can be. -/
structure CfW (i : Nat) (c : Wp.Rq) : Prop where
  q : c.q.toNat = 97 + i
  d : DeadOk i c
  vis : 1 ≤ c.vis ∧ c.vis ≤ 1000
  win : 0 ≤ c.win ∧ c.win ≤ 1000
  rcv : 0 ≤ c.rcv ∧ c.rcv ≤ 9
  quo : 1 ≤ c.quo ∧ c.quo ≤ 50
/-- A queue that can be. -/
structure QW (i : Nat) (Q : QM) : Prop where
  c : CfW i Q.c
  nx : 1 ≤ Q.next ∧ Q.next ≤ 201
  mq : (Q.ms.length : Int) ≤ Q.c.quo
  nums : Ups Q.ms
  mok : ∀ m ∈ Q.ms, MsG Q.next m
  hd : ∀ m ∈ Q.ms, 0 < m.til → ∀ m' ∈ Q.ms, m'.grp = m.grp → m.num ≤ m'.num
  rn : Q.rs.Nodup
  rr : ∀ g, g ∈ Q.rs ↔ (∃ m ∈ Q.ms, m.grp = g) ∧ ∀ m ∈ Q.ms, m.grp = g → m.til = 0
  dn : Q.ds.Pairwise (fun a b => a.num < b.num)
  dok : ∀ d ∈ Q.ds, d.id.size ≤ 8 ∧ (1 ≤ d.num ∧ d.num < (Q.next : Int)) ∧ 0 ≤ d.til ∧ d.til ≤ 62000
  al : Q.ats.length ≤ 20
  aok : ∀ a ∈ Q.ats, (1 ≤ a.id.size ∧ a.id.size ≤ 8) ∧ (0 < a.ans.size ∧ a.ans.size ≤ 600) ∧ 0 ≤ a.til ∧ a.til ≤ 62000
theorem QW.ml {i : Nat} {Q : QM} (h : QW i Q) : Q.ms.length ≤ 50 := by have := h.mq; have := h.c.quo; omega
/-- There are no more ready groups than messages. -/
theorem nodup_len {α β : Type} [DecidableEq β] (f : α → β) : ∀ (r : List β) (l : List α), r.Nodup → (∀ g ∈ r, ∃ m ∈ l, f m = g) → r.length ≤ l.length
  | [], l, _, _ => by simp
  | g :: r, l, hn, h => by
    obtain ⟨m, hm, hg⟩ := h g List.mem_cons_self
    obtain ⟨h1, h2⟩ := List.nodup_cons.1 hn
    have h3 := nodup_len f r (l.filter (fun x => decide (f x ≠ g))) h2 (fun g' hg' => by
      obtain ⟨m', hm', he⟩ := h g' (List.mem_cons_of_mem _ hg')
      refine ⟨m', List.mem_filter.2 ⟨hm', ?_⟩, he⟩
      rw [he]
      simp
      intro e
      rw [e] at hg'
      exact h1 hg')
    have h4 : (l.filter (fun x => decide (f x ≠ g))).length < l.length := by
      have h5 := List.length_filter_lt_length_iff_exists (p := fun x => decide (f x ≠ g)) (l := l)
      exact h5.2 ⟨m, hm, by simp [hg]⟩
    rw [List.length_cons]
    omega
theorem QW.rl {i : Nat} {Q : QM} (h : QW i Q) : Q.rs.length ≤ Q.ms.length := nodup_len Ms.grp Q.rs Q.ms h.rn (fun g hg => ((h.rr g).1 hg).1)
theorem ups_len : ∀ (l : List Dd) (a b : Int), l.Pairwise (fun x y => x.num < y.num) → (∀ d ∈ l, a ≤ d.num ∧ d.num < b) → a ≤ b → (l.length : Int) ≤ b - a
  | [], a, b, _, _, h => by simp; omega
  | d :: r, a, b, hp, h, hab => by
    obtain ⟨h1, h2⟩ := List.pairwise_cons.1 hp
    have h3 := h d List.mem_cons_self
    have h4 := ups_len r (d.num + 1) b h2 (fun x hx => ⟨by have := h1 x hx; omega, (h x (List.mem_cons_of_mem _ hx)).2⟩) (by omega)
    rw [List.length_cons]
    omega
theorem QW.dl {i : Nat} {Q : QM} (h : QW i Q) : Q.ds.length ≤ 200 := by
  have h1 := ups_len Q.ds 1 (Q.next : Int) h.dn (fun d hd => (h.dok d hd).2.1) (by have := h.nx.1; omega)
  have := h.nx
  omega
theorem QW.rsz {i : Nat} {Q : QM} (h : QW i Q) : ∀ g ∈ Q.rs, g.size ≤ 8 := fun g hg => by
  obtain ⟨m, hm, he⟩ := ((h.rr g).1 hg).1
  rw [← he]
  exact (h.mok m hm).grp.2
theorem QW.ok {i : Nat} {Q : QM} (h : QW i Q) : QOk Q where
  c := ⟨⟨by have := h.c.vis; omega, by have := h.c.vis; omega⟩, ⟨by have := h.c.win; omega, by have := h.c.win; omega⟩, ⟨by have := h.c.rcv; omega, by have := h.c.rcv; omega⟩, ⟨by have := h.c.quo; omega, by have := h.c.quo; omega⟩⟩
  nx := by have := h.nx; omega
  ml := h.ml
  ms := fun m hm => by
    have h1 := h.mok m hm
    have h2 := h1.num
    have h3 := h1.rcv
    have h4 := h1.til
    have h5 := h.nx
    exact ⟨⟨by omega, by omega⟩, ⟨by omega, by omega⟩, ⟨by omega, by omega⟩, h1.grp.2, h1.bod⟩
  rl := Nat.le_trans h.rl h.ml
  rs := h.rsz
  dl := h.dl
  ds := fun d hd => by
    have h1 := h.dok d hd
    have h5 := h.nx
    exact ⟨h1.1, ⟨by omega, by omega⟩, ⟨by omega, by omega⟩⟩
  al := h.al
  ats := fun a ha => by
    have h1 := h.aok a ha
    exact ⟨h1.1.2, ⟨by omega, by omega⟩, h1.2.1.2⟩
/-- Of a group one message flies at most. -/
theorem QW.one {i : Nat} {Q : QM} (h : QW i Q) {a b : Ms} (ha : a ∈ Q.ms) (hb : b ∈ Q.ms) (ta : 0 < a.til) (tb : 0 < b.til) (e : a.grp = b.grp) : a = b :=
  num_inj h.nums ha hb (by have h1 := h.hd a ha ta b hb e.symm; have h2 := h.hd b hb tb a ha e; omega)
end Go.Proofs.YtbdobaapadlcjaaGreatDoor
