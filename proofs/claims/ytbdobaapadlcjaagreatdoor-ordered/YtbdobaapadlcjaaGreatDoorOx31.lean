import Derived.Test.YtbdobaapadlcjaaGreatDoorOx30
namespace Go.Proofs.YtbdobaapadlcjaaGreatDoor
open Go.RowKit
set_option linter.unusedVariables false
set_option linter.unusedSimpArgs false
def leMs (a b : Ms) : Bool := decide (a.til < b.til ∨ a.til = b.til ∧ a.num ≤ b.num)
def dueS (now : Int) (l : List Ms) : List Ms := (dueL now l).mergeSort leMs
def dueN (now : Int) (l : List Ms) : List Int := (dueS now l).map Ms.num
theorem asc_pair {l : List Ms} (h : Asc l) : l.Pairwise (fun a b => leMs a b = true) := by
  rw [List.pairwise_iff_getElem]
  intro i j hi hj hij
  have h1 := h i j hi hj hij
  unfold ltMs at h1
  unfold leMs
  rw [decide_eq_true_eq]
  omega
theorem due_unique {now : Int} {l l' : List Ms} (hu : Ups l) (hp : l'.Perm (dueL now l)) (ha : Asc l') : l' = dueS now l := by
  have h1 : (dueS now l).Perm (dueL now l) := List.mergeSort_perm _ _
  have h2 : (dueS now l).Pairwise (fun a b => leMs a b = true) := List.pairwise_mergeSort (fun a b c h1 h2 => by
    unfold leMs at *
    rw [decide_eq_true_eq] at *
    omega) (fun a b => by
    unfold leMs
    rw [Bool.or_eq_true, decide_eq_true_eq, decide_eq_true_eq]
    omega) _
  refine List.Perm.eq_of_pairwise (le := fun a b => leMs a b = true) (fun a b hla hlb hab hba => ?_) (asc_pair ha) h2 (hp.trans h1.symm)
  have ma : a ∈ l := (List.mem_filter.1 (hp.subset hla)).1
  have mb : b ∈ l := (List.mem_filter.1 (h1.subset hlb)).1
  refine num_inj hu ma mb ?_
  unfold leMs at hab hba
  rw [decide_eq_true_eq] at hab hba
  omega
theorem dueS_mem {now : Int} {l : List Ms} {m : Ms} (h : m ∈ dueS now l) : m ∈ l ∧ 0 < m.til ∧ m.til ≤ now := by
  have h1 : (dueS now l).Perm (dueL now l) := List.mergeSort_perm _ _
  have h2 := List.mem_filter.1 (h1.subset h)
  exact ⟨h2.1, by simpa using h2.2⟩
theorem ups_nodup {l : List Ms} (h : Ups l) : (l.map Ms.num).Nodup := by
  rw [List.Nodup, List.pairwise_map]
  exact h.imp (fun {a b} hab => by omega)
theorem dueN_nodup {now : Int} {l : List Ms} (h : Ups l) : (dueN now l).Nodup := by
  have h1 : (dueS now l).Perm (dueL now l) := List.mergeSort_perm _ _
  exact (h1.map Ms.num).nodup_iff.2 (ups_nodup (ups_filter h _))
def bringC (now : Int) (c : Nat → Option QM) (i : Nat) : Nat → Option QM :=
  match c i with
  | none => c
  | some Q => (dueN now Q.ms).foldl (fun c n => backC c i n) c
theorem deadOf_sg {B : Nat} {w : World} {st b : Nat} {now : Int} {Z : Nat → Option BQ} {col : Nat → Nat} (h : SG B w st b now Z col) {i : Nat} (hi : i < 8) {x : BQ} (hx : Z i = some x) (hd : DeadOk i x.Q.c) :
    Calls Tryz.prog 204 #[.pointer (some ⟨st, 0, none⟩), .pointer (some ⟨x.qb, 0, none⟩)] w fun e w' => e = .returned (dvZ Z x.Q.c) ∧ w' = w := by
  have hq := h.qr i x hi hx
  have c1 : w.cell? ⟨x.qb, 1, none⟩ = some (.int .u8 (x.Q.c.d.toNat : Int)) := cell_qC hq.blk 1 _ rfl
  rcases hd with hd | ⟨j, hj, hji, hd⟩
  · have e1 : deadJ x.Q.c = none := if_pos hd
    have e3 : dvZ Z x.Q.c = .pointer none := by unfold dvZ; rw [e1]; rfl
    rw [e3]
    rw [hd] at c1
    exact deadOf_none st x.qb w c1
  · have hne : x.Q.c.d ≠ 45 := fun e => by rw [e] at hd; simp at hd; omega
    have e1 : deadJ x.Q.c = some j := by unfold deadJ; rw [if_neg hne, hd]; congr 1; omega
    have e3 : dvZ Z x.Q.c = ptrV (ptZ Z j) := by unfold dvZ; rw [e1]; rfl
    rw [e3]
    rw [hd] at c1
    exact deadOf_some st b x.qb j now (fun i => ptrV (ptZ Z i)) w h.stb hj (by rw [c1]; congr 2)
theorem dvZ_eq {Z Z' : Nat → Option BQ} (h : ptZ Z' = ptZ Z) (c : Wp.Rq) : dvZ Z' c = dvZ Z c := by unfold dvZ; rw [h]
theorem ptZ_get {Z Z' : Nat → Option BQ} (h : ptZ Z' = ptZ Z) {i : Nat} {x : BQ} (hx : Z i = some x) : ∃ x', Z' i = some x' ∧ x'.qb = x.qb := by
  have h1 := congrFun h i
  unfold ptZ at h1
  rw [hx] at h1
  obtain ⟨x', h2, h3⟩ := Option.map_eq_some_iff.1 h1
  exact ⟨x', h2, h3⟩
theorem WFc.bd {c : Nat → Option QM} (h : WFc c) : ∀ j T, j < 8 → c j = some T → T.ms.length ≤ 100 ∧ T.rs.length ≤ 100 ∧ T.next ≤ 201 := fun j T hj hT => by
  have h1 := h j T hj hT
  have h2 := h1.ml
  have h3 := h1.rl
  exact ⟨by omega, by omega, h1.nx.2⟩
theorem bring_sg (B st b i : Nat) (now : Int) (Z : Nat → Option BQ) (col : Nat → Nat) (w : World) (h : SG B w st b now Z col) (hB : B ≤ w.heap.size) (hi : i < 8) (x : BQ) (hx : Z i = some x) (hW : WFc (ctZ Z)) :
    Calls Tryz.prog 271 #[.pointer (some ⟨st, 0, none⟩), .pointer (some ⟨x.qb, 0, none⟩)] w fun e w' => e = .returned (.tuple #[]) ∧ SGn B st b now w w' Z col (bringC now (ctZ Z) i) ∧ WFc (bringC now (ctZ Z) i) := by
  have hcx := ctZ_some hx
  have hQ := hW i x.Q hi hcx
  have hqr := h.qr i x hi hx
  have hbr : bringC now (ctZ Z) i = (dueN now x.Q.ms).foldl (fun c n => backC c i n) (ctZ Z) := by unfold bringC; rw [hcx]
  refine bring_walk (fun B' ns W => ∃ Z' col', SG B W st b now Z' col' ∧ ns.foldl (fun c n => backC c i n) (ctZ Z') = bringC now (ctZ Z) i ∧ WFc (ctZ Z') ∧ ptZ Z' = ptZ Z ∧ Agr w col col' ∧ Fq B col w W ∧ (∃ S, Tch S w W ∧ ∀ k ∈ S, allK Z k) ∧ (∀ k, allK Z' k → allK Z k ∨ B' ≤ k) ∧ B' ≤ W.heap.size ∧ w.heap.size ≤ B' ∧ ns.Nodup ∧ ∃ Q', ctZ Z' i = some Q' ∧ Q'.c = x.Q.c ∧ ∀ n ∈ ns, ∃ m, Q'.ms.find? (isN n) = some m ∧ 0 < m.til)
    (fun w' => SGn B st b now w w' Z col (bringC now (ctZ Z) i) ∧ WFc (bringC now (ctZ Z) i)) st x.qb now (dvZ Z x.Q.c) w h.stb.now (deadOf_sg h hi hx hQ.c.d) ?_ ?_ ?_
  · refine (due_any x.Q.ms x.V.m x.qb now w (cell_qC hqr.blk 7 _ rfl) hqr.m (by have := hQ.ml; omega)).mono ?_
    rintro e w' ⟨v', l', rfl, hp, ha, hown, ht⟩
    have e1 := due_unique hQ.nums hp ha
    subst e1
    refine ⟨v', dueN now x.Q.ms, rfl, ?_, ?_, Z, col, h.tch ht, hbr.symm, hW, rfl, Agr.refl _ _, FqT.of_nil col ht hB, ⟨[], ht, by simp⟩, fun k hk => .inl hk, Nat.le_refl _, ht.size, dueN_nodup hQ.nums, x.Q, hcx, rfl, fun n hn => ?_⟩
    · unfold dueN
      rw [List.length_map, List.map_map]
      exact hown
    · unfold dueN
      rw [List.length_map]
      have h1 : (dueS now x.Q.ms).Perm (dueL now x.Q.ms) := List.mergeSort_perm _ _
      rw [h1.length_eq]
      have h2 := List.length_filter_le (fun m : Ms => decide (0 < m.til ∧ m.til ≤ now)) x.Q.ms
      have h3 := hQ.ml
      show (List.filter _ _).length ≤ _
      omega
    · obtain ⟨m, hm, rfl⟩ := List.mem_map.1 hn
      obtain ⟨h1, h2, _⟩ := dueS_mem hm
      exact ⟨m, find_num _ hQ.nums m h1, h2⟩
  · rintro B' n ns W ⟨Z', col', k1, k2, k3, k4, k5, k6, ⟨S0, k7, k7'⟩, k8, k9, k10, k11, Q', k12, k13, k14⟩
    obtain ⟨x', hx', hq'⟩ := ptZ_get k4 hx
    have hcx' := ctZ_some hx'
    rw [hcx'] at k12
    injection k12 with k12
    obtain ⟨m, hf, htm⟩ := k14 n List.mem_cons_self
    rw [← k12] at hf
    have hdv : dvZ Z x.Q.c = dvZ Z' x'.Q.c := by rw [dvZ_eq k4, k12, k13]
    rw [hdv, ← hq']
    have hQx := k3 i x'.Q hi hcx'
    refine (back_sg B st b i now Z' col' W k1 (by omega) hi x' hx' n m hf hQx.c.d k3.bd).mono ?_
    rintro e w' ⟨rfl, hn⟩
    obtain ⟨hwf, Q2, hQ2, hc2, hfl⟩ := back_wf k3 hi hcx' hf htm
    obtain ⟨Z2, col2, j1, j2, j3, j4, j5, ⟨S2, j6, j7⟩, j8⟩ := hn
    obtain ⟨hnn, hnd⟩ := List.nodup_cons.1 k11
    have hsz := k7.size
    have hsz2 := j6.size
    have hcomb : ∃ S, Tch S w w' ∧ ∀ k ∈ S, allK Z k := by
      refine ⟨S0 ++ S2.filter (fun k => decide (k < w.heap.size)), ?_, fun k hk => ?_⟩
      · exact (k7.sub (S' := S0 ++ S2.filter (fun k => decide (k < w.heap.size))) (fun y hy _ => List.mem_append.2 (.inl hy))).trans j6 (fun y hy hlt => List.mem_append.2 (.inr (List.mem_filter.2 ⟨hy, by simpa using hlt⟩)))
      · rcases List.mem_append.1 hk with hk | hk
        · exact k7' k hk
        · obtain ⟨h1, h2⟩ := List.mem_filter.1 hk
          rcases k8 k (j7 k h1) with h3 | h3
          · exact h3
          · simp at h2; omega
    refine ⟨rfl, ⟨Z2, col2, j1, ?_, by rw [j2]; exact hwf, j3.trans k4, k5.trans j4 hsz, k6.trans k5 j5, hcomb, fun k hk => ?_, by omega, k10, hnd, Q2, by rw [j2]; exact hQ2, by rw [hc2, k12, k13], fun n' hn' => ?_⟩, S2, j6, fun k hk => ?_⟩
    · rw [j2]
      rw [List.foldl_cons] at k2
      exact k2
    · rcases j8 k hk with h1 | h1
      · exact k8 k h1
      · exact .inr (by omega)
    · obtain ⟨m', hf', ht'⟩ := k14 n' (List.mem_cons_of_mem _ hn')
      rw [← k12] at hf'
      exact ⟨m', hfl n' (fun e => hnn (e ▸ hn')) m' hf' ht', ht'⟩
    · rcases k8 k (j7 k hk) with h1 | h1
      · exact .inl (h.allLt h1)
      · exact .inr h1
  · rintro B' W ⟨Z', col', k1, k2, k3, k4, k5, k6, k7, k8, k9, k10, k11, Q', k12, k13, k14⟩
    refine ⟨⟨Z', col', k1, k2, k4, k5, k6, k7, fun k hk => ?_⟩, by rw [← k2]; exact k3⟩
    rcases k8 k hk with h1 | h1
    · exact .inl h1
    · exact .inr (by omega)
theorem QW.forg {i : Nat} {Q : QM} (h : QW i Q) (now : Int) : QW i (forgQ now Q) :=
  { c := h.c, nx := h.nx, mq := h.mq, nums := h.nums, mok := h.mok, hd := h.hd, rn := h.rn, rr := h.rr, dn := List.Pairwise.sublist List.filter_sublist h.dn, dok := fun d hd => h.dok d (List.mem_filter.1 hd).1, al := Nat.le_trans (List.length_filter_le _ _) h.al, aok := fun a ha => h.aok a (List.mem_filter.1 ha).1 }
def fgtTo (now : Int) (j : Nat) (c : Nat → Option QM) : Nat → Option QM := fun i => if i < j then (c i).map (forgQ now) else c i
def timeC (now : Int) (c : Nat → Option QM) : Nat → Option QM := (List.range' 0 8).foldl (bringC now) (fgtTo now 8 c)
def rest8 (P : Nat → Option Nat) (j : Nat) : List Nat := (List.range' j (8 - j)).filterMap P
theorem rest_cons' (P : Nat → Option Nat) : ∀ (n j : Nat), j + n = 8 → ∀ q qs, (List.range' j n).filterMap P = q :: qs → ∃ j', j ≤ j' ∧ j' < 8 ∧ P j' = some q ∧ qs = rest8 P (j' + 1) ∧ ∀ t, j ≤ t → t < j' → P t = none
  | 0, j, _, q, qs, h => by simp at h
  | n + 1, j, hn, q, qs, h => by
    rw [List.range'_succ, List.filterMap_cons] at h
    cases hp : P j with
    | none =>
      rw [hp] at h
      obtain ⟨j', h1, h2, h3, h4, h5⟩ := rest_cons' P n (j + 1) (by omega) q qs h
      refine ⟨j', by omega, h2, h3, h4, fun t ht1 ht2 => ?_⟩
      by_cases e : t = j
      · rw [e]; exact hp
      · exact h5 t (by omega) ht2
    | some v =>
      rw [hp] at h
      injection h with h1 h2
      subst h1
      refine ⟨j, Nat.le_refl _, by omega, hp, ?_, fun t ht1 ht2 => by omega⟩
      rw [← h2]
      unfold rest8
      have e : 8 - (j + 1) = n := by omega
      rw [e]
theorem rest_cons {P : Nat → Option Nat} {j : Nat} (hj : j ≤ 8) {q : Nat} {qs : List Nat} (h : q :: qs = rest8 P j) : ∃ j', j ≤ j' ∧ j' < 8 ∧ P j' = some q ∧ qs = rest8 P (j' + 1) ∧ ∀ t, j ≤ t → t < j' → P t = none :=
  rest_cons' P (8 - j) j (by omega) q qs h.symm
theorem rest_nil {P : Nat → Option Nat} {j : Nat} (hj : j ≤ 8) (h : [] = rest8 P j) : ∀ t, j ≤ t → t < 8 → P t = none := fun t h1 h2 => by
  have h3 := List.filterMap_eq_nil_iff.1 h.symm t (List.mem_range'.2 ⟨t - j, by omega, by omega⟩)
  exact h3
theorem qsL_rest (P : Nat → Option Nat) : qsL P 8 = rest8 P 0 := by
  unfold qsL rest8
  rw [List.range_eq_range']
theorem fold_skip (now : Int) (c : Nat → Option QM) : ∀ (n j : Nat), j + n ≤ 8 → (∀ t, j ≤ t → t < j + n → c t = none) → (List.range' j (8 - j)).foldl (bringC now) c = (List.range' (j + n) (8 - (j + n))).foldl (bringC now) c
  | 0, j, _, _ => rfl
  | n + 1, j, hj, h => by
    have e : 8 - j = (8 - (j + 1)) + 1 := by omega
    rw [e, List.range'_succ, List.foldl_cons]
    have e2 : bringC now c j = c := by
      unfold bringC
      rw [h j (Nat.le_refl _) (by omega)]
    rw [e2, fold_skip now c n (j + 1) (by omega) (fun t h1 h2 => h t (by omega) (by omega))]
    have e3 : j + 1 + n = j + (n + 1) := by omega
    rw [e3]
theorem pt_ct {Z : Nat → Option BQ} {t : Nat} (h : ptZ Z t = none) : ctZ Z t = none := by
  unfold ptZ at h
  unfold ctZ
  cases hz : Z t with
  | none => rfl
  | some x => rw [hz] at h; simp at h
theorem pt_get {Z : Nat → Option BQ} {t q : Nat} (h : ptZ Z t = some q) : ∃ x, Z t = some x ∧ x.qb = q := Option.map_eq_some_iff.1 h
theorem pt_none {Z Z' : Nat → Option BQ} (h : ptZ Z' = ptZ Z) {t : Nat} (ht : ptZ Z t = none) : ctZ Z' t = none := pt_ct (by rw [h]; exact ht)
theorem set_sg (B st b : Nat) (now0 now : Int) (Z : Nat → Option BQ) (col : Nat → Nat) (w : World) (h : SG B w st b now0 Z col) (hB : B ≤ w.heap.size) (hW : WFc (ctZ Z)) :
    Calls Tryz.prog 221 #[.pointer (some ⟨st, 0, none⟩), .int .i64 now] w fun e w' => e = .returned (.tuple #[]) ∧ ∃ Z' col', SG B w' st b now Z' col' ∧ ctZ Z' = timeC now (ctZ Z) ∧ WFc (ctZ Z') ∧ ptZ Z' = ptZ Z ∧ Agr w col col' ∧ Fq B col w w' := by
  have hWf : WFc (fgtTo now 8 (ctZ Z)) := fun i Q hi hQ => by
    unfold fgtTo at hQ
    rw [if_pos hi] at hQ
    obtain ⟨Q0, h1, h2⟩ := Option.map_eq_some_iff.1 hQ
    rw [← h2]
    exact (hW i Q0 hi h1).forg now
  refine setg_walk
    (fun B' qs W => ∃ j, j ≤ 8 ∧ qs = rest8 (ptZ Z) j ∧ ∃ Z' col', SG B W st b now Z' col' ∧ ctZ Z' = fgtTo now j (ctZ Z) ∧ ptZ Z' = ptZ Z ∧ Agr w col col' ∧ Fq B col w W ∧ (∀ k, allK Z' k → k < w.heap.size ∨ B' ≤ k) ∧ B' ≤ W.heap.size)
    (fun A B' qs W => ∃ j, j ≤ 8 ∧ qs = rest8 (ptZ Z) j ∧ ∃ Z' col', SG B W st b now Z' col' ∧ (List.range' j (8 - j)).foldl (bringC now) (ctZ Z') = timeC now (ctZ Z) ∧ WFc (ctZ Z') ∧ ptZ Z' = ptZ Z ∧ Agr w col col' ∧ Fq B col w W ∧ (∀ k, allK Z' k → k < A ∨ B' ≤ k) ∧ B' ≤ W.heap.size)
    (fun w' => ∃ Z' col', SG B w' st b now Z' col' ∧ ctZ Z' = timeC now (ctZ Z) ∧ WFc (ctZ Z') ∧ ptZ Z' = ptZ Z ∧ Agr w col col' ∧ Fq B col w w') st b now0 now (ptZ Z) w h.stb ?_ ?_ ?_ ?_ ?_
  · intro W ht
    refine ⟨0, by omega, qsL_rest _, Z, col, (h.time now).tch ht, ?_, rfl, Agr.refl _ _, (h.timeF hB now col).trans (Agr.refl _ _) (FqT.of_nil col ht (by rw [World.size_setCell]; exact hB)), fun k hk => .inl (h.allLt hk), Nat.le_refl _⟩
    funext t
    unfold fgtTo
    rw [if_neg (by omega)]
  · rintro B' q qs W ⟨j, hj, hqs, Z', col', k1, k2, k3, k4, k5, k6, k7⟩
    obtain ⟨j', h1, h2, h3, h4, h5⟩ := rest_cons hj hqs
    have h3' : ptZ Z' j' = some q := by rw [k3]; exact h3
    obtain ⟨x', hx', rfl⟩ := pt_get h3'
    have hcx' := ctZ_some hx'
    have hcz : ctZ Z j' = some x'.Q := by
      rw [k2] at hcx'
      unfold fgtTo at hcx'
      rw [if_neg (by omega)] at hcx'
      exact hcx'
    have hQ := hW j' x'.Q h2 hcz
    have hsz := k5.size
    refine (forget_any x'.Q x'.V x'.qb now W (k1.qr j' x' h2 hx') (by have := hQ.dl; omega) (by have := hQ.al; omega)).mono ?_
    rintro e w' ⟨rfl, hql⟩
    obtain ⟨Z2, col2, j1, j2, j3, j4, j5, ⟨S2, j6, j7⟩, j8⟩ := k1.updn (by omega) h2 hx' hql
    have hsz2 := j6.size
    refine ⟨rfl, ⟨j' + 1, by omega, h4, Z2, col2, j1, ?_, j3.trans k3, k4.trans j4 hsz, k5.trans k4 j5, fun k hk => ?_, by omega⟩, S2, j6, fun k hk => k6 k (j7 k hk)⟩
    · rw [j2, k2]
      funext t
      by_cases e1 : t = j'
      · subst e1
        rw [setC_same]
        unfold fgtTo
        rw [if_pos (by omega), hcz]
        rfl
      · rw [setC_ne _ _ e1]
        unfold fgtTo
        by_cases e2 : t < j
        · rw [if_pos e2, if_pos (by omega)]
        · rw [if_neg e2]
          by_cases e3 : t < j'
          · rw [if_pos (by omega), pt_ct (h5 t (by omega) e3)]
            rfl
          · rw [if_neg (by omega)]
    · rcases j8 k hk with h6 | h6
      · exact k6 k h6
      · exact .inr (by omega)
  · rintro B' W ⟨j, hj, hqs, Z', col', k1, k2, k3, k4, k5, k6, k7⟩
    have hall : ctZ Z' = fgtTo now 8 (ctZ Z) := by
      rw [k2]
      funext t
      unfold fgtTo
      by_cases e2 : t < j
      · rw [if_pos e2, if_pos (by omega)]
      · rw [if_neg e2]
        by_cases e3 : t < 8
        · rw [if_pos e3, pt_ct (rest_nil hj hqs t (by omega) e3)]
          rfl
        · rw [if_neg e3]
    refine ⟨by rw [← k3]; exact k1.stb, fun W' ht => ⟨0, by omega, qsL_rest _, Z', col', k1.tch ht, ?_, by rw [hall]; exact hWf, k3, k4, k5.trans k4 (FqT.of_nil col' ht (by have := k5.size; omega)), fun k hk => .inl (k1.allLt hk), Nat.le_refl _⟩⟩
    rw [hall]
    rfl
  · rintro A B' q qs W ⟨j, hj, hqs, Z', col', k1, k2, kw, k3, k4, k5, k6, k7⟩
    obtain ⟨j', h1, h2, h3, h4, h5⟩ := rest_cons hj hqs
    have h3' : ptZ Z' j' = some q := by rw [k3]; exact h3
    obtain ⟨x', hx', rfl⟩ := pt_get h3'
    have hsz := k5.size
    refine (bring_sg B st b j' now Z' col' W k1 (by omega) h2 x' hx' kw).mono ?_
    rintro e w' ⟨rfl, ⟨Z2, col2, j1, j2, j3, j4, j5, ⟨S2, j6, j7⟩, j8⟩, hwf⟩
    have hsz2 := j6.size
    refine ⟨rfl, ⟨j' + 1, by omega, h4, Z2, col2, j1, ?_, by rw [j2]; exact hwf, j3.trans k3, k4.trans j4 hsz, k5.trans k4 j5, fun k hk => ?_, by omega⟩, S2, j6, fun k hk => k6 k (j7 k hk)⟩
    · rw [j2, ← k2]
      have e0 : j + (j' - j) = j' := by omega
      have e1 := fold_skip now (ctZ Z') (j' - j) j (by omega) (fun t ht1 ht2 => pt_none k3 (h5 t ht1 (by omega)))
      rw [e1, e0]
      have e : 8 - j' = (8 - (j' + 1)) + 1 := by omega
      rw [e, List.range'_succ, List.foldl_cons]
    · rcases j8 k hk with h6 | h6
      · exact k6 k h6
      · exact .inr (by omega)
  · rintro A B' W ⟨j, hj, hqs, Z', col', k1, k2, kw, k3, k4, k5, k6, k7⟩
    refine ⟨Z', col', k1, ?_, kw, k3, k4, k5⟩
    have e1 := fold_skip now (ctZ Z') (8 - j) j (by omega) (fun t ht1 ht2 => pt_none k3 (rest_nil hj hqs t ht1 (by omega)))
    rw [e1] at k2
    have e0 : j + (8 - j) = 8 := by omega
    rw [e0] at k2
    exact k2
end Go.Proofs.YtbdobaapadlcjaaGreatDoor
