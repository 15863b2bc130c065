/-
  DISKS: append, and what of the old row is left; lists that come out are written over.
-/
import Derived.Test.YtbdobaapadlcjaaDoorDkM
namespace Go.Proofs.YtbdobaapadlcjaaDoor.Dk
open Go.RowKit
set_option linter.unusedVariables false
set_option linter.unusedSimpArgs false

/-- APPEND TO A ROW OF ONE's OWN: there is room behind it, or a new row is made and nothing old is touched. -/
def Apnd (w w' : World) (base : Nat) (e : TypeId) (size : Nat) (v : Value) (n m : Nat) (xs : List Value) (v' : Value) : Prop :=
  w'.ownsRow base e size v' (n + m) xs ∧ ((∃ g cap, v = .slice (some ⟨g, 0, none⟩) n cap ∧ v' = .slice (some ⟨g, 0, none⟩) (n + m) cap ∧ w.grownBy w' (some g)) ∨ (v'.ownBlock = some w.heap.size ∧ w.grownBy w' none))
theorem run_app2 {P : Program} (w : World) (base : Nat) (t ty e : TypeId) (i : TypeInfo) (z : Value) (size bytes : Nat) (ht : P.underlying t = some (.slice e)) (hi : P.info? e = some i) (hz : i.zero = some z)
    (hsize : i.size = size) (hby : i.bytes = bytes) (hzs : z.cells.size = size) (hsz : 0 < size)
    (v : Value) (n : Nat) (xs : List Value) (hown : w.ownsRow base e size v n xs)
    (a : Addr) (m c : Nat) (news : List Value) (hl : news.length = m * size) (hnews : ∀ j u, news[j]? = some u → w.cell? (a.add j) = some u) (h1 : ∀ u ∈ news, u.oneCell' = true)
    (h63 : n + m ≤ maxLen) (hbytes : (n + m) * bytes ≤ 140737488355328) (hbase : base ≤ w.heap.size) (hm : 0 < m) :
    ∃ v' w', (Builtin.append_ #[t, t] ty #[v, .slice (some a) m c]).run P w = .ok v' w' ∧ Apnd w w' base e size v n m (xs ++ news) v' := by
  obtain ⟨v', w', hr, h2, h3, _⟩ := run_append_own (P := P) w base t ty e i z size bytes ht hi hz hsize hby hzs hsz v n xs hown a m c news hl hnews h1 h63 hbytes hbase
  refine ⟨v', w', hr, h2, ?_⟩
  subst hsize
  subst hby
  have hsmall : n + m ≤ 9223372036854775807 := by simp only [maxLen] at h63; omega
  rcases hown.2 with ⟨rfl, rfl⟩ | ⟨g, cap, cur, rfl, hbg, hg, hnc, hcm, hcs, htake⟩
  · have hr2 := run_append_nil (P := P) w t ty e i z ht hi hz a m c news hl hnews hm (by omega) (by have hb := hbytes; simp only [Nat.zero_add] at hb; omega)
    rw [hr2] at hr
    injection hr with e1 e2
    subst e1 e2
    exact .inr ⟨rfl, ⟨rfl, rfl, rfl, by simp, fun k hk _ => Below.heap_alloc w.drew _ k hk⟩⟩
  · by_cases hroom : n + m ≤ cap
    · have hfit : n * i.size + news.length ≤ cur.size := by rw [hl, hcs, ← Nat.add_mul]; exact Nat.mul_le_mul_right _ hroom
      have hr2 := run_append_room (P := P) w t ty e i ht hi g n cap cur hg a m c news hl hnews h1 hroom hfit
      rw [hr2] at hr
      injection hr with e1 e2
      subst e1
      exact .inl ⟨g, cap, rfl, rfl, h3⟩
    · have holds : ∀ j u, xs[j]? = some u → w.cell? ((⟨g, 0, none⟩ : Addr).add j) = some u := hown.cells (g := g) rfl
      have hr2 := run_append_grow (P := P) w t ty e i z ht hi hz ⟨g, 0, none⟩ n cap xs hown.1 holds a m c news hl hnews (by omega) (by omega) (growslice_fits (by omega) hbytes)
      rw [hr2] at hr
      injection hr with e1 e2
      subst e1 e2
      exact .inr ⟨rfl, ⟨rfl, rfl, rfl, by simp, fun k hk _ => Below.heap_alloc w.drew _ k hk⟩⟩
theorem info28 : (Tryd.prog.info? 28).map (fun i => (i.zero, i.size, i.bytes)) = some (some (Value.slice none 0 0), 1, 24) := by kernel_rfl
theorem info56 : (Tryd.prog.info? 56).map (fun i => (i.zero, i.size, i.bytes)) = some (some (Value.agg #[.pointer none, .pointer none]), 2, 16) := by kernel_rfl
theorem wpList_strs2 (w : World) {ops : Array Oper} {rest : List Oper} {o : Oper} {a : Act} {Q : Exit → Act → World → Prop} (hgd : o.guard = none) (s x : Operand)
    (ho : o.op = .call { callee := .builtin .append, args := #[s, x], argTypes := #[28, 28] })
    (v : Value) (l : List ByteArray) (hs : a.eval s = v) (hown : OwnS w v l) (g : Nat) (news : List ByteArray) (m : Nat) (hx : a.eval x = .slice (some ⟨g, 0, none⟩) m m) (hm : news.length = m) (hm0 : 0 < m) (hg : w.heap[g]? = some (.cells (news.map Value.string).toArray 9 (0, 0))) (hn : l.length + m ≤ 1073741824)
    (h : ∀ v' w', Apnd w w' 0 9 1 v l.length m ((l ++ news).map Value.string) v' → wpList Tryd.prog ops Q rest (a.put o.dst v') w') : wpList Tryd.prog ops Q (o :: rest) a w := by
  obtain ⟨i0, hi, hz0, hz1, hz2⟩ := info_parts info9
  refine wpList_plain hgd fun _ hK => ?_
  obtain ⟨v', w', hr, h2⟩ := run_app2 (P := Tryd.prog) w 0 28 o.type 9 i0 _ 1 16 Tryd.underlying28 hi hz0 hz1 hz2 rfl (by decide) v l.length (l.map Value.string) hown ⟨g, 0, none⟩ m m (news.map Value.string) (by simp [hm]) (fun j u hj => by
    have e : (⟨g, 0, none⟩ : Addr).add j = ⟨g, j, none⟩ := by unfold Addr.add; split <;> simp_all
    rw [e, cell_of_row w g j _ 9 (0, 0) hg, ← hj]
    simp) (fun u hu => by
    obtain ⟨b, _, rfl⟩ := List.mem_map.1 hu
    rfl) (by unfold maxLen; omega) (by omega) (Nat.zero_le _) hm0
  unfold Oper.wp execOp
  simp only [ho, resolve, invoke, builtin, Sem.run_bind, Sem.run_pure, Result.andThen_ok, List.map_toArray, List.map_cons, List.map_nil, hs, hx, hr]
  rw [← List.map_append] at h2
  exact hK _ _ (h v' w' h2)
/-- A row of one-cell values gets some more, as one step of a region that draws its order. -/
theorem step_vals {ops : Array Oper} {o : Oper} {a : Act} {w : World} {K : Act → World → Prop} {Q : Exit → Act → World → Prop} {E : Prop} (hgd : o.guard = none) (s x : Operand) (t te : TypeId)
    (ho : o.op = .call { callee := .builtin .append, args := #[s, x], argTypes := #[t, t] }) (ht : Tryd.prog.underlying t = some (.slice te)) (z : Value) (size bytes : Nat)
    (hinfo : (Tryd.prog.info? te).map (fun i => (i.zero, i.size, i.bytes)) = some (some z, size, bytes)) (hzs : z.cells.size = size) (hsz : 0 < size) (hby : bytes ≤ 100)
    (v : Value) (n : Nat) (xs : List Value) (hs : a.eval s = v) (hown : w.ownsRow 0 te size v n xs) (g : Nat) (news : List Value) (m : Nat) (hx : a.eval x = .slice (some ⟨g, 0, none⟩) m m) (hm : news.length = m * size) (hm0 : 0 < m) (hg : w.heap[g]? = some (.cells news.toArray te (0, 0))) (hone : ∀ u ∈ news, u.oneCell' = true) (hn : n + m ≤ 1073741824)
    (h : ∀ v' w', w'.ownsRow 0 te size v' (n + m) (xs ++ news) → w.grownBy w' v.ownBlock → (v'.ownBlock = v.ownBlock ∨ v'.ownBlock = some w.heap.size) → K (a.put o.dst v') w') :
    if Region.wanted o (yielded ops a.tmps) = true then Oper.wp Tryd.prog o a w K Q else E := by
  have hw : Region.wanted o (yielded ops a.tmps) = true := by simp [Region.wanted, hgd]
  rw [if_pos hw]
  obtain ⟨i0, hi, hz0, hz1, hz2⟩ := info_parts hinfo
  obtain ⟨v', w', hr, h2, h3, h4⟩ := run_app (P := Tryd.prog) w 0 t o.type te i0 _ size bytes ht hi hz0 hz1 hz2 hzs hsz v n xs hown ⟨g, 0, none⟩ m m news hm (fun j u hj => by
    have e : (⟨g, 0, none⟩ : Addr).add j = ⟨g, j, none⟩ := by unfold Addr.add; split <;> simp_all
    rw [e, cell_of_row w g j _ te (0, 0) hg, ← hj]
    simp) hone (by unfold maxLen; omega) (by
      have h1 : (n + m) * bytes ≤ 1073741824 * 100 := Nat.mul_le_mul hn hby
      omega) (Nat.zero_le _) hm0
  unfold Oper.wp execOp
  simp only [ho, resolve, invoke, builtin, Sem.run_bind, Sem.run_pure, Result.andThen_ok, List.map_toArray, List.map_cons, List.map_nil, hs, hx, hr]
  exact h v' w' h2 h3 h4

theorem wpList_vals (w : World) {ops : Array Oper} {rest : List Oper} {o : Oper} {a : Act} {Q : Exit → Act → World → Prop} (hgd : o.guard = none) (s x : Operand) (t te : TypeId)
    (ho : o.op = .call { callee := .builtin .append, args := #[s, x], argTypes := #[t, t] }) (ht : Tryd.prog.underlying t = some (.slice te)) (z : Value) (size bytes : Nat)
    (hinfo : (Tryd.prog.info? te).map (fun i => (i.zero, i.size, i.bytes)) = some (some z, size, bytes)) (hzs : z.cells.size = size) (hsz : 0 < size) (hby : bytes ≤ 100)
    (v : Value) (n : Nat) (xs : List Value) (hs : a.eval s = v) (hown : w.ownsRow 0 te size v n xs) (g : Nat) (news : List Value) (m : Nat) (hx : a.eval x = .slice (some ⟨g, 0, none⟩) m m) (hm : news.length = m * size) (hm0 : 0 < m) (hg : w.heap[g]? = some (.cells news.toArray te (0, 0))) (hone : ∀ u ∈ news, u.oneCell' = true) (hn : n + m ≤ 1073741824)
    (h : ∀ v' w', w'.ownsRow 0 te size v' (n + m) (xs ++ news) → w.grownBy w' v.ownBlock → (v'.ownBlock = v.ownBlock ∨ v'.ownBlock = some w.heap.size) → wpList Tryd.prog ops Q rest (a.put o.dst v') w') : wpList Tryd.prog ops Q (o :: rest) a w := by
  obtain ⟨i0, hi, hz0, hz1, hz2⟩ := info_parts hinfo
  refine wpList_app w hgd s x t ho 0 te i0 _ size bytes ht hi hz0 hz1 hz2 hzs hsz v n xs hs hown ⟨g, 0, none⟩ m m news hx hm ?_ hone (by unfold maxLen; omega) ?_ (Nat.zero_le _) hm0 h
  · intro j u hj
    have e : (⟨g, 0, none⟩ : Addr).add j = ⟨g, j, none⟩ := by unfold Addr.add; split <;> simp_all
    rw [e, cell_of_row w g j _ te (0, 0) hg, ← hj]
    simp
  · have h1 : (n + m) * bytes ≤ 1073741824 * 100 := Nat.mul_le_mul hn hby
    omega

/-- So many cells of a block hold a mark. -/
def Mk (w : World) (x : Nm) : Prop := ∀ j, j < x.n → ∃ g, x.a = some ⟨g, 0, none⟩ ∧ w.cell? ⟨g, j, none⟩ = some (.string x.m)
theorem Mk.of {w : World} {a : Option Addr} {n c : Nat} {m : ByteArray} (h : OwnS w (.slice a n c) (List.replicate n m)) : Mk w ⟨a, n, c, m⟩ := by
  intro j hj
  obtain ⟨a2, c2, e, hc⟩ := h.at
  injection e with e1 _ _
  subst e1
  obtain ⟨g, h1, h2, _⟩ := hc j (by simpa using hj)
  exact ⟨g, h1, by simpa using h2⟩
/-- Appending marks behind a row of marks leaves all that holds marks in that row or elsewhere. -/
theorem Mk.apnd {w w1 w' : World} {v v' : Value} {n k : Nat} {m : ByteArray} {x : Nm} (h1 : Tch [] w w1) (ha : Apnd w1 w' 0 9 1 v n k ((List.replicate n m ++ List.replicate k m).map Value.string) v') (hx : Mk w x) (hm : x.m = m) (hxn : ∀ g cap, v = .slice (some ⟨g, 0, none⟩) n cap → x.a = some ⟨g, 0, none⟩ → x.n ≤ n + k) : Mk w' x := by
  intro j hj
  obtain ⟨g, hxa, hc⟩ := hx j hj
  have hlt := World.block_lt_of_cell? _ _ hc
  have hc1 := (h1.cell hlt (by simp)).trans hc
  have hlt1 := World.block_lt_of_cell? _ _ hc1
  refine ⟨g, hxa, ?_⟩
  obtain ⟨ho, ⟨g2, cap, rfl, rfl, hg⟩ | ⟨_, hg⟩⟩ := ha
  · by_cases e : g = g2
    · subst e
      have := hxn g cap rfl hxa
      rw [World.ownsRow.cellAt ho j (by omega)]
      subst hm
      rw [List.replicate_append_replicate, List.getElem?_map, List.getElem?_replicate, if_pos (by omega)]
      rfl
    · exact (World.cell?_of_block (hg.block g hlt1 (by simpa using e))).trans hc1
  · exact (World.cell?_of_block (hg.block g hlt1 (by simp))).trans hc1
/-- .. and the row itself. -/
theorem OwnS.apnd {w w1 w' : World} {v v' : Value} {n k : Nat} {m : ByteArray} (h1 : Tch [] w w1) (h : OwnS w v (List.replicate n m)) (ha : Apnd w1 w' 0 9 1 v n k ((List.replicate n m ++ List.replicate k m).map Value.string) v') : OwnS w' v (List.replicate n m) ∧ OwnS w' v' (List.replicate (n + k) m) ∧ Tch v.ownBlock.toList w w' ∧ (∀ b, v'.ownBlock = some b → v.ownBlock = some b ∨ w.heap.size ≤ b) := by
  obtain ⟨ho, hcase⟩ := ha
  have hv' : OwnS w' v' (List.replicate (n + k) m) := by
    unfold OwnS
    rw [List.length_replicate]
    rw [List.replicate_append_replicate] at ho
    exact ho
  rcases hcase with ⟨g, cap, rfl, rfl, hg⟩ | ⟨hb, hg⟩
  · refine ⟨?_, hv', (h1.sub (fun x hx => by cases hx)).grown hg (fun b hb _ => by simp [Value.ownBlock] at hb ⊢; exact hb.symm), fun b hb => .inl hb⟩
    unfold OwnS
    rw [List.length_replicate]
    rcases ho.2 with ⟨h0, _⟩ | ⟨g2, cap2, cur, e, hb, hgg, hnc, hcm, hcs, htk⟩
    · cases h0
    · simp only [Value.slice.injEq, Option.some.injEq, Addr.mk.injEq, and_true, true_and] at e
      obtain ⟨rfl, rfl⟩ := e
      refine ⟨by simp, .inr ⟨g, cap, cur, rfl, hb, hgg, by omega, hcm, hcs, ?_⟩⟩
      have h3 := congrArg (List.take (n * 1)) htk
      rw [List.take_take, show min (n * 1) ((n + k) * 1) = n * 1 by omega] at h3
      rw [h3, List.map_append, List.take_append_of_le_length (by simp)]
      simp
  · have hn : Tch [] w w' := h1.grown hg (fun b hb => by cases hb)
    refine ⟨owns_tch h hn (fun _ _ => by simp), hv', hn.sub (fun x hx => by cases hx), fun b hbb => .inr ?_⟩
    rw [hb] at hbb
    injection hbb with hbb
    rw [← hbb]
    exact h1.size
/-- What a call leaves that touches nothing but a list that came out. -/
theorem Shelf.touchY {w w' : World} {s : Nat} {lv nv mv : Value} {c : Nat → Tag} {ps : List Pr} {ns : List Nm} {ms : List ByteArray} (h : Shelf w s lv nv mv c ps ns ms) {S : List Nat} (ht : Tch S w w') (hS : ∀ b ∈ S, c b = .Y) : Shelf w' s lv nv mv (paint c w.heap.size .Y) ps ns ms := by
  have hS2 : ∀ b, c b ≠ .Y → b ∉ S := fun b hb hm => hb (hS b hm)
  obtain ⟨k1, k2, k3, k4, k5, k6, k7⟩ := h.rows ht .Y hS2
  exact {
    blk := k1 (by simp)
    cs := (paint_old h.lt).trans h.cs
    l := k2 (by simp)
    cl := fun b hb => (paint_old (owns_lt h.l b hb)).trans (h.cl b hb)
    n := k3 (by simp)
    cn := fun b hb => (paint_old (owns_lt h.n b hb)).trans (h.cn b hb)
    m := k4 (by simp)
    cm := fun b hb => (paint_old (owns_lt h.m b hb)).trans (h.cm b hb)
    d := fun j Q hj => ⟨k5 (by simp) j Q hj, fun b hm => (paint_old ((h.d j Q hj).1.lt b hm)).trans ((h.d j Q hj).2 b hm)⟩
    r := fun j Q hj => ⟨k6 (by simp) j Q hj, fun b hm => (paint_old ((h.r j Q hj).1.lt b hm)).trans ((h.r j Q hj).2 b hm)⟩
    x := fun y hy j hj => by
      obtain ⟨g, ha, hc, hx, hlt⟩ := k7 (by simp) y hy j hj
      exact ⟨g, ha, hc, (paint_old hlt).trans hx⟩ }
/-- A list that came out becomes one of those that came out. -/
def recol (c : Nat → Tag) : Nat → Tag := fun b => match c b with | .Y => .X | t => t
theorem recol_of {c : Nat → Tag} {b : Nat} {t : Tag} (h : c b = t) (ht : t ≠ .Y) : recol c b = t := by
  unfold recol
  rw [h]
  cases t <;> first | rfl | exact absurd rfl ht
theorem recol_Y {c : Nat → Tag} {b : Nat} (h : c b = .Y) : recol c b = .X := by unfold recol; rw [h]
theorem Shelf.recol {w : World} {s : Nat} {lv nv mv : Value} {c : Nat → Tag} {ps : List Pr} {ns : List Nm} {ms : List ByteArray} (h : Shelf w s lv nv mv c ps ns ms) : Shelf w s lv nv mv (recol c) ps ns ms where
  blk := h.blk
  cs := recol_of h.cs (by simp)
  l := h.l
  cl b hb := recol_of (h.cl b hb) (by simp)
  n := h.n
  cn b hb := recol_of (h.cn b hb) (by simp)
  m := h.m
  cm b hb := recol_of (h.cm b hb) (by simp)
  d i P hP := ⟨(h.d i P hP).1, fun b hb => recol_of ((h.d i P hP).2 b hb) (by simp)⟩
  r i P hP := ⟨(h.r i P hP).1, fun b hb => recol_of ((h.r i P hP).2 b hb) (by simp)⟩
  x y hy j hj := by
    obtain ⟨g, ha, hc, hx⟩ := h.x y hy j hj
    exact ⟨g, ha, hc, recol_of hx (by simp)⟩
end Go.Proofs.YtbdobaapadlcjaaDoor.Dk
