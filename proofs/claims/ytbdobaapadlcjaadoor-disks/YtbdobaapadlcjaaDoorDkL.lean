/-
  DISKS: the shelf in memory: whose block is whose.
-/
import Derived.Test.YtbdobaapadlcjaaDoorDkH
import Derived.Test.YtbdobaapadlcjaaDoorDkK
namespace Go.Proofs.YtbdobaapadlcjaaDoor.Dk
open Go.RowKit
set_option linter.unusedVariables false

/-- Whose a block is: the shelf's own, its lists', the names' that came out, the i-th disk's, the i-th reference's. -/
inductive Tag | O | S | L | N | M | X | Y | D (i : Nat) | R (i : Nat)
/-- A disk and the document's. -/
structure Pr where
  p : Nat
  v : Value
  D : DK
  q : Nat
  u : Value
  E : DK
/-- A list of names that came out, and its mark. -/
structure Nm where
  a : Option Addr
  n : Nat
  c : Nat
  m : ByteArray
def Nm.v (x : Nm) : Value := .slice x.a x.n x.c
def prow (ps : List Pr) : List Value := ps.flatMap fun P => [.pointer (some ⟨P.p, 0, none⟩), .pointer (some ⟨P.q, 0, none⟩)]
/-- How great a disk may be: so many files, so many bytes of each. -/
structure Good (D : DK) (n k : Nat) : Prop where
  left : -9223372036854775808 ≤ D.left ∧ D.left ≤ 9223372036854775807
  fs : D.fs.length ≤ n
  sz : ∀ f ∈ D.fs, f.safe ≤ f.data.size ∧ f.data.size ≤ k
theorem Good.mono {D : DK} {n k n' k' : Nat} (h : Good D n k) (hn : n ≤ n') (hk : k ≤ k') : Good D n' k' := ⟨h.left, Nat.le_trans h.fs hn, fun f hf => ⟨(h.sz f hf).1, Nat.le_trans (h.sz f hf).2 hk⟩⟩
theorem owns_tch {w w' : World} {e : TypeId} {size : Nat} {v : Value} {n : Nat} {xs : List Value} (h : w.ownsRow 0 e size v n xs) {S : List Nat} (ht : Tch S w w') (hS : ∀ b, v.ownBlock = some b → b ∉ S) : w'.ownsRow 0 e size v n xs := by
  refine ⟨h.1, ?_⟩
  rcases h.2 with h0 | ⟨g, cap, cur, rfl, hb, hg, h1, h2, h3, h4⟩
  · exact .inl h0
  · exact .inr ⟨g, cap, cur, rfl, hb, (ht.block g (Array.getElem?_eq_some_iff.1 hg).1 (hS g rfl)).trans hg, h1, h2, h3, h4⟩
theorem owns_lt {w : World} {e : TypeId} {size : Nat} {v : Value} {n : Nat} {xs : List Value} (h : w.ownsRow 0 e size v n xs) : ∀ b, v.ownBlock = some b → b < w.heap.size := fun b hb => (h.lt b hb).2
theorem Dsk.lt {w : World} {t te : TypeId} {p : Nat} {v : Value} {D : DK} (h : Dsk w t te p v D) : ∀ b ∈ bl p v, b < w.heap.size := fun b hb => by
  simp only [bl, List.mem_cons, Option.mem_toList] at hb
  rcases hb with rfl | hb
  · exact h.blk.lt
  · exact owns_lt h.own b hb

/-- THE SHELF. -/
structure Shelf (w : World) (s : Nat) (lv nv mv : Value) (c : Nat → Tag) (ps : List Pr) (ns : List Nm) (ms : List ByteArray) : Prop where
  blk : w.heap[s]? = some (.cells #[lv, nv, mv] 30 (0, 0))
  cs : c s = .S
  l : w.ownsRow 0 56 2 lv ps.length (prow ps)
  cl : ∀ b, lv.ownBlock = some b → c b = .L
  n : w.ownsRow 0 28 1 nv ns.length (ns.map Nm.v)
  cn : ∀ b, nv.ownBlock = some b → c b = .N
  m : OwnS w mv ms
  cm : ∀ b, mv.ownBlock = some b → c b = .M
  d : ∀ (i : Nat) P, ps[i]? = some P → Dsk w 76 81 P.p P.v P.D ∧ ∀ b ∈ bl P.p P.v, c b = .D i
  r : ∀ (i : Nat) P, ps[i]? = some P → Dsk w 79 83 P.q P.u P.E ∧ ∀ b ∈ bl P.q P.u, c b = .R i
  x : ∀ x ∈ ns, ∀ j, j < x.n → ∃ g, x.a = some ⟨g, 0, none⟩ ∧ w.cell? ⟨g, j, none⟩ = some (.string x.m) ∧ c g = .X
theorem Shelf.lt {w : World} {s : Nat} {lv nv mv : Value} {c : Nat → Tag} {ps : List Pr} {ns : List Nm} {ms : List ByteArray} (h : Shelf w s lv nv mv c ps ns ms) : s < w.heap.size := (Array.getElem?_eq_some_iff.1 h.blk).1

/-- New blocks are of a tag. -/
def paint (c : Nat → Tag) (n : Nat) (t : Tag) : Nat → Tag := fun b => if b < n then c b else t
theorem paint_old {c : Nat → Tag} {n b : Nat} {t : Tag} (h : b < n) : paint c n t b = c b := if_pos h
theorem paint_new {c : Nat → Tag} {n b : Nat} {t : Tag} (h : n ≤ b) : paint c n t b = t := if_neg (by omega)

/-- WHAT A CALL THAT TOUCHES NOTHING OF THE SHELF LEAVES. -/
theorem Shelf.keep {w w' : World} {s : Nat} {lv nv mv : Value} {c : Nat → Tag} {ps : List Pr} {ns : List Nm} {ms : List ByteArray} (h : Shelf w s lv nv mv c ps ns ms) (ht : Tch [] w w') (t : Tag) : Shelf w' s lv nv mv (paint c w.heap.size t) ps ns ms where
  blk := (ht.block s h.lt (by simp)).trans h.blk
  cs := (paint_old h.lt).trans h.cs
  l := owns_tch h.l ht (fun _ _ => by simp)
  cl b hb := (paint_old (owns_lt h.l b hb)).trans (h.cl b hb)
  n := owns_tch h.n ht (fun _ _ => by simp)
  cn b hb := (paint_old (owns_lt h.n b hb)).trans (h.cn b hb)
  m := owns_tch h.m ht (fun _ _ => by simp)
  cm b hb := (paint_old (owns_lt h.m b hb)).trans (h.cm b hb)
  d i P hP := ⟨(h.d i P hP).1.tch ht (fun _ _ => by simp), fun b hb => (paint_old ((h.d i P hP).1.lt b hb)).trans ((h.d i P hP).2 b hb)⟩
  r i P hP := ⟨(h.r i P hP).1.tch ht (fun _ _ => by simp), fun b hb => (paint_old ((h.r i P hP).1.lt b hb)).trans ((h.r i P hP).2 b hb)⟩
  x y hy j hj := by
    obtain ⟨g, ha, hc, hx⟩ := h.x y hy j hj
    have hlt := World.block_lt_of_cell? _ _ hc
    exact ⟨g, ha, (ht.cell hlt (by simp)).trans hc, (paint_old hlt).trans hx⟩
theorem set_get {ps : List Pr} {i j : Nat} {P Q R : Pr} (hi : ps[i]? = some P) (hj : (ps.set i Q)[j]? = some R) : (j = i ∧ R = Q) ∨ (j ≠ i ∧ ps[j]? = some R) := by
  by_cases e : j = i
  · subst e
    obtain ⟨hl, _⟩ := List.getElem?_eq_some_iff.1 hi
    rw [List.getElem?_set_self hl] at hj
    exact .inl ⟨rfl, (Option.some.inj hj).symm⟩
  · rw [List.getElem?_set_ne (fun h => e h.symm)] at hj
    exact .inr ⟨e, hj⟩
theorem prow_set (ps : List Pr) (i : Nat) (P Q : Pr) (hi : ps[i]? = some P) (hp : Q.p = P.p) (hq : Q.q = P.q) : prow (ps.set i Q) = prow ps := by
  induction ps generalizing i with
  | nil => rfl
  | cons A ps ih =>
    cases i with
    | zero =>
      simp only [List.getElem?_cons_zero, Option.some.injEq] at hi
      subst hi
      simp [prow, hp, hq]
    | succ i =>
      have := ih i (by simpa using hi)
      unfold prow at this ⊢
      rw [List.set_cons_succ, List.flatMap_cons, List.flatMap_cons, this]

/-- WHAT A CALL ON THE i-th DISK LEAVES. -/
theorem Shelf.opD {w w' : World} {s : Nat} {lv nv mv : Value} {c : Nat → Tag} {ps : List Pr} {ns : List Nm} {ms : List ByteArray} (h : Shelf w s lv nv mv c ps ns ms) (i : Nat) (P : Pr) (hi : ps[i]? = some P) (D' : DK) (hl : Left w w' 76 81 P.p P.v D') :
    ∃ v', Shelf w' s lv nv mv (paint c w.heap.size (.D i)) (ps.set i { P with v := v', D := D' }) ns ms ∧ Tch (bl P.p P.v) w w' := by
  obtain ⟨v', hd, ht, hb⟩ := hl
  have hS : ∀ b, c b ≠ .D i → b ∉ bl P.p P.v := fun b hb hm => hb ((h.d i P hi).2 b hm)
  refine ⟨v', ?_, ht⟩
  exact {
    blk := (ht.block s h.lt (hS s (by rw [h.cs]; simp))).trans h.blk
    cs := (paint_old h.lt).trans h.cs
    l := by
      rw [List.length_set, prow_set ps i P { P with v := v', D := D' } hi rfl rfl]
      exact owns_tch h.l ht (fun b hb => hS b (by rw [h.cl b hb]; simp))
    cl := fun b hb => (paint_old (owns_lt h.l b hb)).trans (h.cl b hb)
    n := owns_tch h.n ht (fun b hb => hS b (by rw [h.cn b hb]; simp))
    cn := fun b hb => (paint_old (owns_lt h.n b hb)).trans (h.cn b hb)
    m := owns_tch h.m ht (fun b hb => hS b (by rw [h.cm b hb]; simp))
    cm := fun b hb => (paint_old (owns_lt h.m b hb)).trans (h.cm b hb)
    d := fun j Q hj => by
      rcases set_get hi hj with ⟨rfl, rfl⟩ | ⟨hne, hj⟩
      · refine ⟨hd, fun b hm => ?_⟩
        simp only [bl, List.mem_cons, Option.mem_toList] at hm
        rcases hm with rfl | hm
        · exact (paint_old (h.d j P hi).1.blk.lt).trans ((h.d j P hi).2 _ (by simp [bl]))
        · by_cases hlt : b < w.heap.size
          · rw [paint_old hlt]
            rcases hb b hm with h1 | h1
            · exact (h.d j P hi).2 b (by simp [bl, h1])
            · omega
          · exact paint_new (by omega)
      · exact ⟨(h.d j Q hj).1.tch ht (fun b hm => hS b (by rw [(h.d j Q hj).2 b hm]; simpa using hne)), fun b hm => (paint_old ((h.d j Q hj).1.lt b hm)).trans ((h.d j Q hj).2 b hm)⟩
    r := fun j Q hj => by
      rcases set_get hi hj with ⟨rfl, rfl⟩ | ⟨hne, hj⟩
      · exact ⟨(h.r j P hi).1.tch ht (fun b hm => hS b (by rw [(h.r j P hi).2 b hm]; simp)), fun b hm => (paint_old ((h.r j P hi).1.lt b hm)).trans ((h.r j P hi).2 b hm)⟩
      · exact ⟨(h.r j Q hj).1.tch ht (fun b hm => hS b (by rw [(h.r j Q hj).2 b hm]; simp)), fun b hm => (paint_old ((h.r j Q hj).1.lt b hm)).trans ((h.r j Q hj).2 b hm)⟩
    x := fun y hy j hj => by
      obtain ⟨g, ha, hc, hx⟩ := h.x y hy j hj
      have hlt := World.block_lt_of_cell? _ _ hc
      exact ⟨g, ha, (ht.cell hlt (hS g (by rw [hx]; simp))).trans hc, (paint_old hlt).trans hx⟩ }
/-- WHAT A CALL ON THE i-th REFERENCE LEAVES. -/
theorem Shelf.opR {w w' : World} {s : Nat} {lv nv mv : Value} {c : Nat → Tag} {ps : List Pr} {ns : List Nm} {ms : List ByteArray} (h : Shelf w s lv nv mv c ps ns ms) (i : Nat) (P : Pr) (hi : ps[i]? = some P) (D' : DK) (hl : Left w w' 79 83 P.q P.u D') :
    ∃ v', Shelf w' s lv nv mv (paint c w.heap.size (.R i)) (ps.set i { P with u := v', E := D' }) ns ms ∧ Tch (bl P.q P.u) w w' := by
  obtain ⟨v', hd, ht, hb⟩ := hl
  have hS : ∀ b, c b ≠ .R i → b ∉ bl P.q P.u := fun b hb hm => hb ((h.r i P hi).2 b hm)
  refine ⟨v', ?_, ht⟩
  exact {
    blk := (ht.block s h.lt (hS s (by rw [h.cs]; simp))).trans h.blk
    cs := (paint_old h.lt).trans h.cs
    l := by
      rw [List.length_set, prow_set ps i P { P with u := v', E := D' } hi rfl rfl]
      exact owns_tch h.l ht (fun b hb => hS b (by rw [h.cl b hb]; simp))
    cl := fun b hb => (paint_old (owns_lt h.l b hb)).trans (h.cl b hb)
    n := owns_tch h.n ht (fun b hb => hS b (by rw [h.cn b hb]; simp))
    cn := fun b hb => (paint_old (owns_lt h.n b hb)).trans (h.cn b hb)
    m := owns_tch h.m ht (fun b hb => hS b (by rw [h.cm b hb]; simp))
    cm := fun b hb => (paint_old (owns_lt h.m b hb)).trans (h.cm b hb)
    r := fun j Q hj => by
      rcases set_get hi hj with ⟨rfl, rfl⟩ | ⟨hne, hj⟩
      · refine ⟨hd, fun b hm => ?_⟩
        simp only [bl, List.mem_cons, Option.mem_toList] at hm
        rcases hm with rfl | hm
        · exact (paint_old (h.r j P hi).1.blk.lt).trans ((h.r j P hi).2 _ (by simp [bl]))
        · by_cases hlt : b < w.heap.size
          · rw [paint_old hlt]
            rcases hb b hm with h1 | h1
            · exact (h.r j P hi).2 b (by simp [bl, h1])
            · omega
          · exact paint_new (by omega)
      · exact ⟨(h.r j Q hj).1.tch ht (fun b hm => hS b (by rw [(h.r j Q hj).2 b hm]; simpa using hne)), fun b hm => (paint_old ((h.r j Q hj).1.lt b hm)).trans ((h.r j Q hj).2 b hm)⟩
    d := fun j Q hj => by
      rcases set_get hi hj with ⟨rfl, rfl⟩ | ⟨hne, hj⟩
      · exact ⟨(h.d j P hi).1.tch ht (fun b hm => hS b (by rw [(h.d j P hi).2 b hm]; simp)), fun b hm => (paint_old ((h.d j P hi).1.lt b hm)).trans ((h.d j P hi).2 b hm)⟩
      · exact ⟨(h.d j Q hj).1.tch ht (fun b hm => hS b (by rw [(h.d j Q hj).2 b hm]; simp)), fun b hm => (paint_old ((h.d j Q hj).1.lt b hm)).trans ((h.d j Q hj).2 b hm)⟩
    x := fun y hy j hj => by
      obtain ⟨g, ha, hc, hx⟩ := h.x y hy j hj
      have hlt := World.block_lt_of_cell? _ _ hc
      exact ⟨g, ha, (ht.cell hlt (hS g (by rw [hx]; simp))).trans hc, (paint_old hlt).trans hx⟩ }
theorem Shelf.sblk {w : World} {s : Nat} {lv nv mv : Value} {c : Nat → Tag} {ps : List Pr} {ns : List Nm} {ms : List ByteArray} (h : Shelf w s lv nv mv c ps ns ms) :
    w.cell? ⟨s, 0, none⟩ = some lv ∧ w.cell? ⟨s, 1, none⟩ = some nv ∧ w.cell? ⟨s, 2, none⟩ = some mv ∧ ∀ o, w.frozen? ⟨s, o, none⟩ = false :=
  ⟨(cell_of_row w s 0 _ 30 (0, 0) h.blk).trans rfl, (cell_of_row w s 1 _ 30 (0, 0) h.blk).trans rfl, (cell_of_row w s 2 _ 30 (0, 0) h.blk).trans rfl, fun o => frozen_of_row w s o _ 30 h.blk⟩
/-- WHAT A CALL THAT TOUCHES ONE OF THE SHELF's ROWS ALONE LEAVES OF THE OTHERS. -/
theorem Shelf.rows {w w' : World} {s : Nat} {lv nv mv : Value} {c : Nat → Tag} {ps : List Pr} {ns : List Nm} {ms : List ByteArray} (h : Shelf w s lv nv mv c ps ns ms) {S : List Nat} (ht : Tch S w w') (t : Tag) :
    (∀ b, c b ≠ t → b ∉ S) → (t ≠ .S → w'.heap[s]? = some (.cells #[lv, nv, mv] 30 (0, 0))) ∧ (t ≠ .L → w'.ownsRow 0 56 2 lv ps.length (prow ps)) ∧ (t ≠ .N → w'.ownsRow 0 28 1 nv ns.length (ns.map Nm.v)) ∧ (t ≠ .M → OwnS w' mv ms) ∧
      ((∀ i, t ≠ .D i) → ∀ (i : Nat) P, ps[i]? = some P → Dsk w' 76 81 P.p P.v P.D) ∧ ((∀ i, t ≠ .R i) → ∀ (i : Nat) P, ps[i]? = some P → Dsk w' 79 83 P.q P.u P.E) ∧
      (t ≠ .X → ∀ x ∈ ns, ∀ j, j < x.n → ∃ g, x.a = some ⟨g, 0, none⟩ ∧ w'.cell? ⟨g, j, none⟩ = some (.string x.m) ∧ c g = .X ∧ g < w.heap.size) := by
  intro hS
  refine ⟨fun hne => (ht.block s h.lt (hS s (by rw [h.cs]; exact fun e => hne e.symm))).trans h.blk, fun hne => owns_tch h.l ht (fun b hb => hS b (by rw [h.cl b hb]; exact fun e => hne e.symm)), fun hne => owns_tch h.n ht (fun b hb => hS b (by rw [h.cn b hb]; exact fun e => hne e.symm)),
    fun hne => owns_tch h.m ht (fun b hb => hS b (by rw [h.cm b hb]; exact fun e => hne e.symm)), fun hne i P hP => (h.d i P hP).1.tch ht (fun b hb => hS b (by rw [(h.d i P hP).2 b hb]; exact fun e => hne i e.symm)),
    fun hne i P hP => (h.r i P hP).1.tch ht (fun b hb => hS b (by rw [(h.r i P hP).2 b hb]; exact fun e => hne i e.symm)), fun hne x hx j hj => ?_⟩
  obtain ⟨g, ha, hc, hx2⟩ := h.x x hx j hj
  have hlt := World.block_lt_of_cell? _ _ hc
  exact ⟨g, ha, (ht.cell hlt (hS g (by rw [hx2]; exact fun e => hne e.symm))).trans hc, hx2, hlt⟩
/-- A pair more on the shelf. -/
theorem Shelf.pushL {w w1 w3 : World} {s : Nat} {lv nv mv lv' : Value} {c : Nat → Tag} {ps : List Pr} {ns : List Nm} {ms : List ByteArray} (h : Shelf w s lv nv mv c ps ns ms) (P : Pr) (hd : Dsk w 76 81 P.p P.v P.D ∧ ∀ b ∈ bl P.p P.v, c b = .D ps.length) (hr : Dsk w 79 83 P.q P.u P.E ∧ ∀ b ∈ bl P.q P.u, c b = .R ps.length)
    (h1 : Tch [] w w1) (hg : w1.grownBy w3 lv.ownBlock) (ho : w3.ownsRow 0 56 2 lv' (ps ++ [P]).length (prow (ps ++ [P]))) (hb : lv'.ownBlock = lv.ownBlock ∨ lv'.ownBlock = some w1.heap.size) :
    w3.cell? ⟨s, 0, none⟩ = some lv ∧ w3.frozen? ⟨s, 0, none⟩ = false ∧ Shelf (w3.setCell ⟨s, 0, none⟩ lv') s lv' nv mv (paint c w.heap.size .L) (ps ++ [P]) ns ms ∧ Tch (s :: lv.ownBlock.toList) w (w3.setCell ⟨s, 0, none⟩ lv') := by
  have hsL : lv.ownBlock ≠ some s := fun e => by have := h.cl s e; rw [h.cs] at this; cases this
  have ht3 : Tch lv.ownBlock.toList w w3 := (h1.sub (fun x hx => by cases hx)).grown hg (fun b hb _ => by simp [hb])
  have hS : ∀ b, c b ≠ .L → b ∉ lv.ownBlock.toList := fun b hb hm => hb (h.cl b (by simpa using hm))
  obtain ⟨k1, _, k3, k4, k5, k6, k7⟩ := h.rows ht3 .L hS
  have hs3 := k1 (by simp)
  have hls' : lv'.ownBlock ≠ some s := by
    intro e
    rcases hb with hb | hb
    · exact hsL (hb.symm.trans e)
    · rw [e] at hb
      injection hb with hb
      have := h.lt
      have := h1.size
      omega
  have htS : Tch [s] w3 (w3.setCell ⟨s, 0, none⟩ lv') := (Tch.refl _ _).setCell (fun _ => by simp) _
  have hne : ∀ b, c b ≠ .S → b ∉ [s] := fun b hb hm => by simp at hm; subst hm; exact hb h.cs
  refine ⟨(cell_of_row w3 s 0 _ 30 (0, 0) hs3).trans rfl, frozen_of_row w3 s 0 _ 30 hs3, ?_, (ht3.sub (fun x hx _ => by simp at hx; simp [hx])).setCell (fun _ => by simp) _⟩
  exact {
    blk := heap_setCell_same w3 s 0 _ 30 lv' hs3
    cs := (paint_old h.lt).trans h.cs
    l := owns_tch ho htS (fun b hb hm => hls' (by simp at hm; rw [hb, hm]))
    cl := fun b hbb => by
      by_cases hlt : b < w.heap.size
      · rw [paint_old hlt]
        rcases hb with hb | hb
        · exact h.cl b (hb.symm.trans hbb)
        · rw [hbb] at hb
          injection hb with hb
          have := h1.size
          omega
      · exact paint_new (by omega)
    n := owns_tch (k3 (by simp)) htS (fun b hb => hne b (by rw [h.cn b hb]; simp))
    cn := fun b hb => (paint_old (owns_lt h.n b hb)).trans (h.cn b hb)
    m := owns_tch (k4 (by simp)) htS (fun b hb => hne b (by rw [h.cm b hb]; simp))
    cm := fun b hb => (paint_old (owns_lt h.m b hb)).trans (h.cm b hb)
    d := fun j Q hj => by
      by_cases hlt : j < ps.length
      · rw [List.getElem?_append_left hlt] at hj
        exact ⟨(k5 (by simp) j Q hj).tch htS (fun b hm => hne b (by rw [(h.d j Q hj).2 b hm]; simp)), fun b hm => (paint_old ((h.d j Q hj).1.lt b hm)).trans ((h.d j Q hj).2 b hm)⟩
      · rw [List.getElem?_append_right (by omega)] at hj
        have hj0 : j = ps.length := by
          have := (List.getElem?_eq_some_iff.1 hj).1
          simp at this
          omega
        subst hj0
        simp at hj
        subst hj
        exact ⟨(hd.1.tch ht3 (fun b hm => hS b (by rw [hd.2 b hm]; simp))).tch htS (fun b hm => hne b (by rw [hd.2 b hm]; simp)), fun b hm => (paint_old (hd.1.lt b hm)).trans (hd.2 b hm)⟩
    r := fun j Q hj => by
      by_cases hlt : j < ps.length
      · rw [List.getElem?_append_left hlt] at hj
        exact ⟨(k6 (by simp) j Q hj).tch htS (fun b hm => hne b (by rw [(h.r j Q hj).2 b hm]; simp)), fun b hm => (paint_old ((h.r j Q hj).1.lt b hm)).trans ((h.r j Q hj).2 b hm)⟩
      · rw [List.getElem?_append_right (by omega)] at hj
        have hj0 : j = ps.length := by
          have := (List.getElem?_eq_some_iff.1 hj).1
          simp at this
          omega
        subst hj0
        simp at hj
        subst hj
        exact ⟨(hr.1.tch ht3 (fun b hm => hS b (by rw [hr.2 b hm]; simp))).tch htS (fun b hm => hne b (by rw [hr.2 b hm]; simp)), fun b hm => (paint_old (hr.1.lt b hm)).trans (hr.2 b hm)⟩
    x := fun y hy j hj => by
      obtain ⟨g, ha, hc, hx, hlt⟩ := k7 (by simp) y hy j hj
      exact ⟨g, ha, (htS.cell (World.block_lt_of_cell? _ _ hc) (hne g (by rw [hx]; simp))).trans hc, (paint_old hlt).trans hx⟩ }
/-- Lists of names more on the shelf. -/
theorem Shelf.pushN {w w1 w3 : World} {s : Nat} {lv nv mv nv' : Value} {c : Nat → Tag} {ps : List Pr} {ns : List Nm} {ms : List ByteArray} (h : Shelf w s lv nv mv c ps ns ms) (xs : List Nm)
    (hxs : ∀ x ∈ xs, ∀ j, j < x.n → ∃ g, x.a = some ⟨g, 0, none⟩ ∧ w.cell? ⟨g, j, none⟩ = some (.string x.m) ∧ c g = .X)
    (h1 : Tch [] w w1) (hg : w1.grownBy w3 nv.ownBlock) (ho : w3.ownsRow 0 28 1 nv' (ns ++ xs).length ((ns ++ xs).map Nm.v)) (hb : nv'.ownBlock = nv.ownBlock ∨ nv'.ownBlock = some w1.heap.size) :
    w3.cell? ⟨s, 1, none⟩ = some nv ∧ w3.frozen? ⟨s, 1, none⟩ = false ∧ Shelf (w3.setCell ⟨s, 1, none⟩ nv') s lv nv' mv (paint c w.heap.size .N) ps (ns ++ xs) ms ∧ Tch (s :: nv.ownBlock.toList) w (w3.setCell ⟨s, 1, none⟩ nv') := by
  have hsL : nv.ownBlock ≠ some s := fun e => by have := h.cn s e; rw [h.cs] at this; cases this
  have ht3 : Tch nv.ownBlock.toList w w3 := (h1.sub (fun x hx => by cases hx)).grown hg (fun b hb _ => by simp [hb])
  have hS : ∀ b, c b ≠ .N → b ∉ nv.ownBlock.toList := fun b hb hm => hb (h.cn b (by simpa using hm))
  obtain ⟨k1, k2, _, k4, k5, k6, k7⟩ := h.rows ht3 .N hS
  have hs3 := k1 (by simp)
  have hls' : nv'.ownBlock ≠ some s := by
    intro e
    rcases hb with hb | hb
    · exact hsL (hb.symm.trans e)
    · rw [e] at hb
      injection hb with hb
      have := h.lt
      have := h1.size
      omega
  have htS : Tch [s] w3 (w3.setCell ⟨s, 1, none⟩ nv') := (Tch.refl _ _).setCell (fun _ => by simp) _
  have hne : ∀ b, c b ≠ .S → b ∉ [s] := fun b hb hm => by simp at hm; subst hm; exact hb h.cs
  refine ⟨(cell_of_row w3 s 1 _ 30 (0, 0) hs3).trans rfl, frozen_of_row w3 s 1 _ 30 hs3, ?_, (ht3.sub (fun x hx _ => by simp at hx; simp [hx])).setCell (fun _ => by simp) _⟩
  exact {
    blk := heap_setCell_same w3 s 1 _ 30 nv' hs3
    cs := (paint_old h.lt).trans h.cs
    n := owns_tch ho htS (fun b hb hm => hls' (by simp at hm; rw [hb, hm]))
    cn := fun b hbb => by
      by_cases hlt : b < w.heap.size
      · rw [paint_old hlt]
        rcases hb with hb | hb
        · exact h.cn b (hb.symm.trans hbb)
        · rw [hbb] at hb
          injection hb with hb
          have := h1.size
          omega
      · exact paint_new (by omega)
    l := owns_tch (k2 (by simp)) htS (fun b hb => hne b (by rw [h.cl b hb]; simp))
    cl := fun b hb => (paint_old (owns_lt h.l b hb)).trans (h.cl b hb)
    m := owns_tch (k4 (by simp)) htS (fun b hb => hne b (by rw [h.cm b hb]; simp))
    cm := fun b hb => (paint_old (owns_lt h.m b hb)).trans (h.cm b hb)
    d := fun j Q hj => ⟨(k5 (by simp) j Q hj).tch htS (fun b hm => hne b (by rw [(h.d j Q hj).2 b hm]; simp)), fun b hm => (paint_old ((h.d j Q hj).1.lt b hm)).trans ((h.d j Q hj).2 b hm)⟩
    r := fun j Q hj => ⟨(k6 (by simp) j Q hj).tch htS (fun b hm => hne b (by rw [(h.r j Q hj).2 b hm]; simp)), fun b hm => (paint_old ((h.r j Q hj).1.lt b hm)).trans ((h.r j Q hj).2 b hm)⟩
    x := fun y hy j hj => by
      rcases List.mem_append.1 hy with hy | hy
      · obtain ⟨g, ha, hc, hx, hlt⟩ := k7 (by simp) y hy j hj
        exact ⟨g, ha, (htS.cell (World.block_lt_of_cell? _ _ hc) (hne g (by rw [hx]; simp))).trans hc, (paint_old hlt).trans hx⟩
      · obtain ⟨g, ha, hc, hx⟩ := hxs y hy j hj
        have hlt := World.block_lt_of_cell? _ _ hc
        have hc3 := (ht3.cell hlt (hS g (by rw [hx]; simp))).trans hc
        exact ⟨g, ha, (htS.cell (World.block_lt_of_cell? _ _ hc3) (hne g (by rw [hx]; simp))).trans hc3, (paint_old hlt).trans hx⟩ }
/-- Marks more on the shelf. -/
theorem Shelf.pushM {w w1 w3 : World} {s : Nat} {lv nv mv mv' : Value} {c : Nat → Tag} {ps : List Pr} {ns : List Nm} {ms : List ByteArray} (h : Shelf w s lv nv mv c ps ns ms) (xs : List ByteArray)
    (h1 : Tch [] w w1) (hg : w1.grownBy w3 mv.ownBlock) (ho : OwnS w3 mv' (ms ++ xs)) (hb : mv'.ownBlock = mv.ownBlock ∨ mv'.ownBlock = some w1.heap.size) :
    w3.cell? ⟨s, 2, none⟩ = some mv ∧ w3.frozen? ⟨s, 2, none⟩ = false ∧ Shelf (w3.setCell ⟨s, 2, none⟩ mv') s lv nv mv' (paint c w.heap.size .M) ps ns (ms ++ xs) ∧ Tch (s :: mv.ownBlock.toList) w (w3.setCell ⟨s, 2, none⟩ mv') := by
  have hsL : mv.ownBlock ≠ some s := fun e => by have := h.cm s e; rw [h.cs] at this; cases this
  have ht3 : Tch mv.ownBlock.toList w w3 := (h1.sub (fun x hx => by cases hx)).grown hg (fun b hb _ => by simp [hb])
  have hS : ∀ b, c b ≠ .M → b ∉ mv.ownBlock.toList := fun b hb hm => hb (h.cm b (by simpa using hm))
  obtain ⟨k1, k2, k3, _, k5, k6, k7⟩ := h.rows ht3 .M hS
  have hs3 := k1 (by simp)
  have hls' : mv'.ownBlock ≠ some s := by
    intro e
    rcases hb with hb | hb
    · exact hsL (hb.symm.trans e)
    · rw [e] at hb
      injection hb with hb
      have := h.lt
      have := h1.size
      omega
  have htS : Tch [s] w3 (w3.setCell ⟨s, 2, none⟩ mv') := (Tch.refl _ _).setCell (fun _ => by simp) _
  have hne : ∀ b, c b ≠ .S → b ∉ [s] := fun b hb hm => by simp at hm; subst hm; exact hb h.cs
  refine ⟨(cell_of_row w3 s 2 _ 30 (0, 0) hs3).trans rfl, frozen_of_row w3 s 2 _ 30 hs3, ?_, (ht3.sub (fun x hx _ => by simp at hx; simp [hx])).setCell (fun _ => by simp) _⟩
  exact {
    blk := heap_setCell_same w3 s 2 _ 30 mv' hs3
    cs := (paint_old h.lt).trans h.cs
    m := owns_tch ho htS (fun b hb hm => hls' (by simp at hm; rw [hb, hm]))
    cm := fun b hbb => by
      by_cases hlt : b < w.heap.size
      · rw [paint_old hlt]
        rcases hb with hb | hb
        · exact h.cm b (hb.symm.trans hbb)
        · rw [hbb] at hb
          injection hb with hb
          have := h1.size
          omega
      · exact paint_new (by omega)
    l := owns_tch (k2 (by simp)) htS (fun b hb => hne b (by rw [h.cl b hb]; simp))
    cl := fun b hb => (paint_old (owns_lt h.l b hb)).trans (h.cl b hb)
    n := owns_tch (k3 (by simp)) htS (fun b hb => hne b (by rw [h.cn b hb]; simp))
    cn := fun b hb => (paint_old (owns_lt h.n b hb)).trans (h.cn b hb)
    d := fun j Q hj => ⟨(k5 (by simp) j Q hj).tch htS (fun b hm => hne b (by rw [(h.d j Q hj).2 b hm]; simp)), fun b hm => (paint_old ((h.d j Q hj).1.lt b hm)).trans ((h.d j Q hj).2 b hm)⟩
    r := fun j Q hj => ⟨(k6 (by simp) j Q hj).tch htS (fun b hm => hne b (by rw [(h.r j Q hj).2 b hm]; simp)), fun b hm => (paint_old ((h.r j Q hj).1.lt b hm)).trans ((h.r j Q hj).2 b hm)⟩
    x := fun y hy j hj => by
      obtain ⟨g, ha, hc, hx, hlt⟩ := k7 (by simp) y hy j hj
      exact ⟨g, ha, (htS.cell (World.block_lt_of_cell? _ _ hc) (hne g (by rw [hx]; simp))).trans hc, (paint_old hlt).trans hx⟩ }
end Go.Proofs.YtbdobaapadlcjaaDoor.Dk
