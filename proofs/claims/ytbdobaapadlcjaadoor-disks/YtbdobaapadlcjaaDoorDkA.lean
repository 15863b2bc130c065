/-
  DISKS: what a call touches; a disk in memory; step, Stopped, Stop of both disks.
-/
import Derived.Test.YtbdobaapadlcjaaDoorCheckW
import Derived.Laws.AppendOwn
import Derived.Laws.OwnMore
namespace Go.Proofs.YtbdobaapadlcjaaDoor.Dk
open Go.RowKit
set_option linter.unusedVariables false

/-- WHAT A CALL TOUCHES: of the blocks that were there those of a list alone. -/
structure Tch (S : List Nat) (w w' : World) : Prop where
  os : w'.os = w.os
  tape : w'.tape = w.tape
  output : w'.output = w.output
  size : w.heap.size ≤ w'.heap.size
  block : ∀ k, k < w.heap.size → k ∉ S → w'.heap[k]? = w.heap[k]?
theorem Tch.refl (S : List Nat) (w : World) : Tch S w w := ⟨rfl, rfl, rfl, Nat.le_refl _, fun _ _ _ => rfl⟩
theorem Tch.trans {S S' : List Nat} {a b c : World} (h : Tch S a b) (k : Tch S' b c) (hS : ∀ x ∈ S', x < a.heap.size → x ∈ S) : Tch S a c :=
  ⟨k.os.trans h.os, k.tape.trans h.tape, k.output.trans h.output, Nat.le_trans h.size k.size, fun x hx hn =>
    (k.block x (Nat.lt_of_lt_of_le hx h.size) (fun hm => hn (hS x hm hx))).trans (h.block x hx hn)⟩
theorem Tch.sub {S S' : List Nat} {a b : World} (h : Tch S a b) (hS : ∀ x ∈ S, x < a.heap.size → x ∈ S') : Tch S' a b :=
  ⟨h.os, h.tape, h.output, h.size, fun x hx hn => h.block x hx (fun hm => hn (hS x hm hx))⟩
theorem Tch.alloc {S : List Nat} {a w : World} (h : Tch S a w) (o : Obj) : Tch S a (w.alloc o) :=
  ⟨h.os, h.tape, h.output, by rw [World.size_alloc]; exact Nat.le_succ_of_le h.size, fun k hk hn => (Below.heap_alloc w o k (Nat.lt_of_lt_of_le hk h.size)).trans (h.block k hk hn)⟩
theorem Tch.drew {S : List Nat} {a w : World} (h : Tch S a w) : Tch S a w.drew := ⟨h.os, h.tape, h.output, h.size, h.block⟩
theorem Tch.setCell {S : List Nat} {a w : World} (h : Tch S a w) {p : Addr} (hp : p.block < a.heap.size → p.block ∈ S) (u : Value) : Tch S a (w.setCell p u) :=
  ⟨h.os, h.tape, h.output, by rw [World.size_setCell]; exact h.size, fun k hk hn => (Below.heap_setCell w p u k (fun e => hn (by subst e; exact hp hk))).trans (h.block k hk hn)⟩
theorem Tch.setRow {S : List Nat} {a w : World} (h : Tch S a w) {g : Nat} (hp : g < a.heap.size → g ∈ S) (C : Array Value) : Tch S a (w.setRow g C) :=
  ⟨h.os, h.tape, h.output, by simp; exact h.size, fun k hk hn => (setRow_other w g k _ (fun e => hn (by subst e; exact hp hk))).trans (h.block k hk hn)⟩
theorem Tch.grown {S : List Nat} {a w w' : World} {row : Option Nat} (h : Tch S a w) (hg : w.grownBy w' row) (hr : ∀ k, row = some k → k < a.heap.size → k ∈ S) : Tch S a w' :=
  ⟨hg.os.trans h.os, hg.tape.trans h.tape, hg.output.trans h.output, Nat.le_trans h.size hg.size, fun k hk hn =>
    (hg.block k (Nat.lt_of_lt_of_le hk h.size) (fun e => hn (hr k e.symm hk))).trans (h.block k hk hn)⟩
theorem Tch.below {S : List Nat} {B : Nat} {w w' : World} (h : Tch S w w') (hS : ∀ x ∈ S, B ≤ x) (hB : B ≤ w.heap.size) : Below B w w' :=
  ⟨h.os, h.tape, h.output, h.size, fun k hk => h.block k (Nat.lt_of_lt_of_le hk hB) (fun hm => by have := hS k hm; omega)⟩
theorem Tch.of_below {w w' : World} (h : Below w.heap.size w w') : Tch [] w w' := ⟨h.os, h.tape, h.output, h.size, fun k hk _ => h.block k hk⟩

/-- APPEND TO A ROW OF ONE's OWN: as the library's law, and besides where the new row lies: in the old one's block, or in a new block. -/
theorem run_app {P : Program} (w : World) (base : Nat) (t ty e : TypeId) (i : TypeInfo) (z : Value) (size bytes : Nat) (ht : P.underlying t = some (.slice e)) (hi : P.info? e = some i) (hz : i.zero = some z)
    (hsize : i.size = size) (hby : i.bytes = bytes) (hzs : z.cells.size = size) (hsz : 0 < size)
    (v : Value) (n : Nat) (xs : List Value) (hown : w.ownsRow base e size v n xs)
    (a : Addr) (m c : Nat) (news : List Value) (hl : news.length = m * size) (hnews : ∀ j u, news[j]? = some u → w.cell? (a.add j) = some u) (h1 : ∀ u ∈ news, u.oneCell' = true)
    (h63 : n + m ≤ maxLen) (hbytes : (n + m) * bytes ≤ 140737488355328) (hbase : base ≤ w.heap.size) (hm : 0 < m) :
    ∃ v' w', (Builtin.append_ #[t, t] ty #[v, .slice (some a) m c]).run P w = .ok v' w' ∧ w'.ownsRow base e size v' (n + m) (xs ++ news) ∧ w.grownBy w' v.ownBlock ∧ (v'.ownBlock = v.ownBlock ∨ v'.ownBlock = some w.heap.size) := by
  obtain ⟨v', w', hr, h2, h3, _⟩ := run_append_own (P := P) w base t ty e i z size bytes ht hi hz hsize hby hzs hsz v n xs hown a m c news hl hnews h1 h63 hbytes hbase
  refine ⟨v', w', hr, h2, h3, ?_⟩
  subst hsize
  subst hby
  have hsmall : n + m ≤ 9223372036854775807 := by simp only [maxLen] at h63; omega
  rcases hown.2 with ⟨rfl, rfl⟩ | ⟨g, cap, cur, rfl, hbg, hg, hnc, hcm, hcs, htake⟩
  · have hr2 := run_append_nil (P := P) w t ty e i z ht hi hz a m c news hl hnews hm (by omega) (by have hb := hbytes; simp only [Nat.zero_add] at hb; omega)
    rw [hr2] at hr
    injection hr with e1 e2
    subst e1
    exact .inr rfl
  · by_cases hroom : n + m ≤ cap
    · have hfit : n * i.size + news.length ≤ cur.size := by rw [hl, hcs, ← Nat.add_mul]; exact Nat.mul_le_mul_right _ hroom
      have hr2 := run_append_room (P := P) w t ty e i ht hi g n cap cur hg a m c news hl hnews h1 hroom hfit
      rw [hr2] at hr
      injection hr with e1 e2
      subst e1
      exact .inl rfl
    · have holds : ∀ j u, xs[j]? = some u → w.cell? ((⟨g, 0, none⟩ : Addr).add j) = some u := hown.cells (g := g) rfl
      have hr2 := run_append_grow (P := P) w t ty e i z ht hi hz ⟨g, 0, none⟩ n cap xs hown.1 holds a m c news hl hnews (by omega) (by omega) (growslice_fits (by omega) hbytes)
      rw [hr2] at hr
      injection hr with e1 e2
      subst e1
      exact .inr rfl
theorem wpList_app {P : Program} (w : World) {ops : Array Oper} {rest : List Oper} {o : Oper} {a : Act} {Q : Exit → Act → World → Prop} (hgd : o.guard = none) (s x : Operand) (t : TypeId)
    (ho : o.op = .call { callee := .builtin .append, args := #[s, x], argTypes := #[t, t] })
    (base : Nat) (e : TypeId) (i : TypeInfo) (z : Value) (size bytes : Nat) (ht : P.underlying t = some (.slice e)) (hi : P.info? e = some i) (hz : i.zero = some z)
    (hsize : i.size = size) (hby : i.bytes = bytes) (hzs : z.cells.size = size) (hsz : 0 < size)
    (v : Value) (n : Nat) (xs : List Value) (hs : a.eval s = v) (hown : w.ownsRow base e size v n xs)
    (ad : Addr) (m c : Nat) (news : List Value) (hx : a.eval x = .slice (some ad) m c) (hl : news.length = m * size) (hnews : ∀ j u, news[j]? = some u → w.cell? (ad.add j) = some u) (h1 : ∀ u ∈ news, u.oneCell' = true)
    (h63 : n + m ≤ maxLen) (hbytes : (n + m) * bytes ≤ 140737488355328) (hbase : base ≤ w.heap.size) (hm : 0 < m)
    (h : ∀ v' w', w'.ownsRow base e size v' (n + m) (xs ++ news) → w.grownBy w' v.ownBlock → (v'.ownBlock = v.ownBlock ∨ v'.ownBlock = some w.heap.size) → wpList P ops Q rest (a.put o.dst v') w') : wpList P ops Q (o :: rest) a w :=
  wpList_plain hgd fun _ hK => by
    obtain ⟨v', w', hr, h2, h3, h4⟩ := run_app (P := P) w base t o.type e i z size bytes ht hi hz hsize hby hzs hsz v n xs hown ad m c news hl hnews h1 h63 hbytes hbase hm
    unfold Oper.wp execOp
    simp only [ho, resolve, invoke, builtin, Sem.run_bind, Sem.run_pure, Result.andThen_ok, List.map_toArray, List.map_cons, List.map_nil, hs, hx, hr]
    exact hK _ _ (h v' w' h2 h3 h4)
theorem ret_b {a b : Bool} (h : a = b) : Ending.returned (.bool a) = .returned (.bool b) := by rw [h]
theorem ret_i {k : IntKind} {a b : Int} (h : a = b) : Ending.returned (.int k a) = .returned (.int k b) := by rw [h]

/-- A disk's cells. -/
def dcells (v : Value) (left : Int) (st : Bool) : Array Value := #[v, .int .i64 left, .bool st]
/-- A disk in a block of its own. -/
def DBlk (w : World) (p : Nat) (t : TypeId) (v : Value) (left : Int) (st : Bool) : Prop := w.heap[p]? = some (.cells (dcells v left st) t (0, 0))
theorem DBlk.c0 {w : World} {p : Nat} {t : TypeId} {v : Value} {left : Int} {st : Bool} (h : DBlk w p t v left st) : w.cell? ⟨p, 0, none⟩ = some v := (cell_of_row w p 0 _ t (0, 0) h).trans rfl
theorem DBlk.c1 {w : World} {p : Nat} {t : TypeId} {v : Value} {left : Int} {st : Bool} (h : DBlk w p t v left st) : w.cell? ⟨p, 1, none⟩ = some (.int .i64 left) := (cell_of_row w p 1 _ t (0, 0) h).trans rfl
theorem DBlk.c2 {w : World} {p : Nat} {t : TypeId} {v : Value} {left : Int} {st : Bool} (h : DBlk w p t v left st) : w.cell? ⟨p, 2, none⟩ = some (.bool st) := (cell_of_row w p 2 _ t (0, 0) h).trans rfl
theorem DBlk.fz {w : World} {p : Nat} {t : TypeId} {v : Value} {left : Int} {st : Bool} (h : DBlk w p t v left st) (o : Nat) : w.frozen? ⟨p, o, none⟩ = false := frozen_of_row w p o _ t h
theorem DBlk.s0 {w : World} {p : Nat} {t : TypeId} {v : Value} {left : Int} {st : Bool} (h : DBlk w p t v left st) (u : Value) : DBlk (w.setCell ⟨p, 0, none⟩ u) p t u left st := heap_setCell_same w p 0 _ t u h
theorem DBlk.s1 {w : World} {p : Nat} {t : TypeId} {v : Value} {left : Int} {st : Bool} (h : DBlk w p t v left st) (n : Int) : DBlk (w.setCell ⟨p, 1, none⟩ (.int .i64 n)) p t v n st := heap_setCell_same w p 1 _ t _ h
theorem DBlk.s2 {w : World} {p : Nat} {t : TypeId} {v : Value} {left : Int} {st : Bool} (h : DBlk w p t v left st) (b : Bool) : DBlk (w.setCell ⟨p, 2, none⟩ (.bool b)) p t v left b := heap_setCell_same w p 2 _ t _ h
theorem DBlk.lt {w : World} {p : Nat} {t : TypeId} {v : Value} {left : Int} {st : Bool} (h : DBlk w p t v left st) : p < w.heap.size := World.block_lt_of_cell? _ _ h.c0
theorem DBlk.tch {w w' : World} {p : Nat} {t : TypeId} {v : Value} {left : Int} {st : Bool} (h : DBlk w p t v left st) {S : List Nat} (ht : Tch S w w') (hp : p ∉ S) : DBlk w' p t v left st := (ht.block p h.lt hp).trans h

/-- What a step leaves: whether it is done; the steps that are left; whether the disk is stopped. -/
def stepOk (left : Int) (st : Bool) : Bool := !(st || left == 0)
def stepL (left : Int) (st : Bool) : Int := if stepOk left st = true ∧ 0 < left then left - 1 else left
def stepS (left : Int) (st : Bool) : Bool := !(stepOk left st)

theorem step_no {left : Int} {st : Bool} (h : (st || left == 0) = true) : stepOk left st = false ∧ stepL left st = left ∧ stepS left st = true := by
  have h1 : stepOk left st = false := by unfold stepOk; rw [h]; rfl
  refine ⟨h1, ?_, ?_⟩
  · unfold stepL; rw [h1]; simp
  · unfold stepS; rw [h1]; rfl
theorem step_dn {left : Int} (h : left ≠ 0) (hp : 0 < left) : stepOk left false = true ∧ stepL left false = left - 1 ∧ stepS left false = false := by
  have h1 : stepOk left false = true := by unfold stepOk; simpa using h
  refine ⟨h1, ?_, ?_⟩
  · unfold stepL; rw [h1, if_pos ⟨rfl, hp⟩]
  · unfold stepS; rw [h1]; rfl
theorem step_go {left : Int} (h : left ≠ 0) (hp : left ≤ 0) : stepOk left false = true ∧ stepL left false = left ∧ stepS left false = false := by
  have h1 : stepOk left false = true := by unfold stepOk; simpa using h
  refine ⟨h1, ?_, ?_⟩
  · unfold stepL; rw [h1, if_neg (by omega)]
  · unfold stepS; rw [h1]; rfl

set_option maxHeartbeats 400000 in
theorem step_d (p : Nat) (v : Value) (left : Int) (st : Bool) (w : World) (h : DBlk w p 76 v left st) (hl : -9223372036854775808 ≤ left ∧ left ≤ 9223372036854775807) :
    Calls Tryd.prog 44 #[.pointer (some ⟨p, 0, none⟩)] w fun e w' => e = .returned (.bool (stepOk left st)) ∧ DBlk w' p 76 v (stepL left st) (stepS left st) ∧ Tch [p] w w' ∧ w'.heap.size = w.heap.size := by
  have h0 := h.c0
  have h1 := h.c1
  have h2 := h.c2
  have f1 := h.fz 1
  have f2 := h.fz 2
  have H : Hid (DBlk w p 76 v left st) := h
  clear h
  cases st with
  | true =>
    obtain ⟨e1, e2, e3⟩ := step_no (left := left) (st := true) rfl
    rw [e1, e2, e3]
    go_enter Tryd.func44, Tryd.ntmps44
    go_wp2
    go_ret
    refine ⟨rfl, H.out.s2 true, (Tch.refl _ _).setCell (fun _ => by simp) _, by simp⟩
  | false =>
    by_cases hz : left = 0
    · subst hz
      obtain ⟨e1, e2, e3⟩ := step_no (left := 0) (st := false) rfl
      rw [e1, e2, e3]
      go_enter Tryd.func44, Tryd.ntmps44
      go_wp2
      go_ret
      refine ⟨rfl, H.out.s2 true, (Tch.refl _ _).setCell (fun _ => by simp) _, by simp⟩
    · have hz' : (left == 0) = false := by simpa using hz
      by_cases hp : 0 < left
      · obtain ⟨e1, e2, e3⟩ := step_dn hz hp
        rw [e1, e2, e3]
        have hw : wrap64 (left - 1) = left - 1 := by simp [wrap64]; omega
        go_enter Tryd.func44, Tryd.ntmps44
        go_wp2
        go_ret
        refine ⟨rfl, H.out.s1 _, (Tch.refl _ _).setCell (fun _ => by simp) _, by simp⟩
      · obtain ⟨e1, e2, e3⟩ := step_go hz (by omega)
        rw [e1, e2, e3]
        go_enter Tryd.func44, Tryd.ntmps44
        go_wp2
        go_ret
        refine ⟨rfl, H.out, Tch.refl _ _, rfl⟩
set_option maxHeartbeats 400000 in
theorem stopped_d (p : Nat) (v : Value) (left : Int) (st : Bool) (w : World) (h : DBlk w p 76 v left st) :
    Calls Tryd.prog 57 #[.pointer (some ⟨p, 0, none⟩)] w fun e w' => e = .returned (.bool (st || left == 0)) ∧ w' = w := by
  have h0 := h.c0
  have h1 := h.c1
  have h2 := h.c2
  clear h
  cases st with
  | true =>
    go_enter Tryd.func57, Tryd.ntmps57
    go_wp2
    go_ret
    exact ⟨rfl, rfl⟩
  | false =>
    go_enter Tryd.func57, Tryd.ntmps57
    go_wp2
    go_ret
    exact ⟨ret_b (by simp), rfl⟩
set_option maxHeartbeats 400000 in
theorem stopped_r (p : Nat) (v : Value) (left : Int) (st : Bool) (w : World) (h : DBlk w p 79 v left st) :
    Calls Tryd.prog 58 #[.pointer (some ⟨p, 0, none⟩)] w fun e w' => e = .returned (.bool (st || left == 0)) ∧ w' = w := by
  have h0 := h.c0
  have h1 := h.c1
  have h2 := h.c2
  clear h
  cases st with
  | true =>
    go_enter Tryd.func58, Tryd.ntmps58
    go_wp2
    go_ret
    exact ⟨rfl, rfl⟩
  | false =>
    go_enter Tryd.func58, Tryd.ntmps58
    go_wp2
    go_ret
    exact ⟨ret_b (by simp), rfl⟩
set_option maxHeartbeats 400000 in
theorem step_r (p : Nat) (v : Value) (left : Int) (st : Bool) (w : World) (h : DBlk w p 79 v left st) (hl : -9223372036854775808 ≤ left ∧ left ≤ 9223372036854775807) :
    Calls Tryd.prog 46 #[.pointer (some ⟨p, 0, none⟩)] w fun e w' => e = .returned (.bool (stepOk left st)) ∧ DBlk w' p 79 v (stepL left st) (stepS left st) ∧ Tch [p] w w' ∧ w'.heap.size = w.heap.size := by
  have h0 := h.c0
  have h1 := h.c1
  have h2 := h.c2
  have f1 := h.fz 1
  have f2 := h.fz 2
  have H : Hid (DBlk w p 79 v left st) := h
  clear h
  have HST : Hid (Calls Tryd.prog 58 #[.pointer (some ⟨p, 0, none⟩)] w fun e w' => e = .returned (.bool (st || left == 0)) ∧ w' = w) := stopped_r p v left st w H.out
  cases hs : (st || left == 0) with
  | true =>
    obtain ⟨e1, e2, e3⟩ := step_no hs
    rw [e1, e2, e3]
    rw [hs] at HST
    go_enter Tryd.func46, Tryd.ntmps46
    go_wp2_with fail
    refine HST.out.mono ?_
    rintro e w1 ⟨rfl, rfl⟩
    go_wp2_with fail
    go_ret
    refine ⟨rfl, H.out.s2 true, (Tch.refl _ _).setCell (fun _ => by simp) _, by simp⟩
  | false =>
    rw [hs] at HST
    obtain ⟨hst, hz⟩ : st = false ∧ left ≠ 0 := by simpa using hs
    subst hst
    clear hs
    by_cases hp : 0 < left
    · obtain ⟨e1, e2, e3⟩ := step_dn hz hp
      rw [e1, e2, e3]
      have hw : wrap64 (left - 1) = left - 1 := by simp [wrap64]; omega
      go_enter Tryd.func46, Tryd.ntmps46
      go_wp2_with fail
      refine HST.out.mono ?_
      rintro e w1 ⟨rfl, rfl⟩
      go_wp2_with fail
      go_ret
      refine ⟨rfl, H.out.s1 _, (Tch.refl _ _).setCell (fun _ => by simp) _, by simp⟩
    · obtain ⟨e1, e2, e3⟩ := step_go hz (by omega)
      rw [e1, e2, e3]
      go_enter Tryd.func46, Tryd.ntmps46
      go_wp2_with fail
      refine HST.out.mono ?_
      rintro e w1 ⟨rfl, rfl⟩
      go_wp2_with fail
      go_ret
      refine ⟨rfl, H.out, Tch.refl _ _, rfl⟩
/-- What Stop leaves. -/
def stopL (left : Int) (st : Bool) (n : Int) : Int := if (st || left == 0) = true then left else if n < 0 then -1 else n
set_option maxHeartbeats 400000 in
theorem stop_d (p : Nat) (v : Value) (left : Int) (st : Bool) (n : Int) (w : World) (h : DBlk w p 76 v left st) :
    Calls Tryd.prog 55 #[.pointer (some ⟨p, 0, none⟩), .int .i64 n] w fun e w' => e = .returned (.tuple #[]) ∧ DBlk w' p 76 v (stopL left st n) st ∧ Tch [p] w w' ∧ w'.heap.size = w.heap.size := by
  have h0 := h.c0
  have h1 := h.c1
  have h2 := h.c2
  have f1 := h.fz 1
  have H : Hid (DBlk w p 76 v left st) := h
  clear h
  have HST : Hid (Calls Tryd.prog 57 #[.pointer (some ⟨p, 0, none⟩)] w fun e w' => e = .returned (.bool (st || left == 0)) ∧ w' = w) := stopped_d p v left st w H.out
  cases hs : (st || left == 0) with
  | true =>
    rw [show stopL left st n = left by unfold stopL; rw [hs, if_pos rfl]]
    rw [hs] at HST
    clear hs
    go_enter Tryd.func55, Tryd.ntmps55
    go_wp2_with fail
    refine HST.out.mono ?_
    rintro e w1 ⟨rfl, rfl⟩
    go_wp2_with fail
    go_end0
    exact ⟨rfl, H.out, Tch.refl _ _, rfl⟩
  | false =>
    have he : stopL left st n = if n < 0 then -1 else n := by unfold stopL; rw [hs]; simp
    rw [hs] at HST
    clear hs
    by_cases hn : n < 0
    · rw [if_pos hn] at he
      rw [he]
      go_enter Tryd.func55, Tryd.ntmps55
      go_wp2_with fail
      refine HST.out.mono ?_
      rintro e w1 ⟨rfl, rfl⟩
      go_wp2_with fail
      all_goals go_end0
      · exact ⟨rfl, H.out.s1 _, (Tch.refl _ _).setCell (fun _ => by simp) _, by simp⟩
      · obtain rfl : n = -1 := by omega
        exact ⟨rfl, H.out.s1 _, (Tch.refl _ _).setCell (fun _ => by simp) _, by simp⟩
    · rw [if_neg hn] at he
      rw [he]
      go_enter Tryd.func55, Tryd.ntmps55
      go_wp2_with fail
      refine HST.out.mono ?_
      rintro e w1 ⟨rfl, rfl⟩
      go_wp2_with fail
      go_end0
      exact ⟨rfl, H.out.s1 _, (Tch.refl _ _).setCell (fun _ => by simp) _, by simp⟩
set_option maxHeartbeats 400000 in
theorem stop_r (p : Nat) (v : Value) (left : Int) (st : Bool) (n : Int) (w : World) (h : DBlk w p 79 v left st) :
    Calls Tryd.prog 56 #[.pointer (some ⟨p, 0, none⟩), .int .i64 n] w fun e w' => e = .returned (.tuple #[]) ∧ DBlk w' p 79 v (stopL left st n) st ∧ Tch [p] w w' ∧ w'.heap.size = w.heap.size := by
  have h0 := h.c0
  have h1 := h.c1
  have h2 := h.c2
  have f1 := h.fz 1
  have H : Hid (DBlk w p 79 v left st) := h
  clear h
  have HST : Hid (Calls Tryd.prog 58 #[.pointer (some ⟨p, 0, none⟩)] w fun e w' => e = .returned (.bool (st || left == 0)) ∧ w' = w) := stopped_r p v left st w H.out
  cases hs : (st || left == 0) with
  | true =>
    rw [show stopL left st n = left by unfold stopL; rw [hs, if_pos rfl]]
    rw [hs] at HST
    clear hs
    go_enter Tryd.func56, Tryd.ntmps56
    go_wp2_with fail
    refine HST.out.mono ?_
    rintro e w1 ⟨rfl, rfl⟩
    go_wp2_with fail
    first | go_end0 | (refine bodyPost_ret (results_none rfl _ _ _) rfl ?_)
    exact ⟨rfl, H.out, Tch.refl _ _, rfl⟩
  | false =>
    have he : stopL left st n = if n < 0 then -1 else n := by unfold stopL; rw [hs]; simp
    rw [hs] at HST
    clear hs
    by_cases hn : n < 0
    · rw [if_pos hn] at he
      rw [he]
      go_enter Tryd.func56, Tryd.ntmps56
      go_wp2_with fail
      refine HST.out.mono ?_
      rintro e w1 ⟨rfl, rfl⟩
      have H2 : Hid (DBlk (w1.setCell ⟨p, 1, none⟩ (.int .i64 n)) p 79 v n st) := H.out.s1 n
      go_wp2_with fail
      go_end0
      exact ⟨rfl, H2.out.s1 _, ((Tch.refl _ _).setCell (fun _ => by simp) _).setCell (fun _ => by simp) _, by simp⟩
    · rw [if_neg hn] at he
      rw [he]
      go_enter Tryd.func56, Tryd.ntmps56
      go_wp2_with fail
      refine HST.out.mono ?_
      rintro e w1 ⟨rfl, rfl⟩
      go_wp2_with fail
      go_end0
      exact ⟨rfl, H.out.s1 _, (Tch.refl _ _).setCell (fun _ => by simp) _, by simp⟩
end Go.Proofs.YtbdobaapadlcjaaDoor.Dk
