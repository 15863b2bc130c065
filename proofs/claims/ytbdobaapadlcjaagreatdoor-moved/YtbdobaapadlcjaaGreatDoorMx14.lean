/-
  A QUEUE WITH WHATEVER IT HAS: its rows; IndexFunc over them; head (210), findDedup (217), findAttempt (209).
-/
import Derived.Test.YtbdobaapadlcjaaGreatDoorMx13
namespace Go.Proofs.YtbdobaapadlcjaaGreatDoor
open Go.Shelf Go.RowKit Go.Lib
set_option linter.unusedVariables false

def l262_ren : Go.Shelf.Ren := ⟨fun | 6 => 262 | n => n, fun | 22 => 189 | 23 => 234 | 25 => 297 | 3 => 3 | 0 => 0 | 4 => 4 | n => n, fun | n => n⟩
theorem l262 : Go.Proofs.SlLaysH0.n6 Tryz.prog l262_ren := {
  mixed := by kernel_rfl
  f6 := ⟨Tryz.f262.name, by decide, Tryz.func262.trans (congrArg some (by kernel_rfl))⟩
  t0 := Tryz.underlying0
  a0 := Tryz.isAgg0
  z0 := Tryz.sizeOf0
  v0 := Tryz.zeroValue0
  t3 := Tryz.underlying3
  a3 := Tryz.isAgg3
  z3 := Tryz.sizeOf3
  v3 := Tryz.zeroValue3
  t4 := Tryz.underlying4
  a4 := Tryz.isAgg4
  z4 := Tryz.sizeOf4
  v4 := Tryz.zeroValue4
  t22 := Tryz.underlying189
  a22 := Tryz.isAgg189
  z22 := Tryz.sizeOf189
  v22 := Tryz.zeroValue189
  t25 := Tryz.underlying297
  a25 := Tryz.isAgg297
  z25 := Tryz.sizeOf297
  v25 := Tryz.zeroValue297 }

/-- An attempt's three cells. -/
structure At where
  id : ByteArray
  til : Int
  ans : ByteArray
def At.row (x : At) : List Value := [.string x.id, .int .i64 x.til, .string x.ans]

/-- The first place at which p holds, or -1. -/
def idxL {α : Type} (p : α → Bool) : List α → Int
  | [] => -1
  | x :: l => if p x = true then 0 else (if idxL p l < 0 then -1 else idxL p l + 1)
theorem idxL_ge {α : Type} (p : α → Bool) (l : List α) : -1 ≤ idxL p l := by
  induction l with
  | nil => exact Int.le_refl _
  | cons x l ih => simp only [idxL]; split <;> (try split) <;> omega
theorem idxL_lt {α : Type} (p : α → Bool) (l : List α) : idxL p l < l.length := by
  induction l with
  | nil => simp [idxL]
  | cons x l ih => simp only [idxL, List.length_cons]; split <;> (try split) <;> omega
theorem idxByFrom_eq {α : Type} (p : α → Bool) (d : α) (l : List α) (i : Nat) : Lib.idxByFrom (fun _ y => p y) d l i = if idxL p l < 0 then -1 else idxL p l + i := by
  induction l generalizing i with
  | nil => rfl
  | cons x l ih =>
    simp only [Lib.idxByFrom, idxL]
    have h1 := idxL_ge p l
    by_cases hx : p x = true
    · simp [hx]
    · simp only [hx, if_false, Bool.false_eq_true]
      rw [ih]
      by_cases h2 : idxL p l < 0
      · simp [h2]
      · have h3 : ¬ (idxL p l + 1 < 0) := by omega
        simp only [h2, h3, if_false]
        omega
theorem idxBy_eq {α : Type} (p : α → Bool) (d : α) (l : List α) : Lib.idxBy (fun _ y => p y) l d = idxL p l := by
  have h1 := idxL_ge p l
  rw [Lib.idxBy, idxByFrom_eq]
  split <;> omega
theorem idxL_neg {α : Type} (p : α → Bool) (l : List α) : idxL p l < 0 ↔ ∀ x ∈ l, p x = false := by
  induction l with
  | nil => simp [idxL]
  | cons x l ih =>
    have h1 := idxL_ge p l
    simp only [idxL, List.mem_cons, forall_eq_or_imp]
    by_cases hx : p x = true
    · simp [hx]
    · have hx' : p x = false := by simpa using hx
      simp only [hx', Bool.false_eq_true, if_false, true_and, ← ih]
      split <;> omega

/-- Rows of k cells each, one behind the other. -/
theorem flat_get {α : Type} (row : α → List Value) (k : Nat) (hk : ∀ x, (row x).length = k) (l : List α) (j i : Nat) (hj : j < l.length) (hi : i < k) : (l.flatMap row)[j * k + i]? = (row l[j])[i]? := by
  induction l generalizing j with
  | nil => simp at hj
  | cons x l ih =>
    rw [List.flatMap_cons]
    cases j with
    | zero =>
      rw [Nat.zero_mul, Nat.zero_add, List.getElem?_append_left (by rw [hk]; exact hi)]
      rfl
    | succ j =>
      have e : (j + 1) * k + i = (row x).length + (j * k + i) := by rw [hk, Nat.add_mul, Nat.one_mul]; omega
      rw [e, List.getElem?_append_right (by omega), Nat.add_sub_cancel_left, ih j (by simpa using hj)]
      rfl
theorem flat_len {α : Type} (row : α → List Value) (k : Nat) (hk : ∀ x, (row x).length = k) (l : List α) : (l.flatMap row).length = l.length * k := by
  induction l with
  | nil => simp
  | cons x l ih => rw [List.flatMap_cons, List.length_append, ih, hk, List.length_cons, Nat.add_mul]; omega
/-- The cells of a row of one's own. -/
theorem own_cells {α : Type} [Inhabited α] (row : α → List Value) (k : Nat) (hk : ∀ x, (row x).length = k) {w : World} {t : TypeId} {n c g : Nat} {l : List α} (h : w.ownsRow 0 t k (.slice (some ⟨g, 0, none⟩) n c) l.length (l.flatMap row)) (j : Nat) (hj : j < l.length) (i : Nat) (v : Value) (hv : (row l[j]!)[i]? = some v) : w.cell? ⟨g, 0 + j * k + i, none⟩ = some v := by
  have hi : i < k := by
    have := (List.getElem?_eq_some_iff.1 hv).1
    rw [hk] at this
    exact this
  have e : l[j]! = l[j] := by rw [List.getElem!_eq_getElem?_getD, List.getElem?_eq_getElem hj]; rfl
  rw [e, ← flat_get row k hk l j i hj hi] at hv
  have h1 := World.ownsRow.cells h (g := g) rfl (j * k + i) v hv
  have e2 : (⟨g, 0, none⟩ : Addr).add (j * k + i) = ⟨g, 0 + j * k + i, none⟩ := by unfold Addr.add; split <;> simp_all
  rw [e2] at h1
  exact h1

theorem at_pred (id : ByteArray) (B : Nat) (w : World) (hB : B < w.heap.size) (hcell : w.cell? ⟨B, 0, none⟩ = some (.string id)) :
    PredBelow Tryz.prog 263 #[.pointer (some ⟨B, 0, none⟩)] (fun x : At => .agg x.row.toArray) (fun x => x.id.toList == id.toList) w := fun W x hb => by
  have hc : W.cell? ⟨B, 0, none⟩ = some (.string id) := (hb.cell (p := ⟨B, 0, none⟩) hB).trans hcell
  have hBW : B < W.heap.size := Nat.lt_of_lt_of_le hB hb.size
  have hne : B ≠ W.heap.size := by omega
  show Calls Tryz.prog 263 #[.agg #[.string x.id, .int .i64 x.til, .string x.ans], .pointer (some ⟨B, 0, none⟩)] W _
  go_enter Tryz.func263, Tryz.ntmps263
  go_wp2
  all_goals (go_ret; exact ⟨by simp_all, hb.alloc hb.size _⟩)
set_option maxHeartbeats 400000 in
theorem idx_at_nil (a : Option Addr) (c : Nat) (fv : Value) (w : World) : Calls Tryz.prog 262 #[.slice a 0 c, fv] w fun e w' => e = .returned (.int .i64 (-1)) ∧ w' = w := by
  go_enter Tryz.func262, Tryz.ntmps262
  go_wp2
  go_loopg [5, 8] 0 (fun gg _ s8 wr => s8 = .int .i64 0 ∧ wr = w)
  case atStart => exact ⟨rfl, rfl⟩
  case round =>
    obtain ⟨rfl, rfl⟩ := hrel
    go_wp2
    go_ret
    exact ⟨rfl, rfl⟩
theorem eg263 : ∀ args w, (callFunc 263 args).run Tryz.prog w = .ok (.enter 263 args) w := enters_of Tryz.func263 (by kernel_rfl) rfl

abbrev isG (g : ByteArray) (x : Ms) : Bool := x.grp.toList == g.toList
abbrev isI (id : ByteArray) (x : Dd) : Bool := x.id.toList == id.toList
abbrev isA (id : ByteArray) (x : At) : Bool := x.id.toList == id.toList

theorem idx_ms (v : Value) (l : List Ms) (g : ByteArray) (B : Nat) (w : World) (ho : w.ownsRow 0 226 5 v l.length (l.flatMap Ms.row)) (hl : l.length ≤ 1000000) (hB : B < w.heap.size) (hcell : w.cell? ⟨B, 0, none⟩ = some (.string g)) :
    Calls Tryz.prog 264 #[v, .func (.func 265) #[] #[.pointer (some ⟨B, 0, none⟩)]] w fun e w' => e = .returned (.int .i64 (idxL (isG g) l)) ∧ Below w.heap.size w w' := by
  have inh : Inhabited Ms := ⟨⟨0, ⟨#[]⟩, ⟨#[]⟩, 0, 0⟩⟩
  rcases ho.2 with ⟨rfl, h0⟩ | ⟨gd, cap, cur, rfl, _, hg, _⟩
  · have e0 : l = [] := List.length_eq_zero_iff.1 h0
    subst e0
    refine (idx_ms_none none 0 _ w).mono ?_
    rintro e w' ⟨rfl, rfl⟩
    exact ⟨rfl, Below.refl _ _⟩
  · have h := AnyQ.slices_IndexFunc l197 5 Tryz.isAgg226 Tryz.sizeOf226 Ms.row (fun _ => rfl) (isG g) 265 #[.pointer (some ⟨B, 0, none⟩)] eg198 gd 0 l.length cap l w (ms_pred g B w hB hcell) (Nat.le_refl _) (by omega) (lt_of_block hg) (fun j hj i v hi => own_cells Ms.row 5 (fun _ => rfl) ho j hj i v hi)
    rw [List.take_length, idxBy_eq] at h
    exact h
theorem idx_dd (v : Value) (l : List Dd) (id : ByteArray) (B : Nat) (w : World) (ho : w.ownsRow 0 230 3 v l.length (l.flatMap Dd.row)) (hl : l.length ≤ 1000000) (hB : B < w.heap.size) (hcell : w.cell? ⟨B, 0, none⟩ = some (.string id)) :
    Calls Tryz.prog 268 #[v, .func (.func 269) #[] #[.pointer (some ⟨B, 0, none⟩)]] w fun e w' => e = .returned (.int .i64 (idxL (isI id) l)) ∧ Below w.heap.size w w' := by
  have inh : Inhabited Dd := ⟨⟨⟨#[]⟩, 0, 0⟩⟩
  rcases ho.2 with ⟨rfl, h0⟩ | ⟨gd, cap, cur, rfl, _, hg, _⟩
  · have e0 : l = [] := List.length_eq_zero_iff.1 h0
    subst e0
    refine (idx_dd_none none 0 _ w).mono ?_
    rintro e w' ⟨rfl, rfl⟩
    exact ⟨rfl, Below.refl _ _⟩
  · have h := AnyQ.slices_IndexFunc l201 3 Tryz.isAgg230 Tryz.sizeOf230 Dd.row (fun _ => rfl) (isI id) 269 #[.pointer (some ⟨B, 0, none⟩)] eg202 gd 0 l.length cap l w (dd_pred id B w hB hcell) (Nat.le_refl _) (by omega) (lt_of_block hg) (fun j hj i v hi => own_cells Dd.row 3 (fun _ => rfl) ho j hj i v hi)
    rw [List.take_length, idxBy_eq] at h
    exact h
theorem idx_at (v : Value) (l : List At) (id : ByteArray) (B : Nat) (w : World) (ho : w.ownsRow 0 234 3 v l.length (l.flatMap At.row)) (hl : l.length ≤ 1000000) (hB : B < w.heap.size) (hcell : w.cell? ⟨B, 0, none⟩ = some (.string id)) :
    Calls Tryz.prog 262 #[v, .func (.func 263) #[] #[.pointer (some ⟨B, 0, none⟩)]] w fun e w' => e = .returned (.int .i64 (idxL (isA id) l)) ∧ Below w.heap.size w w' := by
  have inh : Inhabited At := ⟨⟨⟨#[]⟩, 0, ⟨#[]⟩⟩⟩
  rcases ho.2 with ⟨rfl, h0⟩ | ⟨gd, cap, cur, rfl, _, hg, _⟩
  · have e0 : l = [] := List.length_eq_zero_iff.1 h0
    subst e0
    refine (idx_at_nil none 0 _ w).mono ?_
    rintro e w' ⟨rfl, rfl⟩
    exact ⟨rfl, Below.refl _ _⟩
  · have h := AnyQ.slices_IndexFunc l262 3 Tryz.isAgg234 Tryz.sizeOf234 At.row (fun _ => rfl) (isA id) 263 #[.pointer (some ⟨B, 0, none⟩)] eg263 gd 0 l.length cap l w (at_pred id B w hB hcell) (Nat.le_refl _) (by omega) (lt_of_block hg) (fun j hj i v hi => own_cells At.row 3 (fun _ => rfl) ho j hj i v hi)
    rw [List.take_length, idxBy_eq] at h
    exact h

set_option maxHeartbeats 400000 in
theorem head_gen (g : ByteArray) (qb : Nat) (v : Value) (l : List Ms) (w : World) (c7 : w.cell? ⟨qb, 7, none⟩ = some v) (ho : w.ownsRow 0 226 5 v l.length (l.flatMap Ms.row)) (hl : l.length ≤ 1000000) :
    Calls Tryz.prog 210 #[.pointer (some ⟨qb, 0, none⟩), .string g] w fun e w' => e = .returned (.int .i64 (idxL (isG g) l)) ∧ Below w.heap.size w w' := by
  have hlt := World.block_lt_of_cell? _ _ c7
  have hne : qb ≠ w.heap.size := by have := hlt; simp at this; omega
  have hmf : ∀ (fn : Fn) (first cap : Array Value) (w : World), (Instr.makeFunc fn first cap).run Tryz.prog w = .ok (.func fn first cap) w := fun _ _ _ _ => rfl
  have HI : Hid (Calls Tryz.prog 264 _ (w.alloc (.cells #[.string g] 9)) _) := idx_ms v l g w.heap.size (w.alloc (.cells #[.string g] 9)) (own_tch ho ((Tch.refl [] w).alloc _) (fun _ _ => by simp)) hl (by simp) (cell_of_one (heap_alloc_new _ _))
  clear ho
  generalize idxL (isG g) l = z at *
  go_enter Tryz.func210, Tryz.ntmps210
  go_wp2_with (go_at_call 264; refine HI.out.mono ?_; rintro e w' ⟨rfl, hb⟩)
  go_ret
  exact ⟨rfl, ((Below.refl _ _).alloc (Nat.le_refl _) _).trans (hb.mono (by simp))⟩
set_option maxHeartbeats 400000 in
theorem findDedup_gen (id : ByteArray) (qb : Nat) (v : Value) (l : List Dd) (w : World) (c9 : w.cell? ⟨qb, 9, none⟩ = some v) (ho : w.ownsRow 0 230 3 v l.length (l.flatMap Dd.row)) (hl : l.length ≤ 1000000) :
    Calls Tryz.prog 217 #[.pointer (some ⟨qb, 0, none⟩), .string id] w fun e w' => e = .returned (.int .i64 (idxL (isI id) l)) ∧ Below w.heap.size w w' := by
  have hlt := World.block_lt_of_cell? _ _ c9
  have hne : qb ≠ w.heap.size := by have := hlt; simp at this; omega
  have hmf : ∀ (fn : Fn) (first cap : Array Value) (w : World), (Instr.makeFunc fn first cap).run Tryz.prog w = .ok (.func fn first cap) w := fun _ _ _ _ => rfl
  have HI : Hid (Calls Tryz.prog 268 _ (w.alloc (.cells #[.string id] 9)) _) := idx_dd v l id w.heap.size (w.alloc (.cells #[.string id] 9)) (own_tch ho ((Tch.refl [] w).alloc _) (fun _ _ => by simp)) hl (by simp) (cell_of_one (heap_alloc_new _ _))
  clear ho
  generalize idxL (isI id) l = z at *
  go_enter Tryz.func217, Tryz.ntmps217
  go_wp2_with (go_at_call 268; refine HI.out.mono ?_; rintro e w' ⟨rfl, hb⟩)
  go_ret
  exact ⟨rfl, ((Below.refl _ _).alloc (Nat.le_refl _) _).trans (hb.mono (by simp))⟩
set_option maxHeartbeats 400000 in
theorem findAttempt_gen (id : ByteArray) (qb : Nat) (v : Value) (l : List At) (w : World) (c10 : w.cell? ⟨qb, 10, none⟩ = some v) (ho : w.ownsRow 0 234 3 v l.length (l.flatMap At.row)) (hl : l.length ≤ 1000000) :
    Calls Tryz.prog 209 #[.pointer (some ⟨qb, 0, none⟩), .string id] w fun e w' => e = .returned (.int .i64 (idxL (isA id) l)) ∧ Below w.heap.size w w' := by
  have hlt := World.block_lt_of_cell? _ _ c10
  have hne : qb ≠ w.heap.size := by have := hlt; simp at this; omega
  have hmf : ∀ (fn : Fn) (first cap : Array Value) (w : World), (Instr.makeFunc fn first cap).run Tryz.prog w = .ok (.func fn first cap) w := fun _ _ _ _ => rfl
  have HI : Hid (Calls Tryz.prog 262 _ (w.alloc (.cells #[.string id] 9)) _) := idx_at v l id w.heap.size (w.alloc (.cells #[.string id] 9)) (own_tch ho ((Tch.refl [] w).alloc _) (fun _ _ => by simp)) hl (by simp) (cell_of_one (heap_alloc_new _ _))
  clear ho
  generalize idxL (isA id) l = z at *
  go_enter Tryz.func209, Tryz.ntmps209
  go_wp2_with (go_at_call 262; refine HI.out.mono ?_; rintro e w' ⟨rfl, hb⟩)
  go_ret
  exact ⟨rfl, ((Below.refl _ _).alloc (Nat.le_refl _) _).trans (hb.mono (by simp))⟩
end Go.Proofs.YtbdobaapadlcjaaGreatDoor
