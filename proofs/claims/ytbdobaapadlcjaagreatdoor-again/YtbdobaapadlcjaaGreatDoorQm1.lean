/-
  A QUEUE WITH WHATEVER IT HAS: its rows; IndexFunc over them; head (210), findDedup (217), findAttempt (209).
  put (219) and Send's closure (218), whatever the queue has.
  Send (164), whatever the queue has: what is known, what is new; Send's closure (218) where nothing is remembered.
  A QUEUE AS A WHOLE: what it has, where it lies; what Send's closure leaves.
  WHAT A RECEIVER IS TOLD: oftener (213), AppendHandle (266), appendGiven (211).
-/
import Derived.Test.YtbdobaapadlcjaaGreatDoorTkO
import Derived.Test.YtbdobaapadlcjaaGreatDoorJrD
namespace Go.Proofs.YtbdobaapadlcjaaGreatDoor
open Go.Shelf Go.RowKit Go.Lib
set_option linter.unusedVariables false

def l262_ren : Go.Shelf.Ren := ⟨fun | 6 => 262 | n => n, fun | 22 => 189 | 23 => 234 | 25 => 297 | 3 => 3 | 0 => 0 | 4 => 4 | n => n, fun | n => n⟩
theorem l262 : Go.Proofs.SlLaysH0.n6 Tryz.prog l262_ren := {
  mixed := by kernel_rfl
  f6 := ⟨Tryz.f262.name, by decide, Tryz.func262.trans (congrArg some (by kernel_rfl))⟩
  t0 := Tryz.underlying0
  a0 := Tryz.isAgg0
  z0 := Tryz.sizeOf0
  v0 := Tryz.zeroValue0
  t3 := Tryz.underlying3
  a3 := Tryz.isAgg3
  z3 := Tryz.sizeOf3
  v3 := Tryz.zeroValue3
  t4 := Tryz.underlying4
  a4 := Tryz.isAgg4
  z4 := Tryz.sizeOf4
  v4 := Tryz.zeroValue4
  t22 := Tryz.underlying189
  a22 := Tryz.isAgg189
  z22 := Tryz.sizeOf189
  v22 := Tryz.zeroValue189
  t25 := Tryz.underlying297
  a25 := Tryz.isAgg297
  z25 := Tryz.sizeOf297
  v25 := Tryz.zeroValue297 }

/-- An attempt's three cells. -/
structure At where
  id : ByteArray
  til : Int
  ans : ByteArray
def At.row (x : At) : List Value := [.string x.id, .int .i64 x.til, .string x.ans]

/-- The first place at which p holds, or -1. -/
def idxL {α : Type} (p : α → Bool) : List α → Int
  | [] => -1
  | x :: l => if p x = true then 0 else (if idxL p l < 0 then -1 else idxL p l + 1)
theorem idxL_ge {α : Type} (p : α → Bool) (l : List α) : -1 ≤ idxL p l := by
  induction l with
  | nil => exact Int.le_refl _
  | cons x l ih => simp only [idxL]; split <;> (try split) <;> omega
theorem idxL_lt {α : Type} (p : α → Bool) (l : List α) : idxL p l < l.length := by
  induction l with
  | nil => simp [idxL]
  | cons x l ih => simp only [idxL, List.length_cons]; split <;> (try split) <;> omega
theorem idxByFrom_eq {α : Type} (p : α → Bool) (d : α) (l : List α) (i : Nat) : Lib.idxByFrom (fun _ y => p y) d l i = if idxL p l < 0 then -1 else idxL p l + i := by
  induction l generalizing i with
  | nil => rfl
  | cons x l ih =>
    simp only [Lib.idxByFrom, idxL]
    have h1 := idxL_ge p l
    by_cases hx : p x = true
    · simp [hx]
    · simp only [hx, if_false, Bool.false_eq_true]
      rw [ih]
      by_cases h2 : idxL p l < 0
      · simp [h2]
      · have h3 : ¬ (idxL p l + 1 < 0) := by omega
        simp only [h2, h3, if_false]
        omega
theorem idxBy_eq {α : Type} (p : α → Bool) (d : α) (l : List α) : Lib.idxBy (fun _ y => p y) l d = idxL p l := by
  have h1 := idxL_ge p l
  rw [Lib.idxBy, idxByFrom_eq]
  split <;> omega
theorem idxL_neg {α : Type} (p : α → Bool) (l : List α) : idxL p l < 0 ↔ ∀ x ∈ l, p x = false := by
  induction l with
  | nil => simp [idxL]
  | cons x l ih =>
    have h1 := idxL_ge p l
    simp only [idxL, List.mem_cons, forall_eq_or_imp]
    by_cases hx : p x = true
    · simp [hx]
    · have hx' : p x = false := by simpa using hx
      simp only [hx', Bool.false_eq_true, if_false, true_and, ← ih]
      split <;> omega

/-- Rows of k cells each, one behind the other. -/
theorem flat_get {α : Type} (row : α → List Value) (k : Nat) (hk : ∀ x, (row x).length = k) (l : List α) (j i : Nat) (hj : j < l.length) (hi : i < k) : (l.flatMap row)[j * k + i]? = (row l[j])[i]? := by
  induction l generalizing j with
  | nil => simp at hj
  | cons x l ih =>
    rw [List.flatMap_cons]
    cases j with
    | zero =>
      rw [Nat.zero_mul, Nat.zero_add, List.getElem?_append_left (by rw [hk]; exact hi)]
      rfl
    | succ j =>
      have e : (j + 1) * k + i = (row x).length + (j * k + i) := by rw [hk, Nat.add_mul, Nat.one_mul]; omega
      rw [e, List.getElem?_append_right (by omega), Nat.add_sub_cancel_left, ih j (by simpa using hj)]
      rfl
theorem flat_len {α : Type} (row : α → List Value) (k : Nat) (hk : ∀ x, (row x).length = k) (l : List α) : (l.flatMap row).length = l.length * k := by
  induction l with
  | nil => simp
  | cons x l ih => rw [List.flatMap_cons, List.length_append, ih, hk, List.length_cons, Nat.add_mul]; omega
/-- The cells of a row of one's own. -/
theorem own_cells {α : Type} [Inhabited α] (row : α → List Value) (k : Nat) (hk : ∀ x, (row x).length = k) {w : World} {t : TypeId} {n c g : Nat} {l : List α} (h : w.ownsRow 0 t k (.slice (some ⟨g, 0, none⟩) n c) l.length (l.flatMap row)) (j : Nat) (hj : j < l.length) (i : Nat) (v : Value) (hv : (row l[j]!)[i]? = some v) : w.cell? ⟨g, 0 + j * k + i, none⟩ = some v := by
  have hi : i < k := by
    have := (List.getElem?_eq_some_iff.1 hv).1
    rw [hk] at this
    exact this
  have e : l[j]! = l[j] := by rw [List.getElem!_eq_getElem?_getD, List.getElem?_eq_getElem hj]; rfl
  rw [e, ← flat_get row k hk l j i hj hi] at hv
  have h1 := World.ownsRow.cells h (g := g) rfl (j * k + i) v hv
  have e2 : (⟨g, 0, none⟩ : Addr).add (j * k + i) = ⟨g, 0 + j * k + i, none⟩ := by unfold Addr.add; split <;> simp_all
  rw [e2] at h1
  exact h1

theorem at_pred (id : ByteArray) (B : Nat) (w : World) (hB : B < w.heap.size) (hcell : w.cell? ⟨B, 0, none⟩ = some (.string id)) :
    PredBelow Tryz.prog 263 #[.pointer (some ⟨B, 0, none⟩)] (fun x : At => .agg x.row.toArray) (fun x => x.id.toList == id.toList) w := fun W x hb => by
  have hc : W.cell? ⟨B, 0, none⟩ = some (.string id) := (hb.cell (p := ⟨B, 0, none⟩) hB).trans hcell
  have hBW : B < W.heap.size := Nat.lt_of_lt_of_le hB hb.size
  have hne : B ≠ W.heap.size := by omega
  show Calls Tryz.prog 263 #[.agg #[.string x.id, .int .i64 x.til, .string x.ans], .pointer (some ⟨B, 0, none⟩)] W _
  go_enter Tryz.func263, Tryz.ntmps263
  go_wp2
  all_goals (go_ret; exact ⟨by simp_all, hb.alloc hb.size _⟩)
set_option maxHeartbeats 400000 in
theorem idx_at_nil (a : Option Addr) (c : Nat) (fv : Value) (w : World) : Calls Tryz.prog 262 #[.slice a 0 c, fv] w fun e w' => e = .returned (.int .i64 (-1)) ∧ w' = w := by
  go_enter Tryz.func262, Tryz.ntmps262
  go_wp2
  go_loopg [5, 8] 0 (fun gg _ s8 wr => s8 = .int .i64 0 ∧ wr = w)
  case atStart => exact ⟨rfl, rfl⟩
  case round =>
    obtain ⟨rfl, rfl⟩ := hrel
    go_wp2
    go_ret
    exact ⟨rfl, rfl⟩
theorem eg263 : ∀ args w, (callFunc 263 args).run Tryz.prog w = .ok (.enter 263 args) w := enters_of Tryz.func263 (by kernel_rfl) rfl

abbrev isG (g : ByteArray) (x : Ms) : Bool := x.grp.toList == g.toList
abbrev isI (id : ByteArray) (x : Dd) : Bool := x.id.toList == id.toList
abbrev isA (id : ByteArray) (x : At) : Bool := x.id.toList == id.toList

theorem idx_ms (v : Value) (l : List Ms) (g : ByteArray) (B : Nat) (w : World) (ho : w.ownsRow 0 226 5 v l.length (l.flatMap Ms.row)) (hl : l.length ≤ 1000000) (hB : B < w.heap.size) (hcell : w.cell? ⟨B, 0, none⟩ = some (.string g)) :
    Calls Tryz.prog 264 #[v, .func (.func 265) #[] #[.pointer (some ⟨B, 0, none⟩)]] w fun e w' => e = .returned (.int .i64 (idxL (isG g) l)) ∧ Below w.heap.size w w' := by
  have inh : Inhabited Ms := ⟨⟨0, ⟨#[]⟩, ⟨#[]⟩, 0, 0⟩⟩
  rcases ho.2 with ⟨rfl, h0⟩ | ⟨gd, cap, cur, rfl, _, hg, _⟩
  · have e0 : l = [] := List.length_eq_zero_iff.1 h0
    subst e0
    refine (idx_ms_none none 0 _ w).mono ?_
    rintro e w' ⟨rfl, rfl⟩
    exact ⟨rfl, Below.refl _ _⟩
  · have h := AnyQ.slices_IndexFunc l197 5 Tryz.isAgg226 Tryz.sizeOf226 Ms.row (fun _ => rfl) (isG g) 265 #[.pointer (some ⟨B, 0, none⟩)] eg198 gd 0 l.length cap l w (ms_pred g B w hB hcell) (Nat.le_refl _) (by omega) (lt_of_block hg) (fun j hj i v hi => own_cells Ms.row 5 (fun _ => rfl) ho j hj i v hi)
    rw [List.take_length, idxBy_eq] at h
    exact h
theorem idx_dd (v : Value) (l : List Dd) (id : ByteArray) (B : Nat) (w : World) (ho : w.ownsRow 0 230 3 v l.length (l.flatMap Dd.row)) (hl : l.length ≤ 1000000) (hB : B < w.heap.size) (hcell : w.cell? ⟨B, 0, none⟩ = some (.string id)) :
    Calls Tryz.prog 268 #[v, .func (.func 269) #[] #[.pointer (some ⟨B, 0, none⟩)]] w fun e w' => e = .returned (.int .i64 (idxL (isI id) l)) ∧ Below w.heap.size w w' := by
  have inh : Inhabited Dd := ⟨⟨⟨#[]⟩, 0, 0⟩⟩
  rcases ho.2 with ⟨rfl, h0⟩ | ⟨gd, cap, cur, rfl, _, hg, _⟩
  · have e0 : l = [] := List.length_eq_zero_iff.1 h0
    subst e0
    refine (idx_dd_none none 0 _ w).mono ?_
    rintro e w' ⟨rfl, rfl⟩
    exact ⟨rfl, Below.refl _ _⟩
  · have h := AnyQ.slices_IndexFunc l201 3 Tryz.isAgg230 Tryz.sizeOf230 Dd.row (fun _ => rfl) (isI id) 269 #[.pointer (some ⟨B, 0, none⟩)] eg202 gd 0 l.length cap l w (dd_pred id B w hB hcell) (Nat.le_refl _) (by omega) (lt_of_block hg) (fun j hj i v hi => own_cells Dd.row 3 (fun _ => rfl) ho j hj i v hi)
    rw [List.take_length, idxBy_eq] at h
    exact h
theorem idx_at (v : Value) (l : List At) (id : ByteArray) (B : Nat) (w : World) (ho : w.ownsRow 0 234 3 v l.length (l.flatMap At.row)) (hl : l.length ≤ 1000000) (hB : B < w.heap.size) (hcell : w.cell? ⟨B, 0, none⟩ = some (.string id)) :
    Calls Tryz.prog 262 #[v, .func (.func 263) #[] #[.pointer (some ⟨B, 0, none⟩)]] w fun e w' => e = .returned (.int .i64 (idxL (isA id) l)) ∧ Below w.heap.size w w' := by
  have inh : Inhabited At := ⟨⟨⟨#[]⟩, 0, ⟨#[]⟩⟩⟩
  rcases ho.2 with ⟨rfl, h0⟩ | ⟨gd, cap, cur, rfl, _, hg, _⟩
  · have e0 : l = [] := List.length_eq_zero_iff.1 h0
    subst e0
    refine (idx_at_nil none 0 _ w).mono ?_
    rintro e w' ⟨rfl, rfl⟩
    exact ⟨rfl, Below.refl _ _⟩
  · have h := AnyQ.slices_IndexFunc l262 3 Tryz.isAgg234 Tryz.sizeOf234 At.row (fun _ => rfl) (isA id) 263 #[.pointer (some ⟨B, 0, none⟩)] eg263 gd 0 l.length cap l w (at_pred id B w hB hcell) (Nat.le_refl _) (by omega) (lt_of_block hg) (fun j hj i v hi => own_cells At.row 3 (fun _ => rfl) ho j hj i v hi)
    rw [List.take_length, idxBy_eq] at h
    exact h

set_option maxHeartbeats 400000 in
theorem head_gen (g : ByteArray) (qb : Nat) (v : Value) (l : List Ms) (w : World) (c7 : w.cell? ⟨qb, 7, none⟩ = some v) (ho : w.ownsRow 0 226 5 v l.length (l.flatMap Ms.row)) (hl : l.length ≤ 1000000) :
    Calls Tryz.prog 210 #[.pointer (some ⟨qb, 0, none⟩), .string g] w fun e w' => e = .returned (.int .i64 (idxL (isG g) l)) ∧ Below w.heap.size w w' := by
  have hlt := World.block_lt_of_cell? _ _ c7
  have hne : qb ≠ w.heap.size := by have := hlt; simp at this; omega
  have hmf : ∀ (fn : Fn) (first cap : Array Value) (w : World), (Instr.makeFunc fn first cap).run Tryz.prog w = .ok (.func fn first cap) w := fun _ _ _ _ => rfl
  have HI : Hid (Calls Tryz.prog 264 _ (w.alloc (.cells #[.string g] 9)) _) := idx_ms v l g w.heap.size (w.alloc (.cells #[.string g] 9)) (own_tch ho ((Tch.refl [] w).alloc _) (fun _ _ => by simp)) hl (by simp) (cell_of_one (heap_alloc_new _ _))
  clear ho
  generalize idxL (isG g) l = z at *
  go_enter Tryz.func210, Tryz.ntmps210
  go_wp2_with (go_at_call 264; refine HI.out.mono ?_; rintro e w' ⟨rfl, hb⟩)
  go_ret
  exact ⟨rfl, ((Below.refl _ _).alloc (Nat.le_refl _) _).trans (hb.mono (by simp))⟩
set_option maxHeartbeats 400000 in
theorem findDedup_gen (id : ByteArray) (qb : Nat) (v : Value) (l : List Dd) (w : World) (c9 : w.cell? ⟨qb, 9, none⟩ = some v) (ho : w.ownsRow 0 230 3 v l.length (l.flatMap Dd.row)) (hl : l.length ≤ 1000000) :
    Calls Tryz.prog 217 #[.pointer (some ⟨qb, 0, none⟩), .string id] w fun e w' => e = .returned (.int .i64 (idxL (isI id) l)) ∧ Below w.heap.size w w' := by
  have hlt := World.block_lt_of_cell? _ _ c9
  have hne : qb ≠ w.heap.size := by have := hlt; simp at this; omega
  have hmf : ∀ (fn : Fn) (first cap : Array Value) (w : World), (Instr.makeFunc fn first cap).run Tryz.prog w = .ok (.func fn first cap) w := fun _ _ _ _ => rfl
  have HI : Hid (Calls Tryz.prog 268 _ (w.alloc (.cells #[.string id] 9)) _) := idx_dd v l id w.heap.size (w.alloc (.cells #[.string id] 9)) (own_tch ho ((Tch.refl [] w).alloc _) (fun _ _ => by simp)) hl (by simp) (cell_of_one (heap_alloc_new _ _))
  clear ho
  generalize idxL (isI id) l = z at *
  go_enter Tryz.func217, Tryz.ntmps217
  go_wp2_with (go_at_call 268; refine HI.out.mono ?_; rintro e w' ⟨rfl, hb⟩)
  go_ret
  exact ⟨rfl, ((Below.refl _ _).alloc (Nat.le_refl _) _).trans (hb.mono (by simp))⟩
set_option maxHeartbeats 400000 in
theorem findAttempt_gen (id : ByteArray) (qb : Nat) (v : Value) (l : List At) (w : World) (c10 : w.cell? ⟨qb, 10, none⟩ = some v) (ho : w.ownsRow 0 234 3 v l.length (l.flatMap At.row)) (hl : l.length ≤ 1000000) :
    Calls Tryz.prog 209 #[.pointer (some ⟨qb, 0, none⟩), .string id] w fun e w' => e = .returned (.int .i64 (idxL (isA id) l)) ∧ Below w.heap.size w w' := by
  have hlt := World.block_lt_of_cell? _ _ c10
  have hne : qb ≠ w.heap.size := by have := hlt; simp at this; omega
  have hmf : ∀ (fn : Fn) (first cap : Array Value) (w : World), (Instr.makeFunc fn first cap).run Tryz.prog w = .ok (.func fn first cap) w := fun _ _ _ _ => rfl
  have HI : Hid (Calls Tryz.prog 262 _ (w.alloc (.cells #[.string id] 9)) _) := idx_at v l id w.heap.size (w.alloc (.cells #[.string id] 9)) (own_tch ho ((Tch.refl [] w).alloc _) (fun _ _ => by simp)) hl (by simp) (cell_of_one (heap_alloc_new _ _))
  clear ho
  generalize idxL (isA id) l = z at *
  go_enter Tryz.func209, Tryz.ntmps209
  go_wp2_with (go_at_call 262; refine HI.out.mono ?_; rintro e w' ⟨rfl, hb⟩)
  go_ret
  exact ⟨rfl, ((Below.refl _ _).alloc (Nat.le_refl _) _).trans (hb.mono (by simp))⟩
end Go.Proofs.YtbdobaapadlcjaaGreatDoor

namespace Go.Proofs.YtbdobaapadlcjaaGreatDoor
open Go.RowKit
set_option linter.unusedVariables false
set_option linter.unusedSimpArgs false

/-- What is left when a message was appended in W, and the queue's fields are set. -/
theorem putg_fin (K : World → Prop) (c : Wp.Rq) (g bd : ByteArray) (qb k nm nr : Nat) (ms rs0 rs ds at_ : Value) (xm xr : List Value) (w W : World) (ht : Tch (qb :: bl rs0) w W)
    (hq : Qb W qb c (k : Int) ms rs ds at_) (hm : W.ownsRow 0 226 5 ms nm xm) (hr : W.ownsRow 0 9 1 rs nr xr)
    (hK : ∀ w' ms' rs', Qb w' qb c ((k + 1 : Nat) : Int) ms' rs' ds at_ → w'.ownsRow 0 226 5 ms' (nm + 1) (xm ++ msV k g bd) → w'.ownsRow 0 9 1 rs' nr xr → NewOr w ms ms' → NewOr w rs0 rs' → Tch (qb :: (bl ms ++ bl rs0)) w w' → K w') (hNr : NewOr w rs0 rs)
    (v' : Value) (w' : World) (ho : w'.ownsRow 0 226 5 v' (nm + 1) (xm ++ msV k g bd)) (hg : (W.drew.alloc (.cells (msV k g bd).toArray 226)).grownBy w' ms.ownBlock) (hb : v'.ownBlock = ms.ownBlock ∨ v'.ownBlock = some (W.drew.alloc (.cells (msV k g bd).toArray 226)).heap.size) :
    ∃ g4 cap4, v' = .slice (some ⟨g4, 0, none⟩) (nm + 1) cap4 ∧ w'.cell? ⟨qb, 7, none⟩ = some ms ∧ w'.frozen? ⟨qb, 7, none⟩ = false ∧ (w'.setCell ⟨qb, 7, none⟩ v').cell? ⟨qb, 6, none⟩ = some (.int .i64 (k : Int)) ∧ (w'.setCell ⟨qb, 7, none⟩ v').frozen? ⟨qb, 6, none⟩ = false ∧
      K ((w'.setCell ⟨qb, 7, none⟩ v').setCell ⟨qb, 6, none⟩ (.int .i64 ((k : Int) + 1))) := by
  obtain ⟨g4, cap4, hv⟩ := own_some ho
  have t1 : Tch [] W (W.drew.alloc (.cells (msV k g bd).toArray 226)) := (Tch.refl _ _).drew.alloc _
  have t2 : Tch (bl ms) W w' := (t1.sub (by simp)).trans (grown_tch hg) (fun x hx _ => hx)
  have hq1 : Qb w' qb c (k : Int) ms rs ds at_ := (t2.block _ hq.lt (fun e => own_ne hm hq (by decide) (mem_bl.1 e))).trans hq
  have hq2 := hq1.set7 v'
  have t3 : Tch [qb] w' ((w'.setCell ⟨qb, 7, none⟩ v').setCell ⟨qb, 6, none⟩ (.int .i64 ((k : Int) + 1))) := ((Tch.refl _ _).setCell (fun _ => by simp) _).setCell (fun _ => by simp) _
  have hr' : w'.ownsRow 0 9 1 rs nr xr := own_tch hr t2 (fun j hj hm' => by
    have e := mem_bl.1 hm'
    rcases hr.2 with ⟨rfl, _⟩ | ⟨g', cap', cur', rfl, _, hg', _⟩
    · simp [Value.ownBlock] at hj
    · simp only [Value.ownBlock, Option.some.injEq] at hj
      subst hj
      exact own_ne hm hg' (by decide) e)
  refine ⟨g4, cap4, hv, cell_qC hq1 7 _ rfl, hq1.fz 7, cell_qC hq2 6 _ rfl, hq2.fz 6, hK _ v' rs (hq2.set6 _) (own_tch ho t3 (fun j hj hm' => ?_)) (own_tch hr' t3 (fun j hj hm' => ?_)) (NewOr.of (Nat.le_trans ht.size t1.size) hb) hNr ?_⟩
  · simp at hm'
    subst hm'
    exact own_ne ho hq1 (by decide) hj
  · simp at hm'
    subst hm'
    exact own_ne hr' hq1 (by decide) hj
  · refine ((ht.sub (S' := qb :: (bl ms ++ bl rs0)) (fun x hx _ => ?_)).trans t2 (fun x hx _ => ?_)).trans t3 (fun x hx _ => ?_)
    · rcases List.mem_cons.1 hx with h | h
      · exact List.mem_cons.2 (.inl h)
      · exact List.mem_cons.2 (.inr (List.mem_append.2 (.inr h)))
    · exact List.mem_cons.2 (.inr (List.mem_append.2 (.inl hx)))
    · exact List.mem_cons.2 (.inl (by simpa using hx))

set_option maxRecDepth 8000 in
set_option maxHeartbeats 2000000 in
theorem putg_walk (K : World → Prop) (c : Wp.Rq) (g bd : ByteArray) (qb k nr : Nat) (ms rs ds at_ : Value) (l : List Ms) (xr : List Value) (w : World)
    (hq : Qb w qb c (k : Int) ms rs ds at_) (hm : w.ownsRow 0 226 5 ms l.length (l.flatMap Ms.row)) (hr : w.ownsRow 0 9 1 rs nr xr) (hnm : l.length ≤ 1000) (hnr : nr ≤ 1000) (hk : k ≤ 200)
    (hK : ∀ w' ms' rs', Qb w' qb c ((k + 1 : Nat) : Int) ms' rs' ds at_ → w'.ownsRow 0 226 5 ms' (l.length + 1) (l.flatMap Ms.row ++ msV k g bd) → w'.ownsRow 0 9 1 rs' (if idxL (isG g) l < 0 then nr + 1 else nr) (if idxL (isG g) l < 0 then xr ++ [.string g] else xr) → NewOr w ms ms' → NewOr w rs rs' → Tch (qb :: (bl ms ++ bl rs)) w w' → K w') :
    Calls Tryz.prog 219 #[.pointer (some ⟨qb, 0, none⟩), .string g, .string bd] w fun e w' => e = .returned (.tuple #[]) ∧ K w' := by
  have hlt := hq.lt
  have HQ : Hid (Qb w qb c (k : Int) ms rs ds at_) := hq
  have HH : Hid (Calls Tryz.prog 210 _ w _) := head_gen g qb ms l w (cell_qC hq 7 _ rfl) hm (by omega)
  generalize idxL (isG g) l = z at HH hK
  generalize l.flatMap Ms.row = xm at *
  generalize l.length = nm at *
  have HM : Hid (w.ownsRow 0 226 5 ms nm xm) := hm
  have HR : Hid (w.ownsRow 0 9 1 rs nr xr) := hr
  have HK0 : Hid (∀ w' ms' rs', _) := hK
  clear hq hm hr hK
  go_enter Tryz.func219, Tryz.ntmps219
  go_wp2_with fail
  refine HH.out.mono ?_
  rintro e w1 ⟨rfl, hb1⟩
  have t1 := Tch.of_below hb1
  have hq1 : Qb w1 qb c (k : Int) ms rs ds at_ := (t1.block _ hlt (by simp)).trans HQ.out
  have HQ1 : Hid (Qb w1 qb c (k : Int) ms rs ds at_) := hq1
  have HM1 : Hid (w1.ownsRow 0 226 5 ms nm xm) := own_tch HM.out t1 (fun _ _ => by simp)
  have HR1 : Hid (w1.ownsRow 0 9 1 rs nr xr) := own_tch HR.out t1 (fun _ _ => by simp)
  have T1 : Hid (Tch [] w w1) := t1
  have hlt1 := hq1.lt
  have hK := HK0.out
  by_cases hz : z < 0
  · simp only [hz, if_true] at hK
    have HK : Hid (∀ w' ms' rs', _) := hK
    clear hK
    have q8 : w1.cell? ⟨qb, 8, none⟩ = some rs := cell_qC hq1 8 _ rfl
    clear hq1 hb1 t1
    go_wp2_with (at_builtin; refine wpList_vals _ rfl _ _ 25 9 rfl Tryz.underlying25 (.string ⟨#[]⟩) 1 16 info9 rfl (by decide) (by decide) rs nr xr ?hs ?own w1.heap.size [.string g] 1 ?hx rfl (by decide) ?hg ?one (by omega) ?k)
    case hs => simp [Act.eval, Act.put]
    case own => exact own_tch HR1.out ((Tch.refl [] _).alloc _) (fun _ _ => by simp)
    case hx => simp [Act.eval, Act.put]
    case hg => exact heap_alloc_new _ _
    case one => intro u hu; simp at hu; subst hu; rfl
    intro v2 w2 ho2 hg2 hb2
    have t2 : Tch (bl rs) w1 w2 := (((Tch.refl [] w1).alloc _).sub (by simp)).trans (grown_tch hg2) (fun x hx _ => hx)
    have hq2 : Qb w2 qb c (k : Int) ms rs ds at_ := (t2.block _ hlt1 (fun e => own_ne HR1.out HQ1.out (by decide) (mem_bl.1 e))).trans HQ1.out
    obtain ⟨g2, cap2, hv2⟩ := own_some ho2
    subst hv2
    have t3 : Tch [qb] w2 (w2.setCell ⟨qb, 8, none⟩ (.slice (some ⟨g2, 0, none⟩) (nr + 1) cap2)) := (Tch.refl _ _).setCell (fun _ => by simp) _
    have HQ3 : Hid (Qb (w2.setCell ⟨qb, 8, none⟩ (.slice (some ⟨g2, 0, none⟩) (nr + 1) cap2)) qb c (k : Int) ms (.slice (some ⟨g2, 0, none⟩) (nr + 1) cap2) ds at_) := hq2.set8 _
    have HM2 : w2.ownsRow 0 226 5 ms nm xm := own_tch HM1.out t2 (fun j hj hm' => by
      have e := mem_bl.1 hm'
      rcases HM1.out.2 with ⟨rfl, _⟩ | ⟨g', cap', cur', rfl, _, hg', _⟩
      · simp [Value.ownBlock] at hj
      · simp only [Value.ownBlock, Option.some.injEq] at hj
        subst hj
        exact own_ne HR1.out hg' (by decide) e)
    have HM3 : Hid ((w2.setCell ⟨qb, 8, none⟩ (.slice (some ⟨g2, 0, none⟩) (nr + 1) cap2)).ownsRow 0 226 5 ms nm xm) := own_tch HM2 t3 (fun j hj hm' => by
      simp at hm'
      subst hm'
      exact own_ne HM2 hq2 (by decide) hj)
    have HR3 : Hid ((w2.setCell ⟨qb, 8, none⟩ (.slice (some ⟨g2, 0, none⟩) (nr + 1) cap2)).ownsRow 0 9 1 (.slice (some ⟨g2, 0, none⟩) (nr + 1) cap2) (nr + 1) (xr ++ [.string g])) := own_tch ho2 t3 (fun j hj hm' => by
      simp at hm'
      subst hm'
      exact own_ne ho2 hq2 (by decide) hj)
    have T3 : Hid (Tch (qb :: bl rs) w (w2.setCell ⟨qb, 8, none⟩ (.slice (some ⟨g2, 0, none⟩) (nr + 1) cap2))) := ((T1.out.sub (by simp)).trans t2 (fun x hx _ => List.mem_cons.2 (.inr hx))).trans t3 (fun x hx _ => List.mem_cons.2 (.inl (by simpa using hx)))
    have HNR : Hid (NewOr w rs (.slice (some ⟨g2, 0, none⟩) (nr + 1) cap2)) := fun j hj => by
      rcases hb2 with h | h
      · exact .inl (h.symm.trans hj)
      · rw [hj] at h
        injection h with h
        have := T1.out.size
        exact .inr (by omega)
    have c8 : w2.cell? ⟨qb, 8, none⟩ = some rs := cell_qC hq2 8 _ rfl
    have z8 := hq2.fz 8
    clear ho2 hg2 hb2 t2 hq2 t3 HM2 q8
    go_wp2_with fail
    generalize hWW : w2.setCell ⟨qb, 8, none⟩ (.slice (some ⟨g2, 0, none⟩) (nr + 1) cap2) = WW at HQ3 HM3 HR3 T3 ⊢
    have HQW : Hid (Qb WW qb c (k : Int) ms (.slice (some ⟨g2, 0, none⟩) (nr + 1) cap2) ds at_) := HQ3
    have HMW : Hid (WW.ownsRow 0 226 5 ms nm xm) := HM3
    have HRW : Hid (WW.ownsRow 0 9 1 (.slice (some ⟨g2, 0, none⟩) (nr + 1) cap2) (nr + 1) (xr ++ [.string g])) := HR3
    have TW : Hid (Tch (qb :: bl rs) w WW) := T3
    clear HQ3 HM3 HR3 T3 hWW c8 z8
    have q6 : WW.cell? ⟨qb, 6, none⟩ = some (.int .i64 (k : Int)) := cell_qC HQW.out 6 _ rfl
    have q7 : WW.cell? ⟨qb, 7, none⟩ = some ms := cell_qC HQW.out 7 _ rfl
    have q7a : (WW.alloc (.cells (msV k g bd).toArray 226)).cell? ⟨qb, 7, none⟩ = some ms := Lib.cell?_alloc_some _ q7
    have hltW : qb < WW.heap.size := HQW.out.lt
    have HG : Hid (∀ v' w', w'.ownsRow 0 226 5 v' (nm + 1) (xm ++ msV k g bd) → (WW.drew.alloc (.cells (msV k g bd).toArray 226)).grownBy w' ms.ownBlock → (v'.ownBlock = ms.ownBlock ∨ v'.ownBlock = some (WW.drew.alloc (.cells (msV k g bd).toArray 226)).heap.size) → _) := fun v' w' => putg_fin K c g bd qb k nm (nr + 1) ms rs (.slice (some ⟨g2, 0, none⟩) (nr + 1) cap2) ds at_ xm (xr ++ [.string g]) w WW TW.out HQW.out HMW.out HRW.out HK.out HNR.out v' w'
    go_region_law (refine step_vals rfl (.tmp 24) (.tmp 32) 187 226 rfl Tryz.underlying187 (.agg #[.int .i64 0, .string ⟨#[]⟩, .string ⟨#[]⟩, .int .i64 0, .int .i64 0]) 5 56 info214 rfl (by decide) (by decide) ms nm xm (by simp [Act.eval, Act.put]) (own_tch HMW.out ((Tch.refl [] _).drew.alloc _) (fun _ _ => by simp)) WW.heap.size (msV k g bd) 1 (by simp [Act.eval, Act.put]) rfl (by decide) (heap_alloc_new _ _) (by intro u hu; simp at hu; rcases hu with rfl | rfl | rfl | rfl | rfl <;> rfl) (by omega) ?_; intro v' w9 ho3 hg3 hb3; obtain ⟨g4, cap4, hv4, c9, z9, c6, z6, hfin⟩ := HG.out v' w9 ho3 hg3 hb3; subst hv4; clear ho3 hg3 hb3; have HFIN : Hid (K _) := hfin; clear hfin)
    all_goals (go_wp2_with fail; go_end0; exact ⟨rfl, HFIN.out⟩)
  · simp only [hz, if_false] at hK
    have HK : Hid (∀ w' ms' rs', _) := hK
    clear hK hq1 hb1 t1
    go_wp2_with fail
    have HQW : Hid (Qb w1 qb c (k : Int) ms rs ds at_) := HQ1
    have HMW : Hid (w1.ownsRow 0 226 5 ms nm xm) := HM1
    have HRW : Hid (w1.ownsRow 0 9 1 rs nr xr) := HR1
    have TW : Hid (Tch (qb :: bl rs) w w1) := T1.out.sub (by simp)
    have HNR : Hid (NewOr w rs rs) := NewOr.refl _ _
    have q6 : w1.cell? ⟨qb, 6, none⟩ = some (.int .i64 (k : Int)) := cell_qC HQW.out 6 _ rfl
    have q7 : w1.cell? ⟨qb, 7, none⟩ = some ms := cell_qC HQW.out 7 _ rfl
    have q7a : (w1.alloc (.cells (msV k g bd).toArray 226)).cell? ⟨qb, 7, none⟩ = some ms := Lib.cell?_alloc_some _ q7
    have hltW : qb < w1.heap.size := HQW.out.lt
    have HG : Hid (∀ v' w', w'.ownsRow 0 226 5 v' (nm + 1) (xm ++ msV k g bd) → (w1.drew.alloc (.cells (msV k g bd).toArray 226)).grownBy w' ms.ownBlock → (v'.ownBlock = ms.ownBlock ∨ v'.ownBlock = some (w1.drew.alloc (.cells (msV k g bd).toArray 226)).heap.size) → _) := fun v' w' => putg_fin K c g bd qb k nm nr ms rs rs ds at_ xm xr w w1 TW.out HQW.out HMW.out HRW.out HK.out HNR.out v' w'
    go_region_law (refine step_vals rfl (.tmp 24) (.tmp 32) 187 226 rfl Tryz.underlying187 (.agg #[.int .i64 0, .string ⟨#[]⟩, .string ⟨#[]⟩, .int .i64 0, .int .i64 0]) 5 56 info214 rfl (by decide) (by decide) ms nm xm (by simp [Act.eval, Act.put]) (own_tch HMW.out ((Tch.refl [] _).drew.alloc _) (fun _ _ => by simp)) w1.heap.size (msV k g bd) 1 (by simp [Act.eval, Act.put]) rfl (by decide) (heap_alloc_new _ _) (by intro u hu; simp at hu; rcases hu with rfl | rfl | rfl | rfl | rfl <;> rfl) (by omega) ?_; intro v' w9 ho3 hg3 hb3; obtain ⟨g4, cap4, hv4, c9, z9, c6, z6, hfin⟩ := HG.out v' w9 ho3 hg3 hb3; subst hv4; clear ho3 hg3 hb3; have HFIN : Hid (K _) := hfin; clear hfin)
    all_goals (go_wp2_with fail; go_end0; exact ⟨rfl, HFIN.out⟩)

theorem sentg_fin (K : World → Prop) (c r : Wp.Rq) (y : Sl) (id : ByteArray) (qb k nr nd gq gi gn gr : Nat) (now til : Int) (vd ms rs at_ : Value) (l : List Ms) (xr xd : List Value) (w : World)
    (hq : Qb w qb c (k : Int) ms rs vd at_) (hm : w.ownsRow 0 226 5 ms l.length (l.flatMap Ms.row)) (hr : w.ownsRow 0 9 1 rs nr xr) (hd : w.ownsRow 0 230 3 vd nd xd) (hnm : l.length ≤ 1000) (hnd : nd ≤ 1000) (hnr : nr ≤ 1000) (hk : k ≤ 200)
    (hgq : w.heap[gq]? = some (.cells #[.pointer (some ⟨qb, 0, none⟩)] 152 (0, 0))) (hgr : w.heap[gr]? = some (.cells (cellsOf r y.v) 27 (0, 0)))
    (hgi : w.heap[gi]? = some (.cells #[.string id] 9 (0, 0))) (hgn : w.heap[gn]? = some (.cells #[.int .i64 now] 3 (0, 0)))
    (hK : ∀ w' ms' rs' ds', Qb w' qb c ((k + 1 : Nat) : Int) ms' rs' ds' at_ → w'.ownsRow 0 226 5 ms' (l.length + 1) (l.flatMap Ms.row ++ msV k r.grp r.bod) → w'.ownsRow 0 9 1 rs' (if idxL (isG r.grp) l < 0 then nr + 1 else nr) (if idxL (isG r.grp) l < 0 then xr ++ [.string r.grp] else xr) → w'.ownsRow 0 230 3 ds' (nd + 1) (xd ++ ddV id k til) → NewOr w ms ms' → NewOr w rs rs' → (∀ j, ds'.ownBlock = some j → vd.ownBlock = some j ∨ w.heap.size ≤ j) → Tch (qb :: (bl vd ++ (bl ms ++ bl rs))) w w' → K w')
    (v' : Value) (w' : World) (ho : w'.ownsRow 0 230 3 v' (nd + 1) (xd ++ ddV id k til)) (hg : (w.drew.alloc (.cells (ddV id k til).toArray 230)).grownBy w' vd.ownBlock) (hb : v'.ownBlock = vd.ownBlock ∨ v'.ownBlock = some (w.drew.alloc (.cells (ddV id k til).toArray 230)).heap.size) :
    ∃ g4 cap4, v' = .slice (some ⟨g4, 0, none⟩) (nd + 1) cap4 ∧ Sf w' gq gi gn qb id now c.win k ∧ w'.cell? ⟨qb, 9, none⟩ = some vd ∧
      Sf (w'.setCell ⟨qb, 9, none⟩ v') gq gi gn qb id now c.win k ∧ (w'.setCell ⟨qb, 9, none⟩ v').cell? ⟨gr, 9, none⟩ = some (.string r.grp) ∧ (w'.setCell ⟨qb, 9, none⟩ v').cell? ⟨gr, 11, none⟩ = some (.string r.bod) ∧
      Calls Tryz.prog 219 #[.pointer (some ⟨qb, 0, none⟩), .string r.grp, .string r.bod] (w'.setCell ⟨qb, 9, none⟩ v') fun e w2 => e = .returned (.tuple #[]) ∧ K w2 := by
  obtain ⟨g4, cap4, hv4⟩ := own_some ho
  have t1 : Tch [] w (w.drew.alloc (.cells (ddV id k til).toArray 230)) := (Tch.refl _ _).drew.alloc _
  have t2 : Tch (bl vd) w w' := (t1.sub (by simp)).trans (grown_tch hg) (fun x hx _ => hx)
  have hq1 : Qb w' qb c (k : Int) ms rs vd at_ := (t2.block _ hq.lt (fun e => own_ne hd hq (by decide) (mem_bl.1 e))).trans hq
  have hgq1 : w'.heap[gq]? = some (.cells #[.pointer (some ⟨qb, 0, none⟩)] 152 (0, 0)) := (t2.block _ (lt_of_block hgq) (fun e => own_ne hd hgq (by decide) (mem_bl.1 e))).trans hgq
  have hgr1 : w'.heap[gr]? = some (.cells (cellsOf r y.v) 27 (0, 0)) := (t2.block _ (lt_of_block hgr) (fun e => own_ne hd hgr (by decide) (mem_bl.1 e))).trans hgr
  have hgi1 : w'.heap[gi]? = some (.cells #[.string id] 9 (0, 0)) := (t2.block _ (lt_of_block hgi) (fun e => own_ne hd hgi (by decide) (mem_bl.1 e))).trans hgi
  have hgn1 : w'.heap[gn]? = some (.cells #[.int .i64 now] 3 (0, 0)) := (t2.block _ (lt_of_block hgn) (fun e => own_ne hd hgn (by decide) (mem_bl.1 e))).trans hgn
  have hm1 := own_apart hm hd (by decide) t2
  have hr1 := own_apart hr hd (by decide) t2
  have hq2 := hq1.set9 v'
  have t3 : Tch [qb] w' (w'.setCell ⟨qb, 9, none⟩ v') := (Tch.refl _ _).setCell (fun _ => by simp) _
  have hnq : gq ≠ qb := fun e => by rw [e, hq] at hgq; simp at hgq
  have hnr' : gr ≠ qb := fun e => by rw [e, hq] at hgr; simp at hgr
  have hniq : gi ≠ qb := fun e => by rw [e, hq] at hgi; simp at hgi
  have hnnq : gn ≠ qb := fun e => by rw [e, hq] at hgn; simp at hgn
  have hgi2 := (t3.block _ (lt_of_block hgi1) (by simpa using hniq)).trans hgi1
  have hgn2 := (t3.block _ (lt_of_block hgn1) (by simpa using hnnq)).trans hgn1
  have hgq2 := (t3.block _ (lt_of_block hgq1) (by simpa using hnq)).trans hgq1
  have hgr2 := (t3.block _ (lt_of_block hgr1) (by simpa using hnr')).trans hgr1
  have hd2 : (w'.setCell ⟨qb, 9, none⟩ v').ownsRow 0 230 3 v' (nd + 1) (xd ++ ddV id k til) := own_set ho hq1 (by decide) t3
  have hm2 := own_set hm1 hq1 (by decide) t3
  have hr2 := own_set hr1 hq1 (by decide) t3
  refine ⟨g4, cap4, hv4, ⟨cell_of_one hgq1, cell_of_one hgi1, cell_of_one hgn1, cell_qC hq1 3 _ rfl, cell_qC hq1 6 _ rfl, hq1.fz 9⟩, cell_qC hq1 9 _ rfl, ⟨cell_of_one hgq2, cell_of_one hgi2, cell_of_one hgn2, cell_qC hq2 3 _ rfl, cell_qC hq2 6 _ rfl, hq2.fz 9⟩, gr9 hgr2, gr11 hgr2, ?_⟩
  refine putg_walk K c r.grp r.bod qb k nr ms rs v' at_ l xr _ hq2 hm2 hr2 hnm hnr hk ?_
  intro w3 ms3 rs3 hq3 hm3 hr3 hN1 hN2 ht3
  refine hK w3 ms3 rs3 v' hq3 hm3 hr3 (own_tch hd2 ht3 (fun j hj hm' => ?_)) (hN1.mono (Nat.le_trans t2.size t3.size)) (hN2.mono (Nat.le_trans t2.size t3.size)) (fun j hj => ?_) ?_
  · rcases List.mem_cons.1 hm' with h | h
    · subst h
      exact own_ne hd2 hq2 (by decide) hj
    · obtain ⟨C, hjj⟩ : ∃ C, (w'.setCell ⟨qb, 9, none⟩ v').heap[j]? = some (.cells C 230 (0, 0)) := by
        rcases hd2.2 with ⟨h0, _⟩ | ⟨g', cap', cur', h0, _, hg', _⟩
        · rw [h0] at hj; simp [Value.ownBlock] at hj
        · rw [h0] at hj
          simp only [Value.ownBlock, Option.some.injEq] at hj
          subst hj
          exact ⟨_, hg'⟩
      rcases List.mem_append.1 h with h | h
      · exact own_ne hm2 hjj (by decide) (mem_bl.1 h)
      · exact own_ne hr2 hjj (by decide) (mem_bl.1 h)
  · rcases hb with h | h
    · exact .inl (h.symm.trans hj)
    · right
      rw [hj] at h
      injection h with h
      have := t1.size
      omega
  · refine ((t2.sub (S' := qb :: (bl vd ++ (bl ms ++ bl rs))) (fun x hx _ => ?_)).trans t3 (fun x hx _ => ?_)).trans ht3 (fun x hx _ => ?_)
    · exact List.mem_cons.2 (.inr (List.mem_append.2 (.inl hx)))
    · exact List.mem_cons.2 (.inl (by simpa using hx))
    · rcases List.mem_cons.1 hx with h | h
      · exact List.mem_cons.2 (.inl h)
      · exact List.mem_cons.2 (.inr (List.mem_append.2 (.inr h)))

set_option maxRecDepth 8000 in
set_option maxHeartbeats 4000000 in
theorem sentg_walk (K : World → Prop) (c r : Wp.Rq) (y : Sl) (id : ByteArray) (qb k nr nd gq gi gn gr : Nat) (now : Int) (vd ms rs at_ : Value) (l : List Ms) (xr xd : List Value) (w : World)
    (hq : Qb w qb c (k : Int) ms rs vd at_) (hm : w.ownsRow 0 226 5 ms l.length (l.flatMap Ms.row)) (hr : w.ownsRow 0 9 1 rs nr xr) (hd : w.ownsRow 0 230 3 vd nd xd) (hnm : l.length ≤ 1000) (hnd : nd ≤ 1000) (hnr : nr ≤ 1000) (hk : k ≤ 200)
    (hwin : 0 < c.win ∧ c.win ≤ 1001) (hnow : 0 ≤ now ∧ now ≤ 60000)
    (hgq : w.heap[gq]? = some (.cells #[.pointer (some ⟨qb, 0, none⟩)] 152 (0, 0))) (hgi : w.heap[gi]? = some (.cells #[.string id] 9 (0, 0))) (hgn : w.heap[gn]? = some (.cells #[.int .i64 now] 3 (0, 0))) (hgr : w.heap[gr]? = some (.cells (cellsOf r y.v) 27 (0, 0)))
    (hK : ∀ w' ms' rs' ds', Qb w' qb c ((k + 1 : Nat) : Int) ms' rs' ds' at_ → w'.ownsRow 0 226 5 ms' (l.length + 1) (l.flatMap Ms.row ++ msV k r.grp r.bod) → w'.ownsRow 0 9 1 rs' (if idxL (isG r.grp) l < 0 then nr + 1 else nr) (if idxL (isG r.grp) l < 0 then xr ++ [.string r.grp] else xr) → w'.ownsRow 0 230 3 ds' (nd + 1) (xd ++ ddV id k (now + c.win)) → NewOr w ms ms' → NewOr w rs rs' → (∀ j, ds'.ownBlock = some j → vd.ownBlock = some j ∨ w.heap.size ≤ j) → Tch (qb :: (bl vd ++ (bl ms ++ bl rs))) w w' → K w') :
    Calls Tryz.prog 218 #[.pointer (some ⟨gq, 0, none⟩), .pointer (some ⟨gi, 0, none⟩), .pointer (some ⟨gn, 0, none⟩), .pointer (some ⟨gr, 0, none⟩)] w fun e w' => e = .returned (.tuple #[]) ∧ K w' := by
  have HG : Hid (∀ v' w', w'.ownsRow 0 230 3 v' (nd + 1) (xd ++ ddV id k (now + c.win)) → (w.drew.alloc (.cells (ddV id k (now + c.win)).toArray 230)).grownBy w' vd.ownBlock → (v'.ownBlock = vd.ownBlock ∨ v'.ownBlock = some (w.drew.alloc (.cells (ddV id k (now + c.win)).toArray 230)).heap.size) → _) := fun v' w' => sentg_fin K c r y id qb k nr nd gq gi gn gr now (now + c.win) vd ms rs at_ l xr xd w hq hm hr hd hnm hnd hnr hk hgq hgr hgi hgn hK v' w'
  have q3 : w.cell? ⟨qb, 3, none⟩ = some (.int .i64 c.win) := cell_qC hq 3 _ rfl
  have q6 : w.cell? ⟨qb, 6, none⟩ = some (.int .i64 (k : Int)) := cell_qC hq 6 _ rfl
  have q9 : w.cell? ⟨qb, 9, none⟩ = some vd := cell_qC hq 9 _ rfl
  have cq := cell_of_one hgq
  have ci := cell_of_one hgi
  have cn := cell_of_one hgn
  have l1 := hq.lt
  have l2 := lt_of_block hgq
  have l3 := lt_of_block hgi
  have l4 := lt_of_block hgn
  have HD : Hid (w.ownsRow 0 230 3 vd nd xd) := hd
  have hw1 : 0 < c.win := hwin.1
  have hw2 := hwin.2
  have hn1 := hnow.1
  have hn2 := hnow.2
  have hwr : IntKind.i64.wrap (now + c.win) = now + c.win := by rw [IntKind.wrap_i64]; omega
  have HZ : Hid (w.frozen? ⟨qb, 9, none⟩ = false) := hq.fz 9
  have HZB : Hid (∀ o, (w.drew.alloc o).frozen? ⟨qb, 9, none⟩ = false) := fun o => frozen_of_row _ qb 9 _ 191 ((Below.heap_alloc _ _ _ hq.lt).trans hq)
  clear hq hm hr hd hgq hgi hgn hgr hK hwin hnow
  go_enter Tryz.func218, Tryz.ntmps218
  go_wp2_with fail
  have z9 : w.frozen? ⟨qb, 9, none⟩ = false := HZ.out
  have z9a : w.drew.frozen? ⟨qb, 9, none⟩ = false := HZ.out
  have z9b : ∀ o, (w.drew.alloc o).frozen? ⟨qb, 9, none⟩ = false := fun o => HZB.out o
  have z9c : ∀ o, (w.alloc o).drew.frozen? ⟨qb, 9, none⟩ = false := fun o => HZB.out o
  have z9d : ∀ o, (w.alloc o).frozen? ⟨qb, 9, none⟩ = false := fun o => HZB.out o
  refine wp_region_noPanic ?_
  refine wp_region_held_drew (S := (fun w' => w'.cell? ⟨gq, 0, none⟩ = some (.pointer (some ⟨qb, 0, none⟩)) ∧ w'.cell? ⟨gi, 0, none⟩ = some (.string id) ∧ w'.cell? ⟨gn, 0, none⟩ = some (.int .i64 now) ∧ w'.cell? ⟨qb, 3, none⟩ = some (.int .i64 c.win) ∧ w'.cell? ⟨qb, 6, none⟩ = some (.int .i64 (k : Int)) ∧ w'.frozen? ⟨qb, 9, none⟩ = false)) (by kernel_rfl) (by go_keep) (fun hHeld => ?_)
  refine wpAnyH_take (i := 0) (v := ?_) rfl (by kernel_rfl) (by kernel_rfl) (by kernel_rfl) (fun _ _ _ h => h) (Or.inl ⟨by rfl, ?_⟩) (by assumption) ?_
  rotate_left
  · (intro w hSw; (try dsimp only at hSw); go_simp; try with_reducible rfl)
  try simp only [Act.put, List.setIfInBounds_toArray, List.set_cons_zero, List.set_cons_succ]
  refine wpAnyH_take (i := 1) (v := ?_) rfl (by kernel_rfl) (by kernel_rfl) (by kernel_rfl) (fun _ _ _ h => h) (Or.inl ⟨by rfl, ?_⟩) (by assumption) ?_
  rotate_left
  · (intro w hSw; (try dsimp only at hSw); go_simp; try with_reducible rfl)
  try simp only [Act.put, List.setIfInBounds_toArray, List.set_cons_zero, List.set_cons_succ]
  refine wpAnyH_take (i := 2) (v := ?_) rfl (by kernel_rfl) (by kernel_rfl) (by kernel_rfl) (fun _ _ _ h => h) (Or.inl ⟨by rfl, ?_⟩) (by assumption) ?_
  rotate_left
  · (intro w hSw; (try dsimp only at hSw); go_simp; try with_reducible rfl)
  try simp only [Act.put, List.setIfInBounds_toArray, List.set_cons_zero, List.set_cons_succ]
  refine wpAnyH_take (i := 3) (v := ?_) rfl (by kernel_rfl) (by kernel_rfl) (by kernel_rfl) (fun _ _ _ h => h) (Or.inl ⟨by rfl, ?_⟩) (by assumption) ?_
  rotate_left
  · (intro w hSw; (try dsimp only at hSw); go_simp; try with_reducible rfl)
  try simp only [Act.put, List.setIfInBounds_toArray, List.set_cons_zero, List.set_cons_succ]
  refine wpAnyH_take (i := 5) (v := ?_) rfl (by kernel_rfl) (by kernel_rfl) (by kernel_rfl) (fun _ _ _ h => h) (Or.inl ⟨by rfl, ?_⟩) (by assumption) ?_
  rotate_left
  · (intro w hSw; (try dsimp only at hSw); go_simp; try with_reducible rfl)
  try simp only [Act.put, List.setIfInBounds_toArray, List.set_cons_zero, List.set_cons_succ]
  refine wpAnyH_take (i := 6) (v := ?_) rfl (by kernel_rfl) (by kernel_rfl) (by kernel_rfl) (fun _ _ _ h => h) (Or.inl ⟨by rfl, ?_⟩) (by assumption) ?_
  rotate_left
  · (intro w hSw; (try dsimp only at hSw); go_simp; try with_reducible rfl)
  try simp only [Act.put, List.setIfInBounds_toArray, List.set_cons_zero, List.set_cons_succ]
  refine wpAnyH_take (i := 7) (v := ?_) rfl (by kernel_rfl) (by kernel_rfl) (by kernel_rfl) (fun _ _ _ h => h) (Or.inl ⟨by rfl, ?_⟩) (by assumption) ?_
  rotate_left
  · (intro w hSw; (try dsimp only at hSw); go_simp; try with_reducible rfl)
  try simp only [Act.put, List.setIfInBounds_toArray, List.set_cons_zero, List.set_cons_succ]
  refine wpAnyH_take (i := 8) (v := ?_) rfl (by kernel_rfl) (by kernel_rfl) (by kernel_rfl) (fun _ _ _ h => h) (Or.inl ⟨by rfl, ?_⟩) (by assumption) ?_
  rotate_left
  · (intro w hSw; (try dsimp only at hSw); go_simp; try with_reducible rfl)
  try simp only [Act.put, List.setIfInBounds_toArray, List.set_cons_zero, List.set_cons_succ]
  refine wpAnyH_take (i := 9) (v := ?_) rfl (by kernel_rfl) (by kernel_rfl) (by kernel_rfl) (fun _ _ _ h => h) (Or.inl ⟨by rfl, ?_⟩) (by assumption) ?_
  rotate_left
  · (intro w hSw; (try dsimp only at hSw); go_simp; try with_reducible rfl)
  try simp only [Act.put, List.setIfInBounds_toArray, List.set_cons_zero, List.set_cons_succ]
  refine wpAnyH_take (i := 10) (v := ?_) rfl (by kernel_rfl) (by kernel_rfl) (by kernel_rfl) (fun _ _ _ h => h) (Or.inl ⟨by rfl, ?_⟩) (by assumption) ?_
  rotate_left
  · (intro w hSw; (try dsimp only at hSw); go_simp; try with_reducible rfl)
  try simp only [Act.put, List.setIfInBounds_toArray, List.set_cons_zero, List.set_cons_succ]
  refine wpAnyH_take (i := 11) (v := ?_) rfl (by kernel_rfl) (by kernel_rfl) (by kernel_rfl) (fun _ _ _ h => h) (Or.inl ⟨by rfl, ?_⟩) (by assumption) ?_
  rotate_left
  · (intro w hSw; (try dsimp only at hSw); go_simp; try with_reducible rfl)
  try simp only [Act.put, List.setIfInBounds_toArray, List.set_cons_zero, List.set_cons_succ]
  refine wpAnyH_take (i := 12) (v := ?_) rfl (by kernel_rfl) (by kernel_rfl) (by kernel_rfl) (fun _ _ _ h => h) (Or.inl ⟨by rfl, ?_⟩) (by assumption) ?_
  rotate_left
  · (intro w hSw; (try dsimp only at hSw); go_simp; try with_reducible rfl)
  try simp only [Act.put, List.setIfInBounds_toArray, List.set_cons_zero, List.set_cons_succ]
  refine wpAnyH_take (i := 13) (v := ?_) rfl (by kernel_rfl) (by kernel_rfl) (by kernel_rfl) (fun _ _ _ h => h) (Or.inl ⟨by rfl, ?_⟩) (by assumption) ?_
  rotate_left
  · (intro w hSw; (try dsimp only at hSw); go_simp; try with_reducible rfl)
  try simp only [Act.put, List.setIfInBounds_toArray, List.set_cons_zero, List.set_cons_succ]
  refine wpAnyH_take (i := 14) (v := ?_) rfl (by kernel_rfl) (by kernel_rfl) (by kernel_rfl) (fun _ _ _ h => h) (Or.inl ⟨by rfl, ?_⟩) (by assumption) ?_
  rotate_left
  · (intro w hSw; (try dsimp only at hSw); go_simp; try with_reducible rfl)
  try simp only [Act.put, List.setIfInBounds_toArray, List.set_cons_zero, List.set_cons_succ]
  refine wpAnyH_take (i := 15) (v := ?_) rfl (by kernel_rfl) (by kernel_rfl) (by kernel_rfl) (fun _ _ _ h => h) (Or.inl ⟨by rfl, ?_⟩) (by assumption) ?_
  rotate_left
  · (intro w hSw; (try dsimp only at hSw); go_simp; try with_reducible rfl)
  try simp only [Act.put, List.setIfInBounds_toArray, List.set_cons_zero, List.set_cons_succ]
  refine wpAnyH_take (i := 16) (v := ?_) rfl (by kernel_rfl) (by kernel_rfl) (by kernel_rfl) (fun _ _ _ h => h) (Or.inl ⟨by rfl, ?_⟩) (by assumption) ?_
  rotate_left
  · (intro w hSw; (try dsimp only at hSw); go_simp; try with_reducible rfl)
  try simp only [Act.put, List.setIfInBounds_toArray, List.set_cons_zero, List.set_cons_succ]
  refine wpAnyH_ready (rs := [4, 17]) (by kernel_rfl) (by simp) ?_
  refine AllReadyH.cons rfl (fun K' hK' => ?_) (AllReadyH.cons rfl (fun K' hK' => ?_) AllReadyH.nil)
  · go_simp
    refine hK'.out _ _ (by go_keep) (fun hHeld => ?_)
    clear hK' K'
    try simp only [Act.put, List.setIfInBounds_toArray, List.set_cons_zero, List.set_cons_succ]
    refine wpAnyH_ready (rs := [17]) (by kernel_rfl) (by simp) ?_
    refine AllReadyH.cons rfl (fun K' hK' => ?_) AllReadyH.nil
    go_simp
    refine hK'.out _ _ (by go_keep) (fun hHeld => ?_)
    clear hK' K'
    try simp only [Act.put, List.setIfInBounds_toArray, List.set_cons_zero, List.set_cons_succ]
    refine wpAnyH_ready (rs := [18]) (by kernel_rfl) (by simp) ?_
    refine AllReadyH.cons rfl (fun K' hK' => ?_) AllReadyH.nil
    refine step_vals rfl (.tmp 13) (.tmp 26) 188 230 rfl Tryz.underlying188 (.agg #[.string ⟨#[]⟩, .int .i64 0, .int .i64 0]) 3 32 info219 rfl (by decide) (by decide) vd nd xd (by simp [Act.eval, Act.put]) (by first | exact own_tch HD.out ((Tch.refl [] _).alloc _).drew (fun _ _ => by simp) | exact own_tch HD.out ((Tch.refl [] _).drew.alloc _) (fun _ _ => by simp)) w.heap.size (ddV id k (now + c.win)) 1 (by simp [Act.eval, Act.put]) rfl (by decide) (by first | exact heap_alloc_new _ _ | exact heap_alloc_new w _) (by intro u hu; simp at hu; rcases hu with rfl | rfl | rfl <;> rfl) (by omega) ?_; intro v' w9 ho3 hg3 hb3; obtain ⟨g4, cap4, hv4, ⟨s1, s2, s3, s4, s5, s6⟩, d9, ⟨u1, u2, u3, u4, u5, u6⟩, d10, e10, hfin⟩ := HG.out v' w9 ho3 hg3 hb3; subst hv4; clear ho3 hg3 hb3; have HFIN : Hid (Calls Tryz.prog 219 _ _ _) := hfin; clear hfin
    refine hK'.out _ _ (by go_keep) (fun hHeld => ?_)
    clear hK' K'
    try simp only [Act.put, List.setIfInBounds_toArray, List.set_cons_zero, List.set_cons_succ]
    refine wpAnyH_take (i := 19) (v := ?_) rfl (by kernel_rfl) (by kernel_rfl) (by kernel_rfl) (fun _ _ _ h => h) (Or.inl ⟨by rfl, ?_⟩) (by assumption) ?_
    rotate_left
    · (intro w hSw; (try dsimp only at hSw); go_simp; try with_reducible rfl)
    try simp only [Act.put, List.setIfInBounds_toArray, List.set_cons_zero, List.set_cons_succ]
    refine wpAnyH_take (i := 20) (v := ?_) rfl (by kernel_rfl) (by kernel_rfl) (by kernel_rfl) (fun _ _ _ h => h) (Or.inl ⟨by rfl, ?_⟩) (by assumption) ?_
    rotate_left
    · (intro w hSw; (try dsimp only at hSw); go_simp; try with_reducible rfl)
    try simp only [Act.put, List.setIfInBounds_toArray, List.set_cons_zero, List.set_cons_succ]
    refine wpAnyH_ready (rs := [21]) (by kernel_rfl) (by simp) ?_
    refine AllReadyH.cons rfl (fun K' hK' => ?_) AllReadyH.nil
    go_simp
    refine hK'.out _ _ (by go_keep) (fun hHeld => ?_)
    clear hK' K'
    try simp only [Act.put, List.setIfInBounds_toArray, List.set_cons_zero, List.set_cons_succ]
    refine wpAnyH_done (by kernel_rfl) ?_ _
    refine NoPanic.normal ?_
    go_wp2_with fail
    refine HFIN.out.mono ?_
    rintro e w2 ⟨rfl, hk2⟩
    go_wp2_with fail
    go_end0
    exact ⟨rfl, hk2⟩
  · go_simp
    refine hK'.out _ _ (by go_keep) (fun hHeld => ?_)
    clear hK' K'
    try simp only [Act.put, List.setIfInBounds_toArray, List.set_cons_zero, List.set_cons_succ]
    refine wpAnyH_ready (rs := [4]) (by kernel_rfl) (by simp) ?_
    refine AllReadyH.cons rfl (fun K' hK' => ?_) AllReadyH.nil
    go_simp
    refine hK'.out _ _ (by go_keep) (fun hHeld => ?_)
    clear hK' K'
    try simp only [Act.put, List.setIfInBounds_toArray, List.set_cons_zero, List.set_cons_succ]
    refine wpAnyH_ready (rs := [18]) (by kernel_rfl) (by simp) ?_
    refine AllReadyH.cons rfl (fun K' hK' => ?_) AllReadyH.nil
    refine step_vals rfl (.tmp 13) (.tmp 26) 188 230 rfl Tryz.underlying188 (.agg #[.string ⟨#[]⟩, .int .i64 0, .int .i64 0]) 3 32 info219 rfl (by decide) (by decide) vd nd xd (by simp [Act.eval, Act.put]) (by first | exact own_tch HD.out ((Tch.refl [] _).alloc _).drew (fun _ _ => by simp) | exact own_tch HD.out ((Tch.refl [] _).drew.alloc _) (fun _ _ => by simp)) w.heap.size (ddV id k (now + c.win)) 1 (by simp [Act.eval, Act.put]) rfl (by decide) (by first | exact heap_alloc_new _ _ | exact heap_alloc_new w _) (by intro u hu; simp at hu; rcases hu with rfl | rfl | rfl <;> rfl) (by omega) ?_; intro v' w9 ho3 hg3 hb3; obtain ⟨g4, cap4, hv4, ⟨s1, s2, s3, s4, s5, s6⟩, d9, ⟨u1, u2, u3, u4, u5, u6⟩, d10, e10, hfin⟩ := HG.out v' w9 ho3 hg3 hb3; subst hv4; clear ho3 hg3 hb3; have HFIN : Hid (Calls Tryz.prog 219 _ _ _) := hfin; clear hfin
    refine hK'.out _ _ (by go_keep) (fun hHeld => ?_)
    clear hK' K'
    try simp only [Act.put, List.setIfInBounds_toArray, List.set_cons_zero, List.set_cons_succ]
    refine wpAnyH_take (i := 19) (v := ?_) rfl (by kernel_rfl) (by kernel_rfl) (by kernel_rfl) (fun _ _ _ h => h) (Or.inl ⟨by rfl, ?_⟩) (by assumption) ?_
    rotate_left
    · (intro w hSw; (try dsimp only at hSw); go_simp; try with_reducible rfl)
    try simp only [Act.put, List.setIfInBounds_toArray, List.set_cons_zero, List.set_cons_succ]
    refine wpAnyH_take (i := 20) (v := ?_) rfl (by kernel_rfl) (by kernel_rfl) (by kernel_rfl) (fun _ _ _ h => h) (Or.inl ⟨by rfl, ?_⟩) (by assumption) ?_
    rotate_left
    · (intro w hSw; (try dsimp only at hSw); go_simp; try with_reducible rfl)
    try simp only [Act.put, List.setIfInBounds_toArray, List.set_cons_zero, List.set_cons_succ]
    refine wpAnyH_ready (rs := [21]) (by kernel_rfl) (by simp) ?_
    refine AllReadyH.cons rfl (fun K' hK' => ?_) AllReadyH.nil
    go_simp
    refine hK'.out _ _ (by go_keep) (fun hHeld => ?_)
    clear hK' K'
    try simp only [Act.put, List.setIfInBounds_toArray, List.set_cons_zero, List.set_cons_succ]
    refine wpAnyH_done (by kernel_rfl) ?_ _
    refine NoPanic.normal ?_
    go_wp2_with fail
    refine HFIN.out.mono ?_
    rintro e w2 ⟨rfl, hk2⟩
    go_wp2_with fail
    go_end0
    exact ⟨rfl, hk2⟩

end Go.Proofs.YtbdobaapadlcjaaGreatDoor

namespace Go.Proofs.YtbdobaapadlcjaaGreatDoor
open Go.RowKit
set_option linter.unusedVariables false
set_option linter.unusedSimpArgs false

set_option maxRecDepth 8000 in
set_option maxHeartbeats 1000000 in
theorem sendg_found (c r : Wp.Rq) (y : Sl) (qb gd nd cd i num : Nat) (ds : List Dd) (now next : Int) (ms rs at_ : Value) (w : World)
    (hq : w.heap[qb]? = some (.cells (qC c next ms rs (.slice (some ⟨gd, 0, none⟩) nd cd) at_) 191 (0, 0))) (hbod : r.bod.size ≤ 40) (hT : Tab w) (h2 : 2 < w.heap.size)
    (ho : w.ownsRow 0 230 3 (.slice (some ⟨gd, 0, none⟩) nd cd) ds.length (ds.flatMap Dd.row)) (hnd : nd = ds.length) (hl : ds.length ≤ 1000) (hid : idxL (isI (didS r)) ds = (i : Int)) (hi : i < ds.length) (hnum : ds[i].num = (num : Nat)) (hn : num < 4294967296) :
    Calls Tryz.prog 164 #[.pointer (some ⟨qb, 0, none⟩), .int .i64 now, .agg (cellsOf r y.v)] w fun e w' => ∃ av, e = .returned (.tuple #[av, .nilFunc, .int .i64 0]) ∧ OwnB w' w.heap.size av (lowB num 4) ∧ Below w.heap.size w w' := by
  have hlt := lt_of_block hq
  have HQ : Hid (w.heap[qb]? = _) := hq
  have HID : Hid (∀ W, Below w.heap.size w W → Calls Tryz.prog 216 #[.agg (cellsOf r y.v)] W fun e w' => e = .returned (.string (didS r)) ∧ Below W.heap.size W w') := fun W hb => dedupID_any r y W (Nat.le_trans hbod (by decide)) (hT.below hb h2) (by have := hb.size; omega)
  rw [show cellsOf r y.v = #[.int .u8 (r.op.toNat : Int), .int .u8 (r.q.toNat : Int), .int .u8 (r.d.toNat : Int), .int .i64 r.vis, .int .i64 r.win, .int .i64 r.rcv, .int .i64 r.quo, .int .i64 r.mx, .int .i64 r.tic, .string r.grp, .string r.ded, .string r.bod, .string r.att, .string r.han, .slice y.a y.n y.c] from rfl] at HID
  have hbz : ¬ (40 : Int) < (r.bod.size : Int) := by omega
  have hgd : gd < w.heap.size := own_lt ho rfl
  have HCC : Hid (w.cell? ⟨gd, i * 3 + 1, none⟩ = some (.int .i64 (num : Nat))) := by
    have h1 : (ds.flatMap Dd.row)[i * 3 + 1]? = some (.int .i64 (num : Nat)) := by rw [flat_get Dd.row 3 (fun _ => rfl) ds i 1 hi (by decide)]; simp [Dd.row, hnum]
    have h2 := World.ownsRow.cells ho (g := gd) rfl (i * 3 + 1) _ h1
    have e2 : (⟨gd, 0, none⟩ : Addr).add (i * 3 + 1) = ⟨gd, i * 3 + 1, none⟩ := by unfold Addr.add; split <;> simp_all
    rw [e2] at h2
    exact h2
  have HII : Hid (idxL (isI (didS r)) ds = (i : Int)) := hid
  have HOW : Hid (w.ownsRow 0 230 3 (.slice (some ⟨gd, 0, none⟩) nd cd) ds.length (ds.flatMap Dd.row)) := ho
  clear hq hT hid ho
  generalize didS r = id at *
  rw [show cellsOf r y.v = #[.int .u8 (r.op.toNat : Int), .int .u8 (r.q.toNat : Int), .int .u8 (r.d.toNat : Int), .int .i64 r.vis, .int .i64 r.win, .int .i64 r.rcv, .int .i64 r.quo, .int .i64 r.mx, .int .i64 r.tic, .string r.grp, .string r.ded, .string r.bod, .string r.att, .string r.han, .slice y.a y.n y.c] from rfl]
  go_enter Tryz.func164, Tryz.ntmps164
  go_wp2_with fail
  refine (HID.out _ (((((Below.refl _ _).alloc (Nat.le_refl _) _).alloc (by simp) _)).alloc (by simp; omega) _)).mono ?_
  rintro e w4 ⟨rfl, hb4⟩
  have t4 : Tch [] w w4 := (sbox_tch w qb now #[.int .u8 (r.op.toNat : Int), .int .u8 (r.q.toNat : Int), .int .u8 (r.d.toNat : Int), .int .i64 r.vis, .int .i64 r.win, .int .i64 r.rcv, .int .i64 r.quo, .int .i64 r.mx, .int .i64 r.tic, .string r.grp, .string r.ded, .string r.bod, .string r.att, .string r.han, .slice y.a y.n y.c]).trans (Tch.of_below hb4) (by simp)
  have hb4' : Below (sbox w qb now #[.int .u8 (r.op.toNat : Int), .int .u8 (r.q.toNat : Int), .int .u8 (r.d.toNat : Int), .int .i64 r.vis, .int .i64 r.win, .int .i64 r.rcv, .int .i64 r.quo, .int .i64 r.mx, .int .i64 r.tic, .string r.grp, .string r.ded, .string r.bod, .string r.att, .string r.han, .slice y.a y.n y.c]).heap.size (sbox w qb now #[.int .u8 (r.op.toNat : Int), .int .u8 (r.q.toNat : Int), .int .u8 (r.d.toNat : Int), .int .i64 r.vis, .int .i64 r.win, .int .i64 r.rcv, .int .i64 r.quo, .int .i64 r.mx, .int .i64 r.tic, .string r.grp, .string r.ded, .string r.bod, .string r.att, .string r.han, .slice y.a y.n y.c]) w4 := hb4
  rw [sbox_size] at hb4'
  have z4 : w.heap.size + 3 ≤ w4.heap.size := by have := hb4'.size; rw [sbox_size] at this; exact this
  have k0 := cell_of_one ((hb4'.block _ (by omega)).trans (sbox_0 w qb now #[.int .u8 (r.op.toNat : Int), .int .u8 (r.q.toNat : Int), .int .u8 (r.d.toNat : Int), .int .i64 r.vis, .int .i64 r.win, .int .i64 r.rcv, .int .i64 r.quo, .int .i64 r.mx, .int .i64 r.tic, .string r.grp, .string r.ded, .string r.bod, .string r.att, .string r.han, .slice y.a y.n y.c]))
  have hn0 : w.heap.size < w4.heap.size := by omega
  have hq4 : (w4.alloc (.cells #[.string id] 9)).heap[qb]? = some (.cells (qC c next ms rs (.slice (some ⟨gd, 0, none⟩) nd cd) at_) 191 (0, 0)) := (Below.heap_alloc _ _ _ (by omega)).trans ((t4.block _ hlt (by simp)).trans HQ.out)
  have HF : Hid (Calls Tryz.prog 217 #[.pointer (some ⟨qb, 0, none⟩), .string id] (w4.alloc (.cells #[.string id] 9)) fun e w' => e = .returned (.int .i64 (i : Int)) ∧ Below (w4.alloc (.cells #[.string id] 9)).heap.size (w4.alloc (.cells #[.string id] 9)) w') := by
    have h := findDedup_gen id qb _ ds (w4.alloc (.cells #[.string id] 9)) (cell_qC hq4 9 _ rfl) (own_tch HOW.out (t4.alloc _) (fun _ _ => by simp)) (by omega)
    rw [HII.out] at h
    exact h
  have HQ4 : Hid ((w4.alloc (.cells #[.string id] 9)).heap[qb]? = _) := hq4
  have T4 : Hid (Tch [] w w4) := t4
  clear hb4 hb4' hq4 t4
  go_wp2_with fail
  refine HF.out.mono ?_
  rintro e w6 ⟨rfl, hb6⟩
  have t6 : Tch [] w w6 := (T4.out.alloc _).trans (Tch.of_below hb6) (by simp)
  have z6 := hb6.size
  rw [World.size_alloc] at z6
  have k6 : w6.cell? ⟨w.heap.size, 0, none⟩ = some (.pointer (some ⟨qb, 0, none⟩)) := (hb6.cell (p := ⟨w.heap.size, 0, none⟩) (by simp; omega)).trans (Lib.cell?_alloc_some _ k0)
  have q9 : w6.cell? ⟨qb, 9, none⟩ = some (.slice (some ⟨gd, 0, none⟩) nd cd) := cell_qC ((hb6.block _ (by simp; omega)).trans HQ4.out) 9 _ rfl
  have d1 : w6.cell? ⟨gd, i * 3 + 1, none⟩ = some (.int .i64 (num : Nat)) := (t6.cell (a := ⟨gd, i * 3 + 1, none⟩) hgd (by simp)).trans HCC.out
  have HA : Hid (Calls Tryz.prog 91 #[.slice none 0 0, .int .i64 (num : Nat), .int .i64 4] w6 fun e w' => ∃ v', e = .returned v' ∧ OwnB w' w.heap.size v' ([] ++ lowB num 4) ∧ Below w.heap.size w6 w') := appendNumber_any w.heap.size _ [] num 4 w6 hn (by decide) (by decide) (by omega) (World.ownsRow_nil _ _ _ _)
  have T6 : Hid (Tch [] w w6) := t6
  clear hb6 t6 k0
  go_wp2_with fail
  refine HA.out.mono ?_
  rintro e w7 ⟨av, rfl, ho, hb7⟩
  have HO : Hid (OwnB w7 w.heap.size av (lowB num 4)) := ho
  have HB7 : Hid (Below w.heap.size w6 w7) := hb7
  clear ho hb7
  go_wp2_with fail
  go_ret3
  exact ⟨av, rfl, HO.out, (T6.out.below (by simp) (Nat.le_refl _)).trans HB7.out⟩
set_option maxRecDepth 8000 in
set_option maxHeartbeats 2000000 in
theorem sendg_new (c r : Wp.Rq) (y : Sl) (qb k nm cm : Nat) (am : Option Addr) (ds : List Dd) (now : Int) (rs vd at_ : Value) (w : World)
    (hq : w.heap[qb]? = some (.cells (qC c (k : Int) (.slice am nm cm) rs vd at_) 191 (0, 0))) (hbod : r.bod.size ≤ 40) (hT : Tab w) (h2 : 2 < w.heap.size)
    (ho : w.ownsRow 0 230 3 vd ds.length (ds.flatMap Dd.row)) (hl : ds.length ≤ 1000) (hid : idxL (isI (didS r)) ds < 0) (hquo : (nm : Int) < c.quo) (hk : k ≤ 200) :
    Calls Tryz.prog 164 #[.pointer (some ⟨qb, 0, none⟩), .int .i64 now, .agg (cellsOf r y.v)] w fun e w' => ∃ av gi,
      e = .returned (.tuple #[av, .func (.func 218) #[] #[.pointer (some ⟨w.heap.size, 0, none⟩), .pointer (some ⟨gi, 0, none⟩), .pointer (some ⟨w.heap.size + 1, 0, none⟩), .pointer (some ⟨w.heap.size + 2, 0, none⟩)], .int .i64 0]) ∧ OwnB w' (gi + 1) av (lowB k 4) ∧ Below w.heap.size w w' ∧
      w'.heap[w.heap.size]? = some (.cells #[.pointer (some ⟨qb, 0, none⟩)] 152 (0, 0)) ∧ w'.heap[gi]? = some (.cells #[.string (didS r)] 9 (0, 0)) ∧ w'.heap[w.heap.size + 1]? = some (.cells #[.int .i64 now] 3 (0, 0)) ∧ w'.heap[w.heap.size + 2]? = some (.cells (cellsOf r y.v) 27 (0, 0)) := by
  have hmf : ∀ (fn : Fn) (first cap : Array Value) (w : World), (Instr.makeFunc fn first cap).run Tryz.prog w = .ok (.func fn first cap) w := fun _ _ _ _ => rfl
  have hlt := lt_of_block hq
  have HQ : Hid (w.heap[qb]? = _) := hq
  have HID : Hid (∀ W, Below w.heap.size w W → Calls Tryz.prog 216 #[.agg (cellsOf r y.v)] W fun e w' => e = .returned (.string (didS r)) ∧ Below W.heap.size W w') := fun W hb => dedupID_any r y W (Nat.le_trans hbod (by decide)) (hT.below hb h2) (by have := hb.size; omega)
  rw [show cellsOf r y.v = #[.int .u8 (r.op.toNat : Int), .int .u8 (r.q.toNat : Int), .int .u8 (r.d.toNat : Int), .int .i64 r.vis, .int .i64 r.win, .int .i64 r.rcv, .int .i64 r.quo, .int .i64 r.mx, .int .i64 r.tic, .string r.grp, .string r.ded, .string r.bod, .string r.att, .string r.han, .slice y.a y.n y.c] from rfl] at HID
  have hbz : ¬ (40 : Int) < (r.bod.size : Int) := by omega
  have hquo' : ¬ c.quo ≤ (nm : Int) := by omega
  have hk' : ¬ (200 : Int) < (k : Int) := by omega
  have HOW : Hid (w.ownsRow 0 230 3 vd ds.length (ds.flatMap Dd.row)) := ho
  have hge := idxL_ge (isI (didS r)) ds
  have HII : Hid (idxL (isI (didS r)) ds = -1) := by show _ = _; omega
  clear hq hT ho hid hge
  generalize didS r = id at *
  rw [show cellsOf r y.v = #[.int .u8 (r.op.toNat : Int), .int .u8 (r.q.toNat : Int), .int .u8 (r.d.toNat : Int), .int .i64 r.vis, .int .i64 r.win, .int .i64 r.rcv, .int .i64 r.quo, .int .i64 r.mx, .int .i64 r.tic, .string r.grp, .string r.ded, .string r.bod, .string r.att, .string r.han, .slice y.a y.n y.c] from rfl]
  go_enter Tryz.func164, Tryz.ntmps164
  go_wp2_with fail
  refine (HID.out _ (((((Below.refl _ _).alloc (Nat.le_refl _) _).alloc (by simp) _)).alloc (by simp; omega) _)).mono ?_
  rintro e w4 ⟨rfl, hb4⟩
  have t4 : Tch [] w w4 := (sbox_tch w qb now #[.int .u8 (r.op.toNat : Int), .int .u8 (r.q.toNat : Int), .int .u8 (r.d.toNat : Int), .int .i64 r.vis, .int .i64 r.win, .int .i64 r.rcv, .int .i64 r.quo, .int .i64 r.mx, .int .i64 r.tic, .string r.grp, .string r.ded, .string r.bod, .string r.att, .string r.han, .slice y.a y.n y.c]).trans (Tch.of_below hb4) (by simp)
  have hb4' : Below (sbox w qb now #[.int .u8 (r.op.toNat : Int), .int .u8 (r.q.toNat : Int), .int .u8 (r.d.toNat : Int), .int .i64 r.vis, .int .i64 r.win, .int .i64 r.rcv, .int .i64 r.quo, .int .i64 r.mx, .int .i64 r.tic, .string r.grp, .string r.ded, .string r.bod, .string r.att, .string r.han, .slice y.a y.n y.c]).heap.size (sbox w qb now #[.int .u8 (r.op.toNat : Int), .int .u8 (r.q.toNat : Int), .int .u8 (r.d.toNat : Int), .int .i64 r.vis, .int .i64 r.win, .int .i64 r.rcv, .int .i64 r.quo, .int .i64 r.mx, .int .i64 r.tic, .string r.grp, .string r.ded, .string r.bod, .string r.att, .string r.han, .slice y.a y.n y.c]) w4 := hb4
  rw [sbox_size] at hb4'
  have z4 : w.heap.size + 3 ≤ w4.heap.size := by have := hb4'.size; rw [sbox_size] at this; exact this
  have B0 := (hb4'.block _ (by omega)).trans (sbox_0 w qb now #[.int .u8 (r.op.toNat : Int), .int .u8 (r.q.toNat : Int), .int .u8 (r.d.toNat : Int), .int .i64 r.vis, .int .i64 r.win, .int .i64 r.rcv, .int .i64 r.quo, .int .i64 r.mx, .int .i64 r.tic, .string r.grp, .string r.ded, .string r.bod, .string r.att, .string r.han, .slice y.a y.n y.c])
  have HB1 : Hid (w4.heap[w.heap.size + 1]? = _) := (hb4'.block _ (by omega)).trans (sbox_1 w qb now #[.int .u8 (r.op.toNat : Int), .int .u8 (r.q.toNat : Int), .int .u8 (r.d.toNat : Int), .int .i64 r.vis, .int .i64 r.win, .int .i64 r.rcv, .int .i64 r.quo, .int .i64 r.mx, .int .i64 r.tic, .string r.grp, .string r.ded, .string r.bod, .string r.att, .string r.han, .slice y.a y.n y.c])
  have HB2 : Hid (w4.heap[w.heap.size + 2]? = _) := (hb4'.block _ (by omega)).trans (sbox_2 w qb now #[.int .u8 (r.op.toNat : Int), .int .u8 (r.q.toNat : Int), .int .u8 (r.d.toNat : Int), .int .i64 r.vis, .int .i64 r.win, .int .i64 r.rcv, .int .i64 r.quo, .int .i64 r.mx, .int .i64 r.tic, .string r.grp, .string r.ded, .string r.bod, .string r.att, .string r.han, .slice y.a y.n y.c])
  have k0 := cell_of_one B0
  have HB0 : Hid (w4.heap[w.heap.size]? = _) := B0
  have hn0 : w.heap.size < w4.heap.size := by omega
  have hq4 : (w4.alloc (.cells #[.string id] 9)).heap[qb]? = some (.cells (qC c (k : Int) (.slice am nm cm) rs vd at_) 191 (0, 0)) := (Below.heap_alloc _ _ _ (by omega)).trans ((t4.block _ hlt (by simp)).trans HQ.out)
  have HF : Hid (Calls Tryz.prog 217 #[.pointer (some ⟨qb, 0, none⟩), .string id] (w4.alloc (.cells #[.string id] 9)) fun e w' => e = .returned (.int .i64 (-1)) ∧ Below (w4.alloc (.cells #[.string id] 9)).heap.size (w4.alloc (.cells #[.string id] 9)) w') := by
    have h := findDedup_gen id qb _ ds (w4.alloc (.cells #[.string id] 9)) (cell_qC hq4 9 _ rfl) (own_tch HOW.out (t4.alloc _) (fun _ _ => by simp)) (by omega)
    rw [HII.out] at h
    exact h
  have HQ4 : Hid ((w4.alloc (.cells #[.string id] 9)).heap[qb]? = _) := hq4
  have T4 : Hid (Tch [] w w4) := t4
  clear hb4 hb4' hq4 t4 B0
  go_wp2_with fail
  refine HF.out.mono ?_
  rintro e w6 ⟨rfl, hb6⟩
  have t6 : Tch [] w w6 := (T4.out.alloc _).trans (Tch.of_below hb6) (by simp)
  have z6 := hb6.size
  rw [World.size_alloc] at z6
  have BL : ∀ i o, i < w4.heap.size → w4.heap[i]? = some o → w6.heap[i]? = some o := fun i o hi ho => (hb6.block i (by simp; omega)).trans ((Below.heap_alloc _ _ _ hi).trans ho)
  have HC0 : Hid (w6.heap[w.heap.size]? = _) := BL _ _ hn0 HB0.out
  have HC1 : Hid (w6.heap[w.heap.size + 1]? = _) := BL _ _ (by omega) HB1.out
  have HC2 : Hid (w6.heap[w.heap.size + 2]? = _) := BL _ _ (by omega) HB2.out
  have HCI : Hid (w6.heap[w4.heap.size]? = _) := (hb6.block _ (by simp)).trans (heap_alloc_new _ _)
  have hq6 := (hb6.block qb (by simp; omega)).trans HQ4.out
  have k6 : w6.cell? ⟨w.heap.size, 0, none⟩ = some (.pointer (some ⟨qb, 0, none⟩)) := cell_of_one HC0.out
  have q5 : w6.cell? ⟨qb, 5, none⟩ = some (.int .i64 c.quo) := cell_qC hq6 5 _ rfl
  have q6 : w6.cell? ⟨qb, 6, none⟩ = some (.int .i64 (k : Int)) := cell_qC hq6 6 _ rfl
  have q7 : w6.cell? ⟨qb, 7, none⟩ = some (.slice am nm cm) := cell_qC hq6 7 _ rfl
  have T6 : Hid (Tch [] w w6) := t6
  have HA : Hid (∀ n, Calls Tryz.prog 91 #[.slice none 0 0, .int .i64 (k : Int), .int .i64 4] (w6.drewN n) fun e w' => ∃ v', e = .returned v' ∧ OwnB w' (w4.heap.size + 1) v' ([] ++ lowB k 4) ∧ Below (w4.heap.size + 1) (w6.drewN n) w') := fun n => appendNumber_any (w4.heap.size + 1) _ [] k 4 (w6.drewN n) (by omega) (by decide) (by decide) z6 (World.ownsRow_nil _ _ _ _)
  have z6' : Hid (w4.heap.size + 1 ≤ w6.heap.size) := z6
  clear hb6 t6 k0 hq6 BL
  go_wp2_with fail
  go_quiet (fail)
  have k6' : (w6.drewN nq).cell? ⟨w.heap.size, 0, none⟩ = some (.pointer (some ⟨qb, 0, none⟩)) := k6
  have q6' : (w6.drewN nq).cell? ⟨qb, 6, none⟩ = some (.int .i64 (k : Int)) := q6
  go_wp2_with fail
  refine (HA.out nq).mono ?_
  rintro e w7 ⟨av, rfl, ho, hb7⟩
  have HO : Hid (OwnB w7 (w4.heap.size + 1) av (lowB k 4)) := ho
  have HB7 : Hid (Below (w4.heap.size + 1) w6 w7) := (below_drewN (Below.refl _ _) nq).trans hb7
  clear ho hb7
  go_wp2_with fail
  go_ret3
  have hB := HB7.out
  exact ⟨av, w4.heap.size, rfl, HO.out, (T6.out.below (by simp) (Nat.le_refl _)).trans (hB.mono (by omega)), (hB.block _ (by omega)).trans HC0.out, (hB.block _ (by omega)).trans HCI.out, (hB.block _ (by omega)).trans HC1.out, (hB.block _ (by omega)).trans HC2.out⟩

set_option maxHeartbeats 1000000 in
/-- Nothing is remembered: the Window is 0. -/
theorem sentg_now (K : World → Prop) (c r : Wp.Rq) (y : Sl) (qb k nr gq gi gn gr : Nat) (vd ms rs at_ : Value) (l : List Ms) (xr : List Value) (w : World)
    (hq : Qb w qb c (k : Int) ms rs vd at_) (hm : w.ownsRow 0 226 5 ms l.length (l.flatMap Ms.row)) (hr : w.ownsRow 0 9 1 rs nr xr) (hnm : l.length ≤ 1000) (hnr : nr ≤ 1000) (hk : k ≤ 200) (hwin : c.win = 0)
    (hgq : w.heap[gq]? = some (.cells #[.pointer (some ⟨qb, 0, none⟩)] 152 (0, 0))) (hgr : w.heap[gr]? = some (.cells (cellsOf r y.v) 27 (0, 0)))
    (hK : ∀ w' ms' rs', Qb w' qb c ((k + 1 : Nat) : Int) ms' rs' vd at_ → w'.ownsRow 0 226 5 ms' (l.length + 1) (l.flatMap Ms.row ++ msV k r.grp r.bod) → w'.ownsRow 0 9 1 rs' (if idxL (isG r.grp) l < 0 then nr + 1 else nr) (if idxL (isG r.grp) l < 0 then xr ++ [.string r.grp] else xr) → NewOr w ms ms' → NewOr w rs rs' → Tch (qb :: (bl ms ++ bl rs)) w w' → K w') :
    Calls Tryz.prog 218 #[.pointer (some ⟨gq, 0, none⟩), .pointer (some ⟨gi, 0, none⟩), .pointer (some ⟨gn, 0, none⟩), .pointer (some ⟨gr, 0, none⟩)] w fun e w' => e = .returned (.tuple #[]) ∧ K w' := by
  have HP : Hid (Calls Tryz.prog 219 #[.pointer (some ⟨qb, 0, none⟩), .string r.grp, .string r.bod] w fun e w' => e = .returned (.tuple #[]) ∧ K w') := putg_walk K c r.grp r.bod qb k nr ms rs vd at_ l xr w hq hm hr hnm hnr hk hK
  have q3 : w.cell? ⟨qb, 3, none⟩ = some (.int .i64 0) := by rw [← hwin]; exact cell_qC hq 3 _ rfl
  have cq := cell_of_one hgq
  have c9 := gr9 hgr
  have c11 := gr11 hgr
  clear hq hm hr hgq hgr hK
  go_enter Tryz.func218, Tryz.ntmps218
  go_wp2_with fail
  refine HP.out.mono ?_
  rintro e w2 ⟨rfl, hk2⟩
  go_wp2_with fail
  go_end0
  exact ⟨rfl, hk2⟩
end Go.Proofs.YtbdobaapadlcjaaGreatDoor

namespace Go.Proofs.YtbdobaapadlcjaaGreatDoor
open Go.RowKit
set_option linter.unusedVariables false

/-- Where a queue's rows lie. -/
structure QV where
  m : Value
  r : Value
  d : Value
  a : Value
/-- What a queue has. -/
structure QM where
  c : Wp.Rq
  next : Nat
  ms : List Ms
  rs : List ByteArray
  ds : List Dd
  ats : List At
structure QR (w : World) (qb : Nat) (V : QV) (Q : QM) : Prop where
  blk : Qb w qb Q.c (Q.next : Int) V.m V.r V.d V.a
  m : w.ownsRow 0 226 5 V.m Q.ms.length (Q.ms.flatMap Ms.row)
  r : w.ownsRow 0 9 1 V.r Q.rs.length (Q.rs.map Value.string)
  d : w.ownsRow 0 230 3 V.d Q.ds.length (Q.ds.flatMap Dd.row)
  a : w.ownsRow 0 234 3 V.a Q.ats.length (Q.ats.flatMap At.row)
def qbl (qb : Nat) (V : QV) : List Nat := qb :: (bl V.m ++ (bl V.r ++ (bl V.d ++ bl V.a)))
theorem mem_qbl {qb : Nat} {V : QV} {b : Nat} : b ∈ qbl qb V ↔ b = qb ∨ V.m.ownBlock = some b ∨ V.r.ownBlock = some b ∨ V.d.ownBlock = some b ∨ V.a.ownBlock = some b := by
  simp only [qbl, List.mem_cons, List.mem_append, mem_bl]
/-- What a call leaves of a queue. -/
def QL (w w' : World) (qb : Nat) (V : QV) (Q : QM) : Prop := ∃ V', QR w' qb V' Q ∧ Tch (qbl qb V) w w' ∧ ∀ b ∈ qbl qb V', b ∈ qbl qb V ∨ w.heap.size ≤ b
theorem QR.tch {w w' : World} {qb : Nat} {V : QV} {Q : QM} (h : QR w qb V Q) {S : List Nat} (ht : Tch S w w') (hS : ∀ b ∈ qbl qb V, b ∉ S) : QR w' qb V Q :=
  ⟨(ht.block _ h.blk.lt (hS _ (by simp [qbl]))).trans h.blk, own_tch h.m ht (fun b hb => hS b (mem_qbl.2 (.inr (.inl hb)))), own_tch h.r ht (fun b hb => hS b (mem_qbl.2 (.inr (.inr (.inl hb))))), own_tch h.d ht (fun b hb => hS b (mem_qbl.2 (.inr (.inr (.inr (.inl hb)))))), own_tch h.a ht (fun b hb => hS b (mem_qbl.2 (.inr (.inr (.inr (.inr hb))))))⟩
theorem QR.lt {w : World} {qb : Nat} {V : QV} {Q : QM} (h : QR w qb V Q) : ∀ b ∈ qbl qb V, b < w.heap.size := fun b hb => by
  rcases mem_qbl.1 hb with e | e | e | e | e
  · rw [e]; exact h.blk.lt
  · exact own_lt h.m e
  · exact own_lt h.r e
  · exact own_lt h.d e
  · exact own_lt h.a e
/-- The types of a queue's blocks. -/
abbrev TQ : List TypeId := [191, 226, 9, 230, 234]
theorem QR.ty {w : World} {qb : Nat} {V : QV} {Q : QM} (h : QR w qb V Q) : ∀ b ∈ qbl qb V, ∀ (C : Array Value) (t : TypeId), w.heap[b]? = some (.cells C t (0, 0)) → t ∈ TQ := fun b hb C t hC => by
  by_cases e1 : 191 = t
  · rw [← e1]; decide
  by_cases e2 : 226 = t
  · rw [← e2]; decide
  by_cases e3 : 9 = t
  · rw [← e3]; decide
  by_cases e4 : 230 = t
  · rw [← e4]; decide
  by_cases e5 : 234 = t
  · rw [← e5]; decide
  exfalso
  rcases mem_qbl.1 hb with e | e | e | e | e
  · have h0 : w.heap[qb]? = _ := h.blk
    rw [← e, hC] at h0
    simp at h0
    exact e1 h0.2.symm
  · exact own_ne h.m hC e2 e
  · exact own_ne h.r hC e3 e
  · exact own_ne h.d hC e4 e
  · exact own_ne h.a hC e5 e
theorem QR.fr {B : Nat} {w w' : World} {qb : Nat} {V : QV} {Q : QM} (h : QR w qb V Q) (hB : B ≤ w.heap.size) (hlo : ∀ b ∈ qbl qb V, B ≤ b) (ht : Tch (qbl qb V) w w') : Fr B TQ w w' := Fr.of_tch ht hB hlo h.ty
theorem QR.keep {B : Nat} {T : List TypeId} {w w' : World} {qb : Nat} {V : QV} {Q : QM} (h : QR w qb V Q) (hf : Fr B T w w') (hT : ∀ t ∈ TQ, t ∉ T) : QR w' qb V Q :=
  ⟨hf.keep _ _ _ h.blk (hT _ (by decide)), hf.own h.m (hT _ (by decide)), hf.own h.r (hT _ (by decide)), hf.own h.d (hT _ (by decide)), hf.own h.a (hT _ (by decide))⟩

/-- The queue behind a message that was sent. -/
def sendQ (Q : QM) (r : Wp.Rq) (now : Int) : QM :=
  { Q with next := Q.next + 1, ms := Q.ms ++ [⟨(Q.next : Nat), r.grp, r.bod, 0, 0⟩], rs := if idxL (isG r.grp) Q.ms < 0 then Q.rs ++ [r.grp] else Q.rs, ds := if 0 < Q.c.win then Q.ds ++ [⟨didS r, (Q.next : Nat), now + Q.c.win⟩] else Q.ds }

theorem rs_len (b : Prop) [Decidable b] (l : List ByteArray) (g : ByteArray) : (if b then l ++ [g] else l).length = if b then l.length + 1 else l.length := by split <;> simp
theorem rs_map (b : Prop) [Decidable b] (l : List ByteArray) (g : ByteArray) : (if b then l ++ [g] else l).map Value.string = if b then l.map Value.string ++ [.string g] else l.map Value.string := by split <;> simp

theorem sent_q (Q : QM) (V : QV) (r : Wp.Rq) (y : Sl) (qb gq gi gn gr : Nat) (now : Int) (w : World) (h : QR w qb V Q) (hnm : Q.ms.length ≤ 1000) (hnr : Q.rs.length ≤ 1000) (hnd : Q.ds.length ≤ 1000) (hk : Q.next ≤ 200) (hwin : 0 ≤ Q.c.win ∧ Q.c.win ≤ 1001) (hnow : 0 ≤ now ∧ now ≤ 60000)
    (hgq : w.heap[gq]? = some (.cells #[.pointer (some ⟨qb, 0, none⟩)] 152 (0, 0))) (hgi : w.heap[gi]? = some (.cells #[.string (didS r)] 9 (0, 0))) (hgn : w.heap[gn]? = some (.cells #[.int .i64 now] 3 (0, 0))) (hgr : w.heap[gr]? = some (.cells (cellsOf r y.v) 27 (0, 0))) :
    Calls Tryz.prog 218 #[.pointer (some ⟨gq, 0, none⟩), .pointer (some ⟨gi, 0, none⟩), .pointer (some ⟨gn, 0, none⟩), .pointer (some ⟨gr, 0, none⟩)] w fun e w' => e = .returned (.tuple #[]) ∧ QL w w' qb V (sendQ Q r now) := by
  have ha : ∀ (S : List Nat) (w' : World), (∀ b ∈ S, b = qb ∨ V.d.ownBlock = some b ∨ V.m.ownBlock = some b ∨ V.r.ownBlock = some b) → Tch S w w' → w'.ownsRow 0 234 3 V.a Q.ats.length (Q.ats.flatMap At.row) := fun S w' hS ht => own_tch h.a ht (fun b hb hm => by
    obtain ⟨C, hC⟩ : ∃ C, w.heap[b]? = some (.cells C 234 (0, 0)) := by
      rcases h.a.2 with ⟨h0, _⟩ | ⟨g', cap', cur', h0, _, hg', _⟩
      · rw [h0] at hb; simp [Value.ownBlock] at hb
      · rw [h0] at hb
        simp only [Value.ownBlock, Option.some.injEq] at hb
        subst hb
        exact ⟨_, hg'⟩
    rcases hS b hm with e | e | e | e
    · have h0 : w.heap[qb]? = _ := h.blk
      rw [← e, hC] at h0
      simp at h0
    · exact own_ne h.d hC (by decide) e
    · exact own_ne h.m hC (by decide) e
    · exact own_ne h.r hC (by decide) e)
  by_cases hw : 0 < Q.c.win
  · refine sentg_walk (fun w' => QL w w' qb V (sendQ Q r now)) Q.c r y (didS r) qb Q.next Q.rs.length Q.ds.length gq gi gn gr now V.d V.m V.r V.a Q.ms (Q.rs.map Value.string) (Q.ds.flatMap Dd.row) w h.blk h.m h.r h.d hnm hnd hnr hk ⟨hw, hwin.2⟩ hnow hgq hgi hgn hgr ?_
    intro w' ms' rs' ds' hq hm hr hd hN1 hN2 hj ht
    refine ⟨⟨ms', rs', ds', V.a⟩, ⟨hq, ?_, ?_, ?_, ?_⟩, ht.sub (fun x hx _ => ?_), fun b hb => ?_⟩
    · simpa [sendQ, Ms.row] using hm
    · show w'.ownsRow 0 9 1 rs' (sendQ Q r now).rs.length ((sendQ Q r now).rs.map Value.string)
      simp only [sendQ, rs_len, rs_map]
      exact hr
    · simpa [sendQ, hw, Dd.row, ddV] using hd
    · exact ha _ w' (fun b hb => by
        rcases List.mem_cons.1 hb with e | e
        · exact .inl e
        · rcases List.mem_append.1 e with e | e
          · exact .inr (.inl (mem_bl.1 e))
          · rcases List.mem_append.1 e with e | e
            · exact .inr (.inr (.inl (mem_bl.1 e)))
            · exact .inr (.inr (.inr (mem_bl.1 e)))) ht
    · rcases List.mem_cons.1 hx with e | e
      · exact mem_qbl.2 (.inl e)
      · rcases List.mem_append.1 e with e | e
        · exact mem_qbl.2 (.inr (.inr (.inr (.inl (mem_bl.1 e)))))
        · rcases List.mem_append.1 e with e | e
          · exact mem_qbl.2 (.inr (.inl (mem_bl.1 e)))
          · exact mem_qbl.2 (.inr (.inr (.inl (mem_bl.1 e))))
    · rcases mem_qbl.1 hb with e | e | e | e | e
      · exact .inl (mem_qbl.2 (.inl e))
      · exact (hN1 b e).imp (fun h => mem_qbl.2 (.inr (.inl h))) id
      · exact (hN2 b e).imp (fun h => mem_qbl.2 (.inr (.inr (.inl h)))) id
      · exact (hj b e).imp (fun h => mem_qbl.2 (.inr (.inr (.inr (.inl h))))) id
      · exact .inl (mem_qbl.2 (.inr (.inr (.inr (.inr e)))))
  · have hw0 : Q.c.win = 0 := by omega
    refine sentg_now (fun w' => QL w w' qb V (sendQ Q r now)) Q.c r y qb Q.next Q.rs.length gq gi gn gr V.d V.m V.r V.a Q.ms (Q.rs.map Value.string) w h.blk h.m h.r hnm hnr hk hw0 hgq hgr ?_
    intro w' ms' rs' hq hm hr hN1 hN2 ht
    have hS : ∀ b ∈ (qb :: (bl V.m ++ bl V.r)), b = qb ∨ V.d.ownBlock = some b ∨ V.m.ownBlock = some b ∨ V.r.ownBlock = some b := fun b hb => by
      rcases List.mem_cons.1 hb with e | e
      · exact .inl e
      · rcases List.mem_append.1 e with e | e
        · exact .inr (.inr (.inl (mem_bl.1 e)))
        · exact .inr (.inr (.inr (mem_bl.1 e)))
    refine ⟨⟨ms', rs', V.d, V.a⟩, ⟨hq, ?_, ?_, ?_, ha _ w' hS ht⟩, ht.sub (fun x hx _ => ?_), fun b hb => ?_⟩
    · simpa [sendQ, Ms.row] using hm
    · show w'.ownsRow 0 9 1 rs' (sendQ Q r now).rs.length ((sendQ Q r now).rs.map Value.string)
      simp only [sendQ, rs_len, rs_map]
      exact hr
    · have hd' : w'.ownsRow 0 230 3 V.d Q.ds.length (Q.ds.flatMap Dd.row) := own_tch h.d ht (fun b hb hm => by
        obtain ⟨C, hC⟩ : ∃ C, w.heap[b]? = some (.cells C 230 (0, 0)) := by
          rcases h.d.2 with ⟨h0, _⟩ | ⟨g', cap', cur', h0, _, hg', _⟩
          · rw [h0] at hb; simp [Value.ownBlock] at hb
          · rw [h0] at hb
            simp only [Value.ownBlock, Option.some.injEq] at hb
            subst hb
            exact ⟨_, hg'⟩
        rcases List.mem_cons.1 hm with e | e
        · have h0 : w.heap[qb]? = _ := h.blk
          rw [← e, hC] at h0
          simp at h0
        · rcases List.mem_append.1 e with e | e
          · exact own_ne h.m hC (by decide) (mem_bl.1 e)
          · exact own_ne h.r hC (by decide) (mem_bl.1 e))
      simpa [sendQ, hw] using hd'
    · rcases List.mem_cons.1 hx with e | e
      · exact mem_qbl.2 (.inl e)
      · rcases List.mem_append.1 e with e | e
        · exact mem_qbl.2 (.inr (.inl (mem_bl.1 e)))
        · exact mem_qbl.2 (.inr (.inr (.inl (mem_bl.1 e))))
    · rcases mem_qbl.1 hb with e | e | e | e | e
      · exact .inl (mem_qbl.2 (.inl e))
      · exact (hN1 b e).imp (fun h => mem_qbl.2 (.inr (.inl h))) id
      · exact (hN2 b e).imp (fun h => mem_qbl.2 (.inr (.inr (.inl h)))) id
      · exact .inl (mem_qbl.2 (.inr (.inr (.inr (.inl e)))))
      · exact .inl (mem_qbl.2 (.inr (.inr (.inr (.inr e)))))
end Go.Proofs.YtbdobaapadlcjaaGreatDoor

namespace Go.Proofs.YtbdobaapadlcjaaGreatDoor
open Go.RowKit
set_option linter.unusedVariables false

/-- How often, once more. -/
def oft (n : Nat) : Nat := if n + 1 ≤ 65535 then n + 1 else 65535
theorem oft_le (n : Nat) : oft n ≤ 65535 := by unfold oft; split <;> omega
theorem ret_i64 {a b : Int} (h : a = b) : Ending.returned (.int .i64 a) = .returned (.int .i64 b) := by rw [h]

set_option maxHeartbeats 400000 in
theorem oftener_any (n : Nat) (w : World) (hn : n ≤ 65535) : Calls Tryz.prog 213 #[.int .i64 (n : Int)] w fun e w' => e = .returned (.int .i64 (oft n : Nat)) ∧ w' = w := by
  by_cases h : n + 1 ≤ 65535
  · have ho : Hid (oft n = n + 1) := by show _ = _; unfold oft; rw [if_pos h]
    go_enter Tryz.func213, Tryz.ntmps213
    go_wp2
    go_ret
    exact ⟨ret_i64 (by rw [ho.out]; omega), rfl⟩
  · have ho : Hid (oft n = 65535) := by show _ = _; unfold oft; rw [if_neg h]
    go_enter Tryz.func213, Tryz.ntmps213
    go_wp2
    go_ret
    exact ⟨ret_i64 (by rw [ho.out]; omega), rfl⟩

/-- Bytes that are put behind a row of one's own: what is of another type stays. -/
theorem Fr.grown5' {B : Nat} {a w w1 : World} (h : Fr B [5] a w) {base : Nat} {v : Value} {l : List UInt8} (ho : OwnB w base v l) (hg : w.grownBy w1 v.ownBlock) (hB : ∀ k, v.ownBlock = some k → B ≤ k := by intro k _; exact Nat.zero_le _) (hB2 : B ≤ w.heap.size := by exact Nat.zero_le _) : Fr B [5] a w1 :=
  ⟨hg.os.trans h.os, hg.tape.trans h.tape, hg.output.trans h.output, Nat.le_trans h.size hg.size, fun k hk => (hg.block k (by omega) (fun e => by have := hB k e.symm; omega)).trans (h.low k hk), fun k C t hk ht => by
    have h1 := h.keep k C t hk ht
    exact (hg.block k (lt_of_block h1) (fun e => own_ne ho h1 (fun e5 => ht (by rw [← e5]; simp)) e.symm)).trans h1⟩
theorem Fr.grown5 {a w w1 : World} (h : Fr 0 [5] a w) {base : Nat} {v : Value} {l : List UInt8} (ho : OwnB w base v l) {o : Obj} (hg : (w.alloc o).grownBy w1 v.ownBlock) : Fr 0 [5] a w1 :=
  (h.trans (Fr.of_nil [5] ((Tch.refl [] w).alloc o) (Nat.zero_le _))).grown5' (World.ownsRow.alloc ho o) hg

set_option maxHeartbeats 1000000 in
theorem appendNumber_f (base : Nat) (v : Value) (l : List UInt8) (n size : Nat) (w : World) (hn : n < 4294967296) (hs : size ≤ 8) (hl : l.length ≤ 1099511627776) (hb : base ≤ w.heap.size) (hown : OwnB w base v l) :
    Calls Tryz.prog 91 #[v, .int .i64 (n : Int), .int .i64 (size : Int)] w fun e w' => ∃ v', e = .returned v' ∧ OwnB w' base v' (l ++ lowB n size) ∧ Below base w w' ∧ Fr 0 [5] w w' := by
  obtain ⟨i0, hi, hz0, hz1, hz2⟩ := info_parts info5
  go_enter Tryz.func91, Tryz.ntmps91
  go_wp2
  go_loopw [0, 1, 8] (fun o m i wr => ∃ k : Nat, k ≤ size ∧ i = .int .i64 k ∧ m = .int .i64 ((n / 256 ^ k : Nat) : Int) ∧ OwnB wr base o (l ++ lowB n k) ∧ Below base w wr ∧ Fr 0 [5] w wr) (fun _ _ i _ => size - (intOf i).toNat)
  case atStart => exact ⟨0, Nat.zero_le _, rfl, by simp, by simpa [lowB] using hown, Below.refl _ _, Fr.refl _ _ _⟩
  case round =>
    obtain ⟨k, hk, rfl, rfl, ho, hbr, hfr⟩ := hrel
    by_cases hlt : k < size
    · have hle : (l ++ lowB n k).length ≤ 1099511627800 := by rw [List.length_append, lowB_length]; omega
      have hm : n / 256 ^ k < 4294967296 := Nat.lt_of_le_of_lt (Nat.div_le_self _ _) hn
      have hdiv : Hid (n / 256 ^ (k + 1) = n / 256 ^ k / 256) := by
        show _ = _
        rw [Nat.pow_succ, Nat.div_div_eq_div_mul]
      have hsn := byte_cell (n / 256 ^ k)
      have HSN : Hid (Value.int .u8 (((n / 256 ^ k : Nat) : Int) % 256) = .int .u8 ((UInt8.ofNat (n / 256 ^ k % 256)).toNat : Int)) := hsn
      have hls : Hid (l ++ lowB n (k + 1) = (l ++ lowB n k) ++ [UInt8.ofNat (n / 256 ^ k % 256)]) := by
        show _ = _
        rw [lowB_succ, List.append_assoc]
      have HBR : Hid (Below base w wr) := hbr
      have hsz := hbr.size
      have HFR : Hid (Fr 0 [5] w wr) := hfr
      clear hsn hbr hown hfr
      generalize n / 256 ^ k = m at hm hdiv HSN hls
      generalize l ++ lowB n k = L at ho hle hls
      have HO : Hid (OwnB wr base u0 L) := ho
      clear ho
      go_wp2_with (at_builtin; refine wpList_append_own _ rfl _ _ 74 rfl base 5 i0 (.int .u8 0) 1 1 Tryz.underlying74 hi hz0 hz1 hz2 rfl (by decide) _ _ _ rfl (World.ownsRow.alloc HO.out _) ⟨wr.heap.size, 0, none⟩ 1 1 [.int .u8 ((m : Int) % 256)] rfl rfl ?c1 ?c2 ?c3 ?c4 ?c5 ?_)
      case c1 => exact cell_one_new _ _ _
      case c2 => intro u hu; simp at hu; subst hu; rfl
      case c3 => unfold maxLen; omega
      case c4 => omega
      case c5 => simp; omega
      intro v' w1 hown' hgrow _
      have hr1 : OwnB w1 base v' (l ++ lowB n (k + 1)) := by rw [hls.out]; exact OwnB.snoc HSN.out hown'
      have hr2 : Below base w w1 := by
        refine Below.grown ((HBR.out).alloc (by omega) _) hgrow (by simp; omega) ?_
        intro k hk
        exact (World.ownsRow.lt HO.out k hk).1
      have hr3 : Fr 0 [5] w w1 := HFR.out.grown5 HO.out hgrow
      clear hown' hgrow
      go_wp2
      go_roundw
      case rel => exact ⟨k + 1, by omega, by go_num, by rw [hdiv.out]; go_num, hr1, hr2, hr3⟩
      case measure => simp [intOf]; omega
    · have he : k = size := by omega
      subst he
      go_wp2
      go_ret
      exact ⟨_, rfl, ho, hbr, hfr⟩


set_option maxHeartbeats 1000000 in
theorem appendText_f (base : Nat) (v : Value) (l : List UInt8) (s : ByteArray) (w : World) (hs : s.size ≤ 65535) (hl : l.length ≤ 1099511627776) (hb : base ≤ w.heap.size) (hown : OwnB w base v l) :
    Calls Tryz.prog 114 #[v, .string s] w fun e w' => ∃ v', e = .returned v' ∧ OwnB w' base v' (l ++ txtB s) ∧ Below base w w' ∧ Fr 0 [5] w w' := by
  obtain ⟨i0, hi, hz0, hz1, hz2⟩ := info_parts info5
  have hnum : Hid (Calls Tryz.prog 91 #[v, .int .i64 (s.size : Int), .int .i64 1] w fun e w' => ∃ v', e = .returned v' ∧ OwnB w' base v' (l ++ lowB s.size 1) ∧ Below base w w' ∧ Fr 0 [5] w w') :=
    appendNumber_f base v l s.size 1 w (by omega) (by decide) hl hb hown
  go_enter Tryz.func114, Tryz.ntmps114
  go_wp2_with fail
  refine (hnum.out).mono ?_
  rintro e w1 ⟨v1, rfl, ho1, hb1, hf1⟩
  have hle : (l ++ lowB s.size 1).length ≤ 1099511627800 := by rw [List.length_append, lowB_length]; omega
  have hls : Hid (l ++ txtB s = (l ++ lowB s.size 1) ++ s.data.toList) := by
    show _ = _
    rw [txtB, List.append_assoc]
  generalize l ++ lowB s.size 1 = L at ho1 hle hls
  have hsz := hb1.size
  have HO : Hid (OwnB w1 base v1 L) := ho1
  have HB : Hid (Below base w w1) := hb1
  have HF1 : Hid (Fr 0 [5] w w1) := hf1
  clear ho1 hb1 hown hf1
  go_wp2_with (at_builtin; refine Lib.wpList_append_own_string _ rfl _ _ 74 9 rfl base 5 i0 Tryz.underlying74 Tryz.underlying9 hi hz0 hz1 hz2 _ _ _ rfl HO.out s rfl ?c1 ?c2 ?c3 ?_)
  case c1 => unfold maxLen; omega
  case c2 => omega
  case c3 => omega
  intro v' w2 hown' hgrow _
  have hr1 : OwnB w2 base v' (l ++ txtB s) := by
    rw [hls.out]
    unfold OwnB
    have e1 : bytesV (L ++ s.data.toList) = bytesV L ++ Lib.strCells s := by rw [← bytesV_str]; simp [bytesV]
    have e2 : (L ++ s.data.toList).length = L.length + s.size := by rw [List.length_append]; rfl
    rw [e1, e2]
    exact hown'
  have hr2 : Below base w w2 := by
    refine Below.grown HB.out hgrow (by omega) ?_
    intro k hk
    exact (World.ownsRow.lt HO.out k hk).1
  have hr3 : Fr 0 [5] w w2 := HF1.out.grown5' HO.out hgrow
  clear hown' hgrow
  go_wp2
  go_ret
  exact ⟨_, rfl, hr1, hr2, hr3⟩


/-- A handle's bytes. -/
def hanB (q : UInt8) (num rcv : Nat) : List UInt8 := [72, q] ++ (lowB num 4 ++ lowB rcv 2)

theorem two_new (w : World) (a b : Value) : ∀ j u, [a, b][j]? = some u → (w.alloc (.cells #[a, b] 5)).cell? ((⟨w.heap.size, 0, none⟩ : Addr).add j) = some u := fun j u hj => by
  have e2 : (⟨w.heap.size, 0, none⟩ : Addr).add j = ⟨w.heap.size, j, none⟩ := by unfold Addr.add; split <;> simp_all
  rw [e2, cell_of_row _ w.heap.size j #[a, b] 5 (0, 0) (heap_alloc_new _ _)]
  simpa using hj

set_option maxHeartbeats 1000000 in
theorem appendHandle_any (base : Nat) (v : Value) (l : List UInt8) (q : UInt8) (num rcv : Nat) (w : World) (hn : num < 4294967296) (hr : rcv < 4294967296) (hl : l.length ≤ 1048576) (hb : base ≤ w.heap.size) (hown : OwnB w base v l) :
    Calls Tryz.prog 266 #[v, .agg #[.int .u8 (q.toNat : Int), .int .i64 (num : Int), .int .i64 (rcv : Int)]] w fun e w' => ∃ v', e = .returned v' ∧ OwnB w' base v' (l ++ hanB q num rcv) ∧ Below base w w' ∧ Fr 0 [5] w w' := by
  obtain ⟨i0, hi, hz0, hz1, hz2⟩ := info_parts info5
  have HO : Hid (OwnB w base v l) := hown
  have hql := q.toNat_lt
  clear hown
  go_enter Tryz.func266, Tryz.ntmps266
  go_wp2_with (at_builtin; refine wpList_append_own _ rfl _ _ 74 rfl base 5 i0 (.int .u8 0) 1 1 Tryz.underlying74 hi hz0 hz1 hz2 rfl (by decide) v l.length (bytesV l) ?c0 (World.ownsRow.alloc (World.ownsRow.alloc HO.out _) _) ⟨w.heap.size + 1, 0, none⟩ 2 2 [.int .u8 72, .int .u8 (q.toNat : Int)] ?cx rfl ?c1 ?c2 ?c3 ?c4 ?c5 ?_)
  case c0 => simp [Act.eval]
  case cx => simp [Act.eval]
  case c1 =>
    have h := two_new (w.alloc (.cells #[.int .u8 (q.toNat : Int), .int .i64 (num : Int), .int .i64 (rcv : Int)] 237)) (.int .u8 72) (.int .u8 (q.toNat : Int))
    rw [World.size_alloc] at h
    exact h
  case c2 => intro u hu; simp at hu; rcases hu with rfl | rfl <;> rfl
  case c3 => unfold maxLen; omega
  case c4 => omega
  case c5 => simp; omega
  intro v1 w1 hown1 hgrow _
  have ho1 : OwnB w1 base v1 (l ++ [72, q]) := by
    unfold OwnB
    have e1 : bytesV (l ++ [72, q]) = bytesV l ++ [.int .u8 72, .int .u8 (q.toNat : Int)] := by simp [bytesV]
    rw [e1, List.length_append]
    exact hown1
  have hb1 : Below base w w1 := by
    refine Below.grown (((Below.refl _ _).alloc (by omega) _).alloc (by simp; omega) _) hgrow (by simp; omega) ?_
    intro k hk
    exact (World.ownsRow.lt HO.out k hk).1
  have hbx : w1.heap[w.heap.size]? = some (.cells #[.int .u8 (q.toNat : Int), .int .i64 (num : Int), .int .i64 (rcv : Int)] 237 (0, 0)) := by
    have h1 := hgrow.block w.heap.size (by simp; omega) (fun e => by have := (World.ownsRow.lt HO.out w.heap.size e.symm).2; omega)
    rw [h1, Below.heap_alloc _ _ _ (by simp)]
    exact heap_alloc_new _ _
  have hz1' : w.heap.size + 2 ≤ w1.heap.size := by have := hgrow.size; simpa using this
  have hf1 : Fr 0 [5] w w1 := ((Fr.refl 0 [5] w).trans (Fr.of_nil [5] (((Tch.refl [] w).alloc _).alloc _) (Nat.zero_le _))).grown5' (World.ownsRow.alloc (World.ownsRow.alloc HO.out _) _) hgrow
  have HN1 : Hid (Calls Tryz.prog 91 #[v1, .int .i64 (num : Int), .int .i64 4] w1 fun e w' => ∃ v', e = .returned v' ∧ OwnB w' base v' ((l ++ [72, q]) ++ lowB num 4) ∧ Below base w1 w' ∧ Fr 0 [5] w1 w') := appendNumber_f base v1 _ num 4 w1 hn (by decide) (by rw [List.length_append]; simp; omega) (by omega) ho1
  have HX : Hid (w1.heap[w.heap.size]? = some (.cells #[.int .u8 (q.toNat : Int), .int .i64 (num : Int), .int .i64 (rcv : Int)] 237 (0, 0))) := hbx
  have HB1 : Hid (Below base w w1 ∧ Fr 0 [5] w w1) := ⟨hb1, hf1⟩
  have f1 : w1.cell? ⟨w.heap.size, 1, none⟩ = some (.int .i64 (num : Int)) := cell_qC hbx 1 _ rfl
  have hnl := lt_of_block hbx
  clear hown1 hgrow ho1 hb1 hbx hf1
  go_wp2_with fail
  refine HN1.out.mono ?_
  rintro e w2 ⟨v2, rfl, ho2, hb2, hf2⟩
  have hbx2 := hf2.keep _ _ _ HX.out (by decide)
  have f2 : w2.cell? ⟨w.heap.size, 2, none⟩ = some (.int .i64 (rcv : Int)) := cell_qC hbx2 2 _ rfl
  have hnl2 := lt_of_block hbx2
  have z2 := hb2.size
  have HN2 : Hid (Calls Tryz.prog 91 #[v2, .int .i64 (rcv : Int), .int .i64 2] w2 fun e w' => ∃ v', e = .returned v' ∧ OwnB w' base v' (((l ++ [72, q]) ++ lowB num 4) ++ lowB rcv 2) ∧ Below base w2 w' ∧ Fr 0 [5] w2 w') := appendNumber_f base v2 _ rcv 2 w2 hr (by decide) (by simp [lowB_length]; omega) (by omega) ho2
  have HB2 : Hid (Below base w w2 ∧ Fr 0 [5] w w2) := ⟨HB1.out.1.trans hb2, HB1.out.2.trans hf2⟩
  clear ho2 hb2 hf2 hbx2 f1
  go_wp2_with fail
  refine HN2.out.mono ?_
  rintro e w3 ⟨v3, rfl, ho3, hb3, hf3⟩
  have H3 : Hid (OwnB w3 base v3 (l ++ hanB q num rcv) ∧ Below base w w3 ∧ Fr 0 [5] w w3) := by
    refine ⟨?_, HB2.out.1.trans hb3, HB2.out.2.trans hf3⟩
    have e : l ++ hanB q num rcv = ((l ++ [72, q]) ++ lowB num 4) ++ lowB rcv 2 := by simp [hanB]
    rw [e]
    exact ho3
  clear ho3 hb3 hf3
  go_wp2_with fail
  go_ret
  exact ⟨v3, rfl, H3.out.1, H3.out.2.1, H3.out.2.2⟩

/-- What a receiver is told of a message. -/
def givB (q : UInt8) (num rcv : Nat) (g b : ByteArray) : List UInt8 := hanB q num (oft rcv) ++ (txtB g ++ txtB b)

set_option maxRecDepth 8000 in
set_option maxHeartbeats 2000000 in
theorem appendGiven_any (base : Nat) (v : Value) (l : List UInt8) (q : UInt8) (num rcv qb : Nat) (til : Int) (g b : ByteArray) (C : Array Value) (w : World) (hqb : w.heap[qb]? = some (.cells C 191 (0, 0))) (hC : C[0]? = some (.int .u8 (q.toNat : Int))) (hn : num < 4294967296) (hr : rcv ≤ 65535) (hg : g.size ≤ 255) (hbd : b.size ≤ 255) (hl : l.length ≤ 65536) (hb : base ≤ w.heap.size) (hown : OwnB w base v l) :
    Calls Tryz.prog 211 #[.pointer (some ⟨qb, 0, none⟩), v, .agg #[.int .i64 (num : Int), .string g, .string b, .int .i64 (rcv : Int), .int .i64 til]] w fun e w' => ∃ v', e = .returned v' ∧ OwnB w' base v' (l ++ givB q num rcv g b) ∧ Below base w w' ∧ Fr 0 [5] w w' := by
  have hoft := oft_le rcv
  obtain ⟨wa, hwa⟩ : ∃ wa, wa = w.alloc (.cells #[.int .i64 (num : Int), .string g, .string b, .int .i64 (rcv : Int), .int .i64 til] 226) := ⟨_, rfl⟩
  have HBX : Hid (wa.heap[w.heap.size]? = some (.cells #[.int .i64 (num : Int), .string g, .string b, .int .i64 (rcv : Int), .int .i64 til] 226 (0, 0))) := by rw [hwa]; exact heap_alloc_new _ _
  have HQB : Hid (wa.heap[qb]? = some (.cells C 191 (0, 0))) := by rw [hwa]; exact (Below.heap_alloc _ _ _ (lt_of_block hqb)).trans hqb
  have HT : Hid (Tch [] w wa) := by rw [hwa]; exact (Tch.refl _ _).alloc _
  have HOA : Hid (OwnB wa base v l) := by rw [hwa]; exact World.ownsRow.alloc hown _
  have za := HT.out.size
  have HOF : Hid (∀ W, Calls Tryz.prog 213 #[.int .i64 (rcv : Int)] W fun e w' => e = .returned (.int .i64 (oft rcv : Nat)) ∧ w' = W) := fun W => oftener_any rcv W hr
  have HAH : Hid (Calls Tryz.prog 266 #[v, .agg #[.int .u8 (q.toNat : Int), .int .i64 (num : Int), .int .i64 (oft rcv : Nat)]] wa.drew fun e w' => ∃ v', e = .returned v' ∧ OwnB w' base v' (l ++ hanB q num (oft rcv)) ∧ Below base wa.drew w' ∧ Fr 0 [5] wa.drew w') := appendHandle_any base v l q num (oft rcv) wa.drew hn (by omega) (by omega) (by show base ≤ wa.heap.size; omega) HOA.out
  have a0 : wa.cell? ⟨qb, 0, none⟩ = some (.int .u8 (q.toNat : Int)) := cell_qC HQB.out 0 _ hC
  have b0 : wa.cell? ⟨w.heap.size, 0, none⟩ = some (.int .i64 (num : Int)) := cell_qC HBX.out 0 _ rfl
  have b3 : wa.cell? ⟨w.heap.size, 3, none⟩ = some (.int .i64 (rcv : Int)) := cell_qC HBX.out 3 _ rfl
  have l1 := lt_of_block HQB.out
  have l2 := lt_of_block HBX.out
  have HHL : Hid ((l ++ hanB q num (oft rcv)).length ≤ 65600) := by show _ ≤ _; simp [hanB, lowB_length]; omega
  clear hown hqb
  go_enter Tryz.func211, Tryz.ntmps211
  go_wp2_with fail
  rw [← hwa]
  clear hwa
  go_region_held3 (fun w' => w'.cell? ⟨qb, 0, none⟩ = some (.int .u8 (q.toNat : Int)) ∧ w'.cell? ⟨w.heap.size, 0, none⟩ = some (.int .i64 (num : Int)) ∧ w'.cell? ⟨w.heap.size, 3, none⟩ = some (.int .i64 (rcv : Int))) (go_keep) (first | (go_at_call 213; refine (HOF.out _).mono ?_; rintro e w' ⟨rfl, h'⟩; have h'' := h'.symm; subst h'') | (go_at_call 266; refine HAH.out.mono ?_; rintro e w2 ⟨v2, rfl, ho2, hb2, hf2⟩; have hbx2 := hf2.keep w.heap.size _ 226 HBX.out (by decide); have hqb2 := hf2.keep qb _ 191 HQB.out (by decide); have k0 : w2.cell? ⟨qb, 0, none⟩ = some (.int .u8 (q.toNat : Int)) := cell_qC hqb2 0 _ hC; have k1 : w2.cell? ⟨w.heap.size, 0, none⟩ = some (.int .i64 (num : Int)) := cell_qC hbx2 0 _ rfl; have k2 : w2.cell? ⟨w.heap.size, 3, none⟩ = some (.int .i64 (rcv : Int)) := cell_qC hbx2 3 _ rfl))
  have HB2 : Hid (w2.heap[w.heap.size]? = some (.cells #[.int .i64 (num : Int), .string g, .string b, .int .i64 (rcv : Int), .int .i64 til] 226 (0, 0))) := hbx2
  have z2 : base ≤ w2.heap.size := by have := hf2.size; have e : wa.drew.heap.size = wa.heap.size := rfl; omega
  have HT1 : Hid (Calls Tryz.prog 114 #[v2, .string g] w2 fun e w' => ∃ v', e = .returned v' ∧ OwnB w' base v' ((l ++ hanB q num (oft rcv)) ++ txtB g) ∧ Below base w2 w' ∧ Fr 0 [5] w2 w') := appendText_f base v2 _ g w2 (by omega) (by have := HHL.out; omega) z2 ho2
  have HF2 : Hid (Below base w w2 ∧ Fr 0 [5] w w2) := ⟨(HT.out.below (by simp) hb).trans ((below_drewN (Below.refl base wa) 1).trans hb2), ((Fr.of_nil [5] HT.out (Nat.zero_le _)).trans (Fr.of_nil [5] (Tch.refl [] wa).drew (Nat.zero_le _))).trans hf2⟩
  have c1 : w2.cell? ⟨w.heap.size, 1, none⟩ = some (.string g) := cell_qC hbx2 1 _ rfl
  have l3 := lt_of_block hbx2
  clear ho2 hb2 hf2 hbx2 hqb2 a0 b0 b3 k0 k1 k2 l1 l2
  go_wp2_with fail
  refine HT1.out.mono ?_
  rintro e w3 ⟨v3, rfl, ho3, hb3, hf3⟩
  have hbx3 := hf3.keep _ _ _ HB2.out (by decide)
  have c2 : w3.cell? ⟨w.heap.size, 2, none⟩ = some (.string b) := cell_qC hbx3 2 _ rfl
  have l4 := lt_of_block hbx3
  have z3 := hf3.size
  have HT2 : Hid (Calls Tryz.prog 114 #[v3, .string b] w3 fun e w' => ∃ v', e = .returned v' ∧ OwnB w' base v' (((l ++ hanB q num (oft rcv)) ++ txtB g) ++ txtB b) ∧ Below base w3 w' ∧ Fr 0 [5] w3 w') := appendText_f base v3 _ b w3 (by omega) (by have := HHL.out; rw [List.length_append, txtB_length]; omega) (by omega) ho3
  have HF3 : Hid (Below base w w3 ∧ Fr 0 [5] w w3) := ⟨HF2.out.1.trans hb3, HF2.out.2.trans hf3⟩
  clear ho3 hb3 hf3 hbx3 c1
  go_wp2_with fail
  refine HT2.out.mono ?_
  rintro e w4 ⟨v4, rfl, ho4, hb4, hf4⟩
  have H4 : Hid (OwnB w4 base v4 (l ++ givB q num rcv g b) ∧ Below base w w4 ∧ Fr 0 [5] w w4) := by
    refine ⟨?_, HF3.out.1.trans hb4, HF3.out.2.trans hf4⟩
    have e : l ++ givB q num rcv g b = ((l ++ hanB q num (oft rcv)) ++ txtB g) ++ txtB b := by simp [givB]
    rw [e]
    exact ho4
  clear ho4 hb4 hf4
  go_wp2_with fail
  go_ret
  exact ⟨v4, rfl, H4.out.1, H4.out.2.1, H4.out.2.2⟩
end Go.Proofs.YtbdobaapadlcjaaGreatDoor
