/-
  DISKS: Append and Sync of both disks.
-/
import Derived.Test.YtbdobaapadlcjaaDoorDkB
import Derived.Deep.QuietTactic
import Derived.BigQuiet
import Derived.BigRegion
import Derived.RegionTactic
namespace Go.Proofs.YtbdobaapadlcjaaDoor.Dk
open Go.RowKit
set_option linter.unusedVariables false

/-- A disk, as the document has it. -/
structure DK where
  fs : List DF
  left : Int
  st : Bool
/-- A disk in memory: its block, and its files' row. -/
structure Dsk (w : World) (t te : TypeId) (p : Nat) (v : Value) (D : DK) : Prop where
  blk : DBlk w p t v D.left D.st
  own : Own w te v D.fs
  sep : v.ownBlock ≠ some p
def bl (p : Nat) (v : Value) : List Nat := p :: v.ownBlock.toList
theorem Own.tch {w w' : World} {te : TypeId} {v : Value} {fs : List DF} (h : Own w te v fs) {S : List Nat} (ht : Tch S w w') (hS : ∀ b, v.ownBlock = some b → b ∉ S) : Own w' te v fs := by
  refine ⟨h.1, ?_⟩
  rcases h.2 with h0 | ⟨g, cap, cur, rfl, hb, hg, h1, h2, h3, h4⟩
  · exact .inl h0
  · exact .inr ⟨g, cap, cur, rfl, hb, (ht.block g (Array.getElem?_eq_some_iff.1 hg).1 (hS g rfl)).trans hg, h1, h2, h3, h4⟩
theorem Dsk.tch {w w' : World} {t te : TypeId} {p : Nat} {v : Value} {D : DK} (h : Dsk w t te p v D) {S : List Nat} (ht : Tch S w w') (hS : ∀ b ∈ bl p v, b ∉ S) : Dsk w' t te p v D :=
  ⟨h.blk.tch ht (hS p (by simp [bl])), h.own.tch ht (fun b hb => hS b (by simp [bl, hb])), h.sep⟩
/-- What a call on a disk leaves: the disk, its own blocks or new ones. -/
def Left (w w' : World) (t te : TypeId) (p : Nat) (v : Value) (D : DK) : Prop :=
  ∃ v', Dsk w' t te p v' D ∧ Tch (bl p v) w w' ∧ ∀ b, v'.ownBlock = some b → v.ownBlock = some b ∨ w.heap.size ≤ b

theorem Left.drew {w w' : World} {t te : TypeId} {p : Nat} {v : Value} {D : DK} (h : Left w w' t te p v D) : Left w w'.drew t te p v D := by
  obtain ⟨v', h1, h2, h3⟩ := h
  exact ⟨v', ⟨h1.blk, h1.own, h1.sep⟩, h2.drew, h3⟩
theorem info81 : (Tryd.prog.info? 81).map (fun i => (i.zero, i.size, i.bytes)) = some (some (Value.agg #[.string ⟨#[]⟩, .string ⟨#[]⟩, .int .i64 0]), 3, 40) := by kernel_rfl
theorem info83 : (Tryd.prog.info? 83).map (fun i => (i.zero, i.size, i.bytes)) = some (some (Value.agg #[.string ⟨#[]⟩, .string ⟨#[]⟩, .int .i64 0]), 3, 40) := by kernel_rfl
def DF.arr (f : DF) : Array Value := #[.string f.name, .string f.data, .int .i64 (f.safe : Nat)]
/-- A file is put behind the others. -/
theorem wpList_file (w : World) {ops : Array Oper} {rest : List Oper} {o : Oper} {a : Act} {Q : Exit → Act → World → Prop} (hgd : o.guard = none) (s x : Operand) (t te : TypeId)
    (ho : o.op = .call { callee := .builtin .append, args := #[s, x], argTypes := #[t, t] }) (ht : Tryd.prog.underlying t = some (.slice te))
    (hinfo : (Tryd.prog.info? te).map (fun i => (i.zero, i.size, i.bytes)) = some (some (Value.agg #[.string ⟨#[]⟩, .string ⟨#[]⟩, .int .i64 0]), 3, 40))
    (v : Value) (fs : List DF) (hs : a.eval s = v) (hown : Own w te v fs) (g : Nat) (f : DF) (hx : a.eval x = .slice (some ⟨g, 0, none⟩) 1 1) (hg : w.heap[g]? = some (.cells f.arr te (0, 0))) (hn : fs.length ≤ 8388608)
    (h : ∀ v' w', Own w' te v' (fs ++ [f]) → w.grownBy w' v.ownBlock → (v'.ownBlock = v.ownBlock ∨ v'.ownBlock = some w.heap.size) → wpList Tryd.prog ops Q rest (a.put o.dst v') w') : wpList Tryd.prog ops Q (o :: rest) a w := by
  obtain ⟨i0, hi, hz0, hz1, hz2⟩ := info_parts hinfo
  refine wpList_app w hgd s x t ho 0 te i0 _ 3 40 ht hi hz0 hz1 hz2 rfl (by decide) v fs.length (rowOf fs) hs hown ⟨g, 0, none⟩ 1 1 f.row hx rfl ?_ ?_ ?_ ?_ (Nat.zero_le _) (by decide) ?_
  · intro j u hj
    have e : (⟨g, 0, none⟩ : Addr).add j = ⟨g, j, none⟩ := by unfold Addr.add; split <;> simp_all
    rw [e, cell_of_row w g j _ te (0, 0) hg, ← hj]
    simp [DF.arr, DF.row]
  · intro u hu
    simp only [DF.row, List.mem_cons, List.not_mem_nil, or_false] at hu
    rcases hu with rfl | rfl | rfl <;> rfl
  · unfold maxLen; omega
  · omega
  · intro v' w' h1 h2 h3
    refine h v' w' ?_ h2 h3
    show w'.ownsRow 0 te 3 v' (fs ++ [f]).length (rowOf (fs ++ [f]))
    rw [List.length_append, rowOf_app]
    exact h1

theorem rowOf_setD (fs : List DF) (j : Nat) (h : j < fs.length) (d : ByteArray) : rowOf (fs.set j { fs[j] with data := d }) = (rowOf fs).set (j * 3 + 1) (.string d) := by
  induction fs generalizing j with
  | nil => cases h
  | cons g fs ih =>
    cases j with
    | zero => rfl
    | succ j =>
      show g.row ++ rowOf (fs.set j { fs[j]'(by simpa using h) with data := d }) = (g.row ++ rowOf fs).set _ _
      rw [ih j (by simpa using h), List.set_append_right _ _ (by show 3 ≤ _; omega)]
      have e : g.row.length = 3 := rfl
      rw [e, show (j + 1) * 3 + 1 - 3 = j * 3 + 1 by omega]
theorem rowOf_setS (fs : List DF) (j : Nat) (h : j < fs.length) (n : Nat) : rowOf (fs.set j { fs[j] with safe := n }) = (rowOf fs).set (j * 3 + 2) (.int .i64 (n : Nat)) := by
  induction fs generalizing j with
  | nil => cases h
  | cons g fs ih =>
    cases j with
    | zero => rfl
    | succ j =>
      show g.row ++ rowOf (fs.set j { fs[j]'(by simpa using h) with safe := n }) = (g.row ++ rowOf fs).set _ _
      rw [ih j (by simpa using h), List.set_append_right _ _ (by show 3 ≤ _; omega)]
      have e : g.row.length = 3 := rfl
      rw [e, show (j + 1) * 3 + 2 - 3 = j * 3 + 2 by omega]
theorem Own.setD {w : World} {te : TypeId} {g cap : Nat} {fs : List DF} (h : Own w te (.slice (some ⟨g, 0, none⟩) fs.length cap) fs) (k : Nat) (hk : k < fs.length) (d : ByteArray) :
    Own (w.setCell ⟨g, k * 3 + 1, none⟩ (.string d)) te (.slice (some ⟨g, 0, none⟩) fs.length cap) (fs.set k { fs[k] with data := d }) := by
  have h2 := (World.ownsRow.stored h (k * 3 + 1) (.string d)).1
  unfold Own
  rw [rowOf_setD fs k hk, List.length_set]
  exact h2
theorem Own.setS {w : World} {te : TypeId} {g cap : Nat} {fs : List DF} (h : Own w te (.slice (some ⟨g, 0, none⟩) fs.length cap) fs) (k : Nat) (hk : k < fs.length) (n : Nat) :
    Own (w.setCell ⟨g, k * 3 + 2, none⟩ (.int .i64 (n : Nat))) te (.slice (some ⟨g, 0, none⟩) fs.length cap) (fs.set k { fs[k] with safe := n }) := by
  have h2 := (World.ownsRow.stored h (k * 3 + 2) (.int .i64 (n : Nat))).1
  unfold Own
  rw [rowOf_setS fs k hk, List.length_set]
  exact h2
theorem Own.fz {w : World} {te : TypeId} {g cap n : Nat} {fs : List DF} (h : Own w te (.slice (some ⟨g, 0, none⟩) n cap) fs) (j : Nat) : w.frozen? ⟨g, j, none⟩ = false := by
  rcases h.2 with ⟨h', _⟩ | ⟨g', cap', cur, h', _, hg, _⟩
  · simp at h'
  · simp only [Value.slice.injEq, Option.some.injEq, Addr.mk.injEq, and_true] at h'
    obtain ⟨rfl, _⟩ := h'
    exact frozen_of_row w g j cur te hg
theorem Own.some {w : World} {te : TypeId} {v : Value} {fs : List DF} (h : Own w te v fs) (hn : 0 < fs.length) : ∃ g cap, v = .slice (some ⟨g, 0, none⟩) fs.length cap := by
  rcases h.open with ⟨_, rfl⟩ | ⟨g, cap, hv, _, _⟩
  · cases hn
  · exact ⟨g, cap, hv⟩

/-- A new row of files takes the old one's place in a disk. -/
theorem grow_fin {w w2 w3 : World} {t te : TypeId} {p : Nat} {v v' : Value} {L : Int} {S : Bool} {FS : List DF} {row : Option Nat} (hB : DBlk w2 p t v L S) (hT : Tch (bl p v) w w2) (hg3 : w2.grownBy w3 row) (ho3 : Own w3 te v' FS)
    (hr : ∀ k, row = some k → k ≠ p ∧ (v.ownBlock = some k ∨ w.heap.size ≤ k)) (hb3 : v'.ownBlock = row ∨ v'.ownBlock = some w2.heap.size) :
    DBlk w3 p t v L S ∧ Dsk (w3.setCell ⟨p, 0, none⟩ v') t te p v' ⟨FS, L, S⟩ ∧ Tch (bl p v) w (w3.setCell ⟨p, 0, none⟩ v') ∧ ∀ b, v'.ownBlock = some b → v.ownBlock = some b ∨ w.heap.size ≤ b := by
  have hB3 : DBlk w3 p t v L S := (hg3.block p hB.lt (fun e => (hr p e.symm).1 rfl)).trans hB
  have hsep : v'.ownBlock ≠ some p := by
    intro e
    rcases hb3 with hb3 | hb3
    · exact (hr p (hb3.symm.trans e)).1 rfl
    · have := hB.lt
      rw [e] at hb3
      injection hb3 with e2
      omega
  have hT3 : Tch (bl p v) w w3 := hT.grown hg3 (fun k hk hlt => by
    rcases (hr k hk).2 with h | h
    · simp [bl, h]
    · omega)
  refine ⟨hB3, ⟨hB3.s0 _, ho3.tch (S := [p]) ((Tch.refl _ _).setCell (fun _ => by simp) _) (fun b hb hm => hsep (by simp at hm; rw [hb, hm])), hsep⟩, hT3.setCell (fun _ => by simp [bl]) _, fun b hb => ?_⟩
  rcases hb3 with hb3 | hb3
  · exact (hr b (hb3.symm.trans hb)).2
  · rw [hb] at hb3
    injection hb3 with e
    right
    rw [e]
    exact hT.size
theorem Dsk.cells {w : World} {t te : TypeId} {p g n cap : Nat} {D : DK} (h : Dsk w t te p (.slice (some ⟨g, 0, none⟩) n cap) D) (k : Nat) (f : DF) (hk : D.fs[k]? = some f) :
    n = D.fs.length ∧ w.cell? ⟨g, k * 3, none⟩ = some (.string f.name) ∧ w.cell? ⟨g, k * 3 + 1, none⟩ = some (.string f.data) ∧ w.cell? ⟨g, k * 3 + 2, none⟩ = some (.int .i64 (f.safe : Nat)) ∧ ∀ j, w.frozen? ⟨g, j, none⟩ = false := by
  obtain ⟨a4, cap4, e4, hc4⟩ := h.own.at
  injection e4 with e5 e6 e7
  subst e5 e6 e7
  obtain ⟨hl, rfl⟩ := List.getElem?_eq_some_iff.1 hk
  obtain ⟨g4, hg4, c1, c2, c3⟩ := hc4 k hl
  injection hg4 with hg5
  injection hg5 with hg6
  subst hg6
  exact ⟨rfl, c1, c2, c3, h.own.fz⟩
theorem Dsk.setD {w : World} {t te : TypeId} {p g n cap : Nat} {D : DK} (h : Dsk w t te p (.slice (some ⟨g, 0, none⟩) n cap) D) (k : Nat) (f : DF) (hk : D.fs[k]? = some f) (d : ByteArray) :
    Dsk (w.setCell ⟨g, k * 3 + 1, none⟩ (.string d)) t te p (.slice (some ⟨g, 0, none⟩) n cap) ⟨D.fs.set k { f with data := d }, D.left, D.st⟩ ∧ Tch [g] w (w.setCell ⟨g, k * 3 + 1, none⟩ (.string d)) := by
  have ht : Tch [g] w (w.setCell ⟨g, k * 3 + 1, none⟩ (.string d)) := (Tch.refl _ _).setCell (fun _ => by simp) _
  obtain ⟨rfl, _⟩ := h.cells k f hk
  obtain ⟨hl, rfl⟩ := List.getElem?_eq_some_iff.1 hk
  exact ⟨⟨h.blk.tch ht (fun hm => h.sep (by simp at hm; rw [hm]; rfl)), h.own.setD k hl d, h.sep⟩, ht⟩
theorem Dsk.setS {w : World} {t te : TypeId} {p g n cap : Nat} {D : DK} (h : Dsk w t te p (.slice (some ⟨g, 0, none⟩) n cap) D) (k : Nat) (f : DF) (hk : D.fs[k]? = some f) (m : Nat) :
    Dsk (w.setCell ⟨g, k * 3 + 2, none⟩ (.int .i64 (m : Nat))) t te p (.slice (some ⟨g, 0, none⟩) n cap) ⟨D.fs.set k { f with safe := m }, D.left, D.st⟩ ∧ Tch [g] w (w.setCell ⟨g, k * 3 + 2, none⟩ (.int .i64 (m : Nat))) := by
  have ht : Tch [g] w (w.setCell ⟨g, k * 3 + 2, none⟩ (.int .i64 (m : Nat))) := (Tch.refl _ _).setCell (fun _ => by simp) _
  obtain ⟨rfl, _⟩ := h.cells k f hk
  obtain ⟨hl, rfl⟩ := List.getElem?_eq_some_iff.1 hk
  exact ⟨⟨h.blk.tch ht (fun hm => h.sep (by simp at hm; rw [hm]; rfl)), h.own.setS k hl m, h.sep⟩, ht⟩

theorem empty_cat (d : ByteArray) : (⟨#[]⟩ : ByteArray) ++ d = d := by
  apply ByteArray.ext
  simp [ByteArray.data_append]
/-- What Append leaves of the files. -/
def onF (name : ByteArray) (F : DF → DF) (fs : List DF) : List DF := if fnd name fs < 0 then fs else match fs[(fnd name fs).toNat]? with | some f => fs.set (fnd name fs).toNat (F f) | none => fs
theorem onF_none {name : ByteArray} {fs : List DF} (F : DF → DF) (h : fnd name fs = -1) : onF name F fs = fs := by unfold onF; rw [h]; rfl
theorem onF_some {name : ByteArray} {fs : List DF} (F : DF → DF) {k : Nat} {f : DF} (h : fnd name fs = (k : Int)) (hk : fs[k]? = some f) : onF name F fs = fs.set k (F f) := by
  unfold onF
  rw [h, if_neg (by omega), Int.toNat_natCast, hk]
def appF (name data : ByteArray) (fs : List DF) : List DF := if fnd name fs < 0 then fs ++ [⟨name, data, 0⟩] else onF name (fun f => { f with data := f.data ++ data }) fs
/-- What Sync leaves of the files. -/
def syncF (name : ByteArray) (fs : List DF) : List DF := onF name (fun f => { f with safe := f.data.size }) fs

set_option maxRecDepth 10000 in
set_option maxHeartbeats 1000000 in
theorem append_d (p : Nat) (v : Value) (D : DK) (name data : ByteArray) (w : World) (h : Dsk w 76 81 p v D) (hl : -9223372036854775808 ≤ D.left ∧ D.left ≤ 9223372036854775807) (hn : D.fs.length < 8388608)
    (hd : ∀ f ∈ D.fs, f.data.size + data.size ≤ 1099511627776) (hd0 : data.size ≤ 1099511627776) :
    Calls Tryd.prog 22 #[.pointer (some ⟨p, 0, none⟩), .string name, .string data] w fun e w' => e = .returned (.bool (stepOk D.left D.st)) ∧ Left w w' 76 81 p v ⟨if stepOk D.left D.st = true then appF name data D.fs else D.fs, stepL D.left D.st, stepS D.left D.st⟩ := by
  obtain ⟨fs, left, st⟩ := D
  simp only at *
  have HS : Hid (Calls Tryd.prog 44 #[.pointer (some ⟨p, 0, none⟩)] w fun e w' => e = .returned (.bool (stepOk left st)) ∧ DBlk w' p 76 v (stepL left st) (stepS left st) ∧ Tch [p] w w' ∧ w'.heap.size = w.heap.size) := step_d p v left st w h.blk hl
  have H : Hid (Dsk w 76 81 p v ⟨fs, left, st⟩) := h
  clear h
  generalize stepL left st = L at HS
  generalize stepS left st = S at HS
  cases hok : stepOk left st with
  | false =>
    rw [hok] at HS
    go_enter Tryd.func22, Tryd.ntmps22
    go_wp2_with fail
    refine HS.out.mono ?_
    rintro e w1 ⟨rfl, hb, ht, hz⟩
    have HB : Hid (DBlk w1 p 76 v L S ∧ Tch [p] w w1) := ⟨hb, ht⟩
    clear hb ht hz
    go_wp2_with fail
    go_ret
    refine ⟨rfl, v, ⟨HB.out.1, H.out.own.tch HB.out.2 (fun b hb hm => H.out.sep (by simp at hm; rw [hb, hm])), H.out.sep⟩, HB.out.2.sub (fun x hx _ => by simp at hx; simp [bl, hx]), fun b hb => .inl hb⟩
  | true =>
    rw [hok] at HS
    go_enter Tryd.func22, Tryd.ntmps22
    go_wp2_with fail
    refine HS.out.mono ?_
    rintro e w1 ⟨rfl, hb, ht, hz⟩
    have HB : Hid (DBlk w1 p 76 v L S ∧ Tch [p] w w1) := ⟨hb, ht⟩
    have HO : Hid (Own w1 81 v fs) := H.out.own.tch ht (fun b hb hm => H.out.sep (by simp at hm; rw [hb, hm]))
    clear hb ht hz
    go_wp2_with fail
    refine (find_d p v L S fs name w1 HB.out.1 HO.out (by omega)).mono ?_
    rintro e w2 ⟨rfl, rfl⟩
    have h0 := HB.out.1.c0
    have f0 := HB.out.1.fz 0
    rcases fnd_cases name fs with ⟨hf, _⟩ | ⟨k, hk, hf⟩
    · rw [hf]
      obtain ⟨nf, HNF⟩ : ∃ nf : DF, Hid (nf = ⟨name, ⟨#[]⟩, 0⟩) := ⟨_, rfl⟩
      go_wp2_with (at_builtin; refine wpList_file _ rfl _ _ 74 81 rfl Tryd.underlying74 info81 v fs rfl (HO.out.tch ((Tch.refl [] _).alloc _) (fun _ _ => by simp)) w2.heap.size nf rfl (by rw [HNF.out]; exact heap_alloc_new _ _) (by omega) ?_)
      intro v' w3 ho3 hg3 hb3
      obtain ⟨hB3, hD4, hT4, hn4⟩ := grow_fin (w := w) ((Below.heap_alloc _ _ _ HB.out.1.lt).trans HB.out.1) ((HB.out.2.alloc _).sub (fun x hx _ => by simp at hx; simp [bl, hx])) hg3 ho3 (fun k hk => ⟨fun e => H.out.sep (by rw [hk, e]), .inl hk⟩) (by simpa using hb3)
      obtain ⟨g, cap, hv⟩ := ho3.some (by simp)
      subst hv
      have hlen : (fs ++ [nf]).length = fs.length + 1 := by simp
      have hnth : (fs ++ [nf])[fs.length]? = some nf := by simp
      have HAPP : Hid ((fs ++ [nf]).set fs.length { nf with data := nf.data ++ data } = appF name data fs) := by
        show _ = _
        unfold appF
        rw [hf, if_pos (by decide), HNF.out]
        simp [empty_cat]
      generalize fs ++ [nf] = FS at hlen hnth HAPP hD4 hT4 hn4 ho3
      have HF := Dsk.setD (D := ⟨FS, L, S⟩) hD4 fs.length nf hnth (nf.data ++ data)
      obtain ⟨_, _, c4, _, zz⟩ := Dsk.cells (D := ⟨FS, L, S⟩) hD4 fs.length nf hnth
      have z4 := zz (fs.length * 3 + 1)
      rw [HAPP.out] at HF
      have c3 := hB3.c0
      have z3 := hB3.fz 0
      have HFIN : Hid (Left w ((w3.setCell ⟨p, 0, none⟩ (.slice (some ⟨g, 0, none⟩) FS.length cap)).setCell ⟨g, fs.length * 3 + 1, none⟩ (.string (nf.data ++ data))) 76 81 p v ⟨appF name data fs, L, S⟩) :=
        ⟨_, HF.1, hT4.setCell (fun hlt => by
          rcases hn4 g rfl with h | h
          · simp [bl, h]
          · simp at hlt; omega) _, hn4⟩
      rw [hlen] at c4 z4 HFIN ⊢
      have HND : Hid (nf.data.size = 0) := by rw [HNF.out]; rfl
      clear HF zz ho3 hg3 hb3 hB3 h0 f0 hD4 hT4 hn4 hnth HAPP hlen
      generalize nf.data = ND at c4 HFIN HND
      have hw : wrap64 ((fs.length : Int) + 1 - 1) = (fs.length : Int) := by simp [wrap64]; omega
      have hcat : ¬ 9223372036854775807 < ND.size + data.size := by rw [HND.out]; omega
      go_wp2_with fail
      go_ret
      exact ⟨rfl, HFIN.out⟩
    · rw [hf]
      obtain ⟨g, cap, hv⟩ := HO.out.some (by omega)
      subst hv
      have hD : Dsk w2 76 81 p (.slice (some ⟨g, 0, none⟩) fs.length cap) ⟨fs, L, S⟩ := ⟨HB.out.1, HO.out, H.out.sep⟩
      have hnth : fs[k]? = some fs[k] := List.getElem?_eq_getElem hk
      obtain ⟨_, _, c4, _, zz⟩ := hD.cells k fs[k] hnth
      have z4 := zz (k * 3 + 1)
      obtain ⟨hF, _⟩ := hD.setD k fs[k] hnth (fs[k].data ++ data)
      have HAPP : Hid (fs.set k { fs[k] with data := fs[k].data ++ data } = appF name data fs) := by
        show _ = _
        unfold appF
        rw [if_neg (by omega), onF_some _ hf hnth]
      have HFIN : Hid (Left w (w2.setCell ⟨g, k * 3 + 1, none⟩ (.string (fs[k].data ++ data))) 76 81 p (.slice (some ⟨g, 0, none⟩) fs.length cap) ⟨appF name data fs, L, S⟩) := by
        rw [← HAPP.out]
        exact ⟨_, hF, (HB.out.2.sub (fun x hx _ => by simp at hx; simp [bl, hx])).setCell (fun hlt => by simp [bl, Value.ownBlock]) _, fun b hb => .inl hb⟩
      have hcat : ¬ 9223372036854775807 < fs[k].data.size + data.size := by
        have := hd fs[k] (List.getElem_mem _)
        omega
      clear hF zz hD hnth HAPP
      generalize fs[k].data = ND at c4 HFIN hcat
      have hkl : ((k : Int) < (fs.length : Int)) := by omega
      go_wp2_with fail
      go_ret
      exact ⟨rfl, HFIN.out⟩
set_option maxRecDepth 10000 in
set_option maxHeartbeats 1000000 in
theorem append_r (p : Nat) (v : Value) (D : DK) (name data : ByteArray) (w : World) (h : Dsk w 79 83 p v D) (hl : -9223372036854775808 ≤ D.left ∧ D.left ≤ 9223372036854775807) (hn : D.fs.length < 8388608)
    (hd : ∀ f ∈ D.fs, f.data.size + data.size ≤ 1099511627776) (hd0 : data.size ≤ 1099511627776) :
    Calls Tryd.prog 23 #[.pointer (some ⟨p, 0, none⟩), .string name, .string data] w fun e w' => e = .returned (.bool (stepOk D.left D.st)) ∧ Left w w' 79 83 p v ⟨if stepOk D.left D.st = true then appF name data D.fs else D.fs, stepL D.left D.st, stepS D.left D.st⟩ := by
  obtain ⟨fs, left, st⟩ := D
  simp only at *
  have HS : Hid (Calls Tryd.prog 46 #[.pointer (some ⟨p, 0, none⟩)] w fun e w' => e = .returned (.bool (stepOk left st)) ∧ DBlk w' p 79 v (stepL left st) (stepS left st) ∧ Tch [p] w w' ∧ w'.heap.size = w.heap.size) := step_r p v left st w h.blk hl
  have H : Hid (Dsk w 79 83 p v ⟨fs, left, st⟩) := h
  clear h
  generalize stepL left st = L at HS
  generalize stepS left st = S at HS
  cases hok : stepOk left st with
  | false =>
    rw [hok] at HS
    go_enter Tryd.func23, Tryd.ntmps23
    go_wp2_with fail
    refine HS.out.mono ?_
    rintro e w1 ⟨rfl, hb, ht, hz⟩
    have HB : Hid (DBlk w1 p 79 v L S ∧ Tch [p] w w1) := ⟨hb, ht⟩
    clear hb ht hz
    go_wp2_with fail
    go_ret
    refine ⟨rfl, v, ⟨HB.out.1, H.out.own.tch HB.out.2 (fun b hb hm => H.out.sep (by simp at hm; rw [hb, hm])), H.out.sep⟩, HB.out.2.sub (fun x hx _ => by simp at hx; simp [bl, hx]), fun b hb => .inl hb⟩
  | true =>
    rw [hok] at HS
    go_enter Tryd.func23, Tryd.ntmps23
    go_wp2_with fail
    refine HS.out.mono ?_
    rintro e w1 ⟨rfl, hb, ht, hz⟩
    have HB : Hid (DBlk w1 p 79 v L S ∧ Tch [p] w w1) := ⟨hb, ht⟩
    have HO : Hid (Own w1 83 v fs) := H.out.own.tch ht (fun b hb hm => H.out.sep (by simp at hm; rw [hb, hm]))
    clear hb ht hz
    go_wp2_with fail
    refine (find_r p v L S fs name w1 HB.out.1 HO.out (by omega)).mono ?_
    rintro e w2 ⟨rfl, rfl⟩
    have h0 := HB.out.1.c0
    have f0 := HB.out.1.fz 0
    rcases fnd_cases name fs with ⟨hf, _⟩ | ⟨k, hk, hf⟩
    · rw [hf]
      obtain ⟨nf, HNF⟩ : ∃ nf : DF, Hid (nf = ⟨name, data, 0⟩) := ⟨_, rfl⟩
      have HAPP : Hid (fs ++ [nf] = appF name data fs) := by
        show _ = _
        unfold appF
        rw [hf, if_pos (by decide), HNF.out]
      go_wp2_with (at_builtin; refine wpList_file _ rfl _ _ 77 83 rfl Tryd.underlying77 info83 v fs rfl (HO.out.tch ((Tch.refl [] _).alloc _) (fun _ _ => by simp)) w2.heap.size nf rfl (by rw [HNF.out]; exact heap_alloc_new _ _) (by omega) ?_)
      intro v' w3 ho3 hg3 hb3
      obtain ⟨hB3, hD4, hT4, hn4⟩ := grow_fin (w := w) ((Below.heap_alloc _ _ _ HB.out.1.lt).trans HB.out.1) ((HB.out.2.alloc _).sub (fun x hx _ => by simp at hx; simp [bl, hx])) hg3 ho3 (fun k hk => ⟨fun e => H.out.sep (by rw [hk, e]), .inl hk⟩) (by simpa using hb3)
      obtain ⟨g, cap, hv⟩ := ho3.some (by simp)
      subst hv
      have hlen : (fs ++ [nf]).length = fs.length + 1 := by simp
      have hD5 : Dsk (w3.setCell ⟨p, 0, none⟩ (.slice (some ⟨g, 0, none⟩) (fs.length + 1) cap)) 79 83 p (.slice (some ⟨g, 0, none⟩) (fs.length + 1) cap) ⟨appF name data fs, L, S⟩ := by
        rw [← HAPP.out, ← hlen]; exact hD4
      have HFIN : Hid (Left w (w3.setCell ⟨p, 0, none⟩ (.slice (some ⟨g, 0, none⟩) (fs.length + 1) cap)) 79 83 p v ⟨appF name data fs, L, S⟩) := ⟨_, hD5, by rw [← hlen]; exact hT4, hn4⟩
      have c3 := hB3.c0
      have z3 := hB3.fz 0
      rw [hlen]
      clear ho3 hg3 hb3 hB3 hD4 hD5 hT4 hn4 h0 f0
      go_wp2_with fail
      go_ret
      exact ⟨rfl, HFIN.out⟩
    · rw [hf]
      obtain ⟨g, cap, hv⟩ := HO.out.some (by omega)
      subst hv
      have hD : Dsk w2 79 83 p (.slice (some ⟨g, 0, none⟩) fs.length cap) ⟨fs, L, S⟩ := ⟨HB.out.1, HO.out, H.out.sep⟩
      have hnth : fs[k]? = some fs[k] := List.getElem?_eq_getElem hk
      obtain ⟨_, _, c4, _, zz⟩ := hD.cells k fs[k] hnth
      have z4 := zz (k * 3 + 1)
      obtain ⟨hF, _⟩ := hD.setD k fs[k] hnth (fs[k].data ++ data)
      have HAPP : Hid (fs.set k { fs[k] with data := fs[k].data ++ data } = appF name data fs) := by
        show _ = _
        unfold appF
        rw [if_neg (by omega), onF_some _ hf hnth]
      have HFIN : Hid (Left w (w2.setCell ⟨g, k * 3 + 1, none⟩ (.string (fs[k].data ++ data))) 79 83 p (.slice (some ⟨g, 0, none⟩) fs.length cap) ⟨appF name data fs, L, S⟩) := by
        rw [← HAPP.out]
        exact ⟨_, hF, (HB.out.2.sub (fun x hx _ => by simp at hx; simp [bl, hx])).setCell (fun hlt => by simp [bl, Value.ownBlock]) _, fun b hb => .inl hb⟩
      have hcat : ¬ 9223372036854775807 < fs[k].data.size + data.size := by
        have := hd fs[k] (List.getElem_mem _)
        omega
      clear hF zz hD hnth HAPP
      generalize fs[k].data = ND at c4 HFIN hcat
      have hkl : ((k : Int) < (fs.length : Int)) := by omega
      go_wp2_with fail
      go_region
      go_wp2_with fail
      go_ret
      exact ⟨rfl, HFIN.out.drew⟩
set_option maxRecDepth 10000 in
set_option maxHeartbeats 1000000 in
theorem sync_d (p : Nat) (v : Value) (D : DK) (name : ByteArray) (w : World) (h : Dsk w 76 81 p v D) (hl : -9223372036854775808 ≤ D.left ∧ D.left ≤ 9223372036854775807) (hn : D.fs.length < 8388608) (hd : ∀ f ∈ D.fs, f.data.size ≤ 1099511627776) :
    Calls Tryd.prog 24 #[.pointer (some ⟨p, 0, none⟩), .string name] w fun e w' => e = .returned (.bool (stepOk D.left D.st)) ∧ Left w w' 76 81 p v ⟨if stepOk D.left D.st = true then syncF name D.fs else D.fs, stepL D.left D.st, stepS D.left D.st⟩ := by
  obtain ⟨fs, left, st⟩ := D
  simp only at *
  have HS : Hid (Calls Tryd.prog 44 #[.pointer (some ⟨p, 0, none⟩)] w fun e w' => e = .returned (.bool (stepOk left st)) ∧ DBlk w' p 76 v (stepL left st) (stepS left st) ∧ Tch [p] w w' ∧ w'.heap.size = w.heap.size) := step_d p v left st w h.blk hl
  have H : Hid (Dsk w 76 81 p v ⟨fs, left, st⟩) := h
  clear h
  generalize stepL left st = L at HS
  generalize stepS left st = S at HS
  cases hok : stepOk left st with
  | false =>
    rw [hok] at HS
    go_enter Tryd.func24, Tryd.ntmps24
    go_wp2_with fail
    refine HS.out.mono ?_
    rintro e w1 ⟨rfl, hb, ht, hz⟩
    have HB : Hid (DBlk w1 p 76 v L S ∧ Tch [p] w w1) := ⟨hb, ht⟩
    have HO : Hid (Own w1 81 v fs) := H.out.own.tch ht (fun b hb hm => H.out.sep (by simp at hm; rw [hb, hm]))
    clear hb ht hz
    go_wp2_with fail
    go_ret
    refine ⟨rfl, v, ⟨HB.out.1, HO.out, H.out.sep⟩, HB.out.2.sub (fun x hx _ => by simp at hx; simp [bl, hx]), fun b hb => .inl hb⟩
  | true =>
    rw [hok] at HS
    go_enter Tryd.func24, Tryd.ntmps24
    go_wp2_with fail
    refine HS.out.mono ?_
    rintro e w1 ⟨rfl, hb, ht, hz⟩
    have HB : Hid (DBlk w1 p 76 v L S ∧ Tch [p] w w1) := ⟨hb, ht⟩
    have HO : Hid (Own w1 81 v fs) := H.out.own.tch ht (fun b hb hm => H.out.sep (by simp at hm; rw [hb, hm]))
    clear hb ht hz
    go_wp2_with fail
    refine (find_d p v L S fs name w1 HB.out.1 HO.out (by omega)).mono ?_
    rintro e w2 ⟨rfl, rfl⟩
    have h0 := HB.out.1.c0
    have f0 := HB.out.1.fz 0
    rcases fnd_cases name fs with ⟨hf, _⟩ | ⟨k, hk, hf⟩
    · rw [hf]
      have HY : Hid (syncF name fs = fs) := onF_none _ hf
      go_wp2_with fail
      go_ret
      refine ⟨rfl, ?_⟩
      rw [HY.out]
      exact ⟨v, ⟨HB.out.1, HO.out, H.out.sep⟩, HB.out.2.sub (fun x hx _ => by simp at hx; simp [bl, hx]), fun b hb => .inl hb⟩
    · rw [hf]
      obtain ⟨g, cap, hv⟩ := HO.out.some (by omega)
      subst hv
      have hD : Dsk w2 76 81 p (.slice (some ⟨g, 0, none⟩) fs.length cap) ⟨fs, L, S⟩ := ⟨HB.out.1, HO.out, H.out.sep⟩
      have hnth : fs[k]? = some fs[k] := List.getElem?_eq_getElem hk
      obtain ⟨_, _, c4, c5, zz⟩ := hD.cells k fs[k] hnth
      have z4 := zz (k * 3 + 2)
      obtain ⟨hF, _⟩ := hD.setS k fs[k] hnth fs[k].data.size
      have HAPP : Hid (fs.set k { fs[k] with safe := fs[k].data.size } = syncF name fs) := by
        show _ = _
        unfold syncF
        rw [onF_some _ hf hnth]
      have HFIN : Hid (Left w (w2.setCell ⟨g, k * 3 + 2, none⟩ (.int .i64 (fs[k].data.size : Nat))) 76 81 p (.slice (some ⟨g, 0, none⟩) fs.length cap) ⟨syncF name fs, L, S⟩) := by
        rw [← HAPP.out]
        exact ⟨_, hF, (HB.out.2.sub (fun x hx _ => by simp at hx; simp [bl, hx])).setCell (fun hlt => by simp [bl, Value.ownBlock]) _, fun b hb => .inl hb⟩
      have hcat := hd fs[k] (List.getElem_mem _)
      clear hF zz hD hnth HAPP
      generalize fs[k].data = ND at c4 HFIN hcat
      generalize ((fs[k].safe : Nat) : Int) = SF at c5
      have hkl : ((k : Int) < (fs.length : Int)) := by omega
      go_wp2_with fail
      go_region
      go_wp2_with fail
      go_ret
      exact ⟨rfl, HFIN.out.drew⟩
set_option maxRecDepth 10000 in
set_option maxHeartbeats 1000000 in
theorem sync_r (p : Nat) (v : Value) (D : DK) (name : ByteArray) (w : World) (h : Dsk w 79 83 p v D) (hl : -9223372036854775808 ≤ D.left ∧ D.left ≤ 9223372036854775807) (hn : D.fs.length < 8388608) (hd : ∀ f ∈ D.fs, f.data.size ≤ 1099511627776) :
    Calls Tryd.prog 25 #[.pointer (some ⟨p, 0, none⟩), .string name] w fun e w' => e = .returned (.bool (stepOk D.left D.st)) ∧ Left w w' 79 83 p v ⟨if stepOk D.left D.st = true then syncF name D.fs else D.fs, stepL D.left D.st, stepS D.left D.st⟩ := by
  obtain ⟨fs, left, st⟩ := D
  simp only at *
  have HS : Hid (Calls Tryd.prog 46 #[.pointer (some ⟨p, 0, none⟩)] w fun e w' => e = .returned (.bool (stepOk left st)) ∧ DBlk w' p 79 v (stepL left st) (stepS left st) ∧ Tch [p] w w' ∧ w'.heap.size = w.heap.size) := step_r p v left st w h.blk hl
  have H : Hid (Dsk w 79 83 p v ⟨fs, left, st⟩) := h
  clear h
  generalize stepL left st = L at HS
  generalize stepS left st = S at HS
  cases hok : stepOk left st with
  | false =>
    rw [hok] at HS
    go_enter Tryd.func25, Tryd.ntmps25
    go_wp2_with fail
    refine HS.out.mono ?_
    rintro e w1 ⟨rfl, hb, ht, hz⟩
    have HB : Hid (DBlk w1 p 79 v L S ∧ Tch [p] w w1) := ⟨hb, ht⟩
    have HO : Hid (Own w1 83 v fs) := H.out.own.tch ht (fun b hb hm => H.out.sep (by simp at hm; rw [hb, hm]))
    clear hb ht hz
    go_wp2_with fail
    refine (find_r p v L S fs name w1 HB.out.1 HO.out (by omega)).mono ?_
    rintro e w2 ⟨rfl, rfl⟩
    go_wp2_with fail
    go_ret
    refine ⟨rfl, v, ⟨HB.out.1, HO.out, H.out.sep⟩, HB.out.2.sub (fun x hx _ => by simp at hx; simp [bl, hx]), fun b hb => .inl hb⟩
  | true =>
    rw [hok] at HS
    go_enter Tryd.func25, Tryd.ntmps25
    go_wp2_with fail
    refine HS.out.mono ?_
    rintro e w1 ⟨rfl, hb, ht, hz⟩
    have HB : Hid (DBlk w1 p 79 v L S ∧ Tch [p] w w1) := ⟨hb, ht⟩
    have HO : Hid (Own w1 83 v fs) := H.out.own.tch ht (fun b hb hm => H.out.sep (by simp at hm; rw [hb, hm]))
    clear hb ht hz
    go_wp2_with fail
    refine (find_r p v L S fs name w1 HB.out.1 HO.out (by omega)).mono ?_
    rintro e w2 ⟨rfl, rfl⟩
    have h0 := HB.out.1.c0
    have f0 := HB.out.1.fz 0
    rcases fnd_cases name fs with ⟨hf, _⟩ | ⟨k, hk, hf⟩
    · rw [hf]
      have HY : Hid (syncF name fs = fs) := onF_none _ hf
      go_wp2_with fail
      go_ret
      refine ⟨rfl, ?_⟩
      rw [HY.out]
      exact ⟨v, ⟨HB.out.1, HO.out, H.out.sep⟩, HB.out.2.sub (fun x hx _ => by simp at hx; simp [bl, hx]), fun b hb => .inl hb⟩
    · rw [hf]
      obtain ⟨g, cap, hv⟩ := HO.out.some (by omega)
      subst hv
      have hD : Dsk w2 79 83 p (.slice (some ⟨g, 0, none⟩) fs.length cap) ⟨fs, L, S⟩ := ⟨HB.out.1, HO.out, H.out.sep⟩
      have hnth : fs[k]? = some fs[k] := List.getElem?_eq_getElem hk
      obtain ⟨_, _, c4, c5, zz⟩ := hD.cells k fs[k] hnth
      have z4 := zz (k * 3 + 2)
      obtain ⟨hF, _⟩ := hD.setS k fs[k] hnth fs[k].data.size
      have HAPP : Hid (fs.set k { fs[k] with safe := fs[k].data.size } = syncF name fs) := by
        show _ = _
        unfold syncF
        rw [onF_some _ hf hnth]
      have HFIN : Hid (Left w (w2.setCell ⟨g, k * 3 + 2, none⟩ (.int .i64 (fs[k].data.size : Nat))) 79 83 p (.slice (some ⟨g, 0, none⟩) fs.length cap) ⟨syncF name fs, L, S⟩) := by
        rw [← HAPP.out]
        exact ⟨_, hF, (HB.out.2.sub (fun x hx _ => by simp at hx; simp [bl, hx])).setCell (fun hlt => by simp [bl, Value.ownBlock]) _, fun b hb => .inl hb⟩
      have hcat := hd fs[k] (List.getElem_mem _)
      clear hF zz hD hnth HAPP
      generalize fs[k].data = ND at c4 HFIN hcat
      generalize ((fs[k].safe : Nat) : Int) = SF at c5
      have hkl : ((k : Int) < (fs.length : Int)) := by omega
      go_wp2_with fail
      go_region
      go_wp2_with fail
      go_ret
      exact ⟨rfl, HFIN.out.drew⟩
end Go.Proofs.YtbdobaapadlcjaaDoor.Dk
