/-
  DISKS: Rename of the reference's disk.
-/
import Derived.Test.YtbdobaapadlcjaaDoorDkE
import Derived.Deep.RegionLaw
namespace Go.Proofs.YtbdobaapadlcjaaDoor.Dk
open Go.RowKit
set_option linter.unusedVariables false
set_option linter.unusedSimpArgs false

/-- A file is put behind the others, as one step of a region that draws its order. -/
theorem step_file {ops : Array Oper} {o : Oper} {a : Act} {w : World} {K : Act → World → Prop} {Q : Exit → Act → World → Prop} {E : Prop} (hgd : o.guard = none) (s x : Operand) (t te : TypeId)
    (ho : o.op = .call { callee := .builtin .append, args := #[s, x], argTypes := #[t, t] }) (ht : Tryd.prog.underlying t = some (.slice te))
    (hinfo : (Tryd.prog.info? te).map (fun i => (i.zero, i.size, i.bytes)) = some (some (Value.agg #[.string ⟨#[]⟩, .string ⟨#[]⟩, .int .i64 0]), 3, 40))
    (v : Value) (fs : List DF) (hs : a.eval s = v) (hown : Own w te v fs) (g : Nat) (f : DF) (hx : a.eval x = .slice (some ⟨g, 0, none⟩) 1 1) (hg : w.heap[g]? = some (.cells f.arr te (0, 0))) (hn : fs.length ≤ 8388608)
    (h : ∀ v' w', Own w' te v' (fs ++ [f]) → w.grownBy w' v.ownBlock → (v'.ownBlock = v.ownBlock ∨ v'.ownBlock = some w.heap.size) → K (a.put o.dst v') w') :
    if Region.wanted o (yielded ops a.tmps) = true then Oper.wp Tryd.prog o a w K Q else E := by
  have hw : Region.wanted o (yielded ops a.tmps) = true := by simp [Region.wanted, hgd]
  rw [if_pos hw]
  obtain ⟨i0, hi, hz0, hz1, hz2⟩ := info_parts hinfo
  obtain ⟨v', w', hr, h2, h3, h4⟩ := run_app (P := Tryd.prog) w 0 t o.type te i0 _ 3 40 ht hi hz0 hz1 hz2 rfl (by decide) v fs.length (rowOf fs) hown ⟨g, 0, none⟩ 1 1 f.row rfl (fun j u hj => by
    have e : (⟨g, 0, none⟩ : Addr).add j = ⟨g, j, none⟩ := by unfold Addr.add; split <;> simp_all
    rw [e, cell_of_row w g j _ te (0, 0) hg, ← hj]
    simp [DF.arr, DF.row]) (fun u hu => by
    simp only [DF.row, List.mem_cons, List.not_mem_nil, or_false] at hu
    rcases hu with rfl | rfl | rfl <;> rfl) (by unfold maxLen; omega) (by omega) (Nat.zero_le _) (by decide)
  unfold Oper.wp execOp
  simp only [ho, resolve, invoke, builtin, Sem.run_bind, Sem.run_pure, Result.andThen_ok, List.map_toArray, List.map_cons, List.map_nil, hs, hx, hr]
  refine h v' w' ?_ h3 h4
  show w'.ownsRow 0 te 3 v' (fs ++ [f]).length (rowOf (fs ++ [f]))
  rw [List.length_append, rowOf_app]
  exact h2
theorem Dsk.swap {w3 : World} {t te : TypeId} {p : Nat} {v v' : Value} {L : Int} {S : Bool} {FS : List DF} (hB : DBlk w3 p t v L S) (ho : Own w3 te v' FS) (hsep : v'.ownBlock ≠ some p) : Dsk (w3.setCell ⟨p, 0, none⟩ v') t te p v' ⟨FS, L, S⟩ :=
  ⟨hB.s0 _, ho.tch (S := [p]) ((Tch.refl _ _).setCell (fun _ => by simp) _) (fun b hb hm => hsep (by simp at hm; rw [hb, hm])), hsep⟩
theorem swap_ex {w w3 : World} {t te : TypeId} {p : Nat} {v v' : Value} {L : Int} {S : Bool} {FS : List DF} (hB : DBlk w3 p t v L S) (hT : Tch (bl p v) w w3) (ho : Own w3 te v' FS) (hnew : ∀ b, v'.ownBlock = some b → w.heap.size ≤ b) (hp : p < w.heap.size) :
    Dsk (w3.setCell ⟨p, 0, none⟩ v') t te p v' ⟨FS, L, S⟩ ∧ Tch (bl p v) w (w3.setCell ⟨p, 0, none⟩ v') := by
  have hsep : v'.ownBlock ≠ some p := fun e => by have := hnew p e; omega
  exact ⟨⟨hB.s0 _, ho.tch (S := [p]) ((Tch.refl _ _).setCell (fun _ => by simp) _) (fun b hb hm => hsep (by simp at hm; rw [hb, hm])), hsep⟩, hT.setCell (fun _ => by simp [bl]) _⟩
theorem heap_other {w : World} {a : Addr} {u : Value} {k : Nat} {o : Obj} (hk : w.heap[k]? = some o) (h : k ≠ a.block) : (w.setCell a u).heap[k]? = some o := (Below.heap_setCell w a u k h).trans hk

set_option maxRecDepth 10000 in
set_option maxHeartbeats 2000000 in
theorem rename_r (p : Nat) (v : Value) (D : DK) (frm to : ByteArray) (w : World) (h : Dsk w 79 83 p v D) (hl : -9223372036854775808 ≤ D.left ∧ D.left ≤ 9223372036854775807) (hn : D.fs.length < 8388608) :
    Calls Tryd.prog 27 #[.pointer (some ⟨p, 0, none⟩), .string frm, .string to] w fun e w' => e = .returned (.bool (stepOk D.left D.st)) ∧ Left w w' 79 83 p v ⟨if stepOk D.left D.st = true then renF frm to D.fs else D.fs, stepL D.left D.st, stepS D.left D.st⟩ := by
  obtain ⟨fs, left, st⟩ := D
  simp only at *
  have HS : Hid (Calls Tryd.prog 46 #[.pointer (some ⟨p, 0, none⟩)] w fun e w' => e = .returned (.bool (stepOk left st)) ∧ DBlk w' p 79 v (stepL left st) (stepS left st) ∧ Tch [p] w w' ∧ w'.heap.size = w.heap.size) := step_r p v left st w h.blk hl
  have H : Hid (Dsk w 79 83 p v ⟨fs, left, st⟩) := h
  clear h
  generalize stepL left st = L at HS
  generalize stepS left st = S at HS
  cases hok : stepOk left st with
  | false =>
    rw [hok] at HS
    go_enter Tryd.func27, Tryd.ntmps27
    go_wp2_with fail
    refine HS.out.mono ?_
    rintro e w1 ⟨rfl, hb, ht, hz⟩
    have HB : Hid (DBlk w1 p 79 v L S ∧ Tch [p] w w1) := ⟨hb, ht⟩
    have HO : Hid (Own w1 83 v fs) := H.out.own.tch ht (fun b hb hm => H.out.sep (by simp at hm; rw [hb, hm]))
    clear hb ht hz
    go_wp2_with fail
    refine (find_r p v L S fs frm w1 HB.out.1 HO.out (by omega)).mono ?_
    rintro e w2 ⟨rfl, rfl⟩
    go_wp2_with fail
    go_ret
    refine ⟨rfl, v, ⟨HB.out.1, HO.out, H.out.sep⟩, HB.out.2.sub (fun x hx _ => by simp at hx; simp [bl, hx]), fun b hb => .inl hb⟩
  | true =>
    rw [hok] at HS
    go_enter Tryd.func27, Tryd.ntmps27
    go_wp2_with fail
    refine HS.out.mono ?_
    rintro e w1 ⟨rfl, hb, ht, hz⟩
    have HB : Hid (DBlk w1 p 79 v L S ∧ Tch [p] w w1) := ⟨hb, ht⟩
    have HO : Hid (Own w1 83 v fs) := H.out.own.tch ht (fun b hb hm => H.out.sep (by simp at hm; rw [hb, hm]))
    clear hb ht hz
    go_wp2_with fail
    refine (find_r p v L S fs frm w1 HB.out.1 HO.out (by omega)).mono ?_
    rintro e w2 ⟨rfl, rfl⟩
    rcases fnd_cases frm fs with ⟨hf, _⟩ | ⟨k, hk, hf⟩
    · rw [hf]
      have HY : Hid (renF frm to fs = fs) := renF_none hf
      go_wp2_with fail
      go_ret
      refine ⟨rfl, ?_⟩
      rw [HY.out]
      exact ⟨v, ⟨HB.out.1, HO.out, H.out.sep⟩, HB.out.2.sub (fun x hx _ => by simp at hx; simp [bl, hx]), fun b hb => .inl hb⟩
    · rw [hf]
      have hkf : ¬ ((k : Int) < 0) := by omega
      cases hs : (frm.toList == to.toList) with
      | true =>
        have HY : Hid (renF frm to fs = fs) := renF_same hs
        go_wp2_with fail
        go_ret
        refine ⟨rfl, ?_⟩
        rw [HY.out]
        exact ⟨v, ⟨HB.out.1, HO.out, H.out.sep⟩, HB.out.2.sub (fun x hx _ => by simp at hx; simp [bl, hx]), fun b hb => .inl hb⟩
      | false =>
        have hnth : fs[k]? = some fs[k] := List.getElem?_eq_getElem hk
        have HY : Hid (renF frm to fs = remF to (remF frm fs) ++ [{ fs[k] with name := to }]) := renF_some hf hnth hs
        have h0 := HB.out.1.c0
        obtain ⟨g, cap, hv⟩ := HO.out.some (by omega)
        subst hv
        obtain ⟨_, c1, c2, c3, _⟩ := Dsk.cells (D := ⟨fs, L, S⟩) ⟨HB.out.1, HO.out, H.out.sep⟩ k fs[k] hnth
        generalize fs[k] = f at c1 c2 c3 HY hnth
        have hkl : ((k : Int) < (fs.length : Int)) := by omega
        go_wp2_with fail
        have HL1 : Hid ((remF frm fs).length < 8388608) := by
          show _ < _
          have h1 := List.length_filter_le (fun f => !isN frm f) fs
          unfold remF
          omega
        have HL2 : Hid ((remF to (remF frm fs)).length ≤ 8388608) := by
          show _ ≤ _
          have h1 := List.length_filter_le (fun f => !isN to f) (remF frm fs)
          have h2 := HL1.out
          unfold remF at h1 h2 ⊢
          omega
        have HT3 : Hid (Tch [] w2 (w2.alloc (.cells #[.string f.name, .string f.data, .int .i64 (f.safe : Nat)] 83))) := (Tch.refl _ _).alloc _
        have HN3 : Hid ((w2.alloc (.cells #[.string f.name, .string f.data, .int .i64 (f.safe : Nat)] 83)).heap[w2.heap.size]? = some (.cells #[.string f.name, .string f.data, .int .i64 (f.safe : Nat)] 83 (0, 0))) := heap_alloc_new _ _
        refine (without_r p _ L S fs frm (w2.alloc (.cells #[.string f.name, .string f.data, .int .i64 (f.safe : Nat)] 83)) (HB.out.1.tch HT3.out (by simp)) (HO.out.tch HT3.out (fun _ _ => by simp)) hn).mono ?_
        rintro e w4 ⟨a1, cap1, rfl, ho4, hnew4, htch4⟩
        have hpw : p < w.heap.size := H.out.blk.lt
        have hw2 : w.heap.size ≤ w2.heap.size := HB.out.2.size
        have hz3 : (w2.alloc (.cells #[.string f.name, .string f.data, .int .i64 (f.safe : Nat)] 83)).heap.size = w2.heap.size + 1 := by simp
        rw [hz3] at hnew4
        have hB4 := (HB.out.1.tch HT3.out (by simp)).tch htch4 (by simp)
        have hT4 : Tch (bl p (.slice (some ⟨g, 0, none⟩) fs.length cap)) w w4 := (((HB.out.2.trans HT3.out (fun x hx => by cases hx)).trans htch4 (fun x hx => by cases hx)).sub (fun x hx _ => by simp at hx; simp [bl, hx]))
        obtain ⟨hD5, hT5⟩ := swap_ex hB4 hT4 ho4 (fun b hb => by have := hnew4 b hb; omega) hpw
        have hN4 := (htch4.block _ (by rw [hz3]; omega) (by simp)).trans HN3.out
        have HN5 : Hid ((w4.setCell ⟨p, 0, none⟩ (.slice a1 (remF frm fs).length cap1)).heap[w2.heap.size]? = some (.cells #[.string f.name, .string f.data, .int .i64 (f.safe : Nat)] 83 (0, 0))) := heap_other hN4 (by show w2.heap.size ≠ p; omega)
        have hz4 : w2.heap.size + 1 ≤ w4.heap.size := by have := htch4.size; omega
        have HD5 : Hid (Dsk (w4.setCell ⟨p, 0, none⟩ (.slice a1 (remF frm fs).length cap1)) 79 83 p (.slice a1 (remF frm fs).length cap1) ⟨remF frm fs, L, S⟩ ∧ Tch (bl p (.slice (some ⟨g, 0, none⟩) fs.length cap)) w (w4.setCell ⟨p, 0, none⟩ (.slice a1 (remF frm fs).length cap1))) := ⟨hD5, hT5⟩
        have HZ4 : Hid (p < w.heap.size ∧ w.heap.size ≤ w2.heap.size ∧ w2.heap.size + 1 ≤ w4.heap.size) := ⟨hpw, hw2, hz4⟩
        have c4 := hB4.c0
        have z4 := hB4.fz 0
        clear ho4 hnew4 htch4 hB4 hT4 hD5 hT5 hN4 hz3 h0 c1 c2 c3 hpw hw2 hz4 hkf
        go_wp2_with fail
        refine (without_r p _ L S (remF frm fs) to _ HD5.out.1.blk HD5.out.1.own HL1.out).mono ?_
        rintro e w6 ⟨a2, cap2, rfl, ho6, hnew6, htch6⟩
        have hz5 : (w4.setCell ⟨p, 0, none⟩ (.slice a1 (remF frm fs).length cap1)).heap.size = w4.heap.size := by simp
        rw [hz5] at hnew6
        obtain ⟨hpw, hw2, hz4⟩ := HZ4.out
        have hB6 := HD5.out.1.blk.tch htch6 (by simp)
        have hT6 : Tch (bl p (.slice (some ⟨g, 0, none⟩) fs.length cap)) w w6 := HD5.out.2.trans htch6 (fun x hx => by cases hx)
        have hN6 := (htch6.block _ (by rw [hz5]; omega) (by simp)).trans HN5.out
        have hz6 : w4.heap.size ≤ w6.heap.size := by have := htch6.size; omega
        have HO6 : Hid (Own w6 83 (.slice a2 (remF to (remF frm fs)).length cap2) (remF to (remF frm fs)) ∧ (∀ b, (Value.slice a2 (remF to (remF frm fs)).length cap2).ownBlock = some b → w4.heap.size ≤ b) ∧ DBlk w6 p 79 (.slice a1 (remF frm fs).length cap1) L S ∧ Tch (bl p (.slice (some ⟨g, 0, none⟩) fs.length cap)) w w6 ∧ w4.heap.size ≤ w6.heap.size ∧
          w6.heap[w2.heap.size]? = some (.cells #[.string f.name, .string f.data, .int .i64 (f.safe : Nat)] 83 (0, 0))) := ⟨ho6, hnew6, hB6, hT6, hz6, hN6⟩
        have c6 := hB6.c0
        have z6 := hB6.fz 0
        have hD7 := Dsk.swap hB6 ho6 (fun e => by have := hnew6 p e; omega)
        have hT7 : Tch (bl p (.slice (some ⟨g, 0, none⟩) fs.length cap)) w (w6.setCell ⟨p, 0, none⟩ (.slice a2 (remF to (remF frm fs)).length cap2)) := hT6.setCell (fun _ => by simp [bl]) _
        have hN7 : (w6.setCell ⟨p, 0, none⟩ (.slice a2 (remF to (remF frm fs)).length cap2)).heap[w2.heap.size]? = some (.cells #[.string f.name, .string f.data, .int .i64 (f.safe : Nat)] 83 (0, 0)) := heap_other hN6 (by show w2.heap.size ≠ p; omega)
        have c7 : (w6.setCell ⟨p, 0, none⟩ (.slice a2 (remF to (remF frm fs)).length cap2)).cell? ⟨w2.heap.size, 0, none⟩ = some (.string f.name) := (cell_of_row _ _ 0 _ 83 (0, 0) hN7).trans rfl
        have z7 := frozen_of_row _ w2.heap.size 0 _ 83 hN7
        obtain ⟨nf, HNF⟩ : ∃ nf : DF, Hid (nf = { f with name := to }) := ⟨_, rfl⟩
        have hN8 : ((w6.setCell ⟨p, 0, none⟩ (.slice a2 (remF to (remF frm fs)).length cap2)).setCell ⟨w2.heap.size, 0, none⟩ (.string to)).heap[w2.heap.size]? = some (.cells nf.arr 83 (0, 0)) := by
          rw [HNF.out]; exact heap_setCell_same _ w2.heap.size 0 _ 83 _ hN7
        have ht8 : Tch [w2.heap.size] (w6.setCell ⟨p, 0, none⟩ (.slice a2 (remF to (remF frm fs)).length cap2)) ((w6.setCell ⟨p, 0, none⟩ (.slice a2 (remF to (remF frm fs)).length cap2)).setCell ⟨w2.heap.size, 0, none⟩ (.string to)) := (Tch.refl _ _).setCell (fun _ => by simp) _
        have hD8 := hD7.tch ht8 (fun b hb => by
          simp only [bl, List.mem_cons, Option.mem_toList] at hb
          simp only [List.mem_singleton]
          rcases hb with rfl | hb
          · omega
          · have := hnew6 b hb
            omega)
        have hT8 := hT7.trans ht8 (fun x hx hlt => by simp at hx; omega)
        rw [← HNF.out] at HY
        have HY2 : Hid (renF frm to fs = remF to (remF frm fs) ++ [nf]) := HY
        have HV : Hid (∀ b, (Value.slice a2 (remF to (remF frm fs)).length cap2).ownBlock = some b → b ≠ p ∧ w.heap.size ≤ b) := fun b hb => by have := hnew6 b hb; exact ⟨by omega, by omega⟩
        clear ho6 hnew6 htch6 hB6 hT6 hN6 hz5 hz6 c4 z4 hD7 hT7 hN7 ht8 HNF HY
        go_wp2_with fail
        generalize (w6.setCell ⟨p, 0, none⟩ (.slice a2 (remF to (remF frm fs)).length cap2)).setCell ⟨w2.heap.size, 0, none⟩ (.string to) = w8 at hN8 hD8 hT8
        have c8 := hD8.blk.c0
        have e0 : w8.cell? ⟨w2.heap.size, 0, none⟩ = some (.string nf.name) := (cell_of_row _ _ 0 _ 83 (0, 0) hN8).trans rfl
        have e1 : w8.cell? ⟨w2.heap.size, 1, none⟩ = some (.string nf.data) := (cell_of_row _ _ 1 _ 83 (0, 0) hN8).trans rfl
        have e2 : w8.cell? ⟨w2.heap.size, 2, none⟩ = some (.int .i64 (nf.safe : Nat)) := (cell_of_row _ _ 2 _ 83 (0, 0) hN8).trans rfl
        have HD8 : Hid (Dsk w8 79 83 p (.slice a2 (remF to (remF frm fs)).length cap2) ⟨remF to (remF frm fs), L, S⟩ ∧ Tch (bl p (.slice (some ⟨g, 0, none⟩) fs.length cap)) w w8) := ⟨hD8, hT8⟩
        clear hN8 hD8 hT8 c6 z6 c7 z7
        have HG : Hid (∀ (v' : Value) (w' : World), Own w' 83 v' (remF to (remF frm fs) ++ [nf]) → (w8.drew.alloc (.cells #[.string nf.name, .string nf.data, .int .i64 (nf.safe : Nat)] 83)).grownBy w' (Value.slice a2 (remF to (remF frm fs)).length cap2).ownBlock → (v'.ownBlock = (Value.slice a2 (remF to (remF frm fs)).length cap2).ownBlock ∨ v'.ownBlock = some (w8.heap.size + 1)) →
            ∃ g4 cap4, v' = .slice (some ⟨g4, 0, none⟩) (renF frm to fs).length cap4 ∧ w'.cell? ⟨p, 0, none⟩ = some (.slice a2 (remF to (remF frm fs)).length cap2) ∧ w'.frozen? ⟨p, 0, none⟩ = false ∧ Left w (w'.setCell ⟨p, 0, none⟩ (.slice (some ⟨g4, 0, none⟩) (renF frm to fs).length cap4)) 79 83 p (.slice (some ⟨g, 0, none⟩) fs.length cap) ⟨renF frm to fs, L, S⟩) := by
          intro v' w' ho3 hg3 hb3
          rw [← HY2.out] at ho3
          have hB8 : DBlk (w8.drew.alloc (.cells #[.string nf.name, .string nf.data, .int .i64 (nf.safe : Nat)] 83)) p 79 (.slice a2 (remF to (remF frm fs)).length cap2) L S := (Below.heap_alloc _ _ _ HD8.out.1.blk.lt).trans HD8.out.1.blk
          have hB9 : DBlk w' p 79 (.slice a2 (remF to (remF frm fs)).length cap2) L S := (hg3.block p hB8.lt (fun e => (HV.out p e.symm).1 rfl)).trans hB8
          have hpw : p < w.heap.size := HZ4.out.1
          have hsep : v'.ownBlock ≠ some p := by
            intro e
            rcases hb3 with h | h
            · exact (HV.out p (h.symm.trans e)).1 rfl
            · rw [e] at h
              injection h with h
              have := HD8.out.2.size
              omega
          obtain ⟨g4, cap4, hv⟩ := ho3.some (by rw [HY2.out]; simp)
          subst hv
          refine ⟨g4, cap4, rfl, hB9.c0, hB9.fz 0, _, Dsk.swap hB9 ho3 hsep, ?_, fun b hb => ?_⟩
          · refine Tch.setCell ?_ (fun _ => by simp [bl]) _
            exact (HD8.out.2.drew.alloc _).grown hg3 (fun b hb hlt => by have := (HV.out b hb).2; omega)
          · right
            rcases hb3 with h | h
            · exact (HV.out b (h.symm.trans hb)).2
            · rw [hb] at h
              injection h with h
              have := HD8.out.2.size
              omega
        have c8a : (w8.alloc (.cells #[.string nf.name, .string nf.data, .int .i64 (nf.safe : Nat)] 83)).cell? ⟨p, 0, none⟩ = some (.slice a2 (remF to (remF frm fs)).length cap2) := (World.cell?_of_block (Below.heap_alloc _ _ _ HD8.out.1.blk.lt)).trans c8
        go_region_law (refine step_file rfl (.tmp 52) (.tmp 54) 77 83 rfl Tryd.underlying77 info83 (.slice a2 (remF to (remF frm fs)).length cap2) (remF to (remF frm fs)) (by simp [Act.eval, Act.put]) (HD8.out.1.own.tch ((Tch.refl [] _).drew.alloc _) (fun _ _ => by simp)) w8.heap.size nf (by simp [Act.eval, Act.put]) (heap_alloc_new _ _) HL2.out ?_; intro v' w9 ho3 hg3 hb3; obtain ⟨g4, cap4, hv4, c9, z9, hfin⟩ := HG.out v' w9 ho3 hg3 (by simpa using hb3); subst hv4; clear ho3 hg3 hb3; have HFIN : Hid (Left w (w9.setCell ⟨p, 0, none⟩ (.slice (some ⟨g4, 0, none⟩) (renF frm to fs).length cap4)) 79 83 p (.slice (some ⟨g, 0, none⟩) fs.length cap) ⟨renF frm to fs, L, S⟩) := hfin; clear hfin)
        all_goals (go_wp2_with fail; go_ret; exact ⟨rfl, HFIN.out⟩)
end Go.Proofs.YtbdobaapadlcjaaDoor.Dk
