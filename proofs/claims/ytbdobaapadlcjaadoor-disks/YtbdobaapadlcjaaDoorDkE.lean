/-
  DISKS: Rename of both disks.
-/
import Derived.Test.YtbdobaapadlcjaaDoorDkD
namespace Go.Proofs.YtbdobaapadlcjaaDoor.Dk
open Go.RowKit
set_option linter.unusedVariables false

/-- What Rename leaves of the files. -/
def renF (frm to : ByteArray) (fs : List DF) : List DF :=
  if fnd frm fs < 0 then fs else if (frm.toList == to.toList) = true then fs else match fs[(fnd frm fs).toNat]? with | some f => remF to (remF frm fs) ++ [{ f with name := to }] | none => fs
theorem renF_none {frm to : ByteArray} {fs : List DF} (h : fnd frm fs = -1) : renF frm to fs = fs := by unfold renF; rw [h]; rfl
theorem renF_same {frm to : ByteArray} {fs : List DF} (h : (frm.toList == to.toList) = true) : renF frm to fs = fs := by
  unfold renF
  rw [if_pos h]
  split <;> rfl
theorem renF_some {frm to : ByteArray} {fs : List DF} {k : Nat} {f : DF} (h : fnd frm fs = (k : Int)) (hk : fs[k]? = some f) (hs : (frm.toList == to.toList) = false) : renF frm to fs = remF to (remF frm fs) ++ [{ f with name := to }] := by
  unfold renF
  rw [h, if_neg (by omega), if_neg (by simp [hs]), Int.toNat_natCast, hk]
/-- The files but those of two names. -/
def rem2 (frm to : ByteArray) (fs : List DF) : List DF := fs.filter (fun f => !isN frm f && !isN to f)
theorem rem2_eq (frm to : ByteArray) (fs : List DF) : rem2 frm to fs = remF to (remF frm fs) := by
  unfold rem2 remF
  rw [List.filter_filter]
  congr 1
  funext f
  rw [Bool.and_comm]

set_option maxRecDepth 10000 in
set_option maxHeartbeats 2000000 in
theorem rename_d (p : Nat) (v : Value) (D : DK) (frm to : ByteArray) (w : World) (h : Dsk w 76 81 p v D) (hl : -9223372036854775808 ≤ D.left ∧ D.left ≤ 9223372036854775807) (hn : D.fs.length < 8388608) :
    Calls Tryd.prog 26 #[.pointer (some ⟨p, 0, none⟩), .string frm, .string to] w fun e w' => e = .returned (.bool (stepOk D.left D.st)) ∧ Left w w' 76 81 p v ⟨if stepOk D.left D.st = true then renF frm to D.fs else D.fs, stepL D.left D.st, stepS D.left D.st⟩ := by
  obtain ⟨fs, left, st⟩ := D
  simp only at *
  have HS : Hid (Calls Tryd.prog 44 #[.pointer (some ⟨p, 0, none⟩)] w fun e w' => e = .returned (.bool (stepOk left st)) ∧ DBlk w' p 76 v (stepL left st) (stepS left st) ∧ Tch [p] w w' ∧ w'.heap.size = w.heap.size) := step_d p v left st w h.blk hl
  have H : Hid (Dsk w 76 81 p v ⟨fs, left, st⟩) := h
  clear h
  generalize stepL left st = L at HS
  generalize stepS left st = S at HS
  cases hok : stepOk left st with
  | false =>
    rw [hok] at HS
    go_enter Tryd.func26, Tryd.ntmps26
    go_wp2_with fail
    refine HS.out.mono ?_
    rintro e w1 ⟨rfl, hb, ht, hz⟩
    have HB : Hid (DBlk w1 p 76 v L S ∧ Tch [p] w w1) := ⟨hb, ht⟩
    have HO : Hid (Own w1 81 v fs) := H.out.own.tch ht (fun b hb hm => H.out.sep (by simp at hm; rw [hb, hm]))
    clear hb ht hz
    go_wp2_with fail
    go_ret
    refine ⟨rfl, v, ⟨HB.out.1, HO.out, H.out.sep⟩, HB.out.2.sub (fun x hx _ => by simp at hx; simp [bl, hx]), fun b hb => .inl hb⟩
  | true =>
    rw [hok] at HS
    go_enter Tryd.func26, Tryd.ntmps26
    go_wp2_with fail
    refine HS.out.mono ?_
    rintro e w1 ⟨rfl, hb, ht, hz⟩
    have HB : Hid (DBlk w1 p 76 v L S ∧ Tch [p] w w1) := ⟨hb, ht⟩
    have HO : Hid (Own w1 81 v fs) := H.out.own.tch ht (fun b hb hm => H.out.sep (by simp at hm; rw [hb, hm]))
    clear hb ht hz
    go_wp2_with fail
    refine (find_d p v L S fs frm w1 HB.out.1 HO.out (by omega)).mono ?_
    rintro e w2 ⟨rfl, rfl⟩
    rcases fnd_cases frm fs with ⟨hf, _⟩ | ⟨k, hk, hf⟩
    · rw [hf]
      have HY : Hid (renF frm to fs = fs) := renF_none hf
      go_wp2_with fail
      go_ret
      refine ⟨rfl, ?_⟩
      rw [HY.out]
      exact ⟨v, ⟨HB.out.1, HO.out, H.out.sep⟩, HB.out.2.sub (fun x hx _ => by simp at hx; simp [bl, hx]), fun b hb => .inl hb⟩
    · rw [hf]
      have hkf : ¬ ((k : Int) < 0) := by omega
      cases hs : (frm.toList == to.toList) with
      | true =>
        have HY : Hid (renF frm to fs = fs) := renF_same hs
        go_wp2_with fail
        go_ret
        refine ⟨rfl, ?_⟩
        rw [HY.out]
        exact ⟨v, ⟨HB.out.1, HO.out, H.out.sep⟩, HB.out.2.sub (fun x hx _ => by simp at hx; simp [bl, hx]), fun b hb => .inl hb⟩
      | false =>
        have hnth : fs[k]? = some fs[k] := List.getElem?_eq_getElem hk
        have HY : Hid (renF frm to fs = rem2 frm to fs ++ [{ fs[k] with name := to }]) := by
          show _ = _
          rw [renF_some hf hnth hs, rem2_eq]
        have h0 := HB.out.1.c0
        obtain ⟨g, cap, hv⟩ := HO.out.some (by omega)
        subst hv
        obtain ⟨_, c1, c2, c3, _⟩ := Dsk.cells (D := ⟨fs, L, S⟩) ⟨HB.out.1, HO.out, H.out.sep⟩ k fs[k] hnth
        generalize fs[k] = f at c1 c2 c3 HY hnth
        have hkl : ((k : Int) < (fs.length : Int)) := by omega
        have h1 : (w2.alloc (.cells #[.string to, .string f.data, .int .i64 (f.safe : Nat)] 81)).cell? ⟨p, 0, none⟩ = some (.slice (some ⟨g, 0, none⟩) fs.length cap) := (World.cell?_of_block (Below.heap_alloc _ _ _ HB.out.1.lt)).trans h0
        go_wp2_with fail
        have HC : Hid (∀ j (hj : j < fs.length), w2.cell? ⟨g, j * 3, none⟩ = some (.string fs[j].name) ∧ w2.cell? ⟨g, j * 3 + 1, none⟩ = some (.string fs[j].data) ∧ w2.cell? ⟨g, j * 3 + 2, none⟩ = some (.int .i64 (fs[j].safe : Nat))) := fun j hj => by
          obtain ⟨_, d1, d2, d3, _⟩ := Dsk.cells (D := ⟨fs, L, S⟩) ⟨HB.out.1, HO.out, H.out.sep⟩ j fs[j] (List.getElem?_eq_getElem hj)
          exact ⟨d1, d2, d3⟩
        obtain ⟨nf, HNF⟩ : ∃ nf : DF, Hid (nf = { f with name := to }) := ⟨_, rfl⟩
        have hT3 : Tch [] w2 (w2.alloc (.cells #[.string to, .string f.data, .int .i64 (f.safe : Nat)] 81)) := (Tch.refl _ _).alloc _
        have hN3 : (w2.alloc (.cells #[.string to, .string f.data, .int .i64 (f.safe : Nat)] 81)).heap[w2.heap.size]? = some (.cells nf.arr 81 (0, 0)) := by rw [HNF.out]; exact heap_alloc_new _ _
        have hZ3 : (w2.alloc (.cells #[.string to, .string f.data, .int .i64 (f.safe : Nat)] 81)).heap.size = w2.heap.size + 1 := by simp
        rw [← HNF.out] at HY
        generalize w2.alloc (.cells #[.string to, .string f.data, .int .i64 (f.safe : Nat)] 81) = w3 at hT3 hN3 hZ3
        have HW3 : Hid (Tch [] w2 w3 ∧ w3.heap[w2.heap.size]? = some (.cells nf.arr 81 (0, 0)) ∧ w3.heap.size = w2.heap.size + 1) := ⟨hT3, hN3, hZ3⟩
        have HY2 : Hid (renF frm to fs = rem2 frm to fs ++ [nf]) := HY
        clear hT3 hN3 hZ3 c1 c2 c3 h0 h1 hnth HY HNF hkf
        go_loopw [9, 39] (fun lv i wr => ∃ (k : Nat) (v1 : Value), k ≤ fs.length ∧ lv = v1 ∧ i = .int .i64 k ∧ Own wr 81 v1 (rem2 frm to (fs.take k)) ∧ (∀ b, v1.ownBlock = some b → w3.heap.size ≤ b) ∧ Tch [] w3 wr) (fun _ i _ => fs.length - (intOf i).toNat)
        case atStart => exact ⟨0, _, Nat.zero_le _, rfl, rfl, Own.nil _ _, fun b hb => by simp [Value.ownBlock] at hb, Tch.refl _ _⟩
        case round =>
          obtain ⟨j, v1, hj, rfl, rfl, hown, hnew, htch⟩ := hrel
          have HOW : Hid (Own wr 81 u9 (rem2 frm to (fs.take j)) ∧ (∀ b, u9.ownBlock = some b → w3.heap.size ≤ b) ∧ Tch [] w3 wr) := ⟨hown, hnew, htch⟩
          have htch2 : Tch [] w2 wr := HW3.out.1.trans htch (fun x hx => by cases hx)
          by_cases hjn : j < fs.length
          · obtain ⟨c1, c2, c3⟩ := HC.out j hjn
            have d1 := (htch2.cell (World.block_lt_of_cell? _ _ c1) (by simp)).trans c1
            have d2 := (htch2.cell (World.block_lt_of_cell? _ _ c2) (by simp)).trans c2
            have d3 := (htch2.cell (World.block_lt_of_cell? _ _ c3) (by simp)).trans c3
            have HTK : Hid (rem2 frm to (fs.take (j + 1)) = if (!isN frm fs[j] && !isN to fs[j]) = true then rem2 frm to (fs.take j) ++ [fs[j]] else rem2 frm to (fs.take j)) := by
              show _ = _
              rw [List.take_succ_eq_append_getElem hjn]
              unfold rem2
              rw [List.filter_append]
              cases hq : (!isN frm fs[j] && !isN to fs[j]) <;> simp [hq]
            have HLN : Hid ((rem2 frm to (fs.take j)).length ≤ 8388608) := by
              show _ ≤ _
              have h1 := List.length_filter_le (fun f => !isN frm f && !isN to f) (fs.take j)
              rw [List.length_take] at h1
              unfold rem2
              omega
            clear c1 c2 c3 hown hnew htch htch2
            have HIS : Hid (isN frm fs[j] = (fs[j].name.toList == frm.toList) ∧ isN to fs[j] = (fs[j].name.toList == to.toList)) := ⟨rfl, rfl⟩
            generalize fs[j] = f2 at d1 d2 d3 HTK HIS
            generalize rem2 frm to (fs.take j) = R at HOW HTK HLN
            have hjl : ((j : Int) < (fs.length : Int)) := by omega
            cases hq : (f2.name.toList == frm.toList) with
            | true =>
              have hq2 : (f2.name.toList != frm.toList) = false := by simp [bne, hq]
              have HTK2 : Hid (rem2 frm to (fs.take (j + 1)) = R) := by
                show _ = _
                rw [HTK.out, HIS.out.1, hq]; rfl
              go_wp2_with fail
              go_roundw
              case rel => exact ⟨j + 1, _, by omega, rfl, by go_num, by rw [HTK2.out]; exact HOW.out.1.tch ((Tch.refl [] _).alloc _) (fun _ _ => by simp), HOW.out.2.1, HOW.out.2.2.alloc _⟩
              case measure => simp [intOf]; omega
            | false =>
              have hq2 : (f2.name.toList != frm.toList) = true := by simp [bne, hq]
              cases hr : (f2.name.toList == to.toList) with
              | true =>
                have hr2 : (f2.name.toList != to.toList) = false := by simp [bne, hr]
                have HTK2 : Hid (rem2 frm to (fs.take (j + 1)) = R) := by
                  show _ = _
                  rw [HTK.out, HIS.out.1, HIS.out.2, hq, hr]; rfl
                go_wp2_with fail
                go_roundw
                case rel => exact ⟨j + 1, _, by omega, rfl, by go_num, by rw [HTK2.out]; exact HOW.out.1.tch ((Tch.refl [] _).alloc _) (fun _ _ => by simp), HOW.out.2.1, HOW.out.2.2.alloc _⟩
                case measure => simp [intOf]; omega
              | false =>
                have hr2 : (f2.name.toList != to.toList) = true := by simp [bne, hr]
                have HTK2 : Hid (rem2 frm to (fs.take (j + 1)) = R ++ [f2]) := by
                  show _ = _
                  rw [HTK.out, HIS.out.1, HIS.out.2, hq, hr]; rfl
                go_wp2_with (at_builtin; refine wpList_file _ rfl _ _ 74 81 rfl Tryd.underlying74 info81 u9 R rfl (HOW.out.1.tch (((Tch.refl [] _).alloc _).alloc _) (fun _ _ => by simp)) (wr.heap.size + 1) f2 rfl (heap_alloc2_new _ _ _) HLN.out ?_)
                intro v' w4 ho3 hg3 hb3
                have HFN : Hid (Own w4 81 v' (R ++ [f2]) ∧ (∀ b, v'.ownBlock = some b → w3.heap.size ≤ b) ∧ Tch [] w3 w4) := by
                  refine ⟨ho3, fun b hb => ?_, ?_⟩
                  · rcases hb3 with h | h
                    · exact HOW.out.2.1 b (h.symm.trans hb)
                    · rw [hb] at h
                      injection h with h
                      have := HOW.out.2.2.size
                      omega
                  · exact ((HOW.out.2.2.alloc _).alloc _).grown hg3 (fun b hb hlt => by have := HOW.out.2.1 b hb; omega)
                clear ho3 hg3 hb3
                go_wp2_with fail
                go_roundw
                case rel => exact ⟨j + 1, _, by omega, rfl, by go_num, by rw [HTK2.out]; exact HFN.out.1, HFN.out.2.1, HFN.out.2.2⟩
                case measure => simp [intOf]; omega
          · have hjl : ¬ ((j : Int) < (fs.length : Int)) := by omega
            rw [List.take_of_length_le (by omega)] at HOW
            have HLN : Hid ((rem2 frm to fs).length ≤ 8388608) := by
              show _ ≤ _
              have h1 := List.length_filter_le (fun f => !isN frm f && !isN to f) fs
              unfold rem2
              omega
            have hnr : wr.heap[w2.heap.size]? = some (.cells nf.arr 81 (0, 0)) := (htch.block _ (by have := HW3.out.2.2; omega) (by simp)).trans HW3.out.2.1
            have HDB : Hid (DBlk wr p 76 (.slice (some ⟨g, 0, none⟩) fs.length cap) L S) := HB.out.1.tch htch2 (by simp)
            have HT2 : Hid (Tch (bl p (.slice (some ⟨g, 0, none⟩) fs.length cap)) w wr) := (HB.out.2.trans htch2 (fun x hx => by cases hx)).sub (fun x hx _ => by simp at hx; simp [bl, hx])
            have HNR : Hid (wr.heap[w2.heap.size]? = some (.cells nf.arr 81 (0, 0))) := hnr
            clear hown hnew htch htch2 hnr
            go_wp2_with (first | (refine wpList_load_row rfl 81 (.tmp 8) rfl w2.heap.size rfl 81 #[.string nf.name, .string nf.data, .int .i64 (nf.safe : Nat)] (0, 0) _ HNR.out Tryd.underlying81 rfl inf81 ?_) | (at_builtin; refine wpList_file _ rfl _ _ 74 81 rfl Tryd.underlying74 info81 u9 (rem2 frm to fs) rfl (HOW.out.1.tch ((Tch.refl [] _).alloc _) (fun _ _ => by simp)) wr.heap.size nf rfl (heap_alloc_new _ _) HLN.out ?_))
            intro v' w4 ho3 hg3 hb3
            obtain ⟨hB3, hD4, hT4, hn4⟩ := grow_fin (w := w) (w2 := wr.alloc _) ((Below.heap_alloc _ _ _ HDB.out.lt).trans HDB.out) (HT2.out.alloc _) hg3 ho3 (fun b hb => by
              have h1 := HOW.out.2.1 b hb
              have h2 := HW3.out.2.2
              have h3 := HB.out.1.lt
              have h4 := HB.out.2.size
              exact ⟨by omega, .inr (by omega)⟩) (by simpa using hb3)
            obtain ⟨g4, cap4, hv4⟩ := ho3.some (by simp)
            subst hv4
            rw [← HY2.out] at hD4 hT4 hn4 ⊢
            have HFIN : Hid (Left w (w4.setCell ⟨p, 0, none⟩ (.slice (some ⟨g4, 0, none⟩) (renF frm to fs).length cap4)) 76 81 p (.slice (some ⟨g, 0, none⟩) fs.length cap) ⟨renF frm to fs, L, S⟩) := ⟨_, hD4, hT4, hn4⟩
            have c5 := hB3.c0
            have z5 := hB3.fz 0
            clear ho3 hg3 hb3 hB3 hD4 hT4 hn4
            go_wp2_with fail
            go_ret
            exact ⟨rfl, HFIN.out⟩
end Go.Proofs.YtbdobaapadlcjaaDoor.Dk
