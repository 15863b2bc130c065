/-
  DISKS: Remove and Rename of both disks.
-/
import Derived.Test.YtbdobaapadlcjaaDoorDkC
namespace Go.Proofs.YtbdobaapadlcjaaDoor.Dk
open Go.RowKit
set_option linter.unusedVariables false

theorem inf81 : Option.map (fun x => x.size) (Tryd.prog.info? 81) = some 3 := by kernel_rfl
theorem inf83 : Option.map (fun x => x.size) (Tryd.prog.info? 83) = some 3 := by kernel_rfl
theorem Tch.cell {S : List Nat} {w w' : World} (h : Tch S w w') {a : Addr} (ha : a.block < w.heap.size) (hS : a.block ∉ S) : w'.cell? a = w.cell? a := World.cell?_of_block (h.block _ ha hS)
theorem swap_fin {w w3 : World} {t te : TypeId} {p : Nat} {v v' : Value} {L : Int} {S : Bool} {FS : List DF} (hB : DBlk w3 p t v L S) (hT : Tch (bl p v) w w3) (ho : Own w3 te v' FS) (hnew : ∀ b, v'.ownBlock = some b → w.heap.size ≤ b) (hp : p < w.heap.size) :
    Left w (w3.setCell ⟨p, 0, none⟩ v') t te p v ⟨FS, L, S⟩ := by
  have hsep : v'.ownBlock ≠ some p := fun e => by have := hnew p e; omega
  exact ⟨v', ⟨hB.s0 _, ho.tch (S := [p]) ((Tch.refl _ _).setCell (fun _ => by simp) _) (fun b hb hm => hsep (by simp at hm; rw [hb, hm])), hsep⟩, hT.setCell (fun _ => by simp [bl]) _, fun b hb => .inr (hnew b hb)⟩
/-- What Remove leaves of the files. -/
def remF (name : ByteArray) (fs : List DF) : List DF := fs.filter (fun f => !isN name f)

set_option maxRecDepth 10000 in
set_option maxHeartbeats 1000000 in
theorem remove_d (p : Nat) (v : Value) (D : DK) (name : ByteArray) (w : World) (h : Dsk w 76 81 p v D) (hl : -9223372036854775808 ≤ D.left ∧ D.left ≤ 9223372036854775807) (hn : D.fs.length < 8388608) :
    Calls Tryd.prog 28 #[.pointer (some ⟨p, 0, none⟩), .string name] w fun e w' => e = .returned (.bool (stepOk D.left D.st)) ∧ Left w w' 76 81 p v ⟨if stepOk D.left D.st = true then remF name D.fs else D.fs, stepL D.left D.st, stepS D.left D.st⟩ := by
  obtain ⟨fs, left, st⟩ := D
  simp only at *
  have HS : Hid (Calls Tryd.prog 44 #[.pointer (some ⟨p, 0, none⟩)] w fun e w' => e = .returned (.bool (stepOk left st)) ∧ DBlk w' p 76 v (stepL left st) (stepS left st) ∧ Tch [p] w w' ∧ w'.heap.size = w.heap.size) := step_d p v left st w h.blk hl
  have H : Hid (Dsk w 76 81 p v ⟨fs, left, st⟩) := h
  clear h
  generalize stepL left st = L at HS
  generalize stepS left st = S at HS
  cases hok : stepOk left st with
  | false =>
    rw [hok] at HS
    go_enter Tryd.func28, Tryd.ntmps28
    go_wp2_with fail
    refine HS.out.mono ?_
    rintro e w1 ⟨rfl, hb, ht, hz⟩
    have HB : Hid (DBlk w1 p 76 v L S ∧ Tch [p] w w1) := ⟨hb, ht⟩
    have HO : Hid (Own w1 81 v fs) := H.out.own.tch ht (fun b hb hm => H.out.sep (by simp at hm; rw [hb, hm]))
    clear hb ht hz
    go_wp2_with fail
    go_ret
    refine ⟨rfl, v, ⟨HB.out.1, HO.out, H.out.sep⟩, HB.out.2.sub (fun x hx _ => by simp at hx; simp [bl, hx]), fun b hb => .inl hb⟩
  | true =>
    rw [hok] at HS
    go_enter Tryd.func28, Tryd.ntmps28
    go_wp2_with fail
    refine HS.out.mono ?_
    rintro e w1 ⟨rfl, hb, ht, hz⟩
    have HB : Hid (DBlk w1 p 76 v L S ∧ Tch [p] w w1) := ⟨hb, ht⟩
    have HO : Hid (Own w1 81 v fs) := H.out.own.tch ht (fun b hb hm => H.out.sep (by simp at hm; rw [hb, hm]))
    clear hb ht hz
    have h0 := HB.out.1.c0
    obtain ⟨a, cap, rfl, hc⟩ := HO.out.at
    go_wp2_with fail
    have HC : Hid (∀ j (hj : j < fs.length), ∃ g, a = some ⟨g, 0, none⟩ ∧ w1.cell? ⟨g, j * 3, none⟩ = some (.string fs[j].name) ∧ w1.cell? ⟨g, j * 3 + 1, none⟩ = some (.string fs[j].data) ∧ w1.cell? ⟨g, j * 3 + 2, none⟩ = some (.int .i64 (fs[j].safe : Nat))) := hc
    clear hc
    go_loopw [5, 16] (fun lv i wr => ∃ (k : Nat) (v1 : Value), k ≤ fs.length ∧ lv = v1 ∧ i = .int .i64 k ∧ Own wr 81 v1 (remF name (fs.take k)) ∧ (∀ b, v1.ownBlock = some b → w1.heap.size ≤ b) ∧ Tch [] w1 wr) (fun _ i _ => fs.length - (intOf i).toNat)
    case atStart => exact ⟨0, _, Nat.zero_le _, rfl, rfl, Own.nil _ _, fun b hb => by simp [Value.ownBlock] at hb, Tch.refl _ _⟩
    case round =>
      obtain ⟨k, v1, hk, rfl, rfl, hown, hnew, htch⟩ := hrel
      have HOW : Hid (Own wr 81 u5 (remF name (fs.take k)) ∧ (∀ b, u5.ownBlock = some b → w1.heap.size ≤ b) ∧ Tch [] w1 wr) := ⟨hown, hnew, htch⟩
      by_cases hkn : k < fs.length
      · obtain ⟨g, rfl, c1, c2, c3⟩ := HC.out k hkn
        have d1 := (htch.cell (World.block_lt_of_cell? _ _ c1) (by simp)).trans c1
        have d2 := (htch.cell (World.block_lt_of_cell? _ _ c2) (by simp)).trans c2
        have d3 := (htch.cell (World.block_lt_of_cell? _ _ c3) (by simp)).trans c3
        have HTK : Hid (remF name (fs.take (k + 1)) = if isN name fs[k] = true then remF name (fs.take k) else remF name (fs.take k) ++ [fs[k]]) := by
          show _ = _
          rw [List.take_succ_eq_append_getElem hkn]
          unfold remF
          rw [List.filter_append]
          cases hq : isN name fs[k] <;> simp [hq]
        have HLN : Hid ((remF name (fs.take k)).length ≤ 8388608) := by
          show _ ≤ _
          have h1 := List.length_filter_le (fun f => !isN name f) (fs.take k)
          rw [List.length_take] at h1
          unfold remF
          omega
        clear c1 c2 c3 hown hnew htch
        have HIS : Hid (isN name fs[k] = (fs[k].name.toList == name.toList)) := rfl
        generalize fs[k] = f at d1 d2 d3 HTK HIS
        generalize remF name (fs.take k) = R at HOW HTK HLN
        have hkl : ((k : Int) < (fs.length : Int)) := by omega
        cases hq : (f.name.toList == name.toList) with
        | true =>
          have hq2 : (f.name.toList != name.toList) = false := by simp [bne, hq]
          have HTK2 : Hid (remF name (fs.take (k + 1)) = R) := by
            show _ = _
            rw [HTK.out, HIS.out, hq, if_pos rfl]
          go_wp2_with fail
          go_roundw
          case rel => exact ⟨k + 1, _, by omega, rfl, by go_num, by rw [HTK2.out]; exact HOW.out.1.tch ((Tch.refl [] _).alloc _) (fun _ _ => by simp), HOW.out.2.1, HOW.out.2.2.alloc _⟩
          case measure => simp [intOf]; omega
        | false =>
          have hq2 : (f.name.toList != name.toList) = true := by simp [bne, hq]
          have HTK2 : Hid (remF name (fs.take (k + 1)) = R ++ [f]) := by
            show _ = _
            rw [HTK.out, HIS.out, hq, if_neg (by simp)]
          go_wp2_with (at_builtin; refine wpList_file _ rfl _ _ 74 81 rfl Tryd.underlying74 info81 u5 R rfl (HOW.out.1.tch (((Tch.refl [] _).alloc _).alloc _) (fun _ _ => by simp)) (wr.heap.size + 1) f rfl (heap_alloc2_new _ _ _) HLN.out ?_)
          intro v' w3 ho3 hg3 hb3
          have HFN : Hid (Own w3 81 v' (R ++ [f]) ∧ (∀ b, v'.ownBlock = some b → w1.heap.size ≤ b) ∧ Tch [] w1 w3) := by
            refine ⟨ho3, fun b hb => ?_, ?_⟩
            · rcases hb3 with h | h
              · exact HOW.out.2.1 b (h.symm.trans hb)
              · rw [hb] at h
                injection h with h
                have := HOW.out.2.2.size
                omega
            · exact ((HOW.out.2.2.alloc _).alloc _).grown hg3 (fun b hb hlt => by have := HOW.out.2.1 b hb; omega)
          clear ho3 hg3 hb3
          go_wp2_with fail
          go_roundw
          case rel => exact ⟨k + 1, _, by omega, rfl, by go_num, by rw [HTK2.out]; exact HFN.out.1, HFN.out.2.1, HFN.out.2.2⟩
          case measure => simp [intOf]; omega
      · have hkl : ¬ ((k : Int) < (fs.length : Int)) := by omega
        rw [List.take_of_length_le (by omega)] at HOW
        obtain ⟨a1, cap1, hv, _⟩ := HOW.out.1.at
        have c0 := (htch.cell HB.out.1.lt (by simp)).trans h0
        have f0 : wr.frozen? ⟨p, 0, none⟩ = false := (HB.out.1.tch htch (by simp)).fz 0
        have HDB : Hid (DBlk wr p 76 (.slice a fs.length cap) L S) := HB.out.1.tch htch (by simp)
        clear hown hnew htch
        subst hv
        have HFIN : Hid (Left w (wr.setCell ⟨p, 0, none⟩ (.slice a1 (remF name fs).length cap1)) 76 81 p (.slice a fs.length cap) ⟨remF name fs, L, S⟩) :=
          swap_fin HDB.out ((HB.out.2.trans HOW.out.2.2 (fun x hx => by cases hx)).sub (fun x hx _ => by simp at hx; simp [bl, hx])) HOW.out.1 (fun b hb => Nat.le_trans HB.out.2.size (HOW.out.2.1 b hb)) H.out.blk.lt
        go_wp2_with fail
        go_ret
        exact ⟨rfl, HFIN.out⟩
set_option maxRecDepth 10000 in
set_option maxHeartbeats 1000000 in
theorem without_r (p : Nat) (v : Value) (left : Int) (st : Bool) (fs : List DF) (name : ByteArray) (w1 : World) (h : DBlk w1 p 79 v left st) (ho : Own w1 83 v fs) (hn : fs.length < 8388608) :
    Calls Tryd.prog 48 #[.pointer (some ⟨p, 0, none⟩), .string name] w1 fun e w' => ∃ a1 cap1, e = .returned (.slice a1 (remF name fs).length cap1) ∧ Own w' 83 (.slice a1 (remF name fs).length cap1) (remF name fs) ∧ (∀ b, (Value.slice a1 (remF name fs).length cap1).ownBlock = some b → w1.heap.size ≤ b) ∧ Tch [] w1 w' := by
  have h0 := h.c0
  obtain ⟨a, cap, rfl, hc⟩ := ho.at
  have HC : Hid (∀ j (hj : j < fs.length), ∃ g, a = some ⟨g, 0, none⟩ ∧ w1.cell? ⟨g, j * 3, none⟩ = some (.string fs[j].name) ∧ w1.cell? ⟨g, j * 3 + 1, none⟩ = some (.string fs[j].data) ∧ w1.cell? ⟨g, j * 3 + 2, none⟩ = some (.int .i64 (fs[j].safe : Nat))) := hc
  have HB : Hid (DBlk w1 p 79 (.slice a fs.length cap) left st) := h
  clear hc h ho
  go_enter Tryd.func48, Tryd.ntmps48
  go_wp2_with fail
  go_loopw [5, 6] (fun lv i wr => ∃ (k : Nat) (v1 : Value), k ≤ fs.length ∧ lv = v1 ∧ i = .int .i64 k ∧ Own wr 83 v1 (remF name (fs.take k)) ∧ (∀ b, v1.ownBlock = some b → w1.heap.size ≤ b) ∧ Tch [] w1 wr) (fun _ i _ => fs.length - (intOf i).toNat)
  case atStart => exact ⟨0, _, Nat.zero_le _, rfl, rfl, Own.nil _ _, fun b hb => by simp [Value.ownBlock] at hb, Tch.refl _ _⟩
  case round =>
    obtain ⟨k, v1, hk, rfl, rfl, hown, hnew, htch⟩ := hrel
    have HOW : Hid (Own wr 83 u5 (remF name (fs.take k)) ∧ (∀ b, u5.ownBlock = some b → w1.heap.size ≤ b) ∧ Tch [] w1 wr) := ⟨hown, hnew, htch⟩
    have c0 := (htch.cell HB.out.lt (by simp)).trans h0
    by_cases hkn : k < fs.length
    · obtain ⟨g, rfl, c1, c2, c3⟩ := HC.out k hkn
      have d1 := (htch.cell (World.block_lt_of_cell? _ _ c1) (by simp)).trans c1
      have d2 := (htch.cell (World.block_lt_of_cell? _ _ c2) (by simp)).trans c2
      have d3 := (htch.cell (World.block_lt_of_cell? _ _ c3) (by simp)).trans c3
      have HTK : Hid (remF name (fs.take (k + 1)) = if isN name fs[k] = true then remF name (fs.take k) else remF name (fs.take k) ++ [fs[k]]) := by
        show _ = _
        rw [List.take_succ_eq_append_getElem hkn]
        unfold remF
        rw [List.filter_append]
        cases hq : isN name fs[k] <;> simp [hq]
      have HLN : Hid ((remF name (fs.take k)).length ≤ 8388608) := by
        show _ ≤ _
        have h1 := List.length_filter_le (fun f => !isN name f) (fs.take k)
        rw [List.length_take] at h1
        unfold remF
        omega
      clear c1 c2 c3 hown hnew htch h0
      have HIS : Hid (isN name fs[k] = (fs[k].name.toList == name.toList)) := rfl
      generalize fs[k] = f at d1 d2 d3 HTK HIS
      generalize remF name (fs.take k) = R at HOW HTK HLN
      have hkl : ((k : Int) < (fs.length : Int)) := by omega
      cases hq : (f.name.toList == name.toList) with
      | true =>
        have hq2 : (f.name.toList != name.toList) = false := by simp [bne, hq]
        have HTK2 : Hid (remF name (fs.take (k + 1)) = R) := by
          show _ = _
          rw [HTK.out, HIS.out, hq, if_pos rfl]
        go_wp2_with fail
        go_roundw
        case rel => exact ⟨k + 1, _, by omega, rfl, by go_num, by rw [HTK2.out]; exact HOW.out.1, HOW.out.2.1, HOW.out.2.2⟩
        case measure => simp [intOf]; omega
      | false =>
        have hq2 : (f.name.toList != name.toList) = true := by simp [bne, hq]
        have HTK2 : Hid (remF name (fs.take (k + 1)) = R ++ [f]) := by
          show _ = _
          rw [HTK.out, HIS.out, hq, if_neg (by simp)]
        go_wp2_with (at_builtin; refine wpList_file _ rfl _ _ 77 83 rfl Tryd.underlying77 info83 u5 R rfl (HOW.out.1.tch ((Tch.refl [] _).alloc _) (fun _ _ => by simp)) wr.heap.size f rfl (heap_alloc_new _ _) HLN.out ?_)
        intro v' w3 ho3 hg3 hb3
        have HFN : Hid (Own w3 83 v' (R ++ [f]) ∧ (∀ b, v'.ownBlock = some b → w1.heap.size ≤ b) ∧ Tch [] w1 w3) := by
          refine ⟨ho3, fun b hb => ?_, ?_⟩
          · rcases hb3 with h | h
            · exact HOW.out.2.1 b (h.symm.trans hb)
            · rw [hb] at h
              injection h with h
              have := HOW.out.2.2.size
              omega
          · exact (HOW.out.2.2.alloc _).grown hg3 (fun b hb hlt => by have := HOW.out.2.1 b hb; omega)
        clear ho3 hg3 hb3
        go_wp2_with fail
        go_roundw
        case rel => exact ⟨k + 1, _, by omega, rfl, by go_num, by rw [HTK2.out]; exact HFN.out.1, HFN.out.2.1, HFN.out.2.2⟩
        case measure => simp [intOf]; omega
    · have hkl : ¬ ((k : Int) < (fs.length : Int)) := by omega
      rw [List.take_of_length_le (by omega)] at HOW
      obtain ⟨a1, cap1, hv, _⟩ := HOW.out.1.at
      clear hown hnew htch h0
      subst hv
      go_wp2_with fail
      go_ret
      exact ⟨a1, cap1, rfl, HOW.out.1, HOW.out.2.1, HOW.out.2.2⟩
set_option maxRecDepth 10000 in
set_option maxHeartbeats 1000000 in
theorem remove_r (p : Nat) (v : Value) (D : DK) (name : ByteArray) (w : World) (h : Dsk w 79 83 p v D) (hl : -9223372036854775808 ≤ D.left ∧ D.left ≤ 9223372036854775807) (hn : D.fs.length < 8388608) :
    Calls Tryd.prog 29 #[.pointer (some ⟨p, 0, none⟩), .string name] w fun e w' => e = .returned (.bool (stepOk D.left D.st)) ∧ Left w w' 79 83 p v ⟨if stepOk D.left D.st = true then remF name D.fs else D.fs, stepL D.left D.st, stepS D.left D.st⟩ := by
  obtain ⟨fs, left, st⟩ := D
  simp only at *
  have HS : Hid (Calls Tryd.prog 46 #[.pointer (some ⟨p, 0, none⟩)] w fun e w' => e = .returned (.bool (stepOk left st)) ∧ DBlk w' p 79 v (stepL left st) (stepS left st) ∧ Tch [p] w w' ∧ w'.heap.size = w.heap.size) := step_r p v left st w h.blk hl
  have H : Hid (Dsk w 79 83 p v ⟨fs, left, st⟩) := h
  clear h
  generalize stepL left st = L at HS
  generalize stepS left st = S at HS
  cases hok : stepOk left st with
  | false =>
    rw [hok] at HS
    go_enter Tryd.func29, Tryd.ntmps29
    go_wp2_with fail
    refine HS.out.mono ?_
    rintro e w1 ⟨rfl, hb, ht, hz⟩
    have HB : Hid (DBlk w1 p 79 v L S ∧ Tch [p] w w1) := ⟨hb, ht⟩
    have HO : Hid (Own w1 83 v fs) := H.out.own.tch ht (fun b hb hm => H.out.sep (by simp at hm; rw [hb, hm]))
    clear hb ht hz
    go_wp2_with fail
    go_ret
    refine ⟨rfl, v, ⟨HB.out.1, HO.out, H.out.sep⟩, HB.out.2.sub (fun x hx _ => by simp at hx; simp [bl, hx]), fun b hb => .inl hb⟩
  | true =>
    rw [hok] at HS
    go_enter Tryd.func29, Tryd.ntmps29
    go_wp2_with fail
    refine HS.out.mono ?_
    rintro e w1 ⟨rfl, hb, ht, hz⟩
    have HB : Hid (DBlk w1 p 79 v L S ∧ Tch [p] w w1) := ⟨hb, ht⟩
    have HO : Hid (Own w1 83 v fs) := H.out.own.tch ht (fun b hb hm => H.out.sep (by simp at hm; rw [hb, hm]))
    clear hb ht hz
    go_wp2_with fail
    refine (without_r p v L S fs name w1 HB.out.1 HO.out hn).mono ?_
    rintro e w2 ⟨a1, cap1, rfl, ho, hnew, htch⟩
    have HDB : Hid (DBlk w2 p 79 v L S) := HB.out.1.tch htch (by simp)
    have c0 := HDB.out.c0
    have f0 := HDB.out.fz 0
    have HFIN : Hid (Left w (w2.setCell ⟨p, 0, none⟩ (.slice a1 (remF name fs).length cap1)) 79 83 p v ⟨remF name fs, L, S⟩) :=
      swap_fin HDB.out ((HB.out.2.trans htch (fun x hx => by cases hx)).sub (fun x hx _ => by simp at hx; simp [bl, hx])) ho (fun b hb => Nat.le_trans HB.out.2.size (hnew b hb)) H.out.blk.lt
    clear ho hnew htch
    go_wp2_with fail
    go_ret
    exact ⟨rfl, HFIN.out⟩
end Go.Proofs.YtbdobaapadlcjaaDoor.Dk
