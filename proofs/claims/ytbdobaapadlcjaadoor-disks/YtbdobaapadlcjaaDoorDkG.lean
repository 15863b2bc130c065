/-
  DISKS: Crash of both disks.
-/
import Derived.Test.YtbdobaapadlcjaaDoorDkF
namespace Go.Proofs.YtbdobaapadlcjaaDoor.Dk
open Go.RowKit
set_option linter.unusedVariables false
set_option linter.unusedSimpArgs false

/-- How many loose bytes of a file are left behind a crash. -/
def crN (keep : Int) (f : DF) : Nat := if keep < (f.data.size : Int) - (f.safe : Int) then (max keep 0).toNat else f.data.size - f.safe
def crF (keep : Int) (f : DF) : DF := ⟨f.name, f.data.extract 0 (f.safe + crN keep f), f.safe + crN keep f⟩
theorem crN_le (keep : Int) (f : DF) (h : f.safe ≤ f.data.size) : f.safe + crN keep f ≤ f.data.size := by unfold crN; split <;> omega
theorem crF_size (keep : Int) (f : DF) (h : f.safe ≤ f.data.size) : (f.data.extract 0 (f.safe + crN keep f)).size = f.safe + crN keep f := by
  have := crN_le keep f h
  simp
  omega

/-- The disk that is made gets one file more. -/
theorem grow_new {w wr w9 : World} {t te : TypeId} {q : Nat} {v1 : Value} {R : List DF} {nf : DF} (hD : Dsk wr t te q v1 ⟨R, -1, false⟩) (hT : Tch [] w wr) (hnew : ∀ b, v1.ownBlock = some b → w.heap.size ≤ b) (hq : w.heap.size ≤ q) (ht9 : Tch [] wr w9) (o : Obj) (v' : Value) (w' : World) (ho3 : Own w' te v' (R ++ [nf])) (hg3 : (w9.drew.alloc o).grownBy w' v1.ownBlock)
    (hb3 : v'.ownBlock = v1.ownBlock ∨ v'.ownBlock = some (w9.heap.size + 1)) :
    ∃ g4 cap4, v' = .slice (some ⟨g4, 0, none⟩) (R ++ [nf]).length cap4 ∧ w'.cell? ⟨q, 0, none⟩ = some v1 ∧ w'.frozen? ⟨q, 0, none⟩ = false ∧
      Dsk (w'.setCell ⟨q, 0, none⟩ (.slice (some ⟨g4, 0, none⟩) (R ++ [nf]).length cap4)) t te q (.slice (some ⟨g4, 0, none⟩) (R ++ [nf]).length cap4) ⟨R ++ [nf], -1, false⟩ ∧ Tch [] w (w'.setCell ⟨q, 0, none⟩ (.slice (some ⟨g4, 0, none⟩) (R ++ [nf]).length cap4)) ∧ ∀ b, (Value.slice (some ⟨g4, 0, none⟩) (R ++ [nf]).length cap4).ownBlock = some b → w.heap.size ≤ b := by
  have hB9 : DBlk w9 q t v1 (-1) false := hD.blk.tch ht9 (by simp)
  have hBa : DBlk (w9.drew.alloc o) q t v1 (-1) false := (Below.heap_alloc _ _ _ hB9.lt).trans hB9
  have hBb : DBlk w' q t v1 (-1) false := (hg3.block q hBa.lt (fun e => hD.sep e.symm)).trans hBa
  have hsz : wr.heap.size ≤ w9.heap.size := ht9.size
  have hsz0 : w.heap.size ≤ wr.heap.size := hT.size
  have hsep : v'.ownBlock ≠ some q := by
    intro e
    rcases hb3 with h | h
    · exact hD.sep (h.symm.trans e)
    · rw [e] at h
      injection h with h
      have := hD.blk.lt
      omega
  obtain ⟨g4, cap4, hv⟩ := ho3.some (by simp)
  subst hv
  refine ⟨g4, cap4, rfl, hBb.c0, hBb.fz 0, Dsk.swap hBb ho3 hsep, ?_, fun b hb => ?_⟩
  · refine Tch.setCell ?_ (fun h => by simp at h; omega) _
    exact ((hT.trans ht9 (fun x hx => by cases hx)).drew.alloc _).grown hg3 (fun b hb hlt => by have := hnew b hb; omega)
  · rcases hb3 with h | h
    · exact hnew b (h.symm.trans hb)
    · rw [hb] at h
      injection h with h
      omega

set_option maxRecDepth 10000 in
set_option maxHeartbeats 2000000 in
theorem crash_d (p : Nat) (v : Value) (left : Int) (st : Bool) (fs : List DF) (keep : Int) (w : World) (h : DBlk w p 76 v left st) (ho : Own w 81 v fs) (hn : fs.length < 8388608) (hs : ∀ f ∈ fs, f.safe ≤ f.data.size ∧ f.data.size ≤ 1099511627776)
    (hk1 : -9223372036854775808 ≤ keep) (hk2 : keep ≤ 9223372036854775807) :
    Calls Tryd.prog 59 #[.pointer (some ⟨p, 0, none⟩), .int .i64 keep] w fun e w' => e = .returned (.pointer (some ⟨w.heap.size, 0, none⟩)) ∧ ∃ v', Dsk w' 76 81 w.heap.size v' ⟨fs.map (crF keep), -1, false⟩ ∧ Tch [] w w' ∧ ∀ b, v'.ownBlock = some b → w.heap.size ≤ b := by
  have h0 := h.c0
  obtain ⟨a, cap, rfl, hc⟩ := ho.at
  have HC : Hid (∀ j (hj : j < fs.length), ∃ g, a = some ⟨g, 0, none⟩ ∧ w.cell? ⟨g, j * 3, none⟩ = some (.string fs[j].name) ∧ w.cell? ⟨g, j * 3 + 1, none⟩ = some (.string fs[j].data) ∧ w.cell? ⟨g, j * 3 + 2, none⟩ = some (.int .i64 (fs[j].safe : Nat))) := hc
  have HB : Hid (DBlk w p 76 (.slice a fs.length cap) left st) := h
  clear hc h ho
  go_enter Tryd.func59, Tryd.ntmps59
  go_wp2_with fail
  refine (new_d _).mono ?_
  rintro e w1 ⟨rfl, hw1⟩
  have hT1 : Tch [] w w1 := by rw [hw1]; exact (Tch.refl _ _).alloc _
  have hB1 : DBlk w1 w.heap.size 76 (.slice none 0 0) (-1) false := by rw [hw1]; exact heap_alloc_new _ _
  have c0 := (hT1.cell HB.out.lt (by simp)).trans h0
  have HW1 : Hid (Tch [] w w1 ∧ DBlk w1 w.heap.size 76 (.slice none 0 0) (-1) false) := ⟨hT1, hB1⟩
  clear hT1 hB1 hw1 h0
  go_wp2_with fail
  go_loopw [15] (fun i wr => ∃ k : Nat, k ≤ fs.length ∧ i = .int .i64 k ∧ ∃ v1, Dsk wr 76 81 w.heap.size v1 ⟨(fs.take k).map (crF keep), -1, false⟩ ∧ Tch [] w wr ∧ ∀ b, v1.ownBlock = some b → w.heap.size ≤ b) (fun i _ => fs.length - (intOf i).toNat)
  case atStart => exact ⟨0, Nat.zero_le _, rfl, _, ⟨HW1.out.2, Own.nil _ _, by simp [Value.ownBlock]⟩, HW1.out.1, fun b hb => by simp [Value.ownBlock] at hb⟩
  case round =>
    obtain ⟨k, hk, rfl, v1, hD, htch, hnew⟩ := hrel
    have HD : Hid (Dsk wr 76 81 w.heap.size v1 ⟨(fs.take k).map (crF keep), -1, false⟩ ∧ Tch [] w wr ∧ ∀ b, v1.ownBlock = some b → w.heap.size ≤ b) := ⟨hD, htch, hnew⟩
    by_cases hkn : k < fs.length
    · obtain ⟨g, rfl, c1, c2, c3⟩ := HC.out k hkn
      have d1 := (htch.cell (World.block_lt_of_cell? _ _ c1) (by simp)).trans c1
      have d2 := (htch.cell (World.block_lt_of_cell? _ _ c2) (by simp)).trans c2
      have d3 := (htch.cell (World.block_lt_of_cell? _ _ c3) (by simp)).trans c3
      have hq0 : ∀ o, (wr.alloc o).cell? ⟨w.heap.size, 0, none⟩ = some v1 := fun o => (World.cell?_of_block (Below.heap_alloc _ _ _ hD.blk.lt)).trans hD.blk.c0
      have HTK : Hid ((fs.take (k + 1)).map (crF keep) = (fs.take k).map (crF keep) ++ [crF keep fs[k]]) := by
        show _ = _
        rw [List.take_succ_eq_append_getElem hkn, List.map_append]
        rfl
      have HLN : Hid (((fs.take k).map (crF keep)).length ≤ 8388608) := by
        show _ ≤ _
        rw [List.length_map, List.length_take]
        omega
      obtain ⟨hsf, hds⟩ := hs fs[k] (List.getElem_mem _)
      obtain ⟨a1, cap1, hv1, _⟩ := hD.own.at
      subst hv1
      clear c1 c2 c3 hD htch hnew
      generalize fs[k] = f at d1 d2 d3 HTK hsf hds
      generalize (fs.take k).map (crF keep) = R at HD HTK HLN hq0
      have hkl : ((k : Int) < (fs.length : Int)) := by omega
      obtain ⟨nf, HNF⟩ : ∃ nf : DF, Hid (nf = crF keep f) := ⟨_, rfl⟩
      have hcr := crN_le keep f hsf
      have hcz := crF_size keep f hsf
      rw [← HNF.out] at HTK
      have hwsub : wrap64 ((f.data.size : Int) - (f.safe : Int)) = (f.data.size : Int) - (f.safe : Int) := by simp [wrap64]; omega
      by_cases hlt : keep < (f.data.size : Int) - (f.safe : Int)
      · by_cases hk0 : 0 ≤ keep
        · obtain ⟨m, rfl⟩ : ∃ m : Nat, keep = (m : Int) := ⟨keep.toNat, by omega⟩
          have hN : crN (m : Int) f = m := by unfold crN; rw [if_pos hlt]; omega
          rw [hN] at hcr hcz
          have hwadd : wrap64 ((f.safe : Int) + (m : Int)) = (f.safe : Int) + (m : Int) := by simp [wrap64]; omega
          have hmx : max (m : Int) 0 = (m : Int) := by omega
          have HE : Hid (nf = ⟨f.name, f.data.extract 0 (f.safe + m), f.safe + m⟩) := by rw [HNF.out]; unfold crF; rw [hN]; rfl
          go_wp2_with fail
          have HT9 : Hid (Tch [] wr (wr.alloc (.cells #[.string f.name, .string (f.data.extract 0 (f.safe + m)), .int .i64 ((f.safe : Int) + (m : Int))] 81)) ∧ (wr.alloc (.cells #[.string f.name, .string (f.data.extract 0 (f.safe + m)), .int .i64 ((f.safe : Int) + (m : Int))] 81)).heap[wr.heap.size]? = some (.cells nf.arr 81 (0, 0))) := ⟨(Tch.refl _ _).alloc _, by rw [HE.out]; exact heap_alloc_new _ _⟩
          generalize wr.alloc (.cells #[.string f.name, .string (f.data.extract 0 (f.safe + m)), .int .i64 ((f.safe : Int) + (m : Int))] 81) = w9 at HT9
          have c9 : w9.cell? ⟨w.heap.size, 0, none⟩ = some (.slice a1 R.length cap1) := (HT9.out.1.cell HD.out.1.blk.lt (by simp)).trans HD.out.1.blk.c0
          have c9a : ∀ o, (w9.alloc o).cell? ⟨w.heap.size, 0, none⟩ = some (.slice a1 R.length cap1) := fun o => (World.cell?_of_block (Below.heap_alloc _ _ _ (Nat.lt_of_lt_of_le HD.out.1.blk.lt HT9.out.1.size))).trans c9
          have e0 : w9.cell? ⟨wr.heap.size, 0, none⟩ = some (.string nf.name) := (cell_of_row _ _ 0 _ 81 (0, 0) HT9.out.2).trans rfl
          have e1 : w9.cell? ⟨wr.heap.size, 1, none⟩ = some (.string nf.data) := (cell_of_row _ _ 1 _ 81 (0, 0) HT9.out.2).trans rfl
          have e2 : w9.cell? ⟨wr.heap.size, 2, none⟩ = some (.int .i64 (nf.safe : Nat)) := (cell_of_row _ _ 2 _ 81 (0, 0) HT9.out.2).trans rfl
          clear hq0
          go_region_law (refine step_file rfl (.tmp 46) (.tmp 48) 74 81 rfl Tryd.underlying74 info81 (.slice a1 R.length cap1) R (by simp [Act.eval, Act.put]) (HD.out.1.own.tch (S := []) ((HT9.out.1.drew).alloc _) (fun _ _ => by simp)) w9.heap.size nf (by simp [Act.eval, Act.put]) (heap_alloc_new _ _) HLN.out ?_; intro v' wa ho3 hg3 hb3; obtain ⟨g4, cap4, hv4, ca, za, hfin⟩ := grow_new HD.out.1 HD.out.2.1 HD.out.2.2 (Nat.le_refl _) HT9.out.1 _ v' wa ho3 hg3 (by simpa using hb3); subst hv4; clear ho3 hg3 hb3; have HFIN : Hid (Dsk (wa.setCell ⟨w.heap.size, 0, none⟩ (.slice (some ⟨g4, 0, none⟩) (R ++ [nf]).length cap4)) 76 81 w.heap.size (.slice (some ⟨g4, 0, none⟩) (R ++ [nf]).length cap4) ⟨R ++ [nf], -1, false⟩ ∧ Tch [] w (wa.setCell ⟨w.heap.size, 0, none⟩ (.slice (some ⟨g4, 0, none⟩) (R ++ [nf]).length cap4)) ∧ ∀ b, (Value.slice (some ⟨g4, 0, none⟩) (R ++ [nf]).length cap4).ownBlock = some b → w.heap.size ≤ b) := hfin; clear hfin; rw [show (R ++ [nf]).length = R.length + 1 by simp] at HFIN ⊢)
          all_goals go_wp2_with fail
          all_goals go_roundw
          all_goals first | exact ⟨k + 1, by omega, by go_num, _, by rw [HTK.out]; exact HFIN.out.1, HFIN.out.2.1, HFIN.out.2.2⟩ | (simp [intOf]; omega)
        · have hN : crN keep f = 0 := by unfold crN; rw [if_pos hlt]; omega
          rw [hN, Nat.add_zero] at hcr hcz
          have hmx : max keep 0 = 0 := by omega
          have hwadd : wrap64 (f.safe : Int) = (f.safe : Int) := by simp [wrap64]; omega
          have HE : Hid (nf = ⟨f.name, f.data.extract 0 f.safe, f.safe⟩) := by rw [HNF.out]; unfold crF; rw [hN]; rfl
          go_wp2_with fail
          have HT9 : Hid (Tch [] wr (wr.alloc (.cells #[.string f.name, .string (f.data.extract 0 f.safe), .int .i64 (f.safe : Int)] 81)) ∧ (wr.alloc (.cells #[.string f.name, .string (f.data.extract 0 f.safe), .int .i64 (f.safe : Int)] 81)).heap[wr.heap.size]? = some (.cells nf.arr 81 (0, 0))) := ⟨(Tch.refl _ _).alloc _, by rw [HE.out]; exact heap_alloc_new _ _⟩
          generalize wr.alloc (.cells #[.string f.name, .string (f.data.extract 0 f.safe), .int .i64 (f.safe : Int)] 81) = w9 at HT9
          have c9 : w9.cell? ⟨w.heap.size, 0, none⟩ = some (.slice a1 R.length cap1) := (HT9.out.1.cell HD.out.1.blk.lt (by simp)).trans HD.out.1.blk.c0
          have c9a : ∀ o, (w9.alloc o).cell? ⟨w.heap.size, 0, none⟩ = some (.slice a1 R.length cap1) := fun o => (World.cell?_of_block (Below.heap_alloc _ _ _ (Nat.lt_of_lt_of_le HD.out.1.blk.lt HT9.out.1.size))).trans c9
          have e0 : w9.cell? ⟨wr.heap.size, 0, none⟩ = some (.string nf.name) := (cell_of_row _ _ 0 _ 81 (0, 0) HT9.out.2).trans rfl
          have e1 : w9.cell? ⟨wr.heap.size, 1, none⟩ = some (.string nf.data) := (cell_of_row _ _ 1 _ 81 (0, 0) HT9.out.2).trans rfl
          have e2 : w9.cell? ⟨wr.heap.size, 2, none⟩ = some (.int .i64 (nf.safe : Nat)) := (cell_of_row _ _ 2 _ 81 (0, 0) HT9.out.2).trans rfl
          clear hq0
          go_region_law (refine step_file rfl (.tmp 46) (.tmp 48) 74 81 rfl Tryd.underlying74 info81 (.slice a1 R.length cap1) R (by simp [Act.eval, Act.put]) (HD.out.1.own.tch (S := []) ((HT9.out.1.drew).alloc _) (fun _ _ => by simp)) w9.heap.size nf (by simp [Act.eval, Act.put]) (heap_alloc_new _ _) HLN.out ?_; intro v' wa ho3 hg3 hb3; obtain ⟨g4, cap4, hv4, ca, za, hfin⟩ := grow_new HD.out.1 HD.out.2.1 HD.out.2.2 (Nat.le_refl _) HT9.out.1 _ v' wa ho3 hg3 (by simpa using hb3); subst hv4; clear ho3 hg3 hb3; have HFIN : Hid (Dsk (wa.setCell ⟨w.heap.size, 0, none⟩ (.slice (some ⟨g4, 0, none⟩) (R ++ [nf]).length cap4)) 76 81 w.heap.size (.slice (some ⟨g4, 0, none⟩) (R ++ [nf]).length cap4) ⟨R ++ [nf], -1, false⟩ ∧ Tch [] w (wa.setCell ⟨w.heap.size, 0, none⟩ (.slice (some ⟨g4, 0, none⟩) (R ++ [nf]).length cap4)) ∧ ∀ b, (Value.slice (some ⟨g4, 0, none⟩) (R ++ [nf]).length cap4).ownBlock = some b → w.heap.size ≤ b) := hfin; clear hfin; rw [show (R ++ [nf]).length = R.length + 1 by simp] at HFIN ⊢)
          all_goals go_wp2_with fail
          all_goals go_roundw
          all_goals first | exact ⟨k + 1, by omega, by go_num, _, by rw [HTK.out]; exact HFIN.out.1, HFIN.out.2.1, HFIN.out.2.2⟩ | (simp [intOf]; omega)
      · have hN : crN keep f = f.data.size - f.safe := by unfold crN; rw [if_neg hlt]
        have hwadd : wrap64 ((f.safe : Int) + ((f.data.size : Int) - (f.safe : Int))) = (f.data.size : Int) := by simp [wrap64]; omega
        have HE : Hid (nf = ⟨f.name, f.data, f.data.size⟩) := by
          show _ = _
          rw [HNF.out]
          unfold crF
          rw [hN, show f.safe + (f.data.size - f.safe) = f.data.size by omega]
          simp
        have hge : 0 ≤ (f.data.size : Int) - (f.safe : Int) := by omega
        go_wp2_with fail
        have HT9 : Hid (Tch [] wr (wr.alloc (.cells #[.string f.name, .string f.data, .int .i64 (f.data.size : Nat)] 81)) ∧ (wr.alloc (.cells #[.string f.name, .string f.data, .int .i64 (f.data.size : Nat)] 81)).heap[wr.heap.size]? = some (.cells nf.arr 81 (0, 0))) := ⟨(Tch.refl _ _).alloc _, by rw [HE.out]; exact heap_alloc_new _ _⟩
        generalize wr.alloc (.cells #[.string f.name, .string f.data, .int .i64 (f.data.size : Nat)] 81) = w9 at HT9
        have c9 : w9.cell? ⟨w.heap.size, 0, none⟩ = some (.slice a1 R.length cap1) := (HT9.out.1.cell HD.out.1.blk.lt (by simp)).trans HD.out.1.blk.c0
        have c9a : ∀ o, (w9.alloc o).cell? ⟨w.heap.size, 0, none⟩ = some (.slice a1 R.length cap1) := fun o => (World.cell?_of_block (Below.heap_alloc _ _ _ (Nat.lt_of_lt_of_le HD.out.1.blk.lt HT9.out.1.size))).trans c9
        have e0 : w9.cell? ⟨wr.heap.size, 0, none⟩ = some (.string nf.name) := (cell_of_row _ _ 0 _ 81 (0, 0) HT9.out.2).trans rfl
        have e1 : w9.cell? ⟨wr.heap.size, 1, none⟩ = some (.string nf.data) := (cell_of_row _ _ 1 _ 81 (0, 0) HT9.out.2).trans rfl
        have e2 : w9.cell? ⟨wr.heap.size, 2, none⟩ = some (.int .i64 (nf.safe : Nat)) := (cell_of_row _ _ 2 _ 81 (0, 0) HT9.out.2).trans rfl
        clear hq0
        go_region_law (refine step_file rfl (.tmp 46) (.tmp 48) 74 81 rfl Tryd.underlying74 info81 (.slice a1 R.length cap1) R (by simp [Act.eval, Act.put]) (HD.out.1.own.tch (S := []) ((HT9.out.1.drew).alloc _) (fun _ _ => by simp)) w9.heap.size nf (by simp [Act.eval, Act.put]) (heap_alloc_new _ _) HLN.out ?_; intro v' wa ho3 hg3 hb3; obtain ⟨g4, cap4, hv4, ca, za, hfin⟩ := grow_new HD.out.1 HD.out.2.1 HD.out.2.2 (Nat.le_refl _) HT9.out.1 _ v' wa ho3 hg3 (by simpa using hb3); subst hv4; clear ho3 hg3 hb3; have HFIN : Hid (Dsk (wa.setCell ⟨w.heap.size, 0, none⟩ (.slice (some ⟨g4, 0, none⟩) (R ++ [nf]).length cap4)) 76 81 w.heap.size (.slice (some ⟨g4, 0, none⟩) (R ++ [nf]).length cap4) ⟨R ++ [nf], -1, false⟩ ∧ Tch [] w (wa.setCell ⟨w.heap.size, 0, none⟩ (.slice (some ⟨g4, 0, none⟩) (R ++ [nf]).length cap4)) ∧ ∀ b, (Value.slice (some ⟨g4, 0, none⟩) (R ++ [nf]).length cap4).ownBlock = some b → w.heap.size ≤ b) := hfin; clear hfin; rw [show (R ++ [nf]).length = R.length + 1 by simp] at HFIN ⊢)
        all_goals go_wp2_with fail
        all_goals go_roundw
        all_goals first | exact ⟨k + 1, by omega, by go_num, _, by rw [HTK.out]; exact HFIN.out.1, HFIN.out.2.1, HFIN.out.2.2⟩ | (simp [intOf]; omega)
    · have hkl : ¬ ((k : Int) < (fs.length : Int)) := by omega
      rw [List.take_of_length_le (by omega)] at HD
      clear hD htch hnew
      go_wp2_with fail
      go_ret
      exact ⟨rfl, _, HD.out⟩
end Go.Proofs.YtbdobaapadlcjaaDoor.Dk
