/-
  DISKS: Crash of the reference's disk.
-/
import Derived.Test.YtbdobaapadlcjaaDoorDkG
namespace Go.Proofs.YtbdobaapadlcjaaDoor.Dk
open Go.RowKit
set_option linter.unusedVariables false
set_option linter.unusedSimpArgs false

set_option maxRecDepth 10000 in
set_option maxHeartbeats 2000000 in
theorem crash_r (p : Nat) (v : Value) (left : Int) (st : Bool) (fs : List DF) (keep : Int) (w : World) (h : DBlk w p 79 v left st) (ho : Own w 83 v fs) (hn : fs.length < 8388608) (hs : ∀ f ∈ fs, f.safe ≤ f.data.size ∧ f.data.size ≤ 1099511627776)
    (hk1 : -9223372036854775808 ≤ keep) (hk2 : keep ≤ 9223372036854775807) :
    Calls Tryd.prog 60 #[.pointer (some ⟨p, 0, none⟩), .int .i64 keep] w fun e w' => e = .returned (.pointer (some ⟨w.heap.size, 0, none⟩)) ∧ ∃ v', Dsk w' 79 83 w.heap.size v' ⟨fs.map (crF keep), -1, false⟩ ∧ Tch [] w w' ∧ ∀ b, v'.ownBlock = some b → w.heap.size ≤ b := by
  have h0 := h.c0
  obtain ⟨a, cap, rfl, hc⟩ := ho.at
  have HC : Hid (∀ j (hj : j < fs.length), ∃ g, a = some ⟨g, 0, none⟩ ∧ w.cell? ⟨g, j * 3, none⟩ = some (.string fs[j].name) ∧ w.cell? ⟨g, j * 3 + 1, none⟩ = some (.string fs[j].data) ∧ w.cell? ⟨g, j * 3 + 2, none⟩ = some (.int .i64 (fs[j].safe : Nat))) := hc
  have HB : Hid (DBlk w p 79 (.slice a fs.length cap) left st) := h
  clear hc h ho
  go_enter Tryd.func60, Tryd.ntmps60
  go_wp2_with fail
  refine (new_r _).mono ?_
  rintro e w1 ⟨rfl, hw1⟩
  have hT1 : Tch [] w w1 := by rw [hw1]; exact (Tch.refl _ _).alloc _
  have hB1 : DBlk w1 w.heap.size 79 (.slice none 0 0) (-1) false := by rw [hw1]; exact heap_alloc_new _ _
  have c0 := (hT1.cell HB.out.lt (by simp)).trans h0
  have HW1 : Hid (Tch [] w w1 ∧ DBlk w1 w.heap.size 79 (.slice none 0 0) (-1) false) := ⟨hT1, hB1⟩
  have h0w := h0
  clear hT1 hB1 hw1 h0
  go_wp2_with fail
  go_loopw [6] (fun i wr => ∃ k : Nat, k ≤ fs.length ∧ i = .int .i64 k ∧ ∃ v1, Dsk wr 79 83 w.heap.size v1 ⟨(fs.take k).map (crF keep), -1, false⟩ ∧ Tch [] w wr ∧ ∀ b, v1.ownBlock = some b → w.heap.size ≤ b) (fun i _ => fs.length - (intOf i).toNat)
  case atStart => exact ⟨0, Nat.zero_le _, rfl, _, ⟨HW1.out.2, Own.nil _ _, by simp [Value.ownBlock]⟩, HW1.out.1, fun b hb => by simp [Value.ownBlock] at hb⟩
  case round =>
    obtain ⟨k, hk, rfl, v1, hD, htch, hnew⟩ := hrel
    have cf := (htch.cell HB.out.lt (by simp)).trans h0w
    have HD : Hid (Dsk wr 79 83 w.heap.size v1 ⟨(fs.take k).map (crF keep), -1, false⟩ ∧ Tch [] w wr ∧ ∀ b, v1.ownBlock = some b → w.heap.size ≤ b) := ⟨hD, htch, hnew⟩
    by_cases hkn : k < fs.length
    · obtain ⟨g, rfl, c1, c2, c3⟩ := HC.out k hkn
      have d1 := (htch.cell (World.block_lt_of_cell? _ _ c1) (by simp)).trans c1
      have d2 := (htch.cell (World.block_lt_of_cell? _ _ c2) (by simp)).trans c2
      have d3 := (htch.cell (World.block_lt_of_cell? _ _ c3) (by simp)).trans c3
      have hq0 : ∀ o, (wr.alloc o).cell? ⟨w.heap.size, 0, none⟩ = some v1 := fun o => (World.cell?_of_block (Below.heap_alloc _ _ _ hD.blk.lt)).trans hD.blk.c0
      have HTK : Hid ((fs.take (k + 1)).map (crF keep) = (fs.take k).map (crF keep) ++ [crF keep fs[k]]) := by
        show _ = _
        rw [List.take_succ_eq_append_getElem hkn, List.map_append]
        rfl
      have HLN : Hid (((fs.take k).map (crF keep)).length ≤ 8388608) := by
        show _ ≤ _
        rw [List.length_map, List.length_take]
        omega
      obtain ⟨hsf, hds⟩ := hs fs[k] (List.getElem_mem _)
      obtain ⟨a1, cap1, hv1, _⟩ := hD.own.at
      subst hv1
      clear c1 c2 c3 hD htch hnew
      generalize fs[k] = f at d1 d2 d3 HTK hsf hds
      generalize (fs.take k).map (crF keep) = R at HD HTK HLN hq0
      have hkl : ((k : Int) < (fs.length : Int)) := by omega
      obtain ⟨nf, HNF⟩ : ∃ nf : DF, Hid (nf = crF keep f) := ⟨_, rfl⟩
      have hcr := crN_le keep f hsf
      have hcz := crF_size keep f hsf
      rw [← HNF.out] at HTK
      have hwsub : wrap64 ((f.data.size : Int) - (f.safe : Int)) = (f.data.size : Int) - (f.safe : Int) := by simp [wrap64]; omega
      by_cases hlt : keep < (f.data.size : Int) - (f.safe : Int)
      · by_cases hk0 : 0 ≤ keep
        · obtain ⟨m, rfl⟩ : ∃ m : Nat, keep = (m : Int) := ⟨keep.toNat, by omega⟩
          have hN : crN (m : Int) f = m := by unfold crN; rw [if_pos hlt]; omega
          rw [hN] at hcr hcz
          have hwadd : wrap64 ((f.safe : Int) + (m : Int)) = (f.safe : Int) + (m : Int) := by simp [wrap64]; omega
          have hmx : max (m : Int) 0 = (m : Int) := by omega
          have HE : Hid (nf = ⟨f.name, f.data.extract 0 (f.safe + m), f.safe + m⟩) := by rw [HNF.out]; unfold crF; rw [hN]; rfl
          go_wp2_with fail
          have HT9 : Hid (Tch [] wr (wr.alloc (.cells #[.string f.name, .string (f.data.extract 0 (f.safe + m)), .int .i64 ((f.safe : Int) + (m : Int))] 83)) ∧ (wr.alloc (.cells #[.string f.name, .string (f.data.extract 0 (f.safe + m)), .int .i64 ((f.safe : Int) + (m : Int))] 83)).heap[wr.heap.size]? = some (.cells nf.arr 83 (0, 0))) := ⟨(Tch.refl _ _).alloc _, by rw [HE.out]; exact heap_alloc_new _ _⟩
          generalize wr.alloc (.cells #[.string f.name, .string (f.data.extract 0 (f.safe + m)), .int .i64 ((f.safe : Int) + (m : Int))] 83) = w9 at HT9
          have c9 : w9.cell? ⟨w.heap.size, 0, none⟩ = some (.slice a1 R.length cap1) := (HT9.out.1.cell HD.out.1.blk.lt (by simp)).trans HD.out.1.blk.c0
          have c9a : ∀ o, (w9.alloc o).cell? ⟨w.heap.size, 0, none⟩ = some (.slice a1 R.length cap1) := fun o => (World.cell?_of_block (Below.heap_alloc _ _ _ (Nat.lt_of_lt_of_le HD.out.1.blk.lt HT9.out.1.size))).trans c9
          have e0 : w9.cell? ⟨wr.heap.size, 0, none⟩ = some (.string nf.name) := (cell_of_row _ _ 0 _ 83 (0, 0) HT9.out.2).trans rfl
          have e1 : w9.cell? ⟨wr.heap.size, 1, none⟩ = some (.string nf.data) := (cell_of_row _ _ 1 _ 83 (0, 0) HT9.out.2).trans rfl
          have e2 : w9.cell? ⟨wr.heap.size, 2, none⟩ = some (.int .i64 (nf.safe : Nat)) := (cell_of_row _ _ 2 _ 83 (0, 0) HT9.out.2).trans rfl
          clear hq0
          go_region_law (refine step_file rfl (.tmp 54) (.tmp 56) 77 83 rfl Tryd.underlying77 info83 (.slice a1 R.length cap1) R (by simp [Act.eval, Act.put]) (HD.out.1.own.tch (S := []) ((HT9.out.1.drew).alloc _) (fun _ _ => by simp)) w9.heap.size nf (by simp [Act.eval, Act.put]) (heap_alloc_new _ _) HLN.out ?_; intro v' wa ho3 hg3 hb3; obtain ⟨g4, cap4, hv4, ca, za, hfin⟩ := grow_new HD.out.1 HD.out.2.1 HD.out.2.2 (Nat.le_refl _) HT9.out.1 _ v' wa ho3 hg3 (by simpa using hb3); subst hv4; clear ho3 hg3 hb3; have HFIN : Hid (Dsk (wa.setCell ⟨w.heap.size, 0, none⟩ (.slice (some ⟨g4, 0, none⟩) (R ++ [nf]).length cap4)) 79 83 w.heap.size (.slice (some ⟨g4, 0, none⟩) (R ++ [nf]).length cap4) ⟨R ++ [nf], -1, false⟩ ∧ Tch [] w (wa.setCell ⟨w.heap.size, 0, none⟩ (.slice (some ⟨g4, 0, none⟩) (R ++ [nf]).length cap4)) ∧ ∀ b, (Value.slice (some ⟨g4, 0, none⟩) (R ++ [nf]).length cap4).ownBlock = some b → w.heap.size ≤ b) := hfin; clear hfin; rw [show (R ++ [nf]).length = R.length + 1 by simp] at HFIN ⊢)
          all_goals go_wp2_with fail
          all_goals go_roundw
          all_goals first | exact ⟨k + 1, by omega, by go_num, _, by rw [HTK.out]; exact HFIN.out.1, HFIN.out.2.1, HFIN.out.2.2⟩ | (simp [intOf]; omega)
        · have hN : crN keep f = 0 := by unfold crN; rw [if_pos hlt]; omega
          rw [hN, Nat.add_zero] at hcr hcz
          have hmx : max keep 0 = 0 := by omega
          have hwadd : wrap64 (f.safe : Int) = (f.safe : Int) := by simp [wrap64]; omega
          have HE : Hid (nf = ⟨f.name, f.data.extract 0 f.safe, f.safe⟩) := by rw [HNF.out]; unfold crF; rw [hN]; rfl
          go_wp2_with fail
          have HT9 : Hid (Tch [] wr (wr.alloc (.cells #[.string f.name, .string (f.data.extract 0 f.safe), .int .i64 (f.safe : Int)] 83)) ∧ (wr.alloc (.cells #[.string f.name, .string (f.data.extract 0 f.safe), .int .i64 (f.safe : Int)] 83)).heap[wr.heap.size]? = some (.cells nf.arr 83 (0, 0))) := ⟨(Tch.refl _ _).alloc _, by rw [HE.out]; exact heap_alloc_new _ _⟩
          generalize wr.alloc (.cells #[.string f.name, .string (f.data.extract 0 f.safe), .int .i64 (f.safe : Int)] 83) = w9 at HT9
          have c9 : w9.cell? ⟨w.heap.size, 0, none⟩ = some (.slice a1 R.length cap1) := (HT9.out.1.cell HD.out.1.blk.lt (by simp)).trans HD.out.1.blk.c0
          have c9a : ∀ o, (w9.alloc o).cell? ⟨w.heap.size, 0, none⟩ = some (.slice a1 R.length cap1) := fun o => (World.cell?_of_block (Below.heap_alloc _ _ _ (Nat.lt_of_lt_of_le HD.out.1.blk.lt HT9.out.1.size))).trans c9
          have e0 : w9.cell? ⟨wr.heap.size, 0, none⟩ = some (.string nf.name) := (cell_of_row _ _ 0 _ 83 (0, 0) HT9.out.2).trans rfl
          have e1 : w9.cell? ⟨wr.heap.size, 1, none⟩ = some (.string nf.data) := (cell_of_row _ _ 1 _ 83 (0, 0) HT9.out.2).trans rfl
          have e2 : w9.cell? ⟨wr.heap.size, 2, none⟩ = some (.int .i64 (nf.safe : Nat)) := (cell_of_row _ _ 2 _ 83 (0, 0) HT9.out.2).trans rfl
          clear hq0
          go_region_law (refine step_file rfl (.tmp 54) (.tmp 56) 77 83 rfl Tryd.underlying77 info83 (.slice a1 R.length cap1) R (by simp [Act.eval, Act.put]) (HD.out.1.own.tch (S := []) ((HT9.out.1.drew).alloc _) (fun _ _ => by simp)) w9.heap.size nf (by simp [Act.eval, Act.put]) (heap_alloc_new _ _) HLN.out ?_; intro v' wa ho3 hg3 hb3; obtain ⟨g4, cap4, hv4, ca, za, hfin⟩ := grow_new HD.out.1 HD.out.2.1 HD.out.2.2 (Nat.le_refl _) HT9.out.1 _ v' wa ho3 hg3 (by simpa using hb3); subst hv4; clear ho3 hg3 hb3; have HFIN : Hid (Dsk (wa.setCell ⟨w.heap.size, 0, none⟩ (.slice (some ⟨g4, 0, none⟩) (R ++ [nf]).length cap4)) 79 83 w.heap.size (.slice (some ⟨g4, 0, none⟩) (R ++ [nf]).length cap4) ⟨R ++ [nf], -1, false⟩ ∧ Tch [] w (wa.setCell ⟨w.heap.size, 0, none⟩ (.slice (some ⟨g4, 0, none⟩) (R ++ [nf]).length cap4)) ∧ ∀ b, (Value.slice (some ⟨g4, 0, none⟩) (R ++ [nf]).length cap4).ownBlock = some b → w.heap.size ≤ b) := hfin; clear hfin; rw [show (R ++ [nf]).length = R.length + 1 by simp] at HFIN ⊢)
          all_goals go_wp2_with fail
          all_goals go_roundw
          all_goals first | exact ⟨k + 1, by omega, by go_num, _, by rw [HTK.out]; exact HFIN.out.1, HFIN.out.2.1, HFIN.out.2.2⟩ | (simp [intOf]; omega)
      · have hN : crN keep f = f.data.size - f.safe := by unfold crN; rw [if_neg hlt]
        have hwadd : wrap64 ((f.safe : Int) + ((f.data.size : Int) - (f.safe : Int))) = (f.data.size : Int) := by simp [wrap64]; omega
        have HE : Hid (nf = ⟨f.name, f.data, f.data.size⟩) := by
          show _ = _
          rw [HNF.out]
          unfold crF
          rw [hN, show f.safe + (f.data.size - f.safe) = f.data.size by omega]
          simp
        have hge : 0 ≤ (f.data.size : Int) - (f.safe : Int) := by omega
        go_wp2_with fail
        have HT9 : Hid (Tch [] wr (wr.alloc (.cells #[.string f.name, .string f.data, .int .i64 (f.data.size : Nat)] 83)) ∧ (wr.alloc (.cells #[.string f.name, .string f.data, .int .i64 (f.data.size : Nat)] 83)).heap[wr.heap.size]? = some (.cells nf.arr 83 (0, 0))) := ⟨(Tch.refl _ _).alloc _, by rw [HE.out]; exact heap_alloc_new _ _⟩
        generalize wr.alloc (.cells #[.string f.name, .string f.data, .int .i64 (f.data.size : Nat)] 83) = w9 at HT9
        have c9 : w9.cell? ⟨w.heap.size, 0, none⟩ = some (.slice a1 R.length cap1) := (HT9.out.1.cell HD.out.1.blk.lt (by simp)).trans HD.out.1.blk.c0
        have c9a : ∀ o, (w9.alloc o).cell? ⟨w.heap.size, 0, none⟩ = some (.slice a1 R.length cap1) := fun o => (World.cell?_of_block (Below.heap_alloc _ _ _ (Nat.lt_of_lt_of_le HD.out.1.blk.lt HT9.out.1.size))).trans c9
        have e0 : w9.cell? ⟨wr.heap.size, 0, none⟩ = some (.string nf.name) := (cell_of_row _ _ 0 _ 83 (0, 0) HT9.out.2).trans rfl
        have e1 : w9.cell? ⟨wr.heap.size, 1, none⟩ = some (.string nf.data) := (cell_of_row _ _ 1 _ 83 (0, 0) HT9.out.2).trans rfl
        have e2 : w9.cell? ⟨wr.heap.size, 2, none⟩ = some (.int .i64 (nf.safe : Nat)) := (cell_of_row _ _ 2 _ 83 (0, 0) HT9.out.2).trans rfl
        clear hq0
        go_region_law (refine step_file rfl (.tmp 54) (.tmp 56) 77 83 rfl Tryd.underlying77 info83 (.slice a1 R.length cap1) R (by simp [Act.eval, Act.put]) (HD.out.1.own.tch (S := []) ((HT9.out.1.drew).alloc _) (fun _ _ => by simp)) w9.heap.size nf (by simp [Act.eval, Act.put]) (heap_alloc_new _ _) HLN.out ?_; intro v' wa ho3 hg3 hb3; obtain ⟨g4, cap4, hv4, ca, za, hfin⟩ := grow_new HD.out.1 HD.out.2.1 HD.out.2.2 (Nat.le_refl _) HT9.out.1 _ v' wa ho3 hg3 (by simpa using hb3); subst hv4; clear ho3 hg3 hb3; have HFIN : Hid (Dsk (wa.setCell ⟨w.heap.size, 0, none⟩ (.slice (some ⟨g4, 0, none⟩) (R ++ [nf]).length cap4)) 79 83 w.heap.size (.slice (some ⟨g4, 0, none⟩) (R ++ [nf]).length cap4) ⟨R ++ [nf], -1, false⟩ ∧ Tch [] w (wa.setCell ⟨w.heap.size, 0, none⟩ (.slice (some ⟨g4, 0, none⟩) (R ++ [nf]).length cap4)) ∧ ∀ b, (Value.slice (some ⟨g4, 0, none⟩) (R ++ [nf]).length cap4).ownBlock = some b → w.heap.size ≤ b) := hfin; clear hfin; rw [show (R ++ [nf]).length = R.length + 1 by simp] at HFIN ⊢)
        all_goals go_wp2_with fail
        all_goals go_roundw
        all_goals first | exact ⟨k + 1, by omega, by go_num, _, by rw [HTK.out]; exact HFIN.out.1, HFIN.out.2.1, HFIN.out.2.2⟩ | (simp [intOf]; omega)
    · have hkl : ¬ ((k : Int) < (fs.length : Int)) := by omega
      rw [List.take_of_length_le (by omega)] at HD
      clear hD htch hnew
      go_wp2_with fail
      go_ret
      exact ⟨rfl, _, HD.out⟩
end Go.Proofs.YtbdobaapadlcjaaDoor.Dk
