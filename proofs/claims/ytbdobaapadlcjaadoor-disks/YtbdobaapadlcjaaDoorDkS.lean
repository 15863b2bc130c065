/-
  DISKS: told (30) whole; what the calls leave of a disk is within its bounds; act (8): a new pair.
-/
import Derived.Test.YtbdobaapadlcjaaDoorDkR
namespace Go.Proofs.YtbdobaapadlcjaaDoor.Dk
open Go.RowKit
set_option linter.unusedVariables false
set_option linter.unusedSimpArgs false

theorem told_any (B : Nat) (w : World) (s : Nat) (lv nv mv : Value) (c : Nat → Tag) (ps : List Pr) (ns : List Nm) (n k : Nat) (h : St B w s lv nv mv c ps ns n k) (i : Nat) (P : Pr) (hi : ps[i]? = some P) (K On A : Int) (N S : ByteArray) (hn : n ≤ 1048576) (hk : k ≤ 1099511627776) (hA : -9223372036854775808 ≤ A ∧ A ≤ 9223372036854775807) :
    Calls Tryd.prog 30 #[.pointer (some ⟨s, 0, none⟩), .agg (pcs P.p P.q), .agg (acs K On A N S)] w fun e w' => e = .returned (.bool true) ∧ Rest B w' s (n + 1) k ∧ Below B w w' := by
  by_cases h6 : K = 6
  · subst h6; exact told_6 B w s lv nv mv c ps ns n k h i P hi On A N S hn hA
  by_cases h7 : K = 7
  · subst h7; exact told_7 B w s lv nv mv c ps ns n k h i P hi On A N S hn hA
  by_cases h8 : K = 8
  · subst h8; exact told_8 B w s lv nv mv c ps ns n k h i P hi On A N S hn hA
  by_cases h9 : K = 9
  · subst h9; exact told_9 B w s lv nv mv c ps ns n k h i P hi On A N S hn hA
  by_cases h10 : K = 10
  · subst h10; exact told_10 B w s lv nv mv c ps ns n k h i P hi On A N S hn hk hA
  exact told_else B w s lv nv mv c ps ns n k h i P hi K On A N S h6 h7 h8 h9 h10 hn hA

theorem mem_onF {name : ByteArray} {F : DF → DF} {fs : List DF} {f : DF} (h : f ∈ onF name F fs) : f ∈ fs ∨ ∃ g ∈ fs, f = F g := by
  rcases fnd_cases name fs with ⟨h0, _⟩ | ⟨k, hk, h0⟩
  · rw [onF_none F h0] at h
    exact .inl h
  · rw [onF_some F h0 (List.getElem?_eq_getElem hk)] at h
    rcases List.mem_or_eq_of_mem_set h with h | h
    · exact .inl h
    · exact .inr ⟨_, List.getElem_mem _, h⟩
theorem onF_len (name : ByteArray) (F : DF → DF) (fs : List DF) : (onF name F fs).length = fs.length := by
  rcases fnd_cases name fs with ⟨h0, _⟩ | ⟨k, hk, h0⟩
  · rw [onF_none F h0]
  · rw [onF_some F h0 (List.getElem?_eq_getElem hk), List.length_set]
theorem stepL_range {left : Int} {st : Bool} (h : -9223372036854775808 ≤ left ∧ left ≤ 9223372036854775807) : -9223372036854775808 ≤ stepL left st ∧ stepL left st ≤ 9223372036854775807 := by
  unfold stepL
  split <;> omega
/-- A step's outcome is within the bounds, if what it does to the files is. -/
theorem good_step {D : DK} {n k n' k' : Nat} (h : Good D n k) (fs' : List DF) (hn : n ≤ n') (hk : k ≤ k') (h1 : fs'.length ≤ n') (h2 : ∀ f ∈ fs', f.safe ≤ f.data.size ∧ f.data.size ≤ k') : Good ⟨if stepOk D.left D.st = true then fs' else D.fs, stepL D.left D.st, stepS D.left D.st⟩ n' k' := by
  refine ⟨stepL_range h.left, ?_, ?_⟩
  · show (if _ then _ else _ : List DF).length ≤ _
    split
    · exact h1
    · have := h.fs; omega
  · intro f hf
    have hf' : f ∈ (if stepOk D.left D.st = true then fs' else D.fs) := hf
    split at hf'
    · exact h2 f hf'
    · have := h.sz f hf'; omega
theorem good_app {D : DK} {n k : Nat} (h : Good D n k) (N S : ByteArray) : Good ⟨if stepOk D.left D.st = true then appF N S D.fs else D.fs, stepL D.left D.st, stepS D.left D.st⟩ (n + 1) (k + S.size) := by
  refine good_step h _ (by omega) (by omega) ?_ ?_
  · have := h.fs
    unfold appF
    split
    · rw [List.length_append, List.length_singleton]; omega
    · rw [onF_len]; omega
  · intro f hf
    unfold appF at hf
    split at hf
    · rcases List.mem_append.1 hf with hf | hf
      · have := h.sz f hf; omega
      · simp at hf
        subst hf
        exact ⟨Nat.zero_le _, by show S.size ≤ _; omega⟩
    · rcases mem_onF hf with hf | ⟨g, hg, rfl⟩
      · have := h.sz f hf; omega
      · have := h.sz g hg
        show g.safe ≤ (g.data ++ S).size ∧ (g.data ++ S).size ≤ _
        rw [ByteArray.size_append]
        omega
theorem good_sync {D : DK} {n k : Nat} (h : Good D n k) (N : ByteArray) : Good ⟨if stepOk D.left D.st = true then syncF N D.fs else D.fs, stepL D.left D.st, stepS D.left D.st⟩ n k := by
  refine good_step h _ (Nat.le_refl _) (Nat.le_refl _) ?_ ?_
  · unfold syncF; rw [onF_len]; exact h.fs
  · intro f hf
    rcases mem_onF hf with hf | ⟨g, hg, rfl⟩
    · exact h.sz f hf
    · exact ⟨Nat.le_refl _, (h.sz g hg).2⟩
theorem remF_len (N : ByteArray) (fs : List DF) : (remF N fs).length ≤ fs.length := List.length_filter_le ..
theorem good_rem {D : DK} {n k : Nat} (h : Good D n k) (N : ByteArray) : Good ⟨if stepOk D.left D.st = true then remF N D.fs else D.fs, stepL D.left D.st, stepS D.left D.st⟩ n k :=
  good_step h _ (Nat.le_refl _) (Nat.le_refl _) (Nat.le_trans (remF_len _ _) h.fs) (fun f hf => h.sz f (List.mem_filter.1 hf).1)
theorem rem_drop {name : ByteArray} {fs : List DF} {k : Nat} (hk : k < fs.length) (h : isN name fs[k] = true) : (remF name fs).length + 1 ≤ fs.length := by
  induction fs generalizing k with
  | nil => cases hk
  | cons f fs ih =>
    cases k with
    | zero =>
      have h' : isN name f = true := h
      have := remF_len name fs
      unfold remF at this ⊢
      simp [h']
      omega
    | succ k =>
      have h2 := ih (k := k) (by simpa using hk) (by simpa using h)
      unfold remF at h2 ⊢
      cases hf : isN name f <;> simp [hf] <;> omega
theorem fnd_isN {name : ByteArray} {fs : List DF} {k : Nat} (hk : k < fs.length) (h : fnd name fs = (k : Int)) : isN name fs[k] = true := by
  unfold fnd at h
  cases hx : fs.findIdx? (isN name) with
  | none => rw [hx] at h; simp at h
  | some j =>
    rw [hx] at h
    have h' : (j : Int) = (k : Int) := h
    have e : j = k := by omega
    subst e
    exact (List.findIdx?_eq_some_iff_getElem.1 hx).2.1
theorem good_ren {D : DK} {n k : Nat} (h : Good D n k) (N S : ByteArray) : Good ⟨if stepOk D.left D.st = true then renF N S D.fs else D.fs, stepL D.left D.st, stepS D.left D.st⟩ n k := by
  have key : (renF N S D.fs).length ≤ n ∧ ∀ f ∈ renF N S D.fs, f.safe ≤ f.data.size ∧ f.data.size ≤ k := by
    rcases fnd_cases N D.fs with ⟨h0, _⟩ | ⟨j, hj, h0⟩
    · rw [renF_none h0]; exact ⟨h.fs, h.sz⟩
    · cases hs : (N.toList == S.toList) with
      | true => rw [renF_same hs]; exact ⟨h.fs, h.sz⟩
      | false =>
        rw [renF_some h0 (List.getElem?_eq_getElem hj) hs]
        refine ⟨?_, fun f hf => ?_⟩
        · have h1 := rem_drop hj (fnd_isN hj h0)
          have h2 := remF_len S (remF N D.fs)
          have h3 := h.fs
          rw [List.length_append, List.length_singleton]
          omega
        · rcases List.mem_append.1 hf with hf | hf
          · exact h.sz f (List.mem_filter.1 (List.mem_filter.1 hf).1).1
          · simp at hf
            subst hf
            exact h.sz D.fs[j] (List.getElem_mem _)
  exact good_step h _ (Nat.le_refl _) (Nat.le_refl _) key.1 key.2

set_option maxRecDepth 10000 in
set_option maxHeartbeats 2000000 in
theorem act_1 (B : Nat) (w : World) (s : Nat) (lv nv mv : Value) (c : Nat → Tag) (ps : List Pr) (ns : List Nm) (n k : Nat) (h : St B w s lv nv mv c ps ns n k) (On A : Int) (N S : ByteArray) (hn : n ≤ 1048576) :
    Calls Tryd.prog 8 #[.pointer (some ⟨s, 0, none⟩), .agg (acs 1 On A N S)] w fun e w' => e = .returned (.bool true) ∧ Rest B w' s (n + 1) k ∧ Below B w w' := by
  have hT : Tch [] w (w.alloc (.cells (acs 1 On A N S) 33)) := (Tch.refl [] w).alloc _
  have hzW : (w.alloc (.cells (acs 1 On A N S) 33)).heap.size = w.heap.size + 1 := by simp
  have HW : Hid (St B (w.alloc (.cells (acs 1 On A N S) 33)) s lv nv mv (paint c w.heap.size .O) ps ns n k ∧ Below B w (w.alloc (.cells (acs 1 On A N S) 33)) ∧ (w.alloc (.cells (acs 1 On A N S) 33)).heap.size = w.heap.size + 1) := ⟨h.keep hT .O, hT.below (fun x hx => by cases hx) h.hB, hzW⟩
  clear hT hzW h
  generalize paint c w.heap.size .O = c1 at HW
  unfold acs at *
  go_enter Tryd.func8, Tryd.ntmps8
  go_wp2_with fail
  refine (new_d _).mono ?_
  rintro e w1 ⟨rfl, hw1⟩
  rw [HW.out.2.2]
  have ht1 : Tch [] (w.alloc (.cells #[.int .i64 1, .int .i64 On, .int .i64 A, .string N, .string S] 33)) w1 := by rw [hw1]; exact (Tch.refl _ _).alloc _
  have hd1 : Dsk w1 76 81 (w.heap.size + 1) (.slice none 0 0) ⟨[], -1, false⟩ := by
    refine ⟨?_, Own.nil _ _, by simp [Value.ownBlock]⟩
    rw [hw1, ← HW.out.2.2]
    exact heap_alloc_new _ _
  have H1 : Hid (Tch [] (w.alloc (.cells #[.int .i64 1, .int .i64 On, .int .i64 A, .string N, .string S] 33)) w1 ∧ Dsk w1 76 81 (w.heap.size + 1) (.slice none 0 0) ⟨[], -1, false⟩) := ⟨ht1, hd1⟩
  clear hw1 ht1 hd1
  go_wp2_with fail
  refine (new_r _).mono ?_
  rintro e w2 ⟨rfl, hw2⟩
  have ht2 : Tch [] w1 w2 := by rw [hw2]; exact (Tch.refl _ _).alloc _
  have hd2 : Dsk w2 79 83 w1.heap.size (.slice none 0 0) ⟨[], -1, false⟩ := by
    refine ⟨?_, Own.nil _ _, by simp [Value.ownBlock]⟩
    rw [hw2]
    exact heap_alloc_new _ _
  have hst := (HW.out.1.keep H1.out.1 (.D ps.length)).keep ht2 (.R ps.length)
  rw [HW.out.2.2] at hst
  have hcd : ∀ b ∈ bl (w.heap.size + 1) (.slice none 0 0), paint (paint c1 (w.heap.size + 1) (.D ps.length)) w1.heap.size (.R ps.length) b = .D ps.length := fun b hb => by
    rw [paint_old (H1.out.2.lt b hb)]
    refine paint_new ?_
    simp [bl, Value.ownBlock] at hb
    omega
  have hcr : ∀ b ∈ bl w1.heap.size (.slice none 0 0), paint (paint c1 (w.heap.size + 1) (.D ps.length)) w1.heap.size (.R ps.length) b = .R ps.length := fun b hb => by
    refine paint_new ?_
    simp [bl, Value.ownBlock] at hb
    omega
  have H2 : Hid (St B w2 s lv nv mv (paint (paint c1 (w.heap.size + 1) (.D ps.length)) w1.heap.size (.R ps.length)) ps ns n k ∧ (Dsk w2 76 81 (w.heap.size + 1) (.slice none 0 0) ⟨[], -1, false⟩ ∧ ∀ b ∈ bl (w.heap.size + 1) (.slice none 0 0), paint (paint c1 (w.heap.size + 1) (.D ps.length)) w1.heap.size (.R ps.length) b = .D ps.length) ∧
    (Dsk w2 79 83 w1.heap.size (.slice none 0 0) ⟨[], -1, false⟩ ∧ ∀ b ∈ bl w1.heap.size (.slice none 0 0), paint (paint c1 (w.heap.size + 1) (.D ps.length)) w1.heap.size (.R ps.length) b = .R ps.length) ∧ Below B w w2) :=
    ⟨hst, ⟨H1.out.2.tch ht2 (fun _ _ => by simp), hcd⟩, ⟨hd2, hcr⟩, (HW.out.2.1.trans (H1.out.1.below (fun x hx => by cases hx) HW.out.1.hB)).trans (ht2.below (fun x hx => by cases hx) (Nat.le_trans HW.out.1.hB H1.out.1.size))⟩
  generalize paint (paint c1 (w.heap.size + 1) (.D ps.length)) w1.heap.size (.R ps.length) = c2 at H2
  obtain ⟨q0, _, _, _⟩ := hst.sh.sblk
  obtain ⟨al, cl, hlv⟩ : ∃ al cl, lv = .slice al ps.length cl := by
    rcases hst.sh.l.2 with ⟨rfl, h0⟩ | ⟨g, cap, cur, rfl, _⟩
    · exact ⟨none, 0, by rw [h0]⟩
    · exact ⟨_, _, rfl⟩
  subst hlv
  have q0a : ∀ o, (w2.alloc o).cell? ⟨s, 0, none⟩ = some (.slice al ps.length cl) := fun o => (World.cell?_of_block (Below.heap_alloc _ _ _ hst.sh.lt)).trans q0
  have hpl := HW.out.1.pl
  have HG : Hid (Good ⟨[], -1, false⟩ (n + 1) k) := ⟨⟨by show (_ : Int) ≤ -1; decide, by show (-1 : Int) ≤ _; decide⟩, Nat.zero_le _, fun f hf => by cases hf⟩
  clear hd2 ht2 hst hcd hcr hw2
  go_wp2_with (at_builtin; refine wpList_vals _ rfl _ _ 26 56 rfl Tryd.underlying26 _ 2 16 info56 rfl (by decide) (by decide) (.slice al ps.length cl) ps.length (prow ps) rfl (owns_tch H2.out.1.sh.l ((Tch.refl [] _).alloc _) (fun _ _ => by simp)) w2.heap.size [.pointer (some ⟨w.heap.size + 1, 0, none⟩), .pointer (some ⟨w1.heap.size, 0, none⟩)] 1 rfl rfl (by decide) (heap_alloc_new _ _) (fun u hu => by
    simp only [List.mem_cons, List.not_mem_nil, or_false] at hu
    rcases hu with rfl | rfl <;> rfl) (by omega) ?_)
  intro lv' w3 ho3 hg3 hb3
  obtain ⟨q3, z3, ⟨g3, cap3, hv3⟩, hrest, hB3⟩ := H2.out.1.push ⟨w.heap.size + 1, .slice none 0 0, ⟨[], -1, false⟩, w1.heap.size, .slice none 0 0, ⟨[], -1, false⟩⟩ H2.out.2.1 H2.out.2.2.1 rfl HG.out ((Tch.refl [] _).alloc _) hg3 ho3 (by simpa using hb3)
  subst hv3
  have HFN : Hid (Rest B (w3.setCell ⟨s, 0, none⟩ (.slice (some ⟨g3, 0, none⟩) (ps.length + 1) cap3)) s (n + 1) k ∧ Below B w (w3.setCell ⟨s, 0, none⟩ (.slice (some ⟨g3, 0, none⟩) (ps.length + 1) cap3))) := ⟨hrest, H2.out.2.2.2.trans hB3⟩
  clear ho3 hg3 hb3 hrest hB3 q0 q0a
  go_wp2_with fail
  go_ret
  exact ⟨rfl, HFN.out⟩
end Go.Proofs.YtbdobaapadlcjaaDoor.Dk
