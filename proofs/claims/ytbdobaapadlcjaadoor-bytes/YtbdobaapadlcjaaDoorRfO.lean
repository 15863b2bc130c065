/-
  THE WALK of package wharfref's Parse (32): it answers what package wharf's Parse does.
-/
import Derived.Test.YtbdobaapadlcjaaDoorRfN
import Derived.Test.YtbdobaapadlcjaaDoorRfK
namespace Go.Proofs.YtbdobaapadlcjaaDoor.Ref
open Go.RowKit
set_option linter.unusedVariables false

/-- What Parse finds in what was guessed. -/
theorem guess_case (s : ByteArray) (r : Wp.Rq) (x : Sl) (bs : List ByteArray) (hw : Wf r) (hxn : x.n = bs.length) (hgd : parseGood s = true → r = (endSt s).r ∧ bs = (endSt s).bs) :
    (parseGood s = true ∧ r = (endSt s).r ∧ bs = (endSt s).bs ∧ printS r x bs = s ∧ printE r x bs = 0) ∨ (parseGood s = false ∧ (printE r x bs = 1 ∨ printE r x bs = 0 ∧ ((printS r x bs).toList != s.toList) = true)) := by
  cases hg : parseGood s with
  | true =>
    obtain ⟨h1, h2⟩ := hgd hg
    subst h1 h2
    have h3 := print_of_good s x hg hxn
    exact Or.inl ⟨rfl, rfl, rfl, h3.1, h3.2⟩
  | false =>
    refine Or.inr ⟨rfl, ?_⟩
    cases hr : rightW r x (Wp.short bs) with
    | false => exact Or.inl (print_none r x bs hr).2
    | true =>
      refine Or.inr ⟨(print_bytes r x bs hr).2, ?_⟩
      rw [bne_iff_ne]
      intro e
      have he : printS r x bs = s := str_eq.1 (by rw [e]; simp)
      have := (print_good r x bs hw hxn hr).1
      rw [he, hg] at this
      cases this
set_option maxRecDepth 100000 in
set_option maxHeartbeats 2000000 in
theorem parse_ref (s : ByteArray) (w : World) (hs : s.size ≤ maxLen) :
    Calls Tryd.prog 32 #[.string s] w fun e w' => ParseOut s e w w' ∧ Below w.heap.size w w' := by
  have hinf := info37
  have HG : Hid (∀ W, Calls Tryd.prog 61 #[.string s] W fun e w' => Guess s W e w' ∧ Below W.heap.size W w') := fun W => guessed_any s W hs
  clear hs
  go_enter Tryd.func32, Tryd.ntmps32
  go_wp2_with fail
  refine (HG.out _).mono ?_
  rintro e w1 ⟨⟨r, x, bs, rfl, hw, hxn, hbl, hbs, hfs, hgd⟩, hb1⟩
  have hrs : Blk w1 w.heap.size (opR 0) ⟨none, 0, 0⟩ := by
    unfold Blk
    rw [hb1.block w.heap.size (by simp), heap_alloc_new]
    rfl
  have hsz1 : w.heap.size < w1.heap.size := (Array.getElem?_eq_some_iff.1 hrs).1
  have HB1 : Hid (Below w.heap.size w w1) := ((Below.refl _ _).alloc (Nat.le_refl _) _).trans (hb1.mono (by simp))
  have HRS : Hid ((laidIn w1 (cellsOf r x.v)).heap[w.heap.size]? = some (.cells (cellsOf (opR 0) (Sl.v ⟨none, 0, 0⟩)) 37 (0, 0))) := ((laidIn_below w1 _).block _ hsz1).trans hrs
  have HFS : Hid (FStrs (w.heap.size + 1) w1 x.a bs) := by
    show FStrs _ _ _ _
    have h := hfs
    rw [World.size_alloc] at h
    exact h
  have HPR : Hid (∀ W, Below (w1.heap.size + 1) (laidIn w1 (cellsOf r x.v)) W → Calls Tryd.prog 35 #[.agg (cellsOf r x.v)] W fun e w' => e = .returned (.tuple #[.string (printS r x bs), .int .i64 (printE r x bs)]) ∧ Below W.heap.size W w') := fun W hW =>
    print_ref r x bs W hw hxn (by omega) (fun t ht => by have := hbs t ht; unfold maxLen; omega) ((HFS.out.strs.below (laidIn_below w1 (cellsOf r x.v))).below (by rw [laidIn_size]; exact hW))
  have HCASE : Hid ((parseGood s = true ∧ r = (endSt s).r ∧ bs = (endSt s).bs ∧ printS r x bs = s ∧ printE r x bs = 0) ∨ (parseGood s = false ∧ (printE r x bs = 1 ∨ printE r x bs = 0 ∧ ((printS r x bs).toList != s.toList) = true))) := guess_case s r x bs hw hxn hgd
  have HXN : Hid (x.n = bs.length) := hxn
  have HSZ : Hid (w.heap.size < w1.heap.size) := hsz1
  clear hw hxn hbl hbs hfs hgd hb1 hrs hsz1
  go_wp2_with (first | (refine wpList_store_row rfl 37 _ _ rfl w1.heap.size (cellsOf r x.v) rfl rfl 37 _ (heap_alloc_new _ _) hinf rfl (cells_one _ _) ?_) | (refine wpList_load_row rfl 37 _ rfl w1.heap.size rfl 37 (cellsOf r x.v) (0, 0) _ (laidIn_heap _ _) Tryd.underlying37 rfl hinf ?_))
  refine (HPR.out (laidIn w1 (cellsOf r x.v)) (Below.refl _ _)).mono ?_
  rintro e w2 ⟨rfl, hb2⟩
  rw [laidIn_size] at hb2
  have HB2 : Hid (Below w.heap.size w w2) := (HB1.out.trans ((laidIn_below w1 (cellsOf r x.v)).mono HB1.out.size)).trans (hb2.mono (by have := HB1.out.size; omega))
  have HRS2 : Hid (Blk w2 w.heap.size (opR 0) ⟨none, 0, 0⟩) := (hb2.block _ (by have := HSZ.out; omega)).trans HRS.out
  have HX2 : Hid (w2.heap[w1.heap.size]? = some (.cells (cellsOf r x.v) 37 (0, 0))) := (hb2.block _ (by omega)).trans (laidIn_heap _ _)
  have HF2 : Hid (∀ C, FStrs w.heap.size (w2.setRow w.heap.size C) x.a bs) := fun C j hj => by
    obtain ⟨b, o, ha, hbb, hc⟩ := HFS.out j hj
    have hbl : b < w1.heap.size := World.block_lt_of_cell? _ _ hc
    have e1 : (w2.setRow w.heap.size C).heap[b]? = w1.heap[b]? := (setRow_other _ _ b _ (by omega)).trans ((hb2.block b (by omega)).trans ((laidIn_below w1 _).block b hbl))
    exact ⟨b, o, ha, by omega, (World.cell?_of_block (a := ⟨b, o + j, none⟩) e1).trans hc⟩
  clear hb2
  rcases HCASE.out with ⟨hg, h1, h2, h3, h4⟩ | ⟨hg, h3 | ⟨h3, h4⟩⟩
  · rw [h3, h4]
    have hss : (s.toList != s.toList) = false := by simp
    have HO : Hid (parseGood s = true ∧ r = (endSt s).r ∧ bs = (endSt s).bs) := ⟨hg, h1, h2⟩
    clear HCASE h1 h2 h3 h4 hg
    go_wp2_with (first | (refine wpList_load_row rfl 37 _ rfl w1.heap.size rfl 37 (cellsOf r x.v) (0, 0) _ HX2.out Tryd.underlying37 rfl hinf ?_) | (refine wpList_store_row rfl 37 _ _ rfl w.heap.size _ rfl rfl 37 _ HRS2.out hinf rfl (cells_one _ _) ?_))
    refine bodyPost_ret (results_ct (p := 2) (q := 3) rfl _ _ w.heap.size 37 _ (0, 0) _ rfl (HRS2.out.row r x) Tryd.underlying37 rfl hinf) rfl ⟨Or.inl ⟨HO.out.1, x, ?_, ?_, ?_⟩, Go.Proofs.YtbdobaapadlcjaaDoor.below_setRow HB2.out (Nat.le_refl _) _⟩
    · rw [← HO.out.2.1]; rfl
    · rw [← HO.out.2.2]; exact HXN.out
    · rw [← HO.out.2.2]; exact HF2.out _
  · rw [h3]
    have HO : Hid (parseGood s = false) := hg
    generalize printS r x bs = T
    clear HCASE h3 hg
    go_wp2_with (refine wpList_store_row rfl 37 _ _ rfl w.heap.size (cellsOf (opR 0) (Sl.v ⟨none, 0, 0⟩)) rfl rfl 37 _ HRS2.out hinf rfl (cells_one _ _) ?_)
    exact bodyPost_ret (results_ct (p := 2) (q := 3) rfl _ _ w.heap.size 37 _ (0, 0) _ rfl (HRS2.out.row (opR 0) ⟨none, 0, 0⟩) Tryd.underlying37 rfl hinf) rfl ⟨Or.inr ⟨HO.out, rfl⟩, Go.Proofs.YtbdobaapadlcjaaDoor.below_setRow HB2.out (Nat.le_refl _) _⟩
  · rw [h3]
    have HO : Hid (parseGood s = false) := hg
    obtain ⟨T, HT⟩ : ∃ T, Hid (printS r x bs = T) := ⟨_, rfl⟩
    rw [HT.out] at h4 ⊢
    have h5 : ¬ T.toList = s.toList := bne_iff_ne.1 h4
    have h6 : (T.toList == s.toList) = false := beq_eq_false_iff_ne.2 h5
    clear HCASE h3 hg HPR
    go_wp2_with (refine wpList_store_row rfl 37 _ _ rfl w.heap.size (cellsOf (opR 0) (Sl.v ⟨none, 0, 0⟩)) rfl rfl 37 _ HRS2.out hinf rfl (cells_one _ _) ?_)
    exact bodyPost_ret (results_ct (p := 2) (q := 3) rfl _ _ w.heap.size 37 _ (0, 0) _ rfl (HRS2.out.row (opR 0) ⟨none, 0, 0⟩) Tryd.underlying37 rfl hinf) rfl ⟨Or.inr ⟨HO.out, rfl⟩, Go.Proofs.YtbdobaapadlcjaaDoor.below_setRow HB2.out (Nat.le_refl _) _⟩
end Go.Proofs.YtbdobaapadlcjaaDoor.Ref
