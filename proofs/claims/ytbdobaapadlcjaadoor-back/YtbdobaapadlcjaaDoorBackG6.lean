/-
  THE WALK of the statements' shaped (11), the Op B.
-/
import Derived.Test.YtbdobaapadlcjaaDoorBackG
namespace Go.Proofs.YtbdobaapadlcjaaDoor.Keep
open Go.RowKit
set_option linter.unusedVariables false

theorem addr_zero (n j : Nat) : (⟨n, 0, none⟩ : Addr).add j = ⟨n, j, none⟩ := by
  unfold Addr.add
  split
  · next h => rw [h]
  · rw [Nat.zero_add]
/-- A slice of strings of the call's own. -/
def OwnS (w : World) (base : Nat) (v : Value) (l : List ByteArray) : Prop := w.ownsRow base 9 1 v l.length (l.map Value.string)
theorem OwnS.form {w : World} {base : Nat} {v : Value} {l : List ByteArray} (h : OwnS w base v l) : ∃ a c, v = .slice a l.length c := by
  obtain ⟨h1, h2 | ⟨g, cap, cur, h2, _⟩⟩ := h
  · exact ⟨none, 0, by rw [h2.1, h2.2]⟩
  · exact ⟨_, _, h2⟩
theorem OwnS.strs {w : World} {base : Nat} {a : Option Addr} {n c : Nat} {l : List ByteArray} (h : OwnS w base (.slice a n c) l) : FStrs base w a l := by
  intro j hj
  have h' := h
  obtain ⟨h1, h2 | ⟨g, cap, cur, h2, hg, hh, _⟩⟩ := h
  · omega
  · injection h2 with e1 e2 e3
    subst e1
    refine ⟨g, 0, rfl, hg, ?_⟩
    have hc := World.ownsRow.cells h' (g := g) rfl j (.string l[j]) (by simp [hj])
    rw [addr_zero] at hc
    rw [Nat.zero_add]
    exact hc
theorem OwnS.snoc {w : World} {base : Nat} {v : Value} {l : List ByteArray} {x : ByteArray} (h : w.ownsRow base 9 1 v (l.length + 1) (l.map Value.string ++ [.string x])) : OwnS w base v (l ++ [x]) := by
  unfold OwnS
  rw [List.length_append, List.map_append]
  exact h

theorem sh_all (bs : List ByteArray) : ∀ s ∈ bs.map (sh · 255), s.size ≤ 255 := by
  intro s hs
  obtain ⟨t, _, rfl⟩ := List.mem_map.1 hs
  exact sh_size t 255
theorem batch_right (a : Option Addr) (k c : Nat) (l : List ByteArray) (hk : k = l.length) (h1 : 1 ≤ k) (h2 : k ≤ 10) (hs : ∀ s ∈ l, s.size ≤ 255) : rightW (opR 66) ⟨a, k, c⟩ (Wp.short l) = true := by
  have hw : Wf (opR 66) := wf_small _ zz zz zz zz zz zz
  refine (right_iff _ _ _ hw).2 ⟨1, by decide, rfl, ?_, rfl, rfl⟩
  have hsh : Wp.short l = true := List.all_eq_true.2 fun s h => by simpa using hs s h
  show List.all [14] _ = true
  simp only [List.all_cons, List.all_nil, Bool.and_true]
  unfold Wp.Rq.fits
  have e1 : (opR 66).measure k 14 = (k : Int) := rfl
  have e2 : Wp.least 14 = 1 := rfl
  have e3 : Wp.most 14 = 10 := rfl
  show (if 14 = 1 ∧ (opR 66).d = 45 then true else if (opR 66).measure k 14 < Wp.least 14 then false else if Wp.most 14 < (opR 66).measure k 14 then false else if 14 = 1 then _ else if 14 = 10 then _ else if 14 = 14 then Wp.short l else true) = true
  rw [if_neg (fun e => by cases e.1), e1, e2, e3, if_neg (by omega), if_neg (by omega), if_neg (by decide), if_neg (by decide), if_pos rfl]
  exact hsh
theorem batch_end {w wr : World} {a : Option Addr} {k c : Nat} {l : List ByteArray} (h0 : w.heap.size + 1 < w.heap.size + 1 + 1 + 1) (hk : k = l.length) (h1 : 1 ≤ k) (h2 : k ≤ 10) (hs : ∀ s ∈ l, s.size ≤ 255) (hown : OwnS wr (w.heap.size + 1 + 1 + 1) (.slice a k c) l) (hb : Below w.heap.size w wr) :
    Shaped w (.returned (.agg (cellsOf (opR 66) (Sl.v ⟨a, k, c⟩)))) (wr.setRow (w.heap.size + 1) (cellsOf (opR 66) (Sl.v ⟨a, k, c⟩))) ∧ Below w.heap.size w (wr.setRow (w.heap.size + 1) (cellsOf (opR 66) (Sl.v ⟨a, k, c⟩))) := by
  refine ⟨⟨opR 66, ⟨a, k, c⟩, l, rfl, batch_right a k c l hk h1 h2 hs, wf_small _ zz zz zz zz zz zz, hk, by omega, fun j hj => ?_⟩, Go.Proofs.YtbdobaapadlcjaaDoor.below_setRow hb (by omega) _⟩
  obtain ⟨g, o, ha, hg, hc⟩ := hown.strs j hj
  have hne : g ≠ w.heap.size + 1 := by omega
  have e1 : (wr.setRow (w.heap.size + 1) (cellsOf (opR 66) (Sl.v ⟨a, k, c⟩))).heap[g]? = wr.heap[g]? := setRow_other _ _ g _ hne
  exact ⟨g, o, ha, by omega, (World.cell?_of_block (a := ⟨g, o + j, none⟩) e1).trans hc⟩

set_option maxRecDepth 100000 in
set_option maxHeartbeats 2000000 in
theorem shaped_9 (r : Wp.Rq) (xa : Option Addr) (xc : Nat) (bs : List ByteArray) (w : World) (hm : r.op.toNat % 10 = 9) (hn : bs.length ≤ maxLen) (hbs : ∀ s ∈ bs, s.size ≤ maxLen) (hS : Strs w xa bs) :
    Calls Tryd.prog 11 #[.agg (cellsOf r (.slice xa bs.length xc))] w fun e w' => Shaped w e w' ∧ Below w.heap.size w w' := by
  have hmi : ((r.op.toNat : Nat) : Int) % 10 = 9 := by omega
  have hch : (ByteArray.mk #[67, 88, 80, 83, 82, 65, 69, 84, 86, 66])[9].toNat = 66 := rfl
  have hinf := info37
  obtain ⟨i0, hi, hz0, hz1, hz2⟩ := info_parts info9
  unfold maxLen at hn
  have HS : Hid (Strs w xa bs) := hS
  have HBS : Hid (∀ s ∈ bs, s.size ≤ maxLen) := hbs
  clear hS hbs
  unfold cellsOf
  go_enter Tryd.func11, Tryd.ntmps11
  go_wp2_with fail
  refine (letter_any r.q _).mono ?_
  rintro e w' ⟨⟨d, rfl, hd1, hd2⟩, rfl⟩
  go_wp2_with fail
  go_loopw [5] (fun v wr => ∃ (k : Nat) (a : Option Addr) (c : Nat), k ≤ bs.length ∧ k ≤ 10 ∧ v = .int .i64 k ∧ OwnS wr (w.heap.size + 1 + 1 + 1) (.slice a k c) ((bs.take k).map (sh · 255)) ∧ Below w.heap.size w wr ∧ Blk wr w.heap.size r ⟨xa, bs.length, xc⟩ ∧ Blk wr (w.heap.size + 1) (opR 0) ⟨none, 0, 0⟩ ∧ Blk wr (w.heap.size + 1 + 1) (opR 66) ⟨a, k, c⟩ ∧ w.heap.size + 1 + 1 + 1 ≤ wr.heap.size) (fun v _ => 10 - (intOf v).toNat)
  case atStart =>
    refine ⟨0, none, 0, Nat.zero_le _, Nat.zero_le _, rfl, World.ownsRow_nil _ _ _ _, below3 _ _ _ _, ?_, ?_, ?_, by simp⟩
    · unfold Blk
      rw [Below.heap_alloc _ _ _ (by simp; omega), heap_alloc2_old]; rfl
    · exact heap3 _ _ _ _
    · unfold Blk
      have h := heap_alloc_new ((w.alloc (.cells (cellsOf r (.slice xa bs.length xc)) 37)).alloc (.cells (cellsOf (opR 0) (.slice none 0 0)) 37)) (.cells (cellsOf (opR 66) (Sl.v ⟨none, 0, 0⟩)) 37)
      rw [World.size_alloc, World.size_alloc] at h
      exact h
  case round =>
    obtain ⟨k, a, c, hk, hk10, rfl, hown, hbw, hbk0, hbk1, hbk2, hsw⟩ := hrel
    have HOWN : Hid (OwnS wr (w.heap.size + 1 + 1 + 1) (.slice a k c) ((bs.take k).map (sh · 255))) := hown
    have HBW : Hid (Below w.heap.size w wr) := hbw
    have HB0 : Hid (Blk wr w.heap.size r ⟨xa, bs.length, xc⟩) := hbk0
    have HB1 : Hid (Blk wr (w.heap.size + 1) (opR 0) ⟨none, 0, 0⟩) := hbk1
    have HB2 : Hid (Blk wr (w.heap.size + 1 + 1) (opR 66) ⟨a, k, c⟩) := hbk2
    have c0 : wr.cell? ⟨w.heap.size, 14, none⟩ = some (.slice xa bs.length xc) := hbk0.box 14 _ rfl
    have c2 : wr.cell? ⟨w.heap.size + 1 + 1, 14, none⟩ = some (.slice a k c) := hbk2.box 14 _ rfl
    have f2 := hbk2.frozen 14
    have hlk : ((bs.take k).map (sh · 255)).length = k := by rw [List.length_map, List.length_take]; omega
    have HLK : Hid (((bs.take k).map (sh · 255)).length = k) := hlk
    clear hown hbk0 hbk1 hbk2 hlk
    by_cases hgo : k < bs.length ∧ k < 10
    · obtain ⟨hlt, hlt10⟩ := hgo
      obtain ⟨g1, o1, rfl, hc1⟩ := HS.out k hlt
      have hg1 : g1 < w.heap.size := World.block_lt_of_cell? _ _ hc1
      have hd1 := (hbw.cell (p := ⟨g1, o1 + k, none⟩) hg1).trans hc1
      have htk : Hid ((bs.take (k + 1)).map (sh · 255) = (bs.take k).map (sh · 255) ++ [sh bs[k] 255]) := by
        show _ = _
        rw [List.take_succ_eq_append_getElem hlt, List.map_append]; rfl
      have hsz := HBS.out bs[k] (List.getElem_mem hlt)
      have hsh : Hid (∀ W, Calls Tryd.prog 41 #[.string bs[k], .int .i64 255] W fun e w' => e = .returned (.string (sh bs[k] 255)) ∧ w' = W) := fun W => short_any bs[k] 255 W hsz (by decide)
      generalize sh bs[k] 255 = T at hsh htk
      generalize bs[k] = S at hd1 hsh hc1 hsz
      generalize (bs.take k).map (sh · 255) = L at HOWN htk HLK
      have hLle : L.length ≤ 10 := by rw [HLK.out]; exact hk10
      have hown1 : OwnS wr (w.heap.size + 1 + 1 + 1) (.slice a k c) L := HOWN.out
      clear hbw hc1 hown1
      go_wp2_with fail
      refine (hsh.out _).mono ?_
      rintro e w2 ⟨rfl, rfl⟩
      go_wp2_with (at_builtin; refine wpList_append_own _ rfl _ _ 28 rfl (w.heap.size + 1 + 1 + 1) 9 i0 (.string ⟨#[]⟩) 1 16 Tryd.underlying28 hi hz0 hz1 hz2 rfl (by decide) _ _ _ rfl (World.ownsRow.alloc HOWN.out _) ⟨w2.heap.size, 0, none⟩ 1 1 [.string T] rfl rfl ?c1 ?c2 ?c3 ?c4 ?c5 ?_)
      case c1 => exact cell_one_new _ _ _
      case c2 => intro u hu; simp at hu; subst hu; rfl
      case c3 => unfold maxLen; omega
      case c4 => omega
      case c5 => simp; omega
      intro v' w3 hown' hgrow _
      have hown3 : OwnS w3 (w.heap.size + 1 + 1 + 1) v' (L ++ [T]) := OwnS.snoc hown'
      obtain ⟨a', c', hv'⟩ := hown3.form
      have hL1 : (L ++ [T]).length = k + 1 := by rw [List.length_append, HLK.out]; rfl
      rw [hL1] at hv'
      have hb3 : Below (w.heap.size + 1 + 1 + 1) w2 w3 := by
        refine Below.grown ((Below.refl _ _).alloc (by omega) _) hgrow (by simp; omega) ?_
        intro q hq
        exact (World.ownsRow.lt HOWN.out q hq).1
      rw [hv'] at hown3 ⊢
      rw [← htk.out] at hown3
      have hb2 : Blk w3 (w.heap.size + 1 + 1) (opR 66) ⟨a, k, c⟩ := by
        unfold Blk; rw [hb3.block _ (by omega)]; exact HB2.out
      have c3 : w3.cell? ⟨w.heap.size + 1 + 1, 14, none⟩ = some (.slice a k c) := hb2.box 14 _ rfl
      have f3 := hb2.frozen 14
      have HF : Hid (OwnS (w3.setCell ⟨w.heap.size + 1 + 1, 14, none⟩ (.slice a' (k + 1) c')) (w.heap.size + 1 + 1 + 1) (.slice a' (k + 1) c') ((bs.take (k + 1)).map (sh · 255)) ∧
          Below w.heap.size w (w3.setCell ⟨w.heap.size + 1 + 1, 14, none⟩ (.slice a' (k + 1) c')) ∧
          Blk (w3.setCell ⟨w.heap.size + 1 + 1, 14, none⟩ (.slice a' (k + 1) c')) w.heap.size r ⟨some ⟨g1, o1, none⟩, bs.length, xc⟩ ∧
          Blk (w3.setCell ⟨w.heap.size + 1 + 1, 14, none⟩ (.slice a' (k + 1) c')) (w.heap.size + 1) (opR 0) ⟨none, 0, 0⟩ ∧
          Blk (w3.setCell ⟨w.heap.size + 1 + 1, 14, none⟩ (.slice a' (k + 1) c')) (w.heap.size + 1 + 1) (opR 66) ⟨a', k + 1, c'⟩ ∧
          w.heap.size + 1 + 1 + 1 ≤ (w3.setCell ⟨w.heap.size + 1 + 1, 14, none⟩ (.slice a' (k + 1) c')).heap.size) := by
        refine ⟨ownsRow_setCell_below hown3 (by show w.heap.size + 1 + 1 < _; omega) _, (HBW.out.trans (hb3.mono (by omega))).setCell (by show _ ≤ w.heap.size + 1 + 1; omega) _, ?_, ?_, ?_, ?_⟩
        · unfold Blk
          rw [heap_setCell_other _ _ _ _ (by show w.heap.size ≠ w.heap.size + 1 + 1; omega), hb3.block _ (by omega)]; exact HB0.out
        · unfold Blk
          rw [heap_setCell_other _ _ _ _ (by show w.heap.size + 1 ≠ w.heap.size + 1 + 1; omega), hb3.block _ (by omega)]; exact HB1.out
        · exact heap_setCell_same w3 (w.heap.size + 1 + 1) 14 _ 37 _ hb2
        · rw [World.size_setCell]; have := hb3.size; omega
      clear hown' hgrow hown3 hb3 hb2 hL1 hv'
      go_wp2_with fail
      go_roundw
      case rel => exact ⟨k + 1, a', c', by omega, by omega, by go_num, HF.out.1, HF.out.2.1, HF.out.2.2.1, HF.out.2.2.2.1, HF.out.2.2.2.2.1, HF.out.2.2.2.2.2⟩
      case measure => simp [intOf]; omega
    · have hbeg : ¬ (k < bs.length ∧ k < 10) := hgo
      by_cases hz : k = 0
      · have hnil : Hid (bs.length = 0) := by show _ = _; omega
        subst hz
        have hbl : ¬ (0 < bs.length) := by omega
        have HL0 : Hid (((bs.take 0).map (sh · 255)) = []) := rfl
        have hown0 : OwnS wr (w.heap.size + 1 + 1 + 1) (.slice a 0 c) [] := HOWN.out
        have HOWN0 : Hid (OwnS wr (w.heap.size + 1 + 1 + 1) (.slice a 0 c) []) := hown0
        clear hbw hown0 hbeg hgo
        go_wp2_with (at_builtin; refine wpList_append_own _ rfl _ _ 28 rfl (w.heap.size + 1 + 1 + 1) 9 i0 (.string ⟨#[]⟩) 1 16 Tryd.underlying28 hi hz0 hz1 hz2 rfl (by decide) _ _ _ rfl (World.ownsRow.alloc HOWN0.out _) ⟨wr.heap.size, 0, none⟩ 1 1 [.string ⟨#[]⟩] rfl rfl ?c1 ?c2 ?c3 ?c4 ?c5 ?_)
        case c1 => exact cell_one_new _ _ _
        case c2 => intro u hu; simp at hu; subst hu; rfl
        case c3 => unfold maxLen; simp
        case c4 => simp
        case c5 => simp; omega
        intro v' w3 hown' hgrow _
        have hown3 : OwnS w3 (w.heap.size + 1 + 1 + 1) v' [⟨#[]⟩] := OwnS.snoc (l := []) hown'
        obtain ⟨a', c', hv'⟩ := hown3.form
        have hb3 : Below (w.heap.size + 1 + 1 + 1) wr w3 := by
          refine Below.grown ((Below.refl _ _).alloc (by omega) _) hgrow (by simp; omega) ?_
          intro q hq
          exact (World.ownsRow.lt HOWN0.out q hq).1
        have hv2 : v' = .slice a' 1 c' := hv'
        clear hv'
        rw [hv2] at hown3 ⊢
        have hb2 : Blk w3 (w.heap.size + 1 + 1) (opR 66) ⟨a, 0, c⟩ := by
          unfold Blk; rw [hb3.block _ (by omega)]; exact HB2.out
        have c3 : w3.cell? ⟨w.heap.size + 1 + 1, 14, none⟩ = some (.slice a 0 c) := hb2.box 14 _ rfl
        have f3 := hb2.frozen 14
        have HE1 : Hid ((w3.setCell ⟨w.heap.size + 1 + 1, 14, none⟩ (.slice a' 1 c')).heap[w.heap.size + 1]? = some (.cells (cellsOf (opR 0) (Sl.v ⟨none, 0, 0⟩)) 37 (0, 0))) := by
          show _ = _
          rw [heap_setCell_other _ _ _ _ (by show w.heap.size + 1 ≠ w.heap.size + 1 + 1; omega), hb3.block _ (by omega)]; exact HB1.out
        have HE2 : Hid ((w3.setCell ⟨w.heap.size + 1 + 1, 14, none⟩ (.slice a' 1 c')).heap[w.heap.size + 1 + 1]? = some (.cells (cellsOf (opR 66) (Sl.v ⟨a', 1, c'⟩)) 37 (0, 0))) := heap_setCell_same w3 (w.heap.size + 1 + 1) 14 _ 37 _ hb2
        have HE : Hid (Shaped w (.returned (.agg (cellsOf (opR 66) (Sl.v ⟨a', 1, c'⟩)))) ((w3.setCell ⟨w.heap.size + 1 + 1, 14, none⟩ (.slice a' 1 c')).setRow (w.heap.size + 1) (cellsOf (opR 66) (Sl.v ⟨a', 1, c'⟩))) ∧ Below w.heap.size w ((w3.setCell ⟨w.heap.size + 1 + 1, 14, none⟩ (.slice a' 1 c')).setRow (w.heap.size + 1) (cellsOf (opR 66) (Sl.v ⟨a', 1, c'⟩)))) :=
          batch_end (l := [⟨#[]⟩]) (by omega) rfl (by omega) (by omega) (by intro s hs; simp at hs; subst hs; decide) (ownsRow_setCell_below hown3 (by show w.heap.size + 1 + 1 < _; omega) _) ((HBW.out.trans (hb3.mono (by omega))).setCell (by show _ ≤ w.heap.size + 1 + 1; omega) _)
        clear hown' hgrow hown3 hb3 hb2 hv2
        go_wp2_with (first | (refine wpList_load_row rfl 37 _ rfl (w.heap.size + 1 + 1) rfl 37 _ (0, 0) _ HE2.out Tryd.underlying37 rfl hinf ?_) | (refine wpList_store_row rfl 37 _ _ rfl (w.heap.size + 1) _ rfl rfl 37 _ HE1.out hinf rfl (cells_one _ _) ?_))
        refine bodyPost_ret (results_cell_row (p := 2) rfl _ _ (w.heap.size + 1) 37 _ (0, 0) _ rfl (setRow_heap _ _ _ _ 37 (0, 0) HE1.out) Tryd.underlying37 rfl hinf) rfl HE.out
      · by_cases hend : k < bs.length
        · have hk0 : k = 10 := by omega
          have hkb : (((k : Nat) : Int) == 0) = false := beq_eq_false_iff_ne.2 (by omega)
          have hn10 : ¬ (k < 10) := by omega
          have HE1 : Hid (wr.heap[w.heap.size + 1]? = some (.cells (cellsOf (opR 0) (Sl.v ⟨none, 0, 0⟩)) 37 (0, 0))) := HB1.out
          have HE2 : Hid (wr.heap[w.heap.size + 1 + 1]? = some (.cells (cellsOf (opR 66) (Sl.v ⟨a, k, c⟩)) 37 (0, 0))) := HB2.out
          have HE : Hid (Shaped w (.returned (.agg (cellsOf (opR 66) (Sl.v ⟨a, k, c⟩)))) (wr.setRow (w.heap.size + 1) (cellsOf (opR 66) (Sl.v ⟨a, k, c⟩))) ∧ Below w.heap.size w (wr.setRow (w.heap.size + 1) (cellsOf (opR 66) (Sl.v ⟨a, k, c⟩)))) :=
            batch_end (by omega) HLK.out.symm (by omega) hk10 (sh_all _) HOWN.out HBW.out
          clear hbw hk0 hz hbeg hgo
          go_wp2_with (first | (refine wpList_load_row rfl 37 _ rfl (w.heap.size + 1 + 1) rfl 37 _ (0, 0) _ HE2.out Tryd.underlying37 rfl hinf ?_) | (refine wpList_store_row rfl 37 _ _ rfl (w.heap.size + 1) _ rfl rfl 37 _ HE1.out hinf rfl (cells_one _ _) ?_))
          refine bodyPost_ret (results_cell_row (p := 2) rfl _ _ (w.heap.size + 1) 37 _ (0, 0) _ rfl (setRow_heap _ _ _ _ 37 (0, 0) HE1.out) Tryd.underlying37 rfl hinf) rfl HE.out
        · have hkb : (((k : Nat) : Int) == 0) = false := beq_eq_false_iff_ne.2 (by omega)
          have HE1 : Hid (wr.heap[w.heap.size + 1]? = some (.cells (cellsOf (opR 0) (Sl.v ⟨none, 0, 0⟩)) 37 (0, 0))) := HB1.out
          have HE2 : Hid (wr.heap[w.heap.size + 1 + 1]? = some (.cells (cellsOf (opR 66) (Sl.v ⟨a, k, c⟩)) 37 (0, 0))) := HB2.out
          have HE : Hid (Shaped w (.returned (.agg (cellsOf (opR 66) (Sl.v ⟨a, k, c⟩)))) (wr.setRow (w.heap.size + 1) (cellsOf (opR 66) (Sl.v ⟨a, k, c⟩))) ∧ Below w.heap.size w (wr.setRow (w.heap.size + 1) (cellsOf (opR 66) (Sl.v ⟨a, k, c⟩)))) :=
            batch_end (by omega) HLK.out.symm (by omega) hk10 (sh_all _) HOWN.out HBW.out
          clear hbw hz hbeg hgo
          go_wp2_with (first | (refine wpList_load_row rfl 37 _ rfl (w.heap.size + 1 + 1) rfl 37 _ (0, 0) _ HE2.out Tryd.underlying37 rfl hinf ?_) | (refine wpList_store_row rfl 37 _ _ rfl (w.heap.size + 1) _ rfl rfl 37 _ HE1.out hinf rfl (cells_one _ _) ?_))
          refine bodyPost_ret (results_cell_row (p := 2) rfl _ _ (w.heap.size + 1) 37 _ (0, 0) _ rfl (setRow_heap _ _ _ _ 37 (0, 0) HE1.out) Tryd.underlying37 rfl hinf) rfl HE.out
end Go.Proofs.YtbdobaapadlcjaaDoor.Keep
