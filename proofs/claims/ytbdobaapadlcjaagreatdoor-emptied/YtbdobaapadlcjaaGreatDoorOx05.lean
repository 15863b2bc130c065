import Derived.Test.YtbdobaapadlcjaaGreatDoorOx04
import Derived.Laws.IdiomStrings
namespace Go.Proofs.YtbdobaapadlcjaaGreatDoor
open Go.RowKit
set_option linter.unusedVariables false
set_option linter.unusedSimpArgs false
def encL (r : Wp.Rq) (bs : List ByteArray) (fs : List Nat) : List UInt8 := fs.flatMap (encF r bs)
theorem encL_snoc (r : Wp.Rq) (bs : List ByteArray) (fs : List Nat) (f : Nat) : encL r bs (fs ++ [f]) = encL r bs fs ++ encF r bs f := by
  rw [encL, List.flatMap_append, List.flatMap_singleton]; rfl
theorem txtsB_short (bs : List ByteArray) (h : ∀ s ∈ bs, s.size ≤ 255) : (txtsB bs).length ≤ 256 * bs.length := by
  induction bs with
  | nil => simp [txtsB]
  | cons x r ih =>
    have h1 := ih (fun s hs => h s (List.mem_cons_of_mem _ hs))
    have h2 := h x List.mem_cons_self
    have e : txtsB (x :: r) = txtB x ++ txtsB r := by simp [txtsB]
    rw [e, List.length_append, txtB_length, List.length_cons]
    omega
theorem encF_length (r : Wp.Rq) (bs : List ByteArray) (f : Nat) (hf : f < 15) (h : r.fits bs.length (Wp.short bs) f = true) : (encF r bs f).length ≤ 2600 := by
  have hx : f = 0 ∨ f = 1 ∨ f = 2 ∨ f = 3 ∨ f = 4 ∨ f = 5 ∨ f = 6 ∨ f = 7 ∨ f = 8 ∨ f = 9 ∨ f = 10 ∨ f = 11 ∨ f = 12 ∨ f = 13 ∨ f = 14 := by omega
  rcases hx with rfl | rfl | rfl | rfl | rfl | rfl | rfl | rfl | rfl | rfl | rfl | rfl | rfl | rfl | rfl
  · show [_].length ≤ 2600; simp
  · show [_].length ≤ 2600; simp
  · show (lowB _ _).length ≤ 2600; rw [lowB_length]; omega
  · show (lowB _ _).length ≤ 2600; rw [lowB_length]; omega
  · show (lowB _ _).length ≤ 2600; rw [lowB_length]; omega
  · show (lowB _ _).length ≤ 2600; rw [lowB_length]; omega
  · show (lowB _ _).length ≤ 2600; rw [lowB_length]; omega
  · show (lowB _ _).length ≤ 2600; rw [lowB_length]; omega
  · show (lowB _ _).length ≤ 2600; rw [lowB_length]; omega
  · have hb : ((r.grp.size : Nat) : Int) ≤ 8 := (fits_bounds r bs 9 (by decide) h).2
    show (txtB r.grp).length ≤ 2600; rw [txtB_length]; omega
  · have hb : ((r.ded.size : Nat) : Int) ≤ 8 := (fits_bounds r bs 10 (by decide) h).2
    show (txtB r.ded).length ≤ 2600; rw [txtB_length]; omega
  · have hb : ((r.bod.size : Nat) : Int) ≤ 255 := (fits_bounds r bs 11 (by decide) h).2
    show (txtB r.bod).length ≤ 2600; rw [txtB_length]; omega
  · have hb : ((r.att.size : Nat) : Int) ≤ 8 := (fits_bounds r bs 12 (by decide) h).2
    show (txtB r.att).length ≤ 2600; rw [txtB_length]; omega
  · have hb : ((r.han.size : Nat) : Int) ≤ 255 := (fits_bounds r bs 13 (by decide) h).2
    show (txtB r.han).length ≤ 2600; rw [txtB_length]; omega
  · have hb : ((bs.length : Nat) : Int) ≤ 10 := (fits_bounds r bs 14 (by decide) h).2
    have hs := txtsB_short bs (fits_short r bs h)
    show (lowB _ _ ++ txtsB bs).length ≤ 2600
    rw [List.length_append, lowB_length]; omega
theorem encL_length (r : Wp.Rq) (bs : List ByteArray) (fs : List Nat) (hf : ∀ f ∈ fs, f < 15) (h : fs.all (r.fits bs.length (Wp.short bs)) = true) : (encL r bs fs).length ≤ 2600 * fs.length := by
  induction fs with
  | nil => simp [encL]
  | cons f fs ih =>
    rw [List.all_cons, Bool.and_eq_true] at h
    have h1 := ih (fun g hg => hf g (List.mem_cons_of_mem _ hg)) h.2
    have h2 := encF_length r bs f (hf f List.mem_cons_self) h.1
    have e : encL r bs (f :: fs) = encF r bs f ++ encL r bs fs := by simp [encL]
    rw [e, List.length_append, List.length_cons]
    omega
def printS (r : Wp.Rq) (x : Sl) (bs : List ByteArray) : ByteArray := if rightW r x (Wp.short bs) = true then ⟨(r.op :: encL r bs (Wp.lay (r.op.toNat - 65))).toArray⟩ else ⟨#[]⟩
def printE (r : Wp.Rq) (x : Sl) (bs : List ByteArray) : Int := if rightW r x (Wp.short bs) = true then 0 else 1
theorem OwnB.str {w : World} {base : Nat} {v : Value} {l : List UInt8} (h : OwnB w base v l) (hl : 0 < l.length) : (convert 74 9 v).run Tryz.prog w = .ok (.string ⟨l.toArray⟩) w := by
  have h' := h
  obtain ⟨h1, h2⟩ := h
  rcases h2 with ⟨_, h2⟩ | ⟨g, cap, cur, rfl, hg, hh, r⟩
  · omega
  · refine run_convert_bytes_back (P := Tryz.prog) w 74 9 5 ⟨g, 0, none⟩ cap l Tryz.underlying74 Tryz.underlying5 Tryz.underlying9 ?_
    intro j hj
    exact World.ownsRow.cells h' (g := g) rfl j _ (by simp [bytesV, hj])
theorem ret_print {s t : ByteArray} {a b : Int} (h1 : s = t) (h2 : a = b) : Ending.returned (.tuple #[.string s, .int .i64 a]) = .returned (.tuple #[.string t, .int .i64 b]) := by rw [h1, h2]
set_option maxHeartbeats 1000000 in
theorem print_no (B : Nat) (r : Wp.Rq) (x : Sl) (bs : List ByteArray) (w : World) (hno : rightW r x (Wp.short bs) = false) (hxn : x.n = bs.length) (hn : bs.length ≤ maxLen) (hL : Lays B w) (hBw : B ≤ w.heap.size) (hS : Strs w x.a bs) :
    Calls Tryz.prog 58 #[.agg (cellsOf r x.v)] w fun e w' => e = .returned (.tuple #[.string (printS r x bs), .int .i64 (printE r x bs)]) ∧ Below w.heap.size w w' := by
  have hp1 : Hid (printS r x bs = ⟨#[]⟩) := by show _ = _; rw [printS, hno]; rfl
  have hp2 : Hid (printE r x bs = 1) := by show _ = _; rw [printE, hno]; rfl
  have HR : Hid (∀ W, Below w.heap.size w W → Calls Tryz.prog 81 #[.agg (cellsOf r x.v)] W fun e w' => e = .returned (.bool false) ∧ Below W.heap.size W w') := by
    intro W hW
    have h := right_any B r x bs W hxn hn (hL.below (hW.mono hBw)) (by have := hW.size; omega) (hS.below hW)
    rwa [hno] at h
  clear hno hxn hL hS
  generalize hc : cellsOf r x.v = C at HR ⊢
  have HCS : Hid (C.size = 15) := by show _ = _; rw [← hc]; rfl
  have HCC : Hid (cellsOf r x.v = C) := hc
  clear hc
  go_enter Tryz.func58, Tryz.ntmps58
  go_wp2_with (refine wpList_load_row rfl 27 _ rfl w.heap.size rfl 27 C (0, 0) _ (heap_alloc_new _ _) Tryz.underlying27 rfl (by rw [HCS.out]; kernel_rfl) ?_)
  refine (HR.out _ ((Below.refl _ _).alloc (Nat.le_refl _) _)).mono ?_
  rintro e w1 ⟨rfl, hb1⟩
  go_wp2_with fail
  go_ret2
  exact ⟨ret_print hp1.out.symm hp2.out.symm, ((Below.refl _ _).alloc (Nat.le_refl _) _).trans (hb1.mono (by simp))⟩
set_option maxHeartbeats 1000000 in
theorem print_yes (B : Nat) (r : Wp.Rq) (x : Sl) (bs : List ByteArray) (w : World) (i : Nat) (hop : r.op.toNat = 65 + i) (hi : i < 26) (hyes : rightW r x (Wp.short bs) = true) (hxn : x.n = bs.length) (hn : bs.length ≤ maxLen) (hL : Lays B w) (hBw : B ≤ w.heap.size) (hS : Strs w x.a bs) :
    Calls Tryz.prog 58 #[.agg (cellsOf r x.v)] w fun e w' => e = .returned (.tuple #[.string (printS r x bs), .int .i64 (printE r x bs)]) ∧ Below w.heap.size w w' := by
  have hp1 : Hid (printS r x bs = ⟨(r.op :: encL r bs (Wp.lay i)).toArray⟩) := by show _ = _; rw [printS, hyes, hop, Nat.add_sub_cancel_left]; rfl
  have hp2 : Hid (printE r x bs = 0) := by show _ = _; rw [printE, hyes]; rfl
  have HR : Hid (∀ W, Below w.heap.size w W → Calls Tryz.prog 81 #[.agg (cellsOf r x.v)] W fun e w' => e = .returned (.bool true) ∧ Below W.heap.size W w') := by
    intro W hW
    have h := right_any B r x bs W hxn hn (hL.below (hW.mono hBw)) (by have := hW.size; omega) (hS.below hW)
    rwa [hyes] at h
  have hall : Hid ((Wp.lay i).all (r.fits bs.length (Wp.short bs)) = true) := by
    have h := hyes
    unfold rightW at h
    rw [hop, Nat.add_sub_cancel_left, Bool.and_eq_true, Bool.and_eq_true, hxn] at h
    exact h.2.1
  have hlen : (Wp.lay i).length < 100 := by
    have h1 : ∀ a : Fin 26, (Wp.lay a.val).length < 100 := by decide
    exact h1 ⟨i, hi⟩
  have HLT : Hid (∀ j, (Wp.lay i).getD j 0 < 15) := lay_lt i
  have HLM : Hid (∀ f ∈ Wp.lay i, f < 15) := by
    have h1 : ∀ a : Fin 26, ∀ x ∈ Wp.lay a.val, x < 15 := by decide
    exact h1 ⟨i, hi⟩
  obtain ⟨la, lcap, hlc, hlj⟩ := hL.2.2 i hi
  have HLJ : Hid (∀ j, j < (Wp.lay i).length → ∃ b o, la = some ⟨b, o, none⟩ ∧ b < B ∧ w.cell? ⟨b, o + j, none⟩ = some (.int .i64 ((Wp.lay i).getD j 0 : Nat))) := hlj
  have HLC : Hid (w.cell? ⟨0, i, none⟩ = some (.slice la (Wp.lay i).length lcap)) := hlc
  have HL : Hid (Lays B w) := hL
  have HS : Hid (Strs w x.a bs) := hS
  have HXN : Hid (x.n = bs.length) := hxn
  have hsz : 2 < w.heap.size := by have := hL.1; omega
  clear hyes hxn hL hS hlj hlc
  generalize hLL : Wp.lay i = L at *
  clear hLL
  have hopi : ((r.op.toNat : Nat) : Int) = 65 + (i : Int) := by omega
  have HOPI : Hid (((r.op.toNat : Nat) : Int) = 65 + (i : Int)) := hopi
  clear hopi
  generalize hc : cellsOf r x.v = C at HR ⊢
  have HCS : Hid (C.size = 15) := by show _ = _; rw [← hc]; rfl
  have HCC : Hid (cellsOf r x.v = C) := hc
  have HC0 : Hid (C[0]? = some (.int .u8 (65 + (i : Int)))) := by show _ = _; rw [← hc, ← HOPI.out]; rfl
  clear hc
  go_enter Tryz.func58, Tryz.ntmps58
  go_wp2_with (refine wpList_load_row rfl 27 _ rfl w.heap.size rfl 27 C (0, 0) _ (heap_alloc_new _ _) Tryz.underlying27 rfl (by rw [HCS.out]; kernel_rfl) ?_)
  refine (HR.out _ ((Below.refl _ _).alloc (Nat.le_refl _) _)).mono ?_
  rintro e w1 ⟨rfl, hb1⟩
  have hblk : w1.heap[w.heap.size]? = some (.cells C 27 (0, 0)) := (hb1.block w.heap.size (by simp)).trans (heap_alloc_new _ _)
  have HBK : Hid (w1.heap[w.heap.size]? = some (.cells C 27 (0, 0))) := hblk
  have hc0 : w1.cell? ⟨w.heap.size, 0, none⟩ = some (.int .u8 (65 + (i : Int))) := (cell_of_row w1 w.heap.size 0 C 27 (0, 0) hblk).trans HC0.out
  have hbw : Below w.heap.size w w1 := ((Below.refl _ _).alloc (Nat.le_refl _) _).trans (hb1.mono (by simp))
  have HBW : Hid (Below w.heap.size w w1) := hbw
  have hlc1 : w1.cell? ⟨0, i, none⟩ = some (.slice la L.length lcap) := (hbw.cell (p := ⟨0, i, none⟩) (show 0 < w.heap.size by omega)).trans HLC.out
  have hs1 : w.heap.size < w1.heap.size := by have := hb1.size; simp at this; omega
  have hs2 : 0 < w1.heap.size := by omega
  clear hblk hbw hb1
  go_wp2_with fail
  rw [Nat.add_sub_cancel_left]
  go_loopw [4, 19] (fun o v wr => ∃ k : Nat, k ≤ L.length ∧ v = .int .i64 k ∧ OwnB wr w1.heap.size o (r.op :: encL r bs (L.take k)) ∧ Below w1.heap.size w1 wr) (fun _ v _ => L.length - (intOf v).toNat)
  case atStart =>
    refine ⟨0, Nat.zero_le _, rfl, ?_, (Below.refl _ _).alloc (Nat.le_refl _) _⟩
    have hb : bytesV [r.op] = [.int .u8 (65 + (i : Int))] := by rw [← HOPI.out]; rfl
    show World.ownsRow _ _ 5 1 _ 1 (bytesV [r.op])
    rw [hb]
    exact ⟨rfl, .inr ⟨w1.heap.size, 1, #[.int .u8 (65 + (i : Int))], rfl, Nat.le_refl _, heap_alloc_new _ _, Nat.le_refl _, by decide, rfl, rfl⟩⟩
  case round =>
    obtain ⟨k, hk, rfl, ho, hbr⟩ := hrel
    have HBR : Hid (Below w1.heap.size w1 wr) := hbr
    have hszr := hbr.size
    have HO : Hid (OwnB wr w1.heap.size u4 (r.op :: encL r bs (L.take k))) := ho
    clear ho
    by_cases hlt : k < L.length
    · obtain ⟨lb, lo, rfl, hlb, hck⟩ := HLJ.out k hlt
      have hck' := (hbr.cell (p := ⟨lb, lo + k, none⟩) (show lb < w1.heap.size by omega)).trans ((HBW.out.cell (p := ⟨lb, lo + k, none⟩) (show lb < w.heap.size by omega)).trans hck)
      have hf := HLT.out k
      have htk : Hid (L.take (k + 1) = L.take k ++ [L.getD k 0]) := by
        show L.take (k + 1) = _
        rw [List.take_succ_eq_append_getElem hlt, List.getD_eq_getElem?_getD, List.getElem?_eq_getElem hlt, Option.getD_some]
      have hfit : r.fits bs.length (Wp.short bs) (L.getD k 0) = true := by
        rw [List.getD_eq_getElem?_getD, List.getElem?_eq_getElem hlt, Option.getD_some]
        exact List.all_eq_true.1 hall.out _ (List.getElem_mem hlt)
      have hll : (r.op :: encL r bs (L.take k)).length ≤ 1048576 := by
        have h1 := encL_length r bs (L.take k) (fun f hf => HLM.out f (List.mem_of_mem_take hf)) (List.all_eq_true.2 fun f hf => List.all_eq_true.1 hall.out f (List.mem_of_mem_take hf))
        rw [List.length_take] at h1
        rw [List.length_cons]
        omega
      generalize L.getD k 0 = f at hck' hf htk hfit hck
      have hbox : Box wr w.heap.size r (.slice x.a bs.length x.c) := by
        rw [← HXN.out]
        intro j v hv
        have hb2 : wr.heap[w.heap.size]? = some (.cells (cellsOf r x.v) 27 (0, 0)) := by
          rw [HCC.out]; exact (hbr.block w.heap.size (by omega)).trans HBK.out
        exact (cell_of_row wr w.heap.size j _ 27 (0, 0) hb2).trans hv
      have hstr : ∀ j (h : j < bs.length), ∃ b o, x.a = some ⟨b, o, none⟩ ∧ b < w1.heap.size ∧ wr.cell? ⟨b, o + j, none⟩ = some (.string bs[j]) := by
        intro j hj
        obtain ⟨b, o, ha, hc⟩ := HS.out j hj
        have hlt2 := World.block_lt_of_cell? _ _ hc
        have hlt3 : b < w.heap.size := hlt2
        exact ⟨b, o, ha, by omega, (hbr.cell (p := ⟨b, o + j, none⟩) (show b < w1.heap.size by omega)).trans ((HBW.out.cell (p := ⟨b, o + j, none⟩) hlt3).trans hc)⟩
      have hap : Hid (Calls Tryz.prog 82 #[u4, .pointer (some ⟨w.heap.size, 0, none⟩), .int .i64 (f : Int)] wr fun e w' => ∃ v', e = .returned v' ∧ OwnB w' w1.heap.size v' (r.op :: encL r bs (L.take (k + 1))) ∧ Below w1.heap.size wr w') := by
        have h := appendField_any B w1.heap.size w.heap.size f u4 _ r x.a x.c bs wr hf hfit hll hszr hs1 (HL.out.below ((HBW.out.mono hBw).trans (hbr.mono (by omega)))) hbox HO.out hstr
        rw [htk.out, encL_snoc]
        exact h
      clear hbox hstr hfit hll hck htk hbr
      go_wp2_with fail
      refine (hap.out).mono ?_
      rintro e w2 ⟨v2, rfl, ho2, hb2⟩
      have HO2 : Hid (OwnB w2 w1.heap.size v2 (r.op :: encL r bs (L.take (k + 1)))) := ho2
      have HB2 : Hid (Below w1.heap.size w1 w2) := HBR.out.trans hb2
      clear ho2 hb2
      go_wp2_with fail
      go_roundw
      case rel => exact ⟨k + 1, by omega, by go_num, HO2.out, HB2.out⟩
      case measure => simp [intOf]; omega
    · have he : L.take k = L := List.take_of_length_le (by omega)
      have ho := HO.out
      rw [he] at ho
      have hcv := OwnB.str ho (by simp)
      have hbf : Hid (Below w.heap.size w wr) := HBW.out.trans (hbr.mono (by omega))
      clear he ho hbr
      go_wp2_with fail
      go_ret2
      exact ⟨ret_print hp1.out.symm hp2.out.symm, hbf.out⟩
theorem print_any (B : Nat) (r : Wp.Rq) (x : Sl) (bs : List ByteArray) (w : World) (hxn : x.n = bs.length) (hn : bs.length ≤ maxLen) (hL : Lays B w) (hBw : B ≤ w.heap.size) (hS : Strs w x.a bs) :
    Calls Tryz.prog 58 #[.agg (cellsOf r x.v)] w fun e w' => e = .returned (.tuple #[.string (printS r x bs), .int .i64 (printE r x bs)]) ∧ Below w.heap.size w w' := by
  cases h : rightW r x (Wp.short bs)
  · exact print_no B r x bs w h hxn hn hL hBw hS
  · have h1 := h
    unfold rightW at h1
    rw [Bool.and_eq_true] at h1
    have h2 := h1.1
    simp only [Wp.isOp, Bool.and_eq_true, decide_eq_true_eq] at h2
    exact print_yes B r x bs w (r.op.toNat - 65) (by omega) (by omega) h hxn hn hL hBw hS
set_option maxHeartbeats 1000000 in
theorem wharf_print (B : Nat) (r : Wp.Rq) (x : Sl) (bs : List ByteArray) (w : World) (hxn : x.n = bs.length) (hn : bs.length ≤ maxLen) (hL : Lays B w) (hBw : B ≤ w.heap.size) (hS : Strs w x.a bs) :
    Calls Tryz.prog 33 #[.agg (cellsOf r x.v)] w fun e w' => e = .returned (.tuple #[.string (printS r x bs), .int .i64 (printE r x bs)]) ∧ Below w.heap.size w w' := by
  have HP : Hid (∀ W, Below w.heap.size w W → Calls Tryz.prog 58 #[.agg (cellsOf r x.v)] W fun e w' => e = .returned (.tuple #[.string (printS r x bs), .int .i64 (printE r x bs)]) ∧ Below W.heap.size W w') := by
    intro W hW
    exact print_any B r x bs W hxn hn (hL.below (hW.mono hBw)) (by have := hW.size; omega) (hS.below hW)
  clear hxn hL hS
  generalize hc : cellsOf r x.v = C at HP ⊢
  have HCS : Hid (C.size = 15) := by show _ = _; rw [← hc]; rfl
  clear hc
  generalize printS r x bs = S at HP ⊢
  generalize printE r x bs = E at HP ⊢
  go_enter Tryz.func33, Tryz.ntmps33
  go_wp2_with (refine wpList_load_row rfl 27 _ rfl w.heap.size rfl 27 C (0, 0) _ (heap_alloc_new _ _) Tryz.underlying27 rfl (by rw [HCS.out]; kernel_rfl) ?_)
  refine (HP.out _ ((Below.refl _ _).alloc (Nat.le_refl _) _)).mono ?_
  rintro e w1 ⟨rfl, hb1⟩
  go_wp2_with fail
  go_ret2
  exact ⟨rfl, ((Below.refl _ _).alloc (Nat.le_refl _) _).trans (hb1.mono (by simp))⟩
end Go.Proofs.YtbdobaapadlcjaaGreatDoor
