/-
  THE WALK of the statement bytes (function 10), and Bytes (4).
-/
import Derived.Test.YtbdobaapadlcjaaDoorCheckW
import Derived.Test.YtbdobaapadlcjaaDoorRfA
import Derived.Test.YtbdobaapadlcjaaDoorRfH
import Derived.Test.YtbdobaapadlcjaaDoorRfK
import Derived.Test.YtbdobaapadlcjaaDoorRfO
import Derived.Test.YtbdobaapadlcjaaDoorRfQ
namespace Go.Proofs.YtbdobaapadlcjaaDoor.Ref
open Go.RowKit Go.Proofs.YtbdobaapadlcjaaDoor.Keep
set_option linter.unusedVariables false

/-- What Parse answers, in one form. -/
def pR (s : ByteArray) : Wp.Rq := if parseGood s = true then (endSt s).r else opR 0
def pL (s : ByteArray) : List ByteArray := if parseGood s = true then (endSt s).bs else []
def pE (s : ByteArray) : Int := if parseGood s = true then 0 else 1
theorem parse_one {s : ByteArray} {e : Ending} {w w' : World} (h : ParseOut s e w w') :
    ∃ x : Sl, e = .returned (.tuple #[.agg (cellsOf (pR s) x.v), .int .i64 (pE s)]) ∧ x.n = (pL s).length ∧ Strs w' x.a (pL s) := by
  rcases h with ⟨hg, x, rfl, hn, hs⟩ | ⟨hg, rfl⟩
  · refine ⟨x, ?_, ?_, ?_⟩
    · unfold pR pE; rw [if_pos hg, if_pos hg]
    · unfold pL; rw [if_pos hg]; exact hn
    · unfold pL; rw [if_pos hg]; exact hs.strs
  · refine ⟨⟨none, 0, 0⟩, ?_, ?_, ?_⟩
    · unfold pR pE; rw [if_neg (by rw [hg]; simp), if_neg (by rw [hg]; simp)]
    · unfold pL; rw [if_neg (by rw [hg]; simp)]; rfl
    · unfold pL; rw [if_neg (by rw [hg]; simp)]; intro j hj; cases hj
theorem pE_bound (s : ByteArray) : 0 ≤ pE s ∧ pE s ≤ 100 := by unfold pE; split <;> omega
theorem pL_bound (s : ByteArray) : (pL s).length ≤ 8796093022208 := by
  unfold pL
  split
  · have h1 : (endSt s).bs.length < 256 := runSt_bs s _
    omega
  · simp
theorem printE_bound (r : Wp.Rq) (x : Sl) (bs : List ByteArray) : 0 ≤ printE r x bs ∧ printE r x bs ≤ 100 := by unfold printE; split <;> omega
theorem printE_n (r : Wp.Rq) (x y : Sl) (bs : List ByteArray) (h : x.n = y.n) : printE r x bs = printE r y bs := by unfold printE; rw [rightW_n r x y _ h]
theorem printS_n (r : Wp.Rq) (x y : Sl) (bs : List ByteArray) (h : x.n = y.n) : printS r x bs = printS r y bs := by unfold printS; rw [rightW_n r x y _ h]

set_option maxRecDepth 100000 in
set_option maxHeartbeats 4000000 in
theorem bytes_law (B : Nat) (r : Wp.Rq) (xa : Option Addr) (xc : Nat) (bs : List ByteArray) (s : ByteArray) (w : World) (hw : Wf r) (hn : bs.length ≤ 8796093022208) (hbs : ∀ s ∈ bs, s.size ≤ maxLen) (hS : Strs w xa bs)
    (hs : s.size ≤ maxLen) (hT : Tab w) (hz : 0 < w.heap.size) (hL : Lays B w) (hBw : B ≤ w.heap.size) :
    Calls Tryd.prog 10 #[.string s, .agg (cellsOf r (.slice xa bs.length xc))] w fun e w' => e = .returned (.bool true) ∧ Below w.heap.size w w' := by
  have hinf := info37
  have HL : Hid (∀ W, Below w.heap.size w W → Lays B W ∧ B ≤ W.heap.size) := fun W hW => ⟨hL.below (hW.mono hBw), Nat.le_trans hBw hW.size⟩
  have HC : Hid (∀ W, Below w.heap.size w W → Calls Tryd.prog 7 #[.string s] W fun e w' => e = .returned (.int .u32 (Crc.crc s.data.toList : Nat)) ∧ w' = W) := fun W hW => wharf_check s W hs (hT.below hW hz)
  have HC2 : Hid (∀ W, Calls Tryd.prog 31 #[.string s] W fun e w' => e = .returned (.int .i64 (Crc.crc s.data.toList : Nat)) ∧ w' = W) := fun W => ref_check s W hs
  have hcl : Crc.crc s.data.toList < 4294967296 := by unfold Crc.crc; omega
  generalize Crc.crc s.data.toList = ck at HC HC2 hcl
  have HP : Hid (∀ W, Below w.heap.size w W → Calls Tryd.prog 14 #[.string s] W fun e w' => (∃ x : Sl, e = .returned (.tuple #[.agg (cellsOf (pR s) x.v), .int .i64 (pE s)]) ∧ x.n = (pL s).length ∧ Strs w' x.a (pL s)) ∧ Below W.heap.size W w') := fun W hW =>
    (wharf_parse B s W hs (HL.out W hW).1 (HL.out W hW).2).mono fun e w' h => ⟨parse_one h.1, h.2⟩
  have HP2 : Hid (∀ W, Calls Tryd.prog 32 #[.string s] W fun e w' => (∃ x : Sl, e = .returned (.tuple #[.agg (cellsOf (pR s) x.v), .int .i64 (pE s)]) ∧ x.n = (pL s).length ∧ Strs w' x.a (pL s)) ∧ Below W.heap.size W w') := fun W =>
    (parse_ref s W hs).mono fun e w' h => ⟨parse_one h.1, h.2⟩
  have hpE := pE_bound s
  have hpL := pL_bound s
  generalize pR s = R at HP HP2
  generalize pE s = E at HP HP2 hpE
  generalize pL s = L at HP HP2 hpL
  have HSB : Hid (∀ (x y : Sl) W, x.n = L.length → y.n = L.length → Strs W x.a L → Strs W y.a L → Calls Tryd.prog 33 #[.agg (cellsOf R x.v), .agg (cellsOf R y.v)] W fun e w' => e = .returned (.bool true) ∧ Below W.heap.size W w') := by
    intro x y W hx hy hX hY
    have h := same_bs R R x.a y.a x.c y.c L W hpL hX hY
    rw [(fieldsEq_iff R R).2 rfl, ← hx] at h
    rw [show y.v = .slice y.a x.n y.c by show Value.slice y.a y.n y.c = _; rw [hx, hy]]
    exact h
  have HHD : Hid (∀ W, Below w.heap.size w W → Calls Tryd.prog 34 #[.slice xa bs.length xc] W fun e w' => e = .returned (.tuple #[.slice (some ⟨W.heap.size, 0, none⟩) bs.length (bs.length + 1), .slice (some ⟨W.heap.size, 0, none⟩) (bs.length + 1) (bs.length + 1)]) ∧
      w'.heap[W.heap.size]? = some (.cells ((bs ++ [behind]).map Value.string).toArray 9 (0, 0)) ∧ Below W.heap.size W w') := fun W hW => handed_any xa xc bs W hn (hS.below hW)
  have HPR : Hid (∀ (g : Nat) W, Below w.heap.size w W → W.heap[g]? = some (.cells ((bs ++ [behind]).map Value.string).toArray 9 (0, 0)) → Calls Tryd.prog 12 #[.agg (cellsOf r (.slice (some ⟨g, 0, none⟩) bs.length (bs.length + 1)))] W fun e w' =>
      e = .returned (.tuple #[.string (printS r ⟨xa, bs.length, xc⟩ bs), .int .i64 (printE r ⟨xa, bs.length, xc⟩ bs)]) ∧ Below W.heap.size W w') := by
    intro g W hW hg
    have h := wharf_print B r ⟨some ⟨g, 0, none⟩, bs.length, bs.length + 1⟩ bs W rfl (by unfold maxLen; omega) (HL.out W hW).1 (HL.out W hW).2 (fun j hj => ⟨g, 0, rfl, by
      rw [Nat.zero_add]
      exact (cell_of_row W g j _ 9 (0, 0) hg).trans (by rw [List.getElem?_toArray, List.map_append, List.getElem?_append_left (by simpa using hj)]; simp [hj])⟩)
    rw [printS_n r ⟨some ⟨g, 0, none⟩, bs.length, bs.length + 1⟩ ⟨xa, bs.length, xc⟩ bs rfl, printE_n r ⟨some ⟨g, 0, none⟩, bs.length, bs.length + 1⟩ ⟨xa, bs.length, xc⟩ bs rfl] at h
    exact h
  have HPF : Hid (∀ W, Below w.heap.size w W → Calls Tryd.prog 35 #[.agg (cellsOf r (.slice xa bs.length xc))] W fun e w' => e = .returned (.tuple #[.string (printS r ⟨xa, bs.length, xc⟩ bs), .int .i64 (printE r ⟨xa, bs.length, xc⟩ bs)]) ∧ Below W.heap.size W w') :=
    fun W hW => print_ref r ⟨xa, bs.length, xc⟩ bs W hw rfl hn hbs (hS.below hW)
  have hPE := printE_bound r ⟨xa, bs.length, xc⟩ bs
  generalize printS r ⟨xa, bs.length, xc⟩ bs = PS at HPR HPF
  generalize printE r ⟨xa, bs.length, xc⟩ bs = PE at HPR HPF hPE
  have HST : Hid (∀ (g : Nat) W, Below w.heap.size w W → w.heap.size ≤ g → W.heap[g]? = some (.cells ((bs ++ [behind]).map Value.string).toArray 9 (0, 0)) → Calls Tryd.prog 36 #[.slice (some ⟨g, 0, none⟩) (bs.length + 1) (bs.length + 1), .slice xa bs.length xc] W fun e w' => e = .returned (.bool true) ∧ Below w.heap.size W w') := by
    intro g W hW hg hR
    refine still_any w.heap.size g xa xc bs W hn (hS.below hW) hg (fun j hj => ?_) hR
    obtain ⟨b, o, ha, hc⟩ := hS j hj
    exact ⟨b, o, ha, World.block_lt_of_cell? _ _ hc⟩
  clear hw hn hbs hS hs hT hz hL hBw hpL
  generalize hBH : ((bs ++ [behind]).map Value.string).toArray = BH at HHD HPR HST
  clear hBH
  generalize hbn : bs.length = bn at *
  generalize hXV : Value.slice xa bn xc = XV at *
  have HXO : Hid ((cellsOf r XV).all (·.oneCell') = true) := by
    show _ = _
    rw [← hXV]; exact cells_one r ⟨xa, bn, xc⟩
  go_enter Tryd.func10, Tryd.ntmps10
  go_wp2_with fail
  refine (HC.out _ ((Below.refl _ _).alloc (Nat.le_refl _) _)).mono ?_
  rintro e w1 ⟨rfl, rfl⟩
  go_wp2_with fail
  refine (HC2.out _).mono ?_
  rintro e w1 ⟨rfl, rfl⟩
  go_wp2_with fail
  refine (HP.out _ ((Below.refl _ _).alloc (Nat.le_refl _) _)).mono ?_
  rintro e w2 ⟨⟨x, rfl, hxn, hxs⟩, hb2⟩
  have HB2 : Hid (Below w.heap.size w w2) := ((Below.refl _ _).alloc (Nat.le_refl _) _).trans (hb2.mono (by simp))
  have HK2 : Hid (w2.heap[w.heap.size]? = some (.cells (cellsOf r XV) 37 (0, 0))) := by
    show _ = _
    rw [hb2.block _ (by simp)]; exact heap_alloc_new _ _
  have HX : Hid (x.n = L.length ∧ Strs w2 x.a L) := ⟨hxn, hxs⟩
  have HZ2 : Hid (w.heap.size < w2.heap.size) := Nat.lt_of_lt_of_le (by simp) hb2.size
  clear hb2 hxn hxs
  go_wp2_with (refine wpList_store_row rfl 37 _ _ rfl w2.heap.size (cellsOf R x.v) rfl rfl 37 _ (heap_alloc_new _ _) hinf rfl (cells_one _ _) ?_)
  have hl2 := laidIn_below w2 (cellsOf R x.v)
  have HB2b : Hid (Below w.heap.size w (laidIn w2 (cellsOf R x.v))) := HB2.out.trans (hl2.mono HB2.out.size)
  refine (HP2.out (laidIn w2 (cellsOf R x.v))).mono ?_
  rintro e w3 ⟨⟨y, rfl, hyn, hys⟩, hb3⟩
  rw [laidIn_size] at hb3
  have HB3 : Hid (Below w.heap.size w w3) := HB2b.out.trans (hb3.mono (by have := HB2.out.size; omega))
  have HK3 : Hid (w3.heap[w.heap.size]? = some (.cells (cellsOf r XV) 37 (0, 0))) := (hb3.block _ (by have := HZ2.out; omega)).trans ((hl2.block _ HZ2.out).trans HK2.out)
  have HKx3 : Hid (w3.heap[w2.heap.size]? = some (.cells (cellsOf R x.v) 37 (0, 0))) := (hb3.block _ (by omega)).trans (laidIn_heap _ _)
  have HX3 : Hid (Strs w3 x.a L) := (HX.out.2.below hl2).below (by rw [laidIn_size]; exact hb3)
  have HY : Hid (y.n = L.length ∧ Strs w3 y.a L) := ⟨hyn, hys⟩
  have HZ3 : Hid (w2.heap.size < w3.heap.size) := by
    show _ < _
    have h2 := hb3.size
    rw [laidIn_size] at h2
    omega
  clear hb3 hyn hys hl2
  have hl3 := laidIn_below w3 (cellsOf R y.v)
  have HKx3b : Hid ((laidIn w3 (cellsOf R y.v)).heap[w2.heap.size]? = some (.cells (cellsOf R x.v) 37 (0, 0))) := (hl3.block _ HZ3.out).trans HKx3.out
  have HK3b : Hid ((laidIn w3 (cellsOf R y.v)).heap[w.heap.size]? = some (.cells (cellsOf r XV) 37 (0, 0))) := (hl3.block _ (by have := HZ3.out; have := HZ2.out; omega)).trans HK3.out
  have HB3b : Hid (Below w.heap.size w (laidIn w3 (cellsOf R y.v))) := HB3.out.trans (hl3.mono HB3.out.size)
  have HS33 : Hid (Calls Tryd.prog 33 #[.agg (cellsOf R x.v), .agg (cellsOf R y.v)] (laidIn w3 (cellsOf R y.v)) fun e w' => e = .returned (.bool true) ∧ Below (w3.heap.size + 1) (laidIn w3 (cellsOf R y.v)) w') := by
    have h := HSB.out x y (laidIn w3 (cellsOf R y.v)) HX.out.1 HY.out.1 (HX3.out.below hl3) (HY.out.2.below hl3)
    rw [laidIn_size] at h
    exact h
  clear hl3
  go_wp2_with (first | (refine wpList_store_row rfl 37 _ _ rfl w3.heap.size (cellsOf R y.v) rfl rfl 37 _ (heap_alloc_new _ _) hinf rfl (cells_one _ _) ?_) | (refine wpList_load_row rfl 37 (.tmp 7) rfl w2.heap.size rfl 37 (cellsOf R x.v) (0, 0) _ HKx3b.out Tryd.underlying37 rfl hinf ?_) | (refine wpList_load_row rfl 37 (.tmp 9) rfl w3.heap.size rfl 37 (cellsOf R y.v) (0, 0) _ (laidIn_heap _ _) Tryd.underlying37 rfl hinf ?_))
  refine HS33.out.mono ?_
  rintro e w4 ⟨rfl, hb4⟩
  have HB4 : Hid (Below w.heap.size w w4) := HB3b.out.trans (hb4.mono (by have := HB3.out.size; omega))
  have hk4 : w4.heap[w.heap.size]? = some (.cells (cellsOf r XV) 37 (0, 0)) := (hb4.block _ (by have := HB3.out.size; omega)).trans HK3b.out
  have HK4 : Hid (w4.heap[w.heap.size]? = some (.cells (cellsOf r XV) 37 (0, 0))) := hk4
  have HZ4 : Hid (w.heap.size < w4.heap.size) := by
    show _ < _
    have h1 := HZ2.out
    have h2 := HZ3.out
    have h3 := hb4.size
    rw [laidIn_size] at h3
    omega
  have q14 : w4.cell? ⟨w.heap.size, 14, none⟩ = some XV := (cell_of_row _ w.heap.size 14 _ 37 (0, 0) hk4).trans rfl
  clear hb4 hk4 HSB HS33 HX HY HX3 HKx3 HKx3b HP HP2
  go_wp2_with fail
  refine (HHD.out w4 HB4.out).mono ?_
  rintro e w5 ⟨rfl, hbh, hb5⟩
  have HB5 : Hid (Below w.heap.size w w5) := HB4.out.trans (hb5.mono HB4.out.size)
  have HK5 : Hid (w5.heap[w.heap.size]? = some (.cells (cellsOf r XV) 37 (0, 0))) := (hb5.block _ HZ4.out).trans HK4.out
  have HH5 : Hid (w5.heap[w4.heap.size]? = some (.cells BH 9 (0, 0))) := hbh
  have HZ5 : Hid (w4.heap.size < w5.heap.size) := by
    show _ < _
    have h1 := Array.getElem?_eq_some_iff.1 hbh
    exact h1.1
  clear hb5 hbh q14
  have HK5b : Hid ((w5.alloc (.cells (cellsOf (opR 0) (Sl.v ⟨none, 0, 0⟩)) 37)).heap[w.heap.size]? = some (.cells (cellsOf r XV) 37 (0, 0))) := (Below.heap_alloc _ _ _ (by have := HZ4.out; have := HZ5.out; omega)).trans HK5.out
  have qt : ((w5.alloc (.cells #[.int .u8 0, .int .u8 0, .int .u8 0, .int .i64 0, .int .i64 0, .int .i64 0, .int .i64 0, .int .i64 0, .int .i64 0, .string ⟨#[]⟩, .string ⟨#[]⟩, .string ⟨#[]⟩, .string ⟨#[]⟩, .string ⟨#[]⟩, .slice none 0 0] 37)).setRow w5.heap.size (cellsOf r XV)).cell? ⟨w5.heap.size, 14, none⟩ = some XV := (cell_of_row _ w5.heap.size 14 _ 37 (0, 0) (laidIn_heap w5 (cellsOf r XV))).trans rfl
  have qf : ((w5.alloc (.cells #[.int .u8 0, .int .u8 0, .int .u8 0, .int .i64 0, .int .i64 0, .int .i64 0, .int .i64 0, .int .i64 0, .int .i64 0, .string ⟨#[]⟩, .string ⟨#[]⟩, .string ⟨#[]⟩, .string ⟨#[]⟩, .string ⟨#[]⟩, .slice none 0 0] 37)).setRow w5.heap.size (cellsOf r XV)).frozen? ⟨w5.heap.size, 14, none⟩ = false := frozen_of_row _ w5.heap.size 14 _ 37 (laidIn_heap w5 (cellsOf r XV))
  have HT5 : Hid (((laidIn w5 (cellsOf r XV)).setCell ⟨w5.heap.size, 14, none⟩ (.slice (some ⟨w4.heap.size, 0, none⟩) bn (bn + 1))).heap[w5.heap.size]? = some (.cells (cellsOf r (.slice (some ⟨w4.heap.size, 0, none⟩) bn (bn + 1))) 37 (0, 0))) := heap_setCell_same _ w5.heap.size 14 _ 37 _ (laidIn_heap w5 (cellsOf r XV))
  have hl5 := laidIn_below w5 (cellsOf r XV)
  have hs5 : Below w5.heap.size w5 ((laidIn w5 (cellsOf r XV)).setCell ⟨w5.heap.size, 14, none⟩ (.slice (some ⟨w4.heap.size, 0, none⟩) bn (bn + 1))) := hl5.setCell (Nat.le_refl _) _
  have HB6 : Hid (Below w.heap.size w ((laidIn w5 (cellsOf r XV)).setCell ⟨w5.heap.size, 14, none⟩ (.slice (some ⟨w4.heap.size, 0, none⟩) bn (bn + 1)))) := HB5.out.trans (hs5.mono HB5.out.size)
  have HK6 : Hid (((laidIn w5 (cellsOf r XV)).setCell ⟨w5.heap.size, 14, none⟩ (.slice (some ⟨w4.heap.size, 0, none⟩) bn (bn + 1))).heap[w.heap.size]? = some (.cells (cellsOf r XV) 37 (0, 0))) := (hs5.block _ (by have := HZ4.out; have := HZ5.out; omega)).trans HK5.out
  have HH6 : Hid (((laidIn w5 (cellsOf r XV)).setCell ⟨w5.heap.size, 14, none⟩ (.slice (some ⟨w4.heap.size, 0, none⟩) bn (bn + 1))).heap[w4.heap.size]? = some (.cells BH 9 (0, 0))) := (hs5.block _ HZ5.out).trans HH5.out
  have HZ6 : Hid (w5.heap.size < ((laidIn w5 (cellsOf r XV)).setCell ⟨w5.heap.size, 14, none⟩ (.slice (some ⟨w4.heap.size, 0, none⟩) bn (bn + 1))).heap.size) := by
    show _ < _
    rw [World.size_setCell, laidIn_size]; omega
  clear hl5 hs5
  go_wp2_with (first | (refine wpList_load_row rfl 37 (.tmp 3) rfl w.heap.size rfl 37 (cellsOf r XV) (0, 0) _ HK5.out Tryd.underlying37 rfl hinf ?_) | (refine wpList_load_row rfl 37 (.tmp 3) rfl w.heap.size rfl 37 (cellsOf r XV) (0, 0) _ HK5b.out Tryd.underlying37 rfl hinf ?_) | (refine wpList_store_row rfl 37 _ _ rfl w5.heap.size (cellsOf r XV) rfl rfl 37 _ (heap_alloc_new _ _) hinf rfl HXO.out ?_) | (refine wpList_load_row rfl 37 (.tmp 14) rfl w5.heap.size rfl 37 (cellsOf r (.slice (some ⟨w4.heap.size, 0, none⟩) bn (bn + 1))) (0, 0) _ HT5.out Tryd.underlying37 rfl hinf ?_))
  refine (HPR.out w4.heap.size ((laidIn w5 (cellsOf r XV)).setCell ⟨w5.heap.size, 14, none⟩ (.slice (some ⟨w4.heap.size, 0, none⟩) bn (bn + 1))) HB6.out HH6.out).mono ?_
  rintro e w7 ⟨rfl, hb7⟩
  have HB7 : Hid (Below w.heap.size w w7) := HB6.out.trans (hb7.mono HB6.out.size)
  have HK7 : Hid (w7.heap[w.heap.size]? = some (.cells (cellsOf r XV) 37 (0, 0))) := (hb7.block _ (by have := HZ4.out; have := HZ5.out; have := HZ6.out; omega)).trans HK6.out
  have HH7 : Hid (w7.heap[w4.heap.size]? = some (.cells BH 9 (0, 0))) := (hb7.block _ (by have := HZ5.out; have := HZ6.out; omega)).trans HH6.out
  have HZ7 : Hid (w5.heap.size < w7.heap.size) := Nat.lt_of_lt_of_le HZ6.out hb7.size
  clear hb7 qt qf
  go_wp2_with (refine wpList_load_row rfl 37 (.tmp 3) rfl w.heap.size rfl 37 (cellsOf r XV) (0, 0) _ HK7.out Tryd.underlying37 rfl hinf ?_)
  refine (HPF.out w7 HB7.out).mono ?_
  rintro e w8 ⟨rfl, hb8⟩
  have HB8 : Hid (Below w.heap.size w w8) := HB7.out.trans (hb8.mono HB7.out.size)
  have hk8 : w8.heap[w.heap.size]? = some (.cells (cellsOf r XV) 37 (0, 0)) := (hb8.block _ (by have := HZ4.out; have := HZ5.out; have := HZ7.out; omega)).trans HK7.out
  have HH8 : Hid (w8.heap[w4.heap.size]? = some (.cells BH 9 (0, 0))) := (hb8.block _ (by have := HZ5.out; have := HZ7.out; omega)).trans HH7.out
  have q14 : w8.cell? ⟨w.heap.size, 14, none⟩ = some XV := (cell_of_row _ w.heap.size 14 _ 37 (0, 0) hk8).trans rfl
  clear hb8 hk8
  go_wp2_with fail
  refine (HST.out w4.heap.size w8 HB8.out (Nat.le_of_lt HZ4.out) HH8.out).mono ?_
  rintro e w9 ⟨rfl, hb9⟩
  have HB9 : Hid (Below w.heap.size w w9) := HB8.out.trans hb9
  clear hb9 q14
  have hwc : wrap64 (ck : Int) = (ck : Int) := by simp [wrap64]; omega
  have hss : (PS.toList == PS.toList) = true := by simp
  go_wp2_with fail
  refine (num_law E _ hpE.1 hpE.2).mono ?_
  rintro e w10 ⟨rfl, rfl⟩
  go_wp2_with fail
  refine (num_law PE _ hPE.1 hPE.2).mono ?_
  rintro e w10 ⟨rfl, rfl⟩
  go_wp2_with fail
  go_ret
  exact ⟨rfl, HB9.out⟩
set_option maxRecDepth 100000 in
set_option maxHeartbeats 1000000 in
theorem Bytes_law (B : Nat) (r : Wp.Rq) (xa : Option Addr) (xc : Nat) (bs : List ByteArray) (s : ByteArray) (w : World) (hw : Wf r) (hn : bs.length ≤ 8796093022208) (hbs : ∀ s ∈ bs, s.size ≤ maxLen) (hS : Strs w xa bs)
    (hs : s.size ≤ maxLen) (hT : Tab w) (hz : 0 < w.heap.size) (hL : Lays B w) (hBw : B ≤ w.heap.size) :
    Calls Tryd.prog 4 #[.string s, .agg (cellsOf r (.slice xa bs.length xc))] w fun e w' => e = .returned (.bool true) ∧ Below w.heap.size w w' := by
  have hinf := info37
  have H : Hid (∀ W, Below w.heap.size w W → Calls Tryd.prog 10 #[.string s, .agg (cellsOf r (.slice xa bs.length xc))] W fun e w' => e = .returned (.bool true) ∧ Below W.heap.size W w') := fun W hW =>
    bytes_law B r xa xc bs s W hw hn hbs (hS.below hW) hs (hT.below hW hz) (Nat.lt_of_lt_of_le hz hW.size) (hL.below (hW.mono hBw)) (Nat.le_trans hBw hW.size)
  clear hw hn hbs hS hs hT hz hL hBw
  have HCS : Hid ((cellsOf r (.slice xa bs.length xc)).size = 15) := rfl
  generalize cellsOf r (.slice xa bs.length xc) = C at H HCS
  go_enter Tryd.func4, Tryd.ntmps4
  go_wp2_with (refine wpList_load_row rfl 37 _ rfl w.heap.size rfl 37 C (0, 0) _ (heap_alloc_new _ _) Tryd.underlying37 rfl (by rw [HCS.out]; exact hinf) ?_)
  refine (H.out _ ((Below.refl _ _).alloc (Nat.le_refl _) _)).mono ?_
  rintro e w1 ⟨rfl, hb1⟩
  have HB1 : Hid (Below w.heap.size w w1) := ((Below.refl _ _).alloc (Nat.le_refl _) _).trans (hb1.mono (by simp))
  clear hb1
  go_wp2_with fail
  go_ret
  exact ⟨rfl, HB1.out⟩
end Go.Proofs.YtbdobaapadlcjaaDoor.Ref
