/-
  THE WALK of the statement Back (function 5).
-/
import Derived.Test.YtbdobaapadlcjaaDoorBackG1
import Derived.Test.YtbdobaapadlcjaaDoorBackG2
import Derived.Test.YtbdobaapadlcjaaDoorBackG3
import Derived.Test.YtbdobaapadlcjaaDoorBackG4
import Derived.Test.YtbdobaapadlcjaaDoorBackG5
import Derived.Test.YtbdobaapadlcjaaDoorBackG6
import Derived.Test.YtbdobaapadlcjaaDoorBackI
import Derived.Test.YtbdobaapadlcjaaDoorBackJ
import Derived.Test.YtbdobaapadlcjaaDoorBackK
namespace Go.Proofs.YtbdobaapadlcjaaDoor.Keep
open Go.RowKit
set_option linter.unusedVariables false

theorem shaped_any (r : Wp.Rq) (xa : Option Addr) (xc : Nat) (bs : List ByteArray) (w : World) (hw : Wf r) (hz : Szs r) (hn : bs.length ≤ maxLen) (hbs : ∀ s ∈ bs, s.size ≤ maxLen) (hS : Strs w xa bs) :
    Calls Tryd.prog 11 #[.agg (cellsOf r (.slice xa bs.length xc))] w fun e w' => Shaped w e w' ∧ Below w.heap.size w w' := by
  have hx : r.op.toNat % 10 = 0 ∨ r.op.toNat % 10 = 1 ∨ r.op.toNat % 10 = 2 ∨ r.op.toNat % 10 = 3 ∨ r.op.toNat % 10 = 4 ∨ r.op.toNat % 10 = 5 ∨ r.op.toNat % 10 = 6 ∨ r.op.toNat % 10 = 7 ∨ r.op.toNat % 10 = 8 ∨ r.op.toNat % 10 = 9 := by omega
  rcases hx with h | h | h | h | h | h | h | h | h | h
  · exact shaped_0 r ⟨xa, bs.length, xc⟩ w h hw hz
  · exact shaped_1 r ⟨xa, bs.length, xc⟩ w h hw hz
  · exact shaped_2 r ⟨xa, bs.length, xc⟩ w h hw hz
  · exact shaped_3 r ⟨xa, bs.length, xc⟩ w h hw hz
  · exact shaped_4 r ⟨xa, bs.length, xc⟩ w h hw hz
  · exact shaped_5 r ⟨xa, bs.length, xc⟩ w h hw hz
  · exact shaped_6 r ⟨xa, bs.length, xc⟩ w h hw hz
  · exact shaped_7 r ⟨xa, bs.length, xc⟩ w h hw hz
  · exact shaped_8 r ⟨xa, bs.length, xc⟩ w h hw hz
  · exact shaped_9 r xa xc bs w h hn hbs hS
/-- A request laid in a block of its own. -/
def laidIn (w : World) (C : Array Value) : World := (w.alloc (.cells (cellsOf (opR 0) (Sl.v ⟨none, 0, 0⟩)) 37)).setRow w.heap.size C
theorem laidIn_heap (w : World) (C : Array Value) : (laidIn w C).heap[w.heap.size]? = some (.cells C 37 (0, 0)) := setRow_heap _ _ _ _ 37 (0, 0) (heap_alloc_new _ _)
theorem laidIn_below (w : World) (C : Array Value) : Below w.heap.size w (laidIn w C) := Go.Proofs.YtbdobaapadlcjaaDoor.below_setRow ((Below.refl _ _).alloc (Nat.le_refl _) _) (Nat.le_refl _) _
theorem laidIn_size (w : World) (C : Array Value) : (laidIn w C).heap.size = w.heap.size + 1 := by simp [laidIn]

set_option maxRecDepth 100000 in
set_option maxHeartbeats 4000000 in
theorem back_law (B : Nat) (r0 : Wp.Rq) (xa : Option Addr) (xc : Nat) (bs0 : List ByteArray) (which : Int) (s : ByteArray) (w : World) (hw0 : Wf r0) (hz0 : Szs r0) (hn0 : bs0.length ≤ maxLen) (hbs0 : ∀ s ∈ bs0, s.size ≤ maxLen) (hS0 : Strs w xa bs0)
    (hp1 : -9223372036854775808 ≤ which) (hp2 : which ≤ 9223372036854775807) (hs : s.size ≤ maxLen) (hL : Lays B w) (hBw : B ≤ w.heap.size) :
    Calls Tryd.prog 5 #[.agg (cellsOf r0 (.slice xa bs0.length xc)), .int .i64 which, .string s] w fun e w' => e = .returned (.bool true) ∧ Below w.heap.size w w' := by
  have hinf := info37
  have HL : Hid (∀ W, Below w.heap.size w W → Lays B W ∧ B ≤ W.heap.size) := fun W hW => ⟨hL.below (hW.mono hBw), Nat.le_trans hBw hW.size⟩
  have HSH : Hid (∀ W, Below w.heap.size w W → Calls Tryd.prog 11 #[.agg (cellsOf r0 (.slice xa bs0.length xc))] W fun e w' => Shaped W e w' ∧ Below W.heap.size W w') :=
    fun W hW => shaped_any r0 xa xc bs0 W hw0 hz0 hn0 hbs0 (hS0.below hW)
  generalize hC : cellsOf r0 (.slice xa bs0.length xc) = C0 at HSH ⊢
  have HCS : Hid (C0.size = 15) := by show _ = _; rw [← hC]; rfl
  clear hC hw0 hz0 hn0 hbs0 hS0 hL
  go_enter Tryd.func5, Tryd.ntmps5
  go_wp2_with (refine wpList_load_row rfl 37 _ rfl w.heap.size rfl 37 C0 (0, 0) _ (heap_alloc_new _ _) Tryd.underlying37 rfl (by rw [HCS.out]; exact hinf) ?_)
  refine (HSH.out _ ((Below.refl _ _).alloc (Nat.le_refl _) _)).mono ?_
  rintro e w1 ⟨⟨r, x, bs, rfl, hright, hwf, hxn, hbl, hfs⟩, hb1⟩
  have HB1 : Hid (Below w.heap.size w w1) := ((Below.refl _ _).alloc (Nat.le_refl _) _).trans (hb1.mono (by simp))
  have HR : Hid (rightW r x (Wp.short bs) = true ∧ Wf r ∧ x.n = bs.length ∧ bs.length ≤ 10 ∧ Strs w1 x.a bs) := ⟨hright, hwf, hxn, hbl, hfs.strs⟩
  clear hright hwf hxn hbl hfs hb1
  go_wp2_with (first | (refine wpList_store_row rfl 37 _ _ rfl w1.heap.size (cellsOf r x.v) rfl rfl 37 _ (heap_alloc_new _ _) hinf rfl (cells_one _ _) ?_) | (refine wpList_load_row rfl 37 _ rfl w1.heap.size rfl 37 (cellsOf r x.v) (0, 0) _ (laidIn_heap _ _) Tryd.underlying37 rfl hinf ?_))
  refine (copied_any r x bs (laidIn w1 (cellsOf r x.v)) HR.out.2.2.1 (by have := HR.out.2.2.2.1; omega) (HR.out.2.2.2.2.below (laidIn_below _ _))).mono ?_
  rintro e w3 ⟨⟨y, rfl, hyn, hyf⟩, hb3⟩
  rw [laidIn_size] at hb3
  have HB3 : Hid (Below w.heap.size w w3) := (HB1.out.trans ((laidIn_below w1 (cellsOf r x.v)).mono HB1.out.size)).trans (hb3.mono (by have := HB1.out.size; omega))
  have HK3 : Hid (Blk w3 w1.heap.size r x) := by
    show Blk _ _ _ _
    unfold Blk
    rw [hb3.block w1.heap.size (by omega)]; exact laidIn_heap _ _
  have HS3 : Hid (w1.heap.size < w3.heap.size) := by
    show _ < _
    have := hb3.size; rw [laidIn_size] at this; omega
  have HX3 : Hid (Strs w3 x.a bs) := (HR.out.2.2.2.2.below (laidIn_below w1 (cellsOf r x.v))).below (by rw [laidIn_size]; exact hb3)
  have hry : rightW r y (Wp.short bs) = true := by rw [rightW_n r y x _ (by rw [hyn, HR.out.2.2.1])]; exact HR.out.1
  have HPR : Hid (∀ W, Below w3.heap.size w3 W → Calls Tryd.prog 12 #[.agg (cellsOf r y.v)] W fun e w' => e = .returned (.tuple #[.string (printS r y bs), .int .i64 0]) ∧ Below W.heap.size W w') := by
    intro W hW
    have hWw : Below w.heap.size w W := HB3.out.trans (hW.mono HB3.out.size)
    have h := wharf_print B r y bs W hyn (by have := HR.out.2.2.2.1; unfold maxLen; omega) (HL.out W hWw).1 (HL.out W hWw).2 (hyf.strs.below hW)
    rw [(print_bytes r y bs hry).2] at h
    exact h
  have HT : Hid (parseGood (printS r y bs) = true ∧ (endSt (printS r y bs)).r = r ∧ (endSt (printS r y bs)).bs = bs) := print_good r y bs HR.out.2.1 hyn hry
  have hts := print_size r y bs HR.out.2.1 hyn hry
  have HLESS : Hid (∀ (T : ByteArray) (c : UInt8), (printS r y bs).data.toList = T.data.toList ++ [c] → parseGood T = false) := fun T c h => less_bad r y bs HR.out.2.1 hyn hry T c h
  have HMORE : Hid (∀ (T : ByteArray), T.data.toList = (printS r y bs).data.toList ++ [0] → parseGood T = false) := fun T h => more_bad r y bs HR.out.2.1 hyn hry T h
  generalize printS r y bs = T at HPR HT hts HLESS HMORE
  clear hyn hyf hb3 hry
  go_wp2_with fail
  refine (HPR.out w3 (Below.refl _ _)).mono ?_
  rintro e w4 ⟨rfl, hb4⟩
  have HB4 : Hid (Below w.heap.size w w4) := HB3.out.trans (hb4.mono HB3.out.size)
  have HK4 : Hid (Blk w4 w1.heap.size r x) := by
    show Blk _ _ _ _
    unfold Blk
    rw [hb4.block w1.heap.size HS3.out]; exact HK3.out
  have HX4 : Hid (Strs w4 x.a bs) := HX3.out.below hb4
  have HS4 : Hid (w1.heap.size < w4.heap.size) := Nat.lt_of_lt_of_le HS3.out hb4.size
  have htm : T.size ≤ maxLen := by unfold maxLen; omega
  clear hb4
  go_wp2_with fail
  refine (wharf_parse B T w4 htm (HL.out w4 HB4.out).1 (HL.out w4 HB4.out).2).mono ?_
  rintro e w5 ⟨hpo, hb5⟩
  obtain ⟨x1, rfl, hx1n, hx1s⟩ : ∃ x1 : Sl, e = .returned (.tuple #[.agg (cellsOf r x1.v), .int .i64 0]) ∧ x1.n = bs.length ∧ Strs w5 x1.a bs := by
    rcases hpo with ⟨_, x1, he, hn, hst⟩ | ⟨hg, _⟩
    · rw [HT.out.2.1] at he
      rw [HT.out.2.2] at hn hst
      exact ⟨x1, he, hn, hst.strs⟩
    · rw [HT.out.1] at hg; cases hg
  have HB5 : Hid (Below w.heap.size w w5) := HB4.out.trans (hb5.mono HB4.out.size)
  have HK5 : Hid (Blk w5 w1.heap.size r x) := by
    show Blk _ _ _ _
    unfold Blk
    rw [hb5.block w1.heap.size HS4.out]; exact HK4.out
  have HX5 : Hid (Strs w5 x.a bs) := HX4.out.below hb5
  have HS5 : Hid (w1.heap.size < w5.heap.size) := Nat.lt_of_lt_of_le HS4.out hb5.size
  have HX1 : Hid (x1.n = bs.length ∧ Strs w5 x1.a bs) := ⟨hx1n, hx1s⟩
  clear hpo hb5 hx1n hx1s
  have HK5b : Hid ((laidIn w5 (cellsOf r x1.v)).heap[w1.heap.size]? = some (.cells (cellsOf r x.v) 37 (0, 0))) := ((laidIn_below w5 (cellsOf r x1.v)).block _ HS5.out).trans HK5.out
  go_wp2_with (first | (refine wpList_store_row rfl 37 _ _ rfl w5.heap.size (cellsOf r x1.v) rfl rfl 37 _ (heap_alloc_new _ _) hinf rfl (cells_one _ _) ?_) | (refine wpList_load_row rfl 37 (.tmp 10) rfl w5.heap.size rfl 37 (cellsOf r x1.v) (0, 0) _ (laidIn_heap _ _) Tryd.underlying37 rfl hinf ?_) | (refine wpList_load_row rfl 37 (.tmp 7) rfl w1.heap.size rfl 37 (cellsOf r x.v) (0, 0) _ HK5b.out Tryd.underlying37 rfl hinf ?_))
  have HSAME : Hid (Calls Tryd.prog 15 #[.agg (cellsOf r x1.v), .agg (cellsOf r x.v)] (laidIn w5 (cellsOf r x1.v)) fun e w' => e = .returned (.bool true) ∧ Below (w5.heap.size + 1) (laidIn w5 (cellsOf r x1.v)) w') := by
    have e1 : x1.v = .slice x1.a bs.length x1.c := by show Value.slice x1.a x1.n x1.c = _; rw [HX1.out.1]
    have e2 : x.v = .slice x.a bs.length x.c := by show Value.slice x.a x.n x.c = _; rw [HR.out.2.2.1]
    have h := same_yes r x1.a x.a x1.c x.c bs (laidIn w5 (cellsOf r x1.v)) (by have := HR.out.2.2.2.1; omega) (HX1.out.2.below (laidIn_below _ _)) (HX5.out.below (laidIn_below _ _))
    rw [laidIn_size, ← e1, ← e2] at h
    exact h
  have hte : T.toList.isEmpty = false := str_ne (by omega)
  refine (HSAME.out).mono ?_
  rintro e w6 ⟨rfl, hb6⟩
  have HB6 : Hid (Below w.heap.size w w6) := (HB5.out.trans ((laidIn_below w5 (cellsOf r x1.v)).mono HB5.out.size)).trans (hb6.mono (by have := HB5.out.size; omega))
  have HK6 : Hid (Blk w6 w1.heap.size r x) := by
    show Blk _ _ _ _
    unfold Blk
    rw [hb6.block w1.heap.size (by have := HS5.out; omega)]; exact HK5b.out
  have HX6 : Hid (Strs w6 x.a bs) := (HX5.out.below (laidIn_below w5 (cellsOf r x1.v))).below (by rw [laidIn_size]; exact hb6)
  have HS6 : Hid (w1.heap.size < w6.heap.size) := by
    show _ < _
    have h1 := HS5.out
    have h2 := hb6.size
    rw [laidIn_size] at h2
    omega
  clear hb6
  obtain ⟨m, hm⟩ : ∃ m, T.size = m + 1 := ⟨T.size - 1, by omega⟩
  have HG1 : Hid (parseGood (T.extract 0 m) = false ∧ (T.extract 0 m).size ≤ maxLen) := by
    have hl : T.data.toList.length = m + 1 := hm
    refine ⟨HLESS.out (T.extract 0 m) (T.data.toList[m]'(by omega)) ?_, by simp; omega⟩
    rw [Lib.extract_data, List.drop_zero, Nat.sub_zero, ← List.take_succ_eq_append_getElem (by omega), List.take_of_length_le (by omega)]
  have HG2 : Hid (parseGood (T ++ ⟨#[0]⟩) = false ∧ (T ++ ⟨#[0]⟩).size ≤ maxLen) := by
    refine ⟨HMORE.out _ (by simp [ByteArray.data_append]), ?_⟩
    rw [ByteArray.size_append]
    show T.size + 1 ≤ maxLen
    unfold maxLen; omega
  go_wp2_with fail
  refine (wharf_parse B _ w6 HG1.out.2 (HL.out w6 HB6.out).1 (HL.out w6 HB6.out).2).mono ?_
  rintro e w7 ⟨hpo, hb7⟩
  obtain rfl : e = .returned (.tuple #[.agg (cellsOf (opR 0) (Sl.v ⟨none, 0, 0⟩)), .int .i64 1]) := by
    rcases hpo with ⟨hg, _⟩ | ⟨_, he⟩
    · rw [HG1.out.1] at hg; cases hg
    · exact he
  have HB7 : Hid (Below w.heap.size w w7) := HB6.out.trans (hb7.mono HB6.out.size)
  have HK7 : Hid (Blk w7 w1.heap.size r x) := by
    show Blk _ _ _ _
    unfold Blk
    rw [hb7.block w1.heap.size HS6.out]; exact HK6.out
  have HX7 : Hid (Strs w7 x.a bs) := HX6.out.below hb7
  have HS7 : Hid (w1.heap.size < w7.heap.size) := Nat.lt_of_lt_of_le HS6.out hb7.size
  clear hpo hb7
  go_wp2_with (refine wpList_store_row rfl 37 _ _ rfl w7.heap.size (cellsOf (opR 0) (Sl.v ⟨none, 0, 0⟩)) rfl rfl 37 _ (heap_alloc_new _ _) hinf rfl (cells_one _ _) ?_)
  have hbl7 := laidIn_below w7 (cellsOf (opR 0) (Sl.v ⟨none, 0, 0⟩))
  have HB8 : Hid (Below w.heap.size w (laidIn w7 (cellsOf (opR 0) (Sl.v ⟨none, 0, 0⟩)))) := HB7.out.trans (hbl7.mono HB7.out.size)
  have HX8 : Hid (Strs (laidIn w7 (cellsOf (opR 0) (Sl.v ⟨none, 0, 0⟩))) x.a bs) := HX7.out.below hbl7
  have HK8 : Hid (Blk (laidIn w7 (cellsOf (opR 0) (Sl.v ⟨none, 0, 0⟩))) w1.heap.size r x) := (hbl7.block _ HS7.out).trans HK7.out
  clear hbl7
  refine (wharf_parse B _ (laidIn w7 (cellsOf (opR 0) (Sl.v ⟨none, 0, 0⟩))) HG2.out.2 (HL.out _ HB8.out).1 (HL.out _ HB8.out).2).mono ?_
  rintro e w9 ⟨hpo, hb9⟩
  rw [laidIn_size] at hb9
  obtain rfl : e = .returned (.tuple #[.agg (cellsOf (opR 0) (Sl.v ⟨none, 0, 0⟩)), .int .i64 1]) := by
    rcases hpo with ⟨hg, _⟩ | ⟨_, he⟩
    · rw [HG2.out.1] at hg; cases hg
    · exact he
  have HB9 : Hid (Below w.heap.size w w9) := HB8.out.trans (hb9.mono (by have := HB7.out.size; omega))
  have HS9 : Hid (w1.heap.size < w9.heap.size) := by
    show _ < _
    have h1 := HS7.out
    have h2 := hb9.size
    rw [laidIn_size] at h2
    omega
  have HK9 : Hid (Blk w9 w1.heap.size r x) := (hb9.block _ (by have := HS7.out; omega)).trans HK8.out
  have HX9 : Hid (Strs w9 x.a bs) := HX8.out.below (by rw [laidIn_size]; exact hb9)
  have HK9b : Hid ((laidIn w9 (cellsOf (opR 0) (Sl.v ⟨none, 0, 0⟩))).heap[w1.heap.size]? = some (.cells (cellsOf r x.v) 37 (0, 0))) := ((laidIn_below w9 (cellsOf (opR 0) (Sl.v ⟨none, 0, 0⟩))).block _ HS9.out).trans HK9.out
  clear hpo hb9
  go_wp2_with (first | (refine wpList_store_row rfl 37 _ _ rfl w9.heap.size (cellsOf (opR 0) (Sl.v ⟨none, 0, 0⟩)) rfl rfl 37 _ (heap_alloc_new _ _) hinf rfl (cells_one _ _) ?_) | (refine wpList_load_row rfl 37 (.tmp 7) rfl w1.heap.size rfl 37 (cellsOf r x.v) (0, 0) _ HK9b.out Tryd.underlying37 rfl hinf ?_))
  have HBa : Hid (Below w.heap.size w (laidIn w9 (cellsOf (opR 0) (Sl.v ⟨none, 0, 0⟩)))) := HB9.out.trans ((laidIn_below w9 (cellsOf (opR 0) (Sl.v ⟨none, 0, 0⟩))).mono HB9.out.size)
  refine (spoilt_any r x which bs (laidIn w9 (cellsOf (opR 0) (Sl.v ⟨none, 0, 0⟩))) HR.out.2.1 HR.out.2.2.1 (by have := HR.out.2.2.2.1; omega) (HX9.out.below (laidIn_below _ _)) hp1 hp2).mono ?_
  rintro e w10 ⟨⟨r2, x2, rfl, hno, hx2n, hx2f⟩, hb10⟩
  rw [laidIn_size] at hb10
  have HB10 : Hid (Below w.heap.size w w10) := HBa.out.trans (hb10.mono (by have := HB9.out.size; omega))
  have HP2 : Hid (Calls Tryd.prog 12 #[.agg (cellsOf r2 x2.v)] w10 fun e w' => e = .returned (.tuple #[.string ⟨#[]⟩, .int .i64 1]) ∧ Below w10.heap.size w10 w') := by
    have h := wharf_print B r2 x2 bs w10 hx2n (by have := HR.out.2.2.2.1; unfold maxLen; omega) (HL.out w10 HB10.out).1 (HL.out w10 HB10.out).2 hx2f.strs
    rw [(print_none r2 x2 bs hno).1, (print_none r2 x2 bs hno).2] at h
    exact h
  clear hno hx2n hx2f hb10
  go_wp2_with fail
  refine (HP2.out).mono ?_
  rintro e w11 ⟨rfl, hb11⟩
  have HB11 : Hid (Below w.heap.size w w11) := HB10.out.trans (hb11.mono HB10.out.size)
  clear hb11
  have hemp : (ByteArray.mk #[]).toList.isEmpty = true := str_em (by show ¬ 0 < 0; omega)
  go_wp2_with fail
  refine (wharf_parse B s w11 hs (HL.out w11 HB11.out).1 (HL.out w11 HB11.out).2).mono ?_
  rintro e w12 ⟨hpo, hb12⟩
  have HB12 : Hid (Below w.heap.size w w12) := HB11.out.trans (hb12.mono HB11.out.size)
  clear hb12
  rcases hpo with ⟨hg, x3, rfl, hn3, hs3⟩ | ⟨hg, rfl⟩
  · have HB13 : Hid (Below w.heap.size w (laidIn w12 (cellsOf (endSt s).r x3.v))) := HB12.out.trans ((laidIn_below w12 _).mono HB12.out.size)
    have HP3 : Hid (Calls Tryd.prog 12 #[.agg (cellsOf (endSt s).r x3.v)] (laidIn w12 (cellsOf (endSt s).r x3.v)) fun e w' => e = .returned (.tuple #[.string s, .int .i64 0]) ∧ Below (w12.heap.size + 1) (laidIn w12 (cellsOf (endSt s).r x3.v)) w') := by
      have hlen : (endSt s).bs.length ≤ maxLen := by
        have h1 : (endSt s).bs.length < 256 := runSt_bs s _
        unfold maxLen; omega
      have h := wharf_print B (endSt s).r x3 (endSt s).bs (laidIn w12 (cellsOf (endSt s).r x3.v)) hn3 hlen (HL.out _ HB13.out).1 (HL.out _ HB13.out).2 (hs3.strs.below (laidIn_below _ _))
      rw [(print_of_good s x3 hg hn3).1, (print_of_good s x3 hg hn3).2, laidIn_size] at h
      exact h
    clear hg hn3 hs3
    generalize (endSt s).r = r3 at HP3 HB13
    have hss : (s.toList == s.toList) = true := by simp
    go_wp2_with (first | (refine wpList_store_row rfl 37 _ _ rfl w12.heap.size (cellsOf r3 x3.v) rfl rfl 37 _ (heap_alloc_new _ _) hinf rfl (cells_one _ _) ?_) | (refine wpList_load_row rfl 37 (.tmp 19) rfl w12.heap.size rfl 37 (cellsOf r3 x3.v) (0, 0) _ (laidIn_heap _ _) Tryd.underlying37 rfl hinf ?_))
    refine (HP3.out).mono ?_
    rintro e w14 ⟨rfl, hb14⟩
    have HB14 : Hid (Below w.heap.size w w14) := HB13.out.trans (hb14.mono (by have := HB12.out.size; omega))
    clear hb14
    go_wp2_with fail
    go_ret
    exact ⟨ret_bool (by simp), HB14.out⟩
  · have q0 : ((w12.alloc (.cells #[.int .u8 0, .int .u8 0, .int .u8 0, .int .i64 0, .int .i64 0, .int .i64 0, .int .i64 0, .int .i64 0, .int .i64 0, .string ⟨#[]⟩, .string ⟨#[]⟩, .string ⟨#[]⟩, .string ⟨#[]⟩, .string ⟨#[]⟩, .slice none 0 0] 37)).setRow w12.heap.size (cellsOf (opR 0) (Sl.v ⟨none, 0, 0⟩))).cell? ⟨w12.heap.size, 0, none⟩ = some (.int .u8 0) := (cell_of_row _ w12.heap.size 0 _ 37 (0, 0) (laidIn_heap w12 (cellsOf (opR 0) (Sl.v ⟨none, 0, 0⟩)))).trans rfl
    have q14 : ((w12.alloc (.cells #[.int .u8 0, .int .u8 0, .int .u8 0, .int .i64 0, .int .i64 0, .int .i64 0, .int .i64 0, .int .i64 0, .int .i64 0, .string ⟨#[]⟩, .string ⟨#[]⟩, .string ⟨#[]⟩, .string ⟨#[]⟩, .string ⟨#[]⟩, .slice none 0 0] 37)).setRow w12.heap.size (cellsOf (opR 0) (Sl.v ⟨none, 0, 0⟩))).cell? ⟨w12.heap.size, 14, none⟩ = some (.slice none 0 0) := (cell_of_row _ w12.heap.size 14 _ 37 (0, 0) (laidIn_heap w12 (cellsOf (opR 0) (Sl.v ⟨none, 0, 0⟩)))).trans rfl
    have HB13 : Hid (Below w.heap.size w (laidIn w12 (cellsOf (opR 0) (Sl.v ⟨none, 0, 0⟩)))) := HB12.out.trans ((laidIn_below w12 _).mono HB12.out.size)
    clear hg
    go_wp2_with (refine wpList_store_row rfl 37 _ _ rfl w12.heap.size (cellsOf (opR 0) (Sl.v ⟨none, 0, 0⟩)) rfl rfl 37 _ (heap_alloc_new _ _) hinf rfl (cells_one _ _) ?_)
    go_ret
    exact ⟨rfl, HB13.out⟩
end Go.Proofs.YtbdobaapadlcjaaDoor.Keep
