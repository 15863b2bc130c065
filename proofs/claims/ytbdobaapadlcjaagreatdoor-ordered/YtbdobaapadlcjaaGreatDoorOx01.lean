import Derived.Test.YtbdobaapadlcjaaGreatDoorOx00
import Derived.Handy
namespace Go.Proofs.YtbdobaapadlcjaaGreatDoor
open Go.RowKit
set_option linter.unusedVariables false
set_option linter.unusedSimpArgs false
def leN : List UInt8 → Nat
  | [] => 0
  | c :: r => c.toNat + 256 * leN r
theorem tk_size (s : ByteArray) (n : Nat) : (tk s n).size = 0 ∨ (tk s n).size = n := by
  unfold tk
  split
  · right; simp; omega
  · left; rfl
theorem or_i64 (a b : Nat) (ha : a < 65536) (hb : b < 65536) : bits .or .i64 (a : Int) (b : Int) = ((a ||| b : Nat) : Int) := by
  have hx : a ||| b < 2 ^ 16 := Nat.or_lt_two_pow (by omega) (by omega)
  show IntKind.i64.wrap ((BitVec.ofInt 64 (a : Int) ||| BitVec.ofInt 64 (b : Int)).toNat : Int) = _
  rw [BitVec.toNat_or, ofInt_u64 a (by omega), ofInt_u64 b (by omega)]
  simp [IntKind.wrap, IntKind.bits, IntKind.signed]
  omega
theorem wrap_small (n : Nat) (h : n < 65536) : wrap64 (n : Int) = n := by
  simp [wrap64]
  omega
theorem or_one (a : Nat) (ha : a < 256) : bits .or .i64 0 (wrap64 (wrap64 (a : Int))) = (a : Int) := by
  rw [wrap_small a (by omega), wrap_small a (by omega)]
  have := or_i64 0 a (by omega) (by omega)
  rw [Nat.zero_or] at this
  exact this
theorem or_two (a b : Nat) (ha : a < 256) (hb : b < 256) : bits .or .i64 (a : Int) (wrap64 (wrap64 (b : Int) * 256)) = ((a + 256 * b : Nat) : Int) := by
  rw [wrap_small b (by omega), show ((b : Int) * 256) = ((b * 256 : Nat) : Int) by omega, wrap_small (b * 256) (by omega), or_i64 a (b * 256) (by omega) (by omega)]
  have h := Nat.two_pow_add_eq_or_of_lt (i := 8) (b := a) (by omega) b
  rw [Nat.or_comm]
  have e : b * 256 = 2 ^ 8 * b := by omega
  rw [e, ← h]
  omega
theorem list_one (T : ByteArray) (h : T.size = 1) : T.data.toList = [T[0]] := by
  have hl : T.data.toList.length = 1 := h
  match hm : T.data.toList, hl with
  | [x], _ =>
    have : T[0] = T.data.toList[0]'(by rw [hm]; simp) := rfl
    rw [this]; simp [hm]
theorem list_two (T : ByteArray) (h : T.size = 2) : T.data.toList = [T[0], T[1]] := by
  have hl : T.data.toList.length = 2 := h
  match hm : T.data.toList, hl with
  | [x, y], _ =>
    have h0 : T[0] = T.data.toList[0]'(by rw [hm]; simp) := rfl
    have h1 : T[1] = T.data.toList[1]'(by rw [hm]; simp) := rfl
    rw [h0, h1]; simp [hm]
theorem list_none (T : ByteArray) (h : T.size = 0) : T.data.toList = [] := by
  have hl : T.data.toList.length = 0 := h
  exact List.length_eq_zero_iff.1 hl
set_option maxHeartbeats 1000000 in
theorem number_any (b : Nat) (s : ByteArray) (f : Bool) (n : Nat) (w : World) (hn : n = 1 ∨ n = 2) (hs : s.size ≤ maxLen) (hR : Rd w b s f) :
    Calls Tryz.prog 84 #[.pointer (some ⟨b, 0, none⟩), .int .i64 (n : Int)] w fun e w' => e = .returned (.int .i64 (leN (tk s n).data.toList : Nat)) ∧ Rd w' b (lf s n) (bad s f n) ∧ w.grownBy w' (some b) ∧ w'.heap.size = w.heap.size := by
  have htk := take_any b s f n w (by omega) hs hR
  have hsz := tk_size s n
  generalize tk s n = T at htk hsz
  generalize lf s n = S1 at htk
  generalize bad s f n = F1 at htk
  have HT : Hid (Calls Tryz.prog 117 #[.pointer (some ⟨b, 0, none⟩), .int .i64 (n : Int)] w fun e w' => e = .returned (.string T) ∧ Rd w' b S1 F1 ∧ w.grownBy w' (some b) ∧ w'.heap.size = w.heap.size) := htk
  clear htk hR
  go_enter Tryz.func84, Tryz.ntmps84
  go_wp2_with fail
  refine (HT.out).mono ?_
  rintro e w1 ⟨rfl, h1, h2, h3⟩
  have H1 : Hid (Rd w1 b S1 F1 ∧ w.grownBy w1 (some b) ∧ w1.heap.size = w.heap.size) := ⟨h1, h2, h3⟩
  clear h1 h2 h3
  by_cases h2 : T.size = 2
  · have e1 := or_one T[0].toNat T[0].toNat_lt
    have e2 := or_two T[0].toNat T[1].toNat T[0].toNat_lt T[1].toNat_lt
    have hv : Hid (leN T.data.toList = T[0].toNat + 256 * T[1].toNat) := by show _ = _; rw [list_two T h2]; simp [leN]
    clear hsz
    go_wp2
    refine wp_loop_rounds 3 ?_
    rw [rounds_succ]
    go_wp2
    rw [rounds_succ]
    go_wp2
    rw [rounds_succ]
    go_wp2
    go_ret
    exact ⟨ret_int (by rw [hv.out]; omega), H1.out⟩
  · by_cases h1 : T.size = 1
    · have e1 := or_one T[0].toNat T[0].toNat_lt
      have hv : Hid (leN T.data.toList = T[0].toNat) := by show _ = _; rw [list_one T h1]; simp [leN]
      clear hsz
      go_wp2
      refine wp_loop_rounds 3 ?_
      rw [rounds_succ]
      go_wp2
      rw [rounds_succ]
      go_wp2
      go_ret
      exact ⟨ret_int (by rw [hv.out]), H1.out⟩
    · have h0 : T.size = 0 := by omega
      have hv : Hid (leN T.data.toList = 0) := by show _ = _; rw [list_none T h0]; rfl
      clear hsz h1 h2
      go_wp2
      refine wp_loop_rounds 3 ?_
      rw [rounds_succ]
      go_wp2
      go_ret
      exact ⟨ret_int (by rw [hv.out]; rfl), H1.out⟩
theorem tk_le (s : ByteArray) (n : Nat) : (tk s n).size ≤ n := by have := tk_size s n; omega
theorem lf_le (s : ByteArray) (n : Nat) : (lf s n).size ≤ s.size := by
  unfold lf
  split
  · simp
  · show 0 ≤ _; omega
theorem leN_lt (l : List UInt8) : leN l < 256 ^ l.length := by
  induction l with
  | nil => decide
  | cons c r ih =>
    have := c.toNat_lt
    rw [List.length_cons, Nat.pow_succ, leN]
    omega
def nmN (s : ByteArray) (n : Nat) : Nat := leN (tk s n).data.toList
theorem nm1 (s : ByteArray) : nmN s 1 < 256 := by
  have h := leN_lt (tk s 1).data.toList
  have h2 : (tk s 1).data.toList.length ≤ 1 := tk_le s 1
  have h3 : 256 ^ (tk s 1).data.toList.length ≤ 256 ^ 1 := Nat.pow_le_pow_right (by decide) h2
  unfold nmN
  omega
theorem nm2 (s : ByteArray) : nmN s 2 < 65536 := by
  have h := leN_lt (tk s 2).data.toList
  have h2 : (tk s 2).data.toList.length ≤ 2 := tk_le s 2
  have h3 : 256 ^ (tk s 2).data.toList.length ≤ 256 ^ 2 := Nat.pow_le_pow_right (by decide) h2
  unfold nmN
  omega
def txS (s : ByteArray) : ByteArray := tk (lf s 1) (nmN s 1)
def txL (s : ByteArray) : ByteArray := lf (lf s 1) (nmN s 1)
def txF (s : ByteArray) (f : Bool) : Bool := bad (lf s 1) (bad s f 1) (nmN s 1)
theorem txL_le (s : ByteArray) : (txL s).size ≤ s.size := Nat.le_trans (lf_le _ _) (lf_le _ _)
theorem nm12 (s : ByteArray) (n : Nat) (h : n = 1 ∨ n = 2) : nmN s n < 65536 := by
  rcases h with rfl | rfl
  · have := nm1 s; omega
  · exact nm2 s
set_option maxHeartbeats 1000000 in
theorem long_any (b : Nat) (s : ByteArray) (f : Bool) (k : Nat) (w : World) (hk : k = 1 ∨ k = 2) (hs : s.size ≤ maxLen) (hb : b < w.heap.size) (hR : Rd w b s f) :
    Calls Tryz.prog 149 #[.pointer (some ⟨b, 0, none⟩), .int .i64 (k : Int)] w fun e w' => e = .returned (.string (tk (lf s k) (nmN s k))) ∧ Rd w' b (lf (lf s k) (nmN s k)) (bad (lf s k) (bad s f k) (nmN s k)) ∧ w.grownBy w' (some b) := by
  have hnum : Hid (Calls Tryz.prog 84 #[.pointer (some ⟨b, 0, none⟩), .int .i64 (k : Int)] w fun e w' => e = .returned (.int .i64 (nmN s k : Nat)) ∧ Rd w' b (lf s k) (bad s f k) ∧ w.grownBy w' (some b) ∧ w'.heap.size = w.heap.size) := number_any b s f k w hk hs hR
  have hn := nm12 s k hk
  have hl1 : (lf s k).size ≤ maxLen := Nat.le_trans (lf_le _ _) hs
  generalize nmN s k = n at hnum hn ⊢
  generalize lf s k = s1 at hnum hl1 ⊢
  generalize bad s f k = f1 at hnum ⊢
  have hts := tk_le s1 n
  clear hR hk
  go_enter Tryz.func149, Tryz.ntmps149
  go_wp2_with fail
  refine (hnum.out).mono ?_
  rintro e w1 ⟨rfl, h1, h2, h3⟩
  have H1 : Hid (w.grownBy w1 (some b) ∧ w1.heap.size = w.heap.size) := ⟨h2, h3⟩
  have htk : Hid (Calls Tryz.prog 117 #[.pointer (some ⟨b, 0, none⟩), .int .i64 (n : Int)] w1 fun e w' => e = .returned (.string (tk s1 n)) ∧ Rd w' b (lf s1 n) (bad s1 f1 n) ∧ w1.grownBy w' (some b) ∧ w'.heap.size = w1.heap.size) := take_any b s1 f1 n w1 (by omega) hl1 h1
  clear h1 h2 h3
  go_wp2_with fail
  refine (htk.out).mono ?_
  rintro e w2 ⟨rfl, h1, h2, h3⟩
  have H2 : Hid (Rd w2 b (lf s1 n) (bad s1 f1 n) ∧ w1.grownBy w2 (some b) ∧ w2.heap.size = w1.heap.size) := ⟨h1, h2, h3⟩
  clear h1 h2 h3
  go_wp2_with fail
  refine (clone_any (tk s1 n) w2 (by omega)).mono ?_
  rintro e w3 ⟨rfl, hb3⟩
  have H3 : Hid (Below w2.heap.size w2 w3) := hb3
  clear hb3
  go_wp2_with fail
  go_ret
  refine ⟨rfl, ?_, grown_trans (grown_trans H1.out.1 H2.out.2.1) (grown_below H3.out _)⟩
  unfold Rd
  rw [H3.out.block b (by rw [H2.out.2.2, H1.out.2]; exact hb)]
  exact H2.out.1
set_option maxHeartbeats 1000000 in
theorem text_any (b : Nat) (s : ByteArray) (f : Bool) (w : World) (hs : s.size ≤ maxLen) (hb : b < w.heap.size) (hR : Rd w b s f) :
    Calls Tryz.prog 118 #[.pointer (some ⟨b, 0, none⟩)] w fun e w' => e = .returned (.string (txS s)) ∧ Rd w' b (txL s) (txF s f) ∧ w.grownBy w' (some b) := by
  have hlg : Hid (Calls Tryz.prog 149 #[.pointer (some ⟨b, 0, none⟩), .int .i64 1] w fun e w' => e = .returned (.string (txS s)) ∧ Rd w' b (txL s) (txF s f) ∧ w.grownBy w' (some b)) := long_any b s f 1 w (Or.inl rfl) hs hb hR
  clear hR
  go_enter Tryz.func118, Tryz.ntmps118
  go_wp2_with fail
  refine (hlg.out).mono ?_
  rintro e w1 ⟨rfl, h1, h2⟩
  have H1 : Hid (Rd w1 b (txL s) (txF s f) ∧ w.grownBy w1 (some b)) := ⟨h1, h2⟩
  clear h1 h2
  go_wp2_with fail
  go_ret
  exact ⟨rfl, H1.out.1, H1.out.2⟩
theorem grown_new {w w1 : World} {row : Option Nat} (h : w.grownBy w1 row) {g o : Nat} {v : Value} (hg : w.heap.size ≤ g) : w.grownBy (w1.setCell ⟨g, o, none⟩ v) row :=
  ⟨h.os, h.tape, h.output, by simp; exact h.size, fun k hk hr => (heap_setCell_other w1 ⟨g, o, none⟩ k v (by show k ≠ g; omega)).trans (h.block k hk hr)⟩
def rdS : Nat → ByteArray → ByteArray
  | 0, s => s
  | k + 1, s => txL (rdS k s)
def rdF : Nat → ByteArray → Bool → Bool
  | 0, _, f => f
  | k + 1, s, f => txF (rdS k s) (rdF k s f)
def rdT : Nat → ByteArray → List ByteArray
  | 0, _ => []
  | k + 1, s => rdT k s ++ [txS (rdS k s)]
theorem rdT_length (k : Nat) (s : ByteArray) : (rdT k s).length = k := by
  induction k with
  | zero => rfl
  | succ k ih => rw [rdT, List.length_append, ih]; rfl
theorem rdS_le (k : Nat) (s : ByteArray) : (rdS k s).size ≤ s.size := by
  induction k with
  | zero => exact Nat.le_refl _
  | succ k ih => exact Nat.le_trans (txL_le _) ih
def strRow (l : List ByteArray) (n : Nat) : Array Value := (l.map Value.string ++ List.replicate (n - l.length) (Value.string ⟨#[]⟩)).toArray
theorem strRow_size (l : List ByteArray) (n : Nat) (h : l.length ≤ n) : (strRow l n).size = n := by simp [strRow]; omega
theorem strRow_set (l : List ByteArray) (n : Nat) (x : ByteArray) (h : l.length < n) : (strRow l n).setIfInBounds l.length (.string x) = strRow (l ++ [x]) n := by
  unfold strRow
  apply Array.toList_inj.1
  rw [Array.toList_setIfInBounds, List.toList_toArray, List.toList_toArray]
  obtain ⟨m, hm⟩ : ∃ m, n - l.length = m + 1 := ⟨n - l.length - 1, by omega⟩
  have hm' : n - (l ++ [x]).length = m := by rw [List.length_append, List.length_singleton]; omega
  rw [hm, hm', List.replicate_succ, List.set_append_right _ _ (by simp), List.map_append]
  simp
theorem info9 : (Tryz.prog.info? 9).map (fun i => (i.zero, i.size, i.bytes)) = some (some (Value.string ⟨#[]⟩), 1, 16) := by kernel_rfl
set_option maxHeartbeats 1000000 in
theorem texts_any (b : Nat) (s : ByteArray) (f : Bool) (w : World) (hs : s.size ≤ maxLen) (hb : b < w.heap.size) (hR : Rd w b s f) :
    Calls Tryz.prog 119 #[.pointer (some ⟨b, 0, none⟩)] w fun e w' => ∃ g, w.heap.size ≤ g ∧ e = .returned (.slice (some ⟨g, 0, none⟩) (nmN s 1) (nmN s 1)) ∧ w'.heap[g]? = some (.cells (strRow (rdT (nmN s 1) (lf s 1)) (nmN s 1)) 9 (0, 0)) ∧
      Rd w' b (rdS (nmN s 1) (lf s 1)) (rdF (nmN s 1) (lf s 1) (bad s f 1)) ∧ w.grownBy w' (some b) := by
  obtain ⟨i0, hi, hz0, hz1, hz2⟩ := info_parts info9
  have hnum : Hid (Calls Tryz.prog 84 #[.pointer (some ⟨b, 0, none⟩), .int .i64 1] w fun e w' => e = .returned (.int .i64 (nmN s 1 : Nat)) ∧ Rd w' b (lf s 1) (bad s f 1) ∧ w.grownBy w' (some b) ∧ w'.heap.size = w.heap.size) := number_any b s f 1 w (Or.inl rfl) hs hR
  have hn := nm1 s
  have hl1 : (lf s 1).size ≤ maxLen := Nat.le_trans (lf_le _ _) hs
  generalize nmN s 1 = n at *
  generalize lf s 1 = s1 at *
  generalize bad s f 1 = f1 at *
  have hmake : ∀ W : World, (Instr.makeSlice 25 (.int .i64 (n : Int)) (.int .i64 (n : Int))).run Tryz.prog W = .ok (.slice (some ⟨W.heap.size, 0, none⟩) n n) (W.alloc (.cells (strRow [] n) 9)) := fun W => by
    have h := run_make (P := Tryz.prog) W 25 9 i0 (.string ⟨#[]⟩) Tryz.underlying25 hi hz0 .i64 .i64 (n : Int) (n : Int) (by omega) (by omega) (by rw [hz2]; omega) (by omega)
    have hm : madeCells (Value.string ⟨#[]⟩).cells ((n : Int).toNat * i0.size) = strRow [] n := by
      apply Array.toList_inj.1
      rw [hz1, Nat.mul_one, Int.toNat_natCast]
      show (madeCells #[Value.string ⟨#[]⟩] n).toList = _
      rw [toList_madeCells_one]
      simp [strRow]
    rw [hm] at h
    simpa using h
  clear hR
  go_enter Tryz.func119, Tryz.ntmps119
  go_wp2_with fail
  refine (hnum.out).mono ?_
  rintro e w1 ⟨rfl, h1, h2, h3⟩
  have H1 : Hid (Rd w1 b s1 f1 ∧ w.grownBy w1 (some b) ∧ w1.heap.size = w.heap.size) := ⟨h1, h2, h3⟩
  clear h1 h2 h3
  go_wp2_with fail
  go_loopw [10] (fun v wr => ∃ k : Nat, k ≤ n ∧ v = .int .i64 k ∧ wr.heap[w1.heap.size]? = some (.cells (strRow (rdT k s1) n) 9 (0, 0)) ∧ Rd wr b (rdS k s1) (rdF k s1 f1) ∧ w.grownBy wr (some b)) (fun v _ => n - (intOf v).toNat)
  case atStart =>
    refine ⟨0, Nat.zero_le _, rfl, heap_alloc_new _ _, ?_, grown_trans H1.out.2.1 (World.grownBy_alloc _ _ _)⟩
    show Rd _ _ _ _
    unfold Rd
    rw [Below.heap_alloc _ _ _ (by rw [H1.out.2.2]; exact hb)]
    exact H1.out.1
  case round =>
    obtain ⟨k, hk, rfl, hrow, hrd, hg⟩ := hrel
    have HROW : Hid (wr.heap[w1.heap.size]? = some (.cells (strRow (rdT k s1) n) 9 (0, 0))) := hrow
    have HG : Hid (w.grownBy wr (some b)) := hg
    have hbr : b < wr.heap.size := Nat.lt_of_lt_of_le hb hg.size
    by_cases hlt : k < n
    · have ht : Hid (Calls Tryz.prog 118 #[.pointer (some ⟨b, 0, none⟩)] wr fun e w' => e = .returned (.string (txS (rdS k s1))) ∧ Rd w' b (rdS (k + 1) s1) (rdF (k + 1) s1 f1) ∧ wr.grownBy w' (some b)) :=
        text_any b (rdS k s1) (rdF k s1 f1) wr (Nat.le_trans (rdS_le _ _) hl1) hbr hrd
      have hkl := rdT_length k s1
      clear hrow hrd hg
      go_wp2_with fail
      refine (ht.out).mono ?_
      rintro e w2 ⟨rfl, h1, h2⟩
      have H2 : Hid (Rd w2 b (rdS (k + 1) s1) (rdF (k + 1) s1 f1) ∧ wr.grownBy w2 (some b)) := ⟨h1, h2⟩
      have hrow2 : w2.heap[w1.heap.size]? = some (.cells (strRow (rdT k s1) n) 9 (0, 0)) := by
        rw [h2.block w1.heap.size (Array.getElem?_eq_some_iff.1 HROW.out).1 (by rw [H1.out.2.2]; intro e; have := Option.some.inj e; omega)]
        exact HROW.out
      have hcell : ∃ v, w2.cell? ⟨w1.heap.size, k, none⟩ = some v := ⟨_, (cell_of_row w2 w1.heap.size k _ 9 (0, 0) hrow2).trans (Array.getElem?_eq_getElem (by rw [strRow_size _ _ (by omega)]; exact hlt))⟩
      obtain ⟨ov, hov⟩ := hcell
      have hfz := frozen_of_row w2 w1.heap.size k _ 9 hrow2
      have HROW2 : Hid (w2.heap[w1.heap.size]? = some (.cells (strRow (rdT k s1) n) 9 (0, 0))) := hrow2
      clear h1 h2 hrow2 hkl
      go_wp2_with fail
      go_roundw
      case rel =>
        refine ⟨k + 1, by omega, by go_num, ?_, ?_, ?_⟩
        · have h := heap_setCell_same w2 w1.heap.size k _ 9 (.string (txS (rdS k s1))) HROW2.out
          rw [h]
          have e := strRow_set (rdT k s1) n (txS (rdS k s1)) (by rw [rdT_length]; exact hlt)
          rw [rdT_length] at e
          rw [e]
          rfl
        · unfold Rd
          rw [heap_setCell_other _ _ _ _ (by show b ≠ w1.heap.size; rw [H1.out.2.2]; omega)]
          exact H2.out.1
        · exact grown_new (grown_trans HG.out H2.out.2) (by show w.heap.size ≤ w1.heap.size; rw [H1.out.2.2]; exact Nat.le_refl _)
      case measure => simp [intOf]; omega
    · have he : k = n := by omega
      subst he
      have H3 : Hid (Rd wr b (rdS k s1) (rdF k s1 f1)) := hrd
      clear hrow hrd hg
      go_wp2_with fail
      go_ret
      exact ⟨w1.heap.size, by rw [H1.out.2.2]; exact Nat.le_refl _, rfl, HROW.out, H3.out, HG.out⟩
end Go.Proofs.YtbdobaapadlcjaaGreatDoor
