/-
  THE WALKS of package wharfref's reader: take (91), number (70), text (71), letter (69).
-/
import Derived.Test.YtbdobaapadlcjaaDoorRfB
import Derived.Deep.QuietTactic
import Derived.BigQuiet
namespace Go.Proofs.YtbdobaapadlcjaaDoor.Ref
open Go.RowKit
set_option linter.unusedVariables false

/-- A reader in block b: its bytes, and where it is. -/
def Rr (w : World) (b : Nat) (s : ByteArray) (p : Nat) : Prop := w.heap[b]? = some (.cells #[.string s, .int .i64 (p : Int)] 108 (0, 0))
theorem Rr.c0 {w : World} {b : Nat} {s : ByteArray} {p : Nat} (h : Rr w b s p) : w.cell? ⟨b, 0, none⟩ = some (.string s) := cell_of_row w b 0 _ 108 (0, 0) h
theorem Rr.c1 {w : World} {b : Nat} {s : ByteArray} {p : Nat} (h : Rr w b s p) : w.cell? ⟨b, 1, none⟩ = some (.int .i64 (p : Int)) := cell_of_row w b 1 _ 108 (0, 0) h
theorem Rr.fz {w : World} {b : Nat} {s : ByteArray} {p : Nat} (h : Rr w b s p) (j : Nat) : w.frozen? ⟨b, j, none⟩ = false := frozen_of_row w b j _ 108 h
theorem Rr.set {w : World} {b : Nat} {s : ByteArray} {p : Nat} (h : Rr w b s p) (q : Nat) : Rr (w.setCell ⟨b, 1, none⟩ (.int .i64 (q : Int))) b s q := heap_setCell_same w b 1 _ 108 _ h
theorem Rr.lt {w : World} {b : Nat} {s : ByteArray} {p : Nat} (h : Rr w b s p) : b < w.heap.size := (Array.getElem?_eq_some_iff.1 h).1
theorem Rr.grown {w w' : World} {row : Option Nat} {b : Nat} {s : ByteArray} {p : Nat} (h : Rr w b s p) (g : w.grownBy w' row) (hr : some b ≠ row) : Rr w' b s p := (g.block b h.lt hr).trans h
theorem grown_own {a w1 w2 : World} {row : Option Nat} {o : Option Nat} (h : a.grownBy w1 o) (g : w1.grownBy w2 row) (hr : ∀ k, row = some k → a.heap.size ≤ k) : a.grownBy w2 o :=
  ⟨g.os.trans h.os, g.tape.trans h.tape, g.output.trans h.output, Nat.le_trans h.size g.size, fun i hi ho => (g.block i (Nat.lt_of_lt_of_le hi h.size) (fun e => by have := hr i e.symm; omega)).trans (h.block i hi ho)⟩
/-- The byte at a place: 0 behind the end. -/
def at0 (s : ByteArray) (p : Nat) : UInt8 := s.data.toList.getD p 0
def rt (s : ByteArray) (p n : Nat) : List UInt8 := (List.range n).map fun j => at0 s (p + j)
theorem rt_succ (s : ByteArray) (p n : Nat) : rt s p (n + 1) = rt s p n ++ [at0 s (p + n)] := by simp [rt, List.range_succ]
theorem rt_length (s : ByteArray) (p n : Nat) : (rt s p n).length = n := by simp [rt]
theorem at0_in (s : ByteArray) (p : Nat) (h : p < s.size) : at0 s p = s[p] := by
  have h' : p < s.data.toList.length := h
  rw [at0, List.getD_eq_getElem?_getD, List.getElem?_eq_getElem h']
  rfl
theorem at0_out (s : ByteArray) (p : Nat) (h : ¬ p < s.size) : at0 s p = 0 := by
  have h' : s.data.toList.length ≤ p := Nat.not_lt.1 h
  rw [at0, List.getD_eq_getElem?_getD, List.getElem?_eq_none h']
  rfl

theorem take_step {w wr w1 : World} {b q m : Nat} {s : ByteArray} {v v' : Value} {L : List UInt8} {x : Value} {c : UInt8} {o : Obj} (hg : w.grownBy wr (some b)) (hr : Rr wr b s q) (ho : OwnB wr w.heap.size v L) (hb : b < w.heap.size)
    (hx : x = .int .u8 (c.toNat : Int)) (hown : w1.ownsRow w.heap.size 5 1 v' (L.length + 1) (bytesV L ++ [x])) (hgrow : ((wr.drewN m).alloc o).grownBy w1 v.ownBlock) :
    OwnB w1 w.heap.size v' (L ++ [c]) ∧ Rr w1 b s q ∧ w.grownBy w1 (some b) := by
  have h0 : wr.grownBy (wr.drewN m) none := ⟨rfl, rfl, rfl, Nat.le_refl _, fun _ _ _ => rfl⟩
  refine ⟨OwnB.snoc hx hown, ?_, ?_⟩
  · refine ((hr.grown h0 (by simp)).grown (World.grownBy_alloc _ _ none) (by simp)).grown hgrow ?_
    intro e
    have := (World.ownsRow.lt ho b e.symm).1
    omega
  · refine grown_own (grown_own (grown_own hg h0 (by simp)) (World.grownBy_alloc _ _ none) (by simp)) hgrow ?_
    intro k hk
    exact (World.ownsRow.lt ho k hk).1
set_option maxHeartbeats 2000000 in
theorem take_any (b : Nat) (s : ByteArray) (p n : Nat) (w : World) (hs : s.size ≤ maxLen) (hp : p ≤ 1000000) (hn : n ≤ 1000) (hR : Rr w b s p) :
    Calls Tryd.prog 94 #[.pointer (some ⟨b, 0, none⟩), .int .i64 (n : Int)] w fun e w' => e = .returned (.string ⟨(rt s p n).toArray⟩) ∧ Rr w' b s (p + n) ∧ w.grownBy w' (some b) := by
  obtain ⟨i0, hi, hz0, hz1, hz2⟩ := info_parts info5
  unfold maxLen at hs
  have hbw := hR.lt
  go_enter Tryd.func94, Tryd.ntmps94
  go_wp2
  go_loopw [5, 6] (fun o i wr => ∃ k : Nat, k ≤ n ∧ i = .int .i64 k ∧ OwnB wr w.heap.size o (rt s p k) ∧ Rr wr b s (p + k) ∧ w.grownBy wr (some b)) (fun _ i _ => n - (intOf i).toNat)
  case atStart => exact ⟨0, Nat.zero_le _, rfl, World.ownsRow_nil _ _ _ _, hR, grown_refl _ _⟩
  case round =>
    obtain ⟨k, hk, rfl, ho, hrd, hg⟩ := hrel
    by_cases hlt : k < n
    · have hle : (rt s p k).length ≤ 1000 := by rw [rt_length]; omega
      have hls : Hid (rt s p (k + 1) = rt s p k ++ [at0 s (p + k)]) := rt_succ s p k
      have hsz := hg.size
      have HG : Hid (w.grownBy wr (some b)) := hg
      have HR : Hid (Rr wr b s (p + k)) := hrd
      have c0 := hrd.c0
      have c1 := hrd.c1
      clear hg hrd hR
      generalize rt s p k = L at ho hle hls
      have HO : Hid (∀ m, OwnB (wr.drewN m) w.heap.size u5 L) := fun _ => ho
      clear ho
      obtain ⟨q, hq0⟩ : ∃ q, p + k = q := ⟨_, rfl⟩
      rw [hq0] at c1 HR hls
      have hqb : q ≤ 1001000 := by omega
      have hq : Hid (p + (k + 1) = q + 1) := by show _ = _; omega
      clear hq0
      by_cases hin : q < s.size
      · have HV : Hid (Value.int .u8 (s[q].toNat : Int) = .int .u8 ((at0 s q).toNat : Int)) := by show _ = _; rw [at0_in s q hin]
        have hinI : (q : Int) < (s.size : Int) := by omega
        go_wp2_with fail
        go_quiet (fail)
        go_wp2_with fail
        go_quiet (fail)
        go_wp2_with (at_builtin; refine wpList_append_own _ rfl _ _ 48 rfl w.heap.size 5 i0 (.int .u8 0) 1 1 Tryd.underlying48 hi hz0 hz1 hz2 rfl (by decide) _ _ _ rfl (World.ownsRow.alloc (HO.out _) _) ⟨wr.heap.size, 0, none⟩ 1 1 [.int .u8 (s[q].toNat : Int)] rfl rfl ?a1 ?a2 ?a3 ?a4 ?a5 ?_)
        case a1 => exact cell_one_new _ _ _
        case a2 => intro u hu; simp at hu; subst hu; rfl
        case a3 => unfold maxLen; omega
        case a4 => omega
        case a5 => simp; omega
        intro v' w1 hown' hgrow _
        obtain ⟨hr1, hR2, hg2⟩ := take_step HG.out HR.out (HO.out 0) hbw HV.out hown' hgrow
        rw [← hls.out] at hr1
        have d1 := hR2.c1
        have f1 := hR2.fz 1
        have HR2 : Hid (OwnB w1 w.heap.size v' (rt s p (k + 1)) ∧ Rr w1 b s q ∧ w.grownBy w1 (some b)) := ⟨hr1, hR2, hg2⟩
        clear hown' hgrow hr1 hR2 hg2
        go_wp2_with fail
        go_roundw
        case rel => exact ⟨k + 1, by omega, by go_num, ownsRow_setCell_below HR2.out.1 (a := ⟨b, 1, none⟩) hbw _, by have h := HR2.out.2.1.set (q + 1); rw [hq.out]; exact h, grown_trans HR2.out.2.2 (grown_set _ _ _ _)⟩
        case measure => simp [intOf]; omega
      · have HV : Hid (Value.int .u8 0 = .int .u8 ((at0 s q).toNat : Int)) := by show _ = _; rw [at0_out s q hin]; rfl
        have hinI : ¬ (q : Int) < (s.size : Int) := by omega
        go_wp2_with fail
        go_quiet (fail)
        go_wp2_with (at_builtin; refine wpList_append_own _ rfl _ _ 48 rfl w.heap.size 5 i0 (.int .u8 0) 1 1 Tryd.underlying48 hi hz0 hz1 hz2 rfl (by decide) _ _ _ rfl (World.ownsRow.alloc (HO.out _) _) ⟨wr.heap.size, 0, none⟩ 1 1 [.int .u8 0] rfl rfl ?a1 ?a2 ?a3 ?a4 ?a5 ?_)
        case a1 => exact cell_one_new _ _ _
        case a2 => intro u hu; simp at hu; subst hu; rfl
        case a3 => unfold maxLen; omega
        case a4 => omega
        case a5 => simp; omega
        intro v' w1 hown' hgrow _
        obtain ⟨hr1, hR2, hg2⟩ := take_step HG.out HR.out (HO.out 0) hbw HV.out hown' hgrow
        rw [← hls.out] at hr1
        have d1 := hR2.c1
        have f1 := hR2.fz 1
        have HR2 : Hid (OwnB w1 w.heap.size v' (rt s p (k + 1)) ∧ Rr w1 b s q ∧ w.grownBy w1 (some b)) := ⟨hr1, hR2, hg2⟩
        clear hown' hgrow hr1 hR2 hg2
        go_wp2_with fail
        go_roundw
        case rel => exact ⟨k + 1, by omega, by go_num, ownsRow_setCell_below HR2.out.1 (a := ⟨b, 1, none⟩) hbw _, by have h := HR2.out.2.1.set (q + 1); rw [hq.out]; exact h, grown_trans HR2.out.2.2 (grown_set _ _ _ _)⟩
        case measure => simp [intOf]; omega
    · have he : k = n := by omega
      subst he
      have hcv := own_str ho
      go_wp2
      go_ret
      exact ⟨rfl, hrd, hg⟩

/-- The number, the text at a place. -/
def rn (s : ByteArray) (p n : Nat) : Nat := leN (rt s p n)
theorem rn1 (s : ByteArray) (p : Nat) : rn s p 1 < 256 := by
  have h := leN_lt (rt s p 1)
  rw [rt_length] at h
  exact h
theorem rn2 (s : ByteArray) (p : Nat) : rn s p 2 < 65536 := by
  have h := leN_lt (rt s p 2)
  rw [rt_length] at h
  exact h
set_option maxHeartbeats 1000000 in
theorem num_any (b : Nat) (s : ByteArray) (p n : Nat) (w : World) (hs : s.size ≤ maxLen) (hp : p ≤ 1000000) (hn : n ≤ 2) (hR : Rr w b s p) :
    Calls Tryd.prog 73 #[.pointer (some ⟨b, 0, none⟩), .int .i64 (n : Int)] w fun e w' => e = .returned (.int .i64 (rn s p n : Nat)) ∧ Rr w' b s (p + n) ∧ w.grownBy w' (some b) := by
  have htk : Hid (Calls Tryd.prog 94 #[.pointer (some ⟨b, 0, none⟩), .int .i64 (n : Int)] w fun e w' => e = .returned (.string ⟨(rt s p n).toArray⟩) ∧ Rr w' b s (p + n) ∧ w.grownBy w' (some b)) := take_any b s p n w hs hp (by omega) hR
  have hnm : Hid (∀ W : World, Calls Tryd.prog 95 #[.string ⟨(rt s p n).toArray⟩] W fun e w' => e = .returned (.int .i64 (rn s p n : Nat)) ∧ w' = W) := fun W => by
    have h := number_any ⟨(rt s p n).toArray⟩ W (by show (rt s p n).toArray.size ≤ 2; simp [rt_length]; omega)
    rw [show rn s p n = leN (⟨(rt s p n).toArray⟩ : ByteArray).data.toList by simp [rn]]
    exact h
  generalize rn s p n = N at hnm
  generalize (⟨(rt s p n).toArray⟩ : ByteArray) = T at htk hnm
  clear hR
  go_enter Tryd.func73, Tryd.ntmps73
  go_wp2_with fail
  refine (htk.out).mono ?_
  rintro e w1 ⟨rfl, h1, h2⟩
  have H1 : Hid (Rr w1 b s (p + n) ∧ w.grownBy w1 (some b)) := ⟨h1, h2⟩
  clear h1 h2
  go_wp2_with fail
  refine (hnm.out w1).mono ?_
  rintro e w2 ⟨rfl, rfl⟩
  go_wp2_with fail
  go_ret
  exact ⟨rfl, H1.out⟩
set_option maxHeartbeats 1000000 in
theorem lett_any (b : Nat) (s : ByteArray) (p : Nat) (w : World) (hs : s.size ≤ maxLen) (hp : p ≤ 1000000) (hR : Rr w b s p) :
    Calls Tryd.prog 72 #[.pointer (some ⟨b, 0, none⟩)] w fun e w' => e = .returned (.int .u8 ((at0 s p).toNat : Int)) ∧ Rr w' b s (p + 1) ∧ w.grownBy w' (some b) := by
  have hnm : Hid (Calls Tryd.prog 73 #[.pointer (some ⟨b, 0, none⟩), .int .i64 1] w fun e w' => e = .returned (.int .i64 (rn s p 1 : Nat)) ∧ Rr w' b s (p + 1) ∧ w.grownBy w' (some b)) := num_any b s p 1 w hs hp (by decide) hR
  have hv : Hid (rn s p 1 = (at0 s p).toNat) := by show leN [at0 s (p + 0)] = _; simp [leN]
  have hl := rn1 s p
  generalize rn s p 1 = N at hnm hv hl
  clear hR
  go_enter Tryd.func72, Tryd.ntmps72
  go_wp2_with fail
  refine (hnm.out).mono ?_
  rintro e w1 ⟨rfl, h1, h2⟩
  have H1 : Hid (Rr w1 b s (p + 1) ∧ w.grownBy w1 (some b)) := ⟨h1, h2⟩
  clear h1 h2
  go_wp2_with fail
  go_ret
  exact ⟨ret_num (by rw [← hv.out]), H1.out⟩
def rx (s : ByteArray) (p : Nat) : ByteArray := ⟨(rt s (p + 1) (rn s p 1)).toArray⟩
set_option maxHeartbeats 1000000 in
theorem txt_any (b : Nat) (s : ByteArray) (p : Nat) (w : World) (hs : s.size ≤ maxLen) (hp : p ≤ 900000) (hR : Rr w b s p) :
    Calls Tryd.prog 74 #[.pointer (some ⟨b, 0, none⟩)] w fun e w' => e = .returned (.string (rx s p)) ∧ Rr w' b s (p + 1 + rn s p 1) ∧ w.grownBy w' (some b) := by
  have hnm : Hid (Calls Tryd.prog 73 #[.pointer (some ⟨b, 0, none⟩), .int .i64 1] w fun e w' => e = .returned (.int .i64 (rn s p 1 : Nat)) ∧ Rr w' b s (p + 1) ∧ w.grownBy w' (some b)) := num_any b s p 1 w hs (by omega) (by decide) hR
  have hl := rn1 s p
  have hx : Hid (rx s p = ⟨(rt s (p + 1) (rn s p 1)).toArray⟩) := rfl
  generalize rn s p 1 = N at hnm hl hx
  clear hR
  go_enter Tryd.func74, Tryd.ntmps74
  go_wp2_with fail
  refine (hnm.out).mono ?_
  rintro e w1 ⟨rfl, h1, h2⟩
  have htk : Hid (Calls Tryd.prog 94 #[.pointer (some ⟨b, 0, none⟩), .int .i64 (N : Int)] w1 fun e w' => e = .returned (.string ⟨(rt s (p + 1) N).toArray⟩) ∧ Rr w' b s (p + 1 + N) ∧ w1.grownBy w' (some b)) := take_any b s (p + 1) N w1 hs (by omega) (by omega) h1
  have H1 : Hid (w.grownBy w1 (some b)) := h2
  clear h1 h2
  go_wp2_with fail
  refine (htk.out).mono ?_
  rintro e w2 ⟨rfl, h1, h2⟩
  have H2 : Hid (Rr w2 b s (p + 1 + N) ∧ w1.grownBy w2 (some b)) := ⟨h1, h2⟩
  clear h1 h2
  go_wp2_with fail
  go_ret
  exact ⟨ret_str hx.out.symm, H2.out.1, grown_trans H1.out H2.out.2⟩
end Go.Proofs.YtbdobaapadlcjaaDoor.Ref
