import Derived.Test.YtbdobaapadlcjaaGreatDoorOx01
import Derived.Test.YtbdobaapadlcjaaGreatDoorOx05
namespace Go.Proofs.YtbdobaapadlcjaaGreatDoor
open Go.RowKit
set_option linter.unusedVariables false
set_option linter.unusedSimpArgs false
def stS (s : ByteArray) (f : Nat) : ByteArray := if Wp.shape f = 0 then lf s 1 else if Wp.shape f = 1 then lf s 1 else if Wp.shape f = 2 then lf s 2 else if Wp.shape f = 3 then txL s else rdS (nmN s 1) (lf s 1)
def stF (s : ByteArray) (fl : Bool) (f : Nat) : Bool := if Wp.shape f = 0 then bad s fl 1 else if Wp.shape f = 1 then bad s fl 1 else if Wp.shape f = 2 then bad s fl 2 else if Wp.shape f = 3 then txF s fl else rdF (nmN s 1) (lf s 1) (bad s fl 1)
def setR (r : Wp.Rq) (s : ByteArray) (f : Nat) : Wp.Rq :=
  if f = 0 then { r with q := UInt8.ofNat (nmN s 1 % 256) } else if f = 1 then { r with d := UInt8.ofNat (nmN s 1 % 256) } else if f = 2 then { r with vis := (nmN s 2 : Nat) } else if f = 3 then { r with win := (nmN s 2 : Nat) } else if f = 4 then { r with rcv := (nmN s 1 : Nat) } else if f = 5 then { r with quo := (nmN s 1 : Nat) } else if f = 6 then { r with mx := (nmN s 1 : Nat) } else if f = 7 then { r with tic := (nmN s 2 : Nat) } else if f = 8 then { r with tic := (nmN s 2 : Nat) } else if f = 9 then { r with grp := txS s } else if f = 10 then { r with ded := txS s } else if f = 11 then { r with bod := txS s } else if f = 12 then { r with att := txS s } else if f = 13 then { r with han := txS s } else r
def setV (s : ByteArray) (f : Nat) : Value := if f ≤ 1 then .int .u8 ((UInt8.ofNat (nmN s 1 % 256)).toNat : Int) else if Wp.shape f = 1 then .int .i64 (nmN s 1 : Nat) else if Wp.shape f = 2 then .int .i64 (nmN s 2 : Nat) else .string (txS s)
theorem cells_set (r : Wp.Rq) (x : Sl) (s : ByteArray) (f : Nat) (hf : f < 14) : (cellsOf r x.v).setIfInBounds (offOf f) (setV s f) = cellsOf (setR r s f) x.v := by
  have hx : f = 0 ∨ f = 1 ∨ f = 2 ∨ f = 3 ∨ f = 4 ∨ f = 5 ∨ f = 6 ∨ f = 7 ∨ f = 8 ∨ f = 9 ∨ f = 10 ∨ f = 11 ∨ f = 12 ∨ f = 13 := by omega
  rcases hx with rfl | rfl | rfl | rfl | rfl | rfl | rfl | rfl | rfl | rfl | rfl | rfl | rfl | rfl <;> rfl
theorem byte_val (n : Nat) (h : n < 256) : Value.int .u8 (n : Int) = .int .u8 ((UInt8.ofNat (n % 256)).toNat : Int) := by
  rw [← byte_cell, show ((n : Int) % 256) = n by omega]
structure G2 (b c : Nat) (w w' : World) : Prop where
  os : w'.os = w.os
  tape : w'.tape = w.tape
  output : w'.output = w.output
  size : w.heap.size ≤ w'.heap.size
  block : ∀ k, k < w.heap.size → k ≠ b → k ≠ c → w'.heap[k]? = w.heap[k]?
structure RF (w w' : World) (b c : Nat) (s : ByteArray) (fl : Bool) (r : Wp.Rq) (x : Sl) (f : Nat) : Prop where
  rd : Rd w' b (stS s f) (stF s fl f)
  blk : ∃ x', Blk w' c (setR r s f) x' ∧ (f ≠ 14 → x' = x) ∧ (f = 14 → ∃ g, w.heap.size ≤ g ∧ x' = ⟨some ⟨g, 0, none⟩, nmN s 1, nmN s 1⟩ ∧ w'.heap[g]? = some (.cells (strRow (rdT (nmN s 1) (lf s 1)) (nmN s 1)) 9 (0, 0)))
  g2 : G2 b c w w'
theorem rf_of_set {w w1 : World} {b c : Nat} {s : ByteArray} {fl : Bool} {r : Wp.Rq} {x : Sl} (f o : Nat) (v : Value) (ho : o = offOf f) (hbc : b ≠ c) (h1 : Rd w1 b (stS s f) (stF s fl f)) (h2 : Blk w1 c r x) (h3 : w.grownBy w1 (some b)) (hf : f < 14) (hv : v = setV s f) :
    RF w (w1.setCell ⟨c, o, none⟩ v) b c s fl r x f := by
  subst ho hv
  refine ⟨?_, ⟨x, ?_, fun _ => rfl, fun e => by omega⟩, ⟨h3.os, h3.tape, h3.output, by simp; exact h3.size, fun k hk hkb hkc => ?_⟩⟩
  · unfold Rd
    rw [heap_setCell_other _ _ _ _ (show b ≠ c from hbc)]
    exact h1
  · unfold Blk
    rw [← cells_set r x s f hf]
    exact heap_setCell_same w1 c (offOf f) _ 27 _ h2
  · rw [heap_setCell_other _ _ _ _ (show k ≠ c from hkc)]
    exact h3.block k hk (by intro e; exact hkb (Option.some.inj e))
theorem rf_of_batch {w w1 : World} {b c : Nat} {s : ByteArray} {fl : Bool} {r : Wp.Rq} {x : Sl} (g : Nat) (hbc : b ≠ c) (hb : b < w.heap.size) (hc : c < w.heap.size) (h1 : Rd w1 b (stS s 14) (stF s fl 14)) (h2 : Blk w1 c r x) (h3 : w.grownBy w1 (some b)) (hg : w.heap.size ≤ g)
    (hrow : w1.heap[g]? = some (.cells (strRow (rdT (nmN s 1) (lf s 1)) (nmN s 1)) 9 (0, 0))) :
    RF w (w1.setCell ⟨c, 14, none⟩ (.slice (some ⟨g, 0, none⟩) (nmN s 1) (nmN s 1))) b c s fl r x 14 := by
  refine ⟨?_, ⟨⟨some ⟨g, 0, none⟩, nmN s 1, nmN s 1⟩, ?_, fun e => absurd rfl e, fun _ => ⟨g, hg, rfl, ?_⟩⟩, ⟨h3.os, h3.tape, h3.output, by simp; exact h3.size, fun k hk hkb hkc => ?_⟩⟩
  · unfold Rd
    rw [heap_setCell_other _ _ _ _ (show b ≠ c from hbc)]
    exact h1
  · unfold Blk
    exact heap_setCell_same w1 c 14 _ 27 _ h2
  · rw [heap_setCell_other _ _ _ _ (show g ≠ c by omega)]
    exact hrow
  · rw [heap_setCell_other _ _ _ _ (show k ≠ c from hkc)]
    exact h3.block k hk (by intro e; exact hkb (Option.some.inj e))
set_option maxHeartbeats 1000000 in
theorem readField_0 (B b c : Nat) (s : ByteArray) (fl : Bool) (r : Wp.Rq) (x : Sl) (w : World) (hs : s.size ≤ maxLen) (hbc : b ≠ c) (hb : b < w.heap.size) (hc : c < w.heap.size) (hL : Lays B w) (hR : Rd w b s fl) (hK : Blk w c r x) :
    Calls Tryz.prog 86 #[.pointer (some ⟨b, 0, none⟩), .pointer (some ⟨c, 0, none⟩), .int .i64 0] w fun e w' => e = .returned (.tuple #[]) ∧ RF w w' b c s fl r x 0 := by
  have hr := hL.2.1
  have t0 : w.cell? ⟨1, 0, none⟩ = some (.int .i64 0) := hr 0 (by decide)
  have hnum : Hid (Calls Tryz.prog 84 #[.pointer (some ⟨b, 0, none⟩), .int .i64 1] w fun e w' => e = .returned (.int .i64 (nmN s 1 : Nat)) ∧ Rd w' b (lf s 1) (bad s fl 1) ∧ w.grownBy w' (some b) ∧ w'.heap.size = w.heap.size) := number_any b s fl 1 w (Or.inl rfl) hs hR
  have hnb := nm1 s
  have HK : Hid (Blk w c r x) := hK
  clear hr hL hR hK
  go_enter Tryz.func86, Tryz.ntmps86
  go_wp2_with (first | (go_at_call 112; go_in) | (go_at_call 113; go_in) | (go_at_call 115; go_in))
  refine (hnum.out).mono ?_
  rintro e w1 ⟨rfl, h1, h2, h3⟩
  have hk1 : Blk w1 c r x := by
    unfold Blk
    rw [h2.block c hc (by intro e; exact hbc (Option.some.inj e).symm)]
    exact HK.out
  obtain ⟨ov, hov⟩ := hk1.cell 1 (by decide)
  have hfz := hk1.frozen 1
  have H1 : Hid (Rd w1 b (stS s 0) (stF s fl 0) ∧ Blk w1 c r x ∧ w.grownBy w1 (some b)) := ⟨h1, hk1, h2⟩
  clear h1 h2 h3 hk1
  go_wp2
  go_end0
  exact ⟨rfl, rf_of_set 0 1 _ rfl hbc H1.out.1 H1.out.2.1 H1.out.2.2 (by decide) (byte_val _ hnb)⟩
set_option maxHeartbeats 1000000 in
theorem readField_1 (B b c : Nat) (s : ByteArray) (fl : Bool) (r : Wp.Rq) (x : Sl) (w : World) (hs : s.size ≤ maxLen) (hbc : b ≠ c) (hb : b < w.heap.size) (hc : c < w.heap.size) (hL : Lays B w) (hR : Rd w b s fl) (hK : Blk w c r x) :
    Calls Tryz.prog 86 #[.pointer (some ⟨b, 0, none⟩), .pointer (some ⟨c, 0, none⟩), .int .i64 1] w fun e w' => e = .returned (.tuple #[]) ∧ RF w w' b c s fl r x 1 := by
  have hr := hL.2.1
  have t3 : w.cell? ⟨1, 3, none⟩ = some (.int .i64 0) := hr 3 (by decide)
  have hnum : Hid (Calls Tryz.prog 84 #[.pointer (some ⟨b, 0, none⟩), .int .i64 1] w fun e w' => e = .returned (.int .i64 (nmN s 1 : Nat)) ∧ Rd w' b (lf s 1) (bad s fl 1) ∧ w.grownBy w' (some b) ∧ w'.heap.size = w.heap.size) := number_any b s fl 1 w (Or.inl rfl) hs hR
  have hnb := nm1 s
  have HK : Hid (Blk w c r x) := hK
  clear hr hL hR hK
  go_enter Tryz.func86, Tryz.ntmps86
  go_wp2_with (first | (go_at_call 112; go_in) | (go_at_call 113; go_in) | (go_at_call 115; go_in))
  refine (hnum.out).mono ?_
  rintro e w1 ⟨rfl, h1, h2, h3⟩
  have hk1 : Blk w1 c r x := by
    unfold Blk
    rw [h2.block c hc (by intro e; exact hbc (Option.some.inj e).symm)]
    exact HK.out
  obtain ⟨ov, hov⟩ := hk1.cell 2 (by decide)
  have hfz := hk1.frozen 2
  have H1 : Hid (Rd w1 b (stS s 1) (stF s fl 1) ∧ Blk w1 c r x ∧ w.grownBy w1 (some b)) := ⟨h1, hk1, h2⟩
  clear h1 h2 h3 hk1
  go_wp2
  go_end0
  exact ⟨rfl, rf_of_set 1 2 _ rfl hbc H1.out.1 H1.out.2.1 H1.out.2.2 (by decide) (byte_val _ hnb)⟩
set_option maxHeartbeats 1000000 in
theorem readField_2 (B b c : Nat) (s : ByteArray) (fl : Bool) (r : Wp.Rq) (x : Sl) (w : World) (hs : s.size ≤ maxLen) (hbc : b ≠ c) (hb : b < w.heap.size) (hc : c < w.heap.size) (hL : Lays B w) (hR : Rd w b s fl) (hK : Blk w c r x) :
    Calls Tryz.prog 86 #[.pointer (some ⟨b, 0, none⟩), .pointer (some ⟨c, 0, none⟩), .int .i64 2] w fun e w' => e = .returned (.tuple #[]) ∧ RF w w' b c s fl r x 2 := by
  have hr := hL.2.1
  have t6 : w.cell? ⟨1, 6, none⟩ = some (.int .i64 2) := hr 6 (by decide)
  have hnum : Hid (Calls Tryz.prog 84 #[.pointer (some ⟨b, 0, none⟩), .int .i64 2] w fun e w' => e = .returned (.int .i64 (nmN s 2 : Nat)) ∧ Rd w' b (lf s 2) (bad s fl 2) ∧ w.grownBy w' (some b) ∧ w'.heap.size = w.heap.size) := number_any b s fl 2 w (Or.inr rfl) hs hR
  have hnb := nm2 s
  have HK : Hid (Blk w c r x) := hK
  clear hr hL hR hK
  go_enter Tryz.func86, Tryz.ntmps86
  go_wp2_with (first | (go_at_call 112; go_in) | (go_at_call 113; go_in) | (go_at_call 115; go_in))
  refine (hnum.out).mono ?_
  rintro e w1 ⟨rfl, h1, h2, h3⟩
  have hk1 : Blk w1 c r x := by
    unfold Blk
    rw [h2.block c hc (by intro e; exact hbc (Option.some.inj e).symm)]
    exact HK.out
  obtain ⟨ov, hov⟩ := hk1.cell 3 (by decide)
  have hfz := hk1.frozen 3
  have H1 : Hid (Rd w1 b (stS s 2) (stF s fl 2) ∧ Blk w1 c r x ∧ w.grownBy w1 (some b)) := ⟨h1, hk1, h2⟩
  clear h1 h2 h3 hk1
  go_wp2
  go_end0
  exact ⟨rfl, rf_of_set 2 3 _ rfl hbc H1.out.1 H1.out.2.1 H1.out.2.2 (by decide) (rfl)⟩
set_option maxHeartbeats 1000000 in
theorem readField_3 (B b c : Nat) (s : ByteArray) (fl : Bool) (r : Wp.Rq) (x : Sl) (w : World) (hs : s.size ≤ maxLen) (hbc : b ≠ c) (hb : b < w.heap.size) (hc : c < w.heap.size) (hL : Lays B w) (hR : Rd w b s fl) (hK : Blk w c r x) :
    Calls Tryz.prog 86 #[.pointer (some ⟨b, 0, none⟩), .pointer (some ⟨c, 0, none⟩), .int .i64 3] w fun e w' => e = .returned (.tuple #[]) ∧ RF w w' b c s fl r x 3 := by
  have hr := hL.2.1
  have t9 : w.cell? ⟨1, 9, none⟩ = some (.int .i64 2) := hr 9 (by decide)
  have hnum : Hid (Calls Tryz.prog 84 #[.pointer (some ⟨b, 0, none⟩), .int .i64 2] w fun e w' => e = .returned (.int .i64 (nmN s 2 : Nat)) ∧ Rd w' b (lf s 2) (bad s fl 2) ∧ w.grownBy w' (some b) ∧ w'.heap.size = w.heap.size) := number_any b s fl 2 w (Or.inr rfl) hs hR
  have hnb := nm2 s
  have HK : Hid (Blk w c r x) := hK
  clear hr hL hR hK
  go_enter Tryz.func86, Tryz.ntmps86
  go_wp2_with (first | (go_at_call 112; go_in) | (go_at_call 113; go_in) | (go_at_call 115; go_in))
  refine (hnum.out).mono ?_
  rintro e w1 ⟨rfl, h1, h2, h3⟩
  have hk1 : Blk w1 c r x := by
    unfold Blk
    rw [h2.block c hc (by intro e; exact hbc (Option.some.inj e).symm)]
    exact HK.out
  obtain ⟨ov, hov⟩ := hk1.cell 4 (by decide)
  have hfz := hk1.frozen 4
  have H1 : Hid (Rd w1 b (stS s 3) (stF s fl 3) ∧ Blk w1 c r x ∧ w.grownBy w1 (some b)) := ⟨h1, hk1, h2⟩
  clear h1 h2 h3 hk1
  go_wp2
  go_end0
  exact ⟨rfl, rf_of_set 3 4 _ rfl hbc H1.out.1 H1.out.2.1 H1.out.2.2 (by decide) (rfl)⟩
set_option maxHeartbeats 1000000 in
theorem readField_4 (B b c : Nat) (s : ByteArray) (fl : Bool) (r : Wp.Rq) (x : Sl) (w : World) (hs : s.size ≤ maxLen) (hbc : b ≠ c) (hb : b < w.heap.size) (hc : c < w.heap.size) (hL : Lays B w) (hR : Rd w b s fl) (hK : Blk w c r x) :
    Calls Tryz.prog 86 #[.pointer (some ⟨b, 0, none⟩), .pointer (some ⟨c, 0, none⟩), .int .i64 4] w fun e w' => e = .returned (.tuple #[]) ∧ RF w w' b c s fl r x 4 := by
  have hr := hL.2.1
  have t12 : w.cell? ⟨1, 12, none⟩ = some (.int .i64 1) := hr 12 (by decide)
  have hnum : Hid (Calls Tryz.prog 84 #[.pointer (some ⟨b, 0, none⟩), .int .i64 1] w fun e w' => e = .returned (.int .i64 (nmN s 1 : Nat)) ∧ Rd w' b (lf s 1) (bad s fl 1) ∧ w.grownBy w' (some b) ∧ w'.heap.size = w.heap.size) := number_any b s fl 1 w (Or.inl rfl) hs hR
  have hnb := nm1 s
  have HK : Hid (Blk w c r x) := hK
  clear hr hL hR hK
  go_enter Tryz.func86, Tryz.ntmps86
  go_wp2_with (first | (go_at_call 112; go_in) | (go_at_call 113; go_in) | (go_at_call 115; go_in))
  refine (hnum.out).mono ?_
  rintro e w1 ⟨rfl, h1, h2, h3⟩
  have hk1 : Blk w1 c r x := by
    unfold Blk
    rw [h2.block c hc (by intro e; exact hbc (Option.some.inj e).symm)]
    exact HK.out
  obtain ⟨ov, hov⟩ := hk1.cell 5 (by decide)
  have hfz := hk1.frozen 5
  have H1 : Hid (Rd w1 b (stS s 4) (stF s fl 4) ∧ Blk w1 c r x ∧ w.grownBy w1 (some b)) := ⟨h1, hk1, h2⟩
  clear h1 h2 h3 hk1
  go_wp2
  go_end0
  exact ⟨rfl, rf_of_set 4 5 _ rfl hbc H1.out.1 H1.out.2.1 H1.out.2.2 (by decide) (rfl)⟩
set_option maxHeartbeats 1000000 in
theorem readField_5 (B b c : Nat) (s : ByteArray) (fl : Bool) (r : Wp.Rq) (x : Sl) (w : World) (hs : s.size ≤ maxLen) (hbc : b ≠ c) (hb : b < w.heap.size) (hc : c < w.heap.size) (hL : Lays B w) (hR : Rd w b s fl) (hK : Blk w c r x) :
    Calls Tryz.prog 86 #[.pointer (some ⟨b, 0, none⟩), .pointer (some ⟨c, 0, none⟩), .int .i64 5] w fun e w' => e = .returned (.tuple #[]) ∧ RF w w' b c s fl r x 5 := by
  have hr := hL.2.1
  have t15 : w.cell? ⟨1, 15, none⟩ = some (.int .i64 1) := hr 15 (by decide)
  have hnum : Hid (Calls Tryz.prog 84 #[.pointer (some ⟨b, 0, none⟩), .int .i64 1] w fun e w' => e = .returned (.int .i64 (nmN s 1 : Nat)) ∧ Rd w' b (lf s 1) (bad s fl 1) ∧ w.grownBy w' (some b) ∧ w'.heap.size = w.heap.size) := number_any b s fl 1 w (Or.inl rfl) hs hR
  have hnb := nm1 s
  have HK : Hid (Blk w c r x) := hK
  clear hr hL hR hK
  go_enter Tryz.func86, Tryz.ntmps86
  go_wp2_with (first | (go_at_call 112; go_in) | (go_at_call 113; go_in) | (go_at_call 115; go_in))
  refine (hnum.out).mono ?_
  rintro e w1 ⟨rfl, h1, h2, h3⟩
  have hk1 : Blk w1 c r x := by
    unfold Blk
    rw [h2.block c hc (by intro e; exact hbc (Option.some.inj e).symm)]
    exact HK.out
  obtain ⟨ov, hov⟩ := hk1.cell 6 (by decide)
  have hfz := hk1.frozen 6
  have H1 : Hid (Rd w1 b (stS s 5) (stF s fl 5) ∧ Blk w1 c r x ∧ w.grownBy w1 (some b)) := ⟨h1, hk1, h2⟩
  clear h1 h2 h3 hk1
  go_wp2
  go_end0
  exact ⟨rfl, rf_of_set 5 6 _ rfl hbc H1.out.1 H1.out.2.1 H1.out.2.2 (by decide) (rfl)⟩
set_option maxHeartbeats 1000000 in
theorem readField_6 (B b c : Nat) (s : ByteArray) (fl : Bool) (r : Wp.Rq) (x : Sl) (w : World) (hs : s.size ≤ maxLen) (hbc : b ≠ c) (hb : b < w.heap.size) (hc : c < w.heap.size) (hL : Lays B w) (hR : Rd w b s fl) (hK : Blk w c r x) :
    Calls Tryz.prog 86 #[.pointer (some ⟨b, 0, none⟩), .pointer (some ⟨c, 0, none⟩), .int .i64 6] w fun e w' => e = .returned (.tuple #[]) ∧ RF w w' b c s fl r x 6 := by
  have hr := hL.2.1
  have t18 : w.cell? ⟨1, 18, none⟩ = some (.int .i64 1) := hr 18 (by decide)
  have hnum : Hid (Calls Tryz.prog 84 #[.pointer (some ⟨b, 0, none⟩), .int .i64 1] w fun e w' => e = .returned (.int .i64 (nmN s 1 : Nat)) ∧ Rd w' b (lf s 1) (bad s fl 1) ∧ w.grownBy w' (some b) ∧ w'.heap.size = w.heap.size) := number_any b s fl 1 w (Or.inl rfl) hs hR
  have hnb := nm1 s
  have HK : Hid (Blk w c r x) := hK
  clear hr hL hR hK
  go_enter Tryz.func86, Tryz.ntmps86
  go_wp2_with (first | (go_at_call 112; go_in) | (go_at_call 113; go_in) | (go_at_call 115; go_in))
  refine (hnum.out).mono ?_
  rintro e w1 ⟨rfl, h1, h2, h3⟩
  have hk1 : Blk w1 c r x := by
    unfold Blk
    rw [h2.block c hc (by intro e; exact hbc (Option.some.inj e).symm)]
    exact HK.out
  obtain ⟨ov, hov⟩ := hk1.cell 7 (by decide)
  have hfz := hk1.frozen 7
  have H1 : Hid (Rd w1 b (stS s 6) (stF s fl 6) ∧ Blk w1 c r x ∧ w.grownBy w1 (some b)) := ⟨h1, hk1, h2⟩
  clear h1 h2 h3 hk1
  go_wp2
  go_end0
  exact ⟨rfl, rf_of_set 6 7 _ rfl hbc H1.out.1 H1.out.2.1 H1.out.2.2 (by decide) (rfl)⟩
set_option maxHeartbeats 1000000 in
theorem readField_7 (B b c : Nat) (s : ByteArray) (fl : Bool) (r : Wp.Rq) (x : Sl) (w : World) (hs : s.size ≤ maxLen) (hbc : b ≠ c) (hb : b < w.heap.size) (hc : c < w.heap.size) (hL : Lays B w) (hR : Rd w b s fl) (hK : Blk w c r x) :
    Calls Tryz.prog 86 #[.pointer (some ⟨b, 0, none⟩), .pointer (some ⟨c, 0, none⟩), .int .i64 7] w fun e w' => e = .returned (.tuple #[]) ∧ RF w w' b c s fl r x 7 := by
  have hr := hL.2.1
  have t21 : w.cell? ⟨1, 21, none⟩ = some (.int .i64 2) := hr 21 (by decide)
  have hnum : Hid (Calls Tryz.prog 84 #[.pointer (some ⟨b, 0, none⟩), .int .i64 2] w fun e w' => e = .returned (.int .i64 (nmN s 2 : Nat)) ∧ Rd w' b (lf s 2) (bad s fl 2) ∧ w.grownBy w' (some b) ∧ w'.heap.size = w.heap.size) := number_any b s fl 2 w (Or.inr rfl) hs hR
  have hnb := nm2 s
  have HK : Hid (Blk w c r x) := hK
  clear hr hL hR hK
  go_enter Tryz.func86, Tryz.ntmps86
  go_wp2_with (first | (go_at_call 112; go_in) | (go_at_call 113; go_in) | (go_at_call 115; go_in))
  refine (hnum.out).mono ?_
  rintro e w1 ⟨rfl, h1, h2, h3⟩
  have hk1 : Blk w1 c r x := by
    unfold Blk
    rw [h2.block c hc (by intro e; exact hbc (Option.some.inj e).symm)]
    exact HK.out
  obtain ⟨ov, hov⟩ := hk1.cell 8 (by decide)
  have hfz := hk1.frozen 8
  have H1 : Hid (Rd w1 b (stS s 7) (stF s fl 7) ∧ Blk w1 c r x ∧ w.grownBy w1 (some b)) := ⟨h1, hk1, h2⟩
  clear h1 h2 h3 hk1
  go_wp2
  go_end0
  exact ⟨rfl, rf_of_set 7 8 _ rfl hbc H1.out.1 H1.out.2.1 H1.out.2.2 (by decide) (rfl)⟩
set_option maxHeartbeats 1000000 in
theorem readField_8 (B b c : Nat) (s : ByteArray) (fl : Bool) (r : Wp.Rq) (x : Sl) (w : World) (hs : s.size ≤ maxLen) (hbc : b ≠ c) (hb : b < w.heap.size) (hc : c < w.heap.size) (hL : Lays B w) (hR : Rd w b s fl) (hK : Blk w c r x) :
    Calls Tryz.prog 86 #[.pointer (some ⟨b, 0, none⟩), .pointer (some ⟨c, 0, none⟩), .int .i64 8] w fun e w' => e = .returned (.tuple #[]) ∧ RF w w' b c s fl r x 8 := by
  have hr := hL.2.1
  have t24 : w.cell? ⟨1, 24, none⟩ = some (.int .i64 2) := hr 24 (by decide)
  have hnum : Hid (Calls Tryz.prog 84 #[.pointer (some ⟨b, 0, none⟩), .int .i64 2] w fun e w' => e = .returned (.int .i64 (nmN s 2 : Nat)) ∧ Rd w' b (lf s 2) (bad s fl 2) ∧ w.grownBy w' (some b) ∧ w'.heap.size = w.heap.size) := number_any b s fl 2 w (Or.inr rfl) hs hR
  have hnb := nm2 s
  have HK : Hid (Blk w c r x) := hK
  clear hr hL hR hK
  go_enter Tryz.func86, Tryz.ntmps86
  go_wp2_with (first | (go_at_call 112; go_in) | (go_at_call 113; go_in) | (go_at_call 115; go_in))
  refine (hnum.out).mono ?_
  rintro e w1 ⟨rfl, h1, h2, h3⟩
  have hk1 : Blk w1 c r x := by
    unfold Blk
    rw [h2.block c hc (by intro e; exact hbc (Option.some.inj e).symm)]
    exact HK.out
  obtain ⟨ov, hov⟩ := hk1.cell 8 (by decide)
  have hfz := hk1.frozen 8
  have H1 : Hid (Rd w1 b (stS s 8) (stF s fl 8) ∧ Blk w1 c r x ∧ w.grownBy w1 (some b)) := ⟨h1, hk1, h2⟩
  clear h1 h2 h3 hk1
  go_wp2
  go_end0
  exact ⟨rfl, rf_of_set 8 8 _ rfl hbc H1.out.1 H1.out.2.1 H1.out.2.2 (by decide) (rfl)⟩
set_option maxHeartbeats 1000000 in
theorem readField_9 (B b c : Nat) (s : ByteArray) (fl : Bool) (r : Wp.Rq) (x : Sl) (w : World) (hs : s.size ≤ maxLen) (hbc : b ≠ c) (hb : b < w.heap.size) (hc : c < w.heap.size) (hL : Lays B w) (hR : Rd w b s fl) (hK : Blk w c r x) :
    Calls Tryz.prog 86 #[.pointer (some ⟨b, 0, none⟩), .pointer (some ⟨c, 0, none⟩), .int .i64 9] w fun e w' => e = .returned (.tuple #[]) ∧ RF w w' b c s fl r x 9 := by
  have hr := hL.2.1
  have t27 : w.cell? ⟨1, 27, none⟩ = some (.int .i64 3) := hr 27 (by decide)
  have hnum : Hid (Calls Tryz.prog 118 #[.pointer (some ⟨b, 0, none⟩)] w fun e w' => e = .returned (.string (txS s)) ∧ Rd w' b (txL s) (txF s fl) ∧ w.grownBy w' (some b)) := text_any b s fl w hs hb hR
  have HK : Hid (Blk w c r x) := hK
  clear hr hL hR hK
  go_enter Tryz.func86, Tryz.ntmps86
  go_wp2_with (first | (go_at_call 112; go_in) | (go_at_call 113; go_in) | (go_at_call 115; go_in))
  refine (hnum.out).mono ?_
  rintro e w1 ⟨rfl, h1, h2⟩
  have hk1 : Blk w1 c r x := by
    unfold Blk
    rw [h2.block c hc (by intro e; exact hbc (Option.some.inj e).symm)]
    exact HK.out
  obtain ⟨ov, hov⟩ := hk1.cell 9 (by decide)
  have hfz := hk1.frozen 9
  have H1 : Hid (Rd w1 b (stS s 9) (stF s fl 9) ∧ Blk w1 c r x ∧ w.grownBy w1 (some b)) := ⟨h1, hk1, h2⟩
  clear h1 h2 hk1
  go_wp2
  go_end0
  exact ⟨rfl, rf_of_set 9 9 _ rfl hbc H1.out.1 H1.out.2.1 H1.out.2.2 (by decide) (rfl)⟩
set_option maxHeartbeats 1000000 in
theorem readField_10 (B b c : Nat) (s : ByteArray) (fl : Bool) (r : Wp.Rq) (x : Sl) (w : World) (hs : s.size ≤ maxLen) (hbc : b ≠ c) (hb : b < w.heap.size) (hc : c < w.heap.size) (hL : Lays B w) (hR : Rd w b s fl) (hK : Blk w c r x) :
    Calls Tryz.prog 86 #[.pointer (some ⟨b, 0, none⟩), .pointer (some ⟨c, 0, none⟩), .int .i64 10] w fun e w' => e = .returned (.tuple #[]) ∧ RF w w' b c s fl r x 10 := by
  have hr := hL.2.1
  have t30 : w.cell? ⟨1, 30, none⟩ = some (.int .i64 3) := hr 30 (by decide)
  have hnum : Hid (Calls Tryz.prog 118 #[.pointer (some ⟨b, 0, none⟩)] w fun e w' => e = .returned (.string (txS s)) ∧ Rd w' b (txL s) (txF s fl) ∧ w.grownBy w' (some b)) := text_any b s fl w hs hb hR
  have HK : Hid (Blk w c r x) := hK
  clear hr hL hR hK
  go_enter Tryz.func86, Tryz.ntmps86
  go_wp2_with (first | (go_at_call 112; go_in) | (go_at_call 113; go_in) | (go_at_call 115; go_in))
  refine (hnum.out).mono ?_
  rintro e w1 ⟨rfl, h1, h2⟩
  have hk1 : Blk w1 c r x := by
    unfold Blk
    rw [h2.block c hc (by intro e; exact hbc (Option.some.inj e).symm)]
    exact HK.out
  obtain ⟨ov, hov⟩ := hk1.cell 10 (by decide)
  have hfz := hk1.frozen 10
  have H1 : Hid (Rd w1 b (stS s 10) (stF s fl 10) ∧ Blk w1 c r x ∧ w.grownBy w1 (some b)) := ⟨h1, hk1, h2⟩
  clear h1 h2 hk1
  go_wp2
  go_end0
  exact ⟨rfl, rf_of_set 10 10 _ rfl hbc H1.out.1 H1.out.2.1 H1.out.2.2 (by decide) (rfl)⟩
set_option maxHeartbeats 1000000 in
theorem readField_11 (B b c : Nat) (s : ByteArray) (fl : Bool) (r : Wp.Rq) (x : Sl) (w : World) (hs : s.size ≤ maxLen) (hbc : b ≠ c) (hb : b < w.heap.size) (hc : c < w.heap.size) (hL : Lays B w) (hR : Rd w b s fl) (hK : Blk w c r x) :
    Calls Tryz.prog 86 #[.pointer (some ⟨b, 0, none⟩), .pointer (some ⟨c, 0, none⟩), .int .i64 11] w fun e w' => e = .returned (.tuple #[]) ∧ RF w w' b c s fl r x 11 := by
  have hr := hL.2.1
  have t33 : w.cell? ⟨1, 33, none⟩ = some (.int .i64 3) := hr 33 (by decide)
  have hnum : Hid (Calls Tryz.prog 118 #[.pointer (some ⟨b, 0, none⟩)] w fun e w' => e = .returned (.string (txS s)) ∧ Rd w' b (txL s) (txF s fl) ∧ w.grownBy w' (some b)) := text_any b s fl w hs hb hR
  have HK : Hid (Blk w c r x) := hK
  clear hr hL hR hK
  go_enter Tryz.func86, Tryz.ntmps86
  go_wp2_with (first | (go_at_call 112; go_in) | (go_at_call 113; go_in) | (go_at_call 115; go_in))
  refine (hnum.out).mono ?_
  rintro e w1 ⟨rfl, h1, h2⟩
  have hk1 : Blk w1 c r x := by
    unfold Blk
    rw [h2.block c hc (by intro e; exact hbc (Option.some.inj e).symm)]
    exact HK.out
  obtain ⟨ov, hov⟩ := hk1.cell 11 (by decide)
  have hfz := hk1.frozen 11
  have H1 : Hid (Rd w1 b (stS s 11) (stF s fl 11) ∧ Blk w1 c r x ∧ w.grownBy w1 (some b)) := ⟨h1, hk1, h2⟩
  clear h1 h2 hk1
  go_wp2
  go_end0
  exact ⟨rfl, rf_of_set 11 11 _ rfl hbc H1.out.1 H1.out.2.1 H1.out.2.2 (by decide) (rfl)⟩
set_option maxHeartbeats 1000000 in
theorem readField_12 (B b c : Nat) (s : ByteArray) (fl : Bool) (r : Wp.Rq) (x : Sl) (w : World) (hs : s.size ≤ maxLen) (hbc : b ≠ c) (hb : b < w.heap.size) (hc : c < w.heap.size) (hL : Lays B w) (hR : Rd w b s fl) (hK : Blk w c r x) :
    Calls Tryz.prog 86 #[.pointer (some ⟨b, 0, none⟩), .pointer (some ⟨c, 0, none⟩), .int .i64 12] w fun e w' => e = .returned (.tuple #[]) ∧ RF w w' b c s fl r x 12 := by
  have hr := hL.2.1
  have t36 : w.cell? ⟨1, 36, none⟩ = some (.int .i64 3) := hr 36 (by decide)
  have hnum : Hid (Calls Tryz.prog 118 #[.pointer (some ⟨b, 0, none⟩)] w fun e w' => e = .returned (.string (txS s)) ∧ Rd w' b (txL s) (txF s fl) ∧ w.grownBy w' (some b)) := text_any b s fl w hs hb hR
  have HK : Hid (Blk w c r x) := hK
  clear hr hL hR hK
  go_enter Tryz.func86, Tryz.ntmps86
  go_wp2_with (first | (go_at_call 112; go_in) | (go_at_call 113; go_in) | (go_at_call 115; go_in))
  refine (hnum.out).mono ?_
  rintro e w1 ⟨rfl, h1, h2⟩
  have hk1 : Blk w1 c r x := by
    unfold Blk
    rw [h2.block c hc (by intro e; exact hbc (Option.some.inj e).symm)]
    exact HK.out
  obtain ⟨ov, hov⟩ := hk1.cell 12 (by decide)
  have hfz := hk1.frozen 12
  have H1 : Hid (Rd w1 b (stS s 12) (stF s fl 12) ∧ Blk w1 c r x ∧ w.grownBy w1 (some b)) := ⟨h1, hk1, h2⟩
  clear h1 h2 hk1
  go_wp2
  go_end0
  exact ⟨rfl, rf_of_set 12 12 _ rfl hbc H1.out.1 H1.out.2.1 H1.out.2.2 (by decide) (rfl)⟩
set_option maxHeartbeats 1000000 in
theorem readField_13 (B b c : Nat) (s : ByteArray) (fl : Bool) (r : Wp.Rq) (x : Sl) (w : World) (hs : s.size ≤ maxLen) (hbc : b ≠ c) (hb : b < w.heap.size) (hc : c < w.heap.size) (hL : Lays B w) (hR : Rd w b s fl) (hK : Blk w c r x) :
    Calls Tryz.prog 86 #[.pointer (some ⟨b, 0, none⟩), .pointer (some ⟨c, 0, none⟩), .int .i64 13] w fun e w' => e = .returned (.tuple #[]) ∧ RF w w' b c s fl r x 13 := by
  have hr := hL.2.1
  have t39 : w.cell? ⟨1, 39, none⟩ = some (.int .i64 3) := hr 39 (by decide)
  have hnum : Hid (Calls Tryz.prog 118 #[.pointer (some ⟨b, 0, none⟩)] w fun e w' => e = .returned (.string (txS s)) ∧ Rd w' b (txL s) (txF s fl) ∧ w.grownBy w' (some b)) := text_any b s fl w hs hb hR
  have HK : Hid (Blk w c r x) := hK
  clear hr hL hR hK
  go_enter Tryz.func86, Tryz.ntmps86
  go_wp2_with (first | (go_at_call 112; go_in) | (go_at_call 113; go_in) | (go_at_call 115; go_in))
  refine (hnum.out).mono ?_
  rintro e w1 ⟨rfl, h1, h2⟩
  have hk1 : Blk w1 c r x := by
    unfold Blk
    rw [h2.block c hc (by intro e; exact hbc (Option.some.inj e).symm)]
    exact HK.out
  obtain ⟨ov, hov⟩ := hk1.cell 13 (by decide)
  have hfz := hk1.frozen 13
  have H1 : Hid (Rd w1 b (stS s 13) (stF s fl 13) ∧ Blk w1 c r x ∧ w.grownBy w1 (some b)) := ⟨h1, hk1, h2⟩
  clear h1 h2 hk1
  go_wp2
  go_end0
  exact ⟨rfl, rf_of_set 13 13 _ rfl hbc H1.out.1 H1.out.2.1 H1.out.2.2 (by decide) (rfl)⟩
set_option maxHeartbeats 1000000 in
theorem readField_14 (B b c : Nat) (s : ByteArray) (fl : Bool) (r : Wp.Rq) (x : Sl) (w : World) (hs : s.size ≤ maxLen) (hbc : b ≠ c) (hb : b < w.heap.size) (hc : c < w.heap.size) (hL : Lays B w) (hR : Rd w b s fl) (hK : Blk w c r x) :
    Calls Tryz.prog 86 #[.pointer (some ⟨b, 0, none⟩), .pointer (some ⟨c, 0, none⟩), .int .i64 14] w fun e w' => e = .returned (.tuple #[]) ∧ RF w w' b c s fl r x 14 := by
  have hr := hL.2.1
  have t42 : w.cell? ⟨1, 42, none⟩ = some (.int .i64 4) := hr 42 (by decide)
  have hnum : Hid (Calls Tryz.prog 119 #[.pointer (some ⟨b, 0, none⟩)] w fun e w' => ∃ g, w.heap.size ≤ g ∧ e = .returned (.slice (some ⟨g, 0, none⟩) (nmN s 1) (nmN s 1)) ∧ w'.heap[g]? = some (.cells (strRow (rdT (nmN s 1) (lf s 1)) (nmN s 1)) 9 (0, 0)) ∧ Rd w' b (rdS (nmN s 1) (lf s 1)) (rdF (nmN s 1) (lf s 1) (bad s fl 1)) ∧ w.grownBy w' (some b)) := texts_any b s fl w hs hb hR
  have HK : Hid (Blk w c r x) := hK
  clear hr hL hR hK
  go_enter Tryz.func86, Tryz.ntmps86
  go_wp2_with (first | (go_at_call 112; go_in) | (go_at_call 113; go_in) | (go_at_call 115; go_in))
  refine (hnum.out).mono ?_
  rintro e w1 ⟨g, hg, rfl, hrow, h1, h2⟩
  have hk1 : Blk w1 c r x := by
    unfold Blk
    rw [h2.block c hc (by intro e; exact hbc (Option.some.inj e).symm)]
    exact HK.out
  obtain ⟨ov, hov⟩ := hk1.cell 14 (by decide)
  have hfz := hk1.frozen 14
  have H1 : Hid (Rd w1 b (stS s 14) (stF s fl 14) ∧ Blk w1 c r x ∧ w.grownBy w1 (some b)) := ⟨h1, hk1, h2⟩
  have HG : Hid (w.heap.size ≤ g ∧ w1.heap[g]? = some (.cells (strRow (rdT (nmN s 1) (lf s 1)) (nmN s 1)) 9 (0, 0))) := ⟨hg, hrow⟩
  clear hg hrow
  clear h1 h2 hk1
  go_wp2
  go_end0
  exact ⟨rfl, rf_of_batch g hbc hb hc H1.out.1 H1.out.2.1 H1.out.2.2 HG.out.1 HG.out.2⟩
theorem readField_any (B b c f : Nat) (s : ByteArray) (fl : Bool) (r : Wp.Rq) (x : Sl) (w : World) (hf : f < 15) (hs : s.size ≤ maxLen) (hbc : b ≠ c) (hb : b < w.heap.size) (hc : c < w.heap.size) (hL : Lays B w) (hR : Rd w b s fl) (hK : Blk w c r x) :
    Calls Tryz.prog 86 #[.pointer (some ⟨b, 0, none⟩), .pointer (some ⟨c, 0, none⟩), .int .i64 (f : Int)] w fun e w' => e = .returned (.tuple #[]) ∧ RF w w' b c s fl r x f := by
  have hx : f = 0 ∨ f = 1 ∨ f = 2 ∨ f = 3 ∨ f = 4 ∨ f = 5 ∨ f = 6 ∨ f = 7 ∨ f = 8 ∨ f = 9 ∨ f = 10 ∨ f = 11 ∨ f = 12 ∨ f = 13 ∨ f = 14 := by omega
  rcases hx with rfl | rfl | rfl | rfl | rfl | rfl | rfl | rfl | rfl | rfl | rfl | rfl | rfl | rfl | rfl
  · exact readField_0 B b c s fl r x w hs hbc hb hc hL hR hK
  · exact readField_1 B b c s fl r x w hs hbc hb hc hL hR hK
  · exact readField_2 B b c s fl r x w hs hbc hb hc hL hR hK
  · exact readField_3 B b c s fl r x w hs hbc hb hc hL hR hK
  · exact readField_4 B b c s fl r x w hs hbc hb hc hL hR hK
  · exact readField_5 B b c s fl r x w hs hbc hb hc hL hR hK
  · exact readField_6 B b c s fl r x w hs hbc hb hc hL hR hK
  · exact readField_7 B b c s fl r x w hs hbc hb hc hL hR hK
  · exact readField_8 B b c s fl r x w hs hbc hb hc hL hR hK
  · exact readField_9 B b c s fl r x w hs hbc hb hc hL hR hK
  · exact readField_10 B b c s fl r x w hs hbc hb hc hL hR hK
  · exact readField_11 B b c s fl r x w hs hbc hb hc hL hR hK
  · exact readField_12 B b c s fl r x w hs hbc hb hc hL hR hK
  · exact readField_13 B b c s fl r x w hs hbc hb hc hL hR hK
  · exact readField_14 B b c s fl r x w hs hbc hb hc hL hR hK
end Go.Proofs.YtbdobaapadlcjaaGreatDoor
