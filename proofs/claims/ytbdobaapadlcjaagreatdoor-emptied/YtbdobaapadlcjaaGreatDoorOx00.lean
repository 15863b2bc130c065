import Derived.Laws.BitsAllLaws
import Derived.Test.YtbdobaapadlcjaaGreatDoorProg
import Derived.WalkKit
import Derived.WalkSpells
import Derived.WalkLawsBesides
import Derived.Outline
import Derived.Below
import Derived.Lib.Strings
import Derived.Lib.BufferWrite
import Derived.Lib.UnsafeStr
import Derived.Laws.MakeOwn
import Derived.OwnWalk
namespace Go.Proofs.YtbdobaapadlcjaaGreatDoor.Crc
set_option linter.unusedVariables false
set_option linter.unusedSimpArgs false
def tab : List Nat := [0, 498536548, 997073096, 651767980, 1994146192, 1802195444, 1303535960, 1342533948, 3988292384, 4027552580, 3604390888, 3412177804, 2607071920, 2262029012, 2685067896, 3183342108]
def half (h : Nat) : Nat := (h / 16) ^^^ tab.getD (h % 16) 0
def step (h : Nat) (b : UInt8) : Nat := half (half (h ^^^ b.toNat))
def run (h : Nat) (l : List UInt8) : Nat := l.foldl step h
def crc (l : List UInt8) : Nat := 4294967295 - run 4294967295 l
theorem tab_lt (i : Nat) : tab.getD i 0 < 4294967296 := by
  by_cases h : i < 16
  · have : ∀ j : Fin 16, tab.getD j.val 0 < 4294967296 := by decide
    exact this ⟨i, h⟩
  · rw [List.getD_eq_getElem?_getD, List.getElem?_eq_none (by simp [tab]; omega)]; decide
theorem xor_lt {a b : Nat} (ha : a < 4294967296) (hb : b < 4294967296) : a ^^^ b < 4294967296 := by
  have := Nat.xor_lt_two_pow (n := 32) (x := a) (y := b) (by omega) (by omega)
  omega
theorem half_lt {h : Nat} (hh : h < 4294967296) : half h < 4294967296 := xor_lt (by omega) (tab_lt _)
theorem byte_lt (b : UInt8) : b.toNat < 4294967296 := Nat.lt_trans b.toNat_lt (by decide)
theorem step_lt {h : Nat} (b : UInt8) (hh : h < 4294967296) : step h b < 4294967296 := half_lt (half_lt (xor_lt hh (byte_lt b)))
theorem run_lt {h : Nat} (l : List UInt8) (hh : h < 4294967296) : run h l < 4294967296 := by
  induction l generalizing h with
  | nil => exact hh
  | cons b l ih => exact ih (step_lt b hh)
theorem run_snoc (h : Nat) (l : List UInt8) (b : UInt8) : run h (l ++ [b]) = step (run h l) b := by simp [run]
theorem not_sub (x : Nat) (hx : x < 4294967296) : 4294967295 ^^^ x = 4294967295 - x := by
  have h := congrArg BitVec.toNat (BitVec.allOnes_xor (x := BitVec.ofNat 32 x))
  rw [BitVec.toNat_xor, BitVec.toNat_not, BitVec.toNat_allOnes, BitVec.toNat_ofNat, Nat.mod_eq_of_lt (by omega)] at h
  omega
theorem not_u32 (x : Nat) (hx : x < 4294967296) : bits .xor .u32 4294967295 (x : Int) = ((4294967295 - x : Nat) : Int) := by
  rw [← not_sub x hx]
  exact u32_xor_nat 4294967295 x (by omega) hx
theorem xor_u32 (a b : Nat) (ha : a < 4294967296) (hb : b < 4294967296) : bits .xor .u32 (a : Int) (b : Int) = ((a ^^^ b : Nat) : Int) := u32_xor_nat a b ha hb
theorem and_u32 (a : Nat) (ha : a < 4294967296) : bits .and .u32 (a : Int) 15 = ((a % 16 : Nat) : Int) := by
  have := u32_and_nat a 15 ha (by omega)
  rw [show (15 : Nat) = 2 ^ 4 - 1 by decide, Nat.and_two_pow_sub_one_eq_mod] at this
  exact this
end Go.Proofs.YtbdobaapadlcjaaGreatDoor.Crc
namespace Go.Proofs.YtbdobaapadlcjaaGreatDoor
open Go.RowKit
set_option linter.unusedVariables false
set_option linter.unusedSimpArgs false
theorem ret_num {k : IntKind} {a b : Int} (h : a = b) : Ending.returned (.int k a) = .returned (.int k b) := by rw [h]
set_option maxHeartbeats 400000 in
theorem check_any (s : ByteArray) (w : World) (hs : s.size ≤ maxLen) (hT : ∀ i : Nat, i < 16 → w.cell? ⟨2, i, none⟩ = some (.int .u32 (Crc.tab.getD i 0 : Nat))) :
    Calls Tryz.prog 92 #[.string s] w fun e w' => e = .returned (.int .u32 (Crc.crc s.data.toList : Nat)) ∧ w' = w := by
  unfold maxLen at hs
  go_enter Tryz.func92, Tryz.ntmps92
  go_wp2
  go_loop [3, 7] (fun h i => ∃ k : Nat, k ≤ s.size ∧ i = .int .i64 k ∧ h = .int .u32 (Crc.run 4294967295 (s.data.toList.take k) : Nat)) (fun _ i => s.size - (intOf i).toNat)
  case atStart => exact ⟨0, Nat.zero_le _, rfl, rfl⟩
  case round =>
    obtain ⟨k, hk, rfl, rfl⟩ := hrel
    have hHl := Crc.run_lt (h := 4294967295) (s.data.toList.take k) (by decide)
    by_cases hlt : k < s.size
    · have hsn : Crc.run 4294967295 (s.data.toList.take (k + 1)) = Crc.step (Crc.run 4294967295 (s.data.toList.take k)) s[k] := by
        rw [← Crc.run_snoc, List.take_succ_eq_append_getElem (by simpa using hlt)]; rfl
      generalize Crc.run 4294967295 (s.data.toList.take k) = H at hHl hsn
      unfold Crc.step at hsn
      have e1 : bits .xor .u32 (H : Int) ((s[k].toNat : Int) % 4294967296) = ((H ^^^ s[k].toNat : Nat) : Int) := by
        rw [Int.emod_eq_of_lt (by omega) (by have := s[k].toNat_lt; omega)]
        exact Crc.xor_u32 _ _ hHl (Crc.byte_lt _)
      have l1 := Crc.xor_lt hHl (Crc.byte_lt s[k])
      generalize H ^^^ s[k].toNat = X1 at e1 hsn l1
      have a1 := Crc.and_u32 X1 l1
      have c1 := hT (X1 % 16) (Nat.mod_lt _ (by decide))
      have m1 : X1 % 16 < 16 := Nat.mod_lt _ (by decide)
      have t1 := Crc.tab_lt (X1 % 16)
      have x1 : bits .xor .u32 ((X1 : Int) / 16) ((Crc.tab.getD (X1 % 16) 0 : Nat) : Int) = ((Crc.half X1 : Nat) : Int) := by
        have := Crc.xor_u32 (X1 / 16) _ (by omega) t1
        rw [show ((X1 / 16 : Nat) : Int) = (X1 : Int) / 16 by omega] at this
        exact this
      have l2 := Crc.half_lt l1
      generalize Crc.half X1 = X2 at hsn x1 l2
      generalize Crc.tab.getD (X1 % 16) 0 = T1 at c1 x1 t1
      generalize X1 % 16 = J1 at a1 c1 m1
      have a2 := Crc.and_u32 X2 l2
      have c2 := hT (X2 % 16) (Nat.mod_lt _ (by decide))
      have m2 : X2 % 16 < 16 := Nat.mod_lt _ (by decide)
      have t2 := Crc.tab_lt (X2 % 16)
      have x2 : bits .xor .u32 ((X2 : Int) / 16) ((Crc.tab.getD (X2 % 16) 0 : Nat) : Int) = ((Crc.half X2 : Nat) : Int) := by
        have := Crc.xor_u32 (X2 / 16) _ (by omega) t2
        rw [show ((X2 / 16 : Nat) : Int) = (X2 : Int) / 16 by omega] at this
        exact this
      generalize Crc.half X2 = X3 at hsn x2
      generalize Crc.tab.getD (X2 % 16) 0 = T2 at c2 x2 t2
      generalize X2 % 16 = J2 at a2 c2 m2
      have HS : Hid (Crc.run 4294967295 (s.data.toList.take (k + 1)) = X3) := hsn
      clear hsn hT
      go_wp2
      go_round
      case rel => exact ⟨k + 1, by omega, by go_num, by rw [HS.out]⟩
      case measure => simp [intOf]; omega
    · generalize hH : Crc.run 4294967295 (s.data.toList.take k) = H at hHl
      have HH : Hid (Crc.run 4294967295 (s.data.toList.take k) = H) := hH
      clear hH
      have n1 : bits .xor .u32 IntKind.u32.max (H : Int) = ((4294967295 - H : Nat) : Int) := Crc.not_u32 H hHl
      go_wp2
      go_ret
      exact ⟨ret_num (by rw [Crc.crc, ← HH.out, List.take_of_length_le (by simp; omega)]), rfl⟩
def Tab (w : World) : Prop := ∀ i : Nat, i < 16 → w.cell? ⟨2, i, none⟩ = some (.int .u32 (Crc.tab.getD i 0 : Nat))
theorem Tab.below {B : Nat} {w w' : World} (h : Tab w) (hb : Below B w w') (hB : 2 < B) : Tab w' := fun i hi => (hb.cell (p := ⟨2, i, none⟩) hB).trans (h i hi)
def pk (c n : Int) : Int := (if c < 0 then -(c + 1) else c) % n
theorem pk_nonneg (c n : Int) (hn : 0 < n) : 0 ≤ pk c n := Int.emod_nonneg _ (by omega)
theorem pk_lt (c n : Int) (hn : 0 < n) : pk c n < n := Int.emod_lt_of_pos _ hn
theorem pk_neg (c n : Int) (hc : c < 0) : -((c + 1).tmod n) = pk c n := by
  rw [pk, if_pos hc, ← Int.neg_tmod, Int.tmod_eq_emod_of_nonneg (by omega)]
theorem pk_pos (c n : Int) (hc : ¬ c < 0) : c % n = pk c n := by rw [pk, if_neg hc]
theorem pick_any (c n : Int) (w : World) (h1 : -9223372036854775808 ≤ c) (h2 : c ≤ 9223372036854775807) (hn : 0 < n) (hm : n ≤ 9223372036854775807) :
    Calls Tryz.prog 14 #[.int .i64 c, .int .i64 n] w fun e w' => e = .returned (.int .i64 (pk c n)) ∧ w' = w := by
  have hz : ¬ n = 0 := by omega
  by_cases hc : c < 0
  · go_enter Tryz.func14, Tryz.ntmps14
    go_wp2
    go_ret
    exact ⟨ret_num (pk_neg c n hc), rfl⟩
  · go_enter Tryz.func14, Tryz.ntmps14
    go_wp2
    go_ret
    exact ⟨ret_num (pk_pos c n (by omega)), rfl⟩
end Go.Proofs.YtbdobaapadlcjaaGreatDoor
namespace Go.Proofs.YtbdobaapadlcjaaGreatDoor.Wp
set_option linter.unusedVariables false
set_option linter.unusedSimpArgs false
def layTab : List (List Nat) := [[13], [14], [0, 2, 3, 4, 1, 5], [], [13, 7], [], [], [], [], [], [], [], [], [], [], [0], [], [0, 12, 6], [0, 9, 10, 11], [8], [], [0], [], [0], [], []]
def lay (i : Nat) : List Nat := layTab.getD i []
def rowTab : List Int := [0, 97, 104, 0, 97, 104, 2, 1, 1000, 2, 0, 1000, 1, 0, 9, 1, 1, 50, 1, 1, 10, 2, 0, 1000, 2, 1, 1000, 3, 1, 8, 3, 0, 8, 3, 0, 255, 3, 0, 8, 3, 0, 255, 4, 1, 10]
def shape (f : Nat) : Int := rowTab.getD (3 * f) 0
def least (f : Nat) : Int := rowTab.getD (3 * f + 1) 0
def most (f : Nat) : Int := rowTab.getD (3 * f + 2) 0
structure Rq where
  op : UInt8
  q : UInt8
  d : UInt8
  vis : Int
  win : Int
  rcv : Int
  quo : Int
  mx : Int
  tic : Int
  grp : ByteArray
  ded : ByteArray
  bod : ByteArray
  att : ByteArray
  han : ByteArray
def isOp (op : UInt8) : Bool := decide (65 ≤ op.toNat) && decide (op.toNat ≤ 90) && decide (0 < (lay (op.toNat - 65)).length)
def Rq.let (r : Rq) (f : Nat) : UInt8 := if f = 1 then r.d else r.q
def Rq.num (r : Rq) (f : Nat) : Int := if f = 2 then r.vis else if f = 3 then r.win else if f = 4 then r.rcv else if f = 5 then r.quo else if f = 6 then r.mx else r.tic
def Rq.txt (r : Rq) (f : Nat) : ByteArray := if f = 9 then r.grp else if f = 10 then r.ded else if f = 11 then r.bod else if f = 12 then r.att else r.han
def letOff (f : Nat) : Nat := if f = 1 then 2 else 1
def numOff (f : Nat) : Nat := if f = 2 then 3 else if f = 3 then 4 else if f = 4 then 5 else if f = 5 then 6 else if f = 6 then 7 else 8
def txtOff (f : Nat) : Nat := if f = 9 then 9 else if f = 10 then 10 else if f = 11 then 11 else if f = 12 then 12 else 13
def Rq.measure (r : Rq) (n : Nat) (f : Nat) : Int :=
  if shape f = 0 then (r.let f).toNat else if shape f = 3 then (r.txt f).size else if shape f = 4 then n else r.num f
def dedOk (s : ByteArray) : Bool := if h : 0 < s.size then s[0] != 0 else true
def Rq.fits (r : Rq) (n : Nat) (short : Bool) (f : Nat) : Bool :=
  if f = 1 ∧ r.d = 45 then true
  else if r.measure n f < least f then false
  else if most f < r.measure n f then false
  else if f = 1 then r.d != r.q
  else if f = 10 then dedOk r.ded
  else if f = 14 then short
  else true
def short (bs : List ByteArray) : Bool := bs.all fun s => decide (s.size ≤ 255)
end Go.Proofs.YtbdobaapadlcjaaGreatDoor.Wp
namespace Go.Proofs.YtbdobaapadlcjaaGreatDoor
open Go.RowKit
set_option linter.unusedVariables false
set_option linter.unusedSimpArgs false
def Lays (B : Nat) (w : World) : Prop :=
  2 < B ∧ (∀ i, i < 45 → w.cell? ⟨1, i, none⟩ = some (.int .i64 (Wp.rowTab.getD i 0))) ∧
  (∀ i, i < 26 → ∃ a cap, w.cell? ⟨0, i, none⟩ = some (.slice a (Wp.lay i).length cap) ∧
    ∀ j, j < (Wp.lay i).length → ∃ b o, a = some ⟨b, o, none⟩ ∧ b < B ∧ w.cell? ⟨b, o + j, none⟩ = some (.int .i64 ((Wp.lay i).getD j 0 : Nat)))
theorem Lays.below {B : Nat} {w w' : World} (h : Lays B w) (hb : Below B w w') : Lays B w' := by
  obtain ⟨h2, hr, hl⟩ := h
  refine ⟨h2, fun i hi => (hb.cell (p := ⟨1, i, none⟩) (show 1 < B by omega)).trans (hr i hi), fun i hi => ?_⟩
  obtain ⟨a, cap, hc, hj⟩ := hl i hi
  refine ⟨a, cap, (hb.cell (p := ⟨0, i, none⟩) (show 0 < B by omega)).trans hc, fun j hjl => ?_⟩
  obtain ⟨b, o, ha, hbB, hcj⟩ := hj j hjl
  exact ⟨b, o, ha, hbB, (hb.cell (p := ⟨b, o + j, none⟩) hbB).trans hcj⟩
theorem ret_bool {a b : Bool} (h : a = b) : Ending.returned (.bool a) = .returned (.bool b) := by rw [h]
theorem ret_int {k : IntKind} {a b : Int} (h : a = b) : Ending.returned (.int k a) = .returned (.int k b) := by rw [h]
set_option maxHeartbeats 400000 in
theorem isOp_any (B : Nat) (op : UInt8) (w : World) (hL : Lays B w) :
    Calls Tryz.prog 85 #[.int .u8 (op.toNat : Int)] w fun e w' => e = .returned (.bool (Wp.isOp op)) ∧ w' = w := by
  have hop := op.toNat_lt
  generalize hn : op.toNat = n at hop
  by_cases h1 : 65 ≤ n
  · by_cases h2 : n ≤ 90
    · obtain ⟨i, rfl⟩ : ∃ i, n = 65 + i := ⟨n - 65, by omega⟩
      obtain ⟨a, cap, hc, _⟩ := hL.2.2 i (by omega)
      have hf : Hid (Wp.isOp op = decide (0 < (Wp.lay i).length)) := by
        show Wp.isOp op = _
        simp [Wp.isOp, hn, h2]
      generalize (Wp.lay i).length = len at hc hf
      clear hn hL
      go_enter Tryz.func85, Tryz.ntmps85
      go_wp2
      go_ret
      exact ⟨ret_bool hf.out.symm, rfl⟩
    · have hf : Hid (Wp.isOp op = false) := by
        show Wp.isOp op = _
        simp [Wp.isOp, hn, h2]
      clear hn hL
      go_enter Tryz.func85, Tryz.ntmps85
      go_wp2
      go_ret
      exact ⟨ret_bool hf.out.symm, rfl⟩
  · have hf : Hid (Wp.isOp op = false) := by
      show Wp.isOp op = _
      simp [Wp.isOp, hn, h1]
    clear hn hL
    go_enter Tryz.func85, Tryz.ntmps85
    go_wp2
    go_ret
    exact ⟨ret_bool hf.out.symm, rfl⟩
theorem numberOf_any (b f : Nat) (w : World) (hf : f < 15) :
    Calls Tryz.prog 113 #[.pointer (some ⟨b, 0, none⟩), .int .i64 (f : Int)] w fun e w' => e = .returned (.pointer (some ⟨b, Wp.numOff f, none⟩)) ∧ w' = w := by
  have hx : f = 0 ∨ f = 1 ∨ f = 2 ∨ f = 3 ∨ f = 4 ∨ f = 5 ∨ f = 6 ∨ f = 7 ∨ f = 8 ∨ f = 9 ∨ f = 10 ∨ f = 11 ∨ f = 12 ∨ f = 13 ∨ f = 14 := by omega
  rcases hx with rfl | rfl | rfl | rfl | rfl | rfl | rfl | rfl | rfl | rfl | rfl | rfl | rfl | rfl | rfl
  all_goals
    go_enter Tryz.func113, Tryz.ntmps113
    go_wp2
    go_ret
    exact ⟨rfl, rfl⟩
def cellsOf (r : Wp.Rq) (bv : Value) : Array Value := #[.int .u8 (r.op.toNat : Int), .int .u8 (r.q.toNat : Int), .int .u8 (r.d.toNat : Int), .int .i64 r.vis, .int .i64 r.win, .int .i64 r.rcv, .int .i64 r.quo, .int .i64 r.mx, .int .i64 r.tic, .string r.grp, .string r.ded, .string r.bod, .string r.att, .string r.han, bv]
def Box (w : World) (b : Nat) (r : Wp.Rq) (bv : Value) : Prop := ∀ i v, (cellsOf r bv)[i]? = some v → w.cell? ⟨b, i, none⟩ = some v
set_option maxHeartbeats 1000000 in
theorem measure_any (B b f : Nat) (r : Wp.Rq) (a : Option Addr) (n cap : Nat) (w : World) (hf : f < 15) (hL : Lays B w) (hB : Box w b r (.slice a n cap)) :
    Calls Tryz.prog 147 #[.pointer (some ⟨b, 0, none⟩), .int .i64 (f : Int)] w fun e w' => e = .returned (.int .i64 (r.measure n f)) ∧ w' = w := by
  have hx : f = 0 ∨ f = 1 ∨ f = 2 ∨ f = 3 ∨ f = 4 ∨ f = 5 ∨ f = 6 ∨ f = 7 ∨ f = 8 ∨ f = 9 ∨ f = 10 ∨ f = 11 ∨ f = 12 ∨ f = 13 ∨ f = 14 := by omega
  have hr := hL.2.1
  rcases hx with rfl | rfl | rfl | rfl | rfl | rfl | rfl | rfl | rfl | rfl | rfl | rfl | rfl | rfl | rfl
  · have t0 : w.cell? ⟨1, 0, none⟩ = some (.int .i64 0) := hr 0 (by decide)
    have c1 : w.cell? ⟨b, 1, none⟩ = some (.int .u8 (r.q.toNat : Int)) := hB 1 _ rfl
    have hl := r.q.toNat_lt
    clear hB hr hL
    go_enter Tryz.func147, Tryz.ntmps147
    go_wp2
    go_ret
    exact ⟨rfl, rfl⟩
  · have t3 : w.cell? ⟨1, 3, none⟩ = some (.int .i64 0) := hr 3 (by decide)
    have c2 : w.cell? ⟨b, 2, none⟩ = some (.int .u8 (r.d.toNat : Int)) := hB 2 _ rfl
    have hl := r.d.toNat_lt
    clear hB hr hL
    go_enter Tryz.func147, Tryz.ntmps147
    go_wp2
    go_ret
    exact ⟨rfl, rfl⟩
  · have t6 : w.cell? ⟨1, 6, none⟩ = some (.int .i64 2) := hr 6 (by decide)
    have c3 : w.cell? ⟨b, 3, none⟩ = some (.int .i64 r.vis) := hB 3 _ rfl
    clear hB hr hL
    go_enter Tryz.func147, Tryz.ntmps147
    go_wp2
    go_ret
    exact ⟨rfl, rfl⟩
  · have t9 : w.cell? ⟨1, 9, none⟩ = some (.int .i64 2) := hr 9 (by decide)
    have c4 : w.cell? ⟨b, 4, none⟩ = some (.int .i64 r.win) := hB 4 _ rfl
    clear hB hr hL
    go_enter Tryz.func147, Tryz.ntmps147
    go_wp2
    go_ret
    exact ⟨rfl, rfl⟩
  · have t12 : w.cell? ⟨1, 12, none⟩ = some (.int .i64 1) := hr 12 (by decide)
    have c5 : w.cell? ⟨b, 5, none⟩ = some (.int .i64 r.rcv) := hB 5 _ rfl
    clear hB hr hL
    go_enter Tryz.func147, Tryz.ntmps147
    go_wp2
    go_ret
    exact ⟨rfl, rfl⟩
  · have t15 : w.cell? ⟨1, 15, none⟩ = some (.int .i64 1) := hr 15 (by decide)
    have c6 : w.cell? ⟨b, 6, none⟩ = some (.int .i64 r.quo) := hB 6 _ rfl
    clear hB hr hL
    go_enter Tryz.func147, Tryz.ntmps147
    go_wp2
    go_ret
    exact ⟨rfl, rfl⟩
  · have t18 : w.cell? ⟨1, 18, none⟩ = some (.int .i64 1) := hr 18 (by decide)
    have c7 : w.cell? ⟨b, 7, none⟩ = some (.int .i64 r.mx) := hB 7 _ rfl
    clear hB hr hL
    go_enter Tryz.func147, Tryz.ntmps147
    go_wp2
    go_ret
    exact ⟨rfl, rfl⟩
  · have t21 : w.cell? ⟨1, 21, none⟩ = some (.int .i64 2) := hr 21 (by decide)
    have c8 : w.cell? ⟨b, 8, none⟩ = some (.int .i64 r.tic) := hB 8 _ rfl
    clear hB hr hL
    go_enter Tryz.func147, Tryz.ntmps147
    go_wp2
    go_ret
    exact ⟨rfl, rfl⟩
  · have t24 : w.cell? ⟨1, 24, none⟩ = some (.int .i64 2) := hr 24 (by decide)
    have c8 : w.cell? ⟨b, 8, none⟩ = some (.int .i64 r.tic) := hB 8 _ rfl
    clear hB hr hL
    go_enter Tryz.func147, Tryz.ntmps147
    go_wp2
    go_ret
    exact ⟨rfl, rfl⟩
  · have t27 : w.cell? ⟨1, 27, none⟩ = some (.int .i64 3) := hr 27 (by decide)
    have c9 : w.cell? ⟨b, 9, none⟩ = some (.string r.grp) := hB 9 _ rfl
    clear hB hr hL
    go_enter Tryz.func147, Tryz.ntmps147
    go_wp2
    go_ret
    exact ⟨rfl, rfl⟩
  · have t30 : w.cell? ⟨1, 30, none⟩ = some (.int .i64 3) := hr 30 (by decide)
    have c10 : w.cell? ⟨b, 10, none⟩ = some (.string r.ded) := hB 10 _ rfl
    clear hB hr hL
    go_enter Tryz.func147, Tryz.ntmps147
    go_wp2
    go_ret
    exact ⟨rfl, rfl⟩
  · have t33 : w.cell? ⟨1, 33, none⟩ = some (.int .i64 3) := hr 33 (by decide)
    have c11 : w.cell? ⟨b, 11, none⟩ = some (.string r.bod) := hB 11 _ rfl
    clear hB hr hL
    go_enter Tryz.func147, Tryz.ntmps147
    go_wp2
    go_ret
    exact ⟨rfl, rfl⟩
  · have t36 : w.cell? ⟨1, 36, none⟩ = some (.int .i64 3) := hr 36 (by decide)
    have c12 : w.cell? ⟨b, 12, none⟩ = some (.string r.att) := hB 12 _ rfl
    clear hB hr hL
    go_enter Tryz.func147, Tryz.ntmps147
    go_wp2
    go_ret
    exact ⟨rfl, rfl⟩
  · have t39 : w.cell? ⟨1, 39, none⟩ = some (.int .i64 3) := hr 39 (by decide)
    have c13 : w.cell? ⟨b, 13, none⟩ = some (.string r.han) := hB 13 _ rfl
    clear hB hr hL
    go_enter Tryz.func147, Tryz.ntmps147
    go_wp2
    go_ret
    exact ⟨rfl, rfl⟩
  · have t42 : w.cell? ⟨1, 42, none⟩ = some (.int .i64 4) := hr 42 (by decide)
    have c14 : w.cell? ⟨b, 14, none⟩ = some (.slice a n cap) := hB 14 _ rfl
    clear hB hr hL
    go_enter Tryz.func147, Tryz.ntmps147
    go_wp2
    go_ret
    exact ⟨rfl, rfl⟩
theorem infoByte : (Tryz.prog.info? 5).map (fun i => (i.zero, i.size, i.bytes)) = some (some (.int .u8 0), 1, 1) := by kernel_rfl
theorem cellsByte : Tryz.prog.cellsOf 5 = 1 := by kernel_rfl
set_option maxHeartbeats 1000000 in
set_option maxRecDepth 100000 in
theorem clone_in (s : ByteArray) (w : World) (hl : s.size ≤ 281474976710656) :
    Calls Tryz.prog 251 #[.string s] w fun e w' => e = .returned (.string s) ∧ Below w.heap.size w w' := by
  by_cases h0 : s.size = 0
  · have hs : s = ⟨#[]⟩ := ByteArray.ext (Array.eq_empty_of_size_eq_zero h0)
    subst hs
    go_enter Tryz.func251, Tryz.ntmps251
    go_wp2
    go_ret
    exact ⟨rfl, Below.refl _ _⟩
  · obtain ⟨i0, hi, hz0, hz1, hz2⟩ := info_parts infoByte
    have hone : (Tryz.prog.info? 5).map (·.size) = some 1 := by rw [hi]; simp [hz1]
    obtain ⟨M, hM⟩ : ∃ M, M = madeCells (Value.int .u8 0).cells (((s.size : Nat) : Int).toNat * i0.size) := ⟨_, rfl⟩
    have hMs : M.size = s.size := by rw [hM, size_madeCells, hz1]; simp
    have hmake : ∀ W : World, (Instr.makeSlice 74 (.int .i64 (s.size : Int)) (.int .i64 (s.size : Int))).run Tryz.prog W = .ok (.slice (some ⟨W.heap.size, 0, none⟩) s.size s.size) (W.alloc (.cells M 5)) := fun W => by
      have h := run_make (P := Tryz.prog) W 74 5 i0 (.int .u8 0) Tryz.underlying74 hi hz0 .i64 .i64 (s.size : Int) (s.size : Int) (by omega) (by omega) (by rw [hz2]; omega) (by omega)
      rw [← hM] at h
      simpa using h
    clear hM
    have hcopy := Lib.run_copy_row_string (P := Tryz.prog) (w.alloc (.cells M 5)) 74 9 3 5 w.heap.size 0 s.size s.size s M 5 Tryz.underlying74 hone (heap_alloc_new w _) (Nat.le_refl _) (by omega)
    obtain ⟨Y, hY⟩ : ∃ Y, Y = (M.toList.take 0 ++ Lib.byteCells s.data.toList ++ M.toList.drop (0 + s.size)).toArray := ⟨_, rfl⟩
    rw [← hY] at hcopy
    have hYl : Y.toList = Lib.byteCells s.data.toList := by
      rw [hY, List.toList_toArray, List.take_zero, List.nil_append, List.drop_of_length_le (by rw [Array.length_toList]; omega), List.append_nil]
    have hYs : Y.size = s.size := by rw [← Array.length_toList, hYl, Lib.byteCells_length, ← Lib.size_eq]
    have hrow : ((w.alloc (.cells M 5)).setRow w.heap.size Y).heap[w.heap.size]? = some (.cells Y 5 (0, 0)) := setRow_heap _ _ M _ 5 (0, 0) (heap_alloc_new w _)
    have hne : s.data.toList ≠ [] := fun e => h0 (by rw [Lib.size_eq, e]; rfl)
    have hstr := Lib.run_unsafeString_row (P := Tryz.prog) ((w.alloc (.cells M 5)).setRow w.heap.size Y) 176 3 9 5 Tryz.underlying176 cellsByte w.heap.size Y.size (by unfold World.shape?; rw [hrow]) s.data.toList hne (by rw [← Lib.size_eq]; omega) (by rw [← Lib.size_eq]; omega)
      (fun j x hx => Lib.cells_of_row hrow Y.size j _ (by rw [List.take_of_length_le (by rw [Array.length_toList]; exact Nat.le_refl _), hYl]; simp [Lib.byteCells, hx]))
    rw [← Lib.size_eq] at hstr
    clear hY
    go_enter Tryz.func251, Tryz.ntmps251
    go_wp2
    go_ret
    have hb1 : Below w.heap.size w (w.alloc (.cells M 5)) := (Below.refl _ w).alloc (Nat.le_refl _) _
    have hb2 : Below w.heap.size (w.alloc (.cells M 5)) ((w.alloc (.cells M 5)).setRow w.heap.size Y) := ⟨rfl, rfl, rfl, by simp, fun k hk => setRow_other _ _ _ _ (by omega)⟩
    exact ⟨rfl, Lib.below_freeze (hb1.trans hb2) (p := ⟨w.heap.size, 0, none⟩) (Nat.le_refl _) _⟩
theorem clone_any (s : ByteArray) (w : World) (hl : s.size ≤ 281474976710656) :
    Calls Tryz.prog 193 #[.string s] w fun e w' => e = .returned (.string s) ∧ Below w.heap.size w w' := by
  go_enter Tryz.func193, Tryz.ntmps193
  go_wp2_with fail
  refine (clone_in s w hl).mono ?_
  rintro e w1 ⟨rfl, hb⟩
  go_wp2_with fail
  go_ret
  exact ⟨rfl, hb⟩
def Rd (w : World) (b : Nat) (s : ByteArray) (f : Bool) : Prop := w.heap[b]? = some (.cells #[.string s, .bool f] 184 (0, 0))
theorem Rd.c0 {w : World} {b : Nat} {s : ByteArray} {f : Bool} (h : Rd w b s f) : w.cell? ⟨b, 0, none⟩ = some (.string s) := cell_of_row w b 0 _ 184 (0, 0) h
theorem Rd.c1 {w : World} {b : Nat} {s : ByteArray} {f : Bool} (h : Rd w b s f) : w.cell? ⟨b, 1, none⟩ = some (.bool f) := cell_of_row w b 1 _ 184 (0, 0) h
theorem Rd.fz {w : World} {b : Nat} {s : ByteArray} {f : Bool} (h : Rd w b s f) (j : Nat) : w.frozen? ⟨b, j, none⟩ = false := frozen_of_row w b j _ 184 h
theorem Rd.set0 {w : World} {b : Nat} {s : ByteArray} {f : Bool} (h : Rd w b s f) (t : ByteArray) : Rd (w.setCell ⟨b, 0, none⟩ (.string t)) b t f := heap_setCell_same w b 0 _ 184 _ h
theorem Rd.set1 {w : World} {b : Nat} {s : ByteArray} {f : Bool} (h : Rd w b s f) (g : Bool) : Rd (w.setCell ⟨b, 1, none⟩ (.bool g)) b s g := heap_setCell_same w b 1 _ 184 _ h
theorem grown_set (w : World) (b o : Nat) (v : Value) : w.grownBy (w.setCell ⟨b, o, none⟩ v) (some b) :=
  ⟨rfl, rfl, rfl, by simp, fun k _ hk => heap_setCell_other w ⟨b, o, none⟩ k v (fun e => hk (by rw [e]))⟩
theorem grown_trans {a b c : World} {row : Option Nat} (h : a.grownBy b row) (k : b.grownBy c row) : a.grownBy c row :=
  ⟨k.os.trans h.os, k.tape.trans h.tape, k.output.trans h.output, Nat.le_trans h.size k.size, fun i hi hr => (k.block i (Nat.lt_of_lt_of_le hi h.size) hr).trans (h.block i hi hr)⟩
theorem grown_below {w w' : World} (h : Below w.heap.size w w') (row : Option Nat) : w.grownBy w' row := ⟨h.os, h.tape, h.output, h.size, fun k hk _ => h.block k hk⟩
theorem ret_str {s t : ByteArray} (h : s = t) : Ending.returned (.string s) = .returned (.string t) := by rw [h]
def tk (s : ByteArray) (n : Nat) : ByteArray := if n ≤ s.size then s.extract 0 n else ⟨#[]⟩
def lf (s : ByteArray) (n : Nat) : ByteArray := if n ≤ s.size then s.extract n s.size else ⟨#[]⟩
def bad (s : ByteArray) (f : Bool) (n : Nat) : Bool := if n ≤ s.size then f else true
set_option maxHeartbeats 1000000 in
theorem take_any (b : Nat) (s : ByteArray) (f : Bool) (n : Nat) (w : World) (hn : n ≤ 1048576) (hs : s.size ≤ maxLen) (hR : Rd w b s f) :
    Calls Tryz.prog 117 #[.pointer (some ⟨b, 0, none⟩), .int .i64 (n : Int)] w fun e w' => e = .returned (.string (tk s n)) ∧ Rd w' b (lf s n) (bad s f n) ∧ w.grownBy w' (some b) ∧ w'.heap.size = w.heap.size := by
  unfold maxLen at hs
  have c0 := hR.c0
  have f0 := hR.fz 0
  have c1 := hR.c1
  have f1 := hR.fz 1
  have HR : Hid (Rd w b s f) := hR
  clear hR
  by_cases h : n ≤ s.size
  · have e1 : Hid (tk s n = s.extract 0 n) := by show _ = _; rw [tk, if_pos h]
    have e2 : Hid (lf s n = s.extract n s.size) := by show _ = _; rw [lf, if_pos h]
    have e3 : Hid (bad s f n = f) := by show _ = _; rw [bad, if_pos h]
    go_enter Tryz.func117, Tryz.ntmps117
    go_wp2
    go_ret
    refine ⟨ret_str e1.out.symm, ?_, grown_set _ _ _ _, by simp⟩
    rw [e2.out, e3.out]
    exact HR.out.set0 _
  · have e1 : Hid (tk s n = ⟨#[]⟩) := by show _ = _; rw [tk, if_neg h]
    have e2 : Hid (lf s n = ⟨#[]⟩) := by show _ = _; rw [lf, if_neg h]
    have e3 : Hid (bad s f n = true) := by show _ = _; rw [bad, if_neg h]
    go_enter Tryz.func117, Tryz.ntmps117
    go_wp2
    go_ret
    refine ⟨ret_str e1.out.symm, ?_, grown_trans (grown_set _ _ _ _) (grown_set _ _ _ _), by simp⟩
    rw [e2.out, e3.out]
    exact (HR.out.set0 _).set1 _
end Go.Proofs.YtbdobaapadlcjaaGreatDoor
