/-
  THE CHECK, in plain mathematics: what the loop of package wire's Check computes, and that one byte that is another makes another check. Nothing of the program is imported. THE WALKS: package wire's Check (function 18), package wharf's (7), and the statements' own 'pick' (17). THE WALK of queue.dedupID (156). THE JOURNAL: AppendRecord (64), add (90), replace (121), sweep (120).   THE JOURNAL: add (90), replace (121), sweep (120), makeRoom (89), Lay (63); there (93) and Whole (65) of a state without queues.   THE JOURNAL: sweep (120), makeRoom (89), Lay (63).
-/
import Derived.Laws.BitsAllLaws
import Derived.Test.YtbdobaapadlcjaaGreatDoorProg
import Derived.WalkKit
import Derived.WalkSpells
import Derived.WalkLawsBesides
import Derived.Outline
import Derived.Below
import Derived.Test.YtbdobaapadlcjaaGreatDoorMx06
import Derived.Lib.Bytes
import Derived.Test.YtbdobaapadlcjaaGreatDoorMx10
import Derived.Shelf.Abstract
namespace Go.Proofs.YtbdobaapadlcjaaGreatDoor.Crc

def tab : List Nat := [0, 498536548, 997073096, 651767980, 1994146192, 1802195444, 1303535960, 1342533948, 3988292384, 4027552580, 3604390888, 3412177804, 2607071920, 2262029012, 2685067896, 3183342108]
def half (h : Nat) : Nat := (h / 16) ^^^ tab.getD (h % 16) 0
def step (h : Nat) (b : UInt8) : Nat := half (half (h ^^^ b.toNat))
def run (h : Nat) (l : List UInt8) : Nat := l.foldl step h
def crc (l : List UInt8) : Nat := 4294967295 - run 4294967295 l

theorem tab_lt (i : Nat) : tab.getD i 0 < 4294967296 := by
  by_cases h : i < 16
  · have : ∀ j : Fin 16, tab.getD j.val 0 < 4294967296 := by decide
    exact this ⟨i, h⟩
  · rw [List.getD_eq_getElem?_getD, List.getElem?_eq_none (by simp [tab]; omega)]; decide

theorem xor_lt {a b : Nat} (ha : a < 4294967296) (hb : b < 4294967296) : a ^^^ b < 4294967296 := by
  have := Nat.xor_lt_two_pow (n := 32) (x := a) (y := b) (by omega) (by omega)
  omega

theorem half_lt {h : Nat} (hh : h < 4294967296) : half h < 4294967296 := xor_lt (by omega) (tab_lt _)

theorem byte_lt (b : UInt8) : b.toNat < 4294967296 := Nat.lt_trans b.toNat_lt (by decide)
theorem step_lt {h : Nat} (b : UInt8) (hh : h < 4294967296) : step h b < 4294967296 := half_lt (half_lt (xor_lt hh (byte_lt b)))
theorem run_lt {h : Nat} (l : List UInt8) (hh : h < 4294967296) : run h l < 4294967296 := by
  induction l generalizing h with
  | nil => exact hh
  | cons b l ih => exact ih (step_lt b hh)
theorem run_snoc (h : Nat) (l : List UInt8) (b : UInt8) : run h (l ++ [b]) = step (run h l) b := by simp [run]
theorem not_sub (x : Nat) (hx : x < 4294967296) : 4294967295 ^^^ x = 4294967295 - x := by
  have h := congrArg BitVec.toNat (BitVec.allOnes_xor (x := BitVec.ofNat 32 x))
  rw [BitVec.toNat_xor, BitVec.toNat_not, BitVec.toNat_allOnes, BitVec.toNat_ofNat, Nat.mod_eq_of_lt (by omega)] at h
  omega
theorem not_u32 (x : Nat) (hx : x < 4294967296) : bits .xor .u32 4294967295 (x : Int) = ((4294967295 - x : Nat) : Int) := by
  rw [← not_sub x hx]
  exact u32_xor_nat 4294967295 x (by omega) hx
theorem xor_u32 (a b : Nat) (ha : a < 4294967296) (hb : b < 4294967296) : bits .xor .u32 (a : Int) (b : Int) = ((a ^^^ b : Nat) : Int) := u32_xor_nat a b ha hb
theorem and_u32 (a : Nat) (ha : a < 4294967296) : bits .and .u32 (a : Int) 15 = ((a % 16 : Nat) : Int) := by
  have := u32_and_nat a 15 ha (by omega)
  rw [show (15 : Nat) = 2 ^ 4 - 1 by decide, Nat.and_two_pow_sub_one_eq_mod] at this
  exact this

end Go.Proofs.YtbdobaapadlcjaaGreatDoor.Crc

namespace Go.Proofs.YtbdobaapadlcjaaGreatDoor
open Go.RowKit
theorem ret_num {k : IntKind} {a b : Int} (h : a = b) : Ending.returned (.int k a) = .returned (.int k b) := by rw [h]
set_option maxHeartbeats 400000 in
theorem check_any (s : ByteArray) (w : World) (hs : s.size ≤ maxLen) (hT : ∀ i : Nat, i < 16 → w.cell? ⟨2, i, none⟩ = some (.int .u32 (Crc.tab.getD i 0 : Nat))) :
    Calls Tryz.prog 92 #[.string s] w fun e w' => e = .returned (.int .u32 (Crc.crc s.data.toList : Nat)) ∧ w' = w := by
  unfold maxLen at hs
  go_enter Tryz.func92, Tryz.ntmps92
  go_wp2
  go_loop [3, 7] (fun h i => ∃ k : Nat, k ≤ s.size ∧ i = .int .i64 k ∧ h = .int .u32 (Crc.run 4294967295 (s.data.toList.take k) : Nat)) (fun _ i => s.size - (intOf i).toNat)
  case atStart => exact ⟨0, Nat.zero_le _, rfl, rfl⟩
  case round =>
    obtain ⟨k, hk, rfl, rfl⟩ := hrel
    have hHl := Crc.run_lt (h := 4294967295) (s.data.toList.take k) (by decide)
    by_cases hlt : k < s.size
    · have hsn : Crc.run 4294967295 (s.data.toList.take (k + 1)) = Crc.step (Crc.run 4294967295 (s.data.toList.take k)) s[k] := by
        rw [← Crc.run_snoc, List.take_succ_eq_append_getElem (by simpa using hlt)]; rfl
      generalize Crc.run 4294967295 (s.data.toList.take k) = H at hHl hsn
      unfold Crc.step at hsn
      have e1 : bits .xor .u32 (H : Int) ((s[k].toNat : Int) % 4294967296) = ((H ^^^ s[k].toNat : Nat) : Int) := by
        rw [Int.emod_eq_of_lt (by omega) (by have := s[k].toNat_lt; omega)]
        exact Crc.xor_u32 _ _ hHl (Crc.byte_lt _)
      have l1 := Crc.xor_lt hHl (Crc.byte_lt s[k])
      generalize H ^^^ s[k].toNat = X1 at e1 hsn l1
      have a1 := Crc.and_u32 X1 l1
      have c1 := hT (X1 % 16) (Nat.mod_lt _ (by decide))
      have m1 : X1 % 16 < 16 := Nat.mod_lt _ (by decide)
      have t1 := Crc.tab_lt (X1 % 16)
      have x1 : bits .xor .u32 ((X1 : Int) / 16) ((Crc.tab.getD (X1 % 16) 0 : Nat) : Int) = ((Crc.half X1 : Nat) : Int) := by
        have := Crc.xor_u32 (X1 / 16) _ (by omega) t1
        rw [show ((X1 / 16 : Nat) : Int) = (X1 : Int) / 16 by omega] at this
        exact this
      have l2 := Crc.half_lt l1
      generalize Crc.half X1 = X2 at hsn x1 l2
      generalize Crc.tab.getD (X1 % 16) 0 = T1 at c1 x1 t1
      generalize X1 % 16 = J1 at a1 c1 m1
      have a2 := Crc.and_u32 X2 l2
      have c2 := hT (X2 % 16) (Nat.mod_lt _ (by decide))
      have m2 : X2 % 16 < 16 := Nat.mod_lt _ (by decide)
      have t2 := Crc.tab_lt (X2 % 16)
      have x2 : bits .xor .u32 ((X2 : Int) / 16) ((Crc.tab.getD (X2 % 16) 0 : Nat) : Int) = ((Crc.half X2 : Nat) : Int) := by
        have := Crc.xor_u32 (X2 / 16) _ (by omega) t2
        rw [show ((X2 / 16 : Nat) : Int) = (X2 : Int) / 16 by omega] at this
        exact this
      generalize Crc.half X2 = X3 at hsn x2
      generalize Crc.tab.getD (X2 % 16) 0 = T2 at c2 x2 t2
      generalize X2 % 16 = J2 at a2 c2 m2
      have HS : Hid (Crc.run 4294967295 (s.data.toList.take (k + 1)) = X3) := hsn
      clear hsn hT
      go_wp2
      go_round
      case rel => exact ⟨k + 1, by omega, by go_num, by rw [HS.out]⟩
      case measure => simp [intOf]; omega
    · generalize hH : Crc.run 4294967295 (s.data.toList.take k) = H at hHl
      have HH : Hid (Crc.run 4294967295 (s.data.toList.take k) = H) := hH
      clear hH
      have n1 : bits .xor .u32 IntKind.u32.max (H : Int) = ((4294967295 - H : Nat) : Int) := Crc.not_u32 H hHl
      go_wp2
      go_ret
      exact ⟨ret_num (by rw [Crc.crc, ← HH.out, List.take_of_length_le (by simp; omega)]), rfl⟩

/-- The table's cells, as package wire lays them. -/
def Tab (w : World) : Prop := ∀ i : Nat, i < 16 → w.cell? ⟨2, i, none⟩ = some (.int .u32 (Crc.tab.getD i 0 : Nat))
theorem Tab.below {B : Nat} {w w' : World} (h : Tab w) (hb : Below B w w') (hB : 2 < B) : Tab w' := fun i hi => (hb.cell (p := ⟨2, i, none⟩) hB).trans (h i hi)

/-- Which of n things the raw number c speaks of. -/
def pk (c n : Int) : Int := (if c < 0 then -(c + 1) else c) % n
theorem pk_nonneg (c n : Int) (hn : 0 < n) : 0 ≤ pk c n := Int.emod_nonneg _ (by omega)
theorem pk_lt (c n : Int) (hn : 0 < n) : pk c n < n := Int.emod_lt_of_pos _ hn
theorem pk_neg (c n : Int) (hc : c < 0) : -((c + 1).tmod n) = pk c n := by
  rw [pk, if_pos hc, ← Int.neg_tmod, Int.tmod_eq_emod_of_nonneg (by omega)]
theorem pk_pos (c n : Int) (hc : ¬ c < 0) : c % n = pk c n := by rw [pk, if_neg hc]
theorem pick_any (c n : Int) (w : World) (h1 : -9223372036854775808 ≤ c) (h2 : c ≤ 9223372036854775807) (hn : 0 < n) (hm : n ≤ 9223372036854775807) :
    Calls Tryz.prog 14 #[.int .i64 c, .int .i64 n] w fun e w' => e = .returned (.int .i64 (pk c n)) ∧ w' = w := by
  have hz : ¬ n = 0 := by omega
  by_cases hc : c < 0
  · go_enter Tryz.func14, Tryz.ntmps14
    go_wp2
    go_ret
    exact ⟨ret_num (pk_neg c n hc), rfl⟩
  · go_enter Tryz.func14, Tryz.ntmps14
    go_wp2
    go_ret
    exact ⟨ret_num (pk_pos c n (by omega)), rfl⟩
end Go.Proofs.YtbdobaapadlcjaaGreatDoor

namespace Go.Proofs.YtbdobaapadlcjaaGreatDoor
open Go.RowKit

/-- The id of what is sent. -/
def didS (r : Wp.Rq) : ByteArray := if r.ded.size = 0 then ⟨(0 :: lowB (Crc.crc r.bod.data.toList) 4).toArray⟩ else r.ded

theorem toList_nil (s : ByteArray) (h : s.size = 0) : s = ⟨#[]⟩ := by
  have h1 : s.data.size = 0 := h
  have h2 : s.data = #[] := Array.eq_empty_of_size_eq_zero h1
  cases s
  simp at h2
  rw [h2]
theorem ne_nil (s : ByteArray) (h : s.size ≠ 0) : s.toList.isEmpty = false := by
  rw [Lib.toList_data]
  cases hl : s.data.toList with
  | nil => exact absurd (show s.size = 0 by rw [ByteArray.size, ← Array.length_toList, hl]; rfl) h
  | cons a l => rfl

theorem crc_lt (l : List UInt8) : Crc.crc l < 4294967296 := by
  show 4294967295 - _ < 4294967296
  omega

set_option maxHeartbeats 1000000 in
theorem dedupID_any (r : Wp.Rq) (y : Sl) (w : World) (hb : r.bod.size ≤ maxLen) (hT : Tab w) (h2 : 2 < w.heap.size) :
    Calls Tryz.prog 216 #[.agg (cellsOf r y.v)] w fun e w' => e = .returned (.string (didS r)) ∧ Below w.heap.size w w' := by
  rw [show cellsOf r y.v = #[.int .u8 (r.op.toNat : Int), .int .u8 (r.q.toNat : Int), .int .u8 (r.d.toNat : Int), .int .i64 r.vis, .int .i64 r.win, .int .i64 r.rcv, .int .i64 r.quo, .int .i64 r.mx, .int .i64 r.tic, .string r.grp, .string r.ded, .string r.bod, .string r.att, .string r.han, .slice y.a y.n y.c] from rfl]
  by_cases hd : r.ded.size = 0
  · have e0 : r.ded = ⟨#[]⟩ := toList_nil _ hd
    have hdid : Hid (didS r = ⟨(0 :: lowB (Crc.crc r.bod.data.toList) 4).toArray⟩) := by show _ = _; unfold didS; rw [if_pos hd]
    rw [e0]
    clear e0 hd
    have HD : Hid (∀ W : World, (W.alloc (.cells #[.int .u8 0] 5)).ownsRow W.heap.size 5 1 (.slice (some ⟨W.heap.size, 0, none⟩) 1 1) 1 [.int .u8 0]) := fun W => ⟨rfl, .inr ⟨W.heap.size, 1, #[.int .u8 0], rfl, Nat.le_refl _, heap_alloc_new _ _, by decide, by decide, rfl, rfl⟩⟩
    have HC : Hid (Crc.crc r.bod.data.toList < 4294967296) := crc_lt _
    have HCK : Hid (∀ W, Below w.heap.size w W → Calls Tryz.prog 92 #[.string r.bod] W fun e w' => e = .returned (.int .u32 (Crc.crc r.bod.data.toList : Nat)) ∧ w' = W) := fun W hbW => check_any _ W hb (hT.below hbW h2)
    clear hT h2 hb
    generalize Crc.crc r.bod.data.toList = N at *
    have hN := HC.out
    go_enter Tryz.func216, Tryz.ntmps216
    go_wp2_with (go_at_call 92; refine (HCK.out _ (((Below.refl _ _).alloc (Nat.le_refl _) _).alloc (by simp) _)).mono ?_; rintro e w' ⟨rfl, rfl⟩)
    have ha := HD.out (w.alloc (.cells #[.int .u8 (r.op.toNat : Int), .int .u8 (r.q.toNat : Int), .int .u8 (r.d.toNat : Int), .int .i64 r.vis, .int .i64 r.win, .int .i64 r.rcv, .int .i64 r.quo, .int .i64 r.mx, .int .i64 r.tic, .string r.grp, .string ⟨#[]⟩, .string r.bod, .string r.att, .string r.han, .slice y.a y.n y.c] 27))
    rw [World.size_alloc] at ha
    refine (appendNumber_any (w.heap.size + 1) _ [0] N 4 _ hN (by decide) (by decide) (by simp) ha).mono ?_
    rintro e w2 ⟨v', rfl, ho, hbel⟩
    have hstr : (convert 74 9 v').run Tryz.prog w2 = .ok (.string ⟨(0 :: lowB N 4).toArray⟩) w2 := OwnB.str ho (by simp)
    have HBE : Hid (Below w.heap.size w w2) := (((Below.refl _ _).alloc (Nat.le_refl _) _).alloc (by simp) _).trans (hbel.mono (by omega))
    clear ha ho hbel
    go_wp2_with fail
    go_ret
    exact ⟨by rw [hdid.out]; rfl, HBE.out⟩
  · have hne := ne_nil _ hd
    have hdid : Hid (didS r = r.ded) := by show _ = _; unfold didS; rw [if_neg hd]
    clear hd
    go_enter Tryz.func216, Tryz.ntmps216
    go_wp2_with fail
    go_ret
    exact ⟨by rw [hdid.out]; rfl, (Below.refl _ _).alloc (Nat.le_refl _) _⟩
end Go.Proofs.YtbdobaapadlcjaaGreatDoor

namespace Go.Proofs.YtbdobaapadlcjaaGreatDoor
open Go.RowKit
set_option linter.unusedVariables false

/-- A record. -/
def recB (s : ByteArray) : List UInt8 := (lowB s.size 4 ++ lowB (Crc.crc s.data.toList) 4) ++ s.data.toList
theorem recB_length (s : ByteArray) : (recB s).length = 8 + s.size := by
  rw [recB, List.length_append, List.length_append, lowB_length, lowB_length]; rfl

set_option maxHeartbeats 1000000 in
theorem record_any (s : ByteArray) (w : World) (hs : s.size ≤ 1048576) (hT : Tab w) (h2 : 2 < w.heap.size) :
    Calls Tryz.prog 64 #[.slice none 0 0, .string s] w fun e w' => ∃ v, e = .returned v ∧ OwnB w' w.heap.size v (recB s) ∧ Below w.heap.size w w' := by
  obtain ⟨i0, hi, hz0, hz1, hz2⟩ := info_parts info5
  have hnum : Hid (Calls Tryz.prog 91 #[.slice none 0 0, .int .i64 (s.size : Int), .int .i64 4] w fun e w' => ∃ v', e = .returned v' ∧ OwnB w' w.heap.size v' ([] ++ lowB s.size 4) ∧ Below w.heap.size w w') :=
    appendNumber_any w.heap.size _ [] s.size 4 w (by omega) (by decide) (by decide) (Nat.le_refl _) (World.ownsRow_nil _ _ _ _)
  have HC : Hid (Crc.crc s.data.toList < 4294967296) := crc_lt _
  have HCK : Hid (∀ W, Below w.heap.size w W → Calls Tryz.prog 92 #[.string s] W fun e w' => e = .returned (.int .u32 (Crc.crc s.data.toList : Nat)) ∧ w' = W) := fun W hbW => check_any _ W (by unfold maxLen; omega) (hT.below hbW h2)
  have hrec : Hid (recB s = (([] ++ lowB s.size 4) ++ lowB (Crc.crc s.data.toList) 4) ++ s.data.toList) := by show _ = _; simp [recB]
  clear hT h2
  generalize Crc.crc s.data.toList = N at *
  have hN := HC.out
  go_enter Tryz.func64, Tryz.ntmps64
  go_wp2_with fail
  refine (hnum.out).mono ?_
  rintro e w1 ⟨v1, rfl, ho1, hb1⟩
  have HO : Hid (OwnB w1 w.heap.size v1 ([] ++ lowB s.size 4)) := ho1
  have HB : Hid (Below w.heap.size w w1) := hb1
  clear ho1 hb1
  go_wp2_with (go_at_call 92; refine (HCK.out _ HB.out).mono ?_; rintro e w' ⟨rfl, rfl⟩)
  refine (appendNumber_any w.heap.size _ _ N 4 _ hN (by decide) (by simp [lowB_length]) HB.out.size HO.out).mono ?_
  rintro e w2 ⟨v2, rfl, ho2, hb2⟩
  have hle : (([] ++ lowB s.size 4) ++ lowB N 4).length ≤ 100 := by simp [lowB_length]
  generalize (([] ++ lowB s.size 4) ++ lowB N 4) = L at ho2 hle hrec
  have HO2 : Hid (OwnB w2 w.heap.size v2 L) := ho2
  have HB2 : Hid (Below w.heap.size w w2) := HB.out.trans hb2
  have hsz := HB2.out.size
  clear ho2 hb2
  go_wp2_with (at_builtin; refine Lib.wpList_append_own_string _ rfl _ _ 74 9 rfl w.heap.size 5 i0 Tryz.underlying74 Tryz.underlying9 hi hz0 hz1 hz2 _ _ _ rfl HO2.out s rfl ?c1 ?c2 ?c3 ?_)
  case c1 => unfold maxLen; omega
  case c2 => omega
  case c3 => omega
  intro v' w3 hown' hgrow _
  have hr1 : OwnB w3 w.heap.size v' (recB s) := by
    rw [hrec.out]
    unfold OwnB
    have e1 : bytesV (L ++ s.data.toList) = bytesV L ++ Lib.strCells s := by rw [← bytesV_str]; simp [bytesV]
    have e2 : (L ++ s.data.toList).length = L.length + s.size := by rw [List.length_append]; rfl
    rw [e1, e2]
    exact hown'
  have hr2 : Below w.heap.size w w3 := by
    refine Below.grown HB2.out hgrow (by omega) ?_
    intro k hk
    exact (World.ownsRow.lt HO2.out k hk).1
  clear hown' hgrow
  go_wp2
  go_ret
  exact ⟨_, rfl, hr1, hr2⟩

abbrev jn : ByteArray := ⟨#[106, 111, 117, 114, 110, 97, 108]⟩
abbrev jw : ByteArray := ⟨#[106, 111, 117, 114, 110, 97, 108, 46, 110, 101, 119]⟩
/-- A disk that never stops. -/
abbrev Dd0 (w : World) (d : Nat) (v : Value) (fs : List Dk.DF) : Prop := Dk.Dsk w 110 116 d v ⟨fs, -1, false⟩
abbrev Gd0 (fs : List Dk.DF) (n k : Nat) : Prop := Dk.Good ⟨fs, -1, false⟩ n k
/-- What a step leaves. -/
def Stp (w w' : World) (d : Nat) (v : Value) (n k : Nat) : Prop := ∃ v' fs', Dd0 w' d v' fs' ∧ Gd0 fs' n k ∧ Tch (Dk.bl d v) w w' ∧ ∀ b, v'.ownBlock = some b → v.ownBlock = some b ∨ w.heap.size ≤ b

/-- A journal in j over a disk in d. -/
structure Jr (w : World) (j d : Nat) (room : Int) (v : Value) (fs : List Dk.DF) (n k : Nat) : Prop where
  hj : w.heap[j]? = some (.cells #[.pointer (some ⟨d, 0, none⟩), .int .i64 room, .bool false] 143 (0, 0))
  dsk : Dd0 w d v fs
  gd : Gd0 fs n k
/-- The blocks that it lies in. -/
def jbl (j d : Nat) (v : Value) : List Nat := j :: Dk.bl d v
theorem Jr.ne {w : World} {j d : Nat} {room : Int} {v : Value} {fs : List Dk.DF} {n k : Nat} (h : Jr w j d room v fs n k) : j ∉ Dk.bl d v := fun hm => by
  rcases List.mem_cons.1 hm with e | e
  · have h1 := h.hj
    have h2 : w.heap[d]? = _ := h.dsk.blk
    rw [← e, h1] at h2
    simp at h2
  · exact own_ne h.dsk.own h.hj (by decide) (by simpa [Option.mem_toList] using e)
theorem Jr.tch {w w' : World} {j d : Nat} {room : Int} {v : Value} {fs : List Dk.DF} {n k : Nat} (h : Jr w j d room v fs n k) {S : List Nat} (ht : Tch S w w') (hS : ∀ b ∈ jbl j d v, b ∉ S) : Jr w' j d room v fs n k :=
  ⟨(ht.block _ (lt_of_block h.hj) (hS _ (by simp [jbl]))).trans h.hj, h.dsk.tch ht (fun b hb => hS b (List.mem_cons_of_mem _ hb)), h.gd⟩
/-- A block of another type is none of these. -/
theorem Jr.apart {w : World} {j d : Nat} {room : Int} {v : Value} {fs : List Dk.DF} {n k : Nat} (h : Jr w j d room v fs n k) {b : Nat} {C : Array Value} {t : TypeId} (hb : w.heap[b]? = some (.cells C t (0, 0))) (h1 : 143 ≠ t) (h2 : 110 ≠ t) (h3 : 116 ≠ t) : b ∉ jbl j d v := fun hm => by
  rcases List.mem_cons.1 hm with e | e
  · have h0 := h.hj
    rw [← e, hb] at h0
    simp at h0
    exact h1 h0.2.symm
  · rcases List.mem_cons.1 e with e | e
    · have h0 : w.heap[d]? = _ := h.dsk.blk
      rw [← e, hb] at h0
      simp at h0
      exact h2 h0.2.symm
    · exact own_ne h.dsk.own hb h3 (by simpa [Option.mem_toList] using e)
/-- What a call leaves of the journal: its room, its bounds. -/
def Jl (w w' : World) (j d : Nat) (v : Value) (room : Int) (n k : Nat) : Prop := ∃ v' fs', Jr w' j d room v' fs' n k ∧ Tch (jbl j d v) w w' ∧ ∀ b, v'.ownBlock = some b → v.ownBlock = some b ∨ w.heap.size ≤ b

end Go.Proofs.YtbdobaapadlcjaaGreatDoor

namespace Go.Proofs.YtbdobaapadlcjaaGreatDoor
open Go.RowKit
set_option linter.unusedVariables false

theorem Jr.c0 {w : World} {j d : Nat} {room : Int} {v : Value} {fs : List Dk.DF} {n k : Nat} (h : Jr w j d room v fs n k) : w.cell? ⟨j, 0, none⟩ = some (.pointer (some ⟨d, 0, none⟩)) := (cell_of_row w j 0 _ 143 (0, 0) h.hj).trans rfl
theorem Jr.c1 {w : World} {j d : Nat} {room : Int} {v : Value} {fs : List Dk.DF} {n k : Nat} (h : Jr w j d room v fs n k) : w.cell? ⟨j, 1, none⟩ = some (.int .i64 room) := (cell_of_row w j 1 _ 143 (0, 0) h.hj).trans rfl
theorem Jr.c2 {w : World} {j d : Nat} {room : Int} {v : Value} {fs : List Dk.DF} {n k : Nat} (h : Jr w j d room v fs n k) : w.cell? ⟨j, 2, none⟩ = some (.bool false) := (cell_of_row w j 2 _ 143 (0, 0) h.hj).trans rfl
theorem Jr.fz {w : World} {j d : Nat} {room : Int} {v : Value} {fs : List Dk.DF} {n k : Nat} (h : Jr w j d room v fs n k) (o : Nat) : w.frozen? ⟨j, o, none⟩ = false := frozen_of_row w j o _ 143 h.hj
theorem Jr.tj {w : World} {j d : Nat} {room : Int} {v : Value} {fs : List Dk.DF} {n k : Nat} (h : Jr w j d room v fs n k) : ∀ b ∈ Dk.bl d v, b ∉ [j] := fun b hb hm => by
  simp at hm
  subst hm
  exact h.ne hb
theorem Jr.set1 {w : World} {j d : Nat} {room : Int} {v : Value} {fs : List Dk.DF} {n k : Nat} (h : Jr w j d room v fs n k) (r : Int) : Jr (w.setCell ⟨j, 1, none⟩ (.int .i64 r)) j d r v fs n k :=
  ⟨heap_setCell_same w j 1 _ 143 _ h.hj, h.dsk.tch ((Tch.refl [j] w).setCell (fun _ => by simp) _) h.tj, h.gd⟩
theorem Jr.set2 {w : World} {j d : Nat} {room : Int} {v : Value} {fs : List Dk.DF} {n k : Nat} (h : Jr w j d room v fs n k) : Jr (w.setCell ⟨j, 2, none⟩ (.bool false)) j d room v fs n k :=
  ⟨heap_setCell_same w j 2 _ 143 _ h.hj, h.dsk.tch ((Tch.refl [j] w).setCell (fun _ => by simp) _) h.tj, h.gd⟩

end Go.Proofs.YtbdobaapadlcjaaGreatDoor

namespace Go.Proofs.YtbdobaapadlcjaaGreatDoor
open Go.RowKit
set_option linter.unusedVariables false

theorem OwnB.slc {w : World} {base : Nat} {v : Value} {l : List UInt8} (h : OwnB w base v l) (hl : 0 < l.length) : ∃ g cap, v = .slice (some ⟨g, 0, none⟩) l.length cap := by
  rcases h.2 with ⟨rfl, h0⟩ | ⟨g, cap, cur, rfl, _⟩
  · omega
  · exact ⟨g, cap, rfl⟩

end Go.Proofs.YtbdobaapadlcjaaGreatDoor
