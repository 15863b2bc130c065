/-
  THE WALK of queue.dedupID (156).
-/
import Derived.Test.YtbdobaapadlcjaaGreatDoorWireG
import Derived.Test.YtbdobaapadlcjaaGreatDoorCheckW
import Derived.Lib.Bytes
namespace Go.Proofs.YtbdobaapadlcjaaGreatDoor
open Go.RowKit

/-- The id of what is sent. -/
def didS (r : Wp.Rq) : ByteArray := if r.ded.size = 0 then ⟨(0 :: lowB (Crc.crc r.bod.data.toList) 4).toArray⟩ else r.ded

theorem toList_nil (s : ByteArray) (h : s.size = 0) : s = ⟨#[]⟩ := by
  have h1 : s.data.size = 0 := h
  have h2 : s.data = #[] := Array.eq_empty_of_size_eq_zero h1
  cases s
  simp at h2
  rw [h2]
theorem ne_nil (s : ByteArray) (h : s.size ≠ 0) : s.toList.isEmpty = false := by
  rw [Lib.toList_data]
  cases hl : s.data.toList with
  | nil => exact absurd (show s.size = 0 by rw [ByteArray.size, ← Array.length_toList, hl]; rfl) h
  | cons a l => rfl

theorem crc_lt (l : List UInt8) : Crc.crc l < 4294967296 := by
  show 4294967295 - _ < 4294967296
  omega

set_option maxHeartbeats 1000000 in
theorem dedupID_any (r : Wp.Rq) (y : Sl) (w : World) (hb : r.bod.size ≤ maxLen) (hT : Tab w) (h2 : 2 < w.heap.size) :
    Calls Tryz.prog 216 #[.agg (cellsOf r y.v)] w fun e w' => e = .returned (.string (didS r)) ∧ Below w.heap.size w w' := by
  rw [show cellsOf r y.v = #[.int .u8 (r.op.toNat : Int), .int .u8 (r.q.toNat : Int), .int .u8 (r.d.toNat : Int), .int .i64 r.vis, .int .i64 r.win, .int .i64 r.rcv, .int .i64 r.quo, .int .i64 r.mx, .int .i64 r.tic, .string r.grp, .string r.ded, .string r.bod, .string r.att, .string r.han, .slice y.a y.n y.c] from rfl]
  by_cases hd : r.ded.size = 0
  · have e0 : r.ded = ⟨#[]⟩ := toList_nil _ hd
    have hdid : Hid (didS r = ⟨(0 :: lowB (Crc.crc r.bod.data.toList) 4).toArray⟩) := by show _ = _; unfold didS; rw [if_pos hd]
    rw [e0]
    clear e0 hd
    have HD : Hid (∀ W : World, (W.alloc (.cells #[.int .u8 0] 5)).ownsRow W.heap.size 5 1 (.slice (some ⟨W.heap.size, 0, none⟩) 1 1) 1 [.int .u8 0]) := fun W => ⟨rfl, .inr ⟨W.heap.size, 1, #[.int .u8 0], rfl, Nat.le_refl _, heap_alloc_new _ _, by decide, by decide, rfl, rfl⟩⟩
    have HC : Hid (Crc.crc r.bod.data.toList < 4294967296) := crc_lt _
    have HCK : Hid (∀ W, Below w.heap.size w W → Calls Tryz.prog 92 #[.string r.bod] W fun e w' => e = .returned (.int .u32 (Crc.crc r.bod.data.toList : Nat)) ∧ w' = W) := fun W hbW => check_any _ W hb (hT.below hbW h2)
    clear hT h2 hb
    generalize Crc.crc r.bod.data.toList = N at *
    have hN := HC.out
    go_enter Tryz.func216, Tryz.ntmps216
    go_wp2_with (go_at_call 92; refine (HCK.out _ (((Below.refl _ _).alloc (Nat.le_refl _) _).alloc (by simp) _)).mono ?_; rintro e w' ⟨rfl, rfl⟩)
    have ha := HD.out (w.alloc (.cells #[.int .u8 (r.op.toNat : Int), .int .u8 (r.q.toNat : Int), .int .u8 (r.d.toNat : Int), .int .i64 r.vis, .int .i64 r.win, .int .i64 r.rcv, .int .i64 r.quo, .int .i64 r.mx, .int .i64 r.tic, .string r.grp, .string ⟨#[]⟩, .string r.bod, .string r.att, .string r.han, .slice y.a y.n y.c] 27))
    rw [World.size_alloc] at ha
    refine (appendNumber_any (w.heap.size + 1) _ [0] N 4 _ hN (by decide) (by decide) (by simp) ha).mono ?_
    rintro e w2 ⟨v', rfl, ho, hbel⟩
    have hstr : (convert 74 9 v').run Tryz.prog w2 = .ok (.string ⟨(0 :: lowB N 4).toArray⟩) w2 := OwnB.str ho (by simp)
    have HBE : Hid (Below w.heap.size w w2) := (((Below.refl _ _).alloc (Nat.le_refl _) _).alloc (by simp) _).trans (hbel.mono (by omega))
    clear ha ho hbel
    go_wp2_with fail
    go_ret
    exact ⟨by rw [hdid.out]; rfl, HBE.out⟩
  · have hne := ne_nil _ hd
    have hdid : Hid (didS r = r.ded) := by show _ = _; unfold didS; rw [if_neg hd]
    clear hd
    go_enter Tryz.func216, Tryz.ntmps216
    go_wp2_with fail
    go_ret
    exact ⟨by rw [hdid.out]; rfl, (Below.refl _ _).alloc (Nat.le_refl _) _⟩
end Go.Proofs.YtbdobaapadlcjaaGreatDoor
