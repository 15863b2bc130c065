/-
  THE WALK of the statements' same (15), of two requests that are the same.
-/
import Derived.Test.YtbdobaapadlcjaaDoorBackF
import Derived.Deep.QuietTactic
import Derived.BigQuiet
namespace Go.Proofs.YtbdobaapadlcjaaDoor.Keep
open Go.RowKit
set_option linter.unusedVariables false

set_option maxRecDepth 100000 in
set_option maxHeartbeats 2000000 in
theorem same_yes (r : Wp.Rq) (xa ya : Option Addr) (xc yc : Nat) (bs : List ByteArray) (w : World) (hb : bs.length ≤ 1000) (hX : Strs w xa bs) (hY : Strs w ya bs) :
    Calls Tryd.prog 15 #[.agg (cellsOf r (.slice xa bs.length xc)), .agg (cellsOf r (.slice ya bs.length yc))] w fun e w' => e = .returned (.bool true) ∧ Below w.heap.size w w' := by
  have HX : Hid (Strs w xa bs) := hX
  have HY : Hid (Strs w ya bs) := hY
  have hnn : (((bs.length : Nat) : Int) != ((bs.length : Nat) : Int)) = false := by simp
  clear hX hY
  unfold cellsOf
  go_enter Tryd.func15, Tryd.ntmps15
  go_wp2_with fail
  go_loopw [5] (fun v wr => ∃ k : Nat, k ≤ bs.length ∧ v = .int .i64 k ∧ Below w.heap.size w wr ∧ Blk wr w.heap.size r ⟨xa, bs.length, xc⟩ ∧ Blk wr (w.heap.size + 1) r ⟨ya, bs.length, yc⟩) (fun v _ => bs.length - (intOf v).toNat)
  case atStart =>
    refine ⟨0, Nat.zero_le _, rfl, ((Below.refl _ _).alloc (Nat.le_refl _) _).alloc (by simp) _, ?_, ?_⟩
    · unfold Blk; rw [heap_alloc2_old]; rfl
    · unfold Blk; rw [heap_alloc2_new]; rfl
  case round =>
    obtain ⟨k, hk, rfl, hbw, hb1, hb2⟩ := hrel
    have HBW : Hid (Below w.heap.size w wr) := hbw
    have HB1 : Hid (Blk wr w.heap.size r ⟨xa, bs.length, xc⟩) := hb1
    have HB2 : Hid (Blk wr (w.heap.size + 1) r ⟨ya, bs.length, yc⟩) := hb2
    have h1 := hb1.box
    have h2 := hb2.box
    by_cases hlt : k < bs.length
    · obtain ⟨g1, o1, rfl, hc1⟩ := HX.out k hlt
      obtain ⟨g2, o2, rfl, hc2⟩ := HY.out k hlt
      have hg1 : g1 < w.heap.size := World.block_lt_of_cell? _ _ hc1
      have hg2 : g2 < w.heap.size := World.block_lt_of_cell? _ _ hc2
      have hd1 := (hbw.cell (p := ⟨g1, o1 + k, none⟩) hg1).trans hc1
      have hd2 := (hbw.cell (p := ⟨g2, o2 + k, none⟩) hg2).trans hc2
      have a14 : wr.cell? ⟨w.heap.size, 14, none⟩ = some (.slice (some ⟨g1, o1, none⟩) bs.length xc) := h1 14 _ rfl
      have b14 : wr.cell? ⟨w.heap.size + 1, 14, none⟩ = some (.slice (some ⟨g2, o2, none⟩) bs.length yc) := h2 14 _ rfl
      have hltI : (k : Int) < (bs.length : Int) := by omega
      generalize bs[k] = S at hd1 hd2 hc1 hc2
      have hss : (S.toList != S.toList) = false := by simp
      clear hbw hb1 hb2 h1 h2 hc1 hc2
      go_wp2_with fail
      go_quiet (fail)
      go_wp2_with fail
      go_roundw
      case rel => exact ⟨k + 1, by omega, by go_num, below_drewN HBW.out _, HB1.out, HB2.out⟩
      case measure => simp [intOf]; omega
    · have a0 : wr.cell? ⟨w.heap.size, 0, none⟩ = some (.int .u8 (r.op.toNat : Int)) := h1 0 _ rfl
      have b0 : wr.cell? ⟨w.heap.size + 1, 0, none⟩ = some (.int .u8 (r.op.toNat : Int)) := h2 0 _ rfl
      have a1 : wr.cell? ⟨w.heap.size, 1, none⟩ = some (.int .u8 (r.q.toNat : Int)) := h1 1 _ rfl
      have b1 : wr.cell? ⟨w.heap.size + 1, 1, none⟩ = some (.int .u8 (r.q.toNat : Int)) := h2 1 _ rfl
      have a2 : wr.cell? ⟨w.heap.size, 2, none⟩ = some (.int .u8 (r.d.toNat : Int)) := h1 2 _ rfl
      have b2 : wr.cell? ⟨w.heap.size + 1, 2, none⟩ = some (.int .u8 (r.d.toNat : Int)) := h2 2 _ rfl
      have a3 : wr.cell? ⟨w.heap.size, 3, none⟩ = some (.int .i64 r.vis) := h1 3 _ rfl
      have b3 : wr.cell? ⟨w.heap.size + 1, 3, none⟩ = some (.int .i64 r.vis) := h2 3 _ rfl
      have a4 : wr.cell? ⟨w.heap.size, 4, none⟩ = some (.int .i64 r.win) := h1 4 _ rfl
      have b4 : wr.cell? ⟨w.heap.size + 1, 4, none⟩ = some (.int .i64 r.win) := h2 4 _ rfl
      have a5 : wr.cell? ⟨w.heap.size, 5, none⟩ = some (.int .i64 r.rcv) := h1 5 _ rfl
      have b5 : wr.cell? ⟨w.heap.size + 1, 5, none⟩ = some (.int .i64 r.rcv) := h2 5 _ rfl
      have a6 : wr.cell? ⟨w.heap.size, 6, none⟩ = some (.int .i64 r.quo) := h1 6 _ rfl
      have b6 : wr.cell? ⟨w.heap.size + 1, 6, none⟩ = some (.int .i64 r.quo) := h2 6 _ rfl
      have a7 : wr.cell? ⟨w.heap.size, 7, none⟩ = some (.int .i64 r.mx) := h1 7 _ rfl
      have b7 : wr.cell? ⟨w.heap.size + 1, 7, none⟩ = some (.int .i64 r.mx) := h2 7 _ rfl
      have a8 : wr.cell? ⟨w.heap.size, 8, none⟩ = some (.int .i64 r.tic) := h1 8 _ rfl
      have b8 : wr.cell? ⟨w.heap.size + 1, 8, none⟩ = some (.int .i64 r.tic) := h2 8 _ rfl
      have a9 : wr.cell? ⟨w.heap.size, 9, none⟩ = some (.string r.grp) := h1 9 _ rfl
      have b9 : wr.cell? ⟨w.heap.size + 1, 9, none⟩ = some (.string r.grp) := h2 9 _ rfl
      have a10 : wr.cell? ⟨w.heap.size, 10, none⟩ = some (.string r.ded) := h1 10 _ rfl
      have b10 : wr.cell? ⟨w.heap.size + 1, 10, none⟩ = some (.string r.ded) := h2 10 _ rfl
      have a11 : wr.cell? ⟨w.heap.size, 11, none⟩ = some (.string r.bod) := h1 11 _ rfl
      have b11 : wr.cell? ⟨w.heap.size + 1, 11, none⟩ = some (.string r.bod) := h2 11 _ rfl
      have a12 : wr.cell? ⟨w.heap.size, 12, none⟩ = some (.string r.att) := h1 12 _ rfl
      have b12 : wr.cell? ⟨w.heap.size + 1, 12, none⟩ = some (.string r.att) := h2 12 _ rfl
      have a13 : wr.cell? ⟨w.heap.size, 13, none⟩ = some (.string r.han) := h1 13 _ rfl
      have b13 : wr.cell? ⟨w.heap.size + 1, 13, none⟩ = some (.string r.han) := h2 13 _ rfl
      have a14 : wr.cell? ⟨w.heap.size, 14, none⟩ = some (.slice xa bs.length xc) := h1 14 _ rfl
      have b14 : wr.cell? ⟨w.heap.size + 1, 14, none⟩ = some (.slice ya bs.length yc) := h2 14 _ rfl
      clear hbw hb1 hb2 h1 h2
      go_wp2_with fail
      go_ret
      exact ⟨ret_bool (by simp), HBW.out⟩
end Go.Proofs.YtbdobaapadlcjaaDoor.Keep
