/-
  THE WALK of the statement's own still (36).
-/
import Derived.Test.YtbdobaapadlcjaaDoorRfP
import Derived.Test.YtbdobaapadlcjaaDoorRfJ
import Derived.Deep.QuietTactic
import Derived.BigQuiet
namespace Go.Proofs.YtbdobaapadlcjaaDoor.Ref
open Go.RowKit
set_option linter.unusedVariables false

set_option maxRecDepth 100000 in
set_option maxHeartbeats 1000000 in
theorem still_any (B g : Nat) (a : Option Addr) (c : Nat) (bs : List ByteArray) (w : World) (hb : bs.length ≤ 8796093022208) (hS : Strs w a bs) (hg : B ≤ g) (hlow : ∀ j, j < bs.length → ∃ b o, a = some ⟨b, o, none⟩ ∧ b < B)
    (hR : w.heap[g]? = some (.cells ((bs ++ [behind]).map Value.string).toArray 9 (0, 0))) :
    Calls Tryd.prog 36 #[.slice (some ⟨g, 0, none⟩) (bs.length + 1) (bs.length + 1), .slice a bs.length c] w fun e w' => e = .returned (.bool true) ∧ Below B w w' := by
  have HS : Hid (Strs w a bs) := hS
  have HLO : Hid (∀ j, j < bs.length → ∃ b o, a = some ⟨b, o, none⟩ ∧ b < B) := hlow
  have HR : Hid (w.heap[g]? = some (.cells ((bs ++ [behind]).map Value.string).toArray 9 (0, 0))) := hR
  have HC : Hid (∀ k (h : k < bs.length), w.cell? ⟨g, k, none⟩ = some (.string bs[k])) := fun k h => (cell_of_row w g k _ 9 (0, 0) hR).trans (by rw [List.getElem?_toArray, List.map_append, List.getElem?_append_left (by simpa using h)]; simp [h])
  have hcb : w.cell? ⟨g, bs.length, none⟩ = some (.string ⟨#[98, 101, 104, 105, 110, 100]⟩) := (cell_of_row w g bs.length _ 9 (0, 0) hR).trans (by simp [behind])
  clear hS hlow hR
  go_enter Tryd.func36, Tryd.ntmps36
  go_wp2_with fail
  go_loopw [6, 7] (fun v i wr => ∃ k : Nat, k ≤ bs.length ∧ i = .int .i64 k ∧ v = .bool true ∧ ∃ m, wr = w.drewN m) (fun _ i _ => bs.length - (intOf i).toNat)
  case atStart => exact ⟨0, Nat.zero_le _, rfl, rfl, 0, rfl⟩
  case round =>
    obtain ⟨k, hk, rfl, rfl, m, rfl⟩ := hrel
    by_cases hlt : k < bs.length
    · obtain ⟨b, o, rfl, hc⟩ := HS.out k hlt
      have hd := HC.out k hlt
      generalize bs[k] = S at hc hd
      have hss : (S.toList == S.toList) = true := by simp
      go_wp2_with fail
      go_quiet (fail)
      go_wp2_with fail
      go_roundw
      case rel => exact ⟨k + 1, by omega, by go_num, by simp, _, rfl⟩
      case measure => simp [intOf]; omega
    · have hltI : ¬ (k : Int) < (bs.length : Int) := by omega
      go_wp2_with fail
      go_loopw [8] (fun i wr => ∃ (k : Nat) (R : Array Value), k ≤ bs.length + 1 ∧ i = .int .i64 k ∧ R.size = bs.length + 1 ∧ wr.heap[g]? = some (.cells R 9 (0, 0)) ∧ Below B w wr) (fun i _ => bs.length + 1 - (intOf i).toNat)
      case atStart => exact ⟨0, _, Nat.zero_le _, rfl, by simp, HR.out, below_drewN (Below.refl _ _) _⟩
      case round =>
        obtain ⟨j, R, hj, rfl, hRs, hrow, hbw⟩ := hrel
        by_cases hjl : j < bs.length + 1
        · obtain ⟨vj, hvj⟩ : ∃ v, R[j]? = some v := ⟨R[j], by simp [hRs, hjl]⟩
          have hjI : (j : Int) < (bs.length : Int) + 1 := by omega
          have hcn : (((UInt8.ofNat (97 + j % 8)).toNat : Nat) : Int) = 97 + (j : Int) % 8 := by
            rw [UInt8.toNat_ofNat_of_lt' (by show _ < 256; omega)]; omega
          have hcv := conv_one wr wr.heap.size (UInt8.ofNat (97 + j % 8)) rfl
          rw [hcn] at hcv
          have hz : (b1 (UInt8.ofNat (97 + j % 8))).size = 1 := rfl
          generalize b1 (UInt8.ofNat (97 + j % 8)) = T at hcv hz
          have hgw : g < wr.heap.size := (Array.getElem?_eq_some_iff.1 hrow).1
          have hrow2 : (wr.alloc (.cells #[.int .u8 (97 + (j : Int) % 8)] 5)).heap[g]? = some (.cells R 9 (0, 0)) := (Below.heap_alloc _ _ _ hgw).trans hrow
          have hbw2 : Below B w (wr.alloc (.cells #[.int .u8 (97 + (j : Int) % 8)] 5)) := hbw.alloc (by omega) _
          have hcj2 : (wr.alloc (.cells #[.int .u8 (97 + (j : Int) % 8)] 5)).cell? ⟨g, j, none⟩ = some vj := (cell_of_row _ g j _ 9 (0, 0) hrow2).trans hvj
          have hfj2 := frozen_of_row _ g j _ 9 hrow2
          have HF : Hid (∀ v, ((wr.setCell ⟨g, j, none⟩ v).alloc (.cells #[.int .u8 (97 + (j : Int) % 8)] 5)).heap[g]? = some (.cells (R.setIfInBounds j v) 9 (0, 0)) ∧ Below B w ((wr.setCell ⟨g, j, none⟩ v).alloc (.cells #[.int .u8 (97 + (j : Int) % 8)] 5))) := fun v => ⟨(Below.heap_alloc _ _ _ (by simpa using hgw)).trans (heap_setCell_same _ g j _ 9 v hrow), (hbw.setCell hg v).alloc (by rw [World.size_setCell]; omega) _⟩
          clear hrow hrow2 hbw hbw2 hcn hvj
          go_wp2_with fail
          go_roundw
          case rel => exact ⟨j + 1, _, by omega, by go_num, by simp [hRs], (HF.out _).1, (HF.out _).2⟩
          case measure => simp [intOf]; omega
        · have hjI : ¬ (j : Int) < (bs.length : Int) + 1 := by omega
          have HBW : Hid (Below B w wr) := hbw
          clear hrow hbw
          go_wp2_with fail
          go_ret
          exact ⟨rfl, HBW.out⟩
end Go.Proofs.YtbdobaapadlcjaaDoor.Ref
