/-
  THE WALK of package wharfref's Check (31).
-/
import Derived.Test.YtbdobaapadlcjaaDoorCheckW
import Derived.Test.YtbdobaapadlcjaaDoorRfCrc
namespace Go.Proofs.YtbdobaapadlcjaaDoor
open Go.RowKit
theorem Crc.wrap_byte (b : UInt8) : wrap64 (b.toNat : Int) = (b.toNat : Int) := by
  have := b.toNat_lt
  simp [wrap64]
  omega
set_option maxHeartbeats 400000 in
theorem ref_check (s : ByteArray) (w : World) (hs : s.size ≤ maxLen) :
    Calls Tryd.prog 31 #[.string s] w fun e w' => e = .returned (.int .i64 (Crc.crc s.data.toList : Nat)) ∧ w' = w := by
  unfold maxLen at hs
  go_enter Tryd.func31, Tryd.ntmps31
  go_wp2
  go_loop [3, 4] (fun h i => ∃ k : Nat, k ≤ s.size ∧ i = .int .i64 k ∧ h = .int .i64 (Crc.run 4294967295 (s.data.toList.take k) : Nat)) (fun _ i => s.size - (intOf i).toNat)
  case atStart => exact ⟨0, Nat.zero_le _, rfl, rfl⟩
  case round =>
    obtain ⟨k, hk, rfl, rfl⟩ := hrel
    have hHl := Crc.run_lt (h := 4294967295) (s.data.toList.take k) (by decide)
    by_cases hlt : k < s.size
    · have hsn : Crc.run 4294967295 (s.data.toList.take (k + 1)) = Crc.step (Crc.run 4294967295 (s.data.toList.take k)) s[k] := by
        rw [← Crc.run_snoc, List.take_succ_eq_append_getElem (by simpa using hlt)]; rfl
      generalize Crc.run 4294967295 (s.data.toList.take k) = H at hHl hsn
      rw [Crc.step_bits] at hsn
      have e1 : bits .xor .i64 (H : Int) (wrap64 (s[k].toNat : Int)) = ((H ^^^ s[k].toNat : Nat) : Int) := by
        rw [Crc.wrap_byte]; exact Crc.xor_i64 _ _ hHl (Crc.byte_lt _)
      have l1 := Crc.xor_lt hHl (Crc.byte_lt s[k])
      generalize H ^^^ s[k].toNat = X at e1 hsn l1
      have HS : Hid (Crc.run 4294967295 (s.data.toList.take (k + 1)) = Crc.bstN 8 X) := hsn
      clear hsn
      go_wp2
      go_loop [3, 5] (fun h i => ∃ j : Nat, j ≤ 8 ∧ i = .int .i64 j ∧ h = .int .i64 (Crc.bstN j X : Nat)) (fun _ i => 8 - (intOf i).toNat)
      case atStart => exact ⟨0, Nat.zero_le _, rfl, rfl⟩
      case round =>
        obtain ⟨j, hj, rfl, rfl⟩ := hrel
        have hBl := Crc.bstN_lt j l1
        by_cases hjt : j < 8
        · have HB : Hid (Crc.bstN (j + 1) X = Crc.bst (Crc.bstN j X)) := rfl
          generalize Crc.bstN j X = Y at hBl HB
          rcases Crc.mod2 Y with ho | ho
          · rw [Crc.bst_even Y ho] at HB
            go_wp2
            go_round
            case rel => exact ⟨j + 1, by omega, by go_num, by rw [HB.out]; go_num⟩
            case measure => simp [intOf]; omega
          · rw [Crc.bst_odd Y ho] at HB
            have e2 : bits .xor .i64 ((Y : Int) / 2) 3988292384 = ((Y / 2 ^^^ 3988292384 : Nat) : Int) := Crc.xor_i64 (Y / 2) 3988292384 (by omega) (by decide)
            go_wp2
            go_round
            case rel => exact ⟨j + 1, by omega, by go_num, by rw [HB.out]⟩
            case measure => simp [intOf]; omega
        · have hj8 : j = 8 := by omega
          subst hj8
          go_wp2
          go_round
          case rel => exact ⟨k + 1, by omega, by go_num, by rw [HS.out]⟩
          case measure => simp [intOf]; omega
    · generalize hH : Crc.run 4294967295 (s.data.toList.take k) = H at hHl
      have HH : Hid (Crc.run 4294967295 (s.data.toList.take k) = H) := hH
      clear hH
      have n1 : bits .xor .i64 (H : Int) 4294967295 = ((H ^^^ 4294967295 : Nat) : Int) := Crc.xor_i64 H 4294967295 hHl (by decide)
      go_wp2
      go_ret
      exact ⟨ret_num (by first | rw [n1, Nat.xor_comm, Crc.not_sub H hHl, Crc.crc, ← HH.out, List.take_of_length_le (by simp; omega)] | rw [Nat.xor_comm, Crc.not_sub H hHl, Crc.crc, ← HH.out, List.take_of_length_le (by simp; omega)]), rfl⟩
end Go.Proofs.YtbdobaapadlcjaaDoor
