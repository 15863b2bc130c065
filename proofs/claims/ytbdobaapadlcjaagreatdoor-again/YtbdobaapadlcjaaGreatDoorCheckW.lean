/-
  THE WALKS: package wire's Check (function 18), package wharf's (7), and the statements' own 'pick' (17).
-/
import Derived.Test.YtbdobaapadlcjaaGreatDoorProg
import Derived.Test.YtbdobaapadlcjaaGreatDoorCrc
import Derived.WalkKit
import Derived.WalkSpells
import Derived.WalkLawsBesides
import Derived.Outline
import Derived.Below
namespace Go.Proofs.YtbdobaapadlcjaaGreatDoor
open Go.RowKit
theorem ret_num {k : IntKind} {a b : Int} (h : a = b) : Ending.returned (.int k a) = .returned (.int k b) := by rw [h]
set_option maxHeartbeats 400000 in
theorem check_any (s : ByteArray) (w : World) (hs : s.size ≤ maxLen) (hT : ∀ i : Nat, i < 16 → w.cell? ⟨2, i, none⟩ = some (.int .u32 (Crc.tab.getD i 0 : Nat))) :
    Calls Tryz.prog 92 #[.string s] w fun e w' => e = .returned (.int .u32 (Crc.crc s.data.toList : Nat)) ∧ w' = w := by
  unfold maxLen at hs
  go_enter Tryz.func92, Tryz.ntmps92
  go_wp2
  go_loop [3, 7] (fun h i => ∃ k : Nat, k ≤ s.size ∧ i = .int .i64 k ∧ h = .int .u32 (Crc.run 4294967295 (s.data.toList.take k) : Nat)) (fun _ i => s.size - (intOf i).toNat)
  case atStart => exact ⟨0, Nat.zero_le _, rfl, rfl⟩
  case round =>
    obtain ⟨k, hk, rfl, rfl⟩ := hrel
    have hHl := Crc.run_lt (h := 4294967295) (s.data.toList.take k) (by decide)
    by_cases hlt : k < s.size
    · have hsn : Crc.run 4294967295 (s.data.toList.take (k + 1)) = Crc.step (Crc.run 4294967295 (s.data.toList.take k)) s[k] := by
        rw [← Crc.run_snoc, List.take_succ_eq_append_getElem (by simpa using hlt)]; rfl
      generalize Crc.run 4294967295 (s.data.toList.take k) = H at hHl hsn
      unfold Crc.step at hsn
      have e1 : bits .xor .u32 (H : Int) ((s[k].toNat : Int) % 4294967296) = ((H ^^^ s[k].toNat : Nat) : Int) := by
        rw [Int.emod_eq_of_lt (by omega) (by have := s[k].toNat_lt; omega)]
        exact Crc.xor_u32 _ _ hHl (Crc.byte_lt _)
      have l1 := Crc.xor_lt hHl (Crc.byte_lt s[k])
      generalize H ^^^ s[k].toNat = X1 at e1 hsn l1
      have a1 := Crc.and_u32 X1 l1
      have c1 := hT (X1 % 16) (Nat.mod_lt _ (by decide))
      have m1 : X1 % 16 < 16 := Nat.mod_lt _ (by decide)
      have t1 := Crc.tab_lt (X1 % 16)
      have x1 : bits .xor .u32 ((X1 : Int) / 16) ((Crc.tab.getD (X1 % 16) 0 : Nat) : Int) = ((Crc.half X1 : Nat) : Int) := by
        have := Crc.xor_u32 (X1 / 16) _ (by omega) t1
        rw [show ((X1 / 16 : Nat) : Int) = (X1 : Int) / 16 by omega] at this
        exact this
      have l2 := Crc.half_lt l1
      generalize Crc.half X1 = X2 at hsn x1 l2
      generalize Crc.tab.getD (X1 % 16) 0 = T1 at c1 x1 t1
      generalize X1 % 16 = J1 at a1 c1 m1
      have a2 := Crc.and_u32 X2 l2
      have c2 := hT (X2 % 16) (Nat.mod_lt _ (by decide))
      have m2 : X2 % 16 < 16 := Nat.mod_lt _ (by decide)
      have t2 := Crc.tab_lt (X2 % 16)
      have x2 : bits .xor .u32 ((X2 : Int) / 16) ((Crc.tab.getD (X2 % 16) 0 : Nat) : Int) = ((Crc.half X2 : Nat) : Int) := by
        have := Crc.xor_u32 (X2 / 16) _ (by omega) t2
        rw [show ((X2 / 16 : Nat) : Int) = (X2 : Int) / 16 by omega] at this
        exact this
      generalize Crc.half X2 = X3 at hsn x2
      generalize Crc.tab.getD (X2 % 16) 0 = T2 at c2 x2 t2
      generalize X2 % 16 = J2 at a2 c2 m2
      have HS : Hid (Crc.run 4294967295 (s.data.toList.take (k + 1)) = X3) := hsn
      clear hsn hT
      go_wp2
      go_round
      case rel => exact ⟨k + 1, by omega, by go_num, by rw [HS.out]⟩
      case measure => simp [intOf]; omega
    · generalize hH : Crc.run 4294967295 (s.data.toList.take k) = H at hHl
      have HH : Hid (Crc.run 4294967295 (s.data.toList.take k) = H) := hH
      clear hH
      have n1 : bits .xor .u32 IntKind.u32.max (H : Int) = ((4294967295 - H : Nat) : Int) := Crc.not_u32 H hHl
      go_wp2
      go_ret
      exact ⟨ret_num (by rw [Crc.crc, ← HH.out, List.take_of_length_le (by simp; omega)]), rfl⟩

/-- The table's cells, as package wire lays them. -/
def Tab (w : World) : Prop := ∀ i : Nat, i < 16 → w.cell? ⟨2, i, none⟩ = some (.int .u32 (Crc.tab.getD i 0 : Nat))
theorem Tab.below {B : Nat} {w w' : World} (h : Tab w) (hb : Below B w w') (hB : 2 < B) : Tab w' := fun i hi => (hb.cell (p := ⟨2, i, none⟩) hB).trans (h i hi)

theorem wharf_check (s : ByteArray) (w : World) (hs : s.size ≤ maxLen) (hT : Tab w) :
    Calls Tryz.prog 68 #[.string s] w fun e w' => e = .returned (.int .u32 (Crc.crc s.data.toList : Nat)) ∧ w' = w := by
  go_enter Tryz.func68, Tryz.ntmps68
  go_wp2_with (go_at_call 92; refine (check_any _ _ hs hT).mono ?_; rintro e w' ⟨rfl, rfl⟩)
  go_ret
  exact ⟨rfl, rfl⟩

/-- Which of n things the raw number c speaks of. -/
def pk (c n : Int) : Int := (if c < 0 then -(c + 1) else c) % n
theorem pk_nonneg (c n : Int) (hn : 0 < n) : 0 ≤ pk c n := Int.emod_nonneg _ (by omega)
theorem pk_lt (c n : Int) (hn : 0 < n) : pk c n < n := Int.emod_lt_of_pos _ hn
theorem pk_neg (c n : Int) (hc : c < 0) : -((c + 1).tmod n) = pk c n := by
  rw [pk, if_pos hc, ← Int.neg_tmod, Int.tmod_eq_emod_of_nonneg (by omega)]
theorem pk_pos (c n : Int) (hc : ¬ c < 0) : c % n = pk c n := by rw [pk, if_neg hc]
theorem pick_any (c n : Int) (w : World) (h1 : -9223372036854775808 ≤ c) (h2 : c ≤ 9223372036854775807) (hn : 0 < n) (hm : n ≤ 9223372036854775807) :
    Calls Tryz.prog 14 #[.int .i64 c, .int .i64 n] w fun e w' => e = .returned (.int .i64 (pk c n)) ∧ w' = w := by
  have hz : ¬ n = 0 := by omega
  by_cases hc : c < 0
  · go_enter Tryz.func14, Tryz.ntmps14
    go_wp2
    go_ret
    exact ⟨ret_num (pk_neg c n hc), rfl⟩
  · go_enter Tryz.func14, Tryz.ntmps14
    go_wp2
    go_ret
    exact ⟨ret_num (pk_pos c n (by omega)), rfl⟩
end Go.Proofs.YtbdobaapadlcjaaGreatDoor
