/-
  THE WALKS of the statements' own small functions: letter (38), named (39), dedup (40), short (41).
-/
import Derived.Test.YtbdobaapadlcjaaGreatDoorCheckW
import Derived.Test.YtbdobaapadlcjaaGreatDoorBackE
namespace Go.Proofs.YtbdobaapadlcjaaGreatDoor.Keep
open Go.RowKit
set_option linter.unusedVariables false

/-- At most n bytes of a string. -/
def sh (s : ByteArray) (n : Nat) : ByteArray := if n < s.size then s.extract 0 n else s
theorem sh_size (s : ByteArray) (n : Nat) : (sh s n).size ≤ n := by
  unfold sh
  split
  · simp; omega
  · omega
theorem sh_pos (s : ByteArray) (n : Nat) (h : 0 < s.size) (hn : 0 < n) : 0 < (sh s n).size := by
  unfold sh
  split
  · simp; omega
  · exact h
set_option maxHeartbeats 400000 in
theorem short_any (s : ByteArray) (n : Nat) (w : World) (hs : s.size ≤ maxLen) (hn : n ≤ 1000) :
    Calls Tryz.prog 15 #[.string s, .int .i64 (n : Int)] w fun e w' => e = .returned (.string (sh s n)) ∧ w' = w := by
  unfold maxLen at hs
  by_cases h : n < s.size
  · have hv : Hid (sh s n = s.extract 0 n) := by show _ = _; rw [sh, if_pos h]
    go_enter Tryz.func15, Tryz.ntmps15
    go_wp2
    go_ret
    exact ⟨ret_str hv.out.symm, rfl⟩
  · have hv : Hid (sh s n = s) := by show _ = _; rw [sh, if_neg h]
    go_enter Tryz.func15, Tryz.ntmps15
    go_wp2
    go_ret
    exact ⟨ret_str hv.out.symm, rfl⟩
theorem letter_any (c : UInt8) (w : World) : Calls Tryz.prog 53 #[.int .u8 (c.toNat : Int)] w fun e w' => (∃ d : UInt8, e = .returned (.int .u8 (d.toNat : Int)) ∧ 97 ≤ d.toNat ∧ d.toNat ≤ 104) ∧ w' = w := by
  have hc := c.toNat_lt
  generalize c.toNat = n at hc
  go_enter Tryz.func53, Tryz.ntmps53
  go_wp2
  go_ret
  refine ⟨⟨UInt8.ofNat (97 + n % 8), ?_, ?_, ?_⟩, rfl⟩
  · have h : (UInt8.ofNat (97 + n % 8)).toNat = 97 + n % 8 := UInt8.toNat_ofNat_of_lt' (by show _ < 256; omega)
    rw [h]
    exact ret_int (by omega)
  · have h : (UInt8.ofNat (97 + n % 8)).toNat = 97 + n % 8 := UInt8.toNat_ofNat_of_lt' (by show _ < 256; omega)
    omega
  · have h : (UInt8.ofNat (97 + n % 8)).toNat = 97 + n % 8 := UInt8.toNat_ofNat_of_lt' (by show _ < 256; omega)
    omega
set_option maxHeartbeats 400000 in
theorem named_any (s : ByteArray) (w : World) (hs : s.size ≤ maxLen) :
    Calls Tryz.prog 16 #[.string s] w fun e w' => (∃ t : ByteArray, e = .returned (.string t) ∧ 1 ≤ t.size ∧ t.size ≤ 8) ∧ w' = w := by
  by_cases h : 0 < s.size
  · have he : s.toList.isEmpty = false := str_ne h
    have hsh : Hid (Calls Tryz.prog 15 #[.string s, .int .i64 8] w fun e w' => e = .returned (.string (sh s 8)) ∧ w' = w) := short_any s 8 w hs (by decide)
    go_enter Tryz.func16, Tryz.ntmps16
    go_wp2_with (go_at_call 15; refine (hsh.out).mono ?_; rintro e w' ⟨rfl, rfl⟩)
    go_ret
    exact ⟨⟨_, rfl, sh_pos s 8 h (by decide), sh_size s 8⟩, rfl⟩
  · have he : s.toList.isEmpty = true := str_em h
    go_enter Tryz.func16, Tryz.ntmps16
    go_wp2
    go_ret
    exact ⟨⟨_, rfl, by decide, by decide⟩, rfl⟩
theorem dedOk_head (s : ByteArray) (c : UInt8) (l : List UInt8) (h : s.data.toList = c :: l) (hc : c ≠ 0) : Wp.dedOk s = true := by
  unfold Wp.dedOk
  by_cases hs : 0 < s.size
  · rw [dif_pos hs]
    have e : s[0] = s.data.toList[0]'(by rw [h]; simp) := rfl
    have e2 : s.data.toList[0]'(by rw [h]; simp) = c := by simp [h]
    rw [e, e2]
    simpa using hc
  · rw [dif_neg hs]
set_option maxHeartbeats 400000 in
theorem dedup_any (s : ByteArray) (w : World) (hs : s.size ≤ maxLen) :
    Calls Tryz.prog 17 #[.string s] w fun e w' => (∃ t : ByteArray, e = .returned (.string t) ∧ t.size ≤ 8 ∧ Wp.dedOk t = true) ∧ w' = w := by
  have hsh : Hid (Calls Tryz.prog 15 #[.string s, .int .i64 8] w fun e w' => e = .returned (.string (sh s 8)) ∧ w' = w) := short_any s 8 w hs (by decide)
  have hz := sh_size s 8
  generalize sh s 8 = t at hsh hz
  by_cases h : 0 < t.size
  · have he : t.toList.isEmpty = false := str_ne h
    by_cases h0 : t[0] = 0
    · have hb : (((t[0].toNat : Nat) : Int) == 0) = true := by rw [h0]; rfl
      go_enter Tryz.func17, Tryz.ntmps17
      go_wp2_with (go_at_call 15; refine (hsh.out).mono ?_; rintro e w' ⟨rfl, rfl⟩)
      go_ret
      refine ⟨⟨_, rfl, ?_, ?_⟩, rfl⟩
      · simp [ByteArray.size_append]
        show 1 + _ ≤ 8
        omega
      · exact dedOk_head _ 48 (t.extract 1 t.size).data.toList (by simp [ByteArray.data_append]) (by decide)
    · have hb : (((t[0].toNat : Nat) : Int) == 0) = false := by
        rw [beq_eq_false_iff_ne]
        intro e
        exact h0 (UInt8.toNat_inj.1 (by simpa using e))
      go_enter Tryz.func17, Tryz.ntmps17
      go_wp2_with (go_at_call 15; refine (hsh.out).mono ?_; rintro e w' ⟨rfl, rfl⟩)
      go_ret
      exact ⟨⟨_, rfl, hz, by rw [Wp.dedOk, dif_pos h]; simpa using h0⟩, rfl⟩
  · have he : t.toList.isEmpty = true := str_em h
    go_enter Tryz.func17, Tryz.ntmps17
    go_wp2_with (go_at_call 15; refine (hsh.out).mono ?_; rintro e w' ⟨rfl, rfl⟩)
    go_ret
    exact ⟨⟨_, rfl, hz, by rw [Wp.dedOk, dif_neg h]⟩, rfl⟩
end Go.Proofs.YtbdobaapadlcjaaGreatDoor.Keep
