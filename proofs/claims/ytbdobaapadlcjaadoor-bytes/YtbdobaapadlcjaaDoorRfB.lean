/-
  THE WALKS of package wharfref's low (77), text (78), number (92), letter (73), in (75), rightBatch (76).
-/
import Derived.Test.YtbdobaapadlcjaaDoorWireK
import Derived.Test.YtbdobaapadlcjaaDoorRfA
namespace Go.Proofs.YtbdobaapadlcjaaDoor.Ref
open Go.RowKit
set_option linter.unusedVariables false

theorem str_nil (w : World) : (convert 48 9 (.slice none 0 0)).run Tryd.prog w = .ok (.string ⟨#[]⟩) w := by
  rw [run_convert_bytes_string w 48 9 5 _ 0 0 Tryd.underlying48 Tryd.underlying5 Tryd.underlying9]
  simp [Conv.bytesToString]
  rfl
theorem own_str {w : World} {base : Nat} {v : Value} {l : List UInt8} (h : OwnB w base v l) : (convert 48 9 v).run Tryd.prog w = .ok (.string ⟨l.toArray⟩) w := by
  by_cases hl : 0 < l.length
  · exact h.str hl
  · obtain rfl : l = [] := List.length_eq_zero_iff.1 (by omega)
    have h' := h
    obtain ⟨h1, h2⟩ := h
    rcases h2 with ⟨rfl, _⟩ | ⟨g, cap, cur, rfl, hg, hh, r⟩
    · exact str_nil w
    · refine run_convert_bytes_back (P := Tryd.prog) w 48 9 5 ⟨g, 0, none⟩ cap [] Tryd.underlying48 Tryd.underlying5 Tryd.underlying9 ?_
      intro j hj
      exact absurd hj (by simp)
set_option maxHeartbeats 1000000 in
theorem low_any (n size : Nat) (w : World) (hn : n < 4294967296) (hs : 0 < size) (hs8 : size ≤ 8) :
    Calls Tryd.prog 80 #[.int .i64 (n : Int), .int .i64 (size : Int)] w fun e w' => e = .returned (.string ⟨(lowB n size).toArray⟩) ∧ Below w.heap.size w w' := by
  obtain ⟨i0, hi, hz0, hz1, hz2⟩ := info_parts info5
  go_enter Tryd.func80, Tryd.ntmps80
  go_wp2
  go_loopw [0, 5, 6] (fun m o i wr => ∃ k : Nat, k ≤ size ∧ i = .int .i64 k ∧ m = .int .i64 ((n / 256 ^ k : Nat) : Int) ∧ OwnB wr w.heap.size o (lowB n k) ∧ Below w.heap.size w wr) (fun _ _ i _ => size - (intOf i).toNat)
  case atStart => exact ⟨0, Nat.zero_le _, rfl, by simp, World.ownsRow_nil _ _ _ _, Below.refl _ _⟩
  case round =>
    obtain ⟨k, hk, rfl, rfl, ho, hbr⟩ := hrel
    by_cases hlt : k < size
    · have hle : (lowB n k).length ≤ 8 := by rw [lowB_length]; omega
      have hm : n / 256 ^ k < 4294967296 := Nat.lt_of_le_of_lt (Nat.div_le_self _ _) hn
      have hdiv : Hid (n / 256 ^ (k + 1) = n / 256 ^ k / 256) := by
        show _ = _
        rw [Nat.pow_succ, Nat.div_div_eq_div_mul]
      have hsn := byte_cell (n / 256 ^ k)
      have HSN : Hid (Value.int .u8 (((n / 256 ^ k : Nat) : Int) % 256) = .int .u8 ((UInt8.ofNat (n / 256 ^ k % 256)).toNat : Int)) := hsn
      have hls : Hid (lowB n (k + 1) = lowB n k ++ [UInt8.ofNat (n / 256 ^ k % 256)]) := lowB_succ n k
      have HBR : Hid (Below w.heap.size w wr) := hbr
      have hsz := hbr.size
      clear hsn hbr
      generalize n / 256 ^ k = m at hm hdiv HSN hls
      generalize lowB n k = L at ho hle hls
      have HO : Hid (OwnB wr w.heap.size u5 L) := ho
      clear ho
      go_wp2_with (at_builtin; refine wpList_append_own _ rfl _ _ 48 rfl w.heap.size 5 i0 (.int .u8 0) 1 1 Tryd.underlying48 hi hz0 hz1 hz2 rfl (by decide) _ _ _ rfl (World.ownsRow.alloc HO.out _) ⟨wr.heap.size, 0, none⟩ 1 1 [.int .u8 ((m : Int) % 256)] rfl rfl ?c1 ?c2 ?c3 ?c4 ?c5 ?_)
      case c1 => exact cell_one_new _ _ _
      case c2 => intro u hu; simp at hu; subst hu; rfl
      case c3 => unfold maxLen; omega
      case c4 => omega
      case c5 => simp; omega
      intro v' w1 hown' hgrow _
      have hr1 : OwnB w1 w.heap.size v' (lowB n (k + 1)) := by rw [hls.out]; exact OwnB.snoc HSN.out hown'
      have hr2 : Below w.heap.size w w1 := by
        refine Below.grown ((HBR.out).alloc (by omega) _) hgrow (by simp; omega) ?_
        intro k hk
        exact (World.ownsRow.lt HO.out k hk).1
      clear hown' hgrow
      go_wp2
      go_roundw
      case rel => exact ⟨k + 1, by omega, by go_num, by rw [hdiv.out]; go_num, hr1, hr2⟩
      case measure => simp [intOf]; omega
    · have he : k = size := by omega
      subst he
      have hcv := own_str ho
      go_wp2
      trace_state
      go_ret
      exact ⟨rfl, hbr⟩

def txtS (s : ByteArray) : ByteArray := ⟨(txtB s).toArray⟩
theorem app_arr (l : List UInt8) (s : ByteArray) : (⟨l.toArray⟩ : ByteArray) ++ s = ⟨(l ++ s.data.toList).toArray⟩ := by
  apply ByteArray.ext
  apply Array.toList_inj.1
  simp [ByteArray.data_append]
theorem app_lists (l m : List UInt8) : (⟨l.toArray⟩ : ByteArray) ++ ⟨m.toArray⟩ = ⟨(l ++ m).toArray⟩ := app_arr l ⟨m.toArray⟩
set_option maxHeartbeats 1000000 in
theorem text_any (s : ByteArray) (w : World) (hs : s.size ≤ 255) :
    Calls Tryd.prog 81 #[.string s] w fun e w' => e = .returned (.string ⟨(txtB s).toArray⟩) ∧ Below w.heap.size w w' := by
  have hlow : Hid (Calls Tryd.prog 80 #[.int .i64 (s.size : Int), .int .i64 1] w fun e w' => e = .returned (.string ⟨(lowB s.size 1).toArray⟩) ∧ Below w.heap.size w w') := low_any s.size 1 w (by omega) (by decide) (by decide)
  have hv : Hid ((⟨(lowB s.size 1).toArray⟩ : ByteArray) ++ s = ⟨(txtB s).toArray⟩) := app_arr _ _
  have hsz : (⟨(lowB s.size 1).toArray⟩ : ByteArray).size = 1 := by show (lowB s.size 1).toArray.size = 1; simp [lowB_length]
  generalize (⟨(lowB s.size 1).toArray⟩ : ByteArray) = L at hlow hv hsz
  go_enter Tryd.func81, Tryd.ntmps81
  go_wp2_with (go_at_call 80; refine (hlow.out).mono ?_; rintro e w' ⟨rfl, hb⟩)
  go_ret
  exact ⟨ret_str hv.out, hb⟩
theorem leN_drop (s : ByteArray) (k : Nat) (h : k < s.size) : leN (s.data.toList.drop k) = s[k].toNat + 256 * leN (s.data.toList.drop (k + 1)) := by
  rw [List.drop_eq_getElem_cons (by simpa using h)]
  rfl
set_option maxHeartbeats 1000000 in
theorem number_any (s : ByteArray) (w : World) (hs : s.size ≤ 2) :
    Calls Tryd.prog 95 #[.string s] w fun e w' => e = .returned (.int .i64 (leN s.data.toList : Nat)) ∧ w' = w := by
  go_enter Tryd.func95, Tryd.ntmps95
  go_wp2
  go_loop [3, 4] (fun n i => ∃ k : Nat, k ≤ s.size ∧ i = .int .i64 ((k : Int) - 1) ∧ n = .int .i64 (leN (s.data.toList.drop k) : Nat)) (fun _ i => (intOf i + 1).toNat)
  case atStart => exact ⟨s.size, Nat.le_refl _, rfl, by rw [List.drop_of_length_le (by simp)]; rfl⟩
  case round =>
    obtain ⟨k, hk, rfl, rfl⟩ := hrel
    by_cases hlt : 0 < k
    · obtain ⟨m, rfl⟩ : ∃ m, k = m + 1 := ⟨k - 1, by omega⟩
      have hb := Crc.wrap_byte s[m]
      have hr := leN_lt (s.data.toList.drop (m + 1))
      have hl : (s.data.toList.drop (m + 1)).length ≤ 1 := by simp; omega
      have hr2 : leN (s.data.toList.drop (m + 1)) < 256 := Nat.lt_of_lt_of_le hr (Nat.pow_le_pow_right (by decide) hl)
      have hv : Hid (leN (s.data.toList.drop m) = s[m].toNat + 256 * leN (s.data.toList.drop (m + 1))) := leN_drop s m (by omega)
      have hbl := s[m].toNat_lt
      generalize leN (s.data.toList.drop (m + 1)) = N at hr2 hv
      clear hr hl
      have hix : ((m + 1 : Nat) : Int) - 1 = (m : Int) := by omega
      rw [hix]
      go_wp2
      go_round
      case rel => exact ⟨m, by omega, by go_num, by rw [hv.out]; go_num⟩
      case measure => simp [intOf]
    · obtain rfl : k = 0 := by omega
      go_wp2
      go_ret
      exact ⟨rfl, rfl⟩
theorem in_any (n lo hi : Int) (w : World) :
    Calls Tryd.prog 78 #[.int .i64 n, .int .i64 lo, .int .i64 hi] w fun e w' => e = .returned (.bool (decide (lo ≤ n) && decide (n ≤ hi))) ∧ w' = w := by
  by_cases h : lo ≤ n
  · have hv : Hid ((decide (lo ≤ n) && decide (n ≤ hi)) = decide (n ≤ hi)) := by show _ = _; simp [h]
    go_enter Tryd.func78, Tryd.ntmps78
    go_wp2
    go_ret
    exact ⟨ret_bool (by rw [hv.out]), rfl⟩
  · have hv : Hid ((decide (lo ≤ n) && decide (n ≤ hi)) = false) := by show _ = _; simp [h]
    go_enter Tryd.func78, Tryd.ntmps78
    go_wp2
    go_ret
    exact ⟨ret_bool (by rw [hv.out]), rfl⟩
theorem letter_any (c : UInt8) (w : World) :
    Calls Tryd.prog 76 #[.int .u8 (c.toNat : Int)] w fun e w' => e = .returned (.bool (decide (97 ≤ c.toNat) && decide (c.toNat ≤ 104))) ∧ w' = w := by
  have hc := c.toNat_lt
  generalize c.toNat = n at hc
  by_cases h : 97 ≤ n
  · have hv : Hid ((decide (97 ≤ n) && decide (n ≤ 104)) = decide (n ≤ 104)) := by show _ = _; simp [h]
    go_enter Tryd.func76, Tryd.ntmps76
    go_wp2
    go_ret
    exact ⟨ret_bool (by rw [hv.out]; simp; omega), rfl⟩
  · have hv : Hid ((decide (97 ≤ n) && decide (n ≤ 104)) = false) := by show _ = _; simp [h]
    go_enter Tryd.func76, Tryd.ntmps76
    go_wp2
    go_ret
    exact ⟨rfl, rfl⟩
end Go.Proofs.YtbdobaapadlcjaaDoor.Ref
