import Derived.Test.YtbdobaapadlcjaaGreatDoorOx00
import Derived.Deep.QuietTactic
import Derived.BigQuiet
namespace Go.Proofs.YtbdobaapadlcjaaGreatDoor
open Go.RowKit
set_option linter.unusedVariables false
set_option linter.unusedSimpArgs false
def Strs (w : World) (a : Option Addr) (bs : List ByteArray) : Prop :=
  ∀ j (h : j < bs.length), ∃ b o, a = some ⟨b, o, none⟩ ∧ w.cell? ⟨b, o + j, none⟩ = some (.string bs[j])
set_option maxHeartbeats 400000 in
theorem allShort_any (a : Option Addr) (cap : Nat) (bs : List ByteArray) (w : World) (hn : bs.length ≤ maxLen) (hs : Strs w a bs) :
    Calls Tryz.prog 148 #[.slice a bs.length cap] w fun e w' => e = .returned (.bool (Wp.short bs)) ∧ w' = w := by
  unfold maxLen at hn
  go_enter Tryz.func148, Tryz.ntmps148
  go_wp2
  go_loop [7] (fun i => ∃ k : Nat, k ≤ bs.length ∧ i = .int .i64 k ∧ Wp.short (bs.take k) = true) (fun i => bs.length - (intOf i).toNat)
  case atStart => exact ⟨0, Nat.zero_le _, rfl, rfl⟩
  case round =>
    obtain ⟨k, hk, rfl, hsh⟩ := hrel
    by_cases hlt : k < bs.length
    · obtain ⟨b, o, rfl, hc⟩ := hs k hlt
      have hd : bs = bs.take k ++ bs[k] :: bs.drop (k + 1) := by
        rw [List.getElem_cons_drop, List.take_append_drop]
      have ht : bs.take (k + 1) = bs.take k ++ [bs[k]] := by rw [List.take_succ_eq_append_getElem hlt]
      have hsz : Hid (Wp.short (bs.take (k + 1)) = decide (bs[k].size ≤ 255)) := by
        show Wp.short (bs.take (k + 1)) = _
        rw [ht]; unfold Wp.short at hsh ⊢; rw [List.all_append, hsh]; simp
      have hno : Hid (bs[k].size ≤ 255 ∨ Wp.short bs = false) := by
        show bs[k].size ≤ 255 ∨ _
        by_cases h : bs[k].size ≤ 255
        · exact Or.inl h
        · right; unfold Wp.short; rw [List.all_eq_false]; exact ⟨bs[k], List.getElem_mem _, by simpa using h⟩
      clear hd ht hs hsh
      generalize bs[k] = x at hc hsz hno
      by_cases hx : x.size ≤ 255
      · go_wp2
        go_round
        case rel => exact ⟨k + 1, by omega, by go_num, by rw [hsz.out]; simpa using hx⟩
        case measure => simp [intOf]; omega
      · go_wp2
        go_ret
        exact ⟨ret_bool (hno.out.resolve_left hx).symm, rfl⟩
    · have hsh' : Hid (Wp.short bs = true) := by
        show Wp.short bs = true
        rw [List.take_of_length_le (by omega)] at hsh; exact hsh
      clear hsh
      go_wp2
      go_ret
      exact ⟨ret_bool hsh'.out.symm, rfl⟩
theorem str_ne {s : ByteArray} (h : 0 < s.size) : s.toList.isEmpty = false := by
  rw [ByteArray.toList_eq]
  have h' : 0 < s.data.toList.length := h
  cases hl : s.data.toList with
  | nil => rw [hl] at h'; simp at h'
  | cons _ _ => rfl
theorem str_em {s : ByteArray} (h : ¬ 0 < s.size) : s.toList.isEmpty = true := by
  rw [ByteArray.toList_eq]
  have h' : ¬ 0 < s.data.toList.length := h
  cases hl : s.data.toList with
  | nil => rfl
  | cons _ _ => rw [hl] at h'; simp at h'
theorem dedOk_some (s : ByteArray) (h : 0 < s.size) : Wp.dedOk s = (((s[0].toNat : Nat) : Int) != 0) := by
  unfold Wp.dedOk
  rw [dif_pos h, Bool.eq_iff_iff, bne_iff_ne, bne_iff_ne]
  exact ⟨fun h1 e => h1 (UInt8.toNat_inj.1 (by simpa using e)), fun h1 e => h1 (by rw [e]; rfl)⟩
theorem dedOk_none (s : ByteArray) (h : ¬ 0 < s.size) : Wp.dedOk s = true := by
  unfold Wp.dedOk
  rw [dif_neg h]
set_option maxHeartbeats 1000000 in
theorem fits_0 (B b : Nat) (r : Wp.Rq) (a : Option Addr) (cap : Nat) (bs : List ByteArray) (w : World) (hn : bs.length ≤ maxLen) (hL : Lays B w) (hB : Box w b r (.slice a bs.length cap)) (hS : Strs w a bs) :
    Calls Tryz.prog 109 #[.pointer (some ⟨b, 0, none⟩), .int .i64 0] w fun e w' => e = .returned (.bool (r.fits bs.length (Wp.short bs) 0)) ∧ ∃ k, w' = w.drewN k := by
  have hr := hL.2.1
  have hm : Hid (Calls Tryz.prog 147 #[.pointer (some ⟨b, 0, none⟩), .int .i64 0] w fun e w' => e = .returned (.int .i64 (r.measure bs.length 0)) ∧ w' = w) := measure_any B b 0 r a bs.length cap w (by decide) hL hB
  have t1 : w.cell? ⟨1, 1, none⟩ = some (.int .i64 97) := hr 1 (by decide)
  have t2 : w.cell? ⟨1, 2, none⟩ = some (.int .i64 104) := hr 2 (by decide)
  have hF : Hid (r.fits bs.length (Wp.short bs) 0 = if r.measure bs.length 0 < 97 then false else if 104 < r.measure bs.length 0 then false else true) := by
    show r.fits bs.length (Wp.short bs) 0 = _
    simp [Wp.Rq.fits, Wp.least, Wp.most, Wp.rowTab]
  clear hr hL hB hS hn
  generalize r.measure bs.length 0 = M at hm hF
  by_cases h1 : M < 97
  · have hv : Hid (r.fits bs.length (Wp.short bs) 0 = false) := hF.out.trans (by rw [if_pos h1])
    go_enter Tryz.func109, Tryz.ntmps109
    go_wp2_with (go_at_call 147; refine (hm.out).mono ?_; rintro e w' ⟨rfl, rfl⟩)
    go_ret
    exact ⟨ret_bool hv.out.symm, 0, rfl⟩
  · by_cases h2 : 104 < M
    · have hv : Hid (r.fits bs.length (Wp.short bs) 0 = false) := hF.out.trans (by rw [if_neg h1, if_pos h2])
      go_enter Tryz.func109, Tryz.ntmps109
      go_wp2_with (go_at_call 147; refine (hm.out).mono ?_; rintro e w' ⟨rfl, rfl⟩)
      go_ret
      exact ⟨ret_bool hv.out.symm, 0, rfl⟩
    · have hv : Hid (r.fits bs.length (Wp.short bs) 0 = true) := hF.out.trans (by rw [if_neg h1, if_neg h2])
      go_enter Tryz.func109, Tryz.ntmps109
      go_wp2_with (go_at_call 147; refine (hm.out).mono ?_; rintro e w' ⟨rfl, rfl⟩)
      go_ret
      exact ⟨ret_bool hv.out.symm, 0, rfl⟩
set_option maxHeartbeats 1000000 in
theorem fits_1 (B b : Nat) (r : Wp.Rq) (a : Option Addr) (cap : Nat) (bs : List ByteArray) (w : World) (hn : bs.length ≤ maxLen) (hL : Lays B w) (hB : Box w b r (.slice a bs.length cap)) (hS : Strs w a bs) :
    Calls Tryz.prog 109 #[.pointer (some ⟨b, 0, none⟩), .int .i64 1] w fun e w' => e = .returned (.bool (r.fits bs.length (Wp.short bs) 1)) ∧ ∃ k, w' = w.drewN k := by
  have hr := hL.2.1
  have hm : Hid (Calls Tryz.prog 147 #[.pointer (some ⟨b, 0, none⟩), .int .i64 1] w fun e w' => e = .returned (.int .i64 (r.measure bs.length 1)) ∧ w' = w) := measure_any B b 1 r a bs.length cap w (by decide) hL hB
  have t4 : w.cell? ⟨1, 4, none⟩ = some (.int .i64 97) := hr 4 (by decide)
  have t5 : w.cell? ⟨1, 5, none⟩ = some (.int .i64 104) := hr 5 (by decide)
  have c2 : w.cell? ⟨b, 2, none⟩ = some (.int .u8 (r.d.toNat : Int)) := hB 2 _ rfl
  have c1 : w.cell? ⟨b, 1, none⟩ = some (.int .u8 (r.q.toNat : Int)) := hB 1 _ rfl
  by_cases h0 : r.d = 45
  · have hF : Hid (r.fits bs.length (Wp.short bs) 1 = true) := by
      show r.fits bs.length (Wp.short bs) 1 = _
      simp [Wp.Rq.fits, h0]
    have hd : r.d.toNat = 45 := by rw [h0]; rfl
    rw [hd] at c2
    clear hr hL hB hS hn h0 hd
    go_enter Tryz.func109, Tryz.ntmps109
    go_wp2
    go_ret
    exact ⟨ret_bool hF.out.symm, 0, rfl⟩
  · have hd : (((r.d.toNat : Nat) : Int) == 45) = false := by
      rw [beq_eq_false_iff_ne]
      intro e
      exact h0 (UInt8.toNat_inj.1 (by rw [show (45 : UInt8).toNat = 45 from rfl]; omega))
    have hF : Hid (r.fits bs.length (Wp.short bs) 1 = if r.measure bs.length 1 < 97 then false else if 104 < r.measure bs.length 1 then false else (r.d != r.q)) := by
      show r.fits bs.length (Wp.short bs) 1 = _
      simp [Wp.Rq.fits, Wp.least, Wp.most, Wp.rowTab, h0]
    have hq : Hid ((r.d != r.q) = (((r.d.toNat : Nat) : Int) != ((r.q.toNat : Nat) : Int))) := by
      show (r.d != r.q) = _
      rw [Bool.eq_iff_iff, bne_iff_ne, bne_iff_ne]
      exact ⟨fun h e => h (UInt8.toNat_inj.1 (by omega)), fun h e => h (by rw [e])⟩
    clear hr hL hB hS hn h0
    generalize r.measure bs.length 1 = M at hm hF
    by_cases h1 : M < 97
    · have hv : Hid (r.fits bs.length (Wp.short bs) 1 = false) := hF.out.trans (by rw [if_pos h1])
      go_enter Tryz.func109, Tryz.ntmps109
      go_wp2_with (go_at_call 147; refine (hm.out).mono ?_; rintro e w' ⟨rfl, rfl⟩)
      go_ret
      exact ⟨ret_bool hv.out.symm, 0, rfl⟩
    · by_cases h2 : 104 < M
      · have hv : Hid (r.fits bs.length (Wp.short bs) 1 = false) := hF.out.trans (by rw [if_neg h1, if_pos h2])
        go_enter Tryz.func109, Tryz.ntmps109
        go_wp2_with (go_at_call 147; refine (hm.out).mono ?_; rintro e w' ⟨rfl, rfl⟩)
        go_ret
        exact ⟨ret_bool hv.out.symm, 0, rfl⟩
      · have hv : Hid (r.fits bs.length (Wp.short bs) 1 = (((r.d.toNat : Nat) : Int) != ((r.q.toNat : Nat) : Int))) := hF.out.trans (by rw [if_neg h1, if_neg h2, hq.out])
        go_enter Tryz.func109, Tryz.ntmps109
        go_wp2_with (go_at_call 147; refine (hm.out).mono ?_; rintro e w' ⟨rfl, rfl⟩)
        go_quiet (fail)
        go_wp2
        go_ret
        exact ⟨ret_bool hv.out.symm, _, rfl⟩
set_option maxHeartbeats 1000000 in
theorem fits_2 (B b : Nat) (r : Wp.Rq) (a : Option Addr) (cap : Nat) (bs : List ByteArray) (w : World) (hn : bs.length ≤ maxLen) (hL : Lays B w) (hB : Box w b r (.slice a bs.length cap)) (hS : Strs w a bs) :
    Calls Tryz.prog 109 #[.pointer (some ⟨b, 0, none⟩), .int .i64 2] w fun e w' => e = .returned (.bool (r.fits bs.length (Wp.short bs) 2)) ∧ ∃ k, w' = w.drewN k := by
  have hr := hL.2.1
  have hm : Hid (Calls Tryz.prog 147 #[.pointer (some ⟨b, 0, none⟩), .int .i64 2] w fun e w' => e = .returned (.int .i64 (r.measure bs.length 2)) ∧ w' = w) := measure_any B b 2 r a bs.length cap w (by decide) hL hB
  have t7 : w.cell? ⟨1, 7, none⟩ = some (.int .i64 1) := hr 7 (by decide)
  have t8 : w.cell? ⟨1, 8, none⟩ = some (.int .i64 1000) := hr 8 (by decide)
  have hF : Hid (r.fits bs.length (Wp.short bs) 2 = if r.measure bs.length 2 < 1 then false else if 1000 < r.measure bs.length 2 then false else true) := by
    show r.fits bs.length (Wp.short bs) 2 = _
    simp [Wp.Rq.fits, Wp.least, Wp.most, Wp.rowTab]
  clear hr hL hB hS hn
  generalize r.measure bs.length 2 = M at hm hF
  by_cases h1 : M < 1
  · have hv : Hid (r.fits bs.length (Wp.short bs) 2 = false) := hF.out.trans (by rw [if_pos h1])
    go_enter Tryz.func109, Tryz.ntmps109
    go_wp2_with (go_at_call 147; refine (hm.out).mono ?_; rintro e w' ⟨rfl, rfl⟩)
    go_ret
    exact ⟨ret_bool hv.out.symm, 0, rfl⟩
  · by_cases h2 : 1000 < M
    · have hv : Hid (r.fits bs.length (Wp.short bs) 2 = false) := hF.out.trans (by rw [if_neg h1, if_pos h2])
      go_enter Tryz.func109, Tryz.ntmps109
      go_wp2_with (go_at_call 147; refine (hm.out).mono ?_; rintro e w' ⟨rfl, rfl⟩)
      go_ret
      exact ⟨ret_bool hv.out.symm, 0, rfl⟩
    · have hv : Hid (r.fits bs.length (Wp.short bs) 2 = true) := hF.out.trans (by rw [if_neg h1, if_neg h2])
      go_enter Tryz.func109, Tryz.ntmps109
      go_wp2_with (go_at_call 147; refine (hm.out).mono ?_; rintro e w' ⟨rfl, rfl⟩)
      go_ret
      exact ⟨ret_bool hv.out.symm, 0, rfl⟩
set_option maxHeartbeats 1000000 in
theorem fits_3 (B b : Nat) (r : Wp.Rq) (a : Option Addr) (cap : Nat) (bs : List ByteArray) (w : World) (hn : bs.length ≤ maxLen) (hL : Lays B w) (hB : Box w b r (.slice a bs.length cap)) (hS : Strs w a bs) :
    Calls Tryz.prog 109 #[.pointer (some ⟨b, 0, none⟩), .int .i64 3] w fun e w' => e = .returned (.bool (r.fits bs.length (Wp.short bs) 3)) ∧ ∃ k, w' = w.drewN k := by
  have hr := hL.2.1
  have hm : Hid (Calls Tryz.prog 147 #[.pointer (some ⟨b, 0, none⟩), .int .i64 3] w fun e w' => e = .returned (.int .i64 (r.measure bs.length 3)) ∧ w' = w) := measure_any B b 3 r a bs.length cap w (by decide) hL hB
  have t10 : w.cell? ⟨1, 10, none⟩ = some (.int .i64 0) := hr 10 (by decide)
  have t11 : w.cell? ⟨1, 11, none⟩ = some (.int .i64 1000) := hr 11 (by decide)
  have hF : Hid (r.fits bs.length (Wp.short bs) 3 = if r.measure bs.length 3 < 0 then false else if 1000 < r.measure bs.length 3 then false else true) := by
    show r.fits bs.length (Wp.short bs) 3 = _
    simp [Wp.Rq.fits, Wp.least, Wp.most, Wp.rowTab]
  clear hr hL hB hS hn
  generalize r.measure bs.length 3 = M at hm hF
  by_cases h1 : M < 0
  · have hv : Hid (r.fits bs.length (Wp.short bs) 3 = false) := hF.out.trans (by rw [if_pos h1])
    go_enter Tryz.func109, Tryz.ntmps109
    go_wp2_with (go_at_call 147; refine (hm.out).mono ?_; rintro e w' ⟨rfl, rfl⟩)
    go_ret
    exact ⟨ret_bool hv.out.symm, 0, rfl⟩
  · by_cases h2 : 1000 < M
    · have hv : Hid (r.fits bs.length (Wp.short bs) 3 = false) := hF.out.trans (by rw [if_neg h1, if_pos h2])
      go_enter Tryz.func109, Tryz.ntmps109
      go_wp2_with (go_at_call 147; refine (hm.out).mono ?_; rintro e w' ⟨rfl, rfl⟩)
      go_ret
      exact ⟨ret_bool hv.out.symm, 0, rfl⟩
    · have hv : Hid (r.fits bs.length (Wp.short bs) 3 = true) := hF.out.trans (by rw [if_neg h1, if_neg h2])
      go_enter Tryz.func109, Tryz.ntmps109
      go_wp2_with (go_at_call 147; refine (hm.out).mono ?_; rintro e w' ⟨rfl, rfl⟩)
      go_ret
      exact ⟨ret_bool hv.out.symm, 0, rfl⟩
set_option maxHeartbeats 1000000 in
theorem fits_4 (B b : Nat) (r : Wp.Rq) (a : Option Addr) (cap : Nat) (bs : List ByteArray) (w : World) (hn : bs.length ≤ maxLen) (hL : Lays B w) (hB : Box w b r (.slice a bs.length cap)) (hS : Strs w a bs) :
    Calls Tryz.prog 109 #[.pointer (some ⟨b, 0, none⟩), .int .i64 4] w fun e w' => e = .returned (.bool (r.fits bs.length (Wp.short bs) 4)) ∧ ∃ k, w' = w.drewN k := by
  have hr := hL.2.1
  have hm : Hid (Calls Tryz.prog 147 #[.pointer (some ⟨b, 0, none⟩), .int .i64 4] w fun e w' => e = .returned (.int .i64 (r.measure bs.length 4)) ∧ w' = w) := measure_any B b 4 r a bs.length cap w (by decide) hL hB
  have t13 : w.cell? ⟨1, 13, none⟩ = some (.int .i64 0) := hr 13 (by decide)
  have t14 : w.cell? ⟨1, 14, none⟩ = some (.int .i64 9) := hr 14 (by decide)
  have hF : Hid (r.fits bs.length (Wp.short bs) 4 = if r.measure bs.length 4 < 0 then false else if 9 < r.measure bs.length 4 then false else true) := by
    show r.fits bs.length (Wp.short bs) 4 = _
    simp [Wp.Rq.fits, Wp.least, Wp.most, Wp.rowTab]
  clear hr hL hB hS hn
  generalize r.measure bs.length 4 = M at hm hF
  by_cases h1 : M < 0
  · have hv : Hid (r.fits bs.length (Wp.short bs) 4 = false) := hF.out.trans (by rw [if_pos h1])
    go_enter Tryz.func109, Tryz.ntmps109
    go_wp2_with (go_at_call 147; refine (hm.out).mono ?_; rintro e w' ⟨rfl, rfl⟩)
    go_ret
    exact ⟨ret_bool hv.out.symm, 0, rfl⟩
  · by_cases h2 : 9 < M
    · have hv : Hid (r.fits bs.length (Wp.short bs) 4 = false) := hF.out.trans (by rw [if_neg h1, if_pos h2])
      go_enter Tryz.func109, Tryz.ntmps109
      go_wp2_with (go_at_call 147; refine (hm.out).mono ?_; rintro e w' ⟨rfl, rfl⟩)
      go_ret
      exact ⟨ret_bool hv.out.symm, 0, rfl⟩
    · have hv : Hid (r.fits bs.length (Wp.short bs) 4 = true) := hF.out.trans (by rw [if_neg h1, if_neg h2])
      go_enter Tryz.func109, Tryz.ntmps109
      go_wp2_with (go_at_call 147; refine (hm.out).mono ?_; rintro e w' ⟨rfl, rfl⟩)
      go_ret
      exact ⟨ret_bool hv.out.symm, 0, rfl⟩
set_option maxHeartbeats 1000000 in
theorem fits_5 (B b : Nat) (r : Wp.Rq) (a : Option Addr) (cap : Nat) (bs : List ByteArray) (w : World) (hn : bs.length ≤ maxLen) (hL : Lays B w) (hB : Box w b r (.slice a bs.length cap)) (hS : Strs w a bs) :
    Calls Tryz.prog 109 #[.pointer (some ⟨b, 0, none⟩), .int .i64 5] w fun e w' => e = .returned (.bool (r.fits bs.length (Wp.short bs) 5)) ∧ ∃ k, w' = w.drewN k := by
  have hr := hL.2.1
  have hm : Hid (Calls Tryz.prog 147 #[.pointer (some ⟨b, 0, none⟩), .int .i64 5] w fun e w' => e = .returned (.int .i64 (r.measure bs.length 5)) ∧ w' = w) := measure_any B b 5 r a bs.length cap w (by decide) hL hB
  have t16 : w.cell? ⟨1, 16, none⟩ = some (.int .i64 1) := hr 16 (by decide)
  have t17 : w.cell? ⟨1, 17, none⟩ = some (.int .i64 50) := hr 17 (by decide)
  have hF : Hid (r.fits bs.length (Wp.short bs) 5 = if r.measure bs.length 5 < 1 then false else if 50 < r.measure bs.length 5 then false else true) := by
    show r.fits bs.length (Wp.short bs) 5 = _
    simp [Wp.Rq.fits, Wp.least, Wp.most, Wp.rowTab]
  clear hr hL hB hS hn
  generalize r.measure bs.length 5 = M at hm hF
  by_cases h1 : M < 1
  · have hv : Hid (r.fits bs.length (Wp.short bs) 5 = false) := hF.out.trans (by rw [if_pos h1])
    go_enter Tryz.func109, Tryz.ntmps109
    go_wp2_with (go_at_call 147; refine (hm.out).mono ?_; rintro e w' ⟨rfl, rfl⟩)
    go_ret
    exact ⟨ret_bool hv.out.symm, 0, rfl⟩
  · by_cases h2 : 50 < M
    · have hv : Hid (r.fits bs.length (Wp.short bs) 5 = false) := hF.out.trans (by rw [if_neg h1, if_pos h2])
      go_enter Tryz.func109, Tryz.ntmps109
      go_wp2_with (go_at_call 147; refine (hm.out).mono ?_; rintro e w' ⟨rfl, rfl⟩)
      go_ret
      exact ⟨ret_bool hv.out.symm, 0, rfl⟩
    · have hv : Hid (r.fits bs.length (Wp.short bs) 5 = true) := hF.out.trans (by rw [if_neg h1, if_neg h2])
      go_enter Tryz.func109, Tryz.ntmps109
      go_wp2_with (go_at_call 147; refine (hm.out).mono ?_; rintro e w' ⟨rfl, rfl⟩)
      go_ret
      exact ⟨ret_bool hv.out.symm, 0, rfl⟩
set_option maxHeartbeats 1000000 in
theorem fits_6 (B b : Nat) (r : Wp.Rq) (a : Option Addr) (cap : Nat) (bs : List ByteArray) (w : World) (hn : bs.length ≤ maxLen) (hL : Lays B w) (hB : Box w b r (.slice a bs.length cap)) (hS : Strs w a bs) :
    Calls Tryz.prog 109 #[.pointer (some ⟨b, 0, none⟩), .int .i64 6] w fun e w' => e = .returned (.bool (r.fits bs.length (Wp.short bs) 6)) ∧ ∃ k, w' = w.drewN k := by
  have hr := hL.2.1
  have hm : Hid (Calls Tryz.prog 147 #[.pointer (some ⟨b, 0, none⟩), .int .i64 6] w fun e w' => e = .returned (.int .i64 (r.measure bs.length 6)) ∧ w' = w) := measure_any B b 6 r a bs.length cap w (by decide) hL hB
  have t19 : w.cell? ⟨1, 19, none⟩ = some (.int .i64 1) := hr 19 (by decide)
  have t20 : w.cell? ⟨1, 20, none⟩ = some (.int .i64 10) := hr 20 (by decide)
  have hF : Hid (r.fits bs.length (Wp.short bs) 6 = if r.measure bs.length 6 < 1 then false else if 10 < r.measure bs.length 6 then false else true) := by
    show r.fits bs.length (Wp.short bs) 6 = _
    simp [Wp.Rq.fits, Wp.least, Wp.most, Wp.rowTab]
  clear hr hL hB hS hn
  generalize r.measure bs.length 6 = M at hm hF
  by_cases h1 : M < 1
  · have hv : Hid (r.fits bs.length (Wp.short bs) 6 = false) := hF.out.trans (by rw [if_pos h1])
    go_enter Tryz.func109, Tryz.ntmps109
    go_wp2_with (go_at_call 147; refine (hm.out).mono ?_; rintro e w' ⟨rfl, rfl⟩)
    go_ret
    exact ⟨ret_bool hv.out.symm, 0, rfl⟩
  · by_cases h2 : 10 < M
    · have hv : Hid (r.fits bs.length (Wp.short bs) 6 = false) := hF.out.trans (by rw [if_neg h1, if_pos h2])
      go_enter Tryz.func109, Tryz.ntmps109
      go_wp2_with (go_at_call 147; refine (hm.out).mono ?_; rintro e w' ⟨rfl, rfl⟩)
      go_ret
      exact ⟨ret_bool hv.out.symm, 0, rfl⟩
    · have hv : Hid (r.fits bs.length (Wp.short bs) 6 = true) := hF.out.trans (by rw [if_neg h1, if_neg h2])
      go_enter Tryz.func109, Tryz.ntmps109
      go_wp2_with (go_at_call 147; refine (hm.out).mono ?_; rintro e w' ⟨rfl, rfl⟩)
      go_ret
      exact ⟨ret_bool hv.out.symm, 0, rfl⟩
set_option maxHeartbeats 1000000 in
theorem fits_7 (B b : Nat) (r : Wp.Rq) (a : Option Addr) (cap : Nat) (bs : List ByteArray) (w : World) (hn : bs.length ≤ maxLen) (hL : Lays B w) (hB : Box w b r (.slice a bs.length cap)) (hS : Strs w a bs) :
    Calls Tryz.prog 109 #[.pointer (some ⟨b, 0, none⟩), .int .i64 7] w fun e w' => e = .returned (.bool (r.fits bs.length (Wp.short bs) 7)) ∧ ∃ k, w' = w.drewN k := by
  have hr := hL.2.1
  have hm : Hid (Calls Tryz.prog 147 #[.pointer (some ⟨b, 0, none⟩), .int .i64 7] w fun e w' => e = .returned (.int .i64 (r.measure bs.length 7)) ∧ w' = w) := measure_any B b 7 r a bs.length cap w (by decide) hL hB
  have t22 : w.cell? ⟨1, 22, none⟩ = some (.int .i64 0) := hr 22 (by decide)
  have t23 : w.cell? ⟨1, 23, none⟩ = some (.int .i64 1000) := hr 23 (by decide)
  have hF : Hid (r.fits bs.length (Wp.short bs) 7 = if r.measure bs.length 7 < 0 then false else if 1000 < r.measure bs.length 7 then false else true) := by
    show r.fits bs.length (Wp.short bs) 7 = _
    simp [Wp.Rq.fits, Wp.least, Wp.most, Wp.rowTab]
  clear hr hL hB hS hn
  generalize r.measure bs.length 7 = M at hm hF
  by_cases h1 : M < 0
  · have hv : Hid (r.fits bs.length (Wp.short bs) 7 = false) := hF.out.trans (by rw [if_pos h1])
    go_enter Tryz.func109, Tryz.ntmps109
    go_wp2_with (go_at_call 147; refine (hm.out).mono ?_; rintro e w' ⟨rfl, rfl⟩)
    go_ret
    exact ⟨ret_bool hv.out.symm, 0, rfl⟩
  · by_cases h2 : 1000 < M
    · have hv : Hid (r.fits bs.length (Wp.short bs) 7 = false) := hF.out.trans (by rw [if_neg h1, if_pos h2])
      go_enter Tryz.func109, Tryz.ntmps109
      go_wp2_with (go_at_call 147; refine (hm.out).mono ?_; rintro e w' ⟨rfl, rfl⟩)
      go_ret
      exact ⟨ret_bool hv.out.symm, 0, rfl⟩
    · have hv : Hid (r.fits bs.length (Wp.short bs) 7 = true) := hF.out.trans (by rw [if_neg h1, if_neg h2])
      go_enter Tryz.func109, Tryz.ntmps109
      go_wp2_with (go_at_call 147; refine (hm.out).mono ?_; rintro e w' ⟨rfl, rfl⟩)
      go_ret
      exact ⟨ret_bool hv.out.symm, 0, rfl⟩
set_option maxHeartbeats 1000000 in
theorem fits_8 (B b : Nat) (r : Wp.Rq) (a : Option Addr) (cap : Nat) (bs : List ByteArray) (w : World) (hn : bs.length ≤ maxLen) (hL : Lays B w) (hB : Box w b r (.slice a bs.length cap)) (hS : Strs w a bs) :
    Calls Tryz.prog 109 #[.pointer (some ⟨b, 0, none⟩), .int .i64 8] w fun e w' => e = .returned (.bool (r.fits bs.length (Wp.short bs) 8)) ∧ ∃ k, w' = w.drewN k := by
  have hr := hL.2.1
  have hm : Hid (Calls Tryz.prog 147 #[.pointer (some ⟨b, 0, none⟩), .int .i64 8] w fun e w' => e = .returned (.int .i64 (r.measure bs.length 8)) ∧ w' = w) := measure_any B b 8 r a bs.length cap w (by decide) hL hB
  have t25 : w.cell? ⟨1, 25, none⟩ = some (.int .i64 1) := hr 25 (by decide)
  have t26 : w.cell? ⟨1, 26, none⟩ = some (.int .i64 1000) := hr 26 (by decide)
  have hF : Hid (r.fits bs.length (Wp.short bs) 8 = if r.measure bs.length 8 < 1 then false else if 1000 < r.measure bs.length 8 then false else true) := by
    show r.fits bs.length (Wp.short bs) 8 = _
    simp [Wp.Rq.fits, Wp.least, Wp.most, Wp.rowTab]
  clear hr hL hB hS hn
  generalize r.measure bs.length 8 = M at hm hF
  by_cases h1 : M < 1
  · have hv : Hid (r.fits bs.length (Wp.short bs) 8 = false) := hF.out.trans (by rw [if_pos h1])
    go_enter Tryz.func109, Tryz.ntmps109
    go_wp2_with (go_at_call 147; refine (hm.out).mono ?_; rintro e w' ⟨rfl, rfl⟩)
    go_ret
    exact ⟨ret_bool hv.out.symm, 0, rfl⟩
  · by_cases h2 : 1000 < M
    · have hv : Hid (r.fits bs.length (Wp.short bs) 8 = false) := hF.out.trans (by rw [if_neg h1, if_pos h2])
      go_enter Tryz.func109, Tryz.ntmps109
      go_wp2_with (go_at_call 147; refine (hm.out).mono ?_; rintro e w' ⟨rfl, rfl⟩)
      go_ret
      exact ⟨ret_bool hv.out.symm, 0, rfl⟩
    · have hv : Hid (r.fits bs.length (Wp.short bs) 8 = true) := hF.out.trans (by rw [if_neg h1, if_neg h2])
      go_enter Tryz.func109, Tryz.ntmps109
      go_wp2_with (go_at_call 147; refine (hm.out).mono ?_; rintro e w' ⟨rfl, rfl⟩)
      go_ret
      exact ⟨ret_bool hv.out.symm, 0, rfl⟩
set_option maxHeartbeats 1000000 in
theorem fits_9 (B b : Nat) (r : Wp.Rq) (a : Option Addr) (cap : Nat) (bs : List ByteArray) (w : World) (hn : bs.length ≤ maxLen) (hL : Lays B w) (hB : Box w b r (.slice a bs.length cap)) (hS : Strs w a bs) :
    Calls Tryz.prog 109 #[.pointer (some ⟨b, 0, none⟩), .int .i64 9] w fun e w' => e = .returned (.bool (r.fits bs.length (Wp.short bs) 9)) ∧ ∃ k, w' = w.drewN k := by
  have hr := hL.2.1
  have hm : Hid (Calls Tryz.prog 147 #[.pointer (some ⟨b, 0, none⟩), .int .i64 9] w fun e w' => e = .returned (.int .i64 (r.measure bs.length 9)) ∧ w' = w) := measure_any B b 9 r a bs.length cap w (by decide) hL hB
  have t28 : w.cell? ⟨1, 28, none⟩ = some (.int .i64 1) := hr 28 (by decide)
  have t29 : w.cell? ⟨1, 29, none⟩ = some (.int .i64 8) := hr 29 (by decide)
  have hF : Hid (r.fits bs.length (Wp.short bs) 9 = if r.measure bs.length 9 < 1 then false else if 8 < r.measure bs.length 9 then false else true) := by
    show r.fits bs.length (Wp.short bs) 9 = _
    simp [Wp.Rq.fits, Wp.least, Wp.most, Wp.rowTab]
  clear hr hL hB hS hn
  generalize r.measure bs.length 9 = M at hm hF
  by_cases h1 : M < 1
  · have hv : Hid (r.fits bs.length (Wp.short bs) 9 = false) := hF.out.trans (by rw [if_pos h1])
    go_enter Tryz.func109, Tryz.ntmps109
    go_wp2_with (go_at_call 147; refine (hm.out).mono ?_; rintro e w' ⟨rfl, rfl⟩)
    go_ret
    exact ⟨ret_bool hv.out.symm, 0, rfl⟩
  · by_cases h2 : 8 < M
    · have hv : Hid (r.fits bs.length (Wp.short bs) 9 = false) := hF.out.trans (by rw [if_neg h1, if_pos h2])
      go_enter Tryz.func109, Tryz.ntmps109
      go_wp2_with (go_at_call 147; refine (hm.out).mono ?_; rintro e w' ⟨rfl, rfl⟩)
      go_ret
      exact ⟨ret_bool hv.out.symm, 0, rfl⟩
    · have hv : Hid (r.fits bs.length (Wp.short bs) 9 = true) := hF.out.trans (by rw [if_neg h1, if_neg h2])
      go_enter Tryz.func109, Tryz.ntmps109
      go_wp2_with (go_at_call 147; refine (hm.out).mono ?_; rintro e w' ⟨rfl, rfl⟩)
      go_ret
      exact ⟨ret_bool hv.out.symm, 0, rfl⟩
set_option maxHeartbeats 1000000 in
theorem fits_10 (B b : Nat) (r : Wp.Rq) (a : Option Addr) (cap : Nat) (bs : List ByteArray) (w : World) (hn : bs.length ≤ maxLen) (hL : Lays B w) (hB : Box w b r (.slice a bs.length cap)) (hS : Strs w a bs) :
    Calls Tryz.prog 109 #[.pointer (some ⟨b, 0, none⟩), .int .i64 10] w fun e w' => e = .returned (.bool (r.fits bs.length (Wp.short bs) 10)) ∧ ∃ k, w' = w.drewN k := by
  have hr := hL.2.1
  have hm : Hid (Calls Tryz.prog 147 #[.pointer (some ⟨b, 0, none⟩), .int .i64 10] w fun e w' => e = .returned (.int .i64 (r.measure bs.length 10)) ∧ w' = w) := measure_any B b 10 r a bs.length cap w (by decide) hL hB
  have t31 : w.cell? ⟨1, 31, none⟩ = some (.int .i64 0) := hr 31 (by decide)
  have t32 : w.cell? ⟨1, 32, none⟩ = some (.int .i64 8) := hr 32 (by decide)
  have c10 : w.cell? ⟨b, 10, none⟩ = some (.string r.ded) := hB 10 _ rfl
  have hF : Hid (r.fits bs.length (Wp.short bs) 10 = if r.measure bs.length 10 < 0 then false else if 8 < r.measure bs.length 10 then false else Wp.dedOk r.ded) := by
    show r.fits bs.length (Wp.short bs) 10 = _
    simp [Wp.Rq.fits, Wp.least, Wp.most, Wp.rowTab]
  clear hr hL hB hS hn
  generalize r.measure bs.length 10 = M at hm hF
  generalize r.ded = D at c10 hF
  by_cases h1 : M < 0
  · have hv : Hid (r.fits bs.length (Wp.short bs) 10 = false) := hF.out.trans (by rw [if_pos h1])
    go_enter Tryz.func109, Tryz.ntmps109
    go_wp2_with (go_at_call 147; refine (hm.out).mono ?_; rintro e w' ⟨rfl, rfl⟩)
    go_ret
    exact ⟨ret_bool hv.out.symm, 0, rfl⟩
  · by_cases h2 : 8 < M
    · have hv : Hid (r.fits bs.length (Wp.short bs) 10 = false) := hF.out.trans (by rw [if_neg h1, if_pos h2])
      go_enter Tryz.func109, Tryz.ntmps109
      go_wp2_with (go_at_call 147; refine (hm.out).mono ?_; rintro e w' ⟨rfl, rfl⟩)
      go_ret
      exact ⟨ret_bool hv.out.symm, 0, rfl⟩
    · by_cases h3 : 0 < D.size
      · have hne : D.toList.isEmpty = false := str_ne h3
        have hv : Hid (r.fits bs.length (Wp.short bs) 10 = (((D[0].toNat : Nat) : Int) != 0)) := hF.out.trans (by rw [if_neg h1, if_neg h2, dedOk_some D h3])
        go_enter Tryz.func109, Tryz.ntmps109
        go_wp2_with (go_at_call 147; refine (hm.out).mono ?_; rintro e w' ⟨rfl, rfl⟩)
        go_ret
        exact ⟨ret_bool hv.out.symm, 0, rfl⟩
      · have hne : D.toList.isEmpty = true := str_em h3
        have hv : Hid (r.fits bs.length (Wp.short bs) 10 = true) := hF.out.trans (by rw [if_neg h1, if_neg h2, dedOk_none D h3])
        go_enter Tryz.func109, Tryz.ntmps109
        go_wp2_with (go_at_call 147; refine (hm.out).mono ?_; rintro e w' ⟨rfl, rfl⟩)
        go_ret
        exact ⟨ret_bool hv.out.symm, 0, rfl⟩
set_option maxHeartbeats 1000000 in
theorem fits_11 (B b : Nat) (r : Wp.Rq) (a : Option Addr) (cap : Nat) (bs : List ByteArray) (w : World) (hn : bs.length ≤ maxLen) (hL : Lays B w) (hB : Box w b r (.slice a bs.length cap)) (hS : Strs w a bs) :
    Calls Tryz.prog 109 #[.pointer (some ⟨b, 0, none⟩), .int .i64 11] w fun e w' => e = .returned (.bool (r.fits bs.length (Wp.short bs) 11)) ∧ ∃ k, w' = w.drewN k := by
  have hr := hL.2.1
  have hm : Hid (Calls Tryz.prog 147 #[.pointer (some ⟨b, 0, none⟩), .int .i64 11] w fun e w' => e = .returned (.int .i64 (r.measure bs.length 11)) ∧ w' = w) := measure_any B b 11 r a bs.length cap w (by decide) hL hB
  have t34 : w.cell? ⟨1, 34, none⟩ = some (.int .i64 0) := hr 34 (by decide)
  have t35 : w.cell? ⟨1, 35, none⟩ = some (.int .i64 255) := hr 35 (by decide)
  have hF : Hid (r.fits bs.length (Wp.short bs) 11 = if r.measure bs.length 11 < 0 then false else if 255 < r.measure bs.length 11 then false else true) := by
    show r.fits bs.length (Wp.short bs) 11 = _
    simp [Wp.Rq.fits, Wp.least, Wp.most, Wp.rowTab]
  clear hr hL hB hS hn
  generalize r.measure bs.length 11 = M at hm hF
  by_cases h1 : M < 0
  · have hv : Hid (r.fits bs.length (Wp.short bs) 11 = false) := hF.out.trans (by rw [if_pos h1])
    go_enter Tryz.func109, Tryz.ntmps109
    go_wp2_with (go_at_call 147; refine (hm.out).mono ?_; rintro e w' ⟨rfl, rfl⟩)
    go_ret
    exact ⟨ret_bool hv.out.symm, 0, rfl⟩
  · by_cases h2 : 255 < M
    · have hv : Hid (r.fits bs.length (Wp.short bs) 11 = false) := hF.out.trans (by rw [if_neg h1, if_pos h2])
      go_enter Tryz.func109, Tryz.ntmps109
      go_wp2_with (go_at_call 147; refine (hm.out).mono ?_; rintro e w' ⟨rfl, rfl⟩)
      go_ret
      exact ⟨ret_bool hv.out.symm, 0, rfl⟩
    · have hv : Hid (r.fits bs.length (Wp.short bs) 11 = true) := hF.out.trans (by rw [if_neg h1, if_neg h2])
      go_enter Tryz.func109, Tryz.ntmps109
      go_wp2_with (go_at_call 147; refine (hm.out).mono ?_; rintro e w' ⟨rfl, rfl⟩)
      go_ret
      exact ⟨ret_bool hv.out.symm, 0, rfl⟩
set_option maxHeartbeats 1000000 in
theorem fits_12 (B b : Nat) (r : Wp.Rq) (a : Option Addr) (cap : Nat) (bs : List ByteArray) (w : World) (hn : bs.length ≤ maxLen) (hL : Lays B w) (hB : Box w b r (.slice a bs.length cap)) (hS : Strs w a bs) :
    Calls Tryz.prog 109 #[.pointer (some ⟨b, 0, none⟩), .int .i64 12] w fun e w' => e = .returned (.bool (r.fits bs.length (Wp.short bs) 12)) ∧ ∃ k, w' = w.drewN k := by
  have hr := hL.2.1
  have hm : Hid (Calls Tryz.prog 147 #[.pointer (some ⟨b, 0, none⟩), .int .i64 12] w fun e w' => e = .returned (.int .i64 (r.measure bs.length 12)) ∧ w' = w) := measure_any B b 12 r a bs.length cap w (by decide) hL hB
  have t37 : w.cell? ⟨1, 37, none⟩ = some (.int .i64 0) := hr 37 (by decide)
  have t38 : w.cell? ⟨1, 38, none⟩ = some (.int .i64 8) := hr 38 (by decide)
  have hF : Hid (r.fits bs.length (Wp.short bs) 12 = if r.measure bs.length 12 < 0 then false else if 8 < r.measure bs.length 12 then false else true) := by
    show r.fits bs.length (Wp.short bs) 12 = _
    simp [Wp.Rq.fits, Wp.least, Wp.most, Wp.rowTab]
  clear hr hL hB hS hn
  generalize r.measure bs.length 12 = M at hm hF
  by_cases h1 : M < 0
  · have hv : Hid (r.fits bs.length (Wp.short bs) 12 = false) := hF.out.trans (by rw [if_pos h1])
    go_enter Tryz.func109, Tryz.ntmps109
    go_wp2_with (go_at_call 147; refine (hm.out).mono ?_; rintro e w' ⟨rfl, rfl⟩)
    go_ret
    exact ⟨ret_bool hv.out.symm, 0, rfl⟩
  · by_cases h2 : 8 < M
    · have hv : Hid (r.fits bs.length (Wp.short bs) 12 = false) := hF.out.trans (by rw [if_neg h1, if_pos h2])
      go_enter Tryz.func109, Tryz.ntmps109
      go_wp2_with (go_at_call 147; refine (hm.out).mono ?_; rintro e w' ⟨rfl, rfl⟩)
      go_ret
      exact ⟨ret_bool hv.out.symm, 0, rfl⟩
    · have hv : Hid (r.fits bs.length (Wp.short bs) 12 = true) := hF.out.trans (by rw [if_neg h1, if_neg h2])
      go_enter Tryz.func109, Tryz.ntmps109
      go_wp2_with (go_at_call 147; refine (hm.out).mono ?_; rintro e w' ⟨rfl, rfl⟩)
      go_ret
      exact ⟨ret_bool hv.out.symm, 0, rfl⟩
set_option maxHeartbeats 1000000 in
theorem fits_13 (B b : Nat) (r : Wp.Rq) (a : Option Addr) (cap : Nat) (bs : List ByteArray) (w : World) (hn : bs.length ≤ maxLen) (hL : Lays B w) (hB : Box w b r (.slice a bs.length cap)) (hS : Strs w a bs) :
    Calls Tryz.prog 109 #[.pointer (some ⟨b, 0, none⟩), .int .i64 13] w fun e w' => e = .returned (.bool (r.fits bs.length (Wp.short bs) 13)) ∧ ∃ k, w' = w.drewN k := by
  have hr := hL.2.1
  have hm : Hid (Calls Tryz.prog 147 #[.pointer (some ⟨b, 0, none⟩), .int .i64 13] w fun e w' => e = .returned (.int .i64 (r.measure bs.length 13)) ∧ w' = w) := measure_any B b 13 r a bs.length cap w (by decide) hL hB
  have t40 : w.cell? ⟨1, 40, none⟩ = some (.int .i64 0) := hr 40 (by decide)
  have t41 : w.cell? ⟨1, 41, none⟩ = some (.int .i64 255) := hr 41 (by decide)
  have hF : Hid (r.fits bs.length (Wp.short bs) 13 = if r.measure bs.length 13 < 0 then false else if 255 < r.measure bs.length 13 then false else true) := by
    show r.fits bs.length (Wp.short bs) 13 = _
    simp [Wp.Rq.fits, Wp.least, Wp.most, Wp.rowTab]
  clear hr hL hB hS hn
  generalize r.measure bs.length 13 = M at hm hF
  by_cases h1 : M < 0
  · have hv : Hid (r.fits bs.length (Wp.short bs) 13 = false) := hF.out.trans (by rw [if_pos h1])
    go_enter Tryz.func109, Tryz.ntmps109
    go_wp2_with (go_at_call 147; refine (hm.out).mono ?_; rintro e w' ⟨rfl, rfl⟩)
    go_ret
    exact ⟨ret_bool hv.out.symm, 0, rfl⟩
  · by_cases h2 : 255 < M
    · have hv : Hid (r.fits bs.length (Wp.short bs) 13 = false) := hF.out.trans (by rw [if_neg h1, if_pos h2])
      go_enter Tryz.func109, Tryz.ntmps109
      go_wp2_with (go_at_call 147; refine (hm.out).mono ?_; rintro e w' ⟨rfl, rfl⟩)
      go_ret
      exact ⟨ret_bool hv.out.symm, 0, rfl⟩
    · have hv : Hid (r.fits bs.length (Wp.short bs) 13 = true) := hF.out.trans (by rw [if_neg h1, if_neg h2])
      go_enter Tryz.func109, Tryz.ntmps109
      go_wp2_with (go_at_call 147; refine (hm.out).mono ?_; rintro e w' ⟨rfl, rfl⟩)
      go_ret
      exact ⟨ret_bool hv.out.symm, 0, rfl⟩
set_option maxHeartbeats 1000000 in
theorem fits_14 (B b : Nat) (r : Wp.Rq) (a : Option Addr) (cap : Nat) (bs : List ByteArray) (w : World) (hn : bs.length ≤ maxLen) (hL : Lays B w) (hB : Box w b r (.slice a bs.length cap)) (hS : Strs w a bs) :
    Calls Tryz.prog 109 #[.pointer (some ⟨b, 0, none⟩), .int .i64 14] w fun e w' => e = .returned (.bool (r.fits bs.length (Wp.short bs) 14)) ∧ ∃ k, w' = w.drewN k := by
  have hr := hL.2.1
  have hm : Hid (Calls Tryz.prog 147 #[.pointer (some ⟨b, 0, none⟩), .int .i64 14] w fun e w' => e = .returned (.int .i64 (r.measure bs.length 14)) ∧ w' = w) := measure_any B b 14 r a bs.length cap w (by decide) hL hB
  have t43 : w.cell? ⟨1, 43, none⟩ = some (.int .i64 1) := hr 43 (by decide)
  have t44 : w.cell? ⟨1, 44, none⟩ = some (.int .i64 10) := hr 44 (by decide)
  have c14 : w.cell? ⟨b, 14, none⟩ = some (.slice a bs.length cap) := hB 14 _ rfl
  have hsh := allShort_any a cap bs w hn hS
  have HS : Hid (Calls Tryz.prog 148 #[.slice a bs.length cap] w fun e w' => e = .returned (.bool (Wp.short bs)) ∧ w' = w) := hsh
  have hF : Hid (r.fits bs.length (Wp.short bs) 14 = if r.measure bs.length 14 < 1 then false else if 10 < r.measure bs.length 14 then false else Wp.short bs) := by
    show r.fits bs.length (Wp.short bs) 14 = _
    simp [Wp.Rq.fits, Wp.least, Wp.most, Wp.rowTab]
  clear hr hL hB hS hn hsh
  generalize r.measure bs.length 14 = M at hm hF
  by_cases h1 : M < 1
  · have hv : Hid (r.fits bs.length (Wp.short bs) 14 = false) := hF.out.trans (by rw [if_pos h1])
    go_enter Tryz.func109, Tryz.ntmps109
    go_wp2_with (go_at_call 147; refine (hm.out).mono ?_; rintro e w' ⟨rfl, rfl⟩)
    go_ret
    exact ⟨ret_bool hv.out.symm, 0, rfl⟩
  · by_cases h2 : 10 < M
    · have hv : Hid (r.fits bs.length (Wp.short bs) 14 = false) := hF.out.trans (by rw [if_neg h1, if_pos h2])
      go_enter Tryz.func109, Tryz.ntmps109
      go_wp2_with (go_at_call 147; refine (hm.out).mono ?_; rintro e w' ⟨rfl, rfl⟩)
      go_ret
      exact ⟨ret_bool hv.out.symm, 0, rfl⟩
    · have hv : Hid (r.fits bs.length (Wp.short bs) 14 = Wp.short bs) := hF.out.trans (by rw [if_neg h1, if_neg h2])
      go_enter Tryz.func109, Tryz.ntmps109
      go_wp2_with (first | (go_at_call 147; refine (hm.out).mono ?_; rintro e w' ⟨rfl, rfl⟩) | (go_at_call 148; refine (HS.out).mono ?_; rintro e w' ⟨rfl, rfl⟩))
      go_ret
      exact ⟨ret_bool hv.out.symm, 0, rfl⟩
theorem fits_any (B b f : Nat) (r : Wp.Rq) (a : Option Addr) (cap : Nat) (bs : List ByteArray) (w : World) (hf : f < 15) (hn : bs.length ≤ maxLen) (hL : Lays B w) (hB : Box w b r (.slice a bs.length cap)) (hS : Strs w a bs) :
    Calls Tryz.prog 109 #[.pointer (some ⟨b, 0, none⟩), .int .i64 (f : Int)] w fun e w' => e = .returned (.bool (r.fits bs.length (Wp.short bs) f)) ∧ ∃ k, w' = w.drewN k := by
  have hx : f = 0 ∨ f = 1 ∨ f = 2 ∨ f = 3 ∨ f = 4 ∨ f = 5 ∨ f = 6 ∨ f = 7 ∨ f = 8 ∨ f = 9 ∨ f = 10 ∨ f = 11 ∨ f = 12 ∨ f = 13 ∨ f = 14 := by omega
  rcases hx with rfl | rfl | rfl | rfl | rfl | rfl | rfl | rfl | rfl | rfl | rfl | rfl | rfl | rfl | rfl
  · exact fits_0 B b r a cap bs w hn hL hB hS
  · exact fits_1 B b r a cap bs w hn hL hB hS
  · exact fits_2 B b r a cap bs w hn hL hB hS
  · exact fits_3 B b r a cap bs w hn hL hB hS
  · exact fits_4 B b r a cap bs w hn hL hB hS
  · exact fits_5 B b r a cap bs w hn hL hB hS
  · exact fits_6 B b r a cap bs w hn hL hB hS
  · exact fits_7 B b r a cap bs w hn hL hB hS
  · exact fits_8 B b r a cap bs w hn hL hB hS
  · exact fits_9 B b r a cap bs w hn hL hB hS
  · exact fits_10 B b r a cap bs w hn hL hB hS
  · exact fits_11 B b r a cap bs w hn hL hB hS
  · exact fits_12 B b r a cap bs w hn hL hB hS
  · exact fits_13 B b r a cap bs w hn hL hB hS
  · exact fits_14 B b r a cap bs w hn hL hB hS
end Go.Proofs.YtbdobaapadlcjaaGreatDoor
