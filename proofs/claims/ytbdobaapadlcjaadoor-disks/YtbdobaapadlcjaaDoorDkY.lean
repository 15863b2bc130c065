/-
  DISKS: act (8) whole; the walk of the statement Disks (3).
-/
import Derived.Test.YtbdobaapadlcjaaDoorDkW
import Derived.Test.YtbdobaapadlcjaaDoorDkX
namespace Go.Proofs.YtbdobaapadlcjaaDoor.Dk
open Go.RowKit
set_option linter.unusedVariables false
set_option linter.unusedSimpArgs false

theorem act_any (B : Nat) (w : World) (s n k : Nat) (h : Rest B w s n k) (K On A : Int) (N S : ByteArray) (hn : n ≤ 1048576) (hk : k + S.size ≤ 1099511627776) (hOn : -9223372036854775808 ≤ On ∧ On ≤ 9223372036854775807) (hA : -9223372036854775808 ≤ A ∧ A ≤ 9223372036854775807) :
    Calls Tryd.prog 8 #[.pointer (some ⟨s, 0, none⟩), .agg (acs K On A N S)] w fun e w' => e = .returned (.bool true) ∧ Rest B w' s (n + 1) (k + S.size) ∧ Below B w w' := by
  obtain ⟨lv, nv, mv, c, ps, ns, h⟩ := h
  by_cases h1 : K = 1
  · subst h1
    refine (act_1 B w s lv nv mv c ps ns n k h On A N S hn).mono fun e w' ⟨he, hr, hb⟩ => ⟨he, ?_, hb⟩
    obtain ⟨lv', nv', mv', c', ps', ns', h'⟩ := hr
    exact (h'.mono (Nat.le_refl _) (by omega)).rest
  by_cases h2 : K = 2
  · subst h2; exact act_2 B w s lv nv mv c ps ns n k h On A N S hn hk hOn hA
  by_cases h3 : K = 3
  · subst h3; exact act_3 B w s lv nv mv c ps ns n k h On A N S hn hk hOn hA
  by_cases h4 : K = 4
  · subst h4; exact act_4 B w s lv nv mv c ps ns n k h On A N S hn hk hOn hA
  by_cases h5 : K = 5
  · subst h5; exact act_5 B w s lv nv mv c ps ns n k h On A N S hn hk hOn hA
  exact act_else B w s lv nv mv c ps ns n k h K On A N S h1 h2 h3 h4 h5 hn hk hOn hA
/-- An act, as data. -/
structure ActD where
  K : Int
  On : Int
  A : Int
  N : ByteArray
  S : ByteArray
def Acts (w : World) (a : Option Addr) (os : List ActD) : Prop := ∀ j (hj : j < os.length), ∃ b o, a = some ⟨b, o, none⟩ ∧ w.cell? ⟨b, o + j * 5, none⟩ = some (.int .i64 os[j].K) ∧ w.cell? ⟨b, o + j * 5 + 1, none⟩ = some (.int .i64 os[j].On) ∧ w.cell? ⟨b, o + j * 5 + 2, none⟩ = some (.int .i64 os[j].A) ∧
  w.cell? ⟨b, o + j * 5 + 3, none⟩ = some (.string os[j].N) ∧ w.cell? ⟨b, o + j * 5 + 4, none⟩ = some (.string os[j].S)
def tot (os : List ActD) : Nat := (os.map (fun o => o.S.size)).sum
theorem tot_snoc (os : List ActD) (o : ActD) : tot (os ++ [o]) = tot os + o.S.size := by simp [tot]
theorem tot_take (os : List ActD) (j : Nat) : tot (os.take j) ≤ tot os := by
  conv => rhs; rw [← List.take_append_drop j os]
  unfold tot
  rw [List.map_append, List.sum_append]
  omega
theorem Rest.looks {B : Nat} {w : World} {s n k : Nat} (h : Rest B w s n k) (hn : n ≤ 1048577) : Calls Tryd.prog 9 #[.pointer (some ⟨s, 0, none⟩)] w fun e w' => e = .returned (.bool true) ∧ Rest B w' s n k ∧ Below B w w' := by
  obtain ⟨lv, nv, mv, c, ps, ns, h⟩ := h
  refine (looks_any w s lv nv mv c ps ns h.sh (by have := h.nl; omega) (fun x hx => by have := h.nx x hx; omega)).mono fun e w' ⟨he, m, hm⟩ => ⟨he, ?_, ?_⟩
  · subst hm
    exact Rest.drewN ⟨_, _, _, _, _, _, h⟩ m
  · subst hm
    exact ((Tch.refl [] _).drewN m).below (fun x hx => by cases hx) h.hB

set_option maxRecDepth 10000 in
set_option maxHeartbeats 2000000 in
theorem disks_law (a : Option Addr) (cap : Nat) (os : List ActD) (w : World) (hT : Tab w) (hA : Acts w a os) (hr : ∀ o ∈ os, (-9223372036854775808 ≤ o.On ∧ o.On ≤ 9223372036854775807) ∧ (-9223372036854775808 ≤ o.A ∧ o.A ≤ 9223372036854775807)) (hn : os.length ≤ 1048576) (ht : tot os ≤ 1048576) :
    Calls Tryd.prog 3 #[.slice a os.length cap] w fun e w' => e = .returned (.bool true) ∧ Below w.heap.size w w' := by
  have HA : Hid (Acts w a os) := hA
  have HR : Hid (∀ o ∈ os, (-9223372036854775808 ≤ o.On ∧ o.On ≤ 9223372036854775807) ∧ (-9223372036854775808 ≤ o.A ∧ o.A ≤ 9223372036854775807)) := hr
  have HC : Hid (Calls Tryd.prog 7 #[.string ⟨#[49, 50, 51, 52, 53, 54, 55, 56, 57]⟩] w fun e w' => e = .returned (.int .u32 3421780262) ∧ w' = w) := by
    have h := wharf_check ⟨#[49, 50, 51, 52, 53, 54, 55, 56, 57]⟩ w (by decide) hT
    rw [show Crc.crc (⟨#[49, 50, 51, 52, 53, 54, 55, 56, 57]⟩ : ByteArray).data.toList = 3421780262 from Crc.crc_digits] at h
    exact h
  have HS : Hid (Rest w.heap.size (w.alloc (.cells #[.slice none 0 0, .slice none 0 0, .slice none 0 0] 30)) w.heap.size 0 0) := by
    refine ⟨.slice none 0 0, .slice none 0 0, .slice none 0 0, paint (fun _ => .O) w.heap.size .S, [], [], ⟨⟨heap_alloc_new _ _, paint_new (Nat.le_refl _), World.ownsRow_nil _ _ _ _, fun b hb => by simp [Value.ownBlock] at hb, World.ownsRow_nil _ _ _ _, fun b hb => by simp [Value.ownBlock] at hb, OwnS.nil _, fun b hb => by simp [Value.ownBlock] at hb, fun i P hP => by simp at hP, fun i P hP => by simp at hP, fun x hx => by cases hx⟩, fun P hP => (by cases hP), Nat.le_refl _, Nat.zero_le _, fun x hx => (by cases hx), fun b hb => paint_old hb, by simp⟩⟩
  have HB0 : Hid (Below w.heap.size w (w.alloc (.cells #[.slice none 0 0, .slice none 0 0, .slice none 0 0] 30))) := (Below.refl _ _).alloc (Nat.le_refl _) _
  clear hA hr hT
  go_enter Tryd.func3, Tryd.ntmps3
  go_wp2_with fail
  refine HC.out.mono ?_
  rintro e w1 ⟨rfl, hw1⟩
  subst hw1
  go_wp2_with fail
  go_loopw [4, 6] (fun ov iv wr => ∃ j : Nat, j ≤ os.length ∧ ov = .bool true ∧ iv = .int .i64 j ∧ Rest w1.heap.size wr w1.heap.size j (tot (os.take j)) ∧ Below w1.heap.size w1 wr) (fun _ iv _ => os.length - (intOf iv).toNat)
  case atStart => exact ⟨0, Nat.zero_le _, by rfl, rfl, HS.out, HB0.out⟩
  case round =>
    obtain ⟨j, hj, rfl, rfl, hrest, hbel⟩ := hrel
    have HQ : Hid (Rest w1.heap.size wr w1.heap.size j (tot (os.take j)) ∧ Below w1.heap.size w1 wr) := ⟨hrest, hbel⟩
    by_cases hjn : j < os.length
    · have hjl : ((j : Int) < (os.length : Int)) := by omega
      obtain ⟨b, o, rfl, c0, c1, c2, c3, c4⟩ := HA.out j hjn
      have hb0 := World.block_lt_of_cell? _ _ c0
      have d0 := (hbel.cell (p := ⟨b, o + j * 5, none⟩) hb0).trans c0
      have d1 := (hbel.cell (p := ⟨b, o + j * 5 + 1, none⟩) hb0).trans c1
      have d2 := (hbel.cell (p := ⟨b, o + j * 5 + 2, none⟩) hb0).trans c2
      have d3 := (hbel.cell (p := ⟨b, o + j * 5 + 3, none⟩) hb0).trans c3
      have d4 := (hbel.cell (p := ⟨b, o + j * 5 + 4, none⟩) hb0).trans c4
      have htk : tot (os.take (j + 1)) = tot (os.take j) + os[j].S.size := by rw [List.take_succ_eq_append_getElem hjn, tot_snoc]
      have htt := tot_take os (j + 1)
      obtain ⟨hOn, hAA⟩ := HR.out os[j] (List.getElem_mem _)
      clear c0 c1 c2 c3 c4 hrest hbel
      generalize os[j] = x at d0 d1 d2 d3 d4 htk hOn hAA
      obtain ⟨K, On, A, N, S⟩ := x
      simp only at d0 d1 d2 d3 d4 htk hOn hAA
      have HTK : Hid (tot (os.take (j + 1)) = tot (os.take j) + S.size) := htk
      have HACT : Hid (Calls Tryd.prog 8 #[.pointer (some ⟨w1.heap.size, 0, none⟩), .agg #[.int .i64 K, .int .i64 On, .int .i64 A, .string N, .string S]] wr fun e w' => e = .returned (.bool true) ∧ Rest w1.heap.size w' w1.heap.size (j + 1) (tot (os.take j) + S.size) ∧ Below w1.heap.size wr w') := act_any _ _ _ _ _ HQ.out.1 K On A N S (by omega) (by omega) hOn hAA
      clear htk htt hOn hAA
      go_wp2_with fail
      refine HACT.out.mono ?_
      rintro e w2 ⟨rfl, hr2, hb2⟩
      have H2 : Hid (Rest w1.heap.size w2 w1.heap.size (j + 1) (tot (os.take (j + 1))) ∧ Below w1.heap.size w1 w2) := ⟨by rw [HTK.out]; exact hr2, HQ.out.2.trans hb2⟩
      clear hr2 hb2 d0 d1 d2 d3 d4
      go_wp2_with fail
      refine (H2.out.1.looks (by omega)).mono ?_
      rintro e w3 ⟨rfl, hr3, hb3⟩
      have H3 : Hid (Rest w1.heap.size w3 w1.heap.size (j + 1) (tot (os.take (j + 1))) ∧ Below w1.heap.size w1 w3) := ⟨hr3, H2.out.2.trans hb3⟩
      clear hr3 hb3
      go_wp2_with fail
      go_roundw
      case rel => exact ⟨j + 1, by omega, by rfl, by go_num, H3.out.1, H3.out.2⟩
      case measure => simp [intOf]; omega
    · have hjl : ¬ ((j : Int) < (os.length : Int)) := by omega
      clear hrest hbel
      go_wp2_with fail
      go_ret
      exact ⟨rfl, HQ.out.2⟩
end Go.Proofs.YtbdobaapadlcjaaDoor.Dk
