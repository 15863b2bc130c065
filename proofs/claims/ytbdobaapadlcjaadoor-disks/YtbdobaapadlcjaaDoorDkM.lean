/-
  DISKS: the walks of pick (21) and looks (9).
-/
import Derived.Test.YtbdobaapadlcjaaDoorDkL
namespace Go.Proofs.YtbdobaapadlcjaaDoor.Dk
open Go.RowKit
set_option linter.unusedVariables false
set_option linter.unusedSimpArgs false

set_option maxHeartbeats 400000 in
theorem pick_any (c : Int) (n : Nat) (w : World) (hc : -9223372036854775808 ≤ c ∧ c ≤ 9223372036854775807) (hn : 0 < n) (hn2 : n ≤ 1073741824) :
    Calls Tryd.prog 21 #[.int .i64 c, .int .i64 (n : Nat)] w fun e w' => (∃ i : Nat, i < n ∧ e = .returned (.int .i64 (i : Nat))) ∧ w' = w := by
  have hn0 : ¬ ((n : Int) = 0) := by omega
  have hn1 : ((n : Int) == -1) = false := by simp
  have key : ∀ z : Int, 0 ≤ z → ∃ i : Nat, i < n ∧ Int.tmod z (n : Int) = (i : Int) := fun z hz => by
    obtain ⟨m, rfl⟩ := Int.eq_ofNat_of_zero_le hz
    refine ⟨m % n, Nat.mod_lt _ hn, ?_⟩
    rw [Int.tmod_eq_emod_of_nonneg hz]
    rfl
  by_cases hneg : c < 0
  · have hw1 : wrap64 (c + 1) = c + 1 := by simp [wrap64]; omega
    have hw2 : wrap64 (-(c + 1)) = -(c + 1) := by simp [wrap64]; omega
    obtain ⟨i, hi, he⟩ := key (-(c + 1)) (by omega)
    have HE : Hid (Int.tmod (-(c + 1)) (n : Int) = (i : Int)) := he
    have hwi : wrap64 (i : Int) = (i : Int) := by simp [wrap64]; omega
    go_enter Tryd.func21, Tryd.ntmps21
    go_wp2_with fail
    go_ret
    exact ⟨⟨i, hi, rfl⟩, rfl⟩
  · obtain ⟨i, hi, he⟩ := key c (by omega)
    have HE : Hid (Int.tmod c (n : Int) = (i : Int)) := he
    go_enter Tryd.func21, Tryd.ntmps21
    go_wp2_with fail
    go_ret
    exact ⟨⟨i, hi, rfl⟩, rfl⟩
set_option maxRecDepth 10000 in
set_option maxHeartbeats 2000000 in
theorem looks_any (w : World) (s : Nat) (lv nv mv : Value) (c : Nat → Tag) (ps : List Pr) (ns : List Nm) (h : Shelf w s lv nv mv c ps ns (ns.map (·.m))) (hn : ns.length ≤ 16777216) (hx : ∀ x ∈ ns, x.n ≤ 16777216) :
    Calls Tryd.prog 9 #[.pointer (some ⟨s, 0, none⟩)] w fun e w' => e = .returned (.bool true) ∧ ∃ m, w' = w.drewN m := by
  obtain ⟨_, hs1, hs2, _⟩ := h.sblk
  have HX : Hid (∀ x ∈ ns, ∀ j, j < x.n → ∃ g, x.a = some ⟨g, 0, none⟩ ∧ w.cell? ⟨g, j, none⟩ = some (.string x.m)) := fun x hx j hj => by
    obtain ⟨g, h1, h2, _⟩ := h.x x hx j hj
    exact ⟨g, h1, h2⟩
  obtain ⟨an, cn, rfl, hcn⟩ : ∃ an cn, nv = .slice an ns.length cn ∧ ∀ j (hj : j < ns.length), ∃ g, an = some ⟨g, 0, none⟩ ∧ w.cell? ⟨g, j, none⟩ = some ns[j].v := by
    rcases h.n.2 with ⟨rfl, h0⟩ | ⟨g, cap, cur, rfl, _⟩
    · exact ⟨none, 0, by rw [h0], fun j hj => by omega⟩
    · refine ⟨_, _, rfl, fun j hj => ⟨g, rfl, ?_⟩⟩
      rw [World.ownsRow.cellAt h.n j (by omega)]
      simp [hj]
  obtain ⟨am, cm, hmv, hcm⟩ := h.m.at
  rw [List.length_map] at hmv
  subst hmv
  have HCN : Hid (∀ j (hj : j < ns.length), ∃ g, an = some ⟨g, 0, none⟩ ∧ w.cell? ⟨g, j, none⟩ = some ns[j].v) := hcn
  have HCM : Hid (∀ j (hj : j < ns.length), ∃ g, am = some ⟨g, 0, none⟩ ∧ w.cell? ⟨g, j, none⟩ = some (.string ns[j].m)) := fun j hj => by
    obtain ⟨g, h1, h2, _⟩ := hcm j (by simpa using hj)
    exact ⟨g, h1, by simpa using h2⟩
  clear hcn hcm h
  go_enter Tryd.func9, Tryd.ntmps9
  go_wp2_with fail
  go_loopw [3] (fun kv wr => ∃ (k m : Nat), k ≤ ns.length ∧ kv = .int .i64 k ∧ wr = w.drewN m) (fun kv _ => ns.length - (intOf kv).toNat)
  case atStart => exact ⟨0, 0, Nat.zero_le _, rfl, rfl⟩
  case round =>
    obtain ⟨k, m, hk, rfl, rfl⟩ := hrel
    by_cases hkn : k < ns.length
    · have hkl : ((k : Int) < (ns.length : Int)) := by omega
      obtain ⟨gn, rfl, q1⟩ := HCN.out k hkn
      obtain ⟨gm, rfl, q2⟩ := HCM.out k hkn
      have HXK : Hid (∀ j, j < ns[k].n → ∃ g, ns[k].a = some ⟨g, 0, none⟩ ∧ w.cell? ⟨g, j, none⟩ = some (.string ns[k].m)) := HX.out _ (List.getElem_mem _)
      have hxl := hx _ (List.getElem_mem hkn)
      generalize ns[k] = x at q1 q2 HXK hxl
      obtain ⟨xa, xn, xc, xm⟩ := x
      simp only [Nm.v] at q1 q2 HXK hxl
      go_wp2_with fail
      go_loopw [4] (fun iv wr => ∃ (i m : Nat), i ≤ xn ∧ iv = .int .i64 i ∧ wr = w.drewN m) (fun iv _ => xn - (intOf iv).toNat)
      case atStart => exact ⟨0, m, Nat.zero_le _, rfl, rfl⟩
      case round =>
        obtain ⟨i, m2, hi, rfl, rfl⟩ := hrel
        by_cases hin : i < xn
        · have hil : ((i : Int) < (xn : Int)) := by omega
          obtain ⟨g, ha, q3⟩ := HXK.out i hin
          subst ha
          have hss : (xm.toList == xm.toList) = true := by simp
          have hss2 : (xm.toList != xm.toList) = false := by simp
          go_wp2_with fail
          go_quiet (fail)
          go_wp2_with fail
          go_roundw
          case rel => exact ⟨i + 1, _, by omega, by go_num, rfl⟩
          case measure => simp [intOf]; omega
        · have hil : ¬ ((i : Int) < (xn : Int)) := by omega
          go_wp2_with fail
          go_roundw
          case rel => exact ⟨k + 1, _, by omega, by go_num, rfl⟩
          case measure => simp [intOf]; omega
    · have hkl : ¬ ((k : Int) < (ns.length : Int)) := by omega
      go_wp2_with fail
      go_ret
      exact ⟨rfl, _, rfl⟩
end Go.Proofs.YtbdobaapadlcjaaDoor.Dk
