/-
  THE WALKS of asked (17), out of the contract of Do, and create (24).
-/
import Derived.Test.YtbdobaapadlcjaaGreatDoorTkD
namespace Go.Proofs.YtbdobaapadlcjaaGreatDoor
open Go.RowKit

abbrev nil0 : Sl := ⟨none, 0, 0⟩
theorem strs0 (W : World) : Strs W none [] := by
  simp [Strs]

set_option maxHeartbeats 400000 in
theorem asked_walk (K : ByteArray → World → Prop) (B : Nat) (r : Wp.Rq) (x : Nat) (w : World) (hright : rightW r nil0 (Wp.short []) = true) (hL : Lays B w) (hBw : B ≤ w.heap.size)
    (hD : ∀ W, Below w.heap.size w W → Calls Tryz.prog 34 #[.pointer (some ⟨x, 0, none⟩), .string (printS r nil0 [])] W fun e w' => ∃ t, e = .returned (.string t) ∧ K t w') :
    Calls Tryz.prog 18 #[.pointer (some ⟨x, 0, none⟩), .agg (cellsOf r nil0.v)] w fun e w' => ∃ t, e = .returned (.string t) ∧ K t w' := by
  have hE := (print_bytes r nil0 [] hright).2
  have HD : Hid (∀ W, _) := hD
  have HP : Hid (∀ W, Below w.heap.size w W → Calls Tryz.prog 33 #[.agg (cellsOf r nil0.v)] W fun e w' => e = .returned (.tuple #[.string (printS r nil0 []), .int .i64 0]) ∧ Below W.heap.size W w') := fun W hb => by
    have h := wharf_print B r nil0 [] W rfl (Nat.zero_le _) (hL.below (hb.mono hBw)) (by have := hb.size; omega) (strs0 W)
    rw [hE] at h
    exact h
  have HCS : Hid ((Tryz.prog.info? 27).map (·.size) = some (cellsOf r nil0.v).size) := info37
  clear hD hE hright hL
  generalize cellsOf r nil0.v = C at *
  generalize printS r nil0 [] = T at *
  go_enter Tryz.func18, Tryz.ntmps18
  go_wp2_with (first | (refine wpList_load_row rfl 27 _ rfl w.heap.size rfl 27 C (0, 0) _ (heap_alloc_new _ _) Tryz.underlying27 rfl HCS.out ?_) | (go_at_call 33; refine (HP.out _ ((Below.refl _ _).alloc (Nat.le_refl _) _)).mono ?_; rintro e w1 ⟨rfl, hb⟩) | (go_at_call 34; refine (HD.out _ (((Below.refl _ _).alloc (Nat.le_refl _) _).trans (hb.mono (by simp)))).mono ?_; rintro e w2 ⟨t, rfl, hk⟩))
  go_ret
  exact ⟨_, rfl, by assumption⟩

set_option maxHeartbeats 400000 in
theorem create_walk (K : World → Prop) (B : Nat) (r : Wp.Rq) (x : Nat) (w : World) (hright : rightW r nil0 (Wp.short []) = true) (hL : Lays B w) (hBw : B ≤ w.heap.size)
    (hD : ∀ W, Below w.heap.size w W → Calls Tryz.prog 34 #[.pointer (some ⟨x, 0, none⟩), .string (printS r nil0 [])] W fun e w' => e = .returned (.string ⟨#[0]⟩) ∧ K w') :
    Calls Tryz.prog 25 #[.pointer (some ⟨x, 0, none⟩), .agg (cellsOf r nil0.v)] w fun e w' => e = .returned (.bool true) ∧ K w' := by
  have HA : Hid (∀ W, Below w.heap.size w W → Calls Tryz.prog 18 #[.pointer (some ⟨x, 0, none⟩), .agg (cellsOf r nil0.v)] W fun e w' => e = .returned (.string ⟨#[0]⟩) ∧ K w') := fun W hb => by
    refine (asked_walk (fun t w' => t = ⟨#[0]⟩ ∧ K w') B r x W hright (hL.below (hb.mono hBw)) (by have := hb.size; omega) ?_).mono ?_
    · intro W' hb'
      refine (hD W' (hb.trans (hb'.mono hb.size))).mono ?_
      rintro e w' ⟨rfl, hk⟩
      exact ⟨_, rfl, rfl, hk⟩
    · rintro e w' ⟨t, rfl, rfl, hk⟩
      exact ⟨rfl, hk⟩
  have HCS : Hid ((Tryz.prog.info? 27).map (·.size) = some (cellsOf r nil0.v).size) := info37
  clear hD hright hL
  generalize cellsOf r nil0.v = C at *
  go_enter Tryz.func25, Tryz.ntmps25
  go_wp2_with (first | (refine wpList_load_row rfl 27 _ rfl w.heap.size rfl 27 C (0, 0) _ (heap_alloc_new _ _) Tryz.underlying27 rfl HCS.out ?_) | (go_at_call 18; refine (HA.out _ ((Below.refl _ _).alloc (Nat.le_refl _) _)).mono ?_; rintro e w1 ⟨rfl, hk⟩))
  go_ret
  exact ⟨rfl, by assumption⟩
end Go.Proofs.YtbdobaapadlcjaaGreatDoor
