/-
  THE WALKS of package wharfref's rightBatch (76), rightQueue (74), of Same (33) where the lists are not as long.
-/
import Derived.Test.YtbdobaapadlcjaaDoorRfD
namespace Go.Proofs.YtbdobaapadlcjaaDoor.Ref
open Go.RowKit
set_option linter.unusedVariables false

set_option maxRecDepth 100000 in
set_option maxHeartbeats 1000000 in
theorem same_len (r r2 : Wp.Rq) (x y : Sl) (w : World) (h : x.n ≠ y.n) :
    Calls Tryd.prog 33 #[.agg (cellsOf r x.v), .agg (cellsOf r2 y.v)] w fun e w' => e = .returned (.bool false) ∧ Below w.heap.size w w' := by
  have hnn : (((x.n : Nat) : Int) != ((y.n : Nat) : Int)) = true := by simp; omega
  clear h
  unfold cellsOf Sl.v
  go_enter Tryd.func33, Tryd.ntmps33
  go_wp2_with fail
  go_ret
  exact ⟨rfl, ((Below.refl _ _).alloc (Nat.le_refl _) _).alloc (by simp) _⟩

set_option maxHeartbeats 1000000 in
theorem rightBatch_any (a : Option Addr) (c : Nat) (bs : List ByteArray) (w : World) (hb : bs.length ≤ 8796093022208) (hbs : ∀ s ∈ bs, s.size ≤ maxLen) (hS : Strs w a bs) :
    Calls Tryd.prog 79 #[.slice a bs.length c] w fun e w' => e = .returned (.bool (Wp.short bs && (decide (1 ≤ bs.length) && decide (bs.length ≤ 10)))) ∧ w' = w := by
  have HS : Hid (Strs w a bs) := hS
  have HBS : Hid (∀ s ∈ bs, s.size ≤ maxLen) := hbs
  clear hS hbs
  go_enter Tryd.func79, Tryd.ntmps79
  go_wp2
  go_loop [3] (fun i => ∃ k : Nat, k ≤ bs.length ∧ i = .int .i64 k ∧ Wp.short (bs.take k) = true) (fun i => bs.length - (intOf i).toNat)
  case atStart => exact ⟨0, Nat.zero_le _, rfl, rfl⟩
  case round =>
    obtain ⟨k, hk, rfl, hsh⟩ := hrel
    by_cases hlt : k < bs.length
    · obtain ⟨g, o, rfl, hc⟩ := HS.out k hlt
      have hsn : Hid (Wp.short (bs.take (k + 1)) = (Wp.short (bs.take k) && decide (bs[k].size ≤ 255))) := by
        show _ = _
        rw [List.take_succ_eq_append_getElem hlt, Wp.short, List.all_append]
        simp only [List.all_cons, List.all_nil, Bool.and_true]
        rfl
      have hmem : Hid (bs[k] ∈ bs) := List.getElem_mem hlt
      have hsz := HBS.out bs[k] (List.getElem_mem hlt)
      unfold maxLen at hsz
      have HSH : Hid (Wp.short (bs.take k) = true) := hsh
      generalize bs[k] = S at hc hsn hsz hmem
      clear hsh
      by_cases hs : 255 < S.size
      · have hv : Hid (Wp.short bs = false) := by
          show _ = _
          rw [Bool.eq_false_iff]
          intro h
          have := List.all_eq_true.1 h S hmem.out
          simp at this
          omega
        go_wp2
        go_ret
        exact ⟨by rw [hv.out]; rfl, rfl⟩
      · have hv : Hid (Wp.short (bs.take (k + 1)) = true) := by
          show _ = _
          rw [hsn.out, HSH.out]
          simp
          omega
        go_wp2
        go_round
        case rel => exact ⟨k + 1, by omega, by go_num, hv.out⟩
        case measure => simp [intOf]; omega
    · have he : bs.take k = bs := List.take_of_length_le (by omega)
      rw [he] at hsh
      have HSH : Hid (Wp.short bs = true) := hsh
      clear hsh he
      by_cases h1 : 1 ≤ bs.length
      · have hv : Hid ((Wp.short bs && (decide (1 ≤ bs.length) && decide (bs.length ≤ 10))) = decide (bs.length ≤ 10)) := by show _ = _; rw [HSH.out]; simp [h1]
        go_wp2
        go_ret
        exact ⟨ret_bool (by rw [HSH.out]; simp; omega), rfl⟩
      · have hv : Hid ((Wp.short bs && (decide (1 ≤ bs.length) && decide (bs.length ≤ 10))) = false) := by show _ = _; rw [HSH.out]; simp [h1]
        go_wp2
        go_ret
        exact ⟨rfl, rfl⟩

/-- The fields of a C. -/
def rightQ (r : Wp.Rq) : Bool := (decide (1 ≤ r.vis) && decide (r.vis ≤ 1000)) && (decide (0 ≤ r.win) && decide (r.win ≤ 1000)) && (decide (0 ≤ r.rcv) && decide (r.rcv ≤ 9)) && (decide (1 ≤ r.quo) && decide (r.quo ≤ 50)) &&
  ((((r.d.toNat : Int) == 45)) || ((decide (97 ≤ r.d.toNat) && decide (r.d.toNat ≤ 104)) && ((r.d.toNat : Int) != (r.q.toNat : Int))))
set_option maxRecDepth 100000 in
set_option maxHeartbeats 1000000 in
theorem rightQueue_any (r : Wp.Rq) (x : Sl) (w : World) :
    Calls Tryd.prog 77 #[.agg (cellsOf r x.v)] w fun e w' => e = .returned (.bool (rightQ r)) ∧ Below w.heap.size w w' := by
  unfold rightQ
  unfold cellsOf Sl.v
  go_enter Tryd.func77, Tryd.ntmps77
  go_wp2_with (first | (go_at_call 78; refine (in_any _ _ _ _).mono ?_; rintro e w' ⟨rfl, rfl⟩) | (go_at_call 76; refine (letter_any _ _).mono ?_; rintro e w' ⟨rfl, rfl⟩))
  all_goals
    go_ret
    exact ⟨ret_bool (by simp_all <;> (intros; omega)), (Below.refl _ _).alloc (Nat.le_refl _) _⟩
end Go.Proofs.YtbdobaapadlcjaaDoor.Ref
