/-
  THE WALK of the statements' shaped (11): whatever comes in, a right request comes out. (All Ops but B.)
-/
import Derived.Test.YtbdobaapadlcjaaGreatDoorBackF
namespace Go.Proofs.YtbdobaapadlcjaaGreatDoor.Keep
open Go.RowKit
set_option linter.unusedVariables false

/-- The strings of a request can be counted. -/
structure Szs (r : Wp.Rq) : Prop where
  grp : r.grp.size ≤ maxLen
  ded : r.ded.size ≤ maxLen
  bod : r.bod.size ≤ maxLen
  att : r.att.size ≤ maxLen
  han : r.han.size ≤ maxLen
/-- What shaped answers: a right request. -/
def Shaped (w : World) (e : Ending) (w' : World) : Prop :=
  ∃ (r : Wp.Rq) (x : Sl) (bs : List ByteArray), e = .returned (.agg (cellsOf r x.v)) ∧ rightW r x (Wp.short bs) = true ∧ Wf r ∧ x.n = bs.length ∧ bs.length ≤ 10 ∧ FStrs w.heap.size w' x.a bs
theorem fits_of (r : Wp.Rq) (n : Nat) (b : Bool) (f : Nat) (h1 : f ≠ 1) (h10 : f ≠ 10) (h14 : f ≠ 14) (ha : Wp.least f ≤ r.measure n f) (hb : r.measure n f ≤ Wp.most f) : r.fits n b f = true := by
  unfold Wp.Rq.fits
  rw [if_neg (fun e => h1 e.1), if_neg (by omega), if_neg (by omega), if_neg h1, if_neg h10, if_neg h14]
theorem fits_dead (r : Wp.Rq) (n : Nat) (b : Bool) (h : r.d = 45 ∨ 97 ≤ r.d.toNat ∧ r.d.toNat ≤ 104 ∧ r.d ≠ r.q) : r.fits n b 1 = true := by
  unfold Wp.Rq.fits
  by_cases h0 : r.d = 45
  · rw [if_pos ⟨rfl, h0⟩]
  · rw [if_neg (fun e => h0 e.2)]
    obtain ⟨h1, h2, h3⟩ := h.resolve_left h0
    have e1 : r.measure n 1 = (r.d.toNat : Int) := rfl
    have e2 : Wp.least 1 = 97 := rfl
    have e3 : Wp.most 1 = 104 := rfl
    rw [e1, e2, e3, if_neg (by omega), if_neg (by omega), if_pos rfl]
    simpa using h3
theorem fits_dedup (r : Wp.Rq) (n : Nat) (b : Bool) (h : r.ded.size ≤ 8) (hd : Wp.dedOk r.ded = true) : r.fits n b 10 = true := by
  unfold Wp.Rq.fits
  have e1 : r.measure n 10 = (r.ded.size : Int) := rfl
  have e2 : Wp.least 10 = 0 := rfl
  have e3 : Wp.most 10 = 8 := rfl
  rw [if_neg (fun e => by cases e.1), e1, e2, e3, if_neg (by omega), if_neg (by omega), if_neg (by decide), if_pos rfl]
  exact hd
theorem wf_small (r : Wp.Rq) (h1 : 0 ≤ r.vis ∧ r.vis ≤ 1001) (h2 : 0 ≤ r.win ∧ r.win ≤ 1001) (h3 : 0 ≤ r.rcv ∧ r.rcv ≤ 1001) (h4 : 0 ≤ r.quo ∧ r.quo ≤ 1001) (h5 : 0 ≤ r.mx ∧ r.mx ≤ 1001) (h6 : 0 ≤ r.tic ∧ r.tic ≤ 1001) : Wf r := by
  constructor <;> unfold i64 <;> omega
theorem zz : (0 : Int) ≤ 0 ∧ (0 : Int) ≤ 1001 := by decide
theorem heap3 (w : World) (A B C : Obj) : (((w.alloc A).alloc B).alloc C).heap[w.heap.size + 1]? = some B := by
  rw [Below.heap_alloc _ _ _ (by simp), heap_alloc2_new]
theorem below3 (w : World) (A B C : Obj) : Below w.heap.size w (((w.alloc A).alloc B).alloc C) :=
  (((Below.refl _ _).alloc (Nat.le_refl _) _).alloc (by simp) _).alloc (by simp; omega) _
theorem shaped_end {w w' : World} (r : Wp.Rq) (hr : rightW r ⟨none, 0, 0⟩ (Wp.short []) = true) (hw : Wf r) : Shaped w (.returned (.agg (cellsOf r (Sl.v ⟨none, 0, 0⟩)))) w' :=
  ⟨r, ⟨none, 0, 0⟩, [], rfl, hr, hw, rfl, by decide, fun j hj => absurd hj (by simp)⟩
end Go.Proofs.YtbdobaapadlcjaaGreatDoor.Keep
