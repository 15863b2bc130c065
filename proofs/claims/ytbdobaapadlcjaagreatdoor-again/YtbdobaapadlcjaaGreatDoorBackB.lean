/-
  WHAT IS RIGHT, in plain mathematics: a request that is right has nothing but its own fields.
-/
import Derived.Test.YtbdobaapadlcjaaGreatDoorWireK
namespace Go.Proofs.YtbdobaapadlcjaaGreatDoor
set_option linter.unusedVariables false

def i64 (n : Int) : Prop := -9223372036854775808 ≤ n ∧ n ≤ 9223372036854775807
/-- A request whose numbers are such. -/
structure Wf (r : Wp.Rq) : Prop where
  vis : i64 r.vis
  win : i64 r.win
  rcv : i64 r.rcv
  quo : i64 r.quo
  mx : i64 r.mx
  tic : i64 r.tic
theorem wrap_i64 (n : Int) : i64 (IntKind.i64.wrap n) := by
  unfold i64
  simp [IntKind.wrap, IntKind.bits, IntKind.signed]
  split <;> omega
theorem ofInt_zero (a : Int) (ha : i64 a) (h : BitVec.ofInt 64 a = 0#64) : a = 0 := by
  have h1 := congrArg BitVec.toInt h
  rw [BitVec.toInt_ofInt, BitVec.toInt_zero] at h1
  unfold i64 at ha
  unfold Int.bmod at h1
  dsimp only at h1
  split at h1 <;> omega
theorem or_zero_iff (a b : Int) (ha : i64 a) (hb : i64 b) : bits .or .i64 a b = 0 ↔ a = 0 ∧ b = 0 := by
  constructor
  · intro h
    have h0 : IntKind.i64.wrap ((BitVec.ofInt 64 a ||| BitVec.ofInt 64 b).toNat : Int) = 0 := h
    have hz : (BitVec.ofInt 64 a ||| BitVec.ofInt 64 b).toNat = 0 := by
      have hlt := (BitVec.ofInt 64 a ||| BitVec.ofInt 64 b).isLt
      generalize (BitVec.ofInt 64 a ||| BitVec.ofInt 64 b).toNat = n at h0 hlt
      simp [IntKind.wrap, IntKind.bits, IntKind.signed] at h0
      split at h0 <;> omega
    have hv : BitVec.ofInt 64 a ||| BitVec.ofInt 64 b = 0#64 := BitVec.eq_of_toNat_eq (by rw [hz]; rfl)
    have hab := BitVec.or_eq_zero_iff.1 hv
    exact ⟨ofInt_zero a ha hab.1, ofInt_zero b hb hab.2⟩
  · rintro ⟨rfl, rfl⟩
    decide
theorem or_i64_range (a b : Int) : i64 (bits .or .i64 a b) := wrap_i64 _
theorem or_byte (a b : Nat) (ha : a < 256) (hb : b < 256) : bits .or .u8 (a : Int) (b : Int) = 0 ↔ a = 0 ∧ b = 0 := by
  rw [u8_or_nat a b ha hb]
  constructor
  · intro h
    have h1 : a ||| b = 0 := by omega
    exact Nat.or_eq_zero_iff.1 h1
  · rintro ⟨rfl, rfl⟩; rfl
theorem or_byte_lt (a b : Nat) (ha : a < 256) (hb : b < 256) : ∃ c : Nat, bits .or .u8 (a : Int) (b : Int) = (c : Int) ∧ c < 256 ∧ (c = 0 ↔ a = 0 ∧ b = 0) :=
  ⟨a ||| b, u8_or_nat a b ha hb, by have := Nat.or_lt_two_pow (n := 8) (x := a) (y := b) (by omega) (by omega); omega, Nat.or_eq_zero_iff⟩
theorem empty_iff (s : ByteArray) : s.toList.isEmpty = true ↔ s = ⟨#[]⟩ := by
  constructor
  · intro h
    apply ByteArray.ext
    apply Array.eq_empty_of_size_eq_zero
    have : ¬ 0 < s.size := fun hs => by rw [str_ne hs] at h; cases h
    have e : s.size = s.data.size := rfl
    omega
  · rintro rfl; exact str_em (s := ⟨#[]⟩) (by show ¬ 0 < 0; omega)
theorem byte_zero (c : UInt8) : c.toNat = 0 ↔ c = 0 := ⟨fun h => UInt8.toNat_inj.1 h, fun h => by rw [h]; rfl⟩
/-- A request that is blank is without anything. -/
theorem blank_iff (r : Wp.Rq) (n : Nat) (h : Wf r) : blankW r n = true ↔ r = opR 0 ∧ n = 0 := by
  obtain ⟨c, hc, hc2, hc3⟩ := or_byte_lt r.op.toNat r.q.toNat r.op.toNat_lt r.q.toNat_lt
  unfold blankW
  rw [hc]
  simp only [Bool.and_eq_true, beq_iff_eq, or_byte c r.d.toNat hc2 r.d.toNat_lt, hc3, or_zero_iff _ _ (or_i64_range _ _) h.tic, or_zero_iff _ _ (or_i64_range _ _) h.mx, or_zero_iff _ _ (or_i64_range _ _) h.quo, or_zero_iff _ _ (or_i64_range _ _) h.rcv, or_zero_iff _ _ h.vis h.win, empty_iff, byte_zero]
  constructor
  · rintro ⟨⟨⟨⟨⟨h1, h2⟩, h3⟩, ⟨⟨⟨⟨h4, h5⟩, h6⟩, h7⟩, h8⟩, h9⟩, ⟨⟨⟨h10, h11⟩, h12⟩, h13⟩, h14⟩, h15⟩
    refine ⟨?_, by omega⟩
    cases r
    simp only at *
    subst h1 h2 h3 h4 h5 h6 h7 h8 h9 h10 h11 h12 h13 h14
    rfl
  · rintro ⟨rfl, rfl⟩
    exact ⟨⟨⟨⟨⟨rfl, rfl⟩, rfl⟩, ⟨⟨⟨⟨rfl, rfl⟩, rfl⟩, rfl⟩, rfl⟩, rfl⟩, ⟨⟨⟨rfl, rfl⟩, rfl⟩, rfl⟩, rfl⟩, rfl⟩
theorem ite_wf {c : Prop} [Decidable c] {a b : Wp.Rq} (ha : Wf a) (hb : Wf b) : Wf (if c then a else b) := by
  by_cases h : c
  · rw [if_pos h]; exact ha
  · rw [if_neg h]; exact hb
theorem er_wf (r : Wp.Rq) (f : Nat) (h : Wf r) : Wf (er r f) := by
  have hz : i64 0 := by unfold i64; omega
  obtain ⟨h1, h2, h3, h4, h5, h6⟩ := h
  unfold er
  repeat' (refine ite_wf ?_ ?_)
  all_goals exact ⟨by first | exact h1 | exact hz, by first | exact h2 | exact hz, by first | exact h3 | exact hz, by first | exact h4 | exact hz, by first | exact h5 | exact hz, by first | exact h6 | exact hz⟩
theorem erAll_wf (r : Wp.Rq) (L : List Nat) (h : Wf r) : Wf (erAll r L) := by
  unfold erAll
  induction L generalizing r with
  | nil => exact h
  | cons f L ih => exact ih _ (er_wf r f h)
/-- The places of the Ops among the letters. -/
def opsAt : List Nat := [0, 1, 2, 4, 15, 17, 18, 19, 21, 23]
theorem isOp_at (op : UInt8) : Wp.isOp op = true ↔ ∃ i ∈ opsAt, op.toNat = 65 + i := by
  have h1 : ∀ a : Fin 26, 0 < (Wp.lay a.val).length ↔ a.val ∈ opsAt := by decide
  have h2 : ∀ i ∈ opsAt, i < 26 := by decide
  simp only [Wp.isOp, Bool.and_eq_true, decide_eq_true_eq]
  constructor
  · rintro ⟨⟨a, b⟩, c⟩
    exact ⟨op.toNat - 65, (h1 ⟨op.toNat - 65, by omega⟩).1 c, by omega⟩
  · rintro ⟨i, hi, he⟩
    have := h2 i hi
    refine ⟨⟨by omega, by omega⟩, ?_⟩
    rw [he, Nat.add_sub_cancel_left]
    exact (h1 ⟨i, this⟩).2 hi
/-- What it is to be right. -/
theorem right_iff (r : Wp.Rq) (x : Sl) (b : Bool) (h : Wf r) : rightW r x b = true ↔ ∃ i ∈ opsAt, r.op.toNat = 65 + i ∧ (Wp.lay i).all (r.fits x.n b) = true ∧ erAll { r with op := 0 } (Wp.lay i) = opR 0 ∧ (ebAll x (Wp.lay i)).n = 0 := by
  have hw : Wf { r with op := 0 } := ⟨h.vis, h.win, h.rcv, h.quo, h.mx, h.tic⟩
  unfold rightW
  rw [Bool.and_eq_true, Bool.and_eq_true, isOp_at, blank_iff _ _ (erAll_wf _ _ hw)]
  constructor
  · rintro ⟨⟨i, hi, he⟩, h1, h2, h3⟩
    rw [he, Nat.add_sub_cancel_left] at h1 h2 h3
    exact ⟨i, hi, he, h1, h2, h3⟩
  · rintro ⟨i, hi, he, h1, h2, h3⟩
    rw [he, Nat.add_sub_cancel_left]
    exact ⟨⟨i, hi, rfl⟩, h1, h2, h3⟩
end Go.Proofs.YtbdobaapadlcjaaGreatDoor
