/-
  THE CHECK BIT BY BIT, in plain mathematics: eight steps of one bit are two of four.
-/
import Derived.Test.YtbdobaapadlcjaaDoorCrc
namespace Go.Proofs.YtbdobaapadlcjaaDoor.Crc

def bst (h : Nat) : Nat := if h % 2 = 1 then (h / 2) ^^^ 3988292384 else h / 2
theorem mod2 (h : Nat) : h % 2 = 0 ∨ h % 2 = 1 := by omega
theorem xor_mod2 (a b : Nat) : (a ^^^ b) % 2 = (a % 2) ^^^ (b % 2) := Nat.xor_mod_two_pow (n := 1)
theorem xor_div2 (a b : Nat) : (a ^^^ b) / 2 = (a / 2) ^^^ (b / 2) := Nat.xor_div_two_pow (n := 1)
theorem bst_xor (a b : Nat) : bst (a ^^^ b) = bst a ^^^ bst b := by
  unfold bst
  rw [xor_mod2, xor_div2]
  rcases mod2 a with ha | ha <;> rcases mod2 b with hb | hb <;> rw [ha, hb]
  · rfl
  · show (a / 2 ^^^ b / 2) ^^^ 3988292384 = (a / 2) ^^^ (b / 2 ^^^ 3988292384)
    rw [Nat.xor_assoc]
  · show (a / 2 ^^^ b / 2) ^^^ 3988292384 = (a / 2 ^^^ 3988292384) ^^^ (b / 2)
    rw [Nat.xor_assoc, Nat.xor_assoc, Nat.xor_comm (b / 2)]
  · show a / 2 ^^^ b / 2 = (a / 2 ^^^ 3988292384) ^^^ (b / 2 ^^^ 3988292384)
    rw [Nat.xor_assoc, Nat.xor_comm 3988292384, Nat.xor_assoc, Nat.xor_self, Nat.xor_zero]
theorem bst_even (h : Nat) (e : h % 2 = 0) : bst h = h / 2 := by rw [bst, if_neg (by omega)]
theorem bst_odd (h : Nat) (e : h % 2 = 1) : bst h = (h / 2) ^^^ 3988292384 := by rw [bst, if_pos e]
theorem bst_lt {h : Nat} (hh : h < 4294967296) : bst h < 4294967296 := by
  unfold bst
  split
  · exact xor_lt (by omega) (by decide)
  · omega
def bstN : Nat → Nat → Nat
  | 0, h => h
  | k + 1, h => bst (bstN k h)
theorem bstN_lt (k : Nat) {h : Nat} (hh : h < 4294967296) : bstN k h < 4294967296 := by
  induction k with
  | zero => exact hh
  | succ k ih => exact bst_lt ih
theorem bstN_xor (k a b : Nat) : bstN k (a ^^^ b) = bstN k a ^^^ bstN k b := by
  induction k with
  | zero => rfl
  | succ k ih => show bst _ = bst _ ^^^ bst _; rw [ih, bst_xor]
theorem bst4_low (j : Nat) (h : j < 16) : bstN 4 j = tab.getD j 0 := by
  have : ∀ j : Fin 16, bstN 4 j.val = tab.getD j.val 0 := by decide
  exact this ⟨j, h⟩
theorem bst4_high (y : Nat) (h : y % 16 = 0) : bstN 4 y = y / 16 := by
  show bst (bst (bst (bst y))) = _
  rw [bst_even y (by omega), bst_even (y / 2) (by omega), bst_even (y / 2 / 2) (by omega), bst_even (y / 2 / 2 / 2) (by omega)]
  omega
theorem bst4 (x : Nat) : bstN 4 x = half x := by
  have e : x = (x ^^^ (x % 16)) ^^^ (x % 16) := by rw [Nat.xor_assoc, Nat.xor_self, Nat.xor_zero]
  have hm : (x ^^^ (x % 16)) % 16 = 0 := by
    have := Nat.xor_mod_two_pow (a := x) (b := x % 16) (n := 4)
    have e4 : (2 : Nat) ^ 4 = 16 := rfl
    rw [e4] at this
    rw [this, Nat.mod_mod, Nat.xor_self]
  have hd : (x ^^^ (x % 16)) / 16 = x / 16 := by
    have := Nat.xor_div_two_pow (a := x) (b := x % 16) (n := 4)
    have e4 : (2 : Nat) ^ 4 = 16 := rfl
    rw [e4] at this
    rw [this, Nat.div_eq_of_lt (Nat.mod_lt x (by decide)), Nat.xor_zero]
  have h1 := bstN_xor 4 (x ^^^ (x % 16)) (x % 16)
  rw [← e, bst4_high _ hm, hd, bst4_low _ (Nat.mod_lt _ (by decide))] at h1
  exact h1
theorem bstN_add (a b h : Nat) : bstN (a + b) h = bstN a (bstN b h) := by
  induction a with
  | zero => rw [Nat.zero_add]; rfl
  | succ a ih => rw [Nat.succ_add]; show bst _ = bst _; rw [ih]
theorem bst8 (x : Nat) : bstN 8 x = half (half x) := by
  rw [show 8 = 4 + 4 from rfl, bstN_add, bst4, bst4]
theorem step_bits (h : Nat) (b : UInt8) : step h b = bstN 8 (h ^^^ b.toNat) := (bst8 _).symm
theorem xor_i64 (a b : Nat) (ha : a < 4294967296) (hb : b < 4294967296) : bits .xor .i64 (a : Int) (b : Int) = ((a ^^^ b : Nat) : Int) := by
  have hx := xor_lt ha hb
  show IntKind.i64.wrap ((BitVec.ofInt 64 (a : Int) ^^^ BitVec.ofInt 64 (b : Int)).toNat : Int) = _
  rw [BitVec.toNat_xor, ofInt_u64 a (by omega), ofInt_u64 b (by omega)]
  simp [IntKind.wrap, IntKind.bits, IntKind.signed]
  omega
end Go.Proofs.YtbdobaapadlcjaaDoor.Crc
