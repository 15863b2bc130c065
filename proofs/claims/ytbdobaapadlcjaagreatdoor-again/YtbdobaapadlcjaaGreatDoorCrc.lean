/-
  THE CHECK, in plain mathematics: what the loop of package wire's Check computes, and that one byte that is another makes another check. Nothing of the program is imported.
-/
import Derived.Laws.BitsAllLaws
namespace Go.Proofs.YtbdobaapadlcjaaGreatDoor.Crc

def tab : List Nat := [0, 498536548, 997073096, 651767980, 1994146192, 1802195444, 1303535960, 1342533948, 3988292384, 4027552580, 3604390888, 3412177804, 2607071920, 2262029012, 2685067896, 3183342108]
def half (h : Nat) : Nat := (h / 16) ^^^ tab.getD (h % 16) 0
def step (h : Nat) (b : UInt8) : Nat := half (half (h ^^^ b.toNat))
def run (h : Nat) (l : List UInt8) : Nat := l.foldl step h
def crc (l : List UInt8) : Nat := 4294967295 - run 4294967295 l

theorem tab_lt (i : Nat) : tab.getD i 0 < 4294967296 := by
  by_cases h : i < 16
  · have : ∀ j : Fin 16, tab.getD j.val 0 < 4294967296 := by decide
    exact this ⟨i, h⟩
  · rw [List.getD_eq_getElem?_getD, List.getElem?_eq_none (by simp [tab]; omega)]; decide

theorem xor_lt {a b : Nat} (ha : a < 4294967296) (hb : b < 4294967296) : a ^^^ b < 4294967296 := by
  have := Nat.xor_lt_two_pow (n := 32) (x := a) (y := b) (by omega) (by omega)
  omega

theorem half_lt {h : Nat} (hh : h < 4294967296) : half h < 4294967296 := xor_lt (by omega) (tab_lt _)

theorem tops (i j : Nat) (hi : i < 16) (hj : j < 16) (h : tab.getD i 0 / 2 ^ 28 = tab.getD j 0 / 2 ^ 28) : i = j := by
  have : ∀ a b : Fin 16, tab.getD a.val 0 / 2 ^ 28 = tab.getD b.val 0 / 2 ^ 28 → a.val = b.val := by decide
  exact this ⟨i, hi⟩ ⟨j, hj⟩ h

theorem xor_cancel {a b c : Nat} (h : a ^^^ c = b ^^^ c) : a = b := by
  have := congrArg (· ^^^ c) h
  simpa [Nat.xor_assoc] using this

theorem half_inj {a b : Nat} (ha : a < 4294967296) (hb : b < 4294967296) (h : half a = half b) : a = b := by
  unfold half at h
  have hd := congrArg (· / 2 ^ 28) h
  simp only [Nat.xor_div_two_pow] at hd
  have za : a / 16 / 2 ^ 28 = 0 := by omega
  have zb : b / 16 / 2 ^ 28 = 0 := by omega
  rw [za, zb, Nat.zero_xor, Nat.zero_xor] at hd
  have hm := tops _ _ (Nat.mod_lt _ (by decide)) (Nat.mod_lt _ (by decide)) hd
  rw [hm] at h
  have := xor_cancel h
  omega

theorem byte_lt (b : UInt8) : b.toNat < 4294967296 := Nat.lt_trans b.toNat_lt (by decide)
theorem step_lt {h : Nat} (b : UInt8) (hh : h < 4294967296) : step h b < 4294967296 := half_lt (half_lt (xor_lt hh (byte_lt b)))
theorem run_lt {h : Nat} (l : List UInt8) (hh : h < 4294967296) : run h l < 4294967296 := by
  induction l generalizing h with
  | nil => exact hh
  | cons b l ih => exact ih (step_lt b hh)
theorem step_inj {a b : Nat} (c : UInt8) (ha : a < 4294967296) (hb : b < 4294967296) (h : step a c = step b c) : a = b :=
  xor_cancel (half_inj (xor_lt ha (byte_lt c)) (xor_lt hb (byte_lt c)) (half_inj (half_lt (xor_lt ha (byte_lt c))) (half_lt (xor_lt hb (byte_lt c))) h))
theorem step_byte {a : Nat} (c d : UInt8) (ha : a < 4294967296) (h : step a c = step a d) : c = d := by
  have h1 := half_inj (xor_lt ha (byte_lt c)) (xor_lt ha (byte_lt d)) (half_inj (half_lt (xor_lt ha (byte_lt c))) (half_lt (xor_lt ha (byte_lt d))) h)
  rw [Nat.xor_comm a, Nat.xor_comm a] at h1
  exact UInt8.toNat_inj.1 (xor_cancel h1)
theorem run_inj {a b : Nat} (l : List UInt8) (ha : a < 4294967296) (hb : b < 4294967296) (h : run a l = run b l) : a = b := by
  induction l generalizing a b with
  | nil => exact h
  | cons c l ih => exact step_inj c ha hb (ih (step_lt c ha) (step_lt c hb) h)
theorem run_set {h : Nat} (l : List UInt8) (k : Nat) (c : UInt8) (hh : h < 4294967296) (hk : k < l.length) (hc : c ≠ l[k]) : run h (l.set k c) ≠ run h l := by
  induction l generalizing h k with
  | nil => simp at hk
  | cons b l ih =>
    cases k with
    | zero => exact fun e => hc (step_byte c b hh (run_inj l (step_lt c hh) (step_lt b hh) e))
    | succ k => exact ih k (step_lt b hh) (by simpa using hk) (by simpa using hc)
theorem crc_set (l : List UInt8) (k : Nat) (c : UInt8) (hk : k < l.length) (hc : c ≠ l[k]) : crc l ≠ crc (l.set k c) := by
  have h1 := run_lt (h := 4294967295) l (by decide)
  have h2 := run_lt (h := 4294967295) (l.set k c) (by decide)
  have h3 := run_set (h := 4294967295) l k c (by decide) hk hc
  unfold crc
  omega
theorem crc_digits : crc [49, 50, 51, 52, 53, 54, 55, 56, 57] = 3421780262 := by decide +kernel
theorem crc_nil : crc [] = 0 := rfl
theorem run_snoc (h : Nat) (l : List UInt8) (b : UInt8) : run h (l ++ [b]) = step (run h l) b := by simp [run]
theorem not_sub (x : Nat) (hx : x < 4294967296) : 4294967295 ^^^ x = 4294967295 - x := by
  have h := congrArg BitVec.toNat (BitVec.allOnes_xor (x := BitVec.ofNat 32 x))
  rw [BitVec.toNat_xor, BitVec.toNat_not, BitVec.toNat_allOnes, BitVec.toNat_ofNat, Nat.mod_eq_of_lt (by omega)] at h
  omega
theorem not_u32 (x : Nat) (hx : x < 4294967296) : bits .xor .u32 4294967295 (x : Int) = ((4294967295 - x : Nat) : Int) := by
  rw [← not_sub x hx]
  exact u32_xor_nat 4294967295 x (by omega) hx
theorem xor_u32 (a b : Nat) (ha : a < 4294967296) (hb : b < 4294967296) : bits .xor .u32 (a : Int) (b : Int) = ((a ^^^ b : Nat) : Int) := u32_xor_nat a b ha hb
theorem and_u32 (a : Nat) (ha : a < 4294967296) : bits .and .u32 (a : Int) 15 = ((a % 16 : Nat) : Int) := by
  have := u32_and_nat a 15 ha (by omega)
  rw [show (15 : Nat) = 2 ^ 4 - 1 by decide, Nat.and_two_pow_sub_one_eq_mod] at this
  exact this

end Go.Proofs.YtbdobaapadlcjaaGreatDoor.Crc
