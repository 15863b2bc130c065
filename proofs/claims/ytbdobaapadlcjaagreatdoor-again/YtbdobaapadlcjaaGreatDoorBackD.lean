/-
  WRITING WHAT WAS READ: bytes that are a right request's are the bytes of it.
-/
import Derived.Test.YtbdobaapadlcjaaGreatDoorBackC
namespace Go.Proofs.YtbdobaapadlcjaaGreatDoor
set_option linter.unusedVariables false

theorem bad_false {s : ByteArray} {fl : Bool} {n : Nat} (h : bad s fl n = false) : fl = false ∧ n ≤ s.size := by
  unfold bad at h
  by_cases hn : n ≤ s.size
  · rw [if_pos hn] at h; exact ⟨h, hn⟩
  · rw [if_neg hn] at h; cases h
theorem take_lf (s : ByteArray) (n : Nat) (h : n ≤ s.size) : s.data.toList = (tk s n).data.toList ++ (lf s n).data.toList := by
  rw [tk_list s n h, lf_list s n h, List.take_append_drop]
theorem tk_length (s : ByteArray) (n : Nat) (h : n ≤ s.size) : (tk s n).data.toList.length = n := by
  rw [tk_list s n h, List.length_take]
  have : s.data.toList.length = s.size := rfl
  omega
theorem lowB_cons (n k : Nat) : lowB n (k + 1) = UInt8.ofNat (n % 256) :: lowB (n / 256) k := by
  unfold lowB
  rw [List.range_succ_eq_map, List.map_cons, List.map_map]
  congr 1
  · simp
  · apply List.map_congr_left
    intro j _
    show UInt8.ofNat (n / 256 ^ (j + 1) % 256) = UInt8.ofNat (n / 256 / 256 ^ j % 256)
    rw [Nat.div_div_eq_div_mul, Nat.pow_succ, Nat.mul_comm]
theorem lowB_le (l : List UInt8) : lowB (leN l) l.length = l := by
  induction l with
  | nil => rfl
  | cons c r ih =>
    have hc := c.toNat_lt
    have h1 : leN (c :: r) % 256 = c.toNat := by show (c.toNat + 256 * leN r) % 256 = _; omega
    have h2 : leN (c :: r) / 256 = leN r := by show (c.toNat + 256 * leN r) / 256 = _; omega
    rw [List.length_cons, lowB_cons, h1, h2, ih]
    congr 1
    simp
theorem num_taken (s : ByteArray) (n : Nat) (h : n ≤ s.size) : lowB (nmN s n) n = (tk s n).data.toList := by
  have h1 := lowB_le (tk s n).data.toList
  rw [tk_length s n h] at h1
  exact h1
theorem byte_taken (s : ByteArray) (h : 1 ≤ s.size) : [UInt8.ofNat (nmN s 1 % 256)] = (tk s 1).data.toList := by
  have h1 := num_taken s 1 h
  rw [lowB_cons] at h1
  exact h1
theorem txt_taken (s : ByteArray) (fl : Bool) (h : txF s fl = false) : fl = false ∧ s.data.toList = txtB (txS s) ++ (txL s).data.toList := by
  have h1 := bad_false h
  have h2 := bad_false h1.1
  refine ⟨h2.1, ?_⟩
  have e1 := take_lf s 1 h2.2
  have e2 := take_lf (lf s 1) (nmN s 1) h1.2
  have e3 : (txS s).size = nmN s 1 := tk_length (lf s 1) (nmN s 1) h1.2
  rw [txtB, e3, num_taken s 1 h2.2, List.append_assoc]
  exact e1.trans (congrArg _ e2)
theorem rd_taken (k : Nat) (s : ByteArray) (fl : Bool) (h : rdF k s fl = false) : fl = false ∧ s.data.toList = txtsB (rdT k s) ++ (rdS k s).data.toList := by
  induction k generalizing s fl with
  | zero => exact ⟨h, rfl⟩
  | succ k ih =>
    rw [rdF_cons] at h
    obtain ⟨h1, h2⟩ := ih _ _ h
    obtain ⟨h3, h4⟩ := txt_taken s fl h1
    refine ⟨h3, ?_⟩
    rw [rdT_cons, rdS_cons]
    have e : txtsB (txS s :: rdT k (txL s)) = txtB (txS s) ++ txtsB (rdT k (txL s)) := by simp [txtsB]
    rw [e, List.append_assoc, ← h2]
    exact h4
theorem write_0 (s : ByteArray) (fl : Bool) (r : Wp.Rq) (bs : List ByteArray) (h : stF s fl 0 = false) : fl = false ∧ s.data.toList = encF (setR r s 0) (if 0 = 14 then rdT (nmN s 1) (lf s 1) else bs) 0 ++ (stS s 0).data.toList := by
  have h' : bad s fl 1 = false := h
  have hb := bad_false h'
  have e : encF (setR r s 0) (if 0 = 14 then rdT (nmN s 1) (lf s 1) else bs) 0 = [UInt8.ofNat (nmN s 1 % 256)] := rfl
  have e2 : stS s 0 = lf s 1 := rfl
  rw [e, e2, byte_taken s hb.2]
  exact ⟨hb.1, take_lf s 1 hb.2⟩
theorem write_1 (s : ByteArray) (fl : Bool) (r : Wp.Rq) (bs : List ByteArray) (h : stF s fl 1 = false) : fl = false ∧ s.data.toList = encF (setR r s 1) (if 1 = 14 then rdT (nmN s 1) (lf s 1) else bs) 1 ++ (stS s 1).data.toList := by
  have h' : bad s fl 1 = false := h
  have hb := bad_false h'
  have e : encF (setR r s 1) (if 1 = 14 then rdT (nmN s 1) (lf s 1) else bs) 1 = [UInt8.ofNat (nmN s 1 % 256)] := rfl
  have e2 : stS s 1 = lf s 1 := rfl
  rw [e, e2, byte_taken s hb.2]
  exact ⟨hb.1, take_lf s 1 hb.2⟩
theorem write_2 (s : ByteArray) (fl : Bool) (r : Wp.Rq) (bs : List ByteArray) (h : stF s fl 2 = false) : fl = false ∧ s.data.toList = encF (setR r s 2) (if 2 = 14 then rdT (nmN s 1) (lf s 1) else bs) 2 ++ (stS s 2).data.toList := by
  have h' : bad s fl 2 = false := h
  have hb := bad_false h'
  have e : encF (setR r s 2) (if 2 = 14 then rdT (nmN s 1) (lf s 1) else bs) 2 = lowB ((nmN s 2 : Nat) : Int).toNat 2 := rfl
  have e2 : stS s 2 = lf s 2 := rfl
  rw [e, e2, Int.toNat_natCast, num_taken s 2 hb.2]
  exact ⟨hb.1, take_lf s 2 hb.2⟩
theorem write_3 (s : ByteArray) (fl : Bool) (r : Wp.Rq) (bs : List ByteArray) (h : stF s fl 3 = false) : fl = false ∧ s.data.toList = encF (setR r s 3) (if 3 = 14 then rdT (nmN s 1) (lf s 1) else bs) 3 ++ (stS s 3).data.toList := by
  have h' : bad s fl 2 = false := h
  have hb := bad_false h'
  have e : encF (setR r s 3) (if 3 = 14 then rdT (nmN s 1) (lf s 1) else bs) 3 = lowB ((nmN s 2 : Nat) : Int).toNat 2 := rfl
  have e2 : stS s 3 = lf s 2 := rfl
  rw [e, e2, Int.toNat_natCast, num_taken s 2 hb.2]
  exact ⟨hb.1, take_lf s 2 hb.2⟩
theorem write_4 (s : ByteArray) (fl : Bool) (r : Wp.Rq) (bs : List ByteArray) (h : stF s fl 4 = false) : fl = false ∧ s.data.toList = encF (setR r s 4) (if 4 = 14 then rdT (nmN s 1) (lf s 1) else bs) 4 ++ (stS s 4).data.toList := by
  have h' : bad s fl 1 = false := h
  have hb := bad_false h'
  have e : encF (setR r s 4) (if 4 = 14 then rdT (nmN s 1) (lf s 1) else bs) 4 = lowB ((nmN s 1 : Nat) : Int).toNat 1 := rfl
  have e2 : stS s 4 = lf s 1 := rfl
  rw [e, e2, Int.toNat_natCast, num_taken s 1 hb.2]
  exact ⟨hb.1, take_lf s 1 hb.2⟩
theorem write_5 (s : ByteArray) (fl : Bool) (r : Wp.Rq) (bs : List ByteArray) (h : stF s fl 5 = false) : fl = false ∧ s.data.toList = encF (setR r s 5) (if 5 = 14 then rdT (nmN s 1) (lf s 1) else bs) 5 ++ (stS s 5).data.toList := by
  have h' : bad s fl 1 = false := h
  have hb := bad_false h'
  have e : encF (setR r s 5) (if 5 = 14 then rdT (nmN s 1) (lf s 1) else bs) 5 = lowB ((nmN s 1 : Nat) : Int).toNat 1 := rfl
  have e2 : stS s 5 = lf s 1 := rfl
  rw [e, e2, Int.toNat_natCast, num_taken s 1 hb.2]
  exact ⟨hb.1, take_lf s 1 hb.2⟩
theorem write_6 (s : ByteArray) (fl : Bool) (r : Wp.Rq) (bs : List ByteArray) (h : stF s fl 6 = false) : fl = false ∧ s.data.toList = encF (setR r s 6) (if 6 = 14 then rdT (nmN s 1) (lf s 1) else bs) 6 ++ (stS s 6).data.toList := by
  have h' : bad s fl 1 = false := h
  have hb := bad_false h'
  have e : encF (setR r s 6) (if 6 = 14 then rdT (nmN s 1) (lf s 1) else bs) 6 = lowB ((nmN s 1 : Nat) : Int).toNat 1 := rfl
  have e2 : stS s 6 = lf s 1 := rfl
  rw [e, e2, Int.toNat_natCast, num_taken s 1 hb.2]
  exact ⟨hb.1, take_lf s 1 hb.2⟩
theorem write_7 (s : ByteArray) (fl : Bool) (r : Wp.Rq) (bs : List ByteArray) (h : stF s fl 7 = false) : fl = false ∧ s.data.toList = encF (setR r s 7) (if 7 = 14 then rdT (nmN s 1) (lf s 1) else bs) 7 ++ (stS s 7).data.toList := by
  have h' : bad s fl 2 = false := h
  have hb := bad_false h'
  have e : encF (setR r s 7) (if 7 = 14 then rdT (nmN s 1) (lf s 1) else bs) 7 = lowB ((nmN s 2 : Nat) : Int).toNat 2 := rfl
  have e2 : stS s 7 = lf s 2 := rfl
  rw [e, e2, Int.toNat_natCast, num_taken s 2 hb.2]
  exact ⟨hb.1, take_lf s 2 hb.2⟩
theorem write_8 (s : ByteArray) (fl : Bool) (r : Wp.Rq) (bs : List ByteArray) (h : stF s fl 8 = false) : fl = false ∧ s.data.toList = encF (setR r s 8) (if 8 = 14 then rdT (nmN s 1) (lf s 1) else bs) 8 ++ (stS s 8).data.toList := by
  have h' : bad s fl 2 = false := h
  have hb := bad_false h'
  have e : encF (setR r s 8) (if 8 = 14 then rdT (nmN s 1) (lf s 1) else bs) 8 = lowB ((nmN s 2 : Nat) : Int).toNat 2 := rfl
  have e2 : stS s 8 = lf s 2 := rfl
  rw [e, e2, Int.toNat_natCast, num_taken s 2 hb.2]
  exact ⟨hb.1, take_lf s 2 hb.2⟩
theorem write_9 (s : ByteArray) (fl : Bool) (r : Wp.Rq) (bs : List ByteArray) (h : stF s fl 9 = false) : fl = false ∧ s.data.toList = encF (setR r s 9) (if 9 = 14 then rdT (nmN s 1) (lf s 1) else bs) 9 ++ (stS s 9).data.toList := by
  have h' : txF s fl = false := h
  have e : encF (setR r s 9) (if 9 = 14 then rdT (nmN s 1) (lf s 1) else bs) 9 = txtB (txS s) := rfl
  have e2 : stS s 9 = txL s := rfl
  rw [e, e2]
  exact txt_taken s fl h'
theorem write_10 (s : ByteArray) (fl : Bool) (r : Wp.Rq) (bs : List ByteArray) (h : stF s fl 10 = false) : fl = false ∧ s.data.toList = encF (setR r s 10) (if 10 = 14 then rdT (nmN s 1) (lf s 1) else bs) 10 ++ (stS s 10).data.toList := by
  have h' : txF s fl = false := h
  have e : encF (setR r s 10) (if 10 = 14 then rdT (nmN s 1) (lf s 1) else bs) 10 = txtB (txS s) := rfl
  have e2 : stS s 10 = txL s := rfl
  rw [e, e2]
  exact txt_taken s fl h'
theorem write_11 (s : ByteArray) (fl : Bool) (r : Wp.Rq) (bs : List ByteArray) (h : stF s fl 11 = false) : fl = false ∧ s.data.toList = encF (setR r s 11) (if 11 = 14 then rdT (nmN s 1) (lf s 1) else bs) 11 ++ (stS s 11).data.toList := by
  have h' : txF s fl = false := h
  have e : encF (setR r s 11) (if 11 = 14 then rdT (nmN s 1) (lf s 1) else bs) 11 = txtB (txS s) := rfl
  have e2 : stS s 11 = txL s := rfl
  rw [e, e2]
  exact txt_taken s fl h'
theorem write_12 (s : ByteArray) (fl : Bool) (r : Wp.Rq) (bs : List ByteArray) (h : stF s fl 12 = false) : fl = false ∧ s.data.toList = encF (setR r s 12) (if 12 = 14 then rdT (nmN s 1) (lf s 1) else bs) 12 ++ (stS s 12).data.toList := by
  have h' : txF s fl = false := h
  have e : encF (setR r s 12) (if 12 = 14 then rdT (nmN s 1) (lf s 1) else bs) 12 = txtB (txS s) := rfl
  have e2 : stS s 12 = txL s := rfl
  rw [e, e2]
  exact txt_taken s fl h'
theorem write_13 (s : ByteArray) (fl : Bool) (r : Wp.Rq) (bs : List ByteArray) (h : stF s fl 13 = false) : fl = false ∧ s.data.toList = encF (setR r s 13) (if 13 = 14 then rdT (nmN s 1) (lf s 1) else bs) 13 ++ (stS s 13).data.toList := by
  have h' : txF s fl = false := h
  have e : encF (setR r s 13) (if 13 = 14 then rdT (nmN s 1) (lf s 1) else bs) 13 = txtB (txS s) := rfl
  have e2 : stS s 13 = txL s := rfl
  rw [e, e2]
  exact txt_taken s fl h'
theorem write_14 (s : ByteArray) (fl : Bool) (r : Wp.Rq) (bs : List ByteArray) (h : stF s fl 14 = false) : fl = false ∧ s.data.toList = encF (setR r s 14) (if 14 = 14 then rdT (nmN s 1) (lf s 1) else bs) 14 ++ (stS s 14).data.toList := by
  have h' : rdF (nmN s 1) (lf s 1) (bad s fl 1) = false := h
  have e : encF (setR r s 14) (if 14 = 14 then rdT (nmN s 1) (lf s 1) else bs) 14 = lowB (rdT (nmN s 1) (lf s 1)).length 1 ++ txtsB (rdT (nmN s 1) (lf s 1)) := rfl
  have e2 : stS s 14 = rdS (nmN s 1) (lf s 1) := rfl
  have ht := rd_taken (nmN s 1) (lf s 1) (bad s fl 1) h'
  have hb := bad_false ht.1
  rw [e, e2, rdT_length, num_taken s 1 hb.2, List.append_assoc, ← ht.2]
  exact ⟨hb.1, take_lf s 1 hb.2⟩
theorem write_read (s : ByteArray) (fl : Bool) (r : Wp.Rq) (bs : List ByteArray) (f : Nat) (hf : f < 15) (h : stF s fl f = false) : fl = false ∧ s.data.toList = encF (setR r s f) (if f = 14 then rdT (nmN s 1) (lf s 1) else bs) f ++ (stS s f).data.toList := by
  have hx : f = 0 ∨ f = 1 ∨ f = 2 ∨ f = 3 ∨ f = 4 ∨ f = 5 ∨ f = 6 ∨ f = 7 ∨ f = 8 ∨ f = 9 ∨ f = 10 ∨ f = 11 ∨ f = 12 ∨ f = 13 ∨ f = 14 := by omega
  rcases hx with rfl | rfl | rfl | rfl | rfl | rfl | rfl | rfl | rfl | rfl | rfl | rfl | rfl | rfl | rfl
  · exact write_0 s fl r bs h
  · exact write_1 s fl r bs h
  · exact write_2 s fl r bs h
  · exact write_3 s fl r bs h
  · exact write_4 s fl r bs h
  · exact write_5 s fl r bs h
  · exact write_6 s fl r bs h
  · exact write_7 s fl r bs h
  · exact write_8 s fl r bs h
  · exact write_9 s fl r bs h
  · exact write_10 s fl r bs h
  · exact write_11 s fl r bs h
  · exact write_12 s fl r bs h
  · exact write_13 s fl r bs h
  · exact write_14 s fl r bs h


end Go.Proofs.YtbdobaapadlcjaaGreatDoor
