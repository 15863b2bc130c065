import Derived.Test.YtbdobaapadlcjaaGreatDoorOx07
import Derived.Test.YtbdobaapadlcjaaGreatDoorOx00
namespace Go.Proofs.YtbdobaapadlcjaaGreatDoor
set_option linter.unusedVariables false
set_option linter.unusedSimpArgs false
def BA (l : List UInt8) : ByteArray := ⟨l.toArray⟩
theorem BA_list (l : List UInt8) : (BA l).data.toList = l := rfl
theorem BA_size (l : List UInt8) : (BA l).size = l.length := by simp [BA, ByteArray.size]
theorem ext_list {s t : ByteArray} (h : s.data.toList = t.data.toList) : s = t := ByteArray.ext (Array.toList_inj.1 h)
theorem tk_list (s : ByteArray) (n : Nat) (h : n ≤ s.size) : (tk s n).data.toList = s.data.toList.take n := by
  rw [tk, if_pos h, Lib.extract_data]; simp
theorem lf_list (s : ByteArray) (n : Nat) (h : n ≤ s.size) : (lf s n).data.toList = s.data.toList.drop n := by
  rw [lf, if_pos h, Lib.extract_data]
  have : s.size = s.data.toList.length := rfl
  rw [this, List.take_of_length_le (by simp)]
theorem tk_app (p q : List UInt8) : tk (BA (p ++ q)) p.length = BA p := by
  apply ext_list
  rw [tk_list _ _ (by rw [BA_size]; simp), BA_list, BA_list, List.take_left]
theorem lf_app (p q : List UInt8) : lf (BA (p ++ q)) p.length = BA q := by
  apply ext_list
  rw [lf_list _ _ (by rw [BA_size]; simp), BA_list, BA_list, List.drop_left]
theorem bad_app (p q : List UInt8) (f : Bool) : bad (BA (p ++ q)) f p.length = f := by
  rw [bad, if_pos (by rw [BA_size]; simp)]
theorem leN_low1 (n : Nat) : leN (lowB n 1) = n % 256 := by
  have h : (UInt8.ofNat (n % 256)).toNat = n % 256 := UInt8.toNat_ofNat_of_lt' (by have := Nat.mod_lt n (show 0 < 256 by decide); simpa using this)
  have e : lowB n 1 = [UInt8.ofNat (n % 256)] := by simp [lowB]
  rw [e]
  show (UInt8.ofNat (n % 256)).toNat + 256 * 0 = _
  omega
theorem leN_low2 (n : Nat) : leN (lowB n 2) = n % 65536 := by
  have h : ∀ m : Nat, (UInt8.ofNat (m % 256)).toNat = m % 256 := fun m => UInt8.toNat_ofNat_of_lt' (by have := Nat.mod_lt m (show 0 < 256 by decide); simpa using this)
  have e : lowB n 2 = [UInt8.ofNat (n % 256), UInt8.ofNat (n / 256 % 256)] := by simp [lowB, List.range_succ]
  rw [e]
  show (UInt8.ofNat (n % 256)).toNat + 256 * ((UInt8.ofNat (n / 256 % 256)).toNat + 256 * 0) = _
  rw [h, h]
  omega
theorem nm_low1 (n : Nat) (q : List UInt8) (h : n < 256) : nmN (BA (lowB n 1 ++ q)) 1 = n := by
  have e := tk_app (lowB n 1) q
  rw [lowB_length] at e
  rw [nmN, e, BA_list, leN_low1]; omega
theorem nm_low2 (n : Nat) (q : List UInt8) (h : n < 65536) : nmN (BA (lowB n 2 ++ q)) 2 = n := by
  have e := tk_app (lowB n 2) q
  rw [lowB_length] at e
  rw [nmN, e, BA_list, leN_low2]; omega
theorem nm_byte (c : UInt8) (q : List UInt8) : UInt8.ofNat (nmN (BA ([c] ++ q)) 1 % 256) = c := by
  have e := tk_app [c] q
  rw [show [c].length = 1 from rfl] at e
  have h : nmN (BA ([c] ++ q)) 1 = c.toNat := by
    rw [nmN, e, BA_list]; simp [leN]
  have hc := c.toNat_lt
  rw [h, Nat.mod_eq_of_lt hc]
  simp
theorem tx_app (t : ByteArray) (q : List UInt8) (fl : Bool) (h : t.size < 256) : txS (BA (txtB t ++ q)) = t ∧ txL (BA (txtB t ++ q)) = BA q ∧ txF (BA (txtB t ++ q)) fl = fl := by
  have hl := lowB_length t.size 1
  have e : txtB t ++ q = lowB t.size 1 ++ (t.data.toList ++ q) := by rw [txtB, List.append_assoc]
  have h1 := lf_app (lowB t.size 1) (t.data.toList ++ q)
  have h2 := bad_app (lowB t.size 1) (t.data.toList ++ q) fl
  rw [hl] at h1 h2
  have h3 := nm_low1 t.size (t.data.toList ++ q) h
  have h4 := tk_app t.data.toList q
  have h5 := lf_app t.data.toList q
  have h6 := bad_app t.data.toList q fl
  have hs : t.data.toList.length = t.size := rfl
  rw [hs] at h4 h5 h6
  rw [e]
  refine ⟨?_, ?_, ?_⟩
  · rw [txS, h3, h1, h4]; rfl
  · rw [txL, h3, h1, h5]
  · rw [txF, h3, h1, h2, h6]
theorem rdS_cons (k : Nat) (s : ByteArray) : rdS (k + 1) s = rdS k (txL s) := by
  induction k with
  | zero => rfl
  | succ k ih => rw [rdS, ih]; rfl
theorem rdF_cons (k : Nat) (s : ByteArray) (f : Bool) : rdF (k + 1) s f = rdF k (txL s) (txF s f) := by
  induction k with
  | zero => rfl
  | succ k ih => rw [rdF, ih, rdS_cons]; rfl
theorem rdT_cons (k : Nat) (s : ByteArray) : rdT (k + 1) s = txS s :: rdT k (txL s) := by
  induction k with
  | zero => rfl
  | succ k ih => rw [rdT, ih, rdS_cons]; rfl
theorem rd_app (bs : List ByteArray) (q : List UInt8) (fl : Bool) (h : ∀ s ∈ bs, s.size < 256) : rdT bs.length (BA (txtsB bs ++ q)) = bs ∧ rdS bs.length (BA (txtsB bs ++ q)) = BA q ∧ rdF bs.length (BA (txtsB bs ++ q)) fl = fl := by
  induction bs with
  | nil => exact ⟨rfl, rfl, rfl⟩
  | cons b bs ih =>
    have e : txtsB (b :: bs) ++ q = txtB b ++ (txtsB bs ++ q) := by simp [txtsB]
    have h1 := tx_app b (txtsB bs ++ q) fl (h b List.mem_cons_self)
    have h2 := ih (fun s hs => h s (List.mem_cons_of_mem _ hs))
    rw [e, List.length_cons, rdT_cons, rdS_cons, rdF_cons, h1.1, h1.2.1, h1.2.2, h2.1]
    exact ⟨rfl, h2.2.1, h2.2.2⟩
def cp (r0 r : Wp.Rq) (f : Nat) : Wp.Rq :=
  if f = 0 then { r0 with q := r.q }
  else if f = 1 then { r0 with d := r.d }
  else if f = 2 then { r0 with vis := r.vis }
  else if f = 3 then { r0 with win := r.win }
  else if f = 4 then { r0 with rcv := r.rcv }
  else if f = 5 then { r0 with quo := r.quo }
  else if f = 6 then { r0 with mx := r.mx }
  else if f = 7 then { r0 with tic := r.tic }
  else if f = 8 then { r0 with tic := r.tic }
  else if f = 9 then { r0 with grp := r.grp }
  else if f = 10 then { r0 with ded := r.ded }
  else if f = 11 then { r0 with bod := r.bod }
  else if f = 12 then { r0 with att := r.att }
  else if f = 13 then { r0 with han := r.han }
  else r0
set_option maxHeartbeats 4000000 in
theorem read_enc (r0 r : Wp.Rq) (bs : List ByteArray) (f : Nat) (q : List UInt8) (fl : Bool) (hf : f < 15) (h : r.fits bs.length (Wp.short bs) f = true) :
    setR r0 (BA (encF r bs f ++ q)) f = cp r0 r f ∧ stS (BA (encF r bs f ++ q)) f = BA q ∧ stF (BA (encF r bs f ++ q)) fl f = fl ∧ (f = 14 → rdT (nmN (BA (encF r bs f ++ q)) 1) (lf (BA (encF r bs f ++ q)) 1) = bs) := by
  have hx : f = 0 ∨ f = 1 ∨ f = 2 ∨ f = 3 ∨ f = 4 ∨ f = 5 ∨ f = 6 ∨ f = 7 ∨ f = 8 ∨ f = 9 ∨ f = 10 ∨ f = 11 ∨ f = 12 ∨ f = 13 ∨ f = 14 := by omega
  rcases hx with rfl | rfl | rfl | rfl | rfl | rfl | rfl | rfl | rfl | rfl | rfl | rfl | rfl | rfl | rfl
  · have e : encF r bs 0 = [r.q] := rfl
    rw [e]
    refine ⟨?_, lf_app [r.q] q, bad_app [r.q] q fl, fun h => by cases h⟩
    show { r0 with q := UInt8.ofNat (nmN (BA ([r.q] ++ q)) 1 % 256) } = { r0 with q := r.q }
    rw [nm_byte]
  · have e : encF r bs 1 = [r.d] := rfl
    rw [e]
    refine ⟨?_, lf_app [r.d] q, bad_app [r.d] q fl, fun h => by cases h⟩
    show { r0 with d := UInt8.ofNat (nmN (BA ([r.d] ++ q)) 1 % 256) } = { r0 with d := r.d }
    rw [nm_byte]
  · have hb1 : 1 ≤ r.vis := (fits_bounds r bs 2 (by decide) h).1
    have hb2 : r.vis ≤ 1000 := (fits_bounds r bs 2 (by decide) h).2
    have e : encF r bs 2 = lowB r.vis.toNat 2 := rfl
    have hl := lowB_length r.vis.toNat 2
    have h1 := lf_app (lowB r.vis.toNat 2) q
    have h2 := bad_app (lowB r.vis.toNat 2) q fl
    rw [hl] at h1 h2
    rw [e]
    refine ⟨?_, h1, h2, fun h => by cases h⟩
    show { r0 with vis := ((nmN (BA (lowB r.vis.toNat 2 ++ q)) 2 : Nat) : Int) } = { r0 with vis := r.vis }
    rw [nm_low2 _ _ (by omega), show ((r.vis.toNat : Nat) : Int) = r.vis by omega]
  · have hb1 : 0 ≤ r.win := (fits_bounds r bs 3 (by decide) h).1
    have hb2 : r.win ≤ 1000 := (fits_bounds r bs 3 (by decide) h).2
    have e : encF r bs 3 = lowB r.win.toNat 2 := rfl
    have hl := lowB_length r.win.toNat 2
    have h1 := lf_app (lowB r.win.toNat 2) q
    have h2 := bad_app (lowB r.win.toNat 2) q fl
    rw [hl] at h1 h2
    rw [e]
    refine ⟨?_, h1, h2, fun h => by cases h⟩
    show { r0 with win := ((nmN (BA (lowB r.win.toNat 2 ++ q)) 2 : Nat) : Int) } = { r0 with win := r.win }
    rw [nm_low2 _ _ (by omega), show ((r.win.toNat : Nat) : Int) = r.win by omega]
  · have hb1 : 0 ≤ r.rcv := (fits_bounds r bs 4 (by decide) h).1
    have hb2 : r.rcv ≤ 9 := (fits_bounds r bs 4 (by decide) h).2
    have e : encF r bs 4 = lowB r.rcv.toNat 1 := rfl
    have hl := lowB_length r.rcv.toNat 1
    have h1 := lf_app (lowB r.rcv.toNat 1) q
    have h2 := bad_app (lowB r.rcv.toNat 1) q fl
    rw [hl] at h1 h2
    rw [e]
    refine ⟨?_, h1, h2, fun h => by cases h⟩
    show { r0 with rcv := ((nmN (BA (lowB r.rcv.toNat 1 ++ q)) 1 : Nat) : Int) } = { r0 with rcv := r.rcv }
    rw [nm_low1 _ _ (by omega), show ((r.rcv.toNat : Nat) : Int) = r.rcv by omega]
  · have hb1 : 1 ≤ r.quo := (fits_bounds r bs 5 (by decide) h).1
    have hb2 : r.quo ≤ 50 := (fits_bounds r bs 5 (by decide) h).2
    have e : encF r bs 5 = lowB r.quo.toNat 1 := rfl
    have hl := lowB_length r.quo.toNat 1
    have h1 := lf_app (lowB r.quo.toNat 1) q
    have h2 := bad_app (lowB r.quo.toNat 1) q fl
    rw [hl] at h1 h2
    rw [e]
    refine ⟨?_, h1, h2, fun h => by cases h⟩
    show { r0 with quo := ((nmN (BA (lowB r.quo.toNat 1 ++ q)) 1 : Nat) : Int) } = { r0 with quo := r.quo }
    rw [nm_low1 _ _ (by omega), show ((r.quo.toNat : Nat) : Int) = r.quo by omega]
  · have hb1 : 1 ≤ r.mx := (fits_bounds r bs 6 (by decide) h).1
    have hb2 : r.mx ≤ 10 := (fits_bounds r bs 6 (by decide) h).2
    have e : encF r bs 6 = lowB r.mx.toNat 1 := rfl
    have hl := lowB_length r.mx.toNat 1
    have h1 := lf_app (lowB r.mx.toNat 1) q
    have h2 := bad_app (lowB r.mx.toNat 1) q fl
    rw [hl] at h1 h2
    rw [e]
    refine ⟨?_, h1, h2, fun h => by cases h⟩
    show { r0 with mx := ((nmN (BA (lowB r.mx.toNat 1 ++ q)) 1 : Nat) : Int) } = { r0 with mx := r.mx }
    rw [nm_low1 _ _ (by omega), show ((r.mx.toNat : Nat) : Int) = r.mx by omega]
  · have hb1 : 0 ≤ r.tic := (fits_bounds r bs 7 (by decide) h).1
    have hb2 : r.tic ≤ 1000 := (fits_bounds r bs 7 (by decide) h).2
    have e : encF r bs 7 = lowB r.tic.toNat 2 := rfl
    have hl := lowB_length r.tic.toNat 2
    have h1 := lf_app (lowB r.tic.toNat 2) q
    have h2 := bad_app (lowB r.tic.toNat 2) q fl
    rw [hl] at h1 h2
    rw [e]
    refine ⟨?_, h1, h2, fun h => by cases h⟩
    show { r0 with tic := ((nmN (BA (lowB r.tic.toNat 2 ++ q)) 2 : Nat) : Int) } = { r0 with tic := r.tic }
    rw [nm_low2 _ _ (by omega), show ((r.tic.toNat : Nat) : Int) = r.tic by omega]
  · have hb1 : 1 ≤ r.tic := (fits_bounds r bs 8 (by decide) h).1
    have hb2 : r.tic ≤ 1000 := (fits_bounds r bs 8 (by decide) h).2
    have e : encF r bs 8 = lowB r.tic.toNat 2 := rfl
    have hl := lowB_length r.tic.toNat 2
    have h1 := lf_app (lowB r.tic.toNat 2) q
    have h2 := bad_app (lowB r.tic.toNat 2) q fl
    rw [hl] at h1 h2
    rw [e]
    refine ⟨?_, h1, h2, fun h => by cases h⟩
    show { r0 with tic := ((nmN (BA (lowB r.tic.toNat 2 ++ q)) 2 : Nat) : Int) } = { r0 with tic := r.tic }
    rw [nm_low2 _ _ (by omega), show ((r.tic.toNat : Nat) : Int) = r.tic by omega]
  · have hb2 : ((r.grp.size : Nat) : Int) ≤ 8 := (fits_bounds r bs 9 (by decide) h).2
    have e : encF r bs 9 = txtB r.grp := rfl
    rw [e]
    have ht := tx_app r.grp q fl (by omega)
    refine ⟨?_, ht.2.1, ht.2.2, fun h => by cases h⟩
    show { r0 with grp := txS (BA (txtB r.grp ++ q)) } = { r0 with grp := r.grp }
    rw [ht.1]
  · have hb2 : ((r.ded.size : Nat) : Int) ≤ 8 := (fits_bounds r bs 10 (by decide) h).2
    have e : encF r bs 10 = txtB r.ded := rfl
    rw [e]
    have ht := tx_app r.ded q fl (by omega)
    refine ⟨?_, ht.2.1, ht.2.2, fun h => by cases h⟩
    show { r0 with ded := txS (BA (txtB r.ded ++ q)) } = { r0 with ded := r.ded }
    rw [ht.1]
  · have hb2 : ((r.bod.size : Nat) : Int) ≤ 255 := (fits_bounds r bs 11 (by decide) h).2
    have e : encF r bs 11 = txtB r.bod := rfl
    rw [e]
    have ht := tx_app r.bod q fl (by omega)
    refine ⟨?_, ht.2.1, ht.2.2, fun h => by cases h⟩
    show { r0 with bod := txS (BA (txtB r.bod ++ q)) } = { r0 with bod := r.bod }
    rw [ht.1]
  · have hb2 : ((r.att.size : Nat) : Int) ≤ 8 := (fits_bounds r bs 12 (by decide) h).2
    have e : encF r bs 12 = txtB r.att := rfl
    rw [e]
    have ht := tx_app r.att q fl (by omega)
    refine ⟨?_, ht.2.1, ht.2.2, fun h => by cases h⟩
    show { r0 with att := txS (BA (txtB r.att ++ q)) } = { r0 with att := r.att }
    rw [ht.1]
  · have hb2 : ((r.han.size : Nat) : Int) ≤ 255 := (fits_bounds r bs 13 (by decide) h).2
    have e : encF r bs 13 = txtB r.han := rfl
    rw [e]
    have ht := tx_app r.han q fl (by omega)
    refine ⟨?_, ht.2.1, ht.2.2, fun h => by cases h⟩
    show { r0 with han := txS (BA (txtB r.han ++ q)) } = { r0 with han := r.han }
    rw [ht.1]
  · have hb2 : ((bs.length : Nat) : Int) ≤ 10 := (fits_bounds r bs 14 (by decide) h).2
    have hsh := fits_short r bs h
    have e : encF r bs 14 = lowB bs.length 1 ++ txtsB bs := rfl
    rw [e, List.append_assoc]
    have hl := lowB_length bs.length 1
    have h1 := lf_app (lowB bs.length 1) (txtsB bs ++ q)
    have h2 := bad_app (lowB bs.length 1) (txtsB bs ++ q) fl
    rw [hl] at h1 h2
    have h3 := nm_low1 bs.length (txtsB bs ++ q) (by omega)
    have h4 := rd_app bs q fl (fun s hs => by have := hsh s hs; omega)
    refine ⟨rfl, ?_, ?_, fun _ => ?_⟩
    · show rdS (nmN _ 1) (lf _ 1) = _
      rw [h3, h1]; exact h4.2.1
    · show rdF (nmN _ 1) (lf _ 1) (bad _ fl 1) = _
      rw [h3, h1, h2]; exact h4.2.2
    · rw [h3, h1]; exact h4.1
def i64 (n : Int) : Prop := -9223372036854775808 ≤ n ∧ n ≤ 9223372036854775807
structure Wf (r : Wp.Rq) : Prop where
  vis : i64 r.vis
  win : i64 r.win
  rcv : i64 r.rcv
  quo : i64 r.quo
  mx : i64 r.mx
  tic : i64 r.tic
theorem wrap_i64 (n : Int) : i64 (IntKind.i64.wrap n) := by
  unfold i64
  simp [IntKind.wrap, IntKind.bits, IntKind.signed]
  split <;> omega
theorem ofInt_zero (a : Int) (ha : i64 a) (h : BitVec.ofInt 64 a = 0#64) : a = 0 := by
  have h1 := congrArg BitVec.toInt h
  rw [BitVec.toInt_ofInt, BitVec.toInt_zero] at h1
  unfold i64 at ha
  unfold Int.bmod at h1
  dsimp only at h1
  split at h1 <;> omega
theorem or_zero_iff (a b : Int) (ha : i64 a) (hb : i64 b) : bits .or .i64 a b = 0 ↔ a = 0 ∧ b = 0 := by
  constructor
  · intro h
    have h0 : IntKind.i64.wrap ((BitVec.ofInt 64 a ||| BitVec.ofInt 64 b).toNat : Int) = 0 := h
    have hz : (BitVec.ofInt 64 a ||| BitVec.ofInt 64 b).toNat = 0 := by
      have hlt := (BitVec.ofInt 64 a ||| BitVec.ofInt 64 b).isLt
      generalize (BitVec.ofInt 64 a ||| BitVec.ofInt 64 b).toNat = n at h0 hlt
      simp [IntKind.wrap, IntKind.bits, IntKind.signed] at h0
      split at h0 <;> omega
    have hv : BitVec.ofInt 64 a ||| BitVec.ofInt 64 b = 0#64 := BitVec.eq_of_toNat_eq (by rw [hz]; rfl)
    have hab := BitVec.or_eq_zero_iff.1 hv
    exact ⟨ofInt_zero a ha hab.1, ofInt_zero b hb hab.2⟩
  · rintro ⟨rfl, rfl⟩
    decide
theorem or_i64_range (a b : Int) : i64 (bits .or .i64 a b) := wrap_i64 _
theorem or_byte (a b : Nat) (ha : a < 256) (hb : b < 256) : bits .or .u8 (a : Int) (b : Int) = 0 ↔ a = 0 ∧ b = 0 := by
  rw [u8_or_nat a b ha hb]
  constructor
  · intro h
    have h1 : a ||| b = 0 := by omega
    exact Nat.or_eq_zero_iff.1 h1
  · rintro ⟨rfl, rfl⟩; rfl
theorem or_byte_lt (a b : Nat) (ha : a < 256) (hb : b < 256) : ∃ c : Nat, bits .or .u8 (a : Int) (b : Int) = (c : Int) ∧ c < 256 ∧ (c = 0 ↔ a = 0 ∧ b = 0) :=
  ⟨a ||| b, u8_or_nat a b ha hb, by have := Nat.or_lt_two_pow (n := 8) (x := a) (y := b) (by omega) (by omega); omega, Nat.or_eq_zero_iff⟩
theorem empty_iff (s : ByteArray) : s.toList.isEmpty = true ↔ s = ⟨#[]⟩ := by
  constructor
  · intro h
    apply ByteArray.ext
    apply Array.eq_empty_of_size_eq_zero
    have : ¬ 0 < s.size := fun hs => by rw [str_ne hs] at h; cases h
    have e : s.size = s.data.size := rfl
    omega
  · rintro rfl; exact str_em (s := ⟨#[]⟩) (by show ¬ 0 < 0; omega)
theorem byte_zero (c : UInt8) : c.toNat = 0 ↔ c = 0 := ⟨fun h => UInt8.toNat_inj.1 h, fun h => by rw [h]; rfl⟩
theorem blank_iff (r : Wp.Rq) (n : Nat) (h : Wf r) : blankW r n = true ↔ r = opR 0 ∧ n = 0 := by
  obtain ⟨c, hc, hc2, hc3⟩ := or_byte_lt r.op.toNat r.q.toNat r.op.toNat_lt r.q.toNat_lt
  unfold blankW
  rw [hc]
  simp only [Bool.and_eq_true, beq_iff_eq, or_byte c r.d.toNat hc2 r.d.toNat_lt, hc3, or_zero_iff _ _ (or_i64_range _ _) h.tic, or_zero_iff _ _ (or_i64_range _ _) h.mx, or_zero_iff _ _ (or_i64_range _ _) h.quo, or_zero_iff _ _ (or_i64_range _ _) h.rcv, or_zero_iff _ _ h.vis h.win, empty_iff, byte_zero]
  constructor
  · rintro ⟨⟨⟨⟨⟨h1, h2⟩, h3⟩, ⟨⟨⟨⟨h4, h5⟩, h6⟩, h7⟩, h8⟩, h9⟩, ⟨⟨⟨h10, h11⟩, h12⟩, h13⟩, h14⟩, h15⟩
    refine ⟨?_, by omega⟩
    cases r
    simp only at *
    subst h1 h2 h3 h4 h5 h6 h7 h8 h9 h10 h11 h12 h13 h14
    rfl
  · rintro ⟨rfl, rfl⟩
    exact ⟨⟨⟨⟨⟨rfl, rfl⟩, rfl⟩, ⟨⟨⟨⟨rfl, rfl⟩, rfl⟩, rfl⟩, rfl⟩, rfl⟩, ⟨⟨⟨rfl, rfl⟩, rfl⟩, rfl⟩, rfl⟩, rfl⟩
theorem ite_wf {c : Prop} [Decidable c] {a b : Wp.Rq} (ha : Wf a) (hb : Wf b) : Wf (if c then a else b) := by
  by_cases h : c
  · rw [if_pos h]; exact ha
  · rw [if_neg h]; exact hb
theorem er_wf (r : Wp.Rq) (f : Nat) (h : Wf r) : Wf (er r f) := by
  have hz : i64 0 := by unfold i64; omega
  obtain ⟨h1, h2, h3, h4, h5, h6⟩ := h
  unfold er
  repeat' (refine ite_wf ?_ ?_)
  all_goals exact ⟨by first | exact h1 | exact hz, by first | exact h2 | exact hz, by first | exact h3 | exact hz, by first | exact h4 | exact hz, by first | exact h5 | exact hz, by first | exact h6 | exact hz⟩
theorem erAll_wf (r : Wp.Rq) (L : List Nat) (h : Wf r) : Wf (erAll r L) := by
  unfold erAll
  induction L generalizing r with
  | nil => exact h
  | cons f L ih => exact ih _ (er_wf r f h)
def opsAt : List Nat := [0, 1, 2, 4, 15, 17, 18, 19, 21, 23]
theorem isOp_at (op : UInt8) : Wp.isOp op = true ↔ ∃ i ∈ opsAt, op.toNat = 65 + i := by
  have h1 : ∀ a : Fin 26, 0 < (Wp.lay a.val).length ↔ a.val ∈ opsAt := by decide
  have h2 : ∀ i ∈ opsAt, i < 26 := by decide
  simp only [Wp.isOp, Bool.and_eq_true, decide_eq_true_eq]
  constructor
  · rintro ⟨⟨a, b⟩, c⟩
    exact ⟨op.toNat - 65, (h1 ⟨op.toNat - 65, by omega⟩).1 c, by omega⟩
  · rintro ⟨i, hi, he⟩
    have := h2 i hi
    refine ⟨⟨by omega, by omega⟩, ?_⟩
    rw [he, Nat.add_sub_cancel_left]
    exact (h1 ⟨i, this⟩).2 hi
theorem right_iff (r : Wp.Rq) (x : Sl) (b : Bool) (h : Wf r) : rightW r x b = true ↔ ∃ i ∈ opsAt, r.op.toNat = 65 + i ∧ (Wp.lay i).all (r.fits x.n b) = true ∧ erAll { r with op := 0 } (Wp.lay i) = opR 0 ∧ (ebAll x (Wp.lay i)).n = 0 := by
  have hw : Wf { r with op := 0 } := ⟨h.vis, h.win, h.rcv, h.quo, h.mx, h.tic⟩
  unfold rightW
  rw [Bool.and_eq_true, Bool.and_eq_true, isOp_at, blank_iff _ _ (erAll_wf _ _ hw)]
  constructor
  · rintro ⟨⟨i, hi, he⟩, h1, h2, h3⟩
    rw [he, Nat.add_sub_cancel_left] at h1 h2 h3
    exact ⟨i, hi, he, h1, h2, h3⟩
  · rintro ⟨i, hi, he, h1, h2, h3⟩
    rw [he, Nat.add_sub_cancel_left]
    exact ⟨⟨i, hi, rfl⟩, h1, h2, h3⟩
theorem cp_right (r : Wp.Rq) (i : Nat) (hi : i ∈ opsAt) (he : erAll { r with op := 0 } (Wp.lay i) = opR 0) : (Wp.lay i).foldl (fun a f => cp a r f) (opR r.op) = r := by
  simp only [opsAt, List.mem_cons, List.not_mem_nil, or_false] at hi
  obtain ⟨op, q, d, vis, win, rcv, quo, mx, tic, grp, ded, bod, att, han⟩ := r
  rcases hi with rfl | rfl | rfl | rfl | rfl | rfl | rfl | rfl | rfl | rfl <;>
    (simp [Wp.lay, Wp.layTab, erAll, er, opR] at he; simp [Wp.lay, Wp.layTab, cp, opR, he])
theorem eb_right (x : Sl) (i : Nat) (hi : i ∈ opsAt) (h : (ebAll x (Wp.lay i)).n = 0) : i = 1 ∨ x.n = 0 := by
  simp only [opsAt, List.mem_cons, List.not_mem_nil, or_false] at hi
  rcases hi with rfl | rfl | rfl | rfl | rfl | rfl | rfl | rfl | rfl | rfl <;>
    (simp [Wp.lay, Wp.layTab, ebAll, eb] at h ⊢; try exact h)
theorem run_enc (r : Wp.Rq) (bs : List ByteArray) (q : List UInt8) (L : List Nat) (hL : ∀ f ∈ L, f < 15) (hall : L.all (r.fits bs.length (Wp.short bs)) = true) (t : St) (ht : t.s = BA (encL r bs L ++ q)) (hf : t.fl = false) :
    L.foldl stepSt t = ⟨L.foldl (fun a f => cp a r f) t.r, BA q, false, if 14 ∈ L then bs else t.bs⟩ := by
  induction L generalizing t with
  | nil =>
    obtain ⟨tr, ts, tf, tb⟩ := t
    simp only at ht hf
    subst ht hf
    rfl
  | cons f L ih =>
    rw [List.all_cons, Bool.and_eq_true] at hall
    have e : encL r bs (f :: L) ++ q = encF r bs f ++ (encL r bs L ++ q) := by
      have e1 : encL r bs (f :: L) = encF r bs f ++ encL r bs L := by simp [encL]
      rw [e1, List.append_assoc]
    rw [e] at ht
    obtain ⟨h1, h2, h3, h4⟩ := read_enc t.r r bs f (encL r bs L ++ q) t.fl (hL f List.mem_cons_self) hall.1
    rw [← ht] at h1 h2 h3 h4
    rw [List.foldl_cons, ih (fun g hg => hL g (List.mem_cons_of_mem _ hg)) hall.2 (stepSt t f) h2 (h3.trans hf)]
    have e2 : (stepSt t f).r = cp t.r r f := h1
    have e3 : (stepSt t f).bs = if f = 14 then bs else t.bs := by
      show (if f = 14 then rdT (nmN t.s 1) (lf t.s 1) else t.bs) = _
      by_cases h14 : f = 14
      · rw [if_pos h14, if_pos h14]; exact h4 h14
      · rw [if_neg h14, if_neg h14]
    rw [e2, e3, List.foldl_cons]
    congr 1
    by_cases h14 : f = 14
    · subst h14
      simp
    · have : (14 ∈ f :: L) = (14 ∈ L) := by simp [Ne.symm h14]
      rw [if_neg h14]
      by_cases hm : 14 ∈ L
      · rw [if_pos hm, if_pos (by rw [this]; exact hm)]
      · rw [if_neg hm, if_neg (by rw [this]; exact hm)]
theorem lay_fields (i : Nat) (hi : i ∈ opsAt) : ∀ f ∈ Wp.lay i, f < 15 := by
  have h2 : ∀ i ∈ opsAt, ∀ f ∈ Wp.lay i, f < 15 := by decide
  exact h2 i hi
theorem end_enc (r : Wp.Rq) (x : Sl) (bs : List ByteArray) (q : List UInt8) (hw : Wf r) (hxn : x.n = bs.length) (h : rightW r x (Wp.short bs) = true) :
    endSt (BA (r.op :: encL r bs (Wp.lay (r.op.toNat - 65)) ++ q)) = ⟨r, BA q, false, bs⟩ ∧ opOf (BA (r.op :: encL r bs (Wp.lay (r.op.toNat - 65)) ++ q)) = r.op := by
  obtain ⟨i, hi, hop, hall, her, heb⟩ := (right_iff r x _ hw).1 h
  rw [hop, Nat.add_sub_cancel_left]
  have ho : opOf (BA (r.op :: encL r bs (Wp.lay i) ++ q)) = r.op := nm_byte r.op (encL r bs (Wp.lay i) ++ q)
  have h1 : lf (BA (r.op :: encL r bs (Wp.lay i) ++ q)) 1 = BA (encL r bs (Wp.lay i) ++ q) := lf_app [r.op] (encL r bs (Wp.lay i) ++ q)
  have h2 : bad (BA (r.op :: encL r bs (Wp.lay i) ++ q)) false 1 = false := bad_app [r.op] (encL r bs (Wp.lay i) ++ q) false
  refine ⟨?_, ho⟩
  unfold endSt runSt
  rw [ho, hop, Nat.add_sub_cancel_left, h1, h2]
  rw [hxn] at hall
  rw [run_enc r bs q (Wp.lay i) (lay_fields i hi) hall _ rfl rfl, cp_right r i hi her]
  congr 1
  by_cases h14 : 14 ∈ Wp.lay i
  · rw [if_pos h14]
  · rw [if_neg h14]
    rcases eb_right x i hi heb with rfl | hn
    · exact absurd (by decide) h14
    · rw [hxn] at hn
      exact (List.length_eq_zero_iff.1 hn).symm
theorem good_enc (r : Wp.Rq) (x : Sl) (bs : List ByteArray) (q : List UInt8) (hw : Wf r) (hxn : x.n = bs.length) (h : rightW r x (Wp.short bs) = true) :
    parseGood (BA (r.op :: encL r bs (Wp.lay (r.op.toNat - 65)) ++ q)) = q.isEmpty := by
  obtain ⟨h1, h2⟩ := end_enc r x bs q hw hxn h
  have hop : Wp.isOp r.op = true := by
    unfold rightW at h
    rw [Bool.and_eq_true] at h
    exact h.1
  unfold parseGood
  rw [h1, h2, hop, ← rightW_n r x ⟨none, bs.length, 0⟩ (Wp.short bs) hxn, h]
  show (true && (!false && ((BA q).toList.isEmpty && true))) = _
  rw [ByteArray.toList_eq, BA_list]
  simp
end Go.Proofs.YtbdobaapadlcjaaGreatDoor
namespace Go.Proofs.YtbdobaapadlcjaaGreatDoor.Keep
open Go.RowKit
set_option linter.unusedVariables false
set_option linter.unusedSimpArgs false
def sh (s : ByteArray) (n : Nat) : ByteArray := if n < s.size then s.extract 0 n else s
theorem sh_size (s : ByteArray) (n : Nat) : (sh s n).size ≤ n := by
  unfold sh
  split
  · simp; omega
  · omega
theorem sh_pos (s : ByteArray) (n : Nat) (h : 0 < s.size) (hn : 0 < n) : 0 < (sh s n).size := by
  unfold sh
  split
  · simp; omega
  · exact h
set_option maxHeartbeats 400000 in
theorem short_any (s : ByteArray) (n : Nat) (w : World) (hs : s.size ≤ maxLen) (hn : n ≤ 1000) :
    Calls Tryz.prog 15 #[.string s, .int .i64 (n : Int)] w fun e w' => e = .returned (.string (sh s n)) ∧ w' = w := by
  unfold maxLen at hs
  by_cases h : n < s.size
  · have hv : Hid (sh s n = s.extract 0 n) := by show _ = _; rw [sh, if_pos h]
    go_enter Tryz.func15, Tryz.ntmps15
    go_wp2
    go_ret
    exact ⟨ret_str hv.out.symm, rfl⟩
  · have hv : Hid (sh s n = s) := by show _ = _; rw [sh, if_neg h]
    go_enter Tryz.func15, Tryz.ntmps15
    go_wp2
    go_ret
    exact ⟨ret_str hv.out.symm, rfl⟩
theorem letter_any (c : UInt8) (w : World) : Calls Tryz.prog 53 #[.int .u8 (c.toNat : Int)] w fun e w' => (∃ d : UInt8, e = .returned (.int .u8 (d.toNat : Int)) ∧ 97 ≤ d.toNat ∧ d.toNat ≤ 104) ∧ w' = w := by
  have hc := c.toNat_lt
  generalize c.toNat = n at hc
  go_enter Tryz.func53, Tryz.ntmps53
  go_wp2
  go_ret
  refine ⟨⟨UInt8.ofNat (97 + n % 8), ?_, ?_, ?_⟩, rfl⟩
  · have h : (UInt8.ofNat (97 + n % 8)).toNat = 97 + n % 8 := UInt8.toNat_ofNat_of_lt' (by show _ < 256; omega)
    rw [h]
    exact ret_int (by omega)
  · have h : (UInt8.ofNat (97 + n % 8)).toNat = 97 + n % 8 := UInt8.toNat_ofNat_of_lt' (by show _ < 256; omega)
    omega
  · have h : (UInt8.ofNat (97 + n % 8)).toNat = 97 + n % 8 := UInt8.toNat_ofNat_of_lt' (by show _ < 256; omega)
    omega
theorem dedOk_head (s : ByteArray) (c : UInt8) (l : List UInt8) (h : s.data.toList = c :: l) (hc : c ≠ 0) : Wp.dedOk s = true := by
  unfold Wp.dedOk
  by_cases hs : 0 < s.size
  · rw [dif_pos hs]
    have e : s[0] = s.data.toList[0]'(by rw [h]; simp) := rfl
    have e2 : s.data.toList[0]'(by rw [h]; simp) = c := by simp [h]
    rw [e, e2]
    simpa using hc
  · rw [dif_neg hs]
structure Szs (r : Wp.Rq) : Prop where
  grp : r.grp.size ≤ maxLen
  ded : r.ded.size ≤ maxLen
  bod : r.bod.size ≤ maxLen
  att : r.att.size ≤ maxLen
  han : r.han.size ≤ maxLen
def Shaped (w : World) (e : Ending) (w' : World) : Prop :=
  ∃ (r : Wp.Rq) (x : Sl) (bs : List ByteArray), e = .returned (.agg (cellsOf r x.v)) ∧ rightW r x (Wp.short bs) = true ∧ Wf r ∧ x.n = bs.length ∧ bs.length ≤ 10 ∧ FStrs w.heap.size w' x.a bs
theorem fits_of (r : Wp.Rq) (n : Nat) (b : Bool) (f : Nat) (h1 : f ≠ 1) (h10 : f ≠ 10) (h14 : f ≠ 14) (ha : Wp.least f ≤ r.measure n f) (hb : r.measure n f ≤ Wp.most f) : r.fits n b f = true := by
  unfold Wp.Rq.fits
  rw [if_neg (fun e => h1 e.1), if_neg (by omega), if_neg (by omega), if_neg h1, if_neg h10, if_neg h14]
theorem fits_dead (r : Wp.Rq) (n : Nat) (b : Bool) (h : r.d = 45 ∨ 97 ≤ r.d.toNat ∧ r.d.toNat ≤ 104 ∧ r.d ≠ r.q) : r.fits n b 1 = true := by
  unfold Wp.Rq.fits
  by_cases h0 : r.d = 45
  · rw [if_pos ⟨rfl, h0⟩]
  · rw [if_neg (fun e => h0 e.2)]
    obtain ⟨h1, h2, h3⟩ := h.resolve_left h0
    have e1 : r.measure n 1 = (r.d.toNat : Int) := rfl
    have e2 : Wp.least 1 = 97 := rfl
    have e3 : Wp.most 1 = 104 := rfl
    rw [e1, e2, e3, if_neg (by omega), if_neg (by omega), if_pos rfl]
    simpa using h3
theorem fits_dedup (r : Wp.Rq) (n : Nat) (b : Bool) (h : r.ded.size ≤ 8) (hd : Wp.dedOk r.ded = true) : r.fits n b 10 = true := by
  unfold Wp.Rq.fits
  have e1 : r.measure n 10 = (r.ded.size : Int) := rfl
  have e2 : Wp.least 10 = 0 := rfl
  have e3 : Wp.most 10 = 8 := rfl
  rw [if_neg (fun e => by cases e.1), e1, e2, e3, if_neg (by omega), if_neg (by omega), if_neg (by decide), if_pos rfl]
  exact hd
theorem wf_small (r : Wp.Rq) (h1 : 0 ≤ r.vis ∧ r.vis ≤ 1001) (h2 : 0 ≤ r.win ∧ r.win ≤ 1001) (h3 : 0 ≤ r.rcv ∧ r.rcv ≤ 1001) (h4 : 0 ≤ r.quo ∧ r.quo ≤ 1001) (h5 : 0 ≤ r.mx ∧ r.mx ≤ 1001) (h6 : 0 ≤ r.tic ∧ r.tic ≤ 1001) : Wf r := by
  constructor <;> unfold i64 <;> omega
theorem zz : (0 : Int) ≤ 0 ∧ (0 : Int) ≤ 1001 := by decide
theorem heap3 (w : World) (A B C : Obj) : (((w.alloc A).alloc B).alloc C).heap[w.heap.size + 1]? = some B := by
  rw [Below.heap_alloc _ _ _ (by simp), heap_alloc2_new]
theorem below3 (w : World) (A B C : Obj) : Below w.heap.size w (((w.alloc A).alloc B).alloc C) :=
  (((Below.refl _ _).alloc (Nat.le_refl _) _).alloc (by simp) _).alloc (by simp; omega) _
end Go.Proofs.YtbdobaapadlcjaaGreatDoor.Keep
