/-
  Receive (163): what was told is told again. READING WHAT WAS WRITTEN, AND WRITING WHAT WAS READ: plain mathematics over the functions that the walks of package wire came to.
-/
import Derived.Test.YtbdobaapadlcjaaGreatDoorMx19
import Derived.Lib.ConvBytes
import Derived.Test.YtbdobaapadlcjaaGreatDoorMx08
namespace Go.Proofs.YtbdobaapadlcjaaGreatDoor
open Go.RowKit
set_option linter.unusedVariables false
set_option linter.unusedSimpArgs false

/-- Bytes that can be read at v. -/
def Rdb (w : World) (v : Value) (l : List UInt8) : Prop := ∃ g cap, v = .slice (some ⟨g, 0, none⟩) l.length cap ∧ ∀ j u, (bytesV l)[j]? = some u → w.cell? ((⟨g, 0, none⟩ : Addr).add j) = some u
theorem Rdb.of_own {w : World} {base : Nat} {v : Value} {l : List UInt8} (h : OwnB w base v l) (hl : 0 < l.length) : Rdb w v l := by
  have hc := fun g (hg : v.ownBlock = some g) => World.ownsRow.cells h hg
  rcases h.2 with ⟨_, h0⟩ | ⟨g, cap, cur, rfl, _⟩
  · omega
  · exact ⟨g, cap, rfl, hc g rfl⟩
end Go.Proofs.YtbdobaapadlcjaaGreatDoor

namespace Go.Proofs.YtbdobaapadlcjaaGreatDoor
set_option linter.unusedVariables false

/-- A list of bytes as a string. -/
def BA (l : List UInt8) : ByteArray := ⟨l.toArray⟩
theorem BA_list (l : List UInt8) : (BA l).data.toList = l := rfl
theorem BA_size (l : List UInt8) : (BA l).size = l.length := by simp [BA, ByteArray.size]
theorem ext_list {s t : ByteArray} (h : s.data.toList = t.data.toList) : s = t := ByteArray.ext (Array.toList_inj.1 h)

theorem tk_list (s : ByteArray) (n : Nat) (h : n ≤ s.size) : (tk s n).data.toList = s.data.toList.take n := by
  rw [tk, if_pos h, Lib.extract_data]; simp
theorem lf_list (s : ByteArray) (n : Nat) (h : n ≤ s.size) : (lf s n).data.toList = s.data.toList.drop n := by
  rw [lf, if_pos h, Lib.extract_data]
  have : s.size = s.data.toList.length := rfl
  rw [this, List.take_of_length_le (by simp)]
theorem tk_app (p q : List UInt8) : tk (BA (p ++ q)) p.length = BA p := by
  apply ext_list
  rw [tk_list _ _ (by rw [BA_size]; simp), BA_list, BA_list, List.take_left]
theorem lf_app (p q : List UInt8) : lf (BA (p ++ q)) p.length = BA q := by
  apply ext_list
  rw [lf_list _ _ (by rw [BA_size]; simp), BA_list, BA_list, List.drop_left]
theorem bad_app (p q : List UInt8) (f : Bool) : bad (BA (p ++ q)) f p.length = f := by
  rw [bad, if_pos (by rw [BA_size]; simp)]

theorem leN_low1 (n : Nat) : leN (lowB n 1) = n % 256 := by
  have h : (UInt8.ofNat (n % 256)).toNat = n % 256 := UInt8.toNat_ofNat_of_lt' (by have := Nat.mod_lt n (show 0 < 256 by decide); simpa using this)
  have e : lowB n 1 = [UInt8.ofNat (n % 256)] := by simp [lowB]
  rw [e]
  show (UInt8.ofNat (n % 256)).toNat + 256 * 0 = _
  omega
theorem leN_low2 (n : Nat) : leN (lowB n 2) = n % 65536 := by
  have h : ∀ m : Nat, (UInt8.ofNat (m % 256)).toNat = m % 256 := fun m => UInt8.toNat_ofNat_of_lt' (by have := Nat.mod_lt m (show 0 < 256 by decide); simpa using this)
  have e : lowB n 2 = [UInt8.ofNat (n % 256), UInt8.ofNat (n / 256 % 256)] := by simp [lowB, List.range_succ]
  rw [e]
  show (UInt8.ofNat (n % 256)).toNat + 256 * ((UInt8.ofNat (n / 256 % 256)).toNat + 256 * 0) = _
  rw [h, h]
  omega
theorem nm_low1 (n : Nat) (q : List UInt8) (h : n < 256) : nmN (BA (lowB n 1 ++ q)) 1 = n := by
  have e := tk_app (lowB n 1) q
  rw [lowB_length] at e
  rw [nmN, e, BA_list, leN_low1]; omega
theorem nm_low2 (n : Nat) (q : List UInt8) (h : n < 65536) : nmN (BA (lowB n 2 ++ q)) 2 = n := by
  have e := tk_app (lowB n 2) q
  rw [lowB_length] at e
  rw [nmN, e, BA_list, leN_low2]; omega
theorem nm_byte (c : UInt8) (q : List UInt8) : UInt8.ofNat (nmN (BA ([c] ++ q)) 1 % 256) = c := by
  have e := tk_app [c] q
  rw [show [c].length = 1 from rfl] at e
  have h : nmN (BA ([c] ++ q)) 1 = c.toNat := by
    rw [nmN, e, BA_list]; simp [leN]
  have hc := c.toNat_lt
  rw [h, Nat.mod_eq_of_lt hc]
  simp
theorem tx_app (t : ByteArray) (q : List UInt8) (fl : Bool) (h : t.size < 256) : txS (BA (txtB t ++ q)) = t ∧ txL (BA (txtB t ++ q)) = BA q ∧ txF (BA (txtB t ++ q)) fl = fl := by
  have hl := lowB_length t.size 1
  have e : txtB t ++ q = lowB t.size 1 ++ (t.data.toList ++ q) := by rw [txtB, List.append_assoc]
  have h1 := lf_app (lowB t.size 1) (t.data.toList ++ q)
  have h2 := bad_app (lowB t.size 1) (t.data.toList ++ q) fl
  rw [hl] at h1 h2
  have h3 := nm_low1 t.size (t.data.toList ++ q) h
  have h4 := tk_app t.data.toList q
  have h5 := lf_app t.data.toList q
  have h6 := bad_app t.data.toList q fl
  have hs : t.data.toList.length = t.size := rfl
  rw [hs] at h4 h5 h6
  rw [e]
  refine ⟨?_, ?_, ?_⟩
  · rw [txS, h3, h1, h4]; rfl
  · rw [txL, h3, h1, h5]
  · rw [txF, h3, h1, h2, h6]
theorem rdS_cons (k : Nat) (s : ByteArray) : rdS (k + 1) s = rdS k (txL s) := by
  induction k with
  | zero => rfl
  | succ k ih => rw [rdS, ih]; rfl
theorem rdF_cons (k : Nat) (s : ByteArray) (f : Bool) : rdF (k + 1) s f = rdF k (txL s) (txF s f) := by
  induction k with
  | zero => rfl
  | succ k ih => rw [rdF, ih, rdS_cons]; rfl
theorem rdT_cons (k : Nat) (s : ByteArray) : rdT (k + 1) s = txS s :: rdT k (txL s) := by
  induction k with
  | zero => rfl
  | succ k ih => rw [rdT, ih, rdS_cons]; rfl
theorem rd_app (bs : List ByteArray) (q : List UInt8) (fl : Bool) (h : ∀ s ∈ bs, s.size < 256) : rdT bs.length (BA (txtsB bs ++ q)) = bs ∧ rdS bs.length (BA (txtsB bs ++ q)) = BA q ∧ rdF bs.length (BA (txtsB bs ++ q)) fl = fl := by
  induction bs with
  | nil => exact ⟨rfl, rfl, rfl⟩
  | cons b bs ih =>
    have e : txtsB (b :: bs) ++ q = txtB b ++ (txtsB bs ++ q) := by simp [txtsB]
    have h1 := tx_app b (txtsB bs ++ q) fl (h b List.mem_cons_self)
    have h2 := ih (fun s hs => h s (List.mem_cons_of_mem _ hs))
    rw [e, List.length_cons, rdT_cons, rdS_cons, rdF_cons, h1.1, h1.2.1, h1.2.2, h2.1]
    exact ⟨rfl, h2.2.1, h2.2.2⟩
/-- A request with one field taken from another. -/
def cp (r0 r : Wp.Rq) (f : Nat) : Wp.Rq :=
  if f = 0 then { r0 with q := r.q }
  else if f = 1 then { r0 with d := r.d }
  else if f = 2 then { r0 with vis := r.vis }
  else if f = 3 then { r0 with win := r.win }
  else if f = 4 then { r0 with rcv := r.rcv }
  else if f = 5 then { r0 with quo := r.quo }
  else if f = 6 then { r0 with mx := r.mx }
  else if f = 7 then { r0 with tic := r.tic }
  else if f = 8 then { r0 with tic := r.tic }
  else if f = 9 then { r0 with grp := r.grp }
  else if f = 10 then { r0 with ded := r.ded }
  else if f = 11 then { r0 with bod := r.bod }
  else if f = 12 then { r0 with att := r.att }
  else if f = 13 then { r0 with han := r.han }
  else r0
set_option maxHeartbeats 4000000 in
/-- READING WHAT WAS WRITTEN, a field. -/
theorem read_enc (r0 r : Wp.Rq) (bs : List ByteArray) (f : Nat) (q : List UInt8) (fl : Bool) (hf : f < 15) (h : r.fits bs.length (Wp.short bs) f = true) :
    setR r0 (BA (encF r bs f ++ q)) f = cp r0 r f ∧ stS (BA (encF r bs f ++ q)) f = BA q ∧ stF (BA (encF r bs f ++ q)) fl f = fl ∧ (f = 14 → rdT (nmN (BA (encF r bs f ++ q)) 1) (lf (BA (encF r bs f ++ q)) 1) = bs) := by
  have hx : f = 0 ∨ f = 1 ∨ f = 2 ∨ f = 3 ∨ f = 4 ∨ f = 5 ∨ f = 6 ∨ f = 7 ∨ f = 8 ∨ f = 9 ∨ f = 10 ∨ f = 11 ∨ f = 12 ∨ f = 13 ∨ f = 14 := by omega
  rcases hx with rfl | rfl | rfl | rfl | rfl | rfl | rfl | rfl | rfl | rfl | rfl | rfl | rfl | rfl | rfl
  · have e : encF r bs 0 = [r.q] := rfl
    rw [e]
    refine ⟨?_, lf_app [r.q] q, bad_app [r.q] q fl, fun h => by cases h⟩
    show { r0 with q := UInt8.ofNat (nmN (BA ([r.q] ++ q)) 1 % 256) } = { r0 with q := r.q }
    rw [nm_byte]
  · have e : encF r bs 1 = [r.d] := rfl
    rw [e]
    refine ⟨?_, lf_app [r.d] q, bad_app [r.d] q fl, fun h => by cases h⟩
    show { r0 with d := UInt8.ofNat (nmN (BA ([r.d] ++ q)) 1 % 256) } = { r0 with d := r.d }
    rw [nm_byte]
  · have hb1 : 1 ≤ r.vis := (fits_bounds r bs 2 (by decide) h).1
    have hb2 : r.vis ≤ 1000 := (fits_bounds r bs 2 (by decide) h).2
    have e : encF r bs 2 = lowB r.vis.toNat 2 := rfl
    have hl := lowB_length r.vis.toNat 2
    have h1 := lf_app (lowB r.vis.toNat 2) q
    have h2 := bad_app (lowB r.vis.toNat 2) q fl
    rw [hl] at h1 h2
    rw [e]
    refine ⟨?_, h1, h2, fun h => by cases h⟩
    show { r0 with vis := ((nmN (BA (lowB r.vis.toNat 2 ++ q)) 2 : Nat) : Int) } = { r0 with vis := r.vis }
    rw [nm_low2 _ _ (by omega), show ((r.vis.toNat : Nat) : Int) = r.vis by omega]
  · have hb1 : 0 ≤ r.win := (fits_bounds r bs 3 (by decide) h).1
    have hb2 : r.win ≤ 1000 := (fits_bounds r bs 3 (by decide) h).2
    have e : encF r bs 3 = lowB r.win.toNat 2 := rfl
    have hl := lowB_length r.win.toNat 2
    have h1 := lf_app (lowB r.win.toNat 2) q
    have h2 := bad_app (lowB r.win.toNat 2) q fl
    rw [hl] at h1 h2
    rw [e]
    refine ⟨?_, h1, h2, fun h => by cases h⟩
    show { r0 with win := ((nmN (BA (lowB r.win.toNat 2 ++ q)) 2 : Nat) : Int) } = { r0 with win := r.win }
    rw [nm_low2 _ _ (by omega), show ((r.win.toNat : Nat) : Int) = r.win by omega]
  · have hb1 : 0 ≤ r.rcv := (fits_bounds r bs 4 (by decide) h).1
    have hb2 : r.rcv ≤ 9 := (fits_bounds r bs 4 (by decide) h).2
    have e : encF r bs 4 = lowB r.rcv.toNat 1 := rfl
    have hl := lowB_length r.rcv.toNat 1
    have h1 := lf_app (lowB r.rcv.toNat 1) q
    have h2 := bad_app (lowB r.rcv.toNat 1) q fl
    rw [hl] at h1 h2
    rw [e]
    refine ⟨?_, h1, h2, fun h => by cases h⟩
    show { r0 with rcv := ((nmN (BA (lowB r.rcv.toNat 1 ++ q)) 1 : Nat) : Int) } = { r0 with rcv := r.rcv }
    rw [nm_low1 _ _ (by omega), show ((r.rcv.toNat : Nat) : Int) = r.rcv by omega]
  · have hb1 : 1 ≤ r.quo := (fits_bounds r bs 5 (by decide) h).1
    have hb2 : r.quo ≤ 50 := (fits_bounds r bs 5 (by decide) h).2
    have e : encF r bs 5 = lowB r.quo.toNat 1 := rfl
    have hl := lowB_length r.quo.toNat 1
    have h1 := lf_app (lowB r.quo.toNat 1) q
    have h2 := bad_app (lowB r.quo.toNat 1) q fl
    rw [hl] at h1 h2
    rw [e]
    refine ⟨?_, h1, h2, fun h => by cases h⟩
    show { r0 with quo := ((nmN (BA (lowB r.quo.toNat 1 ++ q)) 1 : Nat) : Int) } = { r0 with quo := r.quo }
    rw [nm_low1 _ _ (by omega), show ((r.quo.toNat : Nat) : Int) = r.quo by omega]
  · have hb1 : 1 ≤ r.mx := (fits_bounds r bs 6 (by decide) h).1
    have hb2 : r.mx ≤ 10 := (fits_bounds r bs 6 (by decide) h).2
    have e : encF r bs 6 = lowB r.mx.toNat 1 := rfl
    have hl := lowB_length r.mx.toNat 1
    have h1 := lf_app (lowB r.mx.toNat 1) q
    have h2 := bad_app (lowB r.mx.toNat 1) q fl
    rw [hl] at h1 h2
    rw [e]
    refine ⟨?_, h1, h2, fun h => by cases h⟩
    show { r0 with mx := ((nmN (BA (lowB r.mx.toNat 1 ++ q)) 1 : Nat) : Int) } = { r0 with mx := r.mx }
    rw [nm_low1 _ _ (by omega), show ((r.mx.toNat : Nat) : Int) = r.mx by omega]
  · have hb1 : 0 ≤ r.tic := (fits_bounds r bs 7 (by decide) h).1
    have hb2 : r.tic ≤ 1000 := (fits_bounds r bs 7 (by decide) h).2
    have e : encF r bs 7 = lowB r.tic.toNat 2 := rfl
    have hl := lowB_length r.tic.toNat 2
    have h1 := lf_app (lowB r.tic.toNat 2) q
    have h2 := bad_app (lowB r.tic.toNat 2) q fl
    rw [hl] at h1 h2
    rw [e]
    refine ⟨?_, h1, h2, fun h => by cases h⟩
    show { r0 with tic := ((nmN (BA (lowB r.tic.toNat 2 ++ q)) 2 : Nat) : Int) } = { r0 with tic := r.tic }
    rw [nm_low2 _ _ (by omega), show ((r.tic.toNat : Nat) : Int) = r.tic by omega]
  · have hb1 : 1 ≤ r.tic := (fits_bounds r bs 8 (by decide) h).1
    have hb2 : r.tic ≤ 1000 := (fits_bounds r bs 8 (by decide) h).2
    have e : encF r bs 8 = lowB r.tic.toNat 2 := rfl
    have hl := lowB_length r.tic.toNat 2
    have h1 := lf_app (lowB r.tic.toNat 2) q
    have h2 := bad_app (lowB r.tic.toNat 2) q fl
    rw [hl] at h1 h2
    rw [e]
    refine ⟨?_, h1, h2, fun h => by cases h⟩
    show { r0 with tic := ((nmN (BA (lowB r.tic.toNat 2 ++ q)) 2 : Nat) : Int) } = { r0 with tic := r.tic }
    rw [nm_low2 _ _ (by omega), show ((r.tic.toNat : Nat) : Int) = r.tic by omega]
  · have hb2 : ((r.grp.size : Nat) : Int) ≤ 8 := (fits_bounds r bs 9 (by decide) h).2
    have e : encF r bs 9 = txtB r.grp := rfl
    rw [e]
    have ht := tx_app r.grp q fl (by omega)
    refine ⟨?_, ht.2.1, ht.2.2, fun h => by cases h⟩
    show { r0 with grp := txS (BA (txtB r.grp ++ q)) } = { r0 with grp := r.grp }
    rw [ht.1]
  · have hb2 : ((r.ded.size : Nat) : Int) ≤ 8 := (fits_bounds r bs 10 (by decide) h).2
    have e : encF r bs 10 = txtB r.ded := rfl
    rw [e]
    have ht := tx_app r.ded q fl (by omega)
    refine ⟨?_, ht.2.1, ht.2.2, fun h => by cases h⟩
    show { r0 with ded := txS (BA (txtB r.ded ++ q)) } = { r0 with ded := r.ded }
    rw [ht.1]
  · have hb2 : ((r.bod.size : Nat) : Int) ≤ 255 := (fits_bounds r bs 11 (by decide) h).2
    have e : encF r bs 11 = txtB r.bod := rfl
    rw [e]
    have ht := tx_app r.bod q fl (by omega)
    refine ⟨?_, ht.2.1, ht.2.2, fun h => by cases h⟩
    show { r0 with bod := txS (BA (txtB r.bod ++ q)) } = { r0 with bod := r.bod }
    rw [ht.1]
  · have hb2 : ((r.att.size : Nat) : Int) ≤ 8 := (fits_bounds r bs 12 (by decide) h).2
    have e : encF r bs 12 = txtB r.att := rfl
    rw [e]
    have ht := tx_app r.att q fl (by omega)
    refine ⟨?_, ht.2.1, ht.2.2, fun h => by cases h⟩
    show { r0 with att := txS (BA (txtB r.att ++ q)) } = { r0 with att := r.att }
    rw [ht.1]
  · have hb2 : ((r.han.size : Nat) : Int) ≤ 255 := (fits_bounds r bs 13 (by decide) h).2
    have e : encF r bs 13 = txtB r.han := rfl
    rw [e]
    have ht := tx_app r.han q fl (by omega)
    refine ⟨?_, ht.2.1, ht.2.2, fun h => by cases h⟩
    show { r0 with han := txS (BA (txtB r.han ++ q)) } = { r0 with han := r.han }
    rw [ht.1]
  · have hb2 : ((bs.length : Nat) : Int) ≤ 10 := (fits_bounds r bs 14 (by decide) h).2
    have hsh := fits_short r bs h
    have e : encF r bs 14 = lowB bs.length 1 ++ txtsB bs := rfl
    rw [e, List.append_assoc]
    have hl := lowB_length bs.length 1
    have h1 := lf_app (lowB bs.length 1) (txtsB bs ++ q)
    have h2 := bad_app (lowB bs.length 1) (txtsB bs ++ q) fl
    rw [hl] at h1 h2
    have h3 := nm_low1 bs.length (txtsB bs ++ q) (by omega)
    have h4 := rd_app bs q fl (fun s hs => by have := hsh s hs; omega)
    refine ⟨rfl, ?_, ?_, fun _ => ?_⟩
    · show rdS (nmN _ 1) (lf _ 1) = _
      rw [h3, h1]; exact h4.2.1
    · show rdF (nmN _ 1) (lf _ 1) (bad _ fl 1) = _
      rw [h3, h1, h2]; exact h4.2.2
    · rw [h3, h1]; exact h4.1


end Go.Proofs.YtbdobaapadlcjaaGreatDoor
