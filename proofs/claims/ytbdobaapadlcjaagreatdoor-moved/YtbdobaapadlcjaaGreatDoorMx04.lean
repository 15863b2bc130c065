/-
  THE WALKS of appendNumber (83), appendText (85), appendTexts (87).
-/
import Derived.Test.YtbdobaapadlcjaaGreatDoorMx03
import Derived.Lib.AppendStr
import Derived.OwnWalk
namespace Go.Proofs.YtbdobaapadlcjaaGreatDoor
open Go.RowKit
set_option linter.unusedVariables false

/-- Bytes as cells. -/
def bytesV (l : List UInt8) : List Value := l.map fun b => .int .u8 (b.toNat : Int)
/-- A slice of bytes of the call's own. -/
def OwnB (w : World) (base : Nat) (v : Value) (l : List UInt8) : Prop := w.ownsRow base 5 1 v l.length (bytesV l)
/-- A number's k low bytes, the low one first. -/
def lowB (n k : Nat) : List UInt8 := (List.range k).map fun j => UInt8.ofNat (n / 256 ^ j % 256)
theorem lowB_succ (n k : Nat) : lowB n (k + 1) = lowB n k ++ [UInt8.ofNat (n / 256 ^ k % 256)] := by
  simp [lowB, List.range_succ]
theorem lowB_length (n k : Nat) : (lowB n k).length = k := by simp [lowB]
theorem info5 : (Tryz.prog.info? 5).map (fun i => (i.zero, i.size, i.bytes)) = some (some (.int .u8 0), 1, 1) := by kernel_rfl
theorem byte_cell (m : Nat) : (Value.int .u8 ((m : Int) % 256)) = .int .u8 ((UInt8.ofNat (m % 256)).toNat : Int) := by
  have h : (UInt8.ofNat (m % 256)).toNat = m % 256 := UInt8.toNat_ofNat_of_lt' (by have := Nat.mod_lt m (show 0 < 256 by decide); simpa using this)
  rw [h]
  exact congrArg (Value.int .u8) (by omega)
/-- One byte more. -/
theorem OwnB.snoc {w : World} {base : Nat} {v : Value} {l : List UInt8} {c : UInt8} {x : Value} (hx : x = .int .u8 (c.toNat : Int)) (h : w.ownsRow base 5 1 v (l.length + 1) (bytesV l ++ [x])) : OwnB w base v (l ++ [c]) := by
  unfold OwnB bytesV at *
  rw [List.length_append, List.map_append, List.map_cons, List.map_nil, ← hx]
  exact h

set_option maxHeartbeats 1000000 in
theorem appendNumber_any (base : Nat) (v : Value) (l : List UInt8) (n size : Nat) (w : World) (hn : n < 4294967296) (hs : size ≤ 8) (hl : l.length ≤ 1099511627776) (hb : base ≤ w.heap.size) (hown : OwnB w base v l) :
    Calls Tryz.prog 91 #[v, .int .i64 (n : Int), .int .i64 (size : Int)] w fun e w' => ∃ v', e = .returned v' ∧ OwnB w' base v' (l ++ lowB n size) ∧ Below base w w' := by
  obtain ⟨i0, hi, hz0, hz1, hz2⟩ := info_parts info5
  go_enter Tryz.func91, Tryz.ntmps91
  go_wp2
  go_loopw [0, 1, 8] (fun o m i wr => ∃ k : Nat, k ≤ size ∧ i = .int .i64 k ∧ m = .int .i64 ((n / 256 ^ k : Nat) : Int) ∧ OwnB wr base o (l ++ lowB n k) ∧ Below base w wr) (fun _ _ i _ => size - (intOf i).toNat)
  case atStart => exact ⟨0, Nat.zero_le _, rfl, by simp, by simpa [lowB] using hown, Below.refl _ _⟩
  case round =>
    obtain ⟨k, hk, rfl, rfl, ho, hbr⟩ := hrel
    by_cases hlt : k < size
    · have hle : (l ++ lowB n k).length ≤ 1099511627800 := by rw [List.length_append, lowB_length]; omega
      have hm : n / 256 ^ k < 4294967296 := Nat.lt_of_le_of_lt (Nat.div_le_self _ _) hn
      have hdiv : Hid (n / 256 ^ (k + 1) = n / 256 ^ k / 256) := by
        show _ = _
        rw [Nat.pow_succ, Nat.div_div_eq_div_mul]
      have hsn := byte_cell (n / 256 ^ k)
      have HSN : Hid (Value.int .u8 (((n / 256 ^ k : Nat) : Int) % 256) = .int .u8 ((UInt8.ofNat (n / 256 ^ k % 256)).toNat : Int)) := hsn
      have hls : Hid (l ++ lowB n (k + 1) = (l ++ lowB n k) ++ [UInt8.ofNat (n / 256 ^ k % 256)]) := by
        show _ = _
        rw [lowB_succ, List.append_assoc]
      have HBR : Hid (Below base w wr) := hbr
      have hsz := hbr.size
      clear hsn hbr hown
      generalize n / 256 ^ k = m at hm hdiv HSN hls
      generalize l ++ lowB n k = L at ho hle hls
      have HO : Hid (OwnB wr base u0 L) := ho
      clear ho
      go_wp2_with (at_builtin; refine wpList_append_own _ rfl _ _ 74 rfl base 5 i0 (.int .u8 0) 1 1 Tryz.underlying74 hi hz0 hz1 hz2 rfl (by decide) _ _ _ rfl (World.ownsRow.alloc HO.out _) ⟨wr.heap.size, 0, none⟩ 1 1 [.int .u8 ((m : Int) % 256)] rfl rfl ?c1 ?c2 ?c3 ?c4 ?c5 ?_)
      case c1 => exact cell_one_new _ _ _
      case c2 => intro u hu; simp at hu; subst hu; rfl
      case c3 => unfold maxLen; omega
      case c4 => omega
      case c5 => simp; omega
      intro v' w1 hown' hgrow _
      have hr1 : OwnB w1 base v' (l ++ lowB n (k + 1)) := by rw [hls.out]; exact OwnB.snoc HSN.out hown'
      have hr2 : Below base w w1 := by
        refine Below.grown ((HBR.out).alloc (by omega) _) hgrow (by simp; omega) ?_
        intro k hk
        exact (World.ownsRow.lt HO.out k hk).1
      clear hown' hgrow
      go_wp2
      go_roundw
      case rel => exact ⟨k + 1, by omega, by go_num, by rw [hdiv.out]; go_num, hr1, hr2⟩
      case measure => simp [intOf]; omega
    · have he : k = size := by omega
      subst he
      go_wp2
      go_ret
      exact ⟨_, rfl, ho, hbr⟩

theorem bytesV_str (s : ByteArray) : bytesV s.data.toList = Lib.strCells s := by
  simp [bytesV, Lib.strCells]

/-- A text's bytes: its length, and itself. -/
def txtB (s : ByteArray) : List UInt8 := lowB s.size 1 ++ s.data.toList

set_option maxHeartbeats 1000000 in
theorem appendText_any (base : Nat) (v : Value) (l : List UInt8) (s : ByteArray) (w : World) (hs : s.size ≤ 65535) (hl : l.length ≤ 1099511627776) (hb : base ≤ w.heap.size) (hown : OwnB w base v l) :
    Calls Tryz.prog 114 #[v, .string s] w fun e w' => ∃ v', e = .returned v' ∧ OwnB w' base v' (l ++ txtB s) ∧ Below base w w' := by
  obtain ⟨i0, hi, hz0, hz1, hz2⟩ := info_parts info5
  have hnum : Hid (Calls Tryz.prog 91 #[v, .int .i64 (s.size : Int), .int .i64 1] w fun e w' => ∃ v', e = .returned v' ∧ OwnB w' base v' (l ++ lowB s.size 1) ∧ Below base w w') :=
    appendNumber_any base v l s.size 1 w (by omega) (by decide) hl hb hown
  go_enter Tryz.func114, Tryz.ntmps114
  go_wp2_with fail
  refine (hnum.out).mono ?_
  rintro e w1 ⟨v1, rfl, ho1, hb1⟩
  have hle : (l ++ lowB s.size 1).length ≤ 1099511627800 := by rw [List.length_append, lowB_length]; omega
  have hls : Hid (l ++ txtB s = (l ++ lowB s.size 1) ++ s.data.toList) := by
    show _ = _
    rw [txtB, List.append_assoc]
  generalize l ++ lowB s.size 1 = L at ho1 hle hls
  have hsz := hb1.size
  have HO : Hid (OwnB w1 base v1 L) := ho1
  have HB : Hid (Below base w w1) := hb1
  clear ho1 hb1 hown
  go_wp2_with (at_builtin; refine Lib.wpList_append_own_string _ rfl _ _ 74 9 rfl base 5 i0 Tryz.underlying74 Tryz.underlying9 hi hz0 hz1 hz2 _ _ _ rfl HO.out s rfl ?c1 ?c2 ?c3 ?_)
  case c1 => unfold maxLen; omega
  case c2 => omega
  case c3 => omega
  intro v' w2 hown' hgrow _
  have hr1 : OwnB w2 base v' (l ++ txtB s) := by
    rw [hls.out]
    unfold OwnB
    have e1 : bytesV (L ++ s.data.toList) = bytesV L ++ Lib.strCells s := by rw [← bytesV_str]; simp [bytesV]
    have e2 : (L ++ s.data.toList).length = L.length + s.size := by rw [List.length_append]; rfl
    rw [e1, e2]
    exact hown'
  have hr2 : Below base w w2 := by
    refine Below.grown HB.out hgrow (by omega) ?_
    intro k hk
    exact (World.ownsRow.lt HO.out k hk).1
  clear hown' hgrow
  go_wp2
  go_ret
  exact ⟨_, rfl, hr1, hr2⟩

/-- The texts of a list, one behind the other. -/
def txtsB (bs : List ByteArray) : List UInt8 := bs.flatMap txtB
theorem txtB_length (s : ByteArray) : (txtB s).length = 1 + s.size := by rw [txtB, List.length_append, lowB_length]; rfl
theorem txtsB_length (bs : List ByteArray) (h : ∀ s ∈ bs, s.size ≤ 65535) : (txtsB bs).length ≤ 65536 * bs.length := by
  induction bs with
  | nil => simp [txtsB]
  | cons x r ih =>
    have h1 := ih (fun s hs => h s (List.mem_cons_of_mem _ hs))
    have h2 := h x List.mem_cons_self
    have e : txtsB (x :: r) = txtB x ++ txtsB r := by simp [txtsB]
    rw [e, List.length_append, txtB_length, List.length_cons]
    omega

set_option maxHeartbeats 1000000 in
theorem appendTexts_any (base : Nat) (v : Value) (l : List UInt8) (a : Option Addr) (cap : Nat) (bs : List ByteArray) (w : World) (hbs : ∀ s ∈ bs, s.size ≤ 65535) (hn : bs.length ≤ 65535) (hl : l.length ≤ 1048576) (hb : base ≤ w.heap.size) (hown : OwnB w base v l)
    (hS : ∀ j (h : j < bs.length), ∃ b o, a = some ⟨b, o, none⟩ ∧ b < base ∧ w.cell? ⟨b, o + j, none⟩ = some (.string bs[j])) :
    Calls Tryz.prog 116 #[v, .slice a bs.length cap] w fun e w' => ∃ v', e = .returned v' ∧ OwnB w' base v' (l ++ (lowB bs.length 1 ++ txtsB bs)) ∧ Below base w w' := by
  have hnum : Hid (Calls Tryz.prog 91 #[v, .int .i64 (bs.length : Int), .int .i64 1] w fun e w' => ∃ v', e = .returned v' ∧ OwnB w' base v' (l ++ lowB bs.length 1) ∧ Below base w w') :=
    appendNumber_any base v l bs.length 1 w (by omega) (by decide) (by omega) hb hown
  have HS : Hid (∀ j (h : j < bs.length), ∃ b o, a = some ⟨b, o, none⟩ ∧ b < base ∧ w.cell? ⟨b, o + j, none⟩ = some (.string bs[j])) := hS
  have HBS : Hid (∀ s ∈ bs, s.size ≤ 65535) := hbs
  clear hS hown hbs
  go_enter Tryz.func116, Tryz.ntmps116
  go_wp2_with fail
  refine (hnum.out).mono ?_
  rintro e w1 ⟨v1, rfl, ho1, hb1⟩
  have hle : Hid ((l ++ lowB bs.length 1).length ≤ 1048600) := by show _ ≤ _; rw [List.length_append, lowB_length]; omega
  have hls : Hid (l ++ (lowB bs.length 1 ++ txtsB bs) = (l ++ lowB bs.length 1) ++ txtsB bs) := by
    show _ = _
    rw [List.append_assoc]
  generalize l ++ lowB bs.length 1 = L at ho1 hle hls
  have HO : Hid (OwnB w1 base v1 L) := ho1
  have HB : Hid (Below base w w1) := hb1
  clear ho1 hb1
  go_wp2_with fail
  go_loopw [0, 13] (fun o i wr => ∃ k : Nat, k ≤ bs.length ∧ i = .int .i64 k ∧ OwnB wr base o (L ++ txtsB (bs.take k)) ∧ Below base w wr) (fun _ i _ => bs.length - (intOf i).toNat)
  case atStart => exact ⟨0, Nat.zero_le _, rfl, by simpa [txtsB] using HO.out, HB.out⟩
  case round =>
    obtain ⟨k, hk, rfl, ho, hbr⟩ := hrel
    by_cases hlt : k < bs.length
    · obtain ⟨lb, lo, rfl, hlb, hck⟩ := HS.out k hlt
      have hck' := (hbr.cell (p := ⟨lb, lo + k, none⟩) hlb).trans hck
      have hsz := hbr.size
      have hlk : (L ++ txtsB (bs.take k)).length ≤ 1099511627776 := by
        rw [List.length_append]
        have h1 := txtsB_length (bs.take k) (fun s hs => HBS.out s (List.mem_of_mem_take hs))
        have h2 := hle.out
        rw [List.length_take] at h1
        omega
      have htk : Hid (L ++ txtsB (bs.take (k + 1)) = (L ++ txtsB (bs.take k)) ++ txtB bs[k]) := by
        show _ = _
        rw [List.take_succ_eq_append_getElem hlt, txtsB, List.flatMap_append, List.flatMap_singleton, ← List.append_assoc]
        rfl
      have hx := HBS.out bs[k] (List.getElem_mem hlt)
      generalize bs[k] = x at hck' htk hx hck
      have ht : Hid (Calls Tryz.prog 114 #[u0, .string x] wr fun e w' => ∃ v', e = .returned v' ∧ OwnB w' base v' ((L ++ txtsB (bs.take k)) ++ txtB x) ∧ Below base wr w') :=
        appendText_any base u0 _ x wr hx hlk (by omega) ho
      rw [← htk.out] at ht
      have HBR : Hid (Below base w wr) := hbr
      clear ho hbr hck hlk htk
      go_wp2_with fail
      refine (ht.out).mono ?_
      rintro e w2 ⟨v2, rfl, ho2, hb2⟩
      have HO2 : Hid (OwnB w2 base v2 (L ++ txtsB (bs.take (k + 1)))) := ho2
      have HB2 : Hid (Below base w w2) := HBR.out.trans hb2
      clear ho2 hb2
      go_wp2_with fail
      go_roundw
      case rel => exact ⟨k + 1, by omega, by go_num, HO2.out, HB2.out⟩
      case measure => simp [intOf]; omega
    · have he : bs.take k = bs := List.take_of_length_le (by omega)
      rw [he] at ho
      rw [← hls.out] at ho
      have HO2 : Hid (OwnB wr base u0 (l ++ (lowB bs.length 1 ++ txtsB bs))) := ho
      have HBR : Hid (Below base w wr) := hbr
      clear he ho hbr
      go_wp2_with fail
      go_ret
      exact ⟨_, rfl, HO2.out, HBR.out⟩
end Go.Proofs.YtbdobaapadlcjaaGreatDoor
