/-
  THE WALK of the statement Checked (function 6).
-/
import Derived.Test.YtbdobaapadlcjaaDoorCheckW
import Derived.Laws.IdiomStrings
import Derived.Deep.RegionWith
import Derived.RegionTactic
import Derived.ChangeAlike
namespace Go.Proofs.YtbdobaapadlcjaaDoor
open Go.RowKit

/-- A world in which a new row holds a string's bytes. -/
theorem bytes_world (w : World) (s : ByteArray) (cap : Nat) (hc : s.size ≤ cap) (W1 : World)
    (hW : W1 = (w.alloc (.cells (bytesRow s cap) 5 ((bytesRow s cap).size, (bytesRow s cap).size + 1))).drew) :
    Below w.heap.size w W1 ∧ (∀ j (hj : j < s.size), W1.cell? ⟨w.heap.size, j, none⟩ = some (.int .u8 (s[j].toNat : Int))) ∧
      (∀ j, j < s.size → W1.frozen? ⟨w.heap.size, j, none⟩ = false) ∧ w.heap.size < W1.heap.size := by
  have hn : (bytesRow s cap).size = cap := by
    have : s.data.size = s.size := rfl
    simp [bytesRow]; omega
  subst hW
  refine ⟨((Below.refl _ _).alloc (Nat.le_refl _) _).drew, fun j hj => ?_, fun j hj => ?_, by simp⟩
  · rw [World.cell?_drew, World.cell?_alloc_mark]
    have hj' : j < s.data.size := hj
    rw [bytesRow, Array.getElem?_append_left (by simpa using hj'), Array.getElem?_map, Array.getElem?_eq_getElem hj']
    rfl
  · rw [World.frozen?_drew, World.frozen?_alloc_mark, hn]
    simp; omega

theorem mk_size (l : List UInt8) : (ByteArray.mk l.toArray).size = l.length := by simp [ByteArray.size]
theorem mk_list (l : List UInt8) : (ByteArray.data ⟨l.toArray⟩).toList = l := rfl
theorem addr_add (n j : Nat) : (⟨n, 0, none⟩ : Addr).add j = ⟨n, j, none⟩ := by
  unfold Addr.add
  split
  · next h => rw [h]
  · rw [Nat.zero_add]
/-- A row of bytes with one byte stored. -/
theorem set_world (w : World) (n k : Nat) (s : ByteArray) (c : UInt8) (hk : k < s.size)
    (hc : ∀ (j : Nat) (hj : j < s.size), w.cell? ⟨n, j, none⟩ = some (.int .u8 (s[j].toNat : Int))) (j : Nat) (hj : j < (s.data.toList.set k c).length) :
    (w.setCell ⟨n, k, none⟩ (.int .u8 (c.toNat : Int))).drew.cell? ((⟨n, 0, none⟩ : Addr).add j) = some (.int .u8 ((s.data.toList.set k c)[j].toNat : Int)) := by
  have hj' : j < s.size := by rw [List.length_set] at hj; exact hj
  rw [World.cell?_drew, addr_add, List.getElem_set]
  by_cases he : k = j
  · subst he
    rw [if_pos rfl]
    exact World.cell?_setCell_same _ _ _ (hc k hk)
  · rw [if_neg he, World.cell?_setCell_other _ _ _ _ (fun e => he (by cases e; rfl))]
    exact hc j hj'
/-- One bit of a byte that is another makes another byte. -/
theorem flip (b : UInt8) (n : Int) (h0 : 0 ≤ n) (h1 : n < 8) : ∃ c : UInt8, bits .xor .u8 (b.toNat : Int) (IntKind.u8.wrap (2 ^ n.toNat)) = (c.toNat : Int) ∧ c ≠ b := by
  obtain ⟨m, rfl⟩ := Int.eq_ofNat_of_zero_le h0
  have hm : m < 8 := by omega
  have hw : IntKind.u8.wrap (2 ^ (m : Int).toNat) = ((2 ^ m : Nat) : Int) := by
    have : ∀ i : Fin 8, IntKind.u8.wrap (2 ^ ((i.val : Nat) : Int).toNat) = ((2 ^ i.val : Nat) : Int) := by decide
    exact this ⟨m, hm⟩
  have hp : 2 ^ m < 256 := by
    have : ∀ i : Fin 8, 2 ^ i.val < 256 := by decide
    exact this ⟨m, hm⟩
  have hq : 0 < 2 ^ m := Nat.pow_pos (by decide)
  have hb : b.toNat < 256 := b.toNat_lt
  have hx : b.toNat ^^^ 2 ^ m < 2 ^ 8 := Nat.xor_lt_two_pow (by omega) (by omega)
  refine ⟨UInt8.ofNat (b.toNat ^^^ 2 ^ m), ?_, fun e => ?_⟩
  · rw [hw, u8_xor_nat _ _ hb hp, UInt8.toNat_ofNat_of_lt' (by simpa using hx)]
  · have e1 := congrArg UInt8.toNat e
    rw [UInt8.toNat_ofNat_of_lt' (by simpa using hx)] at e1
    have e2 := Crc.xor_cancel (a := 2 ^ m) (b := 0) (c := b.toNat) (by rw [Nat.xor_comm, e1]; simp)
    omega

set_option maxHeartbeats 400000 in
theorem checked_empty (s : ByteArray) (p bit : Int) (w : World) (hT : Tab w) (hz : s.size = 0) :
    Calls Tryd.prog 6 #[.string s, .int .i64 p, .int .i64 bit] w fun e w' => e = .returned (.bool true) ∧ Below w.heap.size w w' := by
  have hcv := fun w => run_bytes_of_string (P := Tryd.prog) w 9 48 5 s Tryd.underlying9 Tryd.underlying48 Tryd.underlying5
  go_enter Tryd.func6, Tryd.ntmps6
  go_wp2_with fail
  refine (wharf_check _ _ (by decide) hT).mono ?_
  rintro e w' ⟨rfl, rfl⟩
  go_wp2_with fail
  refine (wharf_check _ _ (by decide) hT).mono ?_
  rintro e w' ⟨rfl, rfl⟩
  have e1 : Crc.crc (ByteArray.data ⟨#[49, 50, 51, 52, 53, 54, 55, 56, 57]⟩).toList = 3421780262 := Crc.crc_digits
  have e2 : Crc.crc (ByteArray.data ⟨#[]⟩).toList = 0 := Crc.crc_nil
  rw [e1, e2]
  clear e1 e2
  go_wp2_with fail
  go_ret
  exact ⟨rfl, ((Below.refl _ _).alloc (Nat.le_refl _) _).drew⟩

set_option maxHeartbeats 400000 in
theorem checked_some (s : ByteArray) (p bit : Int) (w : World) (hs : s.size ≤ maxLen) (hT : Tab w) (h0 : 0 < w.heap.size) (hz : 0 < s.size)
    (hp1 : -9223372036854775808 ≤ p) (hp2 : p ≤ 9223372036854775807) (hb1 : -9223372036854775808 ≤ bit) (hb2 : bit ≤ 9223372036854775807) :
    Calls Tryd.prog 6 #[.string s, .int .i64 p, .int .i64 bit] w fun e w' => e = .returned (.bool true) ∧ Below w.heap.size w w' := by
  have hcv := fun w => run_bytes_of_string (P := Tryd.prog) w 9 48 5 s Tryd.underlying9 Tryd.underlying48 Tryd.underlying5
  have hne : ((s.size : Int) == 0) = false := beq_eq_false_iff_ne.2 (by omega)
  go_enter Tryd.func6, Tryd.ntmps6
  go_wp2_with fail
  refine (wharf_check _ _ (by decide) hT).mono ?_
  rintro e w' ⟨rfl, rfl⟩
  go_wp2_with fail
  refine (wharf_check _ _ (by decide) hT).mono ?_
  rintro e w' ⟨rfl, rfl⟩
  have e1 : Crc.crc (ByteArray.data ⟨#[49, 50, 51, 52, 53, 54, 55, 56, 57]⟩).toList = 3421780262 := Crc.crc_digits
  have e2 : Crc.crc (ByteArray.data ⟨#[]⟩).toList = 0 := Crc.crc_nil
  rw [e1, e2]
  clear e1 e2
  go_wp2_with fail
  generalize hcap : grownCap w' s.size 0 5 = cap
  have hcl : s.size ≤ cap := by rw [← hcap]; exact grownCap_ge _ _ _ _
  clear hcap hcv
  have Hw := bytes_world w' s cap hcl
  generalize (w'.alloc (.cells (bytesRow s cap) 5 ((bytesRow s cap).size, (bytesRow s cap).size + 1))).drew = W1 at Hw ⊢
  obtain ⟨hb, hc, hf, hsz⟩ := Hw W1 rfl
  refine (pick_any _ _ _ hp1 hp2 (by omega) (by unfold maxLen at hs; omega)).mono ?_
  rintro e w1 ⟨rfl, rfl⟩
  have k0 := pk_nonneg p s.size (by omega)
  have k1 := pk_lt p s.size (by omega)
  generalize pk p s.size = K at k0 k1 ⊢
  obtain ⟨k, rfl⟩ := Int.eq_ofNat_of_zero_le k0
  have hk : k < s.size := by omega
  have hck := hc k hk
  have hfk := hf k hk
  have b0 := pk_nonneg bit 8 (by omega)
  have b1 := pk_lt bit 8 (by omega)
  have hpick := fun w => pick_any bit 8 w hb1 hb2 (by omega) (by omega)
  generalize pk bit 8 = B at b0 b1 hpick
  have HP : Hid (∀ w, Calls Tryd.prog 17 #[.int .i64 bit, .int .i64 8] w fun e w' => e = .returned (.int .i64 B) ∧ w' = w) := hpick
  clear hpick
  obtain ⟨c, hfl, hcn⟩ := flip s[k] B b0 b1
  have HCN : Hid (c ≠ s[k]) := hcn
  have HC : Hid (∀ (j : Nat) (hj : j < s.size), w1.cell? ⟨w'.heap.size, j, none⟩ = some (.int .u8 (s[j].toNat : Int))) := hc
  have HB : Hid (Below w'.heap.size w' w1) := hb
  have HT : Hid (Tab w') := hT
  clear hc hf hcn hb hT Hw
  go_wp2_with fail
  go_region_with (go_at_call 17; refine (HP.out _).mono ?_; rintro e w2 ⟨rfl, rfl⟩)
  all_goals
    go_wp2_with fail
    generalize hW2 : (w1.setCell { block := w'.heap.size, off := k } (.int .u8 (c.toNat : Int))).drew = W2
    have hb2' : Below w'.heap.size w' W2 := by rw [← hW2]; exact (HB.out.setCell (Nat.le_refl _) _).drew
    have hT2 : Tab W2 := HT.out.below hb2' h0
    have hc2 : ∀ j (hj : j < (s.data.toList.set k c).length), W2.cell? ((⟨w'.heap.size, 0, none⟩ : Addr).add j) = some (.int .u8 ((s.data.toList.set k c)[j].toNat : Int)) := by
      rw [← hW2]; exact set_world w1 _ k s c hk HC.out
    have hbk := run_convert_bytes_back (P := Tryd.prog) W2 48 9 5 ⟨w'.heap.size, 0, none⟩ cap (s.data.toList.set k c) Tryd.underlying48 Tryd.underlying5 Tryd.underlying9 hc2
    have hln : (s.data.toList.set k c).length = s.size := List.length_set
    rw [hln] at hbk
    have hl2 : (ByteArray.mk (s.data.toList.set k c).toArray).size ≤ maxLen := by rw [mk_size, hln]; exact hs
    have hds := Crc.crc_set s.data.toList k c hk HCN.out
    have HDS : Hid (Crc.crc s.data.toList ≠ Crc.crc (s.data.toList.set k c)) := hds
    clear hW2 hds hc2 hln
    generalize s.data.toList.set k c = L at hbk hl2 HDS
    refine (wharf_check _ _ hs hT2).mono ?_
    rintro e w3 ⟨rfl, rfl⟩
    go_wp2_with fail
    refine (wharf_check _ _ hl2 hT2).mono ?_
    rintro e w4 ⟨rfl, rfl⟩
    go_wp2_with fail
    refine (wharf_check _ _ hs hT2).mono ?_
    rintro e w5 ⟨rfl, rfl⟩
    generalize Crc.crc s.data.toList = A at HDS ⊢
    generalize Crc.crc L = Z at HDS ⊢
    have n1 : ((A : Int) != (Z : Int)) = true := by rw [bne_iff_ne]; have := HDS.out; omega
    go_wp2_with fail
    go_ret
    exact ⟨rfl, hb2'⟩
end Go.Proofs.YtbdobaapadlcjaaDoor
