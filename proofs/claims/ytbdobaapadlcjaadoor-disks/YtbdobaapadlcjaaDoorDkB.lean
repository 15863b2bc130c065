/-
  DISKS: the files' row; New, find, Read, Has of both disks.
-/
import Derived.Test.YtbdobaapadlcjaaDoorDkA
namespace Go.Proofs.YtbdobaapadlcjaaDoor.Dk
open Go.RowKit
set_option linter.unusedVariables false

/-- A file. -/
structure DF where
  name : ByteArray
  data : ByteArray
  safe : Nat
def DF.row (f : DF) : List Value := [.string f.name, .string f.data, .int .i64 (f.safe : Nat)]
def rowOf (fs : List DF) : List Value := fs.flatMap DF.row
theorem rowOf_len (fs : List DF) : (rowOf fs).length = fs.length * 3 := by
  induction fs with
  | nil => rfl
  | cons f fs ih =>
    show (f.row ++ rowOf fs).length = _
    rw [List.length_append, ih, List.length_cons]
    show 3 + _ = _
    omega
theorem rowOf_app (a b : List DF) : rowOf (a ++ b) = rowOf a ++ rowOf b := List.flatMap_append ..
theorem rowOf_get (fs : List DF) (j k : Nat) (h : j < fs.length) (hk : k < 3) : (rowOf fs)[3 * j + k]? = fs[j].row[k]? := by
  induction fs generalizing j with
  | nil => cases h
  | cons f fs ih =>
    show (f.row ++ rowOf fs)[3 * j + k]? = _
    cases j with
    | zero => rw [List.getElem?_append_left (by show 3 * 0 + k < 3; omega)]; simp
    | succ j =>
      rw [List.getElem?_append_right (by show 3 ≤ 3 * (j + 1) + k; omega), show 3 * (j + 1) + k - f.row.length = 3 * j + k by show 3 * (j + 1) + k - 3 = _; omega]
      simpa using ih j (by simpa using h)
theorem rowOf_set (fs : List DF) (j : Nat) (h : j < fs.length) (f : DF) : rowOf (fs.set j f) = (((rowOf fs).set (3 * j) (.string f.name)).set (3 * j + 1) (.string f.data)).set (3 * j + 2) (.int .i64 (f.safe : Nat)) := by
  induction fs generalizing j with
  | nil => cases h
  | cons g fs ih =>
    cases j with
    | zero => rfl
    | succ j =>
      show g.row ++ rowOf (fs.set j f) = (((g.row ++ rowOf fs).set _ _).set _ _).set _ _
      rw [ih j (by simpa using h), List.set_append_right _ _ (by show 3 ≤ _; omega), List.set_append_right _ _ (by show 3 ≤ _; omega), List.set_append_right _ _ (by show 3 ≤ _; omega)]
      have e : g.row.length = 3 := rfl
      rw [e, show 3 * (j + 1) - 3 = 3 * j by omega, show 3 * (j + 1) + 1 - 3 = 3 * j + 1 by omega, show 3 * (j + 1) + 2 - 3 = 3 * j + 2 by omega]

/-- The files of a disk: their row is the disk's own. -/
def Own (w : World) (te : TypeId) (v : Value) (fs : List DF) : Prop := w.ownsRow 0 te 3 v fs.length (rowOf fs)
theorem Own.nil (w : World) (te : TypeId) : Own w te (.slice none 0 0) [] := World.ownsRow_nil w 0 te 3
theorem Own.empty {w : World} {te : TypeId} {v : Value} {fs : List DF} (h : Own w te v fs) (hv : v = .slice none 0 0) : fs = [] := by
  subst hv
  rcases h.2 with ⟨_, hn⟩ | ⟨g, cap, cur, hv, _⟩
  · exact List.eq_nil_of_length_eq_zero hn
  · cases hv
theorem Own.open {w : World} {te : TypeId} {v : Value} {fs : List DF} (h : Own w te v fs) : (v = .slice none 0 0 ∧ fs = []) ∨ ∃ g cap, v = .slice (some ⟨g, 0, none⟩) fs.length cap ∧ g < w.heap.size ∧
    ∀ j (hj : j < fs.length), w.cell? ⟨g, 3 * j, none⟩ = some (.string fs[j].name) ∧ w.cell? ⟨g, 3 * j + 1, none⟩ = some (.string fs[j].data) ∧ w.cell? ⟨g, 3 * j + 2, none⟩ = some (.int .i64 (fs[j].safe : Nat)) := by
  rcases h.2 with ⟨hv, hn⟩ | ⟨g, cap, cur, hv, _, hg, _⟩
  · exact .inl ⟨hv, List.eq_nil_of_length_eq_zero hn⟩
  · refine .inr ⟨g, cap, hv, ?_, fun j hj => ?_⟩
    · exact (h.lt g (by rw [hv]; rfl)).2
    · subst hv
      have c := fun k (hk : k < 3) => (World.ownsRow.cellAt h (3 * j + k) (by omega)).trans (rowOf_get fs j k hj hk)
      exact ⟨c 0 (by omega), c 1 (by omega), c 2 (by omega)⟩

theorem Own.at {w : World} {te : TypeId} {v : Value} {fs : List DF} (h : Own w te v fs) : ∃ a cap, v = .slice a fs.length cap ∧ ∀ j (hj : j < fs.length), ∃ g, a = some ⟨g, 0, none⟩ ∧
    w.cell? ⟨g, j * 3, none⟩ = some (.string fs[j].name) ∧ w.cell? ⟨g, j * 3 + 1, none⟩ = some (.string fs[j].data) ∧ w.cell? ⟨g, j * 3 + 2, none⟩ = some (.int .i64 (fs[j].safe : Nat)) := by
  rcases h.open with ⟨rfl, rfl⟩ | ⟨g, cap, rfl, _, hc⟩
  · exact ⟨none, 0, rfl, fun j hj => by cases hj⟩
  · refine ⟨_, _, rfl, fun j hj => ⟨g, rfl, ?_⟩⟩
    rw [Nat.mul_comm j 3]
    exact hc j hj

/-- Where a name stands. -/
def isN (name : ByteArray) (f : DF) : Bool := f.name.toList == name.toList
def fnd (name : ByteArray) (fs : List DF) : Int := match fs.findIdx? (isN name) with | some i => (i : Int) | none => -1
theorem fnd_at (name : ByteArray) (fs : List DF) (k : Nat) (h : k < fs.length) (hk : isN name fs[k] = true) (hp : ∀ j (hj : j < k), isN name (fs[j]'(by omega)) = false) : fnd name fs = k := by
  have : fs.findIdx? (isN name) = some k := by
    rw [List.findIdx?_eq_some_iff_getElem]
    exact ⟨h, hk, fun j hj => by simp [hp j hj]⟩
  unfold fnd
  rw [this]
theorem fnd_none (name : ByteArray) (fs : List DF) (hp : ∀ j (hj : j < fs.length), isN name fs[j] = false) : fnd name fs = -1 := by
  have : fs.findIdx? (isN name) = none := by
    rw [List.findIdx?_eq_none_iff]
    intro x hx
    obtain ⟨j, hj, rfl⟩ := List.getElem_of_mem hx
    exact hp j hj
  unfold fnd
  rw [this]

set_option maxRecDepth 10000 in
set_option maxHeartbeats 400000 in
theorem find_d (p : Nat) (v : Value) (left : Int) (st : Bool) (fs : List DF) (name : ByteArray) (w : World) (h : DBlk w p 76 v left st) (ho : Own w 81 v fs) (hn : fs.length ≤ 8388608) :
    Calls Tryd.prog 45 #[.pointer (some ⟨p, 0, none⟩), .string name] w fun e w' => e = .returned (.int .i64 (fnd name fs)) ∧ w' = w := by
  have h0 := h.c0
  clear h
  obtain ⟨a, cap, rfl, hc⟩ := ho.at
  have HC : Hid (∀ j (hj : j < fs.length), ∃ g, a = some ⟨g, 0, none⟩ ∧ w.cell? ⟨g, j * 3, none⟩ = some (.string fs[j].name)) := fun j hj => by
    obtain ⟨g, ha, h1, _⟩ := hc j hj
    exact ⟨g, ha, h1⟩
  clear hc ho
  go_enter Tryd.func45, Tryd.ntmps45
  go_wp2_with fail
  go_loop [11] (fun i => ∃ k : Nat, k ≤ fs.length ∧ i = .int .i64 k ∧ ∀ j (hj : j < fs.length), j < k → isN name fs[j] = false) (fun i => fs.length - (intOf i).toNat)
  case atStart => exact ⟨0, Nat.zero_le _, rfl, fun j hj h => by omega⟩
  case round =>
    obtain ⟨k, hk, rfl, hp⟩ := hrel
    by_cases hkn : k < fs.length
    · obtain ⟨g, rfl, hc⟩ := HC.out k hkn
      have HP : Hid (∀ j (hj : j < fs.length), j < k → isN name fs[j] = false) := hp
      have HK : Hid (isN name fs[k] = (fs[k].name.toList == name.toList)) := rfl
      clear hp
      generalize fs[k].name = nm at hc HK
      cases hq : (nm.toList == name.toList) with
      | true =>
        have HF : Hid (fnd name fs = k) := fnd_at name fs k hkn (HK.out.trans hq) (fun j hj => HP.out j (by omega) hj)
        go_wp2_with fail
        go_ret
        exact ⟨ret_i HF.out.symm, rfl⟩
      | false =>
        have HF : Hid (isN name fs[k] = false) := HK.out.trans hq
        go_wp2_with fail
        go_round
        case rel =>
          refine ⟨k + 1, by omega, by go_num, fun j hj hjk => ?_⟩
          by_cases e : j = k
          · subst e; exact HF.out
          · exact HP.out j hj (by omega)
        case measure => simp [intOf]; omega
    · have HF : Hid (fnd name fs = -1) := fnd_none name fs (fun j hj => hp j hj (by omega))
      clear hp
      go_wp2_with fail
      go_ret
      exact ⟨ret_i HF.out.symm, rfl⟩
set_option maxRecDepth 10000 in
set_option maxHeartbeats 400000 in
theorem find_r (p : Nat) (v : Value) (left : Int) (st : Bool) (fs : List DF) (name : ByteArray) (w : World) (h : DBlk w p 79 v left st) (ho : Own w 83 v fs) (hn : fs.length ≤ 8388608) :
    Calls Tryd.prog 47 #[.pointer (some ⟨p, 0, none⟩), .string name] w fun e w' => e = .returned (.int .i64 (fnd name fs)) ∧ w' = w := by
  have h0 := h.c0
  clear h
  obtain ⟨a, cap, rfl, hc⟩ := ho.at
  have HC : Hid (∀ j (hj : j < fs.length), ∃ g, a = some ⟨g, 0, none⟩ ∧ w.cell? ⟨g, j * 3, none⟩ = some (.string fs[j].name)) := fun j hj => by
    obtain ⟨g, ha, h1, _⟩ := hc j hj
    exact ⟨g, ha, h1⟩
  clear hc ho
  go_enter Tryd.func47, Tryd.ntmps47
  go_wp2_with fail
  go_loop [5] (fun i => ∃ k : Nat, k ≤ fs.length ∧ i = .int .i64 k ∧ ∀ j (hj : j < fs.length), j < k → isN name fs[j] = false) (fun i => fs.length - (intOf i).toNat)
  case atStart => exact ⟨0, Nat.zero_le _, rfl, fun j hj h => by omega⟩
  case round =>
    obtain ⟨k, hk, rfl, hp⟩ := hrel
    by_cases hkn : k < fs.length
    · obtain ⟨g, rfl, hc⟩ := HC.out k hkn
      have HP : Hid (∀ j (hj : j < fs.length), j < k → isN name fs[j] = false) := hp
      have HK : Hid (isN name fs[k] = (fs[k].name.toList == name.toList)) := rfl
      clear hp
      generalize fs[k].name = nm at hc HK
      cases hq : (nm.toList == name.toList) with
      | true =>
        have HF : Hid (fnd name fs = k) := fnd_at name fs k hkn (HK.out.trans hq) (fun j hj => HP.out j (by omega) hj)
        go_wp2_with fail
        go_ret
        exact ⟨ret_i HF.out.symm, rfl⟩
      | false =>
        have HF : Hid (isN name fs[k] = false) := HK.out.trans hq
        go_wp2_with fail
        go_round
        case rel =>
          refine ⟨k + 1, by omega, by go_num, fun j hj hjk => ?_⟩
          by_cases e : j = k
          · subst e; exact HF.out
          · exact HP.out j hj (by omega)
        case measure => simp [intOf]; omega
    · have HF : Hid (fnd name fs = -1) := fnd_none name fs (fun j hj => hp j hj (by omega))
      clear hp
      go_wp2_with fail
      go_ret
      exact ⟨ret_i HF.out.symm, rfl⟩
theorem fnd_cases (name : ByteArray) (fs : List DF) : (fnd name fs = -1 ∧ ∀ f ∈ fs, isN name f = false) ∨ ∃ k, k < fs.length ∧ fnd name fs = (k : Int) := by
  unfold fnd
  cases h : fs.findIdx? (isN name) with
  | none => exact .inl ⟨rfl, List.findIdx?_eq_none_iff.1 h⟩
  | some k => exact .inr ⟨k, (List.findIdx?_eq_some_iff_getElem.1 h).1, rfl⟩
/-- The bytes of a name. -/
def rd (name : ByteArray) (fs : List DF) : ByteArray := if fnd name fs < 0 then ⟨#[]⟩ else ((fs[(fnd name fs).toNat]?).map DF.data).getD ⟨#[]⟩
theorem rd_none {name : ByteArray} {fs : List DF} (h : fnd name fs = -1) : rd name fs = ⟨#[]⟩ := by unfold rd; rw [h]; rfl
theorem rd_some {name : ByteArray} {fs : List DF} {k : Nat} (hk : k < fs.length) (h : fnd name fs = k) : rd name fs = fs[k].data := by
  unfold rd
  rw [h, if_neg (by omega), Int.toNat_natCast, List.getElem?_eq_getElem hk]
  rfl
set_option maxHeartbeats 400000 in
theorem read_d (p : Nat) (v : Value) (left : Int) (st : Bool) (fs : List DF) (name : ByteArray) (w : World) (h : DBlk w p 76 v left st) (ho : Own w 81 v fs) (hn : fs.length ≤ 8388608) :
    Calls Tryd.prog 49 #[.pointer (some ⟨p, 0, none⟩), .string name] w fun e w' => e = .returned (.string (rd name fs)) ∧ w' = w := by
  have h0 := h.c0
  have HF : Hid (Calls Tryd.prog 45 #[.pointer (some ⟨p, 0, none⟩), .string name] w fun e w' => e = .returned (.int .i64 (fnd name fs)) ∧ w' = w) := find_d p v left st fs name w h ho hn
  obtain ⟨a, cap, rfl, hc⟩ := ho.at
  clear h ho
  rcases fnd_cases name fs with ⟨hf, _⟩ | ⟨k, hk, hf⟩
  · have hr : Hid (rd name fs = ⟨#[]⟩) := rd_none hf
    rw [hf] at HF
    clear hc hf
    go_enter Tryd.func49, Tryd.ntmps49
    go_wp2_with fail
    refine HF.out.mono ?_
    rintro e w1 ⟨rfl, rfl⟩
    go_wp2_with fail
    go_ret
    exact ⟨by rw [hr.out]; rfl, rfl⟩
  · have hr : Hid (rd name fs = fs[k].data) := rd_some hk hf
    obtain ⟨g, rfl, _, hd, _⟩ := hc k hk
    rw [hf] at HF
    clear hc hf
    generalize fs[k].data = D at hr hd
    have hkl : ((k : Int) < (fs.length : Int)) := by omega
    go_enter Tryd.func49, Tryd.ntmps49
    go_wp2_with fail
    refine HF.out.mono ?_
    rintro e w1 ⟨rfl, rfl⟩
    go_wp2_with fail
    go_ret
    exact ⟨by rw [hr.out]; rfl, rfl⟩
set_option maxHeartbeats 400000 in
theorem has_d (p : Nat) (v : Value) (left : Int) (st : Bool) (fs : List DF) (name : ByteArray) (w : World) (h : DBlk w p 76 v left st) (ho : Own w 81 v fs) (hn : fs.length ≤ 8388608) :
    Calls Tryd.prog 50 #[.pointer (some ⟨p, 0, none⟩), .string name] w fun e w' => e = .returned (.bool (decide (0 ≤ fnd name fs))) ∧ w' = w := by
  have HF : Hid (Calls Tryd.prog 45 #[.pointer (some ⟨p, 0, none⟩), .string name] w fun e w' => e = .returned (.int .i64 (fnd name fs)) ∧ w' = w) := find_d p v left st fs name w h ho hn
  clear h ho hn
  generalize fnd name fs = F at HF
  go_enter Tryd.func50, Tryd.ntmps50
  go_wp2_with fail
  refine HF.out.mono ?_
  rintro e w1 ⟨rfl, rfl⟩
  go_wp2_with fail
  go_ret
  exact ⟨ret_b (by simp), rfl⟩
set_option maxHeartbeats 400000 in
theorem read_r (p : Nat) (v : Value) (left : Int) (st : Bool) (fs : List DF) (name : ByteArray) (w : World) (h : DBlk w p 79 v left st) (ho : Own w 83 v fs) (hn : fs.length ≤ 8388608) :
    Calls Tryd.prog 51 #[.pointer (some ⟨p, 0, none⟩), .string name] w fun e w' => e = .returned (.tuple #[.string (rd name fs), .bool (decide (0 ≤ fnd name fs))]) ∧ w' = w := by
  have h0 := h.c0
  have HF : Hid (Calls Tryd.prog 47 #[.pointer (some ⟨p, 0, none⟩), .string name] w fun e w' => e = .returned (.int .i64 (fnd name fs)) ∧ w' = w) := find_r p v left st fs name w h ho hn
  obtain ⟨a, cap, rfl, hc⟩ := ho.at
  clear h ho
  rcases fnd_cases name fs with ⟨hf, _⟩ | ⟨k, hk, hf⟩
  · have hr : Hid (rd name fs = ⟨#[]⟩) := rd_none hf
    rw [hf] at HF ⊢
    clear hc hf
    go_enter Tryd.func51, Tryd.ntmps51
    go_wp2_with fail
    refine HF.out.mono ?_
    rintro e w1 ⟨rfl, rfl⟩
    go_wp2_with fail
    go_ret2
    exact ⟨by rw [hr.out]; rfl, rfl⟩
  · have hr : Hid (rd name fs = fs[k].data) := rd_some hk hf
    obtain ⟨g, rfl, _, hd, _⟩ := hc k hk
    rw [hf] at HF ⊢
    rw [show decide (0 ≤ (k : Int)) = true by simp]
    clear hc hf
    generalize fs[k].data = D at hr hd
    have hkl : ((k : Int) < (fs.length : Int)) := by omega
    go_enter Tryd.func51, Tryd.ntmps51
    go_wp2_with fail
    refine HF.out.mono ?_
    rintro e w1 ⟨rfl, rfl⟩
    go_wp2_with fail
    go_ret2
    exact ⟨by rw [hr.out]; rfl, rfl⟩
set_option maxHeartbeats 400000 in
theorem new_d (w : World) : Calls Tryd.prog 19 #[] w fun e w' => e = .returned (.pointer (some ⟨w.heap.size, 0, none⟩)) ∧ w' = w.alloc (.cells (dcells (.slice none 0 0) (-1) false) 76) := by
  go_enter Tryd.func19, Tryd.ntmps19
  go_wp2_with fail
  go_ret
  exact ⟨rfl, rfl⟩
set_option maxHeartbeats 400000 in
theorem new_r (w : World) : Calls Tryd.prog 20 #[] w fun e w' => e = .returned (.pointer (some ⟨w.heap.size, 0, none⟩)) ∧ w' = w.alloc (.cells (dcells (.slice none 0 0) (-1) false) 79) := by
  go_enter Tryd.func20, Tryd.ntmps20
  go_wp2_with fail
  go_ret
  exact ⟨rfl, rfl⟩
end Go.Proofs.YtbdobaapadlcjaaDoor.Dk
