/-
  DISKS: names in their order, in plain mathematics.
-/
import Derived.Test.YtbdobaapadlcjaaDoorDkB
import Derived.WideAt
import Derived.WideShapes
namespace Go.Proofs.YtbdobaapadlcjaaDoor.Dk
set_option linter.unusedVariables false

theorem less_before : ∀ (a b : List UInt8), Op.bytesLess a b = bytesBefore a b
  | [], [] => rfl
  | _ :: _, [] => rfl
  | [], _ :: _ => rfl
  | a :: x, b :: y => by rw [Op.bytesLess, bytesBefore, less_before x y]
/-- Is a name ahead of another? -/
def lt (x y : ByteArray) : Bool := Op.bytesLess x.toList y.toList
theorem lt_irrefl (x : ByteArray) : lt x x = false := by unfold lt; rw [less_before]; exact WideAt.bytes_irrefl _
theorem lt_trans {x y z : ByteArray} (h1 : lt x y = true) (h2 : lt y z = true) : lt x z = true := by
  unfold lt at *
  rw [less_before] at *
  exact WideShapes.bytes_trans _ _ _ h1 h2
theorem lt_asymm {x y : ByteArray} (h1 : lt x y = true) : lt y x = false := by
  cases h : lt y x with
  | false => rfl
  | true => have := lt_trans h1 h; rw [lt_irrefl] at this; cases this
theorem lt_gt (e x : ByteArray) : (!(Op.bytesLess e.toList x.toList || e.toList == x.toList)) = lt x e := by
  by_cases h : e.toList = x.toList
  · have h1 : lt x e = false := by unfold lt; rw [h, less_before]; exact WideAt.bytes_irrefl _
    rw [h1, h]; simp
  · have h2 : (e.toList == x.toList) = false := by simpa using h
    rw [h2, Bool.or_false]
    rcases WideAt.bytes_total _ _ h with h3 | h3
    · have h4 : lt e x = true := by unfold lt; rw [less_before]; exact h3
      rw [lt_asymm h4]
      show (!lt e x) = false
      rw [h4]; rfl
    · have h4 : lt x e = true := by unfold lt; rw [less_before]; exact h3
      rw [h4]
      show (!lt e x) = true
      rw [lt_asymm h4]; rfl
theorem lt_le {x a b : ByteArray} (h1 : lt x a = true) (h2 : lt b a = false) : lt x b = true := by
  by_cases h : a.toList = b.toList
  · unfold lt at *; rw [← h]; exact h1
  · rcases WideAt.bytes_total _ _ h with h3 | h3
    · exact lt_trans h1 (by unfold lt; rw [less_before]; exact h3)
    · have h4 : lt b a = true := by unfold lt; rw [less_before]; exact h3
      rw [h4] at h2; cases h2

/-- A name among names that rise. -/
def insN (x : ByteArray) (l : List ByteArray) : List ByteArray := l.takeWhile (fun e => !lt x e) ++ x :: l.dropWhile (fun e => !lt x e)
def Srt (l : List ByteArray) : Prop := l.Pairwise (fun a b => lt b a = false)
theorem insN_len (x : ByteArray) (l : List ByteArray) : (insN x l).length = l.length + 1 := by
  unfold insN
  rw [List.length_append, List.length_cons]
  have h := congrArg List.length (List.takeWhile_append_dropWhile (p := fun e => !lt x e) (l := l))
  rw [List.length_append] at h
  omega
theorem insN_none {x : ByteArray} {l : List ByteArray} (h : ∀ e ∈ l, lt x e = false) : insN x l = l ++ [x] := by
  induction l with
  | nil => rfl
  | cons a l ih =>
    have h1 := h a (by simp)
    have h2 := ih (fun e he => h e (by simp [he]))
    unfold insN at h2 ⊢
    simp only [List.takeWhile_cons, List.dropWhile_cons, h1, Bool.not_false, if_true, List.cons_append]
    rw [h2]
theorem insN_split {x : ByteArray} {a b : List ByteArray} (ha : ∀ e ∈ a, lt x e = false) (hb : b = [] ∨ ∃ e r, b = e :: r ∧ lt x e = true) : insN x (a ++ b) = a ++ x :: b := by
  rcases hb with rfl | ⟨e, r, rfl, he⟩
  · rw [List.append_nil]; exact insN_none ha
  · unfold insN
    have h0 : ∀ c ∈ a, (!lt x c) = true := fun c hc => by rw [ha c hc]; rfl
    rw [List.takeWhile_append_of_pos h0, List.dropWhile_append_of_pos h0]
    simp [he]
theorem insN_at {x : ByteArray} {l : List ByteArray} (hs : Srt l) (k : Nat) (hk : k ≤ l.length) (hd : ∀ e ∈ l.drop k, lt x e = true) (ht : ∀ (h : 0 < k), lt x (l[k - 1]'(by omega)) = false) : insN x l = l.take k ++ x :: l.drop k := by
  have h := insN_split (x := x) (a := l.take k) (b := l.drop k) ?_ ?_
  · rw [List.take_append_drop] at h; exact h
  · intro e he
    obtain ⟨j, hj, rfl⟩ := List.getElem_of_mem he
    rw [List.length_take] at hj
    rw [List.getElem_take]
    cases hx : lt x (l[j]'(by omega)) with
    | false => rfl
    | true =>
      have h1 := ht (by omega)
      by_cases e : j = k - 1
      · subst e; rw [hx] at h1; exact h1
      · have h2 := List.pairwise_iff_getElem.1 hs j (k - 1) (by omega) (by omega) (by omega)
        rw [lt_le hx h2] at h1
        cases h1
  · cases hb : l.drop k with
    | nil => exact .inl rfl
    | cons e r => exact .inr ⟨e, r, rfl, hd e (by rw [hb]; simp)⟩
theorem insN_srt (x : ByteArray) (l : List ByteArray) (h : Srt l) : Srt (insN x l) := by
  unfold insN Srt at *
  have h1 : l.takeWhile (fun e => !lt x e) ++ l.dropWhile (fun e => !lt x e) = l := List.takeWhile_append_dropWhile
  rw [← h1, List.pairwise_append] at h
  obtain ⟨ha, hb, hc⟩ := h
  have ht : ∀ e ∈ l.takeWhile (fun e => !lt x e), lt x e = false := fun e he => by
    have := List.all_eq_true.1 (List.all_takeWhile (p := fun e => !lt x e) (l := l)) e he
    simpa using this
  have hd : ∀ e ∈ l.dropWhile (fun e => !lt x e), lt x e = true := fun e he => by
    cases hr : l.dropWhile (fun e => !lt x e) with
    | nil => rw [hr] at he; cases he
    | cons f r =>
      have hf : lt x f = true := by
        have := List.head?_dropWhile_not (p := fun e => !lt x e) (l := l)
        rw [hr] at this
        simpa using this
      rw [hr] at he hb
      rcases List.mem_cons.1 he with rfl | he
      · exact hf
      · exact lt_le hf ((List.pairwise_cons.1 hb).1 e he)
  rw [List.pairwise_append]
  refine ⟨ha, ?_, ?_⟩
  · rw [List.pairwise_cons]
    exact ⟨fun e he => lt_asymm (hd e he), hb⟩
  · intro a haa b hbb
    rcases List.mem_cons.1 hbb with rfl | hbb
    · exact ht a haa
    · exact hc a haa b hbb
/-- The names of files, rising. -/
def nmS (fs : List DF) : List ByteArray := fs.foldl (fun l f => insN f.name l) []
theorem nmS_snoc (fs : List DF) (f : DF) : nmS (fs ++ [f]) = insN f.name (nmS fs) := by unfold nmS; rw [List.foldl_append]; rfl
theorem fold_srt (fs : List DF) (l : List ByteArray) (h : Srt l) : Srt (fs.foldl (fun l f => insN f.name l) l) := by
  induction fs generalizing l with
  | nil => exact h
  | cons f fs ih => exact ih _ (insN_srt _ _ h)
theorem nmS_srt (fs : List DF) : Srt (nmS fs) := fold_srt fs [] List.Pairwise.nil
theorem fold_len (fs : List DF) (l : List ByteArray) : (fs.foldl (fun l f => insN f.name l) l).length = l.length + fs.length := by
  induction fs generalizing l with
  | nil => rfl
  | cons f fs ih => rw [List.foldl_cons, ih, insN_len, List.length_cons]; omega
theorem nmS_len (fs : List DF) : (nmS fs).length = fs.length := by unfold nmS; rw [fold_len]; simp
end Go.Proofs.YtbdobaapadlcjaaDoor.Dk
