/-
  THE BYTES OF A RIGHT REQUEST: with a byte less, or one more, they are no request's.
-/
import Derived.Test.YtbdobaapadlcjaaGreatDoorBackE
namespace Go.Proofs.YtbdobaapadlcjaaGreatDoor
set_option linter.unusedVariables false

theorem i64_nat (n : Nat) (h : n < 65536) : i64 (n : Int) := by unfold i64; omega
theorem set_wf (r : Wp.Rq) (s : ByteArray) (f : Nat) (h : Wf r) : Wf (setR r s f) := by
  have hz : i64 ((nmN s 1 : Nat) : Int) := i64_nat _ (by have := nm1 s; omega)
  have hy : i64 ((nmN s 2 : Nat) : Int) := i64_nat _ (nm2 s)
  obtain ⟨h1, h2, h3, h4, h5, h6⟩ := h
  unfold setR
  repeat' (refine ite_wf ?_ ?_)
  all_goals exact ⟨by first | exact h1 | exact hz | exact hy, by first | exact h2 | exact hz | exact hy, by first | exact h3 | exact hz | exact hy, by first | exact h4 | exact hz | exact hy, by first | exact h5 | exact hz | exact hy, by first | exact h6 | exact hz | exact hy⟩
theorem run_wf (L : List Nat) (t : St) (h : Wf t.r) : Wf (L.foldl stepSt t).r := by
  induction L generalizing t with
  | nil => exact h
  | cons f L ih => exact ih _ (set_wf _ _ _ h)
theorem end_wf (s : ByteArray) : Wf (endSt s).r := by
  have hz : i64 0 := by unfold i64; omega
  exact run_wf _ _ ⟨hz, hz, hz, hz, hz, hz⟩

theorem print_bytes (r : Wp.Rq) (x : Sl) (bs : List ByteArray) (h : rightW r x (Wp.short bs) = true) : printS r x bs = BA (r.op :: encL r bs (Wp.lay (r.op.toNat - 65)) ++ []) ∧ printE r x bs = 0 := by
  rw [List.append_nil]
  exact ⟨by rw [printS, if_pos h]; rfl, by rw [printE, if_pos h]⟩
theorem print_none (r : Wp.Rq) (x : Sl) (bs : List ByteArray) (h : rightW r x (Wp.short bs) = false) : printS r x bs = ⟨#[]⟩ ∧ printE r x bs = 1 := by
  exact ⟨by rw [printS, h]; rfl, by rw [printE, h]; rfl⟩
theorem print_good (r : Wp.Rq) (x : Sl) (bs : List ByteArray) (hw : Wf r) (hxn : x.n = bs.length) (h : rightW r x (Wp.short bs) = true) :
    parseGood (printS r x bs) = true ∧ (endSt (printS r x bs)).r = r ∧ (endSt (printS r x bs)).bs = bs := by
  rw [(print_bytes r x bs h).1]
  refine ⟨good_enc r x bs [] hw hxn h, ?_, ?_⟩
  · rw [(end_enc r x bs [] hw hxn h).1]
  · rw [(end_enc r x bs [] hw hxn h).1]
theorem print_size (r : Wp.Rq) (x : Sl) (bs : List ByteArray) (hw : Wf r) (hxn : x.n = bs.length) (h : rightW r x (Wp.short bs) = true) : 1 ≤ (printS r x bs).size ∧ (printS r x bs).size ≤ 1000000 := by
  rw [(print_bytes r x bs h).1, BA_size, List.append_nil, List.length_cons]
  obtain ⟨i, hi, hop, hall, _, _⟩ := (right_iff r x _ hw).1 h
  rw [hop, Nat.add_sub_cancel_left]
  rw [hxn] at hall
  have h1 := encL_length r bs (Wp.lay i) (lay_fields i hi) hall
  have h2 : ∀ i ∈ opsAt, (Wp.lay i).length ≤ 6 := by decide
  have h3 := h2 i hi
  omega
theorem more_bad (r : Wp.Rq) (x : Sl) (bs : List ByteArray) (hw : Wf r) (hxn : x.n = bs.length) (h : rightW r x (Wp.short bs) = true) (T : ByteArray) (hT : T.data.toList = (printS r x bs).data.toList ++ [0]) : parseGood T = false := by
  have e : T = BA (r.op :: encL r bs (Wp.lay (r.op.toNat - 65)) ++ [0]) := by
    apply ext_list
    rw [hT, (print_bytes r x bs h).1, BA_list, BA_list, List.append_nil]
  rw [e]
  exact good_enc r x bs [0] hw hxn h
theorem less_bad (r : Wp.Rq) (x : Sl) (bs : List ByteArray) (hw : Wf r) (hxn : x.n = bs.length) (h : rightW r x (Wp.short bs) = true) (T : ByteArray) (c : UInt8) (hT : (printS r x bs).data.toList = T.data.toList ++ [c]) : parseGood T = false := by
  rw [Bool.eq_false_iff]
  intro hg
  obtain ⟨h1, h2, h3⟩ := good_bytes T hg
  have h4 := good_enc (endSt T).r ⟨none, (endSt T).bs.length, 0⟩ (endSt T).bs [c] (end_wf T) rfl h3
  have e : printS r x bs = BA ((endSt T).r.op :: encL (endSt T).r (endSt T).bs (Wp.lay ((endSt T).r.op.toNat - 65)) ++ [c]) := by
    apply ext_list
    rw [hT, BA_list, h1, BA_list, ← h1]
  rw [← e, (print_good r x bs hw hxn h).1] at h4
  cases h4
theorem print_of_good (s : ByteArray) (x : Sl) (hg : parseGood s = true) (hxn : x.n = (endSt s).bs.length) : printS (endSt s).r x (endSt s).bs = s ∧ printE (endSt s).r x (endSt s).bs = 0 := by
  obtain ⟨h1, h2, h3⟩ := good_bytes s hg
  have h4 : rightW (endSt s).r x (Wp.short (endSt s).bs) = true := by rw [rightW_n _ x ⟨none, (endSt s).bs.length, 0⟩ _ hxn]; exact h3
  have h5 := print_bytes (endSt s).r x (endSt s).bs h4
  rw [List.append_nil, ← h1] at h5
  exact h5
end Go.Proofs.YtbdobaapadlcjaaGreatDoor
