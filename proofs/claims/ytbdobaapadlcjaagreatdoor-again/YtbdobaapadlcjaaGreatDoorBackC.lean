/-
  A REQUEST COMES BACK OUT OF ITS BYTES.
-/
import Derived.Test.YtbdobaapadlcjaaGreatDoorBackA
import Derived.Test.YtbdobaapadlcjaaGreatDoorBackB
namespace Go.Proofs.YtbdobaapadlcjaaGreatDoor
set_option linter.unusedVariables false

theorem cp_right (r : Wp.Rq) (i : Nat) (hi : i ∈ opsAt) (he : erAll { r with op := 0 } (Wp.lay i) = opR 0) : (Wp.lay i).foldl (fun a f => cp a r f) (opR r.op) = r := by
  simp only [opsAt, List.mem_cons, List.not_mem_nil, or_false] at hi
  obtain ⟨op, q, d, vis, win, rcv, quo, mx, tic, grp, ded, bod, att, han⟩ := r
  rcases hi with rfl | rfl | rfl | rfl | rfl | rfl | rfl | rfl | rfl | rfl <;>
    (simp [Wp.lay, Wp.layTab, erAll, er, opR] at he; simp [Wp.lay, Wp.layTab, cp, opR, he])
theorem eb_right (x : Sl) (i : Nat) (hi : i ∈ opsAt) (h : (ebAll x (Wp.lay i)).n = 0) : i = 1 ∨ x.n = 0 := by
  simp only [opsAt, List.mem_cons, List.not_mem_nil, or_false] at hi
  rcases hi with rfl | rfl | rfl | rfl | rfl | rfl | rfl | rfl | rfl | rfl <;>
    (simp [Wp.lay, Wp.layTab, ebAll, eb] at h ⊢; try exact h)
/-- READING WHAT WAS WRITTEN, a list of fields. -/
theorem run_enc (r : Wp.Rq) (bs : List ByteArray) (q : List UInt8) (L : List Nat) (hL : ∀ f ∈ L, f < 15) (hall : L.all (r.fits bs.length (Wp.short bs)) = true) (t : St) (ht : t.s = BA (encL r bs L ++ q)) (hf : t.fl = false) :
    L.foldl stepSt t = ⟨L.foldl (fun a f => cp a r f) t.r, BA q, false, if 14 ∈ L then bs else t.bs⟩ := by
  induction L generalizing t with
  | nil =>
    obtain ⟨tr, ts, tf, tb⟩ := t
    simp only at ht hf
    subst ht hf
    rfl
  | cons f L ih =>
    rw [List.all_cons, Bool.and_eq_true] at hall
    have e : encL r bs (f :: L) ++ q = encF r bs f ++ (encL r bs L ++ q) := by
      have e1 : encL r bs (f :: L) = encF r bs f ++ encL r bs L := by simp [encL]
      rw [e1, List.append_assoc]
    rw [e] at ht
    obtain ⟨h1, h2, h3, h4⟩ := read_enc t.r r bs f (encL r bs L ++ q) t.fl (hL f List.mem_cons_self) hall.1
    rw [← ht] at h1 h2 h3 h4
    rw [List.foldl_cons, ih (fun g hg => hL g (List.mem_cons_of_mem _ hg)) hall.2 (stepSt t f) h2 (h3.trans hf)]
    have e2 : (stepSt t f).r = cp t.r r f := h1
    have e3 : (stepSt t f).bs = if f = 14 then bs else t.bs := by
      show (if f = 14 then rdT (nmN t.s 1) (lf t.s 1) else t.bs) = _
      by_cases h14 : f = 14
      · rw [if_pos h14, if_pos h14]; exact h4 h14
      · rw [if_neg h14, if_neg h14]
    rw [e2, e3, List.foldl_cons]
    congr 1
    by_cases h14 : f = 14
    · subst h14
      simp
    · have : (14 ∈ f :: L) = (14 ∈ L) := by simp [Ne.symm h14]
      rw [if_neg h14]
      by_cases hm : 14 ∈ L
      · rw [if_pos hm, if_pos (by rw [this]; exact hm)]
      · rw [if_neg hm, if_neg (by rw [this]; exact hm)]
theorem lay_fields (i : Nat) (hi : i ∈ opsAt) : ∀ f ∈ Wp.lay i, f < 15 := by
  have h2 : ∀ i ∈ opsAt, ∀ f ∈ Wp.lay i, f < 15 := by decide
  exact h2 i hi
/-- The bytes of a right request, with others behind them. -/
theorem end_enc (r : Wp.Rq) (x : Sl) (bs : List ByteArray) (q : List UInt8) (hw : Wf r) (hxn : x.n = bs.length) (h : rightW r x (Wp.short bs) = true) :
    endSt (BA (r.op :: encL r bs (Wp.lay (r.op.toNat - 65)) ++ q)) = ⟨r, BA q, false, bs⟩ ∧ opOf (BA (r.op :: encL r bs (Wp.lay (r.op.toNat - 65)) ++ q)) = r.op := by
  obtain ⟨i, hi, hop, hall, her, heb⟩ := (right_iff r x _ hw).1 h
  rw [hop, Nat.add_sub_cancel_left]
  have ho : opOf (BA (r.op :: encL r bs (Wp.lay i) ++ q)) = r.op := nm_byte r.op (encL r bs (Wp.lay i) ++ q)
  have h1 : lf (BA (r.op :: encL r bs (Wp.lay i) ++ q)) 1 = BA (encL r bs (Wp.lay i) ++ q) := lf_app [r.op] (encL r bs (Wp.lay i) ++ q)
  have h2 : bad (BA (r.op :: encL r bs (Wp.lay i) ++ q)) false 1 = false := bad_app [r.op] (encL r bs (Wp.lay i) ++ q) false
  refine ⟨?_, ho⟩
  unfold endSt runSt
  rw [ho, hop, Nat.add_sub_cancel_left, h1, h2]
  rw [hxn] at hall
  rw [run_enc r bs q (Wp.lay i) (lay_fields i hi) hall _ rfl rfl, cp_right r i hi her]
  congr 1
  by_cases h14 : 14 ∈ Wp.lay i
  · rw [if_pos h14]
  · rw [if_neg h14]
    rcases eb_right x i hi heb with rfl | hn
    · exact absurd (by decide) h14
    · rw [hxn] at hn
      exact (List.length_eq_zero_iff.1 hn).symm
theorem good_enc (r : Wp.Rq) (x : Sl) (bs : List ByteArray) (q : List UInt8) (hw : Wf r) (hxn : x.n = bs.length) (h : rightW r x (Wp.short bs) = true) :
    parseGood (BA (r.op :: encL r bs (Wp.lay (r.op.toNat - 65)) ++ q)) = q.isEmpty := by
  obtain ⟨h1, h2⟩ := end_enc r x bs q hw hxn h
  have hop : Wp.isOp r.op = true := by
    unfold rightW at h
    rw [Bool.and_eq_true] at h
    exact h.1
  unfold parseGood
  rw [h1, h2, hop, ← rightW_n r x ⟨none, bs.length, 0⟩ (Wp.short bs) hxn, h]
  show (true && (!false && ((BA q).toList.isEmpty && true))) = _
  rw [ByteArray.toList_eq, BA_list]
  simp
end Go.Proofs.YtbdobaapadlcjaaGreatDoor
