/-
  WRITING WHAT WAS READ, the whole.
-/
import Derived.Test.YtbdobaapadlcjaaGreatDoorBackD
namespace Go.Proofs.YtbdobaapadlcjaaGreatDoor
set_option linter.unusedVariables false

set_option maxHeartbeats 2000000 in
/-- To set another field leaves a field's bytes. -/
theorem enc_set (r : Wp.Rq) (s : ByteArray) (bs : List ByteArray) (f g : Nat) (hf : f < 15) (hg : g < 15) (h : offOf g ≠ offOf f) : encF (setR r s g) bs f = encF r bs f := by
  have hx : f = 0 ∨ f = 1 ∨ f = 2 ∨ f = 3 ∨ f = 4 ∨ f = 5 ∨ f = 6 ∨ f = 7 ∨ f = 8 ∨ f = 9 ∨ f = 10 ∨ f = 11 ∨ f = 12 ∨ f = 13 ∨ f = 14 := by omega
  have hy : g = 0 ∨ g = 1 ∨ g = 2 ∨ g = 3 ∨ g = 4 ∨ g = 5 ∨ g = 6 ∨ g = 7 ∨ g = 8 ∨ g = 9 ∨ g = 10 ∨ g = 11 ∨ g = 12 ∨ g = 13 ∨ g = 14 := by omega
  rcases hx with rfl | rfl | rfl | rfl | rfl | rfl | rfl | rfl | rfl | rfl | rfl | rfl | rfl | rfl | rfl <;>
    rcases hy with rfl | rfl | rfl | rfl | rfl | rfl | rfl | rfl | rfl | rfl | rfl | rfl | rfl | rfl | rfl <;>
    first | rfl | exact absurd rfl h
theorem enc_keep (L : List Nat) (t : St) (bs : List ByteArray) (f : Nat) (hf : f < 15) (hL : ∀ g ∈ L, g < 15 ∧ offOf g ≠ offOf f) : encF (L.foldl stepSt t).r bs f = encF t.r bs f := by
  induction L generalizing t with
  | nil => rfl
  | cons g L ih =>
    have hg := hL g List.mem_cons_self
    rw [List.foldl_cons, ih _ (fun a ha => hL a (List.mem_cons_of_mem _ ha))]
    exact enc_set t.r t.s bs f g hf hg.1 hg.2
theorem bs_keep (L : List Nat) (t : St) (h : 14 ∉ L) : (L.foldl stepSt t).bs = t.bs := by
  induction L generalizing t with
  | nil => rfl
  | cons g L ih =>
    rw [List.foldl_cons, ih _ (fun ha => h (List.mem_cons_of_mem _ ha))]
    show (if g = 14 then _ else t.bs) = t.bs
    rw [if_neg (fun e => h (by rw [e]; exact List.mem_cons_self))]
theorem enc_bs (r : Wp.Rq) (bs cs : List ByteArray) (f : Nat) (hf : f < 14) : encF r bs f = encF r cs f := by
  have hx : f = 0 ∨ f = 1 ∨ f = 2 ∨ f = 3 ∨ f = 4 ∨ f = 5 ∨ f = 6 ∨ f = 7 ∨ f = 8 ∨ f = 9 ∨ f = 10 ∨ f = 11 ∨ f = 12 ∨ f = 13 := by omega
  rcases hx with rfl | rfl | rfl | rfl | rfl | rfl | rfl | rfl | rfl | rfl | rfl | rfl | rfl | rfl <;> rfl
theorem write_run (L : List Nat) (t : St) (hL : ∀ f ∈ L, f < 15) (hd : L.Pairwise fun a b => offOf a ≠ offOf b) (h : (L.foldl stepSt t).fl = false) :
    t.fl = false ∧ t.s.data.toList = encL (L.foldl stepSt t).r (L.foldl stepSt t).bs L ++ (L.foldl stepSt t).s.data.toList := by
  induction L generalizing t with
  | nil => exact ⟨h, rfl⟩
  | cons f L ih =>
    rw [List.pairwise_cons] at hd
    have hf := hL f List.mem_cons_self
    rw [List.foldl_cons] at h ⊢
    obtain ⟨h1, h2⟩ := ih (stepSt t f) (fun g hg => hL g (List.mem_cons_of_mem _ hg)) hd.2 h
    have h3 : stF t.s t.fl f = false := h1
    obtain ⟨h4, h5⟩ := write_read t.s t.fl t.r (L.foldl stepSt (stepSt t f)).bs f hf h3
    refine ⟨h4, ?_⟩
    have e : encL (L.foldl stepSt (stepSt t f)).r (L.foldl stepSt (stepSt t f)).bs (f :: L) = encF (L.foldl stepSt (stepSt t f)).r (L.foldl stepSt (stepSt t f)).bs f ++ encL (L.foldl stepSt (stepSt t f)).r (L.foldl stepSt (stepSt t f)).bs L := by simp [encL]
    have hk := enc_keep L (stepSt t f) (L.foldl stepSt (stepSt t f)).bs f hf (fun g hg => ⟨hL g (List.mem_cons_of_mem _ hg), Ne.symm (hd.1 g hg)⟩)
    rw [e, List.append_assoc, ← h2, hk]
    rw [h5]
    congr 1
    by_cases h14 : f = 14
    · subst h14
      have hn : 14 ∉ L := fun hm => hd.1 14 hm rfl
      have hb := bs_keep L (stepSt t 14) hn
      rw [hb]
      rfl
    · rw [if_neg h14]; rfl
theorem lay_apart (i : Nat) (hi : i ∈ opsAt) : (Wp.lay i).Pairwise fun a b => offOf a ≠ offOf b := by
  have h : ∀ i ∈ opsAt, (Wp.lay i).Pairwise fun a b => offOf a ≠ offOf b := by decide
  exact h i hi
theorem ite_op {c : Prop} [Decidable c] {a b : Wp.Rq} {o : UInt8} (ha : a.op = o) (hb : b.op = o) : (if c then a else b).op = o := by
  by_cases h : c
  · rw [if_pos h]; exact ha
  · rw [if_neg h]; exact hb
theorem op_keep (L : List Nat) (t : St) : (L.foldl stepSt t).r.op = t.r.op := by
  induction L generalizing t with
  | nil => rfl
  | cons g L ih =>
    rw [List.foldl_cons, ih]
    show (setR t.r t.s g).op = t.r.op
    unfold setR
    repeat' (refine ite_op ?_ ?_)
    all_goals rfl
/-- BYTES THAT ARE THOSE OF A RIGHT REQUEST ARE THE BYTES OF WHAT WAS READ. -/
theorem good_bytes (s : ByteArray) (h : parseGood s = true) : s = BA ((endSt s).r.op :: encL (endSt s).r (endSt s).bs (Wp.lay ((endSt s).r.op.toNat - 65))) ∧ (endSt s).r.op = opOf s ∧ rightW (endSt s).r ⟨none, (endSt s).bs.length, 0⟩ (Wp.short (endSt s).bs) = true := by
  unfold parseGood at h
  simp only [Bool.and_eq_true] at h
  obtain ⟨h1, h2, h3, h4⟩ := h
  obtain ⟨i, hi, hop⟩ := (isOp_at _).1 h1
  have hr : (endSt s).r.op = opOf s := op_keep _ _
  refine ⟨?_, hr, h4⟩
  rw [hr, hop, Nat.add_sub_cancel_left]
  have he : endSt s = runSt s (Wp.lay i) := by rw [endSt, hop, Nat.add_sub_cancel_left]
  have hfl : (endSt s).fl = false := by simpa using h2
  have hem := (empty_iff _).1 h3
  rw [he] at hfl hem
  obtain ⟨h5, h6⟩ := write_run (Wp.lay i) ⟨opR (opOf s), lf s 1, bad s false 1, []⟩ (lay_fields i hi) (lay_apart i hi) hfl
  have hb := bad_false (show bad s false 1 = false from h5)
  apply ext_list
  rw [BA_list, he]
  have e1 := take_lf s 1 hb.2
  have e2 : (tk s 1).data.toList = [opOf s] := (byte_taken s hb.2).symm
  have e3 : (lf s 1).data.toList = encL (runSt s (Wp.lay i)).r (runSt s (Wp.lay i)).bs (Wp.lay i) ++ (runSt s (Wp.lay i)).s.data.toList := h6
  rw [e1, e2, e3, hem]
  simp
end Go.Proofs.YtbdobaapadlcjaaGreatDoor
