/-
  create (25) at a broker without a queue a: what is there afterwards.
-/
import Derived.Test.YtbdobaapadlcjaaGreatDoorTkC
import Derived.Test.YtbdobaapadlcjaaGreatDoorTkE
namespace Go.Proofs.YtbdobaapadlcjaaGreatDoor
open Go.RowKit
set_option linter.unusedVariables false

theorem Brk.tch {w w' : World} {st b : Nat} {now : Int} {q : Value} (h : Brk w st b now q) {S : List Nat} (ht : Tch S w w') (h2 : st ∉ S) (h3 : ∀ i, b + i ∉ S) : Brk w' st b now q :=
  ⟨(ht.block _ (lt_of_block h.hst) h2).trans h.hst, h.tb.tch ht h3⟩
theorem Tbl.fr {B : Nat} {T : List TypeId} {w w' : World} {b : Nat} (h : Tbl w b) (hf : Fr B T w w') (hT : 221 ∉ T) : Tbl w' b := fun i f hi => hf.keep _ _ _ (h i f hi) hT

theorem eg140 : ∀ args w, (callFunc 201 args).run Tryz.prog w = .ok (.enter 201 args) w := enters_of Tryz.func201 (by kernel_rfl) rfl

abbrev newQ (r : Wp.Rq) : Array Value := qC r 1 (.slice none 0 0) (.slice none 0 0) (.slice none 0 0) (.slice none 0 0)
/-- The types of what a broker writes. -/
abbrev TB : List TypeId := [143, 110, 116, 156, 191, 226, 230, 9]
theorem TJB : ∀ t ∈ TJ, t ∈ TB := by decide
theorem Lays.fr {B : Nat} {T : List TypeId} {w w' : World} (h : Lays B w) (hf : Fr B T w w') : Lays B w' := h.below hf.below
theorem Tab.fr {B : Nat} {T : List TypeId} {w w' : World} (h : Tab w) (hf : Fr B T w w') (h3 : 3 ≤ B) : Tab w' := h.below (B := 3) (hf.below.mono h3) (by decide)
/-- One block of a type of the list is written. -/
theorem Fr.one {B : Nat} {T : List TypeId} {w w' : World} {st : Nat} {C : Array Value} {t : TypeId} (ht : Tch [st] w w') (hB : B ≤ w.heap.size) (hlo : B ≤ st) (hst : w.heap[st]? = some (.cells C t (0, 0))) (hT : t ∈ T) : Fr B T w w' :=
  Fr.of_tch ht hB (by simpa using hlo) (fun k hk C' t' h => by
    simp at hk
    subst hk
    rw [hst] at h
    simp at h
    rw [← h.2]
    exact hT)

theorem encF_l0 (r : Wp.Rq) (bs : List ByteArray) (f : Nat) (h : Wp.shape f = 0) : (encF r bs f).length = 1 := by unfold encF; rw [if_pos h]; rfl
theorem encF_l1 (r : Wp.Rq) (bs : List ByteArray) (f : Nat) (h : Wp.shape f = 1) : (encF r bs f).length = 1 := by
  unfold encF
  rw [if_neg (by rw [h]; decide), if_pos h, lowB_length]
theorem encF_l2 (r : Wp.Rq) (bs : List ByteArray) (f : Nat) (h : Wp.shape f = 2) : (encF r bs f).length = 2 := by
  unfold encF
  rw [if_neg (by rw [h]; decide), if_neg (by rw [h]; decide), if_pos h, lowB_length]
theorem encF_l3 (r : Wp.Rq) (bs : List ByteArray) (f : Nat) (h : Wp.shape f = 3) : (encF r bs f).length = 1 + (r.txt f).size := by
  unfold encF
  rw [if_neg (by rw [h]; decide), if_neg (by rw [h]; decide), if_neg (by rw [h]; decide), if_pos h, txtB_length]
theorem small_C (r : Wp.Rq) (hright : rightW r nil0 (Wp.short []) = true) (hop : r.op = 67) : (printS r nil0 []).size ≤ 300 := by
  rw [(print_bytes r nil0 [] hright).1, BA_size, List.append_nil, List.length_cons, show Wp.lay (r.op.toNat - 65) = [0, 2, 3, 4, 1, 5] by rw [hop]; rfl]
  simp only [encL, List.flatMap_cons, List.flatMap_nil, List.length_append, List.length_nil]
  rw [encF_l0 _ _ 0 rfl, encF_l2 _ _ 2 rfl, encF_l2 _ _ 3 rfl, encF_l1 _ _ 4 rfl, encF_l0 _ _ 1 rfl, encF_l1 _ _ 5 rfl]
  decide
theorem small_T (r : Wp.Rq) (hright : rightW r nil0 (Wp.short []) = true) (hop : r.op = 84) : (printS r nil0 []).size ≤ 300 := by
  rw [(print_bytes r nil0 [] hright).1, BA_size, List.append_nil, List.length_cons, show Wp.lay (r.op.toNat - 65) = [8] by rw [hop]; rfl]
  simp only [encL, List.flatMap_cons, List.flatMap_nil, List.length_append, List.length_nil]
  rw [encF_l2 _ _ 8 rfl]
  decide
theorem small_S (r : Wp.Rq) (hright : rightW r nil0 (Wp.short []) = true) (hop : r.op = 83) (h1 : r.grp.size ≤ 20) (h2 : r.ded.size ≤ 20) (h3 : r.bod.size ≤ 200) : (printS r nil0 []).size ≤ 300 := by
  rw [(print_bytes r nil0 [] hright).1, BA_size, List.append_nil, List.length_cons, show Wp.lay (r.op.toNat - 65) = [0, 9, 10, 11] by rw [hop]; rfl]
  simp only [encL, List.flatMap_cons, List.flatMap_nil, List.length_append, List.length_nil]
  rw [encF_l0 _ _ 0 rfl, encF_l3 _ _ 9 rfl, encF_l3 _ _ 10 rfl, encF_l3 _ _ 11 rfl]
  show 1 + (1 + r.grp.size + (1 + r.ded.size + (1 + r.bod.size + 0))) + 1 ≤ 300
  omega

theorem create_C (B m : Nat) (r : Wp.Rq) (x st b : Nat) (w : World) (hw : Wf r) (hright : rightW r nil0 (Wp.short []) = true) (hop : r.op = 67) (hq : r.q = 97) (hsm : (printS r nil0 []).size ≤ 300) (hL : Lays B w) (hT : Tab w) (hBw : B ≤ w.heap.size) (h3 : 3 ≤ B) (hm : m ≤ 24) (hJ : Jn true B (m + 1) w x st) (hB : Brk w st b 0 (.pointer none)) (hlo : B ≤ st) :
    Calls Tryz.prog 25 #[.pointer (some ⟨x, 0, none⟩), .agg (cellsOf r nil0.v)] w fun e w' => e = .returned (.bool true) ∧ Fr B TB w w' ∧ Jn false B m w' x st ∧
      ∃ qb, B ≤ qb ∧ Brk w' st b 0 (.pointer (some ⟨qb, 0, none⟩)) ∧ w'.heap[qb]? = some (.cells (newQ r) 191 (0, 0)) := by
  refine create_walk (fun w' => Fr B TB w w' ∧ Jn false B m w' x st ∧ ∃ qb, B ≤ qb ∧ Brk w' st b 0 (.pointer (some ⟨qb, 0, none⟩)) ∧ w'.heap[qb]? = some (.cells (newQ r) 191 (0, 0))) B r x w hright hL hBw ?_
  intro W hb
  obtain ⟨hg, hr, _⟩ := print_good r nil0 [] hw rfl hright
  have hsz := print_size r nil0 [] hw rfl hright
  have tb := Tch.of_below hb
  have hBW : Brk W st b 0 (.pointer none) := hB.tch tb (by simp) (by simp)
  have hlt := lt_of_block hBW.hst
  have hBw2 : B ≤ W.heap.size := Nat.le_trans hBw hb.size
  refine (bdo_walk true (fun t w' => t = ⟨#[0]⟩ ∧ Fr B TB w w' ∧ Jn false B m w' x st ∧ ∃ qb, B ≤ qb ∧ Brk w' st b 0 (.pointer (some ⟨qb, 0, none⟩)) ∧ w'.heap[qb]? = some (.cells (newQ r) 191 (0, 0))) B m (printS r nil0 []) r x st _ W hsm (hL.below (hb.mono hBw)) (hT.fr (Fr.of_nil (B := B) [] tb hBw) h3) hBw2 h3 hg hr (hJ.tch tb) hm hBW.hst ?_ ?_).mono ?_
  · intro _ W1 S ht hS
    exact whole_none st b W1 ((ht.block _ hlt hS).trans hBW.hst)
  · intro W1 y ht1
    have hst1 := (ht1.block _ hlt (by simp)).trans hBW.hst
    refine (plan_C r y st b 0 W1 hop hq hst1).mono ?_
    rintro e w1 ⟨gr, gs, rfl, ht2, hgr, hgs⟩
    refine ⟨ht2, ⟨#[0]⟩, .inr ⟨201, _, rfl, eg140, ?_⟩⟩
    intro w2 w3 h1 h2 h4
    have t2 : Tch [] w w2 := ((tb.trans ht1 (by simp)).trans ht2 (by simp)).trans h1 (by simp)
    have kp : ∀ (j : Nat) (C : Array Value) (t : TypeId), w1.heap[j]? = some (.cells C t (0, 0)) → t ∉ TJ → w3.heap[j]? = some (.cells C t (0, 0)) := fun j C t hj hT => h2.keep j C t ((h1.block j (lt_of_block hj) (by simp)).trans hj) hT
    have hst3 := kp _ _ _ ((ht2.block _ (lt_of_block hst1) (by simp)).trans hst1) (by decide)
    have hb3 : Tbl w3 b := (hBW.tb.tch ((ht1.trans ht2 (by simp)).trans h1 (by simp)) (by simp)).fr h2 (by decide)
    have f3 : Fr B TB w w3 := (Fr.of_nil TB t2 hBw).trans (h2.mono TJB)
    have z3 := f3.size
    refine (made_any r y gr gs st b 0 w3 hq hst3 (kp _ _ _ hgr (by decide)) (kp _ _ _ hgs (by decide))).mono ?_
    rintro e w4 ⟨rfl, ht3, hs3, hst4, hq4⟩
    have f4 : Fr B [156] w3 w4 := Fr.one ht3 (by omega) hlo hst3 (by decide)
    exact ⟨rfl, rfl, f3.trans (f4.mono (by decide)), h4.keep f4 (by decide) (by decide) (by decide) (by decide), _, by omega, ⟨hst4, hb3.fr f4 (by decide)⟩, hq4⟩
  · rintro e w' ⟨t, rfl, rfl, h⟩
    exact ⟨rfl, h⟩
end Go.Proofs.YtbdobaapadlcjaaGreatDoor
