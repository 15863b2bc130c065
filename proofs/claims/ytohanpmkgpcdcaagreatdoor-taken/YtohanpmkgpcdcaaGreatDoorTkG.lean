/-
  create (25) at a broker without a queue a: what is there afterwards.
-/
import Derived.Test.YtohanpmkgpcdcaaGreatDoorTkC
import Derived.Test.YtohanpmkgpcdcaaGreatDoorTkE
namespace Go.Proofs.YtohanpmkgpcdcaaGreatDoor
open Go.RowKit

theorem Brk.ne {w : World} {x st b : Nat} {now : Int} {q : Value} (h : Brk w x st b now q) : x ≠ st ∧ b + 3 ≠ st := by
  refine ⟨fun e => ?_, fun e => ?_⟩
  · have h1 := h.hx
    rw [e, h.hst] at h1
    simp at h1
  · have h1 := h.hb
    rw [e, h.hst] at h1
    simp at h1
theorem Brk.tch {w w' : World} {x st b : Nat} {now : Int} {q : Value} (h : Brk w x st b now q) {S : List Nat} (ht : Tch S w w') (h1 : x ∉ S) (h2 : st ∉ S) (h3 : b + 3 ∉ S) : Brk w' x st b now q :=
  ⟨(ht.block _ (lt_of_block h.hx) h1).trans h.hx, (ht.block _ (lt_of_block h.hst) h2).trans h.hst, (ht.block _ (lt_of_block h.hb) h3).trans h.hb⟩

theorem eg140 : ∀ args w, (callFunc 140 args).run Tryz.prog w = .ok (.enter 140 args) w := enters_of Tryz.func140 (by kernel_rfl) rfl

abbrev newQ (r : Wp.Rq) : Array Value := qC r 1 (.slice none 0 0) (.slice none 0 0) (.slice none 0 0) (.slice none 0 0)

theorem create_C (B : Nat) (r : Wp.Rq) (x st b : Nat) (now : Int) (w : World) (hw : Wf r) (hright : rightW r nil0 (Wp.short []) = true) (hop : r.op = 67) (hq : r.q = 97) (hL : Lays B w) (hBw : B ≤ w.heap.size) (hB : Brk w x st b now (.pointer none)) :
    Calls Tryz.prog 25 #[.pointer (some ⟨x, 0, none⟩), .agg (cellsOf r nil0.v)] w fun e w' => e = .returned (.bool true) ∧ Tch [st] w w' ∧
      ∃ qb, w.heap.size ≤ qb ∧ Brk w' x st b now (.pointer (some ⟨qb, 0, none⟩)) ∧ w'.heap[qb]? = some (.cells (newQ r) 208 (0, 0)) := by
  refine create_walk (fun w' => Tch [st] w w' ∧ ∃ qb, w.heap.size ≤ qb ∧ Brk w' x st b now (.pointer (some ⟨qb, 0, none⟩)) ∧ w'.heap[qb]? = some (.cells (newQ r) 208 (0, 0))) B r x w hright hL hBw ?_
  intro W hb
  obtain ⟨hg, hr, _⟩ := print_good r nil0 [] hw rfl hright
  have hsz := print_size r nil0 [] hw rfl hright
  have hBW : Brk W x st b now (.pointer none) := hB.tch (Tch.of_below hb) (by simp) (by simp) (by simp)
  have hlt := lt_of_block hBW.hst
  refine (bdo_walk (fun t w' => t = ⟨#[0]⟩ ∧ Tch [st] W w' ∧ ∃ qb, W.heap.size ≤ qb ∧ w'.heap[st]? = some (.cells (stC now (.pointer (some ⟨qb, 0, none⟩)) b) 148 (0, 0)) ∧ w'.heap[qb]? = some (.cells (newQ r) 208 (0, 0))) [st] B (printS r nil0 []) r x st W (by unfold maxLen; omega) (hL.below (hb.mono hBw)) (by have := hb.size; omega) hg hr hBW.hx (by simpa using hlt) (by simpa using hBW.ne.1) ?_).mono ?_
  · intro W1 y ht1
    have hst1 := (ht1.block _ hlt (by simp)).trans hBW.hst
    refine sdo_walk _ r y st W1 ?_
    have hst2 := ((Tch.refl [] W1).alloc (.cells (cellsOf r y.v) 27)).block st (lt_of_block hst1) (by simp)
    refine (plan_C r y st b now _ hop hq (hst2.trans hst1)).mono ?_
    rintro e w1 ⟨gr, gs, rfl, ht2, hgr, hgs⟩
    have t2 : Tch [] W1 w1 := ((Tch.refl [] W1).alloc _).trans ht2 (by simp)
    refine ⟨⟨#[0]⟩, .inr ⟨140, _, rfl, eg140, ?_⟩⟩
    refine (made_any r y gr gs st b now w1 hq ((t2.block _ (lt_of_block hst1) (by simp)).trans hst1) hgr hgs).mono ?_
    rintro e w2 ⟨rfl, ht3, hs3, hst3, hq3⟩
    refine ⟨rfl, (t2.sub (by simp)).trans ht3 (by simp), rfl, ((ht1.sub (by simp)).trans (t2.sub (S' := [st]) (by simp)) (by simp)).trans ht3 (by simp), _, ?_, hst3, hq3⟩
    have a1 := ht1.size
    have a2 := t2.size
    omega
  · rintro e w' ⟨t, rfl, rfl, ht, qb, hqb, hst', hq'⟩
    have t0 : Tch [st] w w' := ((Tch.of_below hb).sub (by simp)).trans ht (by simp)
    refine ⟨rfl, t0, qb, by have := hb.size; omega, ⟨?_, hst', ?_⟩, hq'⟩
    · exact (t0.block _ (lt_of_block hB.hx) (by simpa using hB.ne.1)).trans hB.hx
    · exact (t0.block _ (lt_of_block hB.hb) (by simpa using hB.ne.2)).trans hB.hb
end Go.Proofs.YtohanpmkgpcdcaaGreatDoor
