/-
  asked (18) at the Op T: the dedup stays, or goes.
-/
import Derived.Test.YtohanpmkgpcdcaaGreatDoorTkR
import Derived.Test.YtohanpmkgpcdcaaGreatDoorTkZ
namespace Go.Proofs.YtohanpmkgpcdcaaGreatDoor
open Go.RowKit
set_option linter.unusedVariables false

/-- The time goes on; n: how many dedups are left (0 or 1). -/
theorem asked_T (B : Nat) (c r : Wp.Rq) (x st b qb gm cm gd cd : Nat) (m : Ms) (d : Dd) (now next : Int) (rs : Value) (w : World) (hw : Wf r) (hright : rightW r nil0 (Wp.short []) = true) (hop : r.op = 84) (hL : Lays B w) (h3 : B ≤ w.heap.size)
    (hB : Brk w x st b now (.pointer (some ⟨qb, 0, none⟩))) (hQ : Qb w qb c next (.slice (some ⟨gm, 0, none⟩) 1 cm) rs (.slice (some ⟨gd, 0, none⟩) 1 cd) (.slice none 0 0)) (hdash : c.d = 45)
    (hm : w.ownsRow 0 214 5 (.slice (some ⟨gm, 0, none⟩) 1 cm) 1 m.row) (hmt : m.til = 0) (hd : w.ownsRow 0 219 3 (.slice (some ⟨gd, 0, none⟩) 1 cd) 1 d.row) (hn : 0 ≤ now ∧ 0 ≤ r.tic ∧ now + r.tic ≤ 60000) :
    Calls Tryz.prog 18 #[.pointer (some ⟨x, 0, none⟩), .agg (cellsOf r nil0.v)] w fun e w' => e = .returned (.string ⟨#[0]⟩) ∧ Tch [st, qb, gd] w w' ∧ Brk w' x st b (now + r.tic) (.pointer (some ⟨qb, 0, none⟩)) ∧
      ((now + r.tic < d.til ∧ Qb w' qb c next (.slice (some ⟨gm, 0, none⟩) 1 cm) rs (.slice (some ⟨gd, 0, none⟩) 1 cd) (.slice none 0 0) ∧ w'.ownsRow 0 219 3 (.slice (some ⟨gd, 0, none⟩) 1 cd) 1 d.row) ∨
       (d.til ≤ now + r.tic ∧ Qb w' qb c next (.slice (some ⟨gm, 0, none⟩) 1 cm) rs (.slice (some ⟨gd, 0, none⟩) 0 cd) (.slice none 0 0) ∧ w'.ownsRow 0 219 3 (.slice (some ⟨gd, 0, none⟩) 0 cd) 0 [])) := by
  have hmc : ∀ i u, m.row[i]? = some u → w.cell? ⟨gm, i, none⟩ = some u := fun i u hi => by
    have h1 := World.ownsRow.cells hm (g := gm) rfl i u hi
    have e : (⟨gm, 0, none⟩ : Addr).add i = ⟨gm, i, none⟩ := by unfold Addr.add; split <;> simp_all
    rw [e] at h1
    exact h1
  have hgm : gm < w.heap.size := own_lt hm rfl
  have hgd : gd < w.heap.size := own_lt hd rfl
  obtain ⟨curd, hrd⟩ : ∃ cur, w.heap[gd]? = some (.cells cur 219 (0, 0)) := by
    rcases hd.2 with ⟨e, _⟩ | ⟨g', cap', cur, e, _, hr, _⟩
    · simp at e
    · simp at e
      obtain ⟨rfl, rfl⟩ := e
      exact ⟨cur, hr⟩
  have hmd : gm ≠ gd := fun e => own_ne hm hrd (by decide) (by rw [← e]; rfl)
  have hmq : gm ≠ qb := fun e => own_ne hm hQ (by decide) (by rw [← e]; rfl)
  have hdq : gd ≠ qb := fun e => by rw [e, hQ] at hrd; simp at hrd
  have hms : gm ≠ st := fun e => own_ne hm hB.hst (by decide) (by rw [← e]; rfl)
  have hds : gd ≠ st := fun e => by rw [e, hB.hst] at hrd; simp at hrd
  have hqs : qb ≠ st := fun e => by have h : w.heap[qb]? = _ := hQ; rw [e, hB.hst] at h; simp at h
  have hxd : x ≠ gd := fun e => by rw [← e, hB.hx] at hrd; simp at hrd
  have hxq : x ≠ qb := fun e => by have h : w.heap[qb]? = _ := hQ; rw [← e, hB.hx] at h; simp at h
  have hbd : b + 3 ≠ gd := fun e => by rw [← e, hB.hb] at hrd; simp at hrd
  have hbq : b + 3 ≠ qb := fun e => by have h : w.heap[qb]? = _ := hQ; rw [← e, hB.hb] at h; simp at h
  have hlts := lt_of_block hB.hst
  refine (asked_walk (fun t w' => t = ⟨#[0]⟩ ∧ Tch [st, qb, gd] w w' ∧ w'.heap[st]? = some (.cells (stC (now + r.tic) (.pointer (some ⟨qb, 0, none⟩)) b) 148 (0, 0)) ∧
      ((now + r.tic < d.til ∧ Qb w' qb c next (.slice (some ⟨gm, 0, none⟩) 1 cm) rs (.slice (some ⟨gd, 0, none⟩) 1 cd) (.slice none 0 0) ∧ w'.ownsRow 0 219 3 (.slice (some ⟨gd, 0, none⟩) 1 cd) 1 d.row) ∨
       (d.til ≤ now + r.tic ∧ Qb w' qb c next (.slice (some ⟨gm, 0, none⟩) 1 cm) rs (.slice (some ⟨gd, 0, none⟩) 0 cd) (.slice none 0 0) ∧ w'.ownsRow 0 219 3 (.slice (some ⟨gd, 0, none⟩) 0 cd) 0 []))) B r x w hright hL h3 ?_).mono ?_
  · intro W hb
    obtain ⟨hg, hr, _⟩ := print_good r nil0 [] hw rfl hright
    have hsz := print_size r nil0 [] hw rfl hright
    have hBW := hB.tch (Tch.of_below hb) (by simp) (by simp) (by simp)
    refine bdo_walk _ [st, qb, gd] B (printS r nil0 []) r x st W (by unfold maxLen; omega) (hL.below (hb.mono h3)) (by have := hb.size; omega) hg hr hBW.hx (fun k hk => by
      have := hb.size
      have := hQ.lt
      simp at hk
      omega) (by simp [hB.ne.1, hxq, hxd]) ?_
    intro W1 y ht1
    have t1 : Tch [] w W1 := (Tch.of_below hb).trans ht1 (by simp)
    refine sdo_walk (fun t w' => Tch [st, qb, gd] W1 w' ∧ _) r y st W1 ?_
    have ta : Tch [] w (W1.alloc (.cells (cellsOf r y.v) 27)) := t1.alloc _
    refine plan_T _ r y st b now _ _ hop ((ta.block _ hlts (by simp)).trans hB.hst) hn ?_
    intro w1 gs gl t2 hgs hgl
    have t3 : Tch [] w w1 := ta.trans t2 (by simp)
    have t31 : Tch [] W1 w1 := ((Tch.refl [] W1).alloc _).trans t2 (by simp)
    refine went_walk _ gs gl st (now + r.tic) w1 hgs hgl ?_
    refine set_walk _ st b qb now (now + r.tic) w1 ((t3.block _ hlts (by simp)).trans hB.hst) ?_
    intro W2 t4
    have t5 : Tch [st] w1 W2 := ((Tch.refl [st] w1).setCell (fun _ => by simp) _).trans t4 (by simp)
    have t6 : Tch [st] w W2 := (t3.sub (by simp)).trans t5 (fun _ h _ => h)
    have hstW : W2.heap[st]? = some (.cells (stC (now + r.tic) (.pointer (some ⟨qb, 0, none⟩)) b) 148 (0, 0)) := (t4.block _ (by simp; exact Nat.lt_of_lt_of_le hlts t3.size) (by simp)).trans (stC_set w1 st b now (now + r.tic) _ ((t3.block _ hlts (by simp)).trans hB.hst))
    have hQW : Qb W2 qb c next (.slice (some ⟨gm, 0, none⟩) 1 cm) rs (.slice (some ⟨gd, 0, none⟩) 1 cd) (.slice none 0 0) := hQ.tch t6 (by simpa using hqs)
    have hdW : W2.ownsRow 0 219 3 (.slice (some ⟨gd, 0, none⟩) 1 cd) 1 d.row := own_tch hd t6 (fun k hk => by simp [Value.ownBlock] at hk; subst hk; simpa using hds)
    -- what follows Forget
    have fin : ∀ (n : Nat) (w3 : World), (n = 1 → now + r.tic < d.til) → (n = 0 → d.til ≤ now + r.tic) → n ≤ 1 → Tch [qb, gd] W2 w3 → Qb w3 qb c next (.slice (some ⟨gm, 0, none⟩) 1 cm) rs (.slice (some ⟨gd, 0, none⟩) n cd) (.slice none 0 0) → w3.ownsRow 0 219 3 (.slice (some ⟨gd, 0, none⟩) n cd) n (if n = 1 then d.row else []) →
        w3.heap[st]? = some (.cells (stC (now + r.tic) (.pointer (some ⟨qb, 0, none⟩)) b) 148 (0, 0)) ∧ ∀ W', Tch [] w3 W' → Calls Tryz.prog 205 #[.pointer (some ⟨st, 0, none⟩), .pointer (some ⟨qb, 0, none⟩)] W' fun e w5 => e = .returned (.tuple #[]) ∧ Tch [st, qb, gd] W1 w5 ∧ (⟨#[0]⟩ : ByteArray) = ⟨#[0]⟩ ∧ Tch [st, qb, gd] w w5 ∧ w5.heap[st]? = some (.cells (stC (now + r.tic) (.pointer (some ⟨qb, 0, none⟩)) b) 148 (0, 0)) ∧
      ((now + r.tic < d.til ∧ Qb w5 qb c next (.slice (some ⟨gm, 0, none⟩) 1 cm) rs (.slice (some ⟨gd, 0, none⟩) 1 cd) (.slice none 0 0) ∧ w5.ownsRow 0 219 3 (.slice (some ⟨gd, 0, none⟩) 1 cd) 1 d.row) ∨
       (d.til ≤ now + r.tic ∧ Qb w5 qb c next (.slice (some ⟨gm, 0, none⟩) 1 cm) rs (.slice (some ⟨gd, 0, none⟩) 0 cd) (.slice none 0 0) ∧ w5.ownsRow 0 219 3 (.slice (some ⟨gd, 0, none⟩) 0 cd) 0 [])) := by
      intro n w3 hn1 hn0 hle t7 hq3 hd3
      have hst3 : w3.heap[st]? = some (.cells (stC (now + r.tic) (.pointer (some ⟨qb, 0, none⟩)) b) 148 (0, 0)) := (t7.block _ (lt_of_block hstW) (by simp; exact ⟨hqs.symm, hds.symm⟩)).trans hstW
      refine ⟨hst3, fun W' t8 => ?_⟩
      have hqp := hq3.tch t8 (by simp)
      have tall : Tch [st, qb, gd] w1 W' := ((t5.sub (fun _ h _ => by simp at h ⊢; exact .inl h)).trans t7 (fun _ h _ => by simp at h ⊢; exact .inr h)).trans t8 (by simp)
      have tw : Tch [st, qb, gd] w W' := (t3.sub (by simp)).trans tall (fun _ h _ => h)
      refine (bring_one m st qb gm cm (now + r.tic) W' (stC_now _ _ _ _ _ ((t8.block _ (lt_of_block hst3) (by simp)).trans hst3)) (by
        have h := cell_qC hqp 1 (.int .u8 (c.d.toNat : Int)) rfl
        rw [hdash] at h
        exact h) (cell_qC hqp 7 _ rfl) (Nat.lt_of_lt_of_le hgm tw.size) (fun i u hi => (tw.cell (a := ⟨gm, i, none⟩) hgm (by simp; exact ⟨hms, hmq, hmd⟩)).trans (hmc i u hi)) hmt).mono ?_
      rintro e w5 ⟨rfl, hb5⟩
      have t9 := Tch.of_below hb5
      have t10 : Tch [] w3 w5 := t8.trans t9 (by simp)
      refine ⟨rfl, ((t31.sub (by simp)).trans tall (fun _ h _ => h)).trans t9 (by simp), rfl, tw.trans t9 (by simp), (t10.block _ (lt_of_block hst3) (by simp)).trans hst3, ?_⟩
      have hd5 := own_tch hd3 t10 (fun _ _ => by simp)
      have hq5 := hq3.tch t10 (by simp)
      rcases Nat.lt_or_ge n 1 with h | h
      · have e0 : n = 0 := by omega
        subst e0
        exact .inr ⟨hn0 rfl, hq5, hd5⟩
      · have e1 : n = 1 := by omega
        subst e1
        exact .inl ⟨hn1 rfl, hq5, hd5⟩
    have hB' : W2.heap.size < (W2.alloc (.cells #[.int .i64 (now + r.tic)] 3)).heap.size := by simp
    have hcB : (W2.alloc (.cells #[.int .i64 (now + r.tic)] 3)).cell? ⟨W2.heap.size, 0, none⟩ = some (.int .i64 (now + r.tic)) := cell_of_one (heap_alloc_new _ _)
    have hdA : (W2.alloc (.cells #[.int .i64 (now + r.tic)] 3)).ownsRow 0 219 3 (.slice (some ⟨gd, 0, none⟩) 1 cd) 1 d.row := own_tch hdW ((Tch.refl [] W2).alloc _) (fun _ _ => by simp)
    have hqA : Qb (W2.alloc (.cells #[.int .i64 (now + r.tic)] 3)) qb c next (.slice (some ⟨gm, 0, none⟩) 1 cm) rs (.slice (some ⟨gd, 0, none⟩) 1 cd) (.slice none 0 0) := hQW.tch ((Tch.refl [] W2).alloc _) (by simp)
    by_cases hle : d.til ≤ now + r.tic
    · refine (forget_walk (fun w1 => w1.ownsRow 0 219 3 (.slice (some ⟨gd, 0, none⟩) 0 cd) 0 []) [gd] c qb gd 0 cd (now + r.tic) next _ rs _ W2 hQW (by simpa using hdq.symm) (del_drop d (now + r.tic) gd cd W2.heap.size _ hB' hcB hdA hle)).mono ?_
      rintro e w3 ⟨rfl, w9, t9, hj, rfl⟩
      have hq9 := hqA.tch t9 (by simpa using hdq.symm)
      refine ⟨rfl, fin 0 _ (by omega) (fun _ => hle) (by omega) ?_ ((hq9.set9 _).set10 _) ?_⟩
      · exact ((((Tch.refl [] W2).alloc _).sub (by simp)).trans t9 (fun _ h _ => by simp at h ⊢; exact .inr h)).setCell (fun _ => by simp) _ |>.setCell (fun _ => by simp) _
      · exact own_set hj hq9 (by decide) (((Tch.refl [qb] w9).setCell (fun _ => by simp) _).setCell (fun _ => by simp) _)
    · refine (forget_walk (fun _ => True) [] c qb gd 1 cd (now + r.tic) next _ rs _ W2 hQW (by simp) ((del_keep d (now + r.tic) gd cd W2.heap.size _ hB' hcB hdA (by omega)).mono fun e w1 ⟨he, hb1⟩ => ⟨he, Tch.of_below hb1, trivial⟩)).mono ?_
      rintro e w3 ⟨rfl, w9, t9, _, rfl⟩
      have hq9 := hqA.tch t9 (by simp)
      refine ⟨rfl, fin 1 _ (fun _ => by omega) (by omega) (by omega) ?_ ((hq9.set9 _).set10 _) ?_⟩
      · exact ((((Tch.refl [] W2).alloc _).trans t9 (by simp)).sub (by simp)).setCell (fun _ => by simp) _ |>.setCell (fun _ => by simp) _
      · exact own_set (own_tch hdA t9 (fun _ _ => by simp)) hq9 (by decide) (((Tch.refl [qb] w9).setCell (fun _ => by simp) _).setCell (fun _ => by simp) _)
  · rintro e w' ⟨t, rfl, rfl, ht, hst', hor⟩
    refine ⟨rfl, ht, ⟨?_, hst', ?_⟩, hor⟩
    · exact (ht.block _ (lt_of_block hB.hx) (by simp [hB.ne.1, hxq, hxd])).trans hB.hx
    · exact (ht.block _ (lt_of_block hB.hb) (by simp [hB.ne.2, hbq, hbd])).trans hB.hb
end Go.Proofs.YtohanpmkgpcdcaaGreatDoor
