/-
  asked (18) at the Op T: the dedup stays, or goes.
-/
import Derived.Test.YtbdobaapadlcjaaGreatDoorTkR
import Derived.Test.YtbdobaapadlcjaaGreatDoorTkZ
namespace Go.Proofs.YtbdobaapadlcjaaGreatDoor
open Go.RowKit
set_option linter.unusedVariables false

/-- The closure of the time that goes on: n: how many dedups are left (0 or 1). -/
theorem went_T (c : Wp.Rq) (st b qb gm cm gd cd gs gl : Nat) (m : Ms) (d : Dd) (now next tic : Int) (rs : Value) (w : World)
    (hst : w.heap[st]? = some (.cells (stC now (.pointer (some ⟨qb, 0, none⟩)) b) 156 (0, 0))) (hQ : Qb w qb c next (.slice (some ⟨gm, 0, none⟩) 1 cm) rs (.slice (some ⟨gd, 0, none⟩) 1 cd) (.slice none 0 0)) (hdash : c.d = 45)
    (hm : w.ownsRow 0 226 5 (.slice (some ⟨gm, 0, none⟩) 1 cm) 1 m.row) (hmt : m.til = 0) (hd : w.ownsRow 0 230 3 (.slice (some ⟨gd, 0, none⟩) 1 cd) 1 d.row) (hgs : w.heap[gs]? = some (.cells #[.pointer (some ⟨st, 0, none⟩)] 96 (0, 0))) (hgl : w.heap[gl]? = some (.cells #[.int .i64 (now + tic)] 3 (0, 0))) :
    Calls Tryz.prog 220 #[.pointer (some ⟨gs, 0, none⟩), .pointer (some ⟨gl, 0, none⟩)] w fun e w' => e = .returned (.tuple #[]) ∧ Tch [st, qb, gd] w w' ∧ w'.heap[st]? = some (.cells (stC (now + tic) (.pointer (some ⟨qb, 0, none⟩)) b) 156 (0, 0)) ∧
      ((now + tic < d.til ∧ Qb w' qb c next (.slice (some ⟨gm, 0, none⟩) 1 cm) rs (.slice (some ⟨gd, 0, none⟩) 1 cd) (.slice none 0 0) ∧ w'.ownsRow 0 230 3 (.slice (some ⟨gd, 0, none⟩) 1 cd) 1 d.row) ∨
       (d.til ≤ now + tic ∧ Qb w' qb c next (.slice (some ⟨gm, 0, none⟩) 1 cm) rs (.slice (some ⟨gd, 0, none⟩) 0 cd) (.slice none 0 0) ∧ w'.ownsRow 0 230 3 (.slice (some ⟨gd, 0, none⟩) 0 cd) 0 [])) := by
  have hmc : ∀ i u, m.row[i]? = some u → w.cell? ⟨gm, i, none⟩ = some u := fun i u hi => by
    have h1 := World.ownsRow.cells hm (g := gm) rfl i u hi
    have e : (⟨gm, 0, none⟩ : Addr).add i = ⟨gm, i, none⟩ := by unfold Addr.add; split <;> simp_all
    rw [e] at h1
    exact h1
  have hgm : gm < w.heap.size := own_lt hm rfl
  have hgd : gd < w.heap.size := own_lt hd rfl
  obtain ⟨curd, hrd⟩ : ∃ cur, w.heap[gd]? = some (.cells cur 230 (0, 0)) := by
    rcases hd.2 with ⟨e, _⟩ | ⟨g', cap', cur, e, _, hr, _⟩
    · simp at e
    · simp at e
      obtain ⟨rfl, rfl⟩ := e
      exact ⟨cur, hr⟩
  have hmd : gm ≠ gd := fun e => own_ne hm hrd (by decide) (by rw [← e]; rfl)
  have hmq : gm ≠ qb := fun e => own_ne hm hQ (by decide) (by rw [← e]; rfl)
  have hdq : gd ≠ qb := fun e => by rw [e, hQ] at hrd; simp at hrd
  have hms : gm ≠ st := fun e => own_ne hm hst (by decide) (by rw [← e]; rfl)
  have hds : gd ≠ st := fun e => by rw [e, hst] at hrd; simp at hrd
  have hqs : qb ≠ st := fun e => by have h : w.heap[qb]? = _ := hQ; rw [e, hst] at h; simp at h
  have hlts := lt_of_block hst
  refine went_walk _ gs gl st (now + tic) w hgs hgl ?_
  refine set_walk _ st b qb now (now + tic) w hst ?_
  intro W2 t4
  have t6 : Tch [st] w W2 := ((Tch.refl [st] w).setCell (fun _ => by simp) _).trans t4 (by simp)
  have hstW : W2.heap[st]? = some (.cells (stC (now + tic) (.pointer (some ⟨qb, 0, none⟩)) b) 156 (0, 0)) := (t4.block _ (by simp; exact hlts) (by simp)).trans (stC_set w st b now (now + tic) _ hst)
  have hQW : Qb W2 qb c next (.slice (some ⟨gm, 0, none⟩) 1 cm) rs (.slice (some ⟨gd, 0, none⟩) 1 cd) (.slice none 0 0) := hQ.tch t6 (by simpa using hqs)
  have hdW : W2.ownsRow 0 230 3 (.slice (some ⟨gd, 0, none⟩) 1 cd) 1 d.row := own_tch hd t6 (fun k hk => by simp [Value.ownBlock] at hk; subst hk; simpa using hds)
  -- what follows Forget
  have fin : ∀ (n : Nat) (w3 : World), (n = 1 → now + tic < d.til) → (n = 0 → d.til ≤ now + tic) → n ≤ 1 → Tch [qb, gd] W2 w3 → Qb w3 qb c next (.slice (some ⟨gm, 0, none⟩) 1 cm) rs (.slice (some ⟨gd, 0, none⟩) n cd) (.slice none 0 0) → w3.ownsRow 0 230 3 (.slice (some ⟨gd, 0, none⟩) n cd) n (if n = 1 then d.row else []) →
      w3.heap[st]? = some (.cells (stC (now + tic) (.pointer (some ⟨qb, 0, none⟩)) b) 156 (0, 0)) ∧ ∀ W', Tch [] w3 W' → Calls Tryz.prog 271 #[.pointer (some ⟨st, 0, none⟩), .pointer (some ⟨qb, 0, none⟩)] W' fun e w5 => e = .returned (.tuple #[]) ∧ Tch [st, qb, gd] w w5 ∧ w5.heap[st]? = some (.cells (stC (now + tic) (.pointer (some ⟨qb, 0, none⟩)) b) 156 (0, 0)) ∧
    ((now + tic < d.til ∧ Qb w5 qb c next (.slice (some ⟨gm, 0, none⟩) 1 cm) rs (.slice (some ⟨gd, 0, none⟩) 1 cd) (.slice none 0 0) ∧ w5.ownsRow 0 230 3 (.slice (some ⟨gd, 0, none⟩) 1 cd) 1 d.row) ∨
     (d.til ≤ now + tic ∧ Qb w5 qb c next (.slice (some ⟨gm, 0, none⟩) 1 cm) rs (.slice (some ⟨gd, 0, none⟩) 0 cd) (.slice none 0 0) ∧ w5.ownsRow 0 230 3 (.slice (some ⟨gd, 0, none⟩) 0 cd) 0 [])) := by
    intro n w3 hn1 hn0 hle t7 hq3 hd3
    have hst3 : w3.heap[st]? = some (.cells (stC (now + tic) (.pointer (some ⟨qb, 0, none⟩)) b) 156 (0, 0)) := (t7.block _ (lt_of_block hstW) (by simp; exact ⟨hqs.symm, hds.symm⟩)).trans hstW
    refine ⟨hst3, fun W' t8 => ?_⟩
    have hqp := hq3.tch t8 (by simp)
    have tw : Tch [st, qb, gd] w W' := ((t6.sub (fun _ h _ => by simp at h ⊢; exact .inl h)).trans t7 (fun _ h _ => by simp at h ⊢; exact .inr h)).trans t8 (by simp)
    refine (bring_one m st qb gm cm (now + tic) W' (stC_now _ _ _ _ _ ((t8.block _ (lt_of_block hst3) (by simp)).trans hst3)) (by
      have h := cell_qC hqp 1 (.int .u8 (c.d.toNat : Int)) rfl
      rw [hdash] at h
      exact h) (cell_qC hqp 7 _ rfl) (Nat.lt_of_lt_of_le hgm tw.size) (fun i u hi => (tw.cell (a := ⟨gm, i, none⟩) hgm (by simp; exact ⟨hms, hmq, hmd⟩)).trans (hmc i u hi)) hmt).mono ?_
    rintro e w5 ⟨rfl, hb5⟩
    have t9 := Tch.of_below hb5
    have t10 : Tch [] w3 w5 := t8.trans t9 (by simp)
    refine ⟨rfl, tw.trans t9 (by simp), (t10.block _ (lt_of_block hst3) (by simp)).trans hst3, ?_⟩
    have hd5 := own_tch hd3 t10 (fun _ _ => by simp)
    have hq5 := hq3.tch t10 (by simp)
    rcases Nat.lt_or_ge n 1 with h | h
    · have e0 : n = 0 := by omega
      subst e0
      exact .inr ⟨hn0 rfl, hq5, hd5⟩
    · have e1 : n = 1 := by omega
      subst e1
      exact .inl ⟨hn1 rfl, hq5, hd5⟩
  have hB' : W2.heap.size < (W2.alloc (.cells #[.int .i64 (now + tic)] 3)).heap.size := by simp
  have hcB : (W2.alloc (.cells #[.int .i64 (now + tic)] 3)).cell? ⟨W2.heap.size, 0, none⟩ = some (.int .i64 (now + tic)) := cell_of_one (heap_alloc_new _ _)
  have hdA : (W2.alloc (.cells #[.int .i64 (now + tic)] 3)).ownsRow 0 230 3 (.slice (some ⟨gd, 0, none⟩) 1 cd) 1 d.row := own_tch hdW ((Tch.refl [] W2).alloc _) (fun _ _ => by simp)
  have hqA : Qb (W2.alloc (.cells #[.int .i64 (now + tic)] 3)) qb c next (.slice (some ⟨gm, 0, none⟩) 1 cm) rs (.slice (some ⟨gd, 0, none⟩) 1 cd) (.slice none 0 0) := hQW.tch ((Tch.refl [] W2).alloc _) (by simp)
  by_cases hle : d.til ≤ now + tic
  · refine (forget_walk (fun w1 => w1.ownsRow 0 230 3 (.slice (some ⟨gd, 0, none⟩) 0 cd) 0 []) [gd] c qb gd 0 cd (now + tic) next _ rs _ W2 hQW (by simpa using hdq.symm) (del_drop d (now + tic) gd cd W2.heap.size _ hB' hcB hdA hle)).mono ?_
    rintro e w3 ⟨rfl, w9, t9, hj, rfl⟩
    have hq9 := hqA.tch t9 (by simpa using hdq.symm)
    refine ⟨rfl, fin 0 _ (by omega) (fun _ => hle) (by omega) ?_ ((hq9.set9 _).set10 _) ?_⟩
    · exact ((((Tch.refl [] W2).alloc _).sub (by simp)).trans t9 (fun _ h _ => by simp at h ⊢; exact .inr h)).setCell (fun _ => by simp) _ |>.setCell (fun _ => by simp) _
    · exact own_set hj hq9 (by decide) (((Tch.refl [qb] w9).setCell (fun _ => by simp) _).setCell (fun _ => by simp) _)
  · refine (forget_walk (fun _ => True) [] c qb gd 1 cd (now + tic) next _ rs _ W2 hQW (by simp) ((del_keep d (now + tic) gd cd W2.heap.size _ hB' hcB hdA (by omega)).mono fun e w1 ⟨he, hb1⟩ => ⟨he, Tch.of_below hb1, trivial⟩)).mono ?_
    rintro e w3 ⟨rfl, w9, t9, _, rfl⟩
    have hq9 := hqA.tch t9 (by simp)
    refine ⟨rfl, fin 1 _ (fun _ => by omega) (by omega) (by omega) ?_ ((hq9.set9 _).set10 _) ?_⟩
    · exact ((((Tch.refl [] W2).alloc _).trans t9 (by simp)).sub (by simp)).setCell (fun _ => by simp) _ |>.setCell (fun _ => by simp) _
    · exact own_set (own_tch hdA t9 (fun _ _ => by simp)) hq9 (by decide) (((Tch.refl [qb] w9).setCell (fun _ => by simp) _).setCell (fun _ => by simp) _)

theorem asked_T (B mm : Nat) (c r : Wp.Rq) (x st b qb gm cm gd cd : Nat) (m : Ms) (d : Dd) (now next : Int) (rs : Value) (w : World) (hw : Wf r) (hright : rightW r nil0 (Wp.short []) = true) (hop : r.op = 84) (hsm : (printS r nil0 []).size ≤ 300) (hL : Lays B w) (hT : Tab w) (hBw : B ≤ w.heap.size) (h3 : 3 ≤ B) (hmm : mm ≤ 24)
    (hJ : Jn false B (mm + 1) w x st) (hB : Brk w st b now (.pointer (some ⟨qb, 0, none⟩))) (hQ : Qb w qb c next (.slice (some ⟨gm, 0, none⟩) 1 cm) rs (.slice (some ⟨gd, 0, none⟩) 1 cd) (.slice none 0 0)) (hdash : c.d = 45)
    (hm : w.ownsRow 0 226 5 (.slice (some ⟨gm, 0, none⟩) 1 cm) 1 m.row) (hmt : m.til = 0) (hd : w.ownsRow 0 230 3 (.slice (some ⟨gd, 0, none⟩) 1 cd) 1 d.row) (hn : 0 ≤ now ∧ 0 ≤ r.tic ∧ now + r.tic ≤ 60000) (hlo : ∀ k ∈ [st, qb, gd], B ≤ k) :
    Calls Tryz.prog 18 #[.pointer (some ⟨x, 0, none⟩), .agg (cellsOf r nil0.v)] w fun e w' => e = .returned (.string ⟨#[0]⟩) ∧ Fr B [143, 110, 116, 156, 191, 230] w w' ∧ Jn false B mm w' x st ∧ Brk w' st b (now + r.tic) (.pointer (some ⟨qb, 0, none⟩)) ∧
      ((now + r.tic < d.til ∧ Qb w' qb c next (.slice (some ⟨gm, 0, none⟩) 1 cm) rs (.slice (some ⟨gd, 0, none⟩) 1 cd) (.slice none 0 0) ∧ w'.ownsRow 0 230 3 (.slice (some ⟨gd, 0, none⟩) 1 cd) 1 d.row) ∨
       (d.til ≤ now + r.tic ∧ Qb w' qb c next (.slice (some ⟨gm, 0, none⟩) 1 cm) rs (.slice (some ⟨gd, 0, none⟩) 0 cd) (.slice none 0 0) ∧ w'.ownsRow 0 230 3 (.slice (some ⟨gd, 0, none⟩) 0 cd) 0 [])) := by
  refine (asked_walk (fun t w' => t = ⟨#[0]⟩ ∧ Fr B [143, 110, 116, 156, 191, 230] w w' ∧ Jn false B mm w' x st ∧ Brk w' st b (now + r.tic) (.pointer (some ⟨qb, 0, none⟩)) ∧
      ((now + r.tic < d.til ∧ Qb w' qb c next (.slice (some ⟨gm, 0, none⟩) 1 cm) rs (.slice (some ⟨gd, 0, none⟩) 1 cd) (.slice none 0 0) ∧ w'.ownsRow 0 230 3 (.slice (some ⟨gd, 0, none⟩) 1 cd) 1 d.row) ∨
       (d.til ≤ now + r.tic ∧ Qb w' qb c next (.slice (some ⟨gm, 0, none⟩) 1 cm) rs (.slice (some ⟨gd, 0, none⟩) 0 cd) (.slice none 0 0) ∧ w'.ownsRow 0 230 3 (.slice (some ⟨gd, 0, none⟩) 0 cd) 0 []))) B r x w hright hL hBw ?_).mono ?_
  · intro W hb
    obtain ⟨hg, hr, _⟩ := print_good r nil0 [] hw rfl hright
    have tb := Tch.of_below hb
    have hBW := hB.tch tb (by simp) (by simp)
    refine bdo_walk false _ B mm (printS r nil0 []) r x st _ W hsm (hL.below (hb.mono hBw)) (hT.fr (Fr.of_nil (B := B) [] tb hBw) h3) (Nat.le_trans hBw hb.size) h3 hg hr (hJ.tch tb) hmm hBW.hst (fun h => by cases h) ?_
    intro W1 y ht1
    have t1 : Tch [] w W1 := tb.trans ht1 (by simp)
    have hB1 := hB.tch t1 (by simp) (by simp)
    refine plan_T B mm x _ r y st b now _ W1 hop hB1.hst hn ?_
    intro w1 w2 w3 gs gl ht2 hgs hgl ht3 hf3 hj3
    have t2 : Tch [] w w2 := (t1.trans ht2 (by simp)).trans ht3 (by simp)
    have f3 : Fr B TJ w w3 := (Fr.of_nil TJ t2 hBw).trans hf3
    have z3 := f3.size
    have kp : ∀ (j : Nat) (C : Array Value) (t : TypeId), w1.heap[j]? = some (.cells C t (0, 0)) → t ∉ TJ → w3.heap[j]? = some (.cells C t (0, 0)) := fun j C t hj hT => hf3.keep j C t ((ht3.block j (lt_of_block hj) (by simp)).trans hj) hT
    have hst3 := f3.keep _ _ _ hB.hst (by decide)
    have hQ3 : Qb w3 qb c next (.slice (some ⟨gm, 0, none⟩) 1 cm) rs (.slice (some ⟨gd, 0, none⟩) 1 cd) (.slice none 0 0) := f3.keep _ _ _ hQ (by decide)
    have hd3 := f3.own hd (by decide)
    refine (went_T c st b qb gm cm gd cd gs gl m d now next r.tic rs w3 hst3 hQ3 hdash (f3.own hm (by decide)) hmt hd3 (kp _ _ _ hgs (by decide)) (kp _ _ _ hgl (by decide))).mono ?_
    rintro e w4 ⟨rfl, ht4, hst4, hor⟩
    have f4 : Fr B [156, 191, 230] w3 w4 := Fr.of_tch ht4 (by omega) hlo (fun j hmem C t hj => by
      simp at hmem
      rcases hmem with h | h | h
      · subst h
        rw [hst3] at hj
        simp at hj
        rw [← hj.2]; decide
      · subst h
        have h' : w3.heap[j]? = _ := hQ3
        rw [h'] at hj
        simp at hj
        rw [← hj.2]; decide
      · by_cases e2 : t = 230
        · rw [e2]; decide
        · exact absurd (by rw [h]; rfl) (own_ne hd3 hj (fun e => e2 e.symm)))
    exact ⟨rfl, rfl, (f3.mono (by decide)).trans (f4.mono (by decide)), hj3.keep f4 (by decide) (by decide) (by decide) (by decide), ⟨hst4, (hB.tb.fr f3 (by decide)).fr f4 (by decide)⟩, hor⟩
  · rintro e w' ⟨t, rfl, rfl, h⟩
    exact ⟨rfl, h⟩
end Go.Proofs.YtbdobaapadlcjaaGreatDoor
