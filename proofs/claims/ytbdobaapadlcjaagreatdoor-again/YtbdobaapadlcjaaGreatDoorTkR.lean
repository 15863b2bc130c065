/-
  asked (18) at the Op S: what is known is told again; what is not is put into the queue.
-/
import Derived.Test.YtbdobaapadlcjaaGreatDoorTkG
import Derived.Test.YtbdobaapadlcjaaGreatDoorTkO
import Derived.Test.YtbdobaapadlcjaaGreatDoorTkQ
namespace Go.Proofs.YtbdobaapadlcjaaGreatDoor
open Go.RowKit
set_option linter.unusedVariables false

theorem eg158 : ∀ args w, (callFunc 218 args).run Tryz.prog w = .ok (.enter 218 args) w := enters_of Tryz.func218 (by kernel_rfl) rfl
theorem Qb.tch {w w' : World} {qb : Nat} {c : Wp.Rq} {next : Int} {ms rs ds at_ : Value} (h : Qb w qb c next ms rs ds at_) {S : List Nat} (ht : Tch S w w') (hS : qb ∉ S) : Qb w' qb c next ms rs ds at_ := (ht.block _ h.lt hS).trans h
theorem Tab.tch {w w' : World} (h : Tab w) {S : List Nat} (ht : Tch S w w') (hS : ∀ k ∈ S, 3 ≤ k) (h3 : 3 ≤ w.heap.size) : Tab w' := h.below (B := 3) (ht.below hS h3) (by decide)
theorem Lays.tch {B : Nat} {w w' : World} (h : Lays B w) {S : List Nat} (ht : Tch S w w') (hS : ∀ k ∈ S, B ≤ k) (hB : B ≤ w.heap.size) : Lays B w' := h.below (ht.below hS hB)

/-- The Op S, whatever Send makes of it. -/
theorem asked_S (B m : Nat) (K : ByteArray → World → Prop) (k : Nat) (r : Wp.Rq) (x st b qb : Nat) (now : Int) (w : World) (hw : Wf r) (hright : rightW r nil0 (Wp.short []) = true) (hop : r.op = 83) (hq : r.q = 97) (hsm : (printS r nil0 []).size ≤ 300) (hL : Lays B w) (hT : Tab w) (hBw : B ≤ w.heap.size) (h3 : 3 ≤ B) (hm : m ≤ 24)
    (hJ : Jn false B (m + 1) w x st) (hB : Brk w st b now (.pointer (some ⟨qb, 0, none⟩)))
    (hSend : ∀ (W : World) (y : Sl), Tch [] w W → Calls Tryz.prog 164 #[.pointer (some ⟨qb, 0, none⟩), .int .i64 now, .agg (cellsOf r y.v)] W fun e w' => ∃ av chg, e = .returned (.tuple #[av, chg, .int .i64 0]) ∧ Tch [] W w' ∧ (∃ base, OwnB w' base av (lowB k 4)) ∧ ∀ w2, Tch [] w' w2 → Chg B m x st K (okN k) chg w2) :
    Calls Tryz.prog 18 #[.pointer (some ⟨x, 0, none⟩), .agg (cellsOf r nil0.v)] w fun e w' => ∃ t, e = .returned (.string t) ∧ K t w' := by
  refine asked_walk K B r x w hright hL hBw ?_
  intro W hb
  obtain ⟨hg, hr, _⟩ := print_good r nil0 [] hw rfl hright
  have tb := Tch.of_below hb
  have hBW := hB.tch tb (by simp) (by simp)
  refine bdo_walk false K B m (printS r nil0 []) r x st _ W hsm (hL.below (hb.mono hBw)) (hT.fr (Fr.of_nil (B := B) [] tb hBw) h3) (Nat.le_trans hBw hb.size) h3 hg hr (hJ.tch tb) hm hBW.hst (fun h => by cases h) ?_
  intro W1 y ht1
  have t1 : Tch [] w W1 := tb.trans ht1 (by simp)
  have hB1 := hB.tch t1 (by simp) (by simp)
  refine plan_S B m x K k r y st b qb now W1 hop hq hB1.hst hB1.hb ?_
  intro W2 ht2
  exact hSend W2 y (t1.trans ht2 (by simp))

/-- What was sent is told again, and nothing changes. -/
theorem asked_found (B m : Nat) (c r : Wp.Rq) (x st b qb gd cd : Nat) (d : Dd) (now next : Int) (ms rs at_ : Value) (w : World) (hw : Wf r) (hright : rightW r nil0 (Wp.short []) = true) (hop : r.op = 83) (hq : r.q = 97) (hsm : (printS r nil0 []).size ≤ 300) (hL : Lays B w) (hT : Tab w) (hBw : B ≤ w.heap.size) (h3 : 3 ≤ B) (hm : m ≤ 24)
    (hJ : Jn false B (m + 1) w x st) (hB : Brk w st b now (.pointer (some ⟨qb, 0, none⟩))) (hQ : Qb w qb c next ms rs (.slice (some ⟨gd, 0, none⟩) 1 cd) at_) (hbod : r.bod.size ≤ 40)
    (hgd : gd < w.heap.size) (hc : ∀ i v, d.row[i]? = some v → w.cell? ⟨gd, i, none⟩ = some v) (hid : d.id = didS r) (hnum : d.num = 1) :
    Calls Tryz.prog 18 #[.pointer (some ⟨x, 0, none⟩), .agg (cellsOf r nil0.v)] w fun e w' => e = .returned (.string (okN 1)) ∧ Tch [] w w' := by
  have h := asked_S B m (fun t w' => t = okN 1 ∧ Tch [] w w') 1 r x st b qb now w hw hright hop hq hsm hL hT hBw h3 hm hJ hB (fun W y ht => ?_)
  · exact h.mono fun e w' ⟨t, he, ht, h2⟩ => ⟨by rw [he, ht], h2⟩
  · refine (send_found c r y qb gd cd d now next ms rs at_ W (hQ.tch ht (by simp)) hbod (hT.tch ht (by simp) (by omega)) (by have := ht.size; omega) (Nat.lt_of_lt_of_le hgd ht.size) (fun i v hi => (ht.cell (a := ⟨gd, i, none⟩) hgd (by simp)).trans (hc i v hi)) hid hnum).mono ?_
    rintro e w' ⟨av, rfl, hown, hb⟩
    exact ⟨av, .nilFunc, rfl, Tch.of_below hb, ⟨_, hown⟩, fun w2 ht2 => .inl ⟨rfl, fun w3 ht3 => ⟨rfl, ((ht.trans (Tch.of_below hb) (by simp)).trans ht2 (by simp)).trans ht3 (by simp)⟩⟩⟩

theorem ms1_fr {B : Nat} {T : List TypeId} {w w' : World} {ms : Value} {nm : Nat} {xm : List Value} (h : Ms1 w ms) (hm : w.ownsRow 0 226 5 ms nm xm) (hf : Fr B T w w') (hT : 226 ∉ T) : Ms1 w' ms := by
  rcases h with h | ⟨gm, cm, m, rfl, hlt, hc⟩
  · exact .inl h
  · refine .inr ⟨gm, cm, m, rfl, Nat.lt_of_lt_of_le hlt hf.size, fun i u hi => ?_⟩
    rcases hm.2 with ⟨e, _⟩ | ⟨g', cap', cur, e, _, hr, _⟩
    · simp at e
    · simp at e
      obtain ⟨rfl, _, rfl⟩ := e
      have h1 := hf.keep gm cur 226 hr hT
      exact (World.cell?_of_block (a := ⟨gm, i, none⟩) (h1.trans hr.symm)).trans (hc i u hi)

/-- What is new is taken. -/
theorem asked_new (B m : Nat) (K : World → Prop) (c r : Wp.Rq) (x st b qb k nm nr cd : Nat) (now : Int) (ad : Option Addr) (ms rs at_ : Value) (xm xr : List Value) (w : World) (hw : Wf r) (hright : rightW r nil0 (Wp.short []) = true) (hop : r.op = 83) (hq : r.q = 97) (hsm : (printS r nil0 []).size ≤ 300) (hL : Lays B w) (hT : Tab w) (hBw : B ≤ w.heap.size) (h3 : 3 ≤ B) (hmm : m ≤ 24)
    (hJ : Jn false B (m + 1) w x st) (hB : Brk w st b now (.pointer (some ⟨qb, 0, none⟩))) (hQ : Qb w qb c (k : Int) ms rs (.slice ad 0 cd) at_) (hbod : r.bod.size ≤ 40)
    (hm : w.ownsRow 0 226 5 ms nm xm) (hr : w.ownsRow 0 9 1 rs nr xr) (hd : w.ownsRow 0 230 3 (.slice ad 0 cd) 0 []) (hv : Ms1 w ms) (hnm : nm ≤ 1) (hnr : nr ≤ 1000) (hk : k ≤ 200) (hquo : (nm : Int) < c.quo)
    (hwin : 0 < c.win ∧ c.win ≤ 1001) (hnow : 0 ≤ now ∧ now ≤ 60000) (hlo : ∀ j ∈ (qb :: (bl (.slice ad 0 cd) ++ (bl ms ++ bl rs))), B ≤ j)
    (hK : ∀ w' ms' rs' ds', Brk w' st b now (.pointer (some ⟨qb, 0, none⟩)) → Qb w' qb c ((k + 1 : Nat) : Int) ms' rs' ds' at_ → w'.ownsRow 0 226 5 ms' (nm + 1) (xm ++ msV k r.grp r.bod) → (∃ nr' xr', w'.ownsRow 0 9 1 rs' nr' xr' ∧ nr' ≤ nr + 1) → w'.ownsRow 0 230 3 ds' 1 (ddV (didS r) k (now + c.win)) → NewOr w ms ms' → NewOr w rs rs' → (∀ j, ds'.ownBlock = some j → Value.ownBlock (.slice ad 0 cd) = some j ∨ w.heap.size ≤ j) → Fr B TB w w' → Jn false B m w' x st → K w') :
    Calls Tryz.prog 18 #[.pointer (some ⟨x, 0, none⟩), .agg (cellsOf r nil0.v)] w fun e w' => e = .returned (.string (okN k)) ∧ K w' := by
  have hmv : ∃ am cm, ms = .slice am nm cm := by
    rcases hm.2 with ⟨rfl, rfl⟩ | ⟨g, cap, cur, rfl, _⟩
    · exact ⟨_, _, rfl⟩
    · exact ⟨_, _, rfl⟩
  obtain ⟨am, cm, hmv⟩ := hmv
  have h := asked_S B m (fun t w' => t = okN k ∧ K w') k r x st b qb now w hw hright hop hq hsm hL hT hBw h3 hmm hJ hB (fun W y ht => ?_)
  · exact h.mono fun e w' ⟨t, he, ht, h2⟩ => ⟨by rw [he, ht], h2⟩
  · subst hmv
    refine (send_new c r y qb k nm cm cd am ad now rs at_ W (hQ.tch ht (by simp)) hbod (hT.tch ht (by simp) (by omega)) (by have := ht.size; omega) hquo hk).mono ?_
    rintro e w' ⟨av, gi, rfl, hown, hb, b0, bi, b1, b2⟩
    have t1 : Tch [] w w' := ht.trans (Tch.of_below hb) (by simp)
    refine ⟨av, _, rfl, Tch.of_below hb, ⟨_, hown⟩, fun w1 ht1 => ?_⟩
    refine .inr ⟨218, _, rfl, eg158, fun w2 w3 ht2 hf3 hj3 => ?_⟩
    have t2 : Tch [] w w2 := (t1.trans ht1 (by simp)).trans ht2 (by simp)
    have f3 : Fr B TJ w w3 := (Fr.of_nil TJ t2 hBw).trans hf3
    have kp : ∀ (j : Nat) (C : Array Value) (t : TypeId), w'.heap[j]? = some (.cells C t (0, 0)) → t ∉ TJ → w3.heap[j]? = some (.cells C t (0, 0)) := fun j C t hj hT => hf3.keep j C t (((ht1.trans ht2 (by simp)).block j (lt_of_block hj) (by simp)).trans hj) hT
    have hm3 := f3.own hm (by decide)
    have hr3 := f3.own hr (by decide)
    have hd3 := f3.own hd (by decide)
    have hQ3 : Qb w3 qb c (k : Int) (.slice am nm cm) rs (.slice ad 0 cd) at_ := f3.keep _ _ _ hQ (by decide)
    have z3 := f3.size
    refine sent_walk (fun w4 => okN k = okN k ∧ K w4) c r y (didS r) qb k nm nr cd W.heap.size gi (W.heap.size + 1) (W.heap.size + 2) now ad _ rs at_ xm xr w3 hQ3 hm3 hr3 hd3 (ms1_fr hv hm f3 (by decide)) hnm hnr hk hwin hnow (kp _ _ _ b0 (by decide)) (kp _ _ _ bi (by decide)) (kp _ _ _ b1 (by decide)) (kp _ _ _ b2 (by decide)) ?_
    intro w4 ms' rs' ds' hq4 hm4 hr4 hd4 hN1 hN2 hj4 ht4
    have f4 : Fr B [191, 226, 230, 9] w3 w4 := Fr.of_tch ht4 (by omega) hlo (fun j hmem C t hj => by
      by_cases e1 : t = 191
      · rw [e1]; decide
      · by_cases e2 : t = 230
        · rw [e2]; decide
        · by_cases e3 : t = 226
          · rw [e3]; decide
          · by_cases e4 : t = 9
            · rw [e4]; decide
            · exfalso
              rcases List.mem_cons.1 hmem with h | h
              · subst h
                have hq3' : w3.heap[j]? = _ := hQ3
                rw [hq3'] at hj
                simp at hj
                exact e1 hj.2.symm
              · rcases List.mem_append.1 h with h | h
                · exact own_ne hd3 hj (fun e => e2 e.symm) (mem_bl.1 h)
                · rcases List.mem_append.1 h with h | h
                  · exact own_ne hm3 hj (fun e => e3 e.symm) (mem_bl.1 h)
                  · exact own_ne hr3 hj (fun e => e4 e.symm) (mem_bl.1 h))
    have f5 : Fr B TB w w4 := (f3.mono TJB).trans (f4.mono (by decide))
    refine ⟨rfl, hK w4 ms' rs' ds' ⟨f4.keep _ _ _ (f3.keep _ _ _ hB.hst (by decide)) (by decide), (hB.tb.fr f3 (by decide)).fr f4 (by decide)⟩ hq4 hm4 hr4 hd4 (hN1.mono z3) (hN2.mono z3) (fun j hj => ?_) f5 (hj3.keep f4 (by decide) (by decide) (by decide) (by decide))⟩
    rcases hj4 j hj with h | h
    · exact .inl h
    · exact .inr (by omega)
end Go.Proofs.YtbdobaapadlcjaaGreatDoor
