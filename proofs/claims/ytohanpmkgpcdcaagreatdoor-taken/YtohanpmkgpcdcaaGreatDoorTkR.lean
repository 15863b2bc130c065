/-
  asked (18) at the Op S: what is known is told again; what is not is put into the queue.
-/
import Derived.Test.YtohanpmkgpcdcaaGreatDoorTkG
import Derived.Test.YtohanpmkgpcdcaaGreatDoorTkO
import Derived.Test.YtohanpmkgpcdcaaGreatDoorTkQ
namespace Go.Proofs.YtohanpmkgpcdcaaGreatDoor
open Go.RowKit
set_option linter.unusedVariables false

theorem eg158 : ∀ args w, (callFunc 158 args).run Tryz.prog w = .ok (.enter 158 args) w := enters_of Tryz.func158 (by kernel_rfl) rfl
theorem Qb.tch {w w' : World} {qb : Nat} {c : Wp.Rq} {next : Int} {ms rs ds at_ : Value} (h : Qb w qb c next ms rs ds at_) {S : List Nat} (ht : Tch S w w') (hS : qb ∉ S) : Qb w' qb c next ms rs ds at_ := (ht.block _ h.lt hS).trans h
theorem Tab.tch {w w' : World} (h : Tab w) {S : List Nat} (ht : Tch S w w') (hS : ∀ k ∈ S, 3 ≤ k) (h3 : 3 ≤ w.heap.size) : Tab w' := h.below (B := 3) (ht.below hS h3) (by decide)
theorem Lays.tch {B : Nat} {w w' : World} (h : Lays B w) {S : List Nat} (ht : Tch S w w') (hS : ∀ k ∈ S, B ≤ k) (hB : B ≤ w.heap.size) : Lays B w' := h.below (ht.below hS hB)

/-- The Op S, whatever Send makes of it. -/
theorem asked_S (B : Nat) (K : ByteArray → World → Prop) (k : Nat) (S : List Nat) (r : Wp.Rq) (x st b qb : Nat) (now : Int) (w : World) (hw : Wf r) (hright : rightW r nil0 (Wp.short []) = true) (hop : r.op = 83) (hq : r.q = 97) (hL : Lays B w) (h3 : B ≤ w.heap.size)
    (hB : Brk w x st b now (.pointer (some ⟨qb, 0, none⟩))) (hS : ∀ k ∈ S, k < w.heap.size) (hxS : x ∉ S)
    (hSend : ∀ (W : World) (y : Sl), Tch [] w W → Calls Tryz.prog 110 #[.pointer (some ⟨qb, 0, none⟩), .int .i64 now, .agg (cellsOf r y.v)] W fun e w' => ∃ av chg, e = .returned (.tuple #[av, chg, .int .i64 0]) ∧ Tch [] W w' ∧ (∃ base, OwnB w' base av (lowB k 4)) ∧ ∀ w2, Tch [] w' w2 → Chg (fun t w3 => Tch S w2 w3 ∧ K t w3) (okN k) chg w2) :
    Calls Tryz.prog 18 #[.pointer (some ⟨x, 0, none⟩), .agg (cellsOf r nil0.v)] w fun e w' => ∃ t, e = .returned (.string t) ∧ K t w' := by
  refine asked_walk K B r x w hright hL h3 ?_
  intro W hb
  obtain ⟨hg, hr, _⟩ := print_good r nil0 [] hw rfl hright
  have hsz := print_size r nil0 [] hw rfl hright
  have hBW := hB.tch (Tch.of_below hb) (by simp) (by simp) (by simp)
  refine bdo_walk K S B (printS r nil0 []) r x st W (by unfold maxLen; omega) (hL.below (hb.mono h3)) (by have := hb.size; omega) hg hr hBW.hx (fun k hk => by have := hS k hk; have := hb.size; omega) hxS ?_
  intro W1 y ht1
  have t1 : Tch [] w W1 := (Tch.of_below hb).trans ht1 (by simp)
  refine sdo_walk (fun t w' => Tch S W1 w' ∧ K t w') r y st W1 ?_
  have hBa : Brk (W1.alloc (.cells (cellsOf r y.v) 27)) x st b now (.pointer (some ⟨qb, 0, none⟩)) := hB.tch (t1.alloc _) (by simp) (by simp) (by simp)
  refine plan_S (fun t w' => Tch S W1 w' ∧ K t w') k r y st b qb now _ hop hq hBa.hst hBa.hb ?_
  intro W2 ht2
  refine (hSend W2 y (((t1.alloc _)).trans ht2 (by simp))).mono ?_
  rintro e w' ⟨av, chg, rfl, ht3, hown, hch⟩
  refine ⟨av, chg, rfl, ht3, hown, fun w2 ht4 => ?_⟩
  have ta : Tch [] W1 w2 := ((((Tch.refl [] W1).alloc _).trans ht2 (by simp)).trans ht3 (by simp)).trans ht4 (by simp)
  rcases hch w2 ht4 with ⟨rfl, h1, h2⟩ | ⟨f, cap, rfl, eg, hc⟩
  · exact .inl ⟨rfl, (ta.sub (by simp)).trans h1 (fun _ h _ => h), h2⟩
  · refine .inr ⟨f, cap, rfl, eg, hc.mono ?_⟩
    rintro e w3 ⟨rfl, h1, h2⟩
    exact ⟨rfl, (ta.sub (by simp)).trans h1 (fun _ h _ => h), h2⟩

/-- What was sent is told again, and nothing changes. -/
theorem asked_found (B : Nat) (c r : Wp.Rq) (x st b qb gd cd : Nat) (d : Dd) (now next : Int) (ms rs at_ : Value) (w : World) (hw : Wf r) (hright : rightW r nil0 (Wp.short []) = true) (hop : r.op = 83) (hq : r.q = 97) (hL : Lays B w) (hBw : B ≤ w.heap.size) (hT : Tab w) (h3 : 3 ≤ w.heap.size)
    (hB : Brk w x st b now (.pointer (some ⟨qb, 0, none⟩))) (hQ : Qb w qb c next ms rs (.slice (some ⟨gd, 0, none⟩) 1 cd) at_) (hbod : r.bod.size ≤ 40)
    (hgd : gd < w.heap.size) (hc : ∀ i v, d.row[i]? = some v → w.cell? ⟨gd, i, none⟩ = some v) (hid : d.id = didS r) (hnum : d.num = 1) :
    Calls Tryz.prog 18 #[.pointer (some ⟨x, 0, none⟩), .agg (cellsOf r nil0.v)] w fun e w' => e = .returned (.string (okN 1)) ∧ Tch [] w w' := by
  have h := asked_S B (fun t w' => t = okN 1 ∧ Tch [] w w') 1 [] r x st b qb now w hw hright hop hq hL hBw hB (by simp) (by simp) (fun W y ht => ?_)
  · exact h.mono fun e w' ⟨t, he, ht, h2⟩ => ⟨by rw [he, ht], h2⟩
  · refine (send_found c r y qb gd cd d now next ms rs at_ W (hQ.tch ht (by simp)) hbod (hT.tch ht (by simp) h3) (by have := ht.size; omega) (Nat.lt_of_lt_of_le hgd ht.size) (fun i v hi => (ht.cell (a := ⟨gd, i, none⟩) hgd (by simp)).trans (hc i v hi)) hid hnum).mono ?_
    rintro e w' ⟨av, rfl, hown, hb⟩
    exact ⟨av, .nilFunc, rfl, Tch.of_below hb, ⟨_, hown⟩, fun w2 ht2 => .inl ⟨rfl, Tch.refl _ _, rfl, (ht.trans (Tch.of_below hb) (by simp)).trans ht2 (by simp)⟩⟩

/-- What is new is taken. -/
theorem asked_new (B : Nat) (K : World → Prop) (c r : Wp.Rq) (x st b qb k nm nr cd : Nat) (now : Int) (ad : Option Addr) (ms rs at_ : Value) (xm xr : List Value) (w : World) (hw : Wf r) (hright : rightW r nil0 (Wp.short []) = true) (hop : r.op = 83) (hq : r.q = 97) (hL : Lays B w) (hBw : B ≤ w.heap.size) (hT : Tab w) (h3 : 3 ≤ w.heap.size)
    (hB : Brk w x st b now (.pointer (some ⟨qb, 0, none⟩))) (hQ : Qb w qb c (k : Int) ms rs (.slice ad 0 cd) at_) (hbod : r.bod.size ≤ 40)
    (hm : w.ownsRow 0 214 5 ms nm xm) (hr : w.ownsRow 0 9 1 rs nr xr) (hd : w.ownsRow 0 219 3 (.slice ad 0 cd) 0 []) (hv : Ms1 w ms) (hnm : nm ≤ 1) (hnr : nr ≤ 1000) (hk : k ≤ 200) (hquo : (nm : Int) < c.quo)
    (hwin : 0 < c.win ∧ c.win ≤ 1001) (hnow : 0 ≤ now ∧ now ≤ 60000)
    (hK : ∀ w' ms' rs' ds', Brk w' x st b now (.pointer (some ⟨qb, 0, none⟩)) → Qb w' qb c ((k + 1 : Nat) : Int) ms' rs' ds' at_ → w'.ownsRow 0 214 5 ms' (nm + 1) (xm ++ msV k r.grp r.bod) → (∃ nr' xr', w'.ownsRow 0 9 1 rs' nr' xr' ∧ nr' ≤ nr + 1) → w'.ownsRow 0 219 3 ds' 1 (ddV (didS r) k (now + c.win)) → NewOr w ms ms' → NewOr w rs rs' → (∀ j, ds'.ownBlock = some j → Value.ownBlock (.slice ad 0 cd) = some j ∨ w.heap.size ≤ j) → Tch (qb :: (bl (.slice ad 0 cd) ++ (bl ms ++ bl rs))) w w' → K w') :
    Calls Tryz.prog 18 #[.pointer (some ⟨x, 0, none⟩), .agg (cellsOf r nil0.v)] w fun e w' => e = .returned (.string (okN k)) ∧ K w' := by
  have hmv : ∃ am cm, ms = .slice am nm cm := by
    rcases hm.2 with ⟨rfl, rfl⟩ | ⟨g, cap, cur, rfl, _⟩
    · exact ⟨_, _, rfl⟩
    · exact ⟨_, _, rfl⟩
  obtain ⟨am, cm, hmv⟩ := hmv
  have hSlt : ∀ j ∈ (qb :: (bl (.slice ad 0 cd) ++ (bl ms ++ bl rs))), j < w.heap.size := fun j hj => by
    rcases List.mem_cons.1 hj with h | h
    · rw [h]; exact hQ.lt
    · rcases List.mem_append.1 h with h | h
      · exact own_lt hd (mem_bl.1 h)
      · rcases List.mem_append.1 h with h | h
        · exact own_lt hm (mem_bl.1 h)
        · exact own_lt hr (mem_bl.1 h)
  have hap : ∀ (j : Nat) (C : Array Value) (t : TypeId), w.heap[j]? = some (.cells C t (0, 0)) → t ≠ 208 → t ≠ 219 → t ≠ 214 → t ≠ 9 → j ∉ (qb :: (bl (.slice ad 0 cd) ++ (bl ms ++ bl rs))) := fun j C t hj h1 h2 h3 h4 hmem => by
    rcases List.mem_cons.1 hmem with h | h
    · subst h
      rw [hQ] at hj
      simp at hj
      exact h1 hj.2.symm
    · rcases List.mem_append.1 h with h | h
      · exact own_ne hd hj (fun e => h2 e.symm) (mem_bl.1 h)
      · rcases List.mem_append.1 h with h | h
        · exact own_ne hm hj (fun e => h3 e.symm) (mem_bl.1 h)
        · exact own_ne hr hj (fun e => h4 e.symm) (mem_bl.1 h)
  have h := asked_S B (fun t w' => t = okN k ∧ K w') k (qb :: (bl (.slice ad 0 cd) ++ (bl ms ++ bl rs))) r x st b qb now w hw hright hop hq hL hBw hB hSlt (hap x _ _ hB.hx (by decide) (by decide) (by decide) (by decide)) (fun W y ht => ?_)
  · exact h.mono fun e w' ⟨t, he, ht, h2⟩ => ⟨by rw [he, ht], h2⟩
  · subst hmv
    refine (send_new c r y qb k nm cm cd am ad now rs at_ W (hQ.tch ht (by simp)) hbod (hT.tch ht (by simp) h3) (by have := ht.size; omega) hquo hk).mono ?_
    rintro e w' ⟨av, gi, rfl, hown, hb, b0, bi, b1, b2⟩
    have t1 : Tch [] w w' := ht.trans (Tch.of_below hb) (by simp)
    refine ⟨av, _, rfl, Tch.of_below hb, ⟨_, hown⟩, fun w2 ht2 => ?_⟩
    have t2 : Tch [] w w2 := t1.trans ht2 (by simp)
    have kp : ∀ j o, w'.heap[j]? = some o → w2.heap[j]? = some o := fun j o hj => (ht2.block j (lt_of_block hj) (by simp)).trans hj
    refine .inr ⟨158, _, rfl, eg158, ?_⟩
    refine sent_walk (fun w3 => Tch _ w2 w3 ∧ okN k = okN k ∧ K w3) c r y (didS r) qb k nm nr cd W.heap.size gi (W.heap.size + 1) (W.heap.size + 2) now ad _ rs at_ xm xr w2 (hQ.tch t2 (by simp)) (own_tch hm t2 (fun _ _ => by simp)) (own_tch hr t2 (fun _ _ => by simp)) (own_tch hd t2 (fun _ _ => by simp)) (ms1_tch hv t2 (fun _ _ => by simp)) hnm hnr hk hwin hnow (kp _ _ b0) (kp _ _ bi) (kp _ _ b1) (kp _ _ b2) ?_
    intro w3 ms' rs' ds' hq3 hm3 hr3 hd3 hN1 hN2 hj3 ht3
    have t3 := (t2.sub (by simp)).trans ht3 (fun _ h _ => h)
    refine ⟨ht3, rfl, hK w3 ms' rs' ds' (hB.tch t3 (hap x _ _ hB.hx (by decide) (by decide) (by decide) (by decide)) (hap st _ _ hB.hst (by decide) (by decide) (by decide) (by decide)) (hap _ _ _ hB.hb (by decide) (by decide) (by decide) (by decide))) hq3 hm3 hr3 hd3 (hN1.mono t2.size) (hN2.mono t2.size) (fun j hj => ?_) t3⟩
    rcases hj3 j hj with h | h
    · exact .inl h
    · exact .inr (by have := t2.size; omega)
end Go.Proofs.YtohanpmkgpcdcaaGreatDoor
