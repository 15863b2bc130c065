/-
  A BROKER WITH WHATEVER IT HAS: what it is asked (18), and what is left behind it. Purge (162), its closure (208).
-/
import Derived.Test.YtbdobaapadlcjaaGreatDoorMx41
import Derived.Test.YtbdobaapadlcjaaGreatDoorMx45
import Derived.Test.YtbdobaapadlcjaaGreatDoorMx37
import Derived.Test.YtbdobaapadlcjaaGreatDoorMx46
import Derived.Test.YtbdobaapadlcjaaGreatDoorMx47
import Derived.Test.YtbdobaapadlcjaaGreatDoorMx25
import Derived.Deep.DeepCutAuto
namespace Go.Proofs.YtbdobaapadlcjaaGreatDoor
open Go.RowKit
set_option linter.unusedVariables false
set_option linter.unusedSimpArgs false

/-- A broker in x: its time, what its queues have; the colours of its blocks. -/
structure Bk (B : Nat) (w : World) (x st b : Nat) (now : Int) (c : Nat → Option QM) (col : Nat → Nat) : Prop where
  sg : ∃ Z, SG B w st b now Z col ∧ ctZ Z = c
  wf : WFc c
  nw : 0 ≤ now ∧ now ≤ 60000
  jg : ∃ o room, Jg B w x st o room
theorem Bk.tch {B : Nat} {w w' : World} {x st b : Nat} {now : Int} {c : Nat → Option QM} {col : Nat → Nat} (h : Bk B w x st b now c col) (ht : Tch [] w w') : Bk B w' x st b now c col := by
  obtain ⟨⟨Z, h1, h2⟩, h3, h4, o, room, h5⟩ := h
  exact ⟨⟨Z, h1.tch ht, h2⟩, h3, h4, o, room, h5.tch ht⟩
/-- What an answered request leaves. -/
def Did (B x st b : Nat) (w : World) (col : Nat → Nat) (now : Int) (c : Nat → Option QM) (w' : World) : Prop := ∃ col', Bk B w' x st b now c col' ∧ Agr w col col' ∧ FqT TA B col w w'
theorem did_same {B x st b : Nat} {w w' : World} {col : Nat → Nat} {now : Int} {c : Nat → Option QM} (h : Bk B w x st b now c col) (hB : B ≤ w.heap.size) (ht : Tch [] w w') : Did B x st b w col now c w' := ⟨col, h.tch ht, Agr.refl _ _, FqT.of_nil col ht hB⟩
theorem Jg.fq {B : Nat} {w w' : World} {x st : Nat} {o : Option ByteArray} {room : Int} {c : Nat → Nat} (h : Jg B w x st o room) (ht : Fq B c w w') : Jg B w' x st o room := by
  obtain ⟨j, d, v, n, k, h⟩ := h
  exact ⟨j, d, v, n, k, ht.keep _ _ _ h.hx (by decide), ⟨ht.keep _ _ _ h.jr.hj (by decide), ⟨ht.keep _ _ _ h.jr.dsk.blk (by decide), ht.own h.jr.dsk.own (by decide), h.jr.dsk.sep⟩, h.jr.gd⟩, h.lo, h.bd⟩
theorem fr_fq {B : Nat} {w w2 w3 : World} (col : Nat → Nat) (h2 : Tch [] w w2) (h3 : Fr B TJ w2 w3) (hB : B ≤ w.heap.size) : FqT TA B col w w3 := (FqT.of_nil col h2 hB).trans (Agr.refl _ _) (FqT.of_fr h3 (by decide))
/-- A state of which something changed when it was laid down. -/
theorem did_of {B x st b : Nat} {w w2 w3 w' : World} {col : Nat → Nat} {now now' : Int} {Z Z' : Nat → Option BQ} {col' : Nat → Nat} {o : Option ByteArray} {room : Int} {c' : Nat → Option QM} (hB : B ≤ w.heap.size) (h2 : Tch [] w w2) (h3 : Fr B TJ w2 w3) (hJ : Jg B w3 x st o room)
    (hs : SG B w' st b now' Z' col') (hc : ctZ Z' = c') (hW : WFc c') (hn : 0 ≤ now' ∧ now' ≤ 60000) (ha : Agr w3 col col') (hf : Fq B col w3 w') : Did B x st b w col now' c' w' := by
  have hsz := h2.size
  have hsz3 := h3.size
  exact ⟨col', ⟨⟨Z', hs, hc⟩, hW, hn, o, room, hJ.fq hf⟩, fun k hk => ha k (by omega), (fr_fq col h2 h3 hB).trans (Agr.refl _ _) (hf.mono ts_ta)⟩
theorem did_n {B x st b : Nat} {w w2 w3 w' : World} {col : Nat → Nat} {now : Int} {Z : Nat → Option BQ} {o : Option ByteArray} {room : Int} {c' : Nat → Option QM} (hB : B ≤ w.heap.size) (h2 : Tch [] w w2) (h3 : Fr B TJ w2 w3) (hJ : Jg B w3 x st o room) (hn : SGn B st b now w3 w' Z col c') (hW : WFc c') (ht : 0 ≤ now ∧ now ≤ 60000) : Did B x st b w col now c' w' := by
  obtain ⟨Z', col', k1, k2, k3, k4, k5, k6, k7⟩ := hn
  exact did_of (now := now) (Z := Z) hB h2 h3 hJ k1 k2 hW ht k4 k5
theorem SG.lay {B : Nat} {w w2 w3 : World} {st b : Nat} {now : Int} {Z : Nat → Option BQ} {col : Nat → Nat} (h : SG B w st b now Z col) (h2 : Tch [] w w2) (h3 : Fr B TJ w2 w3) : SG B w3 st b now Z col := (h.tch h2).fr h3 (by decide) (by decide) (by decide)

/-- asked (18), out of what Plan leaves. -/
theorem ask_g (K : ByteArray → World → Prop) (B : Nat) (r : Wp.Rq) (x st b : Nat) (now : Int) (c : Nat → Option QM) (col : Nat → Nat) (w : World) (hE : Env B w) (hb : Bk B w x st b now c col) (hw : Wf r) (hright : rightW r nil0 (Wp.short []) = true) (hsm : (printS r nil0 []).size ≤ 90000)
    (hP : ∀ Z o room, SG B w st b now Z col → ctZ Z = c → ∀ (W : World) (y : Sl), Tch [] w W → Calls Tryz.prog 62 #[.pointer (some ⟨st, 0, none⟩), .agg (cellsOf r y.v)] W fun e w' => Tch [] W w' ∧ PlG B (fun w => Jg B w x st o room) K e w') :
    Calls Tryz.prog 18 #[.pointer (some ⟨x, 0, none⟩), .agg (cellsOf r nil0.v)] w fun e w' => ∃ t, e = .returned (.string t) ∧ K t w' := by
  obtain ⟨⟨Z, hs, hc⟩, hwf, hnw, o, room, hJ⟩ := hb
  refine asked_walk K B r x w hright hE.lays hE.size ?_
  intro W hbW
  obtain ⟨hg, hr, _⟩ := print_good r nil0 [] hw rfl hright
  have tb := Tch.of_below hbW
  have hsW := hs.tch tb
  have hEW := hE.tch tb (by simp)
  have hOk : ∀ i x, i < 8 → Z i = some x → QOk x.Q := fun i x hi hx => (hwf i x.Q hi (by rw [← hc]; exact ctZ_some hx)).ok
  refine bdo_g K B o room ⟨(wholeB now Z).toArray⟩ (printS r nil0 []) r x st _ W hsm hEW.lays hEW.tab hEW.size hEW.three hg hr (hJ.tch tb) (by rw [rec_sz]; have := wholeB_len (now := now) hOk; omega) hsW.stb (fun W1 hf1 => ?_) ?_
  · exact whole_any B st b now Z col W1 (hsW.fr hf1 (by decide) (by decide) (by decide)) ⟨hnw.1, by have := hnw.2; omega⟩ hOk
  · intro W1 y ht1
    exact hP Z _ _ hs hc W1 y (tb.trans ht1 (by simp))

theorem eg159 : ∀ args w, (callFunc 159 args).run Tryz.prog w = .ok (.enter 159 args) w := enters_of Tryz.func159 (by kernel_rfl) rfl
theorem eg165 : ∀ args w, (callFunc 165 args).run Tryz.prog w = .ok (.enter 165 args) w := enters_of Tryz.func165 (by kernel_rfl) rfl
theorem eg157 : ∀ args w, (callFunc 157 args).run Tryz.prog w = .ok (.enter 157 args) w := enters_of Tryz.func157 (by kernel_rfl) rfl
theorem eg207 : ∀ args w, (callFunc 207 args).run Tryz.prog w = .ok (.enter 207 args) w := enters_of Tryz.func207 (by kernel_rfl) rfl
theorem eg163 : ∀ args w, (callFunc 163 args).run Tryz.prog w = .ok (.enter 163 args) w := enters_of Tryz.func163 (by kernel_rfl) rfl
theorem eg164 : ∀ args w, (callFunc 164 args).run Tryz.prog w = .ok (.enter 164 args) w := enters_of Tryz.func164 (by kernel_rfl) rfl
theorem eg201 : ∀ args w, (callFunc 201 args).run Tryz.prog w = .ok (.enter 201 args) w := enters_of Tryz.func201 (by kernel_rfl) rfl
theorem eg220 : ∀ args w, (callFunc 220 args).run Tryz.prog w = .ok (.enter 220 args) w := enters_of Tryz.func220 (by kernel_rfl) rfl
theorem eg195 : ∀ args w, (callFunc 195 args).run Tryz.prog w = .ok (.enter 195 args) w := enters_of Tryz.func195 (by kernel_rfl) rfl

/-- A queue is made. -/
def newM (r : Wp.Rq) : QM := ⟨r, 1, [], [], [], []⟩
def nilV : QV := ⟨.slice none 0 0, .slice none 0 0, .slice none 0 0, .slice none 0 0⟩
theorem newM_wf {i : Nat} {r : Wp.Rq} (h : CfW i r) : QW i (newM r) :=
  { c := h, nx := ⟨by show 1 ≤ 1; omega, by show 1 ≤ 201; omega⟩, mq := by show ((0 : Nat) : Int) ≤ r.quo; have := h.quo.1; omega, nums := List.Pairwise.nil, mok := fun m hm => by simp [newM] at hm, hd := fun m hm => by simp [newM] at hm, rn := List.nodup_nil, rr := fun g => by simp [newM], dn := List.Pairwise.nil, dok := fun m hm => by simp [newM] at hm, al := by simp [newM], aok := fun m hm => by simp [newM] at hm }
theorem SG.crt {B : Nat} {w w' : World} {st b i : Nat} {now : Int} {Z : Nat → Option BQ} {col : Nat → Nat} (h : SG B w st b now Z col) (hB : B ≤ w.heap.size) (hi : i < 8) (r : Wp.Rq) (ht : Tch [st] w w') (hz : w'.heap.size = w.heap.size + 2) (hs : Stb w' st b now (updP (fun i => ptrV (ptZ Z i)) i (.pointer (some ⟨w.heap.size + 1, 0, none⟩))))
    (hq : w'.heap[w.heap.size + 1]? = some (.cells (qC r 1 (.slice none 0 0) (.slice none 0 0) (.slice none 0 0) (.slice none 0 0)) 191 (0, 0))) :
    ∃ col', SG B w' st b now (updZ Z i (some ⟨w.heap.size + 1, nilV, newM r⟩)) col' ∧ Agr w col col' ∧ Fq B col w w' := by
  have hst0 : w.heap[st]? = _ := h.stb
  have hns : ∀ {k : Nat} {C : Array Value} {t : TypeId}, w.heap[k]? = some (.cells C t (0, 0)) → t ≠ 156 → k ∉ [st] := fun {k C t} hk hne hm => by
    simp at hm
    subst hm
    rw [hst0] at hk
    simp at hk
    exact hne hk.2.symm
  have hbl : qbl (w.heap.size + 1) nilV = [w.heap.size + 1] := rfl
  refine ⟨fun k => if k < w.heap.size then col k else i, ⟨?_, ?_, ?_, ?_, ?_, h.ls⟩, fun k hk => by simp [hk], ?_⟩
  · have e : (fun j => ptrV (ptZ (updZ Z i (some ⟨w.heap.size + 1, nilV, newM r⟩)) j)) = updP (fun i => ptrV (ptZ Z i)) i (.pointer (some ⟨w.heap.size + 1, 0, none⟩)) := by
      funext j
      unfold updP ptZ updZ
      by_cases e : j = i
      · simp [e, ptrV]
      · simp [e]
    rw [e]
    exact hs
  · exact fun q f hq => (ht.block _ (lt_of_block (h.tb q f hq)) (hns (h.tb q f hq) (by decide))).trans (h.tb q f hq)
  · intro q z hq' hz'
    by_cases e : q = i
    · subst e
      rw [updZ_same] at hz'
      injection hz' with hz'
      subst hz'
      exact ⟨hq, World.ownsRow_nil _ _ _ _, World.ownsRow_nil _ _ _ _, World.ownsRow_nil _ _ _ _, World.ownsRow_nil _ _ _ _⟩
    · rw [updZ_ne _ _ e] at hz'
      exact (h.qr q z hq' hz').tch ht (fun k hk hm => by
        simp at hm
        subst hm
        exact (h.qr q z hq' hz').nty h.stb (by decide) hk)
  · intro q z hq' hz' k hk
    by_cases e : q = i
    · subst e
      rw [updZ_same] at hz'
      injection hz' with hz'
      subst hz'
      rw [hbl] at hk
      simp at hk
      subst hk
      exact if_neg (by omega)
    · rw [updZ_ne _ _ e] at hz'
      simp [(h.qr q z hq' hz').lt k hk, h.cl q z hq' hz' k hk]
  · intro q z hq' hz' k hk
    by_cases e : q = i
    · subst e
      rw [updZ_same] at hz'
      injection hz' with hz'
      subst hz'
      rw [hbl] at hk
      simp at hk
      omega
    · rw [updZ_ne _ _ e] at hz'
      exact h.lo q z hq' hz' k hk
  · refine FqT.of_tch ht hB (fun k hk => ?_) (fun k hk C t hC => ?_)
    · simp at hk
      subst hk
      exact h.ls
    · simp at hk
      subst hk
      rw [hst0] at hC
      simp at hC
      rw [← hC.2]
      exact ⟨by decide, fun e => absurd e (by decide)⟩
theorem pt_of {Z : Nat → Option BQ} {c : Nat → Option QM} (hc : ctZ Z = c) {i : Nat} (h : c i = none) : Z i = none := ctZ_none (by rw [hc]; exact h)
/-- The Op C where there is no such queue. -/
theorem op_C (B : Nat) (r : Wp.Rq) (x st b i : Nat) (now : Int) (c : Nat → Option QM) (col : Nat → Nat) (w : World) (hE : Env B w) (hb : Bk B w x st b now c col) (hop : r.op = 67) (hi : i < 8) (hq : r.q.toNat = 97 + i) (hcf : CfW i r) (hno : c i = none) (Z : Nat → Option BQ) (o : Option ByteArray) (room : Int) (hs : SG B w st b now Z col) (hc : ctZ Z = c) (W : World) (y : Sl) (ht : Tch [] w W) :
    Calls Tryz.prog 62 #[.pointer (some ⟨st, 0, none⟩), .agg (cellsOf r y.v)] W fun e w' => Tch [] W w' ∧ PlG B (fun w => Jg B w x st o room) (fun t w' => t = okL [] ∧ Did B x st b w col now (setC c i (some (newM r))) w') e w' := by
  refine plan_p B _ _ r y st b 2 159 now _ W (by rw [hop]; rfl) (by decide) (hs.tch ht).stb rfl eg159 ?_
  intro W1 ht1
  have tW := ht.trans ht1 (by simp)
  have hz : Z i = none := pt_of hc hno
  refine (crt_ok r y st W1 (fun W2 ht2 => ?_)).mono ?_
  · have h1 := at_g st b i now _ W2 (hs.tch (tW.trans ht2 (by simp))).stb hi
    have e : ((r.q.toNat : Nat) : Int) = 97 + (i : Int) := by rw [hq]; omega
    rw [e]
    have e2 : ptrV (ptZ Z i) = .pointer none := by unfold ptZ; rw [hz]; rfl
    rw [e2] at h1
    exact h1
  · rintro e w1 ⟨gr, gs, rfl, ht2, hgr, hgs⟩
    refine ⟨ht2, .inr ⟨_, _, [], rfl, .inl ⟨rfl, rfl⟩, fun w2 ht3 => .inr ⟨201, _, rfl, eg201, fun w3 w4 ht4 hf4 hJ4 => ?_⟩⟩⟩
    have t23 : Tch [] w1 w3 := ht3.trans ht4 (by simp)
    have t3 : Tch [] w w3 := (tW.trans ht2 (by simp)).trans t23 (by simp)
    have hs4 := hs.lay t3 hf4
    have hz3 := t3.size
    have hz4 := hf4.size
    have kgr := hf4.keep _ _ _ ((t23.block _ (lt_of_block hgr) (by simp)).trans hgr) (by decide)
    have kgs := hf4.keep _ _ _ ((t23.block _ (lt_of_block hgs) (by simp)).trans hgs) (by decide)
    refine (made_sg r y gr gs st b i now _ w4 hq hi hs4.stb kgr kgs).mono ?_
    rintro e w5 ⟨rfl, k1, k2, k3, k4⟩
    obtain ⟨col', j1, j2, j3⟩ := hs4.crt (by have := hE.size; omega) hi r k1 k2 k3 k4
    refine ⟨rfl, rfl, did_of (now := now) (Z := Z) hE.size t3 hf4 hJ4 j1 ?_ (hb.wf.set (newM_wf hcf)) hb.nw j2 j3⟩
    rw [ctZ_upd, hc]
    rfl
/-- The Op T. -/
theorem op_T (B : Nat) (r : Wp.Rq) (x st b : Nat) (now : Int) (c : Nat → Option QM) (col : Nat → Nat) (w : World) (hE : Env B w) (hb : Bk B w x st b now c col) (hop : r.op = 84) (hn : 0 ≤ r.tic ∧ now + r.tic ≤ 60000) (Z : Nat → Option BQ) (o : Option ByteArray) (room : Int) (hs : SG B w st b now Z col) (hc : ctZ Z = c) (W : World) (y : Sl) (ht : Tch [] w W) :
    Calls Tryz.prog 62 #[.pointer (some ⟨st, 0, none⟩), .agg (cellsOf r y.v)] W fun e w' => Tch [] W w' ∧ PlG B (fun w => Jg B w x st o room) (fun t w' => t = okL [] ∧ Did B x st b w col (now + r.tic) (timeC (now + r.tic) c) w') e w' := by
  refine plan_p B _ _ r y st b 19 165 now _ W (by rw [hop]; rfl) (by decide) (hs.tch ht).stb rfl eg165 ?_
  intro W1 ht1
  have tW := ht.trans ht1 (by simp)
  have hnw := hb.nw
  refine (goOn_c r y st now W1 (hs.tch tW).stb.now ⟨hnw.1, hn.1, hn.2⟩).mono ?_
  rintro e w1 ⟨gs, gl, rfl, ht2, hgs, hgl⟩
  refine ⟨ht2, .inr ⟨_, _, [], rfl, .inl ⟨rfl, rfl⟩, fun w2 ht3 => .inr ⟨220, _, rfl, eg220, fun w3 w4 ht4 hf4 hJ4 => ?_⟩⟩⟩
  have t23 : Tch [] w1 w3 := ht3.trans ht4 (by simp)
  have t3 : Tch [] w w3 := (tW.trans ht2 (by simp)).trans t23 (by simp)
  have hs4 := hs.lay t3 hf4
  have hz3 := t3.size
  have hz4 := hf4.size
  have kgs := hf4.keep _ _ _ ((t23.block _ (lt_of_block hgs) (by simp)).trans hgs) (by decide)
  have kgl := hf4.keep _ _ _ ((t23.block _ (lt_of_block hgl) (by simp)).trans hgl) (by decide)
  refine went_walk _ gs gl st (now + r.tic) w4 kgs kgl ((set_sg B st b now (now + r.tic) Z col w4 hs4 (by have := hE.size; omega) (by rw [hc]; exact hb.wf)).mono ?_)
  rintro e w5 ⟨rfl, Z', col', k1, k2, k3, k4, k5, k6⟩
  refine ⟨rfl, rfl, ?_⟩
  rw [hc] at k2
  rw [k2] at k3
  exact did_of (now := now) (Z := Z) hE.size t3 hf4 hJ4 k1 k2 k3 ⟨by omega, hn.2⟩ k5 k6
end Go.Proofs.YtbdobaapadlcjaaGreatDoor

namespace Go.Proofs.YtbdobaapadlcjaaGreatDoor
open Go.RowKit
set_option linter.unusedVariables false
set_option linter.unusedSimpArgs false

/-- The queue behind a purge. -/
def purgQ (Q : QM) : QM := { Q with ms := [], rs := [], ats := [] }
end Go.Proofs.YtbdobaapadlcjaaGreatDoor
