/-
  asked (18) at the Ops S, R, T, whatever the queue has.
  The keep-statements' small functions: low (19), fine (35), number (36), find (37), text (38).
  What holds of a queue to which messages were sent alone; named (16), dedup (17) for good; number (36) of an answer.
  send of the line (20).
-/
import Derived.Test.YtbdobaapadlcjaaGreatDoorQm2
import Derived.Test.YtbdobaapadlcjaaGreatDoorTlA
import Derived.Test.YtbdobaapadlcjaaGreatDoorTlB
import Derived.Deep.DeepCutAuto
import Derived.BigQuiet
namespace Go.Proofs.YtbdobaapadlcjaaGreatDoor
open Go.RowKit
set_option linter.unusedVariables false
set_option linter.unusedSimpArgs false

/-- The types of what a broker writes. -/
abbrev TG : List TypeId := [234, 143, 110, 116, 156, 191, 226, 230, 9]
/-- A broker with a queue a that has whatever it has; good for m more requests. -/
structure GQ (B m : Nat) (w : World) (x st b qb : Nat) (now : Int) (V : QV) (Q : QM) : Prop where
  brk : Brk w st b now (.pointer (some ⟨qb, 0, none⟩))
  qr : QR w qb V Q
  jn : Jn false B m w x st
  lo : ∀ k ∈ st :: qbl qb V, B ≤ k
theorem Jn.less {B m : Nat} {w : World} {x st : Nat} (h : Jn false B (m + 1) w x st) : Jn false B m w x st := by
  obtain ⟨j, d, room, v, fs, n, k, h⟩ := h
  refine ⟨j, d, room, v, fs, n, k, h.hx, h.jr, h.lo, ?_, ?_⟩
  · have := h.ro
    simp only [Bool.false_eq_true, if_false] at this ⊢
    omega
  · have := h.bd
    omega
theorem GQ.tch {B m : Nat} {w w' : World} {x st b qb : Nat} {now : Int} {V : QV} {Q : QM} (h : GQ B m w x st b qb now V Q) (ht : Tch [] w w') : GQ B m w' x st b qb now V Q :=
  ⟨h.brk.tch ht (by simp) (by simp), h.qr.tch ht (by simp), h.jn.tch ht, h.lo⟩
theorem GQ.less {B m : Nat} {w : World} {x st b qb : Nat} {now : Int} {V : QV} {Q : QM} (h : GQ B (m + 1) w x st b qb now V Q) : GQ B m w x st b qb now V Q := ⟨h.brk, h.qr, h.jn.less, h.lo⟩
theorem GQ.keep {B m : Nat} {T : List TypeId} {w w' : World} {x st b qb : Nat} {now : Int} {V : QV} {Q : QM} (h : GQ B m w x st b qb now V Q) (hf : Fr B T w w') (hT : ∀ t ∈ [156, 221, 191, 226, 9, 230, 234, 99, 143, 110, 116], t ∉ T) : GQ B m w' x st b qb now V Q :=
  ⟨⟨hf.keep _ _ _ h.brk.hst (hT _ (by decide)), h.brk.tb.fr hf (hT _ (by decide))⟩, h.qr.keep hf (fun t ht => hT t (by revert t; decide)), h.jn.keep hf (hT _ (by decide)) (hT _ (by decide)) (hT _ (by decide)) (hT _ (by decide)), h.lo⟩

/-- What follows a closure that changes the queue alone. -/
theorem GQ.after {B m : Nat} {w w3 w4 : World} {x st b qb : Nat} {now : Int} {V : QV} {Q Q' : QM} (hBw : B ≤ w.heap.size) (hb : Brk w st b now (.pointer (some ⟨qb, 0, none⟩))) (hq : QR w qb V Q) (hlo : ∀ k ∈ st :: qbl qb V, B ≤ k) (f3 : Fr B TJ w w3) (hj3 : Jn false B m w3 x st) (hl : QL w3 w4 qb V Q') : Fr B TG w w4 ∧ ∃ V', GQ B m w4 x st b qb now V' Q' := by
  obtain ⟨V', hq', ht', hn'⟩ := hl
  have z3 := f3.size
  have hq3 : QR w3 qb V Q := hq.keep f3 (by decide)
  have f4 : Fr B TQ w3 w4 := hq3.fr (by omega) (fun k hk => hlo k (List.mem_cons_of_mem _ hk)) ht'
  refine ⟨(f3.mono (by decide)).trans (f4.mono (by decide)), V', ⟨f4.keep _ _ _ (f3.keep _ _ _ hb.hst (by decide)) (by decide), (hb.tb.fr f3 (by decide)).fr f4 (by decide)⟩, hq', hj3.keep f4 (by decide) (by decide) (by decide) (by decide), fun k hk => ?_⟩
  rcases List.mem_cons.1 hk with e | e
  · rw [e]; exact hlo st (by simp)
  · rcases hn' k e with h | h
    · exact hlo k (List.mem_cons_of_mem _ h)
    · omega

/-- What was sent is told again. -/
theorem send_known (B m : Nat) (Q : QM) (V : QV) (r : Wp.Rq) (x st b qb i num : Nat) (now : Int) (w : World) (hw : Wf r) (hright : rightW r nil0 (Wp.short []) = true) (hop : r.op = 83) (hq : r.q = 97) (hsm : (printS r nil0 []).size ≤ 300) (hL : Lays B w) (hT : Tab w) (hBw : B ≤ w.heap.size) (h3 : 3 ≤ B) (hm : m ≤ 24)
    (hG : GQ B (m + 1) w x st b qb now V Q) (hbod : r.bod.size ≤ 40) (hnd : Q.ds.length ≤ 1000) (hid : idxL (isI (didS r)) Q.ds = (i : Int)) (hi : i < Q.ds.length) (hnum : Q.ds[i].num = (num : Nat)) (hn : num < 4294967296) :
    Calls Tryz.prog 18 #[.pointer (some ⟨x, 0, none⟩), .agg (cellsOf r nil0.v)] w fun e w' => e = .returned (.string (okN num)) ∧ Tch [] w w' := by
  obtain ⟨gd, cd, hvd⟩ : ∃ g c, V.d = .slice (some ⟨g, 0, none⟩) Q.ds.length c := by
    rcases hG.qr.d.2 with ⟨h0, h1⟩ | ⟨g, cap, cur, h0, _⟩
    · omega
    · exact ⟨_, _, h0⟩
  have h := asked_S B m (fun t w' => t = okN num ∧ Tch [] w w') num r x st b qb now w hw hright hop hq hsm hL hT hBw h3 hm hG.jn hG.brk (fun W y ht => ?_)
  · exact h.mono fun e w' ⟨t, he, ht, h2⟩ => ⟨by rw [he, ht], h2⟩
  · have hqW := hG.qr.tch ht (by simp)
    have hb := hqW.blk
    have hd := hqW.d
    rw [hvd] at hb hd
    refine (sendg_found Q.c r y qb gd Q.ds.length cd i num Q.ds now (Q.next : Int) V.m V.r V.a W hb hbod (hT.tch ht (by simp) (by omega)) (by have := ht.size; omega) hd rfl hnd hid hi hnum hn).mono ?_
    rintro e w' ⟨av, rfl, hown, hb'⟩
    exact ⟨av, .nilFunc, rfl, Tch.of_below hb', ⟨_, hown⟩, fun w2 ht2 => .inl ⟨rfl, fun w3 ht3 => ⟨rfl, ((ht.trans (Tch.of_below hb') (by simp)).trans ht2 (by simp)).trans ht3 (by simp)⟩⟩⟩

/-- What is new is taken. -/
theorem send_fresh (B m : Nat) (Q : QM) (V : QV) (r : Wp.Rq) (x st b qb : Nat) (now : Int) (w : World) (hw : Wf r) (hright : rightW r nil0 (Wp.short []) = true) (hop : r.op = 83) (hq : r.q = 97) (hsm : (printS r nil0 []).size ≤ 300) (hL : Lays B w) (hT : Tab w) (hBw : B ≤ w.heap.size) (h3 : 3 ≤ B) (hm : m ≤ 24)
    (hG : GQ B (m + 1) w x st b qb now V Q) (hbod : r.bod.size ≤ 40) (hnm : Q.ms.length ≤ 1000) (hnr : Q.rs.length ≤ 1000) (hnd : Q.ds.length ≤ 1000) (hk : Q.next ≤ 200) (hwin : 0 ≤ Q.c.win ∧ Q.c.win ≤ 1001) (hnow : 0 ≤ now ∧ now ≤ 60000) (hid : idxL (isI (didS r)) Q.ds < 0) (hquo : (Q.ms.length : Int) < Q.c.quo) :
    Calls Tryz.prog 18 #[.pointer (some ⟨x, 0, none⟩), .agg (cellsOf r nil0.v)] w fun e w' => e = .returned (.string (okN Q.next)) ∧ Fr B TG w w' ∧ ∃ V', GQ B m w' x st b qb now V' (sendQ Q r now) := by
  obtain ⟨am, cm, hvm⟩ := own_shape hG.qr.m
  have h := asked_S B m (fun t w' => t = okN Q.next ∧ Fr B TG w w' ∧ ∃ V', GQ B m w' x st b qb now V' (sendQ Q r now)) Q.next r x st b qb now w hw hright hop hq hsm hL hT hBw h3 hm hG.jn hG.brk (fun W y ht => ?_)
  · exact h.mono fun e w' ⟨t, he, ht, h2⟩ => ⟨by rw [he, ht], h2⟩
  · have hqW := hG.qr.tch ht (by simp)
    have hb := hqW.blk
    rw [hvm] at hb
    refine (sendg_new Q.c r y qb Q.next Q.ms.length cm am Q.ds now V.r V.d V.a W hb hbod (hT.tch ht (by simp) (by omega)) (by have := ht.size; omega) hqW.d hnd hid hquo hk).mono ?_
    rintro e w' ⟨av, gi, rfl, hown, hb', b0, bi, b1, b2⟩
    have t1 : Tch [] w w' := ht.trans (Tch.of_below hb') (by simp)
    refine ⟨av, _, rfl, Tch.of_below hb', ⟨_, hown⟩, fun w1 ht1 => ?_⟩
    refine .inr ⟨218, _, rfl, eg158, fun w2 w3 ht2 hf3 hj3 => ?_⟩
    have t2 : Tch [] w w2 := (t1.trans ht1 (by simp)).trans ht2 (by simp)
    have f3 : Fr B TJ w w3 := (Fr.of_nil TJ t2 hBw).trans hf3
    have kp : ∀ (j : Nat) (C : Array Value) (t : TypeId), w'.heap[j]? = some (.cells C t (0, 0)) → t ∉ TJ → w3.heap[j]? = some (.cells C t (0, 0)) := fun j C t hj hT => hf3.keep j C t (((ht1.trans ht2 (by simp)).block j (lt_of_block hj) (by simp)).trans hj) hT
    refine (sent_q Q V r y qb W.heap.size gi (W.heap.size + 1) (W.heap.size + 2) now w3 (hG.qr.keep f3 (by decide)) hnm hnr hnd hk hwin hnow (kp _ _ _ b0 (by decide)) (kp _ _ _ bi (by decide)) (kp _ _ _ b1 (by decide)) (kp _ _ _ b2 (by decide))).mono ?_
    rintro e w4 ⟨rfl, hl⟩
    exact ⟨rfl, rfl, GQ.after hBw hG.brk hG.qr hG.lo f3 hj3 hl⟩

/-- The Op R, whatever Receive makes of it. -/
theorem asked_R (B m : Nat) (K : ByteArray → World → Prop) (l : List UInt8) (hl : l.length ≤ 10000) (hl0 : 0 < l.length) (r : Wp.Rq) (x st b qb : Nat) (now : Int) (w : World) (hw : Wf r) (hright : rightW r nil0 (Wp.short []) = true) (hop : r.op = 82) (hq : r.q = 97) (hsm : (printS r nil0 []).size ≤ 300) (hL : Lays B w) (hT : Tab w) (hBw : B ≤ w.heap.size) (h3 : 3 ≤ B) (hm : m ≤ 24)
    (hJ : Jn false B (m + 1) w x st) (hB : Brk w st b now (.pointer (some ⟨qb, 0, none⟩)))
    (hRecv : ∀ (W : World) (y : Sl), Tch [] w W → Calls Tryz.prog 163 #[.pointer (some ⟨qb, 0, none⟩), .int .i64 now, .agg (cellsOf r y.v)] W fun e w' => ∃ av chg, e = .returned (.tuple #[av, chg, .int .i64 0]) ∧ Tch [] W w' ∧ Rdb w' av l ∧ ∀ w2, Tch [] w' w2 → Chg B m x st K (okL l) chg w2) :
    Calls Tryz.prog 18 #[.pointer (some ⟨x, 0, none⟩), .agg (cellsOf r nil0.v)] w fun e w' => ∃ t, e = .returned (.string t) ∧ K t w' := by
  refine asked_walk K B r x w hright hL hBw ?_
  intro W hb
  obtain ⟨hg, hr, _⟩ := print_good r nil0 [] hw rfl hright
  have tb := Tch.of_below hb
  have hBW := hB.tch tb (by simp) (by simp)
  refine bdo_walk false K B m (printS r nil0 []) r x st _ W hsm (hL.below (hb.mono hBw)) (hT.fr (Fr.of_nil (B := B) [] tb hBw) h3) (Nat.le_trans hBw hb.size) h3 hg hr (hJ.tch tb) hm hBW.hst (fun h => by cases h) ?_
  intro W1 y ht1
  have t1 : Tch [] w W1 := tb.trans ht1 (by simp)
  have hB1 := hB.tch t1 (by simp) (by simp)
  refine plan_R B m x K l hl hl0 r y st b qb now W1 hop hq hB1.hst hB1.hr ?_
  intro W2 ht2
  exact hRecv W2 y (t1.trans ht2 (by simp))

/-- What was told is told again. -/
theorem recv_known (B m : Nat) (Q : QM) (V : QV) (r : Wp.Rq) (x st b qb i : Nat) (now : Int) (a : At) (w : World) (hw : Wf r) (hright : rightW r nil0 (Wp.short []) = true) (hop : r.op = 82) (hq : r.q = 97) (hsm : (printS r nil0 []).size ≤ 300) (hL : Lays B w) (hT : Tab w) (hBw : B ≤ w.heap.size) (h3 : 3 ≤ B) (hm : m ≤ 24)
    (hG : GQ B (m + 1) w x st b qb now V Q) (hna : Q.ats.length ≤ 1000) (hid : idxL (isA r.att) Q.ats = (i : Int)) (ha : Q.ats[i]? = some a) (has : 0 < a.ans.size) (hab : a.ans.size ≤ 10000) :
    Calls Tryz.prog 18 #[.pointer (some ⟨x, 0, none⟩), .agg (cellsOf r nil0.v)] w fun e w' => e = .returned (.string (okL a.ans.data.toList)) ∧ Tch [] w w' := by
  have h := asked_R B m (fun t w' => t = okL a.ans.data.toList ∧ Tch [] w w') a.ans.data.toList hab has r x st b qb now w hw hright hop hq hsm hL hT hBw h3 hm hG.jn hG.brk (fun W y ht => ?_)
  · exact h.mono fun e w' ⟨t, he, ht, h2⟩ => ⟨by rw [he, ht], h2⟩
  · refine (receive_found Q V r y qb i now W (hG.qr.tch ht (by simp)) hna hid a ha has).mono ?_
    rintro e w' ⟨av, rfl, hrd, ht'⟩
    exact ⟨av, .nilFunc, rfl, ht', hrd, fun w2 ht2 => .inl ⟨rfl, fun w3 ht3 => ⟨rfl, ((ht.trans ht' (by simp)).trans ht2 (by simp)).trans ht3 (by simp)⟩⟩⟩

theorem eg212 : ∀ args w, (callFunc 212 args).run Tryz.prog w = .ok (.enter 212 args) w := enters_of Tryz.func212 (by kernel_rfl) rfl
theorem ansL_pos (Q : QM) (cnt k : Nat) : 0 < (ansL Q cnt k).length := by
  unfold ansL
  rw [List.length_append, lowB_length]
  omega

/-- What is ready is given out. -/
theorem recv_fresh (B m : Nat) (Q : QM) (V : QV) (r : Wp.Rq) (x st b qb mx cnt : Nat) (now : Int) (w : World) (hw : Wf r) (hright : rightW r nil0 (Wp.short []) = true) (hop : r.op = 82) (hq : r.q = 97) (hsm : (printS r nil0 []).size ≤ 300) (hL : Lays B w) (hT : Tab w) (hBw : B ≤ w.heap.size) (h3 : 3 ≤ B) (hm : m ≤ 24)
    (hG : GQ B (m + 1) w x st b qb now V Q) (hna : Q.ats.length < 20) (hnr : Q.rs.length ≤ 1000) (hid : idxL (isA r.att) Q.ats < 0) (hmx : r.mx = (mx : Nat)) (hm1 : 1 ≤ mx ∧ mx ≤ 10) (hcnt : cnt = if mx ≤ Q.rs.length then mx else Q.rs.length) (hnow : 0 ≤ now ∧ now ≤ 60000) (hvis : 0 ≤ Q.c.vis ∧ Q.c.vis ≤ 1001) (hnm : Q.ms.length ≤ 1000) (hrd : ∀ g ∈ Q.rs, 0 ≤ idxL (isG g) Q.ms) (hms : ∀ m ∈ Q.ms, MsOk m) (hal : (ansL Q cnt cnt).length ≤ 10000) :
    Calls Tryz.prog 18 #[.pointer (some ⟨x, 0, none⟩), .agg (cellsOf r nil0.v)] w fun e w' => e = .returned (.string (okL (ansL Q cnt cnt))) ∧ Fr B TG w w' ∧ ∃ V', GQ B m w' x st b qb now V' (if cnt = 0 then Q else recvQ Q r.att cnt (now + Q.c.vis) (ansL Q cnt cnt)) := by
  have hcl : cnt ≤ Q.rs.length ∧ cnt ≤ 10 := by split at hcnt <;> omega
  have h := asked_R B m (fun t w' => t = okL (ansL Q cnt cnt) ∧ Fr B TG w w' ∧ ∃ V', GQ B m w' x st b qb now V' (if cnt = 0 then Q else recvQ Q r.att cnt (now + Q.c.vis) (ansL Q cnt cnt))) (ansL Q cnt cnt) hal (ansL_pos Q cnt cnt) r x st b qb now w hw hright hop hq hsm hL hT hBw h3 hm hG.jn hG.brk (fun W y ht => ?_)
  · exact h.mono fun e w' ⟨t, he, ht, h2⟩ => ⟨by rw [he, ht], h2⟩
  · refine (receive_some Q V r y qb now W (hG.qr.tch ht (by simp)) (by omega) hnr hid mx cnt hmx hm1 hcnt hnow hvis hnm hrd hms).mono ?_
    rintro e w' ⟨gc, ga, base, av, ⟨h0, rfl, hown, ht'⟩ | ⟨h0, rfl, hrc, hg1, hg2, hg3⟩⟩
    · refine ⟨av, .nilFunc, rfl, ht', Rdb.of_own hown (ansL_pos Q cnt cnt), fun w2 ht2 => .inl ⟨rfl, fun w3 ht3 => ⟨rfl, ?_⟩⟩⟩
      have t3 : Tch [] w w3 := ((ht.trans ht' (by simp)).trans ht2 (by simp)).trans ht3 (by simp)
      refine ⟨Fr.of_nil TG t3 hBw, V, ?_⟩
      rw [if_pos h0]
      exact hG.less.tch t3
    · refine ⟨av, _, rfl, hrc.tch, Rdb.of_own hrc.own (ansL_pos Q cnt cnt), fun w1 ht1 => ?_⟩
      refine .inr ⟨212, _, rfl, eg212, fun w2 w3 ht2 hf3 hj3 => ?_⟩
      have t2 : Tch [] w w2 := ((ht.trans hrc.tch (by simp)).trans ht1 (by simp)).trans ht2 (by simp)
      have f3 : Fr B TJ w w3 := (Fr.of_nil TJ t2 hBw).trans hf3
      have hcp := (hrc.tch0 (ht1.trans ht2 (by simp))).cap.keep hf3 (by decide)
      refine (recvd_any Q V (cellsOf r y.v) r.att qb cnt W.heap.size gc ga base (now + Q.c.vis) av (ansL Q cnt cnt) w3 (hG.qr.keep f3 (by decide)) hcp rfl ⟨h0, by omega⟩ hcl.1 hrd hms hnm hna (ansL_pos Q cnt cnt)).mono ?_
      rintro e w4 ⟨rfl, hl⟩
      rw [if_neg (by omega)]
      exact ⟨rfl, rfl, GQ.after hBw hG.brk hG.qr hG.lo f3 hj3 hl⟩

/-- The closure of the time that goes on. -/
theorem went_any (Q : QM) (V : QV) (st b qb gs gl : Nat) (now tic : Int) (w : World)
    (hst : w.heap[st]? = some (.cells (stC now (.pointer (some ⟨qb, 0, none⟩)) b) 156 (0, 0))) (hQ : QR w qb V Q) (hdash : Q.c.d = 45) (hnm : Q.ms.length ≤ 1000) (hnd : Q.ds.length ≤ 1000) (hna : Q.ats.length ≤ 1000) (hdue : ∀ m ∈ Q.ms, ¬ (0 < m.til ∧ m.til ≤ now + tic))
    (hgs : w.heap[gs]? = some (.cells #[.pointer (some ⟨st, 0, none⟩)] 96 (0, 0))) (hgl : w.heap[gl]? = some (.cells #[.int .i64 (now + tic)] 3 (0, 0))) :
    Calls Tryz.prog 220 #[.pointer (some ⟨gs, 0, none⟩), .pointer (some ⟨gl, 0, none⟩)] w fun e w' => e = .returned (.tuple #[]) ∧ ∃ V', QR w' qb V' (forgQ (now + tic) Q) ∧ Tch (st :: qbl qb V) w w' ∧ (∀ k ∈ qbl qb V', k ∈ qbl qb V ∨ w.heap.size ≤ k) ∧ w'.heap[st]? = some (.cells (stC (now + tic) (.pointer (some ⟨qb, 0, none⟩)) b) 156 (0, 0)) := by
  have hlts := lt_of_block hst
  have hsq : ∀ W : World, QR W qb V Q → W.heap[st]? = some (.cells (stC (now + tic) (.pointer (some ⟨qb, 0, none⟩)) b) 156 (0, 0)) → st ∉ qbl qb V := fun W hW h hm => by
    have := hW.ty st hm _ 156 h
    revert this
    decide
  refine went_walk _ gs gl st (now + tic) w hgs hgl ?_
  refine set_walk _ st b qb now (now + tic) w hst ?_
  intro W2 t4
  have f1 : Fr 0 [156] w (w.setCell ⟨st, 0, none⟩ (.int .i64 (now + tic))) := Fr.one ((Tch.refl [st] w).setCell (fun _ => by simp) _) (Nat.zero_le _) (Nat.zero_le _) hst (by decide)
  have t6 : Tch [st] w W2 := ((Tch.refl [st] w).setCell (fun _ => by simp) _).trans t4 (by simp)
  have hstW : W2.heap[st]? = some (.cells (stC (now + tic) (.pointer (some ⟨qb, 0, none⟩)) b) 156 (0, 0)) := (t4.block _ (by simp; exact hlts) (by simp)).trans (stC_set w st b now (now + tic) _ hst)
  have hQW : QR W2 qb V Q := (hQ.keep f1 (by decide)).tch t4 (by simp)
  have hns := hsq W2 hQW hstW
  refine (forget_any Q V qb (now + tic) W2 hQW (by omega) (by omega)).mono ?_
  rintro e w3 ⟨rfl, V', hq3, ht3, hn3⟩
  have hst3 : w3.heap[st]? = some (.cells (stC (now + tic) (.pointer (some ⟨qb, 0, none⟩)) b) 156 (0, 0)) := (ht3.block _ (lt_of_block hstW) hns).trans hstW
  refine ⟨rfl, hst3, fun W' t8 => ?_⟩
  have hq8 := hq3.tch t8 (by simp)
  refine (bring_none Q.ms V'.m st qb (now + tic) W' (stC_now _ _ _ _ _ ((t8.block _ (lt_of_block hst3) (by simp)).trans hst3)) (by
    have h := cell_qC hq8.blk 1 (.int .u8 (Q.c.d.toNat : Int)) rfl
    rw [hdash] at h
    exact h) (cell_qC hq8.blk 7 _ rfl) hq8.m (by omega) hdue).mono ?_
  rintro e w5 ⟨rfl, hb5⟩
  have t9 := Tch.of_below hb5
  refine ⟨rfl, V', hq8.tch t9 (by simp), ?_, fun k hk => ?_, ((t8.trans t9 (by simp)).block _ (lt_of_block hst3) (by simp)).trans hst3⟩
  · exact (((t6.sub (S' := st :: qbl qb V) (fun x hx _ => by simp at hx; rw [hx]; simp)).trans ht3 (fun x hx _ => List.mem_cons_of_mem _ hx)).trans t8 (by simp)).trans t9 (by simp)
  · rcases hn3 k hk with h | h
    · exact .inl h
    · exact .inr (Nat.le_trans t6.size h)

/-- The time goes on, and nothing comes back. -/
theorem time_step (B m : Nat) (Q : QM) (V : QV) (r : Wp.Rq) (x st b qb : Nat) (now : Int) (w : World) (hw : Wf r) (hright : rightW r nil0 (Wp.short []) = true) (hop : r.op = 84) (hsm : (printS r nil0 []).size ≤ 300) (hL : Lays B w) (hT : Tab w) (hBw : B ≤ w.heap.size) (h3 : 3 ≤ B) (hm : m ≤ 24)
    (hG : GQ B (m + 1) w x st b qb now V Q) (hdash : Q.c.d = 45) (hnm : Q.ms.length ≤ 1000) (hnd : Q.ds.length ≤ 1000) (hna : Q.ats.length ≤ 1000) (hdue : ∀ m ∈ Q.ms, ¬ (0 < m.til ∧ m.til ≤ now + r.tic)) (hn : 0 ≤ now ∧ 0 ≤ r.tic ∧ now + r.tic ≤ 60000) :
    Calls Tryz.prog 18 #[.pointer (some ⟨x, 0, none⟩), .agg (cellsOf r nil0.v)] w fun e w' => e = .returned (.string ⟨#[0]⟩) ∧ Fr B TG w w' ∧ ∃ V', GQ B m w' x st b qb (now + r.tic) V' (forgQ (now + r.tic) Q) := by
  refine (asked_walk (fun t w' => t = ⟨#[0]⟩ ∧ Fr B TG w w' ∧ ∃ V', GQ B m w' x st b qb (now + r.tic) V' (forgQ (now + r.tic) Q)) B r x w hright hL hBw ?_).mono ?_
  · intro W hb
    obtain ⟨hg, hr, _⟩ := print_good r nil0 [] hw rfl hright
    have tb := Tch.of_below hb
    have hBW := hG.brk.tch tb (by simp) (by simp)
    refine bdo_walk false _ B m (printS r nil0 []) r x st _ W hsm (hL.below (hb.mono hBw)) (hT.fr (Fr.of_nil (B := B) [] tb hBw) h3) (Nat.le_trans hBw hb.size) h3 hg hr (hG.jn.tch tb) hm hBW.hst (fun h => by cases h) ?_
    intro W1 y ht1
    have t1 : Tch [] w W1 := tb.trans ht1 (by simp)
    have hB1 := hG.brk.tch t1 (by simp) (by simp)
    refine plan_T B m x _ r y st b now _ W1 hop hB1.hst hn ?_
    intro w1 w2 w3 gs gl ht2 hgs hgl ht3 hf3 hj3
    have t2 : Tch [] w w2 := (t1.trans ht2 (by simp)).trans ht3 (by simp)
    have f3 : Fr B TJ w w3 := (Fr.of_nil TJ t2 hBw).trans hf3
    have z3 := f3.size
    have kp : ∀ (j : Nat) (C : Array Value) (t : TypeId), w1.heap[j]? = some (.cells C t (0, 0)) → t ∉ TJ → w3.heap[j]? = some (.cells C t (0, 0)) := fun j C t hj hT => hf3.keep j C t ((ht3.block j (lt_of_block hj) (by simp)).trans hj) hT
    have hst3 := f3.keep _ _ _ hG.brk.hst (by decide)
    have hq3 := hG.qr.keep f3 (by decide)
    refine (went_any Q V st b qb gs gl now r.tic w3 hst3 hq3 hdash hnm hnd hna hdue (kp _ _ _ hgs (by decide)) (kp _ _ _ hgl (by decide))).mono ?_
    rintro e w4 ⟨rfl, V', hq4, ht4, hn4, hst4⟩
    have f4 : Fr B (156 :: TQ) w3 w4 := Fr.of_tch ht4 (by omega) hG.lo (fun j hmem C t hj => by
      rcases List.mem_cons.1 hmem with h | h
      · subst h
        rw [hst3] at hj
        simp at hj
        rw [← hj.2]; decide
      · exact List.mem_cons_of_mem _ (hq3.ty j h C t hj))
    refine ⟨rfl, rfl, (f3.mono (by decide)).trans (f4.mono (by decide)), V', ⟨hst4, (hG.brk.tb.fr f3 (by decide)).fr f4 (by decide)⟩, hq4, hj3.keep f4 (by decide) (by decide) (by decide) (by decide), fun k hk => ?_⟩
    rcases List.mem_cons.1 hk with e | e
    · rw [e]; exact hG.lo st (by simp)
    · rcases hn4 k e with h | h
      · exact hG.lo k (List.mem_cons_of_mem _ h)
      · omega
  · rintro e w' ⟨t, rfl, rfl, h⟩
    exact ⟨rfl, h⟩
end Go.Proofs.YtbdobaapadlcjaaGreatDoor

namespace Go.Proofs.YtbdobaapadlcjaaGreatDoor
open Go.RowKit
set_option linter.unusedVariables false
set_option linter.unusedSimpArgs false

set_option maxHeartbeats 1000000 in
theorem low_any (n size : Nat) (w : World) (hn : n < 4294967296) (hs : size ≤ 8) (h0 : 0 < size) :
    Calls Tryz.prog 19 #[.int .i64 (n : Int), .int .i64 (size : Int)] w fun e w' => e = .returned (.string ⟨(lowB n size).toArray⟩) ∧ Below w.heap.size w w' := by
  obtain ⟨i0, hi, hz0, hz1, hz2⟩ := info_parts info5
  go_enter Tryz.func19, Tryz.ntmps19
  go_wp2
  go_loopw [0, 5, 6] (fun m o i wr => ∃ k : Nat, k ≤ size ∧ i = .int .i64 k ∧ m = .int .i64 ((n / 256 ^ k : Nat) : Int) ∧ OwnB wr w.heap.size o (lowB n k) ∧ Below w.heap.size w wr) (fun _ _ i _ => size - (intOf i).toNat)
  case atStart => exact ⟨0, Nat.zero_le _, rfl, by simp, World.ownsRow_nil _ _ _ _, Below.refl _ _⟩
  case round =>
    obtain ⟨k, hk, rfl, rfl, ho, hbr⟩ := hrel
    by_cases hlt : k < size
    · have hle : (lowB n k).length ≤ 1099511627800 := by rw [lowB_length]; omega
      have hm : n / 256 ^ k < 4294967296 := Nat.lt_of_le_of_lt (Nat.div_le_self _ _) hn
      have hdiv : Hid (n / 256 ^ (k + 1) = n / 256 ^ k / 256) := by
        show _ = _
        rw [Nat.pow_succ, Nat.div_div_eq_div_mul]
      have HSN : Hid (Value.int .u8 (((n / 256 ^ k : Nat) : Int) % 256) = .int .u8 ((UInt8.ofNat (n / 256 ^ k % 256)).toNat : Int)) := byte_cell (n / 256 ^ k)
      have hls : Hid (lowB n (k + 1) = (lowB n k) ++ [UInt8.ofNat (n / 256 ^ k % 256)]) := lowB_succ n k
      have HBR : Hid (Below w.heap.size w wr) := hbr
      have hsz := hbr.size
      clear hbr
      generalize n / 256 ^ k = m at hm hdiv HSN hls
      generalize lowB n k = L at ho hle hls
      have HO : Hid (OwnB wr w.heap.size u5 L) := ho
      clear ho
      go_wp2_with (at_builtin; refine wpList_append_own _ rfl _ _ 74 rfl w.heap.size 5 i0 (.int .u8 0) 1 1 Tryz.underlying74 hi hz0 hz1 hz2 rfl (by decide) _ _ _ rfl (World.ownsRow.alloc HO.out _) ⟨wr.heap.size, 0, none⟩ 1 1 [.int .u8 ((m : Int) % 256)] rfl rfl ?c1 ?c2 ?c3 ?c4 ?c5 ?_)
      case c1 => exact cell_one_new _ _ _
      case c2 => intro u hu; simp at hu; subst hu; rfl
      case c3 => unfold maxLen; omega
      case c4 => omega
      case c5 => simp; omega
      intro v' w1 hown' hgrow _
      have hr1 : OwnB w1 w.heap.size v' (lowB n (k + 1)) := by rw [hls.out]; exact OwnB.snoc HSN.out hown'
      have hr2 : Below w.heap.size w w1 := by
        refine Below.grown ((HBR.out).alloc (by omega) _) hgrow (by simp; omega) ?_
        intro k hk
        exact (World.ownsRow.lt HO.out k hk).1
      clear hown' hgrow
      go_wp2
      go_roundw
      case rel => exact ⟨k + 1, by omega, by go_num, by rw [hdiv.out]; go_num, hr1, hr2⟩
      case measure => simp [intOf]; omega
    · have he : k = size := by omega
      subst he
      have hstr : (convert 74 9 u5).run Tryz.prog wr = .ok (.string ⟨(lowB n k).toArray⟩) wr := OwnB.str ho (by rw [lowB_length]; exact h0)
      go_wp2
      go_ret
      exact ⟨rfl, hbr⟩

theorem okL_size (l : List UInt8) : (okL l).size = l.length + 1 := by
  show (0 :: l).toArray.size = _
  simp
theorem okL_get (l : List UInt8) (i : Nat) (h : i < (okL l).size) : (okL l)[i] = (0 :: l)[i]'(by rw [okL_size] at h; simpa using h) := by
  show (0 :: l).toArray[i] = _
  simp

set_option maxHeartbeats 400000 in
theorem fine_ok (l : List UInt8) (w : World) (hl : l.length ≤ 10000) : Calls Tryz.prog 35 #[.string (okL l)] w fun e w' => e = .returned (.bool true) ∧ w' = w := by
  have hsz := okL_size l
  have hp : 0 < (okL l).size := by omega
  have hb : ((((okL l)[0].toNat : Nat) : Int) == 0) = true := by rw [okL_get]; rfl
  generalize okL l = s at *
  go_enter Tryz.func35, Tryz.ntmps35
  go_wp2
  go_ret
  exact ⟨rfl, rfl⟩

set_option maxHeartbeats 1000000 in
theorem number4_any (s : ByteArray) (w : World) (hs : s.size = 4) : Calls Tryz.prog 36 #[.string s] w fun e w' => e = .returned (.int .i64 ((s[0].toNat + 256 * (s[1].toNat + 256 * (s[2].toNat + 256 * s[3].toNat)) : Nat) : Int)) ∧ w' = w := by
  have b0 := s[0].toNat_lt
  have b1 := s[1].toNat_lt
  have b2 := s[2].toNat_lt
  have b3 := s[3].toNat_lt
  go_enter Tryz.func36, Tryz.ntmps36
  go_wp2
  refine wp_loop_rounds 5 ?_
  rw [rounds_succ]
  go_wp2
  rw [rounds_succ]
  go_wp2
  rw [rounds_succ]
  go_wp2
  rw [rounds_succ]
  go_wp2
  rw [rounds_succ]
  go_wp2
  go_ret
  exact ⟨ret_int (by omega), rfl⟩

set_option maxHeartbeats 1000000 in
theorem text_at (s : ByteArray) (a n : Nat) (w : World) (hs : s.size ≤ 100000) (ha : a < s.size) (hn : s[a].toNat = n) (he : a + 1 + n ≤ s.size) :
    Calls Tryz.prog 38 #[.string s, .int .i64 (a : Int)] w fun e w' => e = .returned (.tuple #[.string (s.extract (a + 1) (a + 1 + n)), .int .i64 ((a + 1 + n : Nat) : Int), .bool true]) ∧ w' = w := by
  have hb := s[a].toNat_lt
  go_enter Tryz.func38, Tryz.ntmps38
  go_wp2
  go_ret3
  exact ⟨rfl, rfl⟩

/-- A message as its sender keeps it. -/
def snR (m : Ms) : List Value := [.int .i64 m.num, .string m.grp, .string m.bod, .bool false, .int .i64 0, .bool false]
/-- The line. -/
def lnC (x : Nat) (c : Wp.Rq) (sv : Value) : Array Value := #[.pointer (some ⟨x, 0, none⟩), .int .u8 (c.op.toNat : Int), .int .u8 (c.q.toNat : Int), .int .u8 (c.d.toNat : Int), .int .i64 c.vis, .int .i64 c.win, .int .i64 c.rcv, .int .i64 c.quo, .int .i64 c.mx, .int .i64 c.tic, .string c.grp, .string c.ded, .string c.bod, .string c.att, .string c.han, .slice none 0 0, .int .i64 0, sv, .slice none 0 0]
theorem lnC_eq (x : Nat) (c : Wp.Rq) (sv : Value) : #[.pointer (some ⟨x, 0, none⟩)] ++ cellsOf c nil0.v ++ #[.int .i64 0, sv, .slice none 0 0] = lnC x c sv := by
  simp [cellsOf, lnC, nil0, Sl.v]
def Ln (w : World) (lb x : Nat) (c : Wp.Rq) (sv : Value) : Prop := w.heap[lb]? = some (.cells (lnC x c sv) 42 (0, 0))
theorem Ln.c17 {w : World} {lb x : Nat} {c : Wp.Rq} {sv : Value} (h : Ln w lb x c sv) : w.cell? ⟨lb, 17, none⟩ = some sv := cell_qC h 17 _ rfl
theorem Ln.c0 {w : World} {lb x : Nat} {c : Wp.Rq} {sv : Value} (h : Ln w lb x c sv) : w.cell? ⟨lb, 0, none⟩ = some (.pointer (some ⟨x, 0, none⟩)) := cell_qC h 0 _ rfl
theorem Ln.c5 {w : World} {lb x : Nat} {c : Wp.Rq} {sv : Value} (h : Ln w lb x c sv) : w.cell? ⟨lb, 5, none⟩ = some (.int .i64 c.win) := cell_qC h 5 _ rfl
theorem Ln.c4 {w : World} {lb x : Nat} {c : Wp.Rq} {sv : Value} (h : Ln w lb x c sv) : w.cell? ⟨lb, 4, none⟩ = some (.int .i64 c.vis) := cell_qC h 4 _ rfl

theorem idxL_hit {α : Type} (p : α → Bool) : ∀ (l : List α) (j : Nat) (hj : j < l.length), p l[j] = true → (∀ i (hi : i < j), p (l[i]'(by omega)) = false) → idxL p l = (j : Int)
  | x :: l, 0, hj, hp, hb => by
    have hp' : p x = true := hp
    simp [idxL, hp']
  | x :: l, j + 1, hj, hp, hb => by
    have h0 : p x = false := hb 0 (by omega)
    have ih := idxL_hit p l j (by simpa using hj) hp (fun i hi => hb (i + 1) (by omega))
    simp only [idxL, h0, Bool.false_eq_true, if_false, ih]
    rw [if_neg (by omega)]
    omega

set_option maxHeartbeats 2000000 in
theorem find_any (lb x : Nat) (c : Wp.Rq) (sv : Value) (ms : List Ms) (n : Int) (w : World) (hln : Ln w lb x c sv) (ho : w.ownsRow 0 53 6 sv ms.length (ms.flatMap snR)) (hl : ms.length ≤ 1000) :
    Calls Tryz.prog 37 #[.pointer (some ⟨lb, 0, none⟩), .int .i64 n] w fun e w' => e = .returned (.int .i64 (idxL (fun m => m.num == n) ms)) ∧ w' = w := by
  have inh : Inhabited Ms := ⟨⟨0, ⟨#[]⟩, ⟨#[]⟩, 0, 0⟩⟩
  have c17 := hln.c17
  have HO : Hid (w.ownsRow 0 53 6 sv ms.length (ms.flatMap snR)) := ho
  obtain ⟨sa, sc, rfl⟩ := own_shape ho
  clear ho hln
  go_enter Tryz.func37, Tryz.ntmps37
  go_wp2_with fail
  go_loopw [5] (fun v wr => ∃ j : Nat, j ≤ ms.length ∧ v = .int .i64 (j : Int) ∧ (∀ i (hi : i < j) (hl : i < ms.length), (ms[i].num == n) = false) ∧ wr = w) (fun v _ => ms.length - (intOf v).toNat)
  case atStart => exact ⟨0, Nat.zero_le _, rfl, fun i hi => by omega, rfl⟩
  case round =>
    obtain ⟨j, hj, rfl, hno, rfl⟩ := hrel
    have HNO : Hid (∀ i (hi : i < j) (hl : i < ms.length), (ms[i].num == n) = false) := hno
    clear hno
    by_cases hlt : j < ms.length
    · obtain ⟨g, rfl⟩ : ∃ g, sa = some ⟨g, 0, none⟩ := by
        rcases HO.out.2 with ⟨_, h1⟩ | ⟨g, cap, cur, h0, _⟩
        · omega
        · simp at h0
          exact ⟨g, h0.1⟩
      have d0 : wr.cell? ⟨g, j * 6, none⟩ = some (.int .i64 ms[j].num) := by
        have h1 := own_cells snR 6 (fun _ => rfl) HO.out j hlt 0 (.int .i64 ms[j].num) (by
          rw [List.getElem!_eq_getElem?_getD, List.getElem?_eq_getElem hlt]
          rfl)
        simpa using h1
      by_cases he : ms[j].num == n
      · have HE : Hid ((ms[j].num == n) = true) := he
        go_wp2_with fail
        go_ret
        exact ⟨ret_i64 (idxL_hit (fun m => m.num == n) ms j hlt HE.out (fun i hi => HNO.out i hi (by omega))).symm, rfl⟩
      · have he' : (ms[j].num == n) = false := by simpa using he
        have HE : Hid ((ms[j].num == n) = false) := he'
        clear he
        go_wp2_with fail
        go_roundw
        case rel => exact ⟨j + 1, by omega, by go_num, fun i hi hl => by
          by_cases hij : i = j
          · subst hij; exact HE.out
          · exact HNO.out i (by omega) hl, by trivial⟩
        case measure => simp [intOf]; omega
    · have hje : j = ms.length := by omega
      have HM : Hid (idxL (fun m => m.num == n) ms = -1) := by
        show _ = _
        have h1 : idxL (fun m => m.num == n) ms < 0 := (idxL_neg _ _).2 (fun m hm => by
          obtain ⟨i, hi, rfl⟩ := List.mem_iff_getElem.1 hm
          exact HNO.out i (by omega) hi)
        have h2 := idxL_ge (fun m : Ms => m.num == n) ms
        omega
      go_wp2_with fail
      go_ret
      exact ⟨ret_i64 HM.out.symm, rfl⟩
end Go.Proofs.YtbdobaapadlcjaaGreatDoor

namespace Go.Proofs.YtbdobaapadlcjaaGreatDoor
open Go.RowKit Keep
set_option linter.unusedVariables false
set_option linter.unusedSimpArgs false

structure SI (Q : QM) : Prop where
  next : Q.next = Q.ms.length + 1
  num : ∀ j (h : j < Q.ms.length), Q.ms[j].num = ((j + 1 : Nat) : Int)
  ok : ∀ m ∈ Q.ms, m.rcv = 0 ∧ m.til = 0 ∧ m.grp.size ≤ 8 ∧ m.bod.size ≤ 40
  rs : Q.rs.length ≤ Q.ms.length
  rd : ∀ g ∈ Q.rs, 0 ≤ idxL (isG g) Q.ms
  nd : Q.rs.Nodup
  ds : Q.ds.length ≤ Q.ms.length
  dn : ∀ d ∈ Q.ds, ∃ n : Nat, d.num = (n : Int) ∧ 1 ≤ n ∧ n ≤ Q.ms.length
  dw : Q.ds ≠ [] → 0 < Q.c.win
  ats : Q.ats = []
  ne : Q.ms ≠ [] → Q.rs ≠ []

theorem idxL_ex {α : Type} (p : α → Bool) (l : List α) : 0 ≤ idxL p l ↔ ∃ x ∈ l, p x = true := by
  constructor
  · intro h
    by_cases hc : ∃ x ∈ l, p x = true
    · exact hc
    · have : idxL p l < 0 := (idxL_neg p l).2 (fun x hx => by
        cases hp : p x with
        | false => rfl
        | true => exact absurd ⟨x, hx, hp⟩ hc)
      omega
  · rintro ⟨x, hx, hp⟩
    by_cases hc : idxL p l < 0
    · have := (idxL_neg p l).1 hc x hx
      rw [hp] at this
      cases this
    · omega
theorem SI.mok {Q : QM} (h : SI Q) (hl : Q.ms.length ≤ 1000) : ∀ m ∈ Q.ms, MsOk m := fun m hm => by
  obtain ⟨j, hj, rfl⟩ := List.mem_iff_getElem.1 hm
  have h1 := h.num j hj
  have h2 := h.ok _ hm
  exact ⟨by omega, by omega, by omega, by omega⟩
theorem SI.send {Q : QM} {r : Wp.Rq} {now : Int} (h : SI Q) (hg : r.grp.size ≤ 8) (hb : r.bod.size ≤ 40) : SI (sendQ Q r now) := by
  have hex : ∀ g ∈ Q.rs, ∃ m ∈ Q.ms, isG g m = true := fun g hg => (idxL_ex _ _).1 (h.rd g hg)
  have hrs : ∀ g ∈ (sendQ Q r now).rs, g ∈ Q.rs ∨ g = r.grp := fun g hg => by
    unfold sendQ at hg
    split at hg
    · simpa using hg
    · exact .inl hg
  refine ⟨?_, ?_, ?_, ?_, ?_, ?_, ?_, ?_, ?_, h.ats, ?_⟩
  · simp [sendQ, h.next]
  · intro j hj
    have hj' : j < Q.ms.length + 1 := by simpa [sendQ] using hj
    by_cases hl : j < Q.ms.length
    · have e : (sendQ Q r now).ms[j] = Q.ms[j] := by simp [sendQ, List.getElem_append, hl]
      rw [e]
      exact h.num j hl
    · have e : (sendQ Q r now).ms[j] = ⟨(Q.next : Nat), r.grp, r.bod, 0, 0⟩ := by simp [sendQ, List.getElem_append, hl]
      rw [e]
      show ((Q.next : Nat) : Int) = _
      have := h.next
      omega
  · intro m hm
    have hm' : m ∈ Q.ms ∨ m = ⟨(Q.next : Nat), r.grp, r.bod, 0, 0⟩ := by simpa [sendQ] using hm
    rcases hm' with hm | rfl
    · exact h.ok m hm
    · exact ⟨rfl, rfl, hg, hb⟩
  · have := h.rs
    show (if idxL (isG r.grp) Q.ms < 0 then Q.rs ++ [r.grp] else Q.rs).length ≤ (Q.ms ++ _).length
    rw [rs_len]
    simp only [List.length_append, List.length_singleton]
    split <;> omega
  · intro g hgm
    rw [idxL_ex]
    show ∃ x ∈ Q.ms ++ [⟨(Q.next : Nat), r.grp, r.bod, 0, 0⟩], _
    rcases hrs g hgm with hg' | rfl
    · obtain ⟨m, hm, hp⟩ := hex g hg'
      exact ⟨m, by simp [hm], hp⟩
    · exact ⟨⟨(Q.next : Nat), r.grp, r.bod, 0, 0⟩, by simp, by simp [isG]⟩
  · show (if idxL (isG r.grp) Q.ms < 0 then Q.rs ++ [r.grp] else Q.rs).Nodup
    split
    · rename_i hneg
      rw [List.nodup_append]
      refine ⟨h.nd, by simp, fun a ha b hb' hab => ?_⟩
      simp at hb'
      subst hb'
      subst hab
      have := h.rd _ ha
      omega
    · exact h.nd
  · have := h.ds
    show (if 0 < Q.c.win then Q.ds ++ _ else Q.ds).length ≤ (Q.ms ++ _).length
    split <;> simp <;> omega
  · intro d hd
    have hd' : d ∈ Q.ds ∨ d = ⟨didS r, (Q.next : Nat), now + Q.c.win⟩ := by
      unfold sendQ at hd
      simp only at hd
      split at hd
      · simpa using hd
      · exact .inl hd
    have hl : (sendQ Q r now).ms.length = Q.ms.length + 1 := by simp [sendQ]
    rw [hl]
    rcases hd' with hd | rfl
    · obtain ⟨n, h1, h2, h3⟩ := h.dn d hd
      exact ⟨n, h1, h2, by omega⟩
    · have := h.next
      exact ⟨Q.next, rfl, by omega, by omega⟩
  · intro hd
    show 0 < Q.c.win
    by_cases hw : 0 < Q.c.win
    · exact hw
    · apply h.dw
      have e : (sendQ Q r now).ds = Q.ds := by simp [sendQ, hw]
      rwa [e] at hd
  · intro _
    show (if idxL (isG r.grp) Q.ms < 0 then Q.rs ++ [r.grp] else Q.rs) ≠ []
    split
    · simp
    · rename_i hneg
      apply h.ne
      intro e
      rw [e] at hneg
      exact hneg (by simp [idxL])
theorem SI.find_known {Q : QM} (h : SI Q) (n : Nat) (h1 : 1 ≤ n) (h2 : n ≤ Q.ms.length) : 0 ≤ idxL (fun m : Ms => m.num == (n : Int)) Q.ms := by
  rw [idxL_ex]
  refine ⟨Q.ms[n - 1]'(by omega), List.getElem_mem _, ?_⟩
  rw [h.num (n - 1) (by omega)]
  have : ((n - 1 + 1 : Nat) : Int) = (n : Int) := by omega
  simp [this]
theorem SI.find_fresh {Q : QM} (h : SI Q) : idxL (fun m : Ms => m.num == (Q.next : Int)) Q.ms = -1 := by
  have h1 : idxL (fun m : Ms => m.num == (Q.next : Int)) Q.ms < 0 := (idxL_neg _ _).2 (fun m hm => by
    obtain ⟨j, hj, rfl⟩ := List.mem_iff_getElem.1 hm
    have := h.num j hj
    have := h.next
    rw [beq_eq_false_iff_ne]
    omega)
  have h2 := idxL_ge (fun m : Ms => m.num == (Q.next : Int)) Q.ms
  omega

/-- A name that may be a group's. -/
def nmS (s : ByteArray) : ByteArray := if 0 < s.size then sh s 8 else ⟨#[103]⟩
theorem nmS_size (s : ByteArray) : 1 ≤ (nmS s).size ∧ (nmS s).size ≤ 8 := by
  unfold nmS
  split
  · rename_i h
    exact ⟨sh_pos s 8 h (by decide), sh_size s 8⟩
  · decide
set_option maxHeartbeats 400000 in
theorem named_d (s : ByteArray) (w : World) (hs : s.size ≤ maxLen) : Calls Tryz.prog 16 #[.string s] w fun e w' => e = .returned (.string (nmS s)) ∧ w' = w := by
  by_cases h : 0 < s.size
  · have he : s.toList.isEmpty = false := str_ne h
    have hv : Hid (nmS s = sh s 8) := by show _ = _; unfold nmS; rw [if_pos h]
    have hsh : Hid (Calls Tryz.prog 15 #[.string s, .int .i64 8] w fun e w' => e = .returned (.string (sh s 8)) ∧ w' = w) := short_any s 8 w hs (by decide)
    go_enter Tryz.func16, Tryz.ntmps16
    go_wp2_with (go_at_call 15; refine (hsh.out).mono ?_; rintro e w' ⟨rfl, rfl⟩)
    go_ret
    exact ⟨ret_str hv.out.symm, rfl⟩
  · have he : s.toList.isEmpty = true := str_em h
    have hv : Hid (nmS s = ⟨#[103]⟩) := by show _ = _; unfold nmS; rw [if_neg h]
    go_enter Tryz.func16, Tryz.ntmps16
    go_wp2
    go_ret
    exact ⟨ret_str hv.out.symm, rfl⟩
set_option maxHeartbeats 400000 in
theorem dedup_none (w : World) : Calls Tryz.prog 17 #[.string ⟨#[]⟩] w fun e w' => e = .returned (.string ⟨#[]⟩) ∧ w' = w := by
  have hsh : Hid (Calls Tryz.prog 15 #[.string ⟨#[]⟩, .int .i64 8] w fun e w' => e = .returned (.string ⟨#[]⟩) ∧ w' = w) := short_any ⟨#[]⟩ 8 w (by decide) (by decide)
  go_enter Tryz.func17, Tryz.ntmps17
  go_wp2_with (go_at_call 15; refine (hsh.out).mono ?_; rintro e w' ⟨rfl, rfl⟩)
  go_ret
  exact ⟨rfl, rfl⟩

theorem okN_ext (k : Nat) : ((okN k).extract 1 5) = ⟨(lowB k 4).toArray⟩ := by
  have e : (lowB k 4) = [UInt8.ofNat (k / 256 ^ 0 % 256), UInt8.ofNat (k / 256 ^ 1 % 256), UInt8.ofNat (k / 256 ^ 2 % 256), UInt8.ofNat (k / 256 ^ 3 % 256)] := rfl
  unfold okN
  rw [e]
  rfl
theorem number_okN (k : Nat) (hk : k < 4294967296) (w : World) : Calls Tryz.prog 36 #[.string ((okN k).extract 1 5)] w fun e w' => e = .returned (.int .i64 (k : Int)) ∧ w' = w := by
  rw [okN_ext]
  have h := number4_any ⟨(lowB k 4).toArray⟩ w (by show (lowB k 4).toArray.size = 4; simp [lowB_length])
  have hb : ∀ n : Nat, n < 256 → (UInt8.ofNat n).toNat = n := fun n hn => UInt8.toNat_ofNat_of_lt' (by show _ < 256; omega)
  refine h.mono ?_
  rintro e w' ⟨rfl, rfl⟩
  refine ⟨ret_int ?_, rfl⟩
  have e0 : (⟨(lowB k 4).toArray⟩ : ByteArray)[0]'(by show 0 < (lowB k 4).toArray.size; simp [lowB_length]) = UInt8.ofNat (k / 256 ^ 0 % 256) := rfl
  have e1 : (⟨(lowB k 4).toArray⟩ : ByteArray)[1]'(by show 1 < (lowB k 4).toArray.size; simp [lowB_length]) = UInt8.ofNat (k / 256 ^ 1 % 256) := rfl
  have e2 : (⟨(lowB k 4).toArray⟩ : ByteArray)[2]'(by show 2 < (lowB k 4).toArray.size; simp [lowB_length]) = UInt8.ofNat (k / 256 ^ 2 % 256) := rfl
  have e3 : (⟨(lowB k 4).toArray⟩ : ByteArray)[3]'(by show 3 < (lowB k 4).toArray.size; simp [lowB_length]) = UInt8.ofNat (k / 256 ^ 3 % 256) := rfl
  rw [e0, e1, e2, e3, hb _ (by omega), hb _ (by omega), hb _ (by omega), hb _ (by omega)]
  omega
end Go.Proofs.YtbdobaapadlcjaaGreatDoor

namespace Go.Proofs.YtbdobaapadlcjaaGreatDoor
open Go.RowKit Keep
set_option linter.unusedVariables false
set_option linter.unusedSimpArgs false

theorem info53 : (Tryz.prog.info? 53).map (fun i => (i.zero, i.size, i.bytes)) = some (some (.agg #[.int .i64 0, .string ⟨#[]⟩, .string ⟨#[]⟩, .bool false, .int .i64 0, .bool false]), 6, 64) := by kernel_rfl

/-- A step that sends. -/
abbrev stepC (g b : ByteArray) : Array Value := #[.int .i64 0, .int .i64 0, .int .i64 0, .string g, .string ⟨#[]⟩, .string b]
abbrev sndRq (g b : ByteArray) : Wp.Rq := ⟨83, 97, 0, 0, 0, 0, 0, 0, 0, g, ⟨#[]⟩, b, ⟨#[]⟩, ⟨#[]⟩⟩
abbrev sndC (g b : ByteArray) : Array Value := #[.int .u8 83, .int .u8 97, .int .u8 0, .int .i64 0, .int .i64 0, .int .i64 0, .int .i64 0, .int .i64 0, .int .i64 0, .string g, .string ⟨#[]⟩, .string b, .string ⟨#[]⟩, .string ⟨#[]⟩, .slice none 0 0]
theorem okN_size (k : Nat) : (okN k).size = 5 := rfl
theorem Ln.set17 {w : World} {lb x : Nat} {c : Wp.Rq} {sv : Value} (h : Ln w lb x c sv) (v : Value) : Ln (w.setCell ⟨lb, 17, none⟩ v) lb x c v := heap_setCell_same w lb 17 _ 42 _ h
theorem Ln.tch {w w' : World} {lb x : Nat} {c : Wp.Rq} {sv : Value} (h : Ln w lb x c sv) {S : List Nat} (ht : Tch S w w') (hS : lb ∉ S) : Ln w' lb x c sv := (ht.block _ (lt_of_block h) hS).trans h
theorem Ln.fr {B : Nat} {T : List TypeId} {w w' : World} {lb x : Nat} {c : Wp.Rq} {sv : Value} (h : Ln w lb x c sv) (hf : Fr B T w w') (hT : 42 ∉ T) : Ln w' lb x c sv := hf.keep _ _ _ h hT

theorem fine_okN (k : Nat) (w : World) : Calls Tryz.prog 35 #[.string (okN k)] w fun e w' => e = .returned (.bool true) ∧ w' = w := fine_ok (lowB k 4) w (by rw [lowB_length]; decide)

set_option maxRecDepth 8000 in
set_option maxHeartbeats 4000000 in
theorem sendL_walk (K R : World → Prop) (c : Wp.Rq) (lb x n : Nat) (sv : Value) (ms : List Ms) (grp bod : ByteArray) (w : World) (hgs : grp.size ≤ maxLen) (hbs : bod.size ≤ 40) (hln : Ln w lb x c sv) (hl : ms.length ≤ 1000) (hn : n < 4294967296)
    (hA : ∀ W, Tch [] w W → Calls Tryz.prog 18 #[.pointer (some ⟨x, 0, none⟩), .agg (cellsOf (sndRq (nmS grp) bod) nil0.v)] W fun e w' => e = .returned (.string (okN n)) ∧ Ln w' lb x c sv ∧ w'.ownsRow 0 53 6 sv ms.length (ms.flatMap snR) ∧ (∀ (k : Nat) (C : Array Value), W.heap[k]? = some (.cells C 27 (0, 0)) → w'.heap[k]? = some (.cells C 27 (0, 0))) ∧ R w')
    (hor : (0 ≤ idxL (fun m : Ms => m.num == (n : Int)) ms ∧ 0 < c.win ∧ ∀ w', R w' → K w') ∨
      (idxL (fun m : Ms => m.num == (n : Int)) ms < 0 ∧ (∀ m ∈ ms, m.num < (n : Int)) ∧ ∀ w1 w' sv', R w1 → Ln w' lb x c sv' → w'.ownsRow 0 53 6 sv' (ms.length + 1) (ms.flatMap snR ++ snR ⟨(n : Int), nmS grp, bod, 0, 0⟩) → NewOr w1 sv sv' → Tch (lb :: bl sv) w1 w' → K w')) :
    Calls Tryz.prog 20 #[.pointer (some ⟨lb, 0, none⟩), .agg (stepC grp bod)] w fun e w' => e = .returned (.bool true) ∧ K w' := by
  have HN : Hid (∀ W, Calls Tryz.prog 16 #[.string grp] W fun e w' => e = .returned (.string (nmS grp)) ∧ w' = W) := fun W => named_d grp W hgs
  have HD : Hid (∀ W, Calls Tryz.prog 17 #[.string ⟨#[]⟩] W fun e w' => e = .returned (.string ⟨#[]⟩) ∧ w' = W) := fun W => dedup_none W
  have HS : Hid (∀ W, Calls Tryz.prog 15 #[.string bod, .int .i64 40] W fun e w' => e = .returned (.string bod) ∧ w' = W) := fun W => by
    have h := short_any bod 40 W (by unfold maxLen; omega) (by decide)
    rw [show sh bod 40 = bod from by unfold sh; rw [if_neg (by omega)]] at h
    exact h
  rw [show cellsOf (sndRq (nmS grp) bod) nil0.v = sndC (nmS grp) bod from rfl] at hA
  generalize nmS grp = gg at *
  obtain ⟨wb, hwb⟩ : ∃ wb, wb = w.alloc (.cells (stepC grp bod) 33) := ⟨_, rfl⟩
  have HBX : Hid (wb.heap[w.heap.size]? = some (.cells (stepC grp bod) 33 (0, 0))) := by rw [hwb]; exact heap_alloc_new _ _
  have HT0 : Hid (Tch [] w wb) := by rw [hwb]; exact (Tch.refl _ _).alloc _
  have HLN : Hid (Ln w lb x c sv) := hln
  have HA : Hid (∀ W, Tch [] w W → _) := hA
  have HOR : Hid (_ ∨ _) := hor
  have b3 : wb.cell? ⟨w.heap.size, 3, none⟩ = some (.string grp) := cell_qC HBX.out 3 _ rfl
  have b4 : wb.cell? ⟨w.heap.size, 4, none⟩ = some (.string ⟨#[]⟩) := cell_qC HBX.out 4 _ rfl
  have b5 : wb.cell? ⟨w.heap.size, 5, none⟩ = some (.string bod) := cell_qC HBX.out 5 _ rfl
  have l1 := lt_of_block HBX.out
  clear hA hor hln
  go_enter Tryz.func20, Tryz.ntmps20
  go_wp2_with fail
  rw [← hwb]
  clear hwb
  go_cut [5] (fun s5 wx => s5 = .pointer (some ⟨wb.heap.size, 0, none⟩) ∧ Tch [] wb wx ∧ wx.heap[wb.heap.size]? = some (.cells (sndC gg bod) 27 (0, 0)))
  case first =>
    go_region_held3 (fun w' => w'.cell? ⟨w.heap.size, 3, none⟩ = some (.string grp) ∧ w'.cell? ⟨w.heap.size, 4, none⟩ = some (.string ⟨#[]⟩) ∧ w'.cell? ⟨w.heap.size, 5, none⟩ = some (.string bod)) (go_keep) (first | (go_at_call 16; refine (HN.out _).mono ?_; rintro e w' ⟨rfl, h'⟩; have h'' := h'.symm; subst h'') | (go_at_call 17; refine (HD.out _).mono ?_; rintro e w' ⟨rfl, h'⟩; have h'' := h'.symm; subst h'') | (go_at_call 15; refine (HS.out _).mono ?_; rintro e w' ⟨rfl, h'⟩; have h'' := h'.symm; subst h''))
    all_goals (go_wp2_with fail; go_meet)
    all_goals exact ⟨rfl, ((Tch.refl _ _).alloc _).drew, heap_alloc_new _ _⟩
  case rest =>
    obtain ⟨rfl, ht2, hc2⟩ := hcut
    generalize wc = w2 at *
    have T2 : Hid (Tch [] w w2) := HT0.out.trans ht2 (by simp)
    have HR2 : Hid (w2.heap[wb.heap.size]? = some (.cells (sndC gg bod) 27 (0, 0))) := hc2
    have HC : Hid (Calls Tryz.prog 18 #[.pointer (some ⟨x, 0, none⟩), .agg (sndC gg bod)] w2.drew fun e w' => e = .returned (.string (okN n)) ∧ Ln w' lb x c sv ∧ w'.ownsRow 0 53 6 sv ms.length (ms.flatMap snR) ∧ w'.heap[wb.heap.size]? = some (.cells (sndC gg bod) 27 (0, 0)) ∧ R w') := by
      refine (HA.out w2.drew T2.out.drew).mono ?_
      rintro e w' ⟨he, h1, h2, h3, h4⟩
      exact ⟨he, h1, h2, h3 _ _ HR2.out, h4⟩
    have HL2 : Hid (Ln w2 lb x c sv) := HLN.out.tch T2.out (by simp)
    have el : w2.cell? ⟨lb, 0, none⟩ = some (.pointer (some ⟨x, 0, none⟩)) := HL2.out.c0
    have e0 : w2.cell? ⟨wb.heap.size, 0, none⟩ = some (.int .u8 83) := cell_qC HR2.out 0 _ rfl
    have e1 : w2.cell? ⟨wb.heap.size, 1, none⟩ = some (.int .u8 97) := cell_qC HR2.out 1 _ rfl
    have e2 : w2.cell? ⟨wb.heap.size, 2, none⟩ = some (.int .u8 0) := cell_qC HR2.out 2 _ rfl
    have e3 : w2.cell? ⟨wb.heap.size, 3, none⟩ = some (.int .i64 0) := cell_qC HR2.out 3 _ rfl
    have e4 : w2.cell? ⟨wb.heap.size, 4, none⟩ = some (.int .i64 0) := cell_qC HR2.out 4 _ rfl
    have e5 : w2.cell? ⟨wb.heap.size, 5, none⟩ = some (.int .i64 0) := cell_qC HR2.out 5 _ rfl
    have e6 : w2.cell? ⟨wb.heap.size, 6, none⟩ = some (.int .i64 0) := cell_qC HR2.out 6 _ rfl
    have e7 : w2.cell? ⟨wb.heap.size, 7, none⟩ = some (.int .i64 0) := cell_qC HR2.out 7 _ rfl
    have e8 : w2.cell? ⟨wb.heap.size, 8, none⟩ = some (.int .i64 0) := cell_qC HR2.out 8 _ rfl
    have e9 : w2.cell? ⟨wb.heap.size, 9, none⟩ = some (.string gg) := cell_qC HR2.out 9 _ rfl
    have e10 : w2.cell? ⟨wb.heap.size, 10, none⟩ = some (.string ⟨#[]⟩) := cell_qC HR2.out 10 _ rfl
    have e11 : w2.cell? ⟨wb.heap.size, 11, none⟩ = some (.string bod) := cell_qC HR2.out 11 _ rfl
    have e12 : w2.cell? ⟨wb.heap.size, 12, none⟩ = some (.string ⟨#[]⟩) := cell_qC HR2.out 12 _ rfl
    have e13 : w2.cell? ⟨wb.heap.size, 13, none⟩ = some (.string ⟨#[]⟩) := cell_qC HR2.out 13 _ rfl
    have e14 : w2.cell? ⟨wb.heap.size, 14, none⟩ = some (.slice none 0 0) := cell_qC HR2.out 14 _ rfl
    have ltl := lt_of_block HL2.out
    have ltb := lt_of_block HR2.out
    clear ht2 hc2 b3 b4 b5 HN HD HS
    go_wp2_with fail
    go_region_held3 (fun w' => w'.cell? ⟨lb, 0, none⟩ = some (.pointer (some ⟨x, 0, none⟩)) ∧ w'.cell? ⟨wb.heap.size, 0, none⟩ = some (.int .u8 83) ∧ w'.cell? ⟨wb.heap.size, 1, none⟩ = some (.int .u8 97) ∧ w'.cell? ⟨wb.heap.size, 2, none⟩ = some (.int .u8 0) ∧ w'.cell? ⟨wb.heap.size, 3, none⟩ = some (.int .i64 0) ∧ w'.cell? ⟨wb.heap.size, 4, none⟩ = some (.int .i64 0) ∧ w'.cell? ⟨wb.heap.size, 5, none⟩ = some (.int .i64 0) ∧ w'.cell? ⟨wb.heap.size, 6, none⟩ = some (.int .i64 0) ∧ w'.cell? ⟨wb.heap.size, 7, none⟩ = some (.int .i64 0) ∧ w'.cell? ⟨wb.heap.size, 8, none⟩ = some (.int .i64 0) ∧ w'.cell? ⟨wb.heap.size, 9, none⟩ = some (.string gg) ∧ w'.cell? ⟨wb.heap.size, 10, none⟩ = some (.string ⟨#[]⟩) ∧ w'.cell? ⟨wb.heap.size, 11, none⟩ = some (.string bod) ∧ w'.cell? ⟨wb.heap.size, 12, none⟩ = some (.string ⟨#[]⟩) ∧ w'.cell? ⟨wb.heap.size, 13, none⟩ = some (.string ⟨#[]⟩) ∧ w'.cell? ⟨wb.heap.size, 14, none⟩ = some (.slice none 0 0)) (go_keep) (first | (go_at_call 18; refine HC.out.mono ?_; rintro e w3 ⟨rfl, hl3, ho3, hbx, hR3⟩; have kl := hl3.c0; have k0 := cell_qC hbx 0 (.int .u8 83) rfl; have k1 := cell_qC hbx 1 (.int .u8 97) rfl; have k2 := cell_qC hbx 2 (.int .u8 0) rfl; have k3 := cell_qC hbx 3 (.int .i64 0) rfl; have k4 := cell_qC hbx 4 (.int .i64 0) rfl; have k5 := cell_qC hbx 5 (.int .i64 0) rfl; have k6 := cell_qC hbx 6 (.int .i64 0) rfl; have k7 := cell_qC hbx 7 (.int .i64 0) rfl; have k8 := cell_qC hbx 8 (.int .i64 0) rfl; have k9 := cell_qC hbx 9 (.string gg) rfl; have k10 := cell_qC hbx 10 (.string ⟨#[]⟩) rfl; have k11 := cell_qC hbx 11 (.string bod) rfl; have k12 := cell_qC hbx 12 (.string ⟨#[]⟩) rfl; have k13 := cell_qC hbx 13 (.string ⟨#[]⟩) rfl; have k14 := cell_qC hbx 14 (.slice none 0 0) rfl))
    have HL3 : Hid (Ln w3 lb x c sv) := hl3
    have HO3 : Hid (w3.ownsRow 0 53 6 sv ms.length (ms.flatMap snR)) := ho3
    have HB3 : Hid (w3.heap[wb.heap.size]? = some (.cells (sndC gg bod) 27 (0, 0))) := hbx
    have HR3 : Hid (R w3) := hR3
    clear hl3 ho3 hbx hR3 el ltl ltb kl e0 k0 e1 k1 e2 k2 e3 k3 e4 k4 e5 k5 e6 k6 e7 k7 e8 k8 e9 k9 e10 k10 e11 k11 e12 k12 e13 k13 e14 k14
    have HFI : Hid (∀ W, Calls Tryz.prog 35 #[.string (okN n)] W fun e w' => e = .returned (.bool true) ∧ w' = W) := fun W => fine_okN n W
    have HNU : Hid (∀ W, Calls Tryz.prog 36 #[.string ((okN n).extract 1 5)] W fun e w' => e = .returned (.int .i64 (n : Int)) ∧ w' = W) := fun W => number_okN n hn W
    have HFD : Hid (Calls Tryz.prog 37 #[.pointer (some ⟨lb, 0, none⟩), .int .i64 (n : Int)] w3 fun e w' => e = .returned (.int .i64 (idxL (fun m : Ms => m.num == (n : Int)) ms)) ∧ w' = w3) := find_any lb x c sv ms n w3 HL3.out HO3.out hl
    have h5 : (okN n).size = 5 := okN_size n
    generalize okN n = so at *
    go_wp2_with fail
    refine (HFI.out _).mono ?_
    rintro e w' ⟨rfl, h'⟩
    have h'' := h'.symm
    subst h''
    go_wp2_with fail
    refine (HNU.out _).mono ?_
    rintro e w' ⟨rfl, h'⟩
    have h'' := h'.symm
    subst h''
    clear HFI HNU HA HC
    go_wp2_with fail
    refine HFD.out.mono ?_
    rintro e w' ⟨rfl, h'⟩
    have h'' := h'.symm
    subst h''
    rcases HOR.out with ⟨hz, hwin, hK⟩ | ⟨hz, hlt, hK⟩
    · have HK : Hid (K w3) := hK _ HR3.out
      have c5 := HL3.out.c5
      have ll := lt_of_block HL3.out
      clear hK HFD HOR
      generalize idxL (fun m : Ms => m.num == (n : Int)) ms = z at *
      go_wp2_with fail
      go_ret
      exact ⟨ret_bool (by simp [hwin]), HK.out⟩
    · have HK : Hid (∀ w1 w' sv', _) := hK
      have c17 := HL3.out.c17
      have ll := lt_of_block HL3.out
      clear hK HFD HOR
      generalize idxL (fun m : Ms => m.num == (n : Int)) ms = z at *
      have HFIN : Hid (∀ nq v' w9, w9.ownsRow 0 53 6 v' (ms.length + 1) (ms.flatMap snR ++ snR ⟨(n : Int), gg, bod, 0, 0⟩) → ((w3.drewN nq).drew.alloc (.cells (snR ⟨(n : Int), gg, bod, 0, 0⟩).toArray 53)).grownBy w9 sv.ownBlock → (v'.ownBlock = sv.ownBlock ∨ v'.ownBlock = some ((w3.drewN nq).drew.alloc (.cells (snR ⟨(n : Int), gg, bod, 0, 0⟩).toArray 53)).heap.size) → ∃ g4 cap4, v' = .slice (some ⟨g4, 0, none⟩) (ms.length + 1) cap4 ∧ w9.cell? ⟨lb, 17, none⟩ = some sv ∧ w9.frozen? ⟨lb, 17, none⟩ = false ∧ K (w9.setCell ⟨lb, 17, none⟩ v')) := fun nq v' w9 ho hg hb => by
        obtain ⟨g4, cap4, hv⟩ := own_some ho
        have t1 : Tch [] w3 ((w3.drewN nq).drew.alloc (.cells (snR ⟨(n : Int), gg, bod, 0, 0⟩).toArray 53)) := (((Tch.refl _ _).drewN nq).drew).alloc _
        have t2 : Tch (bl sv) w3 w9 := (t1.sub (by simp)).trans (grown_tch hg) (fun x hx _ => hx)
        have hl9 : Ln w9 lb x c sv := HL3.out.tch t2 (fun e => own_ne HO3.out HL3.out (by decide) (mem_bl.1 e))
        have t3 : Tch [lb] w9 (w9.setCell ⟨lb, 17, none⟩ v') := (Tch.refl _ _).setCell (fun _ => by simp) _
        refine ⟨g4, cap4, hv, hl9.c17, frozen_of_row w9 _ 17 _ 42 hl9, HK.out w3 _ v' HR3.out (hl9.set17 v') (own_tch ho t3 (fun j hj hm' => ?_)) (NewOr.of t1.size hb) ?_⟩
        · simp at hm'
          subst hm'
          exact own_ne ho hl9 (by decide) hj
        · exact (t2.sub (fun x hx _ => List.mem_cons_of_mem _ hx)).trans t3 (fun x hx _ => by simp at hx; simp [hx])
      obtain ⟨sa, sc, hsv⟩ := own_shape HO3.out
      have q9 : w3.cell? ⟨wb.heap.size, 9, none⟩ = some (.string gg) := cell_qC HB3.out 9 _ rfl
      have q11 : w3.cell? ⟨wb.heap.size, 11, none⟩ = some (.string bod) := cell_qC HB3.out 11 _ rfl
      have lq := lt_of_block HB3.out
      clear HK
      by_cases h0 : 0 < ms.length
      · have hd : decide ((0 : Int) < (ms.length : Int)) = true := decide_eq_true (by omega)
        obtain ⟨g, rfl⟩ : ∃ g, sa = some ⟨g, 0, none⟩ := by
          rcases HO3.out.2 with ⟨_, h1⟩ | ⟨g, cap, cur, h0, _⟩
          · omega
          · rw [hsv] at h0
            simp at h0
            exact ⟨g, h0.1⟩
        have hml : ms.length - 1 < ms.length := by omega
        have inh : Inhabited Ms := ⟨⟨0, ⟨#[]⟩, ⟨#[]⟩, 0, 0⟩⟩
        have d0 : w3.cell? ⟨g, (ms.length - 1) * 6, none⟩ = some (.int .i64 ms[ms.length - 1].num) := by
          have h2 := HO3.out
          rw [hsv] at h2
          have h1 := own_cells snR 6 (fun _ => rfl) h2 (ms.length - 1) hml 0 (.int .i64 ms[ms.length - 1].num) (by
            rw [List.getElem!_eq_getElem?_getD, List.getElem?_eq_getElem hml]
            rfl)
          simpa using h1
        have hlast := hlt _ (List.getElem_mem hml)
        generalize ms[ms.length - 1].num = lastn at *
        have hle : ¬ ((n : Int) ≤ lastn) := by omega
        subst hsv
        clear hlt
        go_wp2_with fail
        go_quiet (fail)
        go_wp2_with fail
        have HF4 : Hid (∀ v' w9, _) := HFIN.out nq
        have c17' : (w3.drewN nq).cell? ⟨lb, 17, none⟩ = some (.slice (some ⟨g, 0, none⟩) ms.length sc) := c17
        have q9' : (w3.drewN nq).cell? ⟨wb.heap.size, 9, none⟩ = some (.string gg) := q9
        have q11' : (w3.drewN nq).cell? ⟨wb.heap.size, 11, none⟩ = some (.string bod) := q11
        have ll' : lb < (w3.drewN nq).heap.size := ll
        have lq' : wb.heap.size < (w3.drewN nq).heap.size := lq
        have HO4 : Hid ((w3.drewN nq).ownsRow 0 53 6 (.slice (some ⟨g, 0, none⟩) ms.length sc) ms.length (ms.flatMap snR)) := HO3.out
        clear HFIN c17 q9 q11 ll lq HO3 HL3 HB3 HR3 HLN HT0 T2 HR2 HL2 HBX
        generalize w3.drewN nq = w4 at *
        have c17a : (w4.alloc (.cells (snR ⟨(n : Int), gg, bod, 0, 0⟩).toArray 53)).cell? ⟨lb, 17, none⟩ = some (.slice (some ⟨g, 0, none⟩) ms.length sc) := Lib.cell?_alloc_some _ c17'
        generalize ms.flatMap snR = xs at *
        go_region_law (refine step_vals rfl (.tmp 80) (.tmp 87) 40 53 rfl Tryz.underlying40 (.agg #[.int .i64 0, .string ⟨#[]⟩, .string ⟨#[]⟩, .bool false, .int .i64 0, .bool false]) 6 64 info53 rfl (by decide) (by decide) (.slice (some ⟨g, 0, none⟩) ms.length sc) ms.length xs (by simp [Act.eval, Act.put]) (own_tch HO4.out ((Tch.refl [] _).drew.alloc _) (fun _ _ => by simp)) w4.heap.size (snR ⟨(n : Int), gg, bod, 0, 0⟩) 1 (by simp [Act.eval, Act.put]) rfl (by decide) (heap_alloc_new _ _) (by intro u hu; simp [snR] at hu; rcases hu with rfl | rfl | rfl | rfl | rfl | rfl <;> rfl) (by omega) ?_; intro v' w9 ho3 hg3 hb3; obtain ⟨g4, cap4, hv4, c9, z9, hfin⟩ := HF4.out v' w9 ho3 hg3 hb3; subst hv4; clear ho3 hg3 hb3; have HFI2 : Hid (K _) := hfin; clear hfin)
        all_goals (go_wp2_with fail; go_ret; exact ⟨rfl, HFI2.out⟩)
      · have hd : decide ((0 : Int) < (ms.length : Int)) = false := decide_eq_false (by omega)
        subst hsv
        clear hlt
        go_wp2_with fail
        go_quiet (fail)
        go_wp2_with fail
        have HF4 : Hid (∀ v' w9, _) := HFIN.out nq
        have c17' : (w3.drewN nq).cell? ⟨lb, 17, none⟩ = some (.slice sa ms.length sc) := c17
        have q9' : (w3.drewN nq).cell? ⟨wb.heap.size, 9, none⟩ = some (.string gg) := q9
        have q11' : (w3.drewN nq).cell? ⟨wb.heap.size, 11, none⟩ = some (.string bod) := q11
        have ll' : lb < (w3.drewN nq).heap.size := ll
        have lq' : wb.heap.size < (w3.drewN nq).heap.size := lq
        have HO4 : Hid ((w3.drewN nq).ownsRow 0 53 6 (.slice sa ms.length sc) ms.length (ms.flatMap snR)) := HO3.out
        clear HFIN c17 q9 q11 ll lq HO3 HL3 HB3 HR3 HLN HT0 T2 HR2 HL2 HBX
        generalize w3.drewN nq = w4 at *
        have c17a : (w4.alloc (.cells (snR ⟨(n : Int), gg, bod, 0, 0⟩).toArray 53)).cell? ⟨lb, 17, none⟩ = some (.slice sa ms.length sc) := Lib.cell?_alloc_some _ c17'
        generalize ms.flatMap snR = xs at *
        go_region_law (refine step_vals rfl (.tmp 80) (.tmp 87) 40 53 rfl Tryz.underlying40 (.agg #[.int .i64 0, .string ⟨#[]⟩, .string ⟨#[]⟩, .bool false, .int .i64 0, .bool false]) 6 64 info53 rfl (by decide) (by decide) (.slice sa ms.length sc) ms.length xs (by simp [Act.eval, Act.put]) (own_tch HO4.out ((Tch.refl [] _).drew.alloc _) (fun _ _ => by simp)) w4.heap.size (snR ⟨(n : Int), gg, bod, 0, 0⟩) 1 (by simp [Act.eval, Act.put]) rfl (by decide) (heap_alloc_new _ _) (by intro u hu; simp [snR] at hu; rcases hu with rfl | rfl | rfl | rfl | rfl | rfl <;> rfl) (by omega) ?_; intro v' w9 ho3 hg3 hb3; obtain ⟨g4, cap4, hv4, c9, z9, hfin⟩ := HF4.out v' w9 ho3 hg3 hb3; subst hv4; clear ho3 hg3 hb3; have HFI2 : Hid (K _) := hfin; clear hfin)
        all_goals (go_wp2_with fail; go_ret; exact ⟨rfl, HFI2.out⟩)
end Go.Proofs.YtbdobaapadlcjaaGreatDoor
