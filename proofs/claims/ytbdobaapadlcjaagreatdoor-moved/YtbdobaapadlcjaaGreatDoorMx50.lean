/-
  A BROKER WITH WHATEVER IT HAS: Plan at the Ops R, S and A. send of the line (20). AGAIN: one message more; the last receive (22). WHAT THE TRACES ASK OF A BROKER WITH WHATEVER IT HAS: create (25), asked (18) and receive (22); a new broker.
-/
import Derived.Test.YtbdobaapadlcjaaGreatDoorMx48
import Derived.Test.YtbdobaapadlcjaaGreatDoorMx49
import Derived.Test.YtbdobaapadlcjaaGreatDoorMx47
import Derived.Test.YtbdobaapadlcjaaGreatDoorMx37
import Derived.Deep.DeepCutAuto
import Derived.BigQuiet
import Derived.Test.YtbdobaapadlcjaaGreatDoorMx39
namespace Go.Proofs.YtbdobaapadlcjaaGreatDoor
open Go.RowKit
set_option linter.unusedVariables false
set_option linter.unusedSimpArgs false

theorem MsG.ok {nx : Nat} {m : Ms} (h : MsG nx m) (hn : nx ≤ 201) : MsOk m := ⟨by have := h.num; omega, h.rcv, by have := h.grp; omega, by have := h.bod; omega⟩
theorem QW.mso {i : Nat} {Q : QM} (h : QW i Q) : ∀ m ∈ Q.ms, MsOk m := fun m hm => (h.mok m hm).ok h.nx.2
theorem QW.giv {i : Nat} {Q : QM} (h : QW i Q) (g : ByteArray) : (givM Q g).length ≤ 58 := by
  unfold givM
  split
  · rename_i m hm
    have h1 := h.mok m (List.mem_of_getElem? hm)
    rw [givB_len]
    have := h1.grp
    have := h1.bod
    omega
  · simp
theorem QW.ans {i : Nat} {Q : QM} (h : QW i Q) (cnt : Nat) (hc : cnt ≤ 10) : (ansL Q cnt cnt).length ≤ 600 := by
  unfold ansL
  rw [List.length_append, lowB_length]
  have h1 := flt_len (givM Q) 58 (Q.rs.take cnt) (fun g _ => h.giv g)
  rw [List.length_take] at h1
  omega
theorem QW.rem {i : Nat} {Q : QM} (h : QW i Q) (hl : Q.ats.length < 20) (a : At) (h1 : a.id.size ≤ 8) (h2 : 0 < a.ans.size ∧ a.ans.size ≤ 600) (h3 : 0 ≤ a.til ∧ a.til ≤ 62000) : QW i (remQ Q a) := by
  unfold remQ
  split
  · exact h
  · refine { c := h.c, nx := h.nx, mq := h.mq, nums := h.nums, mok := h.mok, hd := h.hd, rn := h.rn, rr := h.rr, dn := h.dn, dok := h.dok, al := ?_, aok := fun x hx => ?_ }
    · show (Q.ats ++ [a]).length ≤ 20
      simp
      omega
    · rcases List.mem_append.1 hx with hx | hx
      · exact h.aok x hx
      · simp at hx
        subst hx
        exact ⟨⟨by omega, h1⟩, h2, h3⟩
/-- What R leaves of the queues. -/
def recvC (c : Nat → Option QM) (i : Nat) (Q : QM) (att : ByteArray) (cnt : Nat) (now : Int) : Nat → Option QM := if cnt = 0 then c else setC c i (some (recvQ Q att cnt (now + Q.c.vis) (ansL Q cnt cnt)))
/-- The Op R of what is not told yet. -/
theorem op_R (B : Nat) (r : Wp.Rq) (x st b i mx cnt : Nat) (now : Int) (c : Nat → Option QM) (col : Nat → Nat) (w : World) (hE : Env B w) (hb : Bk B w x st b now c col) (hop : r.op = 82) (hi : i < 8) (hq : r.q.toNat = 97 + i) (Q : QM) (hQ : c i = some Q) (hid : idxL (isA r.att) Q.ats < 0) (hna : Q.ats.length < 20) (has : r.att.size ≤ 8) (hmx : r.mx = (mx : Nat)) (hm1 : 1 ≤ mx ∧ mx ≤ 10) (hcnt : cnt = if mx ≤ Q.rs.length then mx else Q.rs.length)
    (Z : Nat → Option BQ) (o : Option ByteArray) (room : Int) (hs : SG B w st b now Z col) (hc : ctZ Z = c) (W : World) (y : Sl) (ht : Tch [] w W) :
    Calls Tryz.prog 62 #[.pointer (some ⟨st, 0, none⟩), .agg (cellsOf r y.v)] W fun e w' => Tch [] W w' ∧ PlG B (fun w => Jg B w x st o room) (fun t w' => t = okL (ansL Q cnt cnt) ∧ Did B x st b w col now (recvC c i Q r.att cnt now) w') e w' := by
  have hQ' : ctZ Z i = some Q := by rw [hc]; exact hQ
  obtain ⟨z, hz, hzq⟩ := ctZ_get hQ'
  have hW := hb.wf i Q hi hQ
  have hnw := hb.nw
  have hvis := hW.c.vis
  have hcl : cnt ≤ Q.rs.length ∧ cnt ≤ 10 := by split at hcnt <;> omega
  have hrl := hW.rl
  have hml := hW.ml
  refine plan_w B _ _ r y st b 17 207 (b + 2) now _ W (by rw [hop]; rfl) (by decide) (hs.tch ht).stb rfl eg207 ?_
  intro W1 ht1
  have tW := ht.trans ht1 (by simp)
  have hsW := hs.tch tW
  refine within_g B _ _ r y st b i 163 (b + 2) z.qb now _ W1 hq hi hsW.stb (by show ptrV (ptZ Z i) = _; unfold ptZ; rw [hz]; rfl) (hsW.tb 2 163 (by decide)) eg163 ?_
  intro W2 ht2
  have tW2 := tW.trans ht2 (by simp)
  have hqr : ∀ {W'}, Tch [] w W' → QR W' z.qb z.V Q := fun {W'} h => by rw [← hzq]; exact (hs.tch h).qr i z hi hz
  refine (receive_some Q z.V r y z.qb now W2 (hqr tW2) (by have := hW.al; omega) (by omega) hid mx cnt hmx hm1 hcnt hnw ⟨by omega, by omega⟩ (by omega) (fun g hg => hW.hidx hg) hW.mso).mono ?_
  rintro e w' ⟨gc, ga, base, av, ⟨h0, rfl, hown, ht'⟩ | ⟨h0, rfl, hrc, hg1, hg2, hg3⟩⟩
  · refine ⟨ht', .inr ⟨av, .nilFunc, ansL Q cnt cnt, rfl, .inr ⟨ansL_pos Q cnt cnt, by have := hW.ans cnt hcl.2; omega, Rdb.of_own hown (ansL_pos Q cnt cnt)⟩, fun w2 ht2 => .inl ⟨rfl, fun w3 ht3 => ⟨rfl, ?_⟩⟩⟩⟩
    have t3 : Tch [] w w3 := ((tW2.trans ht' (by simp)).trans ht2 (by simp)).trans ht3 (by simp)
    unfold recvC
    rw [if_pos h0]
    exact did_same hb hE.size t3
  · refine ⟨hrc.tch, .inr ⟨av, _, ansL Q cnt cnt, rfl, .inr ⟨ansL_pos Q cnt cnt, by have := hW.ans cnt hcl.2; omega, Rdb.of_own hrc.own (ansL_pos Q cnt cnt)⟩, fun w1 ht1 => .inr ⟨212, _, rfl, eg212, fun w2 w3 ht2 hf3 hj3 => ?_⟩⟩⟩
    have t2 : Tch [] w w2 := ((tW2.trans hrc.tch (by simp)).trans ht1 (by simp)).trans ht2 (by simp)
    have hs3 := hs.lay t2 hf3
    have hz2 := t2.size
    have hz3 := hf3.size
    have hcp := (hrc.tch0 (ht1.trans ht2 (by simp))).cap.keep hf3 (by decide)
    refine (recvd_any Q z.V (cellsOf r y.v) r.att z.qb cnt W2.heap.size gc ga base (now + Q.c.vis) av (ansL Q cnt cnt) w3 (by rw [← hzq]; exact hs3.qr i z hi hz) hcp rfl ⟨h0, by omega⟩ hcl.1 (fun g hg => hW.hidx hg) hW.mso (by omega) hna (ansL_pos Q cnt cnt)).mono ?_
    rintro e w4 ⟨rfl, hl⟩
    have hsn := hs3.updn (by have := hE.size; omega) hi hz hl
    rw [hc] at hsn
    unfold recvC
    rw [if_neg (by omega)]
    refine ⟨rfl, rfl, did_n hE.size t2 hf3 hj3 hsn (hb.wf.set ?_) hnw⟩
    exact QW.rem (hW.recv hcl.1 ⟨by omega, by omega⟩) hna _ has ⟨by show 0 < (ansL Q cnt cnt).toArray.size; simpa using ansL_pos Q cnt cnt, by show (ansL Q cnt cnt).toArray.size ≤ 600; simpa using hW.ans cnt hcl.2⟩ ⟨by show (0 : Int) ≤ now + Q.c.vis; omega, by show now + Q.c.vis ≤ 62000; omega⟩
/-- The Op S of what is new. -/
theorem op_S (B : Nat) (r : Wp.Rq) (x st b i : Nat) (now : Int) (c : Nat → Option QM) (col : Nat → Nat) (w : World) (hE : Env B w) (hb : Bk B w x st b now c col) (hop : r.op = 83) (hi : i < 8) (hq : r.q.toNat = 97 + i) (Q : QM) (hQ : c i = some Q) (hid : idxL (isI (didS r)) Q.ds < 0) (hbod : r.bod.size ≤ 40) (hgrp : 1 ≤ r.grp.size ∧ r.grp.size ≤ 8) (hdd : r.ded.size ≤ 8) (hquo : (Q.ms.length : Int) < Q.c.quo) (hk : Q.next ≤ 200)
    (Z : Nat → Option BQ) (o : Option ByteArray) (room : Int) (hs : SG B w st b now Z col) (hc : ctZ Z = c) (W : World) (y : Sl) (ht : Tch [] w W) :
    Calls Tryz.prog 62 #[.pointer (some ⟨st, 0, none⟩), .agg (cellsOf r y.v)] W fun e w' => Tch [] W w' ∧ PlG B (fun w => Jg B w x st o room) (fun t w' => t = okL (lowB Q.next 4) ∧ Did B x st b w col now (setC c i (some (sendQ Q r now))) w') e w' := by
  have hQ' : ctZ Z i = some Q := by rw [hc]; exact hQ
  obtain ⟨z, hz, hzq⟩ := ctZ_get hQ'
  have hW := hb.wf i Q hi hQ
  have hnw := hb.nw
  have hwin := hW.c.win
  have hrl := hW.rl
  have hml := hW.ml
  have hdl := hW.dl
  have hids : (didS r).size ≤ 8 := by
    unfold didS
    split
    · show (0 :: lowB _ 4).toArray.size ≤ 8
      simp [lowB_length]
    · exact hdd
  refine plan_w B _ _ r y st b 18 207 (b + 3) now _ W (by rw [hop]; rfl) (by decide) (hs.tch ht).stb rfl eg207 ?_
  intro W1 ht1
  have tW := ht.trans ht1 (by simp)
  have hsW := hs.tch tW
  refine within_g B _ _ r y st b i 164 (b + 3) z.qb now _ W1 hq hi hsW.stb (by show ptrV (ptZ Z i) = _; unfold ptZ; rw [hz]; rfl) (hsW.tb 3 164 (by decide)) eg164 ?_
  intro W2 ht2
  have tW2 := tW.trans ht2 (by simp)
  have hqW : QR W2 z.qb z.V Q := by rw [← hzq]; exact (hs.tch tW2).qr i z hi hz
  obtain ⟨am, cm, hvm⟩ := own_shape hqW.m
  have hbk := hqW.blk
  rw [hvm] at hbk
  have hz2 := tW2.size
  have hE3 := hE.three
  have hES := hE.size
  refine (sendg_new Q.c r y z.qb Q.next Q.ms.length cm am Q.ds now z.V.r z.V.d z.V.a W2 hbk hbod (hE.tab.tch tW2 (by simp) (by omega)) (by omega) hqW.d (by omega) hid hquo hk).mono ?_
  rintro e w' ⟨av, gi, rfl, hown, hb', b0, bi, b1, b2⟩
  have t1 := Tch.of_below hb'
  refine ⟨t1, .inr ⟨av, _, lowB Q.next 4, rfl, .inr ⟨by rw [lowB_length]; omega, by rw [lowB_length]; omega, Rdb.of_own hown (by rw [lowB_length]; omega)⟩, fun w1 ht1 => .inr ⟨218, _, rfl, eg158, fun w2 w3 ht2 hf3 hj3 => ?_⟩⟩⟩
  have t2 : Tch [] w w2 := ((tW2.trans t1 (by simp)).trans ht1 (by simp)).trans ht2 (by simp)
  have hs3 := hs.lay t2 hf3
  have hzz2 := t2.size
  have hzz3 := hf3.size
  have kp : ∀ (j : Nat) (C : Array Value) (t : TypeId), w'.heap[j]? = some (.cells C t (0, 0)) → t ∉ TJ → w3.heap[j]? = some (.cells C t (0, 0)) := fun j C t hj hT => hf3.keep j C t (((ht1.trans ht2 (by simp)).block j (lt_of_block hj) (by simp)).trans hj) hT
  refine (sent_q Q z.V r y z.qb W2.heap.size gi (W2.heap.size + 1) (W2.heap.size + 2) now w3 (by rw [← hzq]; exact hs3.qr i z hi hz) (by omega) (by omega) (by omega) hk ⟨by omega, by omega⟩ hnw (kp _ _ _ b0 (by decide)) (kp _ _ _ bi (by decide)) (kp _ _ _ b1 (by decide)) (kp _ _ _ b2 (by decide))).mono ?_
  rintro e w4 ⟨rfl, hl⟩
  have hsn := hs3.updn (by omega) hi hz hl
  rw [hc] at hsn
  exact ⟨rfl, rfl, did_n hE.size t2 hf3 hj3 hsn (hb.wf.set (hW.send hquo hk hgrp hbod hids hnw)) hnw⟩

/-- A handle's letter and numbers. -/
def HanIs (s : ByteArray) (i num rcv : Nat) : Prop := ∃ h8 : s.size = 8, s[0] = 72 ∧ isLet s[1] = true ∧ s[1].toNat = 97 + i ∧ leN (tk (s.extract 2 8) 4).data.toList = num ∧ leN (tk (lf (s.extract 2 8) 4) 2).data.toList = rcv
/-- What a broker finds of a handle. -/
theorem find_sg (B : Nat) (s : ByteArray) (st b i num rcv : Nat) (now : Int) (Z : Nat → Option BQ) (col : Nat → Nat) (w : World) (hE : Env B w) (hh : HanIs s i num rcv) (hi : i < 8) (hs : SG B w st b now Z col) (x : BQ) (hx : Z i = some x) (hl : x.Q.ms.length ≤ 1000) :
    Calls Tryz.prog 194 #[.pointer (some ⟨st, 0, none⟩), .string s] w fun e w' => e = .returned (.tuple #[if fliesQ x.Q num rcv = true then .pointer (some ⟨x.qb, 0, none⟩) else .pointer none, .int .i64 (if fliesQ x.Q num rcv = true then (num : Int) else 0), .int .i64 (if fliesQ x.Q num rcv = true then 0 else 8)]) ∧ Tch [] w w' := by
  obtain ⟨h8, h0, h1, h2, h3, h4⟩ := hh
  have hrd := read_yes B s w hE.lays hE.size h8 h0 h1
  rw [h3, h4] at hrd
  refine find_fl (fliesQ x.Q num rcv) st x.qb s ((s[1].toNat : Nat) : Int) num rcv w ⟨hrd, fun W ht => ?_⟩ (fun W ht => ?_)
  · have h5 := at_g st b i now _ W (hs.tch ht).stb hi
    have e : ((s[1].toNat : Nat) : Int) = 97 + (i : Int) := by rw [h2]; omega
    rw [e]
    have e2 : ptrV (ptZ Z i) = .pointer (some ⟨x.qb, 0, none⟩) := by unfold ptZ; rw [hx]; rfl
    rw [e2] at h5
    exact h5
  · exact flies_any x.Q x.V x.qb s[1] num rcv W ((hs.tch ht).qr i x hi hx) hl
theorem flies_get {Q : QM} {num rcv : Int} (h : fliesQ Q num rcv = true) : ∃ m, Q.ms.find? (isN num) = some m ∧ 0 < m.til ∧ m.rcv = rcv := by
  unfold fliesQ at h
  cases hf : Q.ms.find? (isN num) with
  | none => rw [hf] at h; simp at h
  | some m =>
    rw [hf] at h
    simp at h
    exact ⟨m, rfl, h.1, h.2⟩
/-- The Op A of a message that flies. -/
theorem op_A (B : Nat) (r : Wp.Rq) (x st b i num rcv : Nat) (now : Int) (c : Nat → Option QM) (col : Nat → Nat) (w : World) (hE : Env B w) (hb : Bk B w x st b now c col) (hop : r.op = 65) (hi : i < 8) (hh : HanIs r.han i num rcv) (Q : QM) (hQ : c i = some Q) (hfl : fliesQ Q num rcv = true)
    (Z : Nat → Option BQ) (o : Option ByteArray) (room : Int) (hs : SG B w st b now Z col) (hc : ctZ Z = c) (W : World) (y : Sl) (ht : Tch [] w W) :
    Calls Tryz.prog 62 #[.pointer (some ⟨st, 0, none⟩), .agg (cellsOf r y.v)] W fun e w' => Tch [] W w' ∧ PlG B (fun w => Jg B w x st o room) (fun t w' => t = okL [] ∧ Did B x st b w col now (setC c i (some (dropQ Q num))) w') e w' := by
  have hQ' : ctZ Z i = some Q := by rw [hc]; exact hQ
  obtain ⟨z, hz, hzq⟩ := ctZ_get hQ'
  have hW := hb.wf i Q hi hQ
  have hrl := hW.rl
  have hml := hW.ml
  obtain ⟨m, hf, hft, hfr⟩ := flies_get hfl
  refine plan_p B _ _ r y st b 0 157 now _ W (by rw [hop]; rfl) (by decide) (hs.tch ht).stb rfl eg157 ?_
  intro W1 ht1
  have tW := ht.trans ht1 (by simp)
  refine (ack_ok (num : Int) z.qb r y st W1 (fun W2 ht2 => ?_)).mono ?_
  · have tW2 := tW.trans ht2 (by simp)
    have h1 := find_sg B r.han st b i num rcv now Z col W2 (hE.tch tW2 (by simp)) hh hi (hs.tch tW2) z hz (by rw [hzq]; omega)
    rw [hzq, hfl] at h1
    exact h1
  · rintro e w1 ⟨gq, gn, rfl, ht2, hgq, hgn⟩
    refine ⟨ht2, .inr ⟨_, _, [], rfl, .inl ⟨rfl, rfl⟩, fun w2 ht3 => .inr ⟨195, _, rfl, eg195, fun w3 w4 ht4 hf4 hJ4 => ?_⟩⟩⟩
    have t23 : Tch [] w1 w3 := ht3.trans ht4 (by simp)
    have t3 : Tch [] w w3 := (tW.trans ht2 (by simp)).trans t23 (by simp)
    have hs4 := hs.lay t3 hf4
    have hz3 := t3.size
    have hz4 := hf4.size
    have kgq := hf4.keep _ _ _ ((t23.block _ (lt_of_block hgq) (by simp)).trans hgq) (by decide)
    have kgn := hf4.keep _ _ _ ((t23.block _ (lt_of_block hgn) (by simp)).trans hgn) (by decide)
    obtain ⟨p, hp, _⟩ := find_idx hf
    refine ackd_walk _ (num : Int) z.qb gq gn w4 kgq kgn ((drop_any Q z.V z.qb num w4 (by rw [← hzq]; exact hs4.qr i z hi hz) (by omega) (by omega) (by rw [hp]; omega)).mono ?_)
    rintro e w5 ⟨rfl, hl⟩
    have hsn := hs4.updn (by have := hE.size; omega) hi hz hl
    rw [hc] at hsn
    exact ⟨rfl, rfl, did_n hE.size t3 hf4 hJ4 hsn (hb.wf.set (hW.drop hf hft)) hb.nw⟩
end Go.Proofs.YtbdobaapadlcjaaGreatDoor

namespace Go.Proofs.YtbdobaapadlcjaaGreatDoor
open Go.RowKit Keep
set_option linter.unusedVariables false
set_option linter.unusedSimpArgs false

/-- A step that sends. -/
abbrev stepC (g b : ByteArray) : Array Value := #[.int .i64 0, .int .i64 0, .int .i64 0, .string g, .string ⟨#[]⟩, .string b]
abbrev sndRq (g b : ByteArray) : Wp.Rq := ⟨83, 97, 0, 0, 0, 0, 0, 0, 0, g, ⟨#[]⟩, b, ⟨#[]⟩, ⟨#[]⟩⟩
abbrev sndC (g b : ByteArray) : Array Value := #[.int .u8 83, .int .u8 97, .int .u8 0, .int .i64 0, .int .i64 0, .int .i64 0, .int .i64 0, .int .i64 0, .int .i64 0, .string g, .string ⟨#[]⟩, .string b, .string ⟨#[]⟩, .string ⟨#[]⟩, .slice none 0 0]
end Go.Proofs.YtbdobaapadlcjaaGreatDoor

namespace Go.Proofs.YtbdobaapadlcjaaGreatDoor
open Go.RowKit Keep
set_option linter.unusedVariables false
set_option linter.unusedSimpArgs false

abbrev TS : List TypeId := [234, 143, 110, 116, 156, 191, 226, 230, 9, 42, 53]
/-- A game of which i messages were sent; good for k more requests. -/
structure AI (B : Nat) (w wr : World) (lb x st b qb : Nat) (c : Wp.Rq) (k i : Nat) (V : QV) (Q : QM) (sv : Value) : Prop where
  gq : GQ B k wr x st b qb 0 V Q
  ln : Ln wr lb x c sv
  own : wr.ownsRow 0 53 6 sv Q.ms.length (Q.ms.flatMap snR)
  slo : ∀ j, sv.ownBlock = some j → B ≤ j
  llo : B ≤ lb
  si : SI Q
  qc : Q.c = c
  len : Q.ms.length ≤ i
  ne : 0 < i → Q.ms ≠ []
  fr : Fr B TS w wr
theorem small_R (r : Wp.Rq) (hright : rightW r nil0 (Wp.short []) = true) (hop : r.op = 82) (h1 : r.att.size ≤ 20) : (printS r nil0 []).size ≤ 300 := by
  rw [(print_bytes r nil0 [] hright).1, BA_size, List.append_nil, List.length_cons, show Wp.lay (r.op.toNat - 65) = [0, 12, 6] by rw [hop]; rfl]
  simp only [encL, List.flatMap_cons, List.flatMap_nil, List.length_append, List.length_nil]
  rw [encF_l0 _ _ 0 rfl, encF_l3 _ _ 12 rfl, encF_l1 _ _ 6 rfl]
  show 1 + (1 + r.att.size + (1 + 0)) + 1 ≤ 300
  omega
abbrev rcvRq (att : ByteArray) (mx : Int) : Wp.Rq := ⟨82, 97, 0, 0, 0, 0, 0, mx, 0, ⟨#[]⟩, ⟨#[]⟩, ⟨#[]⟩, att, ⟨#[]⟩⟩
abbrev rcvC (att : ByteArray) (mx : Int) : Array Value := #[.int .u8 82, .int .u8 97, .int .u8 0, .int .i64 0, .int .i64 0, .int .i64 0, .int .i64 0, .int .i64 mx, .int .i64 0, .string ⟨#[]⟩, .string ⟨#[]⟩, .string ⟨#[]⟩, .string att, .string ⟨#[]⟩, .slice none 0 0]
end Go.Proofs.YtbdobaapadlcjaaGreatDoor

namespace Go.Proofs.YtbdobaapadlcjaaGreatDoor
open Go.RowKit
set_option linter.unusedVariables false
set_option linter.unusedSimpArgs false

theorem Env.fq {B : Nat} {T : List TypeId} {c : Nat → Nat} {w w' : World} (h : Env B w) (hf : FqT T B c w w') : Env B w' :=
  have hz := hf.size
  h.fr (T := T ++ [9]) ⟨hf.os, hf.tape, hf.output, hf.size, hf.low, fun k C t hk ht => hf.keep k C t hk (fun hm => ht (List.mem_append.2 (.inl hm)))⟩
theorem Did.env {B x st b : Nat} {w w' : World} {col : Nat → Nat} {now : Int} {c : Nat → Option QM} (h : Did B x st b w col now c w') (hE : Env B w) : Env B w' := by
  obtain ⟨col', h1, h2, h3⟩ := h
  exact hE.fq h3
/-- Do (34) of a request's bytes, out of what Plan leaves. -/
theorem do_g (K : ByteArray → World → Prop) (B : Nat) (r : Wp.Rq) (x st b : Nat) (now : Int) (c : Nat → Option QM) (col : Nat → Nat) (w : World) (hE : Env B w) (hb : Bk B w x st b now c col) (hw : Wf r) (hright : rightW r nil0 (Wp.short []) = true) (hsm : (printS r nil0 []).size ≤ 90000)
    (hP : ∀ Z o room, SG B w st b now Z col → ctZ Z = c → ∀ (W : World) (y : Sl), Tch [] w W → Calls Tryz.prog 62 #[.pointer (some ⟨st, 0, none⟩), .agg (cellsOf r y.v)] W fun e w' => Tch [] W w' ∧ PlG B (fun w => Jg B w x st o room) K e w') (W : World) (hbW : Below w.heap.size w W) :
    Calls Tryz.prog 34 #[.pointer (some ⟨x, 0, none⟩), .string (printS r nil0 [])] W fun e w' => ∃ t, e = .returned (.string t) ∧ K t w' := by
  obtain ⟨⟨Z, hs, hc⟩, hwf, hnw, o, room, hJ⟩ := hb
  obtain ⟨hg, hr, _⟩ := print_good r nil0 [] hw rfl hright
  have tb := Tch.of_below hbW
  have hsW := hs.tch tb
  have hEW := hE.tch tb (by simp)
  have hOk : ∀ i x, i < 8 → Z i = some x → QOk x.Q := fun i x hi hx => (hwf i x.Q hi (by rw [← hc]; exact ctZ_some hx)).ok
  refine bdo_g K B o room ⟨(wholeB now Z).toArray⟩ (printS r nil0 []) r x st _ W hsm hEW.lays hEW.tab hEW.size hEW.three hg hr (hJ.tch tb) (by rw [rec_sz]; have := wholeB_len (now := now) hOk; omega) hsW.stb (fun W1 hf1 => ?_) ?_
  · exact whole_any B st b now Z col W1 (hsW.fr hf1 (by decide) (by decide) (by decide)) ⟨hnw.1, by have := hnw.2; omega⟩ hOk
  · intro W1 y ht1
    exact hP Z _ _ hs hc W1 y (tb.trans ht1 (by simp))

/-- A request that can be asked. -/
structure Rok (r : Wp.Rq) : Prop where
  wf : Wf r
  right : rightW r nil0 (Wp.short []) = true
  small : (printS r nil0 []).size ≤ 90000
theorem ask_op {A : ByteArray} {Dd : World → Prop} (B : Nat) (r : Wp.Rq) (x st b : Nat) (now : Int) (c : Nat → Option QM) (col : Nat → Nat) (w : World) (hE : Env B w) (hb : Bk B w x st b now c col) (hr : Rok r)
    (hP : ∀ Z o room, SG B w st b now Z col → ctZ Z = c → ∀ (W : World) (y : Sl), Tch [] w W → Calls Tryz.prog 62 #[.pointer (some ⟨st, 0, none⟩), .agg (cellsOf r y.v)] W fun e w' => Tch [] W w' ∧ PlG B (fun w => Jg B w x st o room) (fun t w' => t = A ∧ Dd w') e w') :
    Calls Tryz.prog 18 #[.pointer (some ⟨x, 0, none⟩), .agg (cellsOf r nil0.v)] w fun e w' => e = .returned (.string A) ∧ Dd w' := by
  refine (ask_g (fun t w' => t = A ∧ Dd w') B r x st b now c col w hE hb hr.wf hr.right hr.small hP).mono ?_
  rintro e w' ⟨t, rfl, rfl, h⟩
  exact ⟨rfl, h⟩
/-- create (25) where there is no such queue. -/
theorem create_g (B : Nat) (r : Wp.Rq) (x st b i : Nat) (now : Int) (c : Nat → Option QM) (col : Nat → Nat) (w : World) (hE : Env B w) (hb : Bk B w x st b now c col) (hr : Rok r) (hop : r.op = 67) (hi : i < 8) (hq : r.q.toNat = 97 + i) (hcf : CfW i r) (hno : c i = none) :
    Calls Tryz.prog 25 #[.pointer (some ⟨x, 0, none⟩), .agg (cellsOf r nil0.v)] w fun e w' => e = .returned (.bool true) ∧ Did B x st b w col now (setC c i (some (newM r))) w' := by
  refine create_walk _ B r x w hr.right hE.lays hE.size (fun W hbW => ?_)
  refine (do_g (fun t w' => t = okL [] ∧ Did B x st b w col now (setC c i (some (newM r))) w') B r x st b now c col w hE hb hr.wf hr.right hr.small (fun Z o room hs hc W y ht => op_C B r x st b i now c col w hE hb hop hi hq hcf hno Z o room hs hc W y ht) W hbW).mono ?_
  rintro e w' ⟨t, rfl, rfl, h⟩
  exact ⟨rfl, h⟩

/-- A right request of the Op R, whatever the letter. -/
abbrev rcvQq (q : UInt8) (mx : Int) : Wp.Rq := ⟨82, q, 0, 0, 0, 0, 0, mx, 0, ⟨#[]⟩, ⟨#[]⟩, ⟨#[]⟩, ⟨#[]⟩, ⟨#[]⟩⟩
theorem rcvQ_ok (q : UInt8) (i mx : Nat) (hq : q.toNat = 97 + i) (hi : i < 8) (hm : 1 ≤ mx ∧ mx ≤ 10) : Rok (rcvQq q (mx : Int)) := by
  have hwf : Wf (rcvQq q (mx : Int)) := Keep.wf_small _ Keep.zz Keep.zz Keep.zz Keep.zz ⟨by show (0 : Int) ≤ (mx : Int); omega, by show (mx : Int) ≤ (1001 : Int); omega⟩ Keep.zz
  have hright : rightW (rcvQq q (mx : Int)) nil0 (Wp.short []) = true := by
    refine (right_iff _ _ _ hwf).2 ⟨17, by decide, rfl, ?_, rfl, rfl⟩
    show List.all [0, 12, 6] _ = true
    simp only [List.all_cons, List.all_nil, Bool.and_true, Bool.and_eq_true]
    exact ⟨Keep.fits_of _ _ _ 0 (by decide) (by decide) (by decide) (show (97 : Int) ≤ (q.toNat : Int) by omega) (show (q.toNat : Int) ≤ 104 by omega), Keep.fits_of _ _ _ 12 (by decide) (by decide) (by decide) (show (0 : Int) ≤ (0 : Int) by omega) (show (0 : Int) ≤ 8 by omega), Keep.fits_of _ _ _ 6 (by decide) (by decide) (by decide) (show (1 : Int) ≤ (mx : Int) by omega) (show (mx : Int) ≤ 10 by omega)⟩
  exact ⟨hwf, hright, by have := small_R _ hright rfl (by show 0 ≤ 20; omega); omega⟩
theorem isA_none {Q : QM} {i : Nat} (h : QW i Q) : idxL (isA ⟨#[]⟩) Q.ats < 0 := by
  rw [idxL_neg]
  intro a ha
  have h1 := (h.aok a ha).1.1
  show (a.id.toList == (⟨#[]⟩ : ByteArray).toList) = false
  rw [beq_eq_false_iff_ne]
  intro e
  have := str_inj e
  rw [this] at h1
  exact absurd h1 (by decide)
set_option maxRecDepth 8000 in
set_option maxHeartbeats 1000000 in
/-- receive (22) without an attempt's id. -/
theorem receive_g (B : Nat) (q : UInt8) (x st b i mx cnt : Nat) (now : Int) (c : Nat → Option QM) (col : Nat → Nat) (w : World) (hE : Env B w) (hb : Bk B w x st b now c col) (hi : i < 8) (hq : q.toNat = 97 + i) (Q : QM) (hQ : c i = some Q) (hna : Q.ats.length < 20) (hm : 1 ≤ mx ∧ mx ≤ 10) (hcnt : cnt = if mx ≤ Q.rs.length then mx else Q.rs.length) :
    Calls Tryz.prog 22 #[.pointer (some ⟨x, 0, none⟩), .int .u8 (q.toNat : Int), .string ⟨#[]⟩, .int .i64 (mx : Int)] w fun e w' => ∃ v, e = .returned (.tuple #[v, .bool true]) ∧ w'.ownsRow 0 50 3 v (entL Q cnt).length ((entL Q cnt).flatMap Ge.row) ∧ Did B x st b w col now (recvC c i Q ⟨#[]⟩ cnt now) w' := by
  have hr := rcvQ_ok q i mx hq hi hm
  have hW := hb.wf i Q hi hQ
  have hcl : cnt ≤ Q.rs.length ∧ cnt ≤ 10 := by split at hcnt <;> omega
  have HA : Hid (Calls Tryz.prog 18 #[.pointer (some ⟨x, 0, none⟩), .agg #[.int .u8 82, .int .u8 (q.toNat : Int), .int .u8 0, .int .i64 0, .int .i64 0, .int .i64 0, .int .i64 0, .int .i64 (mx : Int), .int .i64 0, .string ⟨#[]⟩, .string ⟨#[]⟩, .string ⟨#[]⟩, .string ⟨#[]⟩, .string ⟨#[]⟩, .slice none 0 0]] w fun e w' => e = .returned (.string (recS (entL Q cnt))) ∧ Did B x st b w col now (recvC c i Q ⟨#[]⟩ cnt now) w') := by
    have h := ask_op (A := okL (ansL Q cnt cnt)) (Dd := Did B x st b w col now (recvC c i Q ⟨#[]⟩ cnt now)) B (rcvQq q (mx : Int)) x st b now c col w hE hb hr (fun Z o room hs hc W y ht => op_R B (rcvQq q (mx : Int)) x st b i mx cnt now c col w hE hb rfl hi hq Q hQ (isA_none hW) hna (by show 0 ≤ 8; omega) rfl hm hcnt Z o room hs hc W y ht)
    rw [ans_rec Q cnt hcl.1 (fun g hg => hW.hidx hg) hW.mso] at h
    exact h
  have HB : Hid (∀ W, Calls Tryz.prog 21 #[.string (recS (entL Q cnt))] W fun e w' => ∃ v, e = .returned (.tuple #[v, .bool true]) ∧ w'.ownsRow W.heap.size 50 3 v (entL Q cnt).length ((entL Q cnt).flatMap Ge.row) ∧ Tch [] W w') := fun W => received_any (entL Q cnt) W (entL_ok Q cnt (fun g hg => hW.hidx hg) hW.mso) (by rw [entL_len Q cnt hcl.1]; exact hcl.2)
  have HBw : Hid (B ≤ w.heap.size) := hE.size
  have hql := q.toNat_lt
  clear hr hcnt hcl hb hW hE hQ hq hm hql
  generalize ((q.toNat : Nat) : Int) = qn at *
  generalize ((mx : Nat) : Int) = mn at *
  generalize recvC c i Q ⟨#[]⟩ cnt now = c' at *
  generalize entL Q cnt = es at *
  generalize recS es = s at *
  go_enter Tryz.func22, Tryz.ntmps22
  go_wp2_with fail
  refine HA.out.mono ?_
  rintro e w1 ⟨rfl, hd1⟩
  go_wp2_with fail
  refine (HB.out _).mono ?_
  rintro e w2 ⟨v, rfl, ho2, ht2⟩
  have HF : Hid (w2.ownsRow 0 50 3 v es.length (es.flatMap Ge.row) ∧ Did B x st b w col now c' w2) := by
    obtain ⟨col', h1, h2, h3⟩ := hd1
    have hz := h3.size
    refine ⟨own_base ho2, col', h1.tch ht2, h2, h3.trans h2 (FqT.of_nil col' ht2 (by have := HBw.out; omega))⟩
  clear ho2 ht2 hd1
  go_wp2_with fail
  go_ret2
  exact ⟨v, rfl, HF.out.1, HF.out.2⟩

/-- A broker of a new disk. -/
theorem Opn.bk {B : Nat} {w : World} {x st b j d : Nat} (h : Opn B w x st b j d (.slice none 0 0)) (hd : B ≤ d) (col : Nat → Nat) : Bk B w x st b 0 (fun _ => none) col := by
  refine ⟨⟨fun _ => none, ⟨h.brk.hst, h.brk.tb, fun i x _ hx => by simp at hx, fun i x _ hx => by simp at hx, fun i x _ hx => by simp at hx, h.lo.2.1⟩, rfl⟩, fun i Q _ hQ => by simp at hQ, ⟨by omega, by omega⟩, none, 0, j, d, .slice none 0 0, 0, 0, h.hx, h.jr, fun k hk => ?_, ?_⟩
  · simp [jbl, Dk.bl, Value.ownBlock] at hk
    rcases hk with rfl | rfl
    · exact h.lo.2.2.1
    · exact hd
  · show ((0 : Nat) : Int) + 0 ≤ 400000 ∧ _
    omega
end Go.Proofs.YtbdobaapadlcjaaGreatDoor
