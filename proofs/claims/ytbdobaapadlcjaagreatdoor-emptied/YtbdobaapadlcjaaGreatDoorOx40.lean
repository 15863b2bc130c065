import Derived.Test.YtbdobaapadlcjaaGreatDoorOx37
import Derived.Test.YtbdobaapadlcjaaGreatDoorOx39
import Derived.Test.YtbdobaapadlcjaaGreatDoorOx29
import Derived.Test.YtbdobaapadlcjaaGreatDoorOx38
import Derived.BigQuiet
namespace Go.Proofs.YtbdobaapadlcjaaGreatDoor
open Go.RowKit
set_option linter.unusedVariables false
set_option linter.unusedSimpArgs false
theorem eg160x : ∀ args w, (callFunc 160 args).run Tryz.prog w = .ok (.enter 160 args) w := enters_of Tryz.func160 (by kernel_rfl) rfl
theorem eg202x : ∀ args w, (callFunc 202 args).run Tryz.prog w = .ok (.enter 202 args) w := enters_of Tryz.func202 (by kernel_rfl) rfl
theorem eg205x : ∀ args w, (callFunc 205 args).run Tryz.prog w = .ok (.enter 205 args) w := enters_of Tryz.func205 (by kernel_rfl) rfl
theorem ref_ans {B x st b : Nat} {w W w' : World} {col : Nat → Nat} {now : Int} {c : Nat → Option QM} {J : World → Prop} (hb : Bk B w x st b now c col) (hB : B ≤ w.heap.size) (er : UInt8) (h0 : 0 < er.toNat) (ht : Tch [] w W) (ht' : Tch [] W w') {e : Ending} (he : e = .returned (.tuple #[.slice none 0 0, .nilFunc, .int .i64 (er.toNat : Int)])) :
    Ans B J (fun t w' => t = ⟨#[er]⟩ ∧ Did B x st b w col now c w') e w' :=
  .inl ⟨er, h0, he, fun w2 ht2 => ⟨rfl, did_same hb hB ((ht.trans ht' (by simp)).trans ht2 (by simp))⟩⟩
theorem op_T9 (B : Nat) (r : Wp.Rq) (x st b : Nat) (now : Int) (c : Nat → Option QM) (col : Nat → Nat) (w : World) (hE : Env B w) (hb : Bk B w x st b now c col) (hop : r.op = 84) (hn : 0 ≤ r.tic ∧ r.tic ≤ 1000 ∧ 60000 < now + r.tic) (Z : Nat → Option BQ) (o : Option ByteArray) (room : Int) (hs : SG B w st b now Z col) (hc : ctZ Z = c) (W : World) (y : Sl) (ht : Tch [] w W) :
    Calls Tryz.prog 62 #[.pointer (some ⟨st, 0, none⟩), .agg (cellsOf r y.v)] W fun e w' => Tch [] W w' ∧ PlG B (fun w => Jg B w x st o room) (fun t w' => t = ⟨#[9]⟩ ∧ Did B x st b w col now c w') e w' := by
  refine plan_p B _ _ r y st b 19 165 now _ W (by rw [hop]; rfl) (by decide) (hs.tch ht).stb rfl eg165 ?_
  intro W1 ht1
  have tW := ht.trans ht1 (by simp)
  have hnw := hb.nw
  refine (goOn_late r y st now W1 (hs.tch tW).stb.now ⟨hnw.1, hn.1, hn.2.2, by omega⟩).mono ?_
  rintro e w1 ⟨he, ht2⟩
  exact ⟨ht2, ref_ans hb hE.size 9 (by decide) tW ht2 he⟩
theorem op_Sf (B : Nat) (r : Wp.Rq) (x st b i p num : Nat) (now : Int) (c : Nat → Option QM) (col : Nat → Nat) (w : World) (hE : Env B w) (hb : Bk B w x st b now c col) (hop : r.op = 83) (hi : i < 8) (hq : r.q.toNat = 97 + i) (Q : QM) (hQ : c i = some Q) (hbod : r.bod.size ≤ 40) (hid : idxL (isI (didS r)) Q.ds = (p : Int)) (hp : p < Q.ds.length) (hnum : Q.ds[p].num = (num : Nat))
    (Z : Nat → Option BQ) (o : Option ByteArray) (room : Int) (hs : SG B w st b now Z col) (hc : ctZ Z = c) (W : World) (y : Sl) (ht : Tch [] w W) :
    Calls Tryz.prog 62 #[.pointer (some ⟨st, 0, none⟩), .agg (cellsOf r y.v)] W fun e w' => Tch [] W w' ∧ PlG B (fun w => Jg B w x st o room) (fun t w' => t = okL (lowB num 4) ∧ Did B x st b w col now c w') e w' := by
  have hQ' : ctZ Z i = some Q := by rw [hc]; exact hQ
  obtain ⟨z, hz, hzq⟩ := ctZ_get hQ'
  have hW := hb.wf i Q hi hQ
  have hdl := hW.dl
  have hdk := (hW.dok _ (List.getElem_mem hp)).2.1
  have hnx := hW.nx
  refine plan_w B _ _ r y st b 18 207 (b + 3) now _ W (by rw [hop]; rfl) (by decide) (hs.tch ht).stb rfl eg207 ?_
  intro W1 ht1
  have tW := ht.trans ht1 (by simp)
  have hsW := hs.tch tW
  refine within_g B _ _ r y st b i 164 (b + 3) z.qb now _ W1 hq hi hsW.stb (by show ptrV (ptZ Z i) = _; unfold ptZ; rw [hz]; rfl) (hsW.tb 3 164 (by decide)) eg164 ?_
  intro W2 ht2
  have tW2 := tW.trans ht2 (by simp)
  have hqW : QR W2 z.qb z.V Q := by rw [← hzq]; exact (hs.tch tW2).qr i z hi hz
  obtain ⟨gd, cd, hvd⟩ : ∃ g cp, z.V.d = .slice (some ⟨g, 0, none⟩) Q.ds.length cp := by
    rcases hqW.d.2 with ⟨_, h0⟩ | ⟨g, cap, cur, h0, _⟩
    · omega
    · exact ⟨_, _, h0⟩
  have hbk := hqW.blk
  have hd := hqW.d
  rw [hvd] at hbk hd
  have hz2 := tW2.size
  have hE3 := hE.three
  have hES := hE.size
  refine (sendg_found Q.c r y z.qb gd Q.ds.length cd p num Q.ds now (Q.next : Int) z.V.m z.V.r z.V.a W2 hbk hbod (hE.tab.tch tW2 (by simp) (by omega)) (by omega) hd rfl (by omega) hid hp hnum (by omega)).mono ?_
  rintro e w' ⟨av, rfl, hown, hb'⟩
  have t1 := Tch.of_below hb'
  exact ⟨t1, .inr ⟨av, _, lowB num 4, rfl, .inr ⟨by rw [lowB_length]; omega, by rw [lowB_length]; omega, Rdb.of_own hown (by rw [lowB_length]; omega)⟩, fun w1 ht1 => .inl ⟨rfl, fun w3 ht3 => ⟨rfl, did_same hb hE.size (((tW2.trans t1 (by simp)).trans ht1 (by simp)).trans ht3 (by simp))⟩⟩⟩⟩
theorem op_Sr (B : Nat) (r : Wp.Rq) (x st b i : Nat) (now : Int) (c : Nat → Option QM) (col : Nat → Nat) (w : World) (hE : Env B w) (hb : Bk B w x st b now c col) (hop : r.op = 83) (hi : i < 8) (hq : r.q.toNat = 97 + i) (Q : QM) (hQ : c i = some Q) (hid : idxL (isI (didS r)) Q.ds < 0) (hbod : r.bod.size ≤ 40) (er : UInt8) (her : er = 5 ∧ Q.c.quo ≤ (Q.ms.length : Int) ∨ er = 6 ∧ (Q.ms.length : Int) < Q.c.quo ∧ 200 < Q.next)
    (Z : Nat → Option BQ) (o : Option ByteArray) (room : Int) (hs : SG B w st b now Z col) (hc : ctZ Z = c) (W : World) (y : Sl) (ht : Tch [] w W) :
    Calls Tryz.prog 62 #[.pointer (some ⟨st, 0, none⟩), .agg (cellsOf r y.v)] W fun e w' => Tch [] W w' ∧ PlG B (fun w => Jg B w x st o room) (fun t w' => t = ⟨#[er]⟩ ∧ Did B x st b w col now c w') e w' := by
  have hQ' : ctZ Z i = some Q := by rw [hc]; exact hQ
  obtain ⟨z, hz, hzq⟩ := ctZ_get hQ'
  have hW := hb.wf i Q hi hQ
  have hdl := hW.dl
  have hnx := hW.nx
  refine plan_w B _ _ r y st b 18 207 (b + 3) now _ W (by rw [hop]; rfl) (by decide) (hs.tch ht).stb rfl eg207 ?_
  intro W1 ht1
  have tW := ht.trans ht1 (by simp)
  have hsW := hs.tch tW
  refine within_g B _ _ r y st b i 164 (b + 3) z.qb now _ W1 hq hi hsW.stb (by show ptrV (ptZ Z i) = _; unfold ptZ; rw [hz]; rfl) (hsW.tb 3 164 (by decide)) eg164 ?_
  intro W2 ht2
  have tW2 := tW.trans ht2 (by simp)
  have hqW : QR W2 z.qb z.V Q := by rw [← hzq]; exact (hs.tch tW2).qr i z hi hz
  obtain ⟨am, cm, hvm⟩ := own_shape hqW.m
  have hbk := hqW.blk
  rw [hvm] at hbk
  have hz2 := tW2.size
  have hE3 := hE.three
  have hES := hE.size
  rcases her with ⟨rfl, hx⟩ | ⟨rfl, hx, hk⟩
  · refine (send_quota Q.c r y z.qb Q.next Q.ms.length cm am Q.ds now z.V.r z.V.d z.V.a W2 hbk hbod (hE.tab.tch tW2 (by simp) (by omega)) (by omega) hqW.d (by omega) hid hx (by omega)).mono ?_
    rintro e w' ⟨he, ht'⟩
    exact ⟨ht', ref_ans hb hE.size 5 (by decide) tW2 ht' he⟩
  · refine (send_seq Q.c r y z.qb Q.next Q.ms.length cm am Q.ds now z.V.r z.V.d z.V.a W2 hbk hbod (hE.tab.tch tW2 (by simp) (by omega)) (by omega) hqW.d (by omega) hid hx ⟨hk, by omega⟩).mono ?_
    rintro e w' ⟨he, ht'⟩
    exact ⟨ht', ref_ans hb hE.size 6 (by decide) tW2 ht' he⟩
theorem op_A8 (B : Nat) (r : Wp.Rq) (x st b i num rcv : Nat) (now : Int) (c : Nat → Option QM) (col : Nat → Nat) (w : World) (hE : Env B w) (hb : Bk B w x st b now c col) (hop : r.op = 65 ∨ r.op = 69) (hi : i < 8) (hh : HanIs r.han i num rcv) (Q : QM) (hQ : c i = some Q) (hfl : fliesQ Q num rcv = false)
    (Z : Nat → Option BQ) (o : Option ByteArray) (room : Int) (hs : SG B w st b now Z col) (hc : ctZ Z = c) (W : World) (y : Sl) (ht : Tch [] w W) :
    Calls Tryz.prog 62 #[.pointer (some ⟨st, 0, none⟩), .agg (cellsOf r y.v)] W fun e w' => Tch [] W w' ∧ PlG B (fun w => Jg B w x st o room) (fun t w' => t = ⟨#[8]⟩ ∧ Did B x st b w col now c w') e w' := by
  have hQ' : ctZ Z i = some Q := by rw [hc]; exact hQ
  obtain ⟨z, hz, hzq⟩ := ctZ_get hQ'
  have hW := hb.wf i Q hi hQ
  have hml := hW.ml
  have hF : ∀ W1, Tch [] w W1 → Calls Tryz.prog 194 #[.pointer (some ⟨st, 0, none⟩), .string r.han] W1 fun e w' => e = .returned (.tuple #[.pointer none, .int .i64 0, .int .i64 8]) ∧ Tch [] W1 w' := fun W1 t1 => by
    have h1 := find_sg B r.han st b i num rcv now Z col W1 (hE.tch t1 (by simp)) hh hi (hs.tch t1) z hz (by rw [hzq]; omega)
    rw [hzq, hfl] at h1
    exact h1
  rcases hop with hop | hop
  · refine plan_p B _ _ r y st b 0 157 now _ W (by rw [hop]; rfl) (by decide) (hs.tch ht).stb rfl eg157 ?_
    intro W1 ht1
    have tW := ht.trans ht1 (by simp)
    refine (ack_no 8 (.inr rfl) r y st W1 (fun W2 ht2 => hF W2 (tW.trans ht2 (by simp)))).mono ?_
    rintro e w1 ⟨he, ht2⟩
    exact ⟨ht2, ref_ans hb hE.size 8 (by decide) tW ht2 he⟩
  · refine plan_p B _ _ r y st b 4 160 now _ W (by rw [hop]; rfl) (by decide) (hs.tch ht).stb rfl eg160x ?_
    intro W1 ht1
    have tW := ht.trans ht1 (by simp)
    refine (ext_no 8 (.inr rfl) r y st W1 (fun W2 ht2 => hF W2 (tW.trans ht2 (by simp)))).mono ?_
    rintro e w1 ⟨he, ht2⟩
    exact ⟨ht2, ref_ans hb hE.size 8 (by decide) tW ht2 he⟩
def extC (c : Nat → Option QM) (i : Nat) (Q : QM) (num : Nat) (now tic : Int) : Nat → Option QM := if tic = 0 then backC c i num else setC c i (some (tilQ Q num (now + tic)))
theorem op_E (B : Nat) (r : Wp.Rq) (x st b i num rcv : Nat) (now : Int) (c : Nat → Option QM) (col : Nat → Nat) (w : World) (hE : Env B w) (hb : Bk B w x st b now c col) (hop : r.op = 69) (hi : i < 8) (hh : HanIs r.han i num rcv) (Q : QM) (hQ : c i = some Q) (hfl : fliesQ Q num rcv = true) (htic : 0 ≤ r.tic ∧ r.tic ≤ 1000)
    (Z : Nat → Option BQ) (o : Option ByteArray) (room : Int) (hs : SG B w st b now Z col) (hc : ctZ Z = c) (W : World) (y : Sl) (ht : Tch [] w W) :
    Calls Tryz.prog 62 #[.pointer (some ⟨st, 0, none⟩), .agg (cellsOf r y.v)] W fun e w' => Tch [] W w' ∧ PlG B (fun w => Jg B w x st o room) (fun t w' => t = okL [] ∧ Did B x st b w col now (extC c i Q num now r.tic) w') e w' := by
  have hQ' : ctZ Z i = some Q := by rw [hc]; exact hQ
  obtain ⟨z, hz, hzq⟩ := ctZ_get hQ'
  have hW := hb.wf i Q hi hQ
  have hml := hW.ml
  have hnw := hb.nw
  obtain ⟨m, hf, hft, hfr⟩ := flies_get hfl
  refine plan_p B _ _ r y st b 4 160 now _ W (by rw [hop]; rfl) (by decide) (hs.tch ht).stb rfl eg160x ?_
  intro W1 ht1
  have tW := ht.trans ht1 (by simp)
  refine (ext_ok (num : Int) z.qb r y st W1 (fun W2 ht2 => ?_)).mono ?_
  · have tW2 := tW.trans ht2 (by simp)
    have h1 := find_sg B r.han st b i num rcv now Z col W2 (hE.tch tW2 (by simp)) hh hi (hs.tch tW2) z hz (by rw [hzq]; omega)
    rw [hzq, hfl] at h1
    exact h1
  · rintro e w1 ⟨gs, gr, gq, gn, he, ht2, hgq, hgn, hgs, hgr⟩
    by_cases h0 : r.tic = 0
    · rw [if_pos h0] at he
      subst he
      refine ⟨ht2, .inr ⟨_, _, [], rfl, .inl ⟨rfl, rfl⟩, fun w2 ht3 => .inr ⟨202, _, rfl, eg202x, fun w3 w4 ht4 hf4 hJ4 => ?_⟩⟩⟩
      have t23 : Tch [] w1 w3 := ht3.trans ht4 (by simp)
      have t3 : Tch [] w w3 := (tW.trans ht2 (by simp)).trans t23 (by simp)
      have hs4 := hs.lay t3 hf4
      have hz3 := t3.size
      have hz4 := hf4.size
      have hES := hE.size
      have kgq := hf4.keep _ _ _ ((t23.block _ (lt_of_block hgq) (by simp)).trans hgq) (by decide)
      have kgn := hf4.keep _ _ _ ((t23.block _ (lt_of_block hgn) (by simp)).trans hgn) (by decide)
      have kgs := hf4.keep _ _ _ ((t23.block _ (lt_of_block hgs) (by simp)).trans hgs) (by decide)
      have hdr : ∀ n, Tch [] w4 (w4.drewN n) := fun n => (Tch.refl [] w4).drewN n
      have hap : ∀ {k : Nat} {C : Array Value} {t : TypeId} {S : List Nat}, w4.heap[k]? = some (.cells C t (0, 0)) → t ∉ TQ → (∀ k ∈ S, allK Z k) → k ∉ S := fun {k C t S} hk hT hS hm => by
        obtain ⟨j, y, hj, hy, hky⟩ := hS k hm
        exact (hs4.qr j y hj hy).nty hk hT hky
      have e0 : extC c i Q num now r.tic = backC c i num := if_pos h0
      refine extB_walk _ (dvZ Z z.Q.c) (num : Int) st z.qb gq gn gs w4 kgq kgn kgs (fun n => deadOf_sg (hs4.tch (hdr n)) hi hz (by rw [hzq]; exact hW.c.d)) (fun n => ?_)
      refine (back_sg B st b i now Z col (w4.drewN n) (hs4.tch (hdr n)) (by show B ≤ w4.heap.size; omega) hi z hz num m (by rw [hzq]; exact hf) (by rw [hzq]; exact hW.c.d) (by rw [hc]; exact hb.wf.bd)).mono ?_
      rintro e w5 ⟨rfl, Z', col', k1, k2, k3, k4, k5, ⟨S, k6, k7⟩, k8⟩
      rw [hc] at k2
      have k6' : Tch S w4 w5 := ((hdr n).sub (by simp)).trans k6 (fun k hk _ => hk)
      refine ⟨rfl, ⟨rfl, ?_⟩, S, k6', hap kgq (by decide) k7, hap kgn (by decide) k7, hap kgs (by decide) k7⟩
      rw [e0]
      have hwf := (back_wf hb.wf hi hQ hf hft).1
      exact did_of (now := now) (Z := Z) hE.size t3 hf4 hJ4 k1 k2 hwf hnw (fun k hk => k4 k hk) ((FqT.of_nil col (hdr n) (by omega)).trans (Agr.refl _ _) k5)
    · rw [if_neg h0] at he
      subst he
      refine ⟨ht2, .inr ⟨_, _, [], rfl, .inl ⟨rfl, rfl⟩, fun w2 ht3 => .inr ⟨205, _, rfl, eg205x, fun w3 w4 ht4 hf4 hJ4 => ?_⟩⟩⟩
      have t23 : Tch [] w1 w3 := ht3.trans ht4 (by simp)
      have t3 : Tch [] w w3 := (tW.trans ht2 (by simp)).trans t23 (by simp)
      have hs4 := hs.lay t3 hf4
      have hz3 := t3.size
      have hz4 := hf4.size
      have hES := hE.size
      have kgq := hf4.keep _ _ _ ((t23.block _ (lt_of_block hgq) (by simp)).trans hgq) (by decide)
      have kgn := hf4.keep _ _ _ ((t23.block _ (lt_of_block hgn) (by simp)).trans hgn) (by decide)
      have kgs := hf4.keep _ _ _ ((t23.block _ (lt_of_block hgs) (by simp)).trans hgs) (by decide)
      have kgr : TicBox w4 gr r.tic := by
        obtain ⟨C, k1, k2⟩ := hgr
        exact ⟨C, hf4.keep _ _ _ ((t23.block _ (lt_of_block k1) (by simp)).trans k1) (by decide), k2⟩
      have hdr : ∀ n, Tch [] w4 (w4.drewN n) := fun n => (Tch.refl [] w4).drewN n
      have e0 : extC c i Q num now r.tic = setC c i (some (tilQ Q num (now + r.tic))) := if_neg h0
      obtain ⟨p, hp, _⟩ := find_idx hf
      refine extT_walk _ (num : Int) now r.tic st z.qb gq gn gs gr w4 kgq kgn kgs kgr hs4.stb.now ⟨by omega, by omega⟩ (fun n => ?_)
      have hqr : QR (w4.drewN n) z.qb z.V Q := by rw [← hzq]; exact (hs4.tch (hdr n)).qr i z hi hz
      refine (extend_any Q z.V z.qb num (now + r.tic) (w4.drewN n) hqr (by omega) (by rw [hp]; omega)).mono ?_
      rintro e w5 ⟨rfl, hl⟩
      have hl4 : QL w4 w5 z.qb z.V (tilQ Q num (now + r.tic)) := by
        obtain ⟨V', a1, a2, a3⟩ := hl
        exact ⟨V', a1, ((hdr n).sub (by simp)).trans a2 (fun k hk _ => hk), a3⟩
      have hsn := hs4.updn (by omega) hi hz hl4
      obtain ⟨V', a1, a2, a3⟩ := hl4
      have hq4 : QR w4 z.qb z.V Q := by rw [← hzq]; exact hs4.qr i z hi hz
      have kgr' : gr ∉ qbl z.qb z.V := by
        obtain ⟨C, k1, k2⟩ := kgr
        exact hq4.nty k1 (by decide)
      refine ⟨rfl, ⟨rfl, ?_⟩, qbl z.qb z.V, a2, hq4.nty kgq (by decide), hq4.nty kgn (by decide), hq4.nty kgs (by decide), kgr', hq4.nty hs4.stb (by decide)⟩
      rw [e0]
      rw [hc] at hsn
      exact did_n hE.size t3 hf4 hJ4 hsn (hb.wf.set (hW.ext hf hft ⟨by omega, by omega⟩)) hnw
structure Sn where
  num : Int
  grp : ByteArray
  bod : ByteArray
  fl : Bool
  til : Int
  gone : Bool
def Sn.row (s : Sn) : List Value := [.int .i64 s.num, .string s.grp, .string s.bod, .bool s.fl, .int .i64 s.til, .bool s.gone]
def lnG (x : Nat) (c : Wp.Rq) (now : Int) (sv tv : Value) : Array Value := #[.pointer (some ⟨x, 0, none⟩), .int .u8 (c.op.toNat : Int), .int .u8 (c.q.toNat : Int), .int .u8 (c.d.toNat : Int), .int .i64 c.vis, .int .i64 c.win, .int .i64 c.rcv, .int .i64 c.quo, .int .i64 c.mx, .int .i64 c.tic, .string c.grp, .string c.ded, .string c.bod, .string c.att, .string c.han, .slice none 0 0, .int .i64 now, sv, tv]
structure Lr (w : World) (lb x : Nat) (c : Wp.Rq) (now : Int) (sv tv : Value) (ss : List Sn) (hs : List ByteArray) : Prop where
  ln : w.heap[lb]? = some (.cells (lnG x c now sv tv) 42 (0, 0))
  row : w.ownsRow 0 53 6 sv ss.length (ss.flatMap Sn.row)
  tow : w.ownsRow 0 9 1 tv hs.length (hs.map Value.string)
theorem Lr.c0 {w : World} {lb x : Nat} {c : Wp.Rq} {now : Int} {sv tv : Value} {ss : List Sn} {hs : List ByteArray} (h : Lr w lb x c now sv tv ss hs) : w.cell? ⟨lb, 0, none⟩ = some (.pointer (some ⟨x, 0, none⟩)) := cell_qC h.ln 0 _ rfl
theorem Lr.c4 {w : World} {lb x : Nat} {c : Wp.Rq} {now : Int} {sv tv : Value} {ss : List Sn} {hs : List ByteArray} (h : Lr w lb x c now sv tv ss hs) : w.cell? ⟨lb, 4, none⟩ = some (.int .i64 c.vis) := cell_qC h.ln 4 _ rfl
theorem Lr.c16 {w : World} {lb x : Nat} {c : Wp.Rq} {now : Int} {sv tv : Value} {ss : List Sn} {hs : List ByteArray} (h : Lr w lb x c now sv tv ss hs) : w.cell? ⟨lb, 16, none⟩ = some (.int .i64 now) := cell_qC h.ln 16 _ rfl
theorem Lr.c17 {w : World} {lb x : Nat} {c : Wp.Rq} {now : Int} {sv tv : Value} {ss : List Sn} {hs : List ByteArray} (h : Lr w lb x c now sv tv ss hs) : w.cell? ⟨lb, 17, none⟩ = some sv := cell_qC h.ln 17 _ rfl
theorem Lr.c18 {w : World} {lb x : Nat} {c : Wp.Rq} {now : Int} {sv tv : Value} {ss : List Sn} {hs : List ByteArray} (h : Lr w lb x c now sv tv ss hs) : w.cell? ⟨lb, 18, none⟩ = some tv := cell_qC h.ln 18 _ rfl
theorem Lr.lt {w : World} {lb x : Nat} {c : Wp.Rq} {now : Int} {sv tv : Value} {ss : List Sn} {hs : List ByteArray} (h : Lr w lb x c now sv tv ss hs) : lb < w.heap.size := lt_of_block h.ln
theorem Lr.tch {w w' : World} {lb x : Nat} {c : Wp.Rq} {now : Int} {sv tv : Value} {ss : List Sn} {hs : List ByteArray} (h : Lr w lb x c now sv tv ss hs) (ht : Tch [] w w') : Lr w' lb x c now sv tv ss hs :=
  ⟨(ht.block _ h.lt (by simp)).trans h.ln, own_tch h.row ht (by simp), own_tch h.tow ht (by simp)⟩
theorem Lr.sc {w : World} {lb x : Nat} {c : Wp.Rq} {now : Int} {sa : Option Addr} {sc : Nat} {tv : Value} {ss : List Sn} {hs : List ByteArray} (h : Lr w lb x c now (.slice sa ss.length sc) tv ss hs) (j : Nat) (hj : j < ss.length) : ∃ g, sa = some ⟨g, 0, none⟩ ∧ g < w.heap.size ∧ ∀ i u, (ss[j].row)[i]? = some u → w.cell? ⟨g, j * 6 + i, none⟩ = some u := by
  have inh : Inhabited Sn := ⟨ss[j]⟩
  obtain ⟨g, rfl⟩ : ∃ g, sa = some ⟨g, 0, none⟩ := by
    rcases h.row.2 with ⟨_, h1⟩ | ⟨g, cap, cur, h0, _⟩
    · omega
    · simp at h0
      exact ⟨g, h0.1⟩
  have hc : ∀ i u, (ss[j].row)[i]? = some u → w.cell? ⟨g, j * 6 + i, none⟩ = some u := fun i u hi => by
    have h1 := own_cells Sn.row 6 (fun _ => rfl) h.row j hj i u (by rw [List.getElem!_eq_getElem?_getD, List.getElem?_eq_getElem hj]; exact hi)
    simpa using h1
  exact ⟨g, rfl, World.block_lt_of_cell? _ _ (hc 0 _ rfl), hc⟩
theorem Lr.tc {w : World} {lb x : Nat} {c : Wp.Rq} {now : Int} {ta : Option Addr} {tc : Nat} {sv : Value} {ss : List Sn} {hs : List ByteArray} (h : Lr w lb x c now sv (.slice ta hs.length tc) ss hs) (j : Nat) (hj : j < hs.length) : ∃ g, ta = some ⟨g, 0, none⟩ ∧ g < w.heap.size ∧ w.cell? ⟨g, j, none⟩ = some (.string hs[j]) := by
  obtain ⟨g, rfl⟩ : ∃ g, ta = some ⟨g, 0, none⟩ := by
    rcases h.tow.2 with ⟨_, h1⟩ | ⟨g, cap, cur, h0, _⟩
    · omega
    · simp at h0
      exact ⟨g, h0.1⟩
  have h2 := World.ownsRow.cells h.tow (g := g) rfl j (.string hs[j]) (by simp [hj])
  rw [add_zero_at] at h2
  exact ⟨g, rfl, World.block_lt_of_cell? _ _ h2, h2⟩
set_option maxHeartbeats 2000000 in
theorem find_g (lb x : Nat) (c : Wp.Rq) (now : Int) (sv tv : Value) (ss : List Sn) (hs : List ByteArray) (n : Int) (w : World) (h : Lr w lb x c now sv tv ss hs) (hl : ss.length ≤ 1000) :
    Calls Tryz.prog 37 #[.pointer (some ⟨lb, 0, none⟩), .int .i64 n] w fun e w' => e = .returned (.int .i64 (idxL (fun m => m.num == n) ss)) ∧ w' = w := by
  obtain ⟨sa, sc, rfl⟩ := own_shape h.row
  have c17 := h.c17
  have HL : Hid (Lr w lb x c now (.slice sa ss.length sc) tv ss hs) := h
  clear h
  go_enter Tryz.func37, Tryz.ntmps37
  go_wp2_with fail
  go_loopw [5] (fun v wr => ∃ j : Nat, j ≤ ss.length ∧ v = .int .i64 (j : Int) ∧ (∀ i (hi : i < j) (hl : i < ss.length), (ss[i].num == n) = false) ∧ wr = w) (fun v _ => ss.length - (intOf v).toNat)
  case atStart => exact ⟨0, Nat.zero_le _, rfl, fun i hi => by omega, rfl⟩
  case round =>
    obtain ⟨j, hj, rfl, hno, rfl⟩ := hrel
    have HNO : Hid (∀ i (hi : i < j) (hl : i < ss.length), (ss[i].num == n) = false) := hno
    clear hno
    by_cases hlt : j < ss.length
    · obtain ⟨g, rfl, lg, hc⟩ := HL.out.sc j hlt
      have d0 : wr.cell? ⟨g, j * 6, none⟩ = some (.int .i64 ss[j].num) := hc 0 _ rfl
      clear hc
      by_cases he : ss[j].num == n
      · have HE : Hid ((ss[j].num == n) = true) := he
        go_wp2_with fail
        go_ret
        exact ⟨ret_i64 (idxL_hit (fun m => m.num == n) ss j hlt HE.out (fun i hi => HNO.out i hi (by omega))).symm, rfl⟩
      · have he' : (ss[j].num == n) = false := by simpa using he
        have HE : Hid ((ss[j].num == n) = false) := he'
        clear he
        go_wp2_with fail
        go_roundw
        case rel => exact ⟨j + 1, by omega, by go_num, fun i hi hl => by
          by_cases hij : i = j
          · subst hij; exact HE.out
          · exact HNO.out i (by omega) hl, by trivial⟩
        case measure => simp [intOf]; omega
    · have hje : j = ss.length := by omega
      have HM : Hid (idxL (fun m => m.num == n) ss = -1) := by
        show _ = _
        have h1 : idxL (fun m => m.num == n) ss < 0 := (idxL_neg _ _).2 (fun m hm => by
          obtain ⟨i, hi, rfl⟩ := List.mem_iff_getElem.1 hm
          exact HNO.out i (by omega) hi)
        have h2 := idxL_ge (fun m : Sn => m.num == n) ss
        omega
      go_wp2_with fail
      go_ret
      exact ⟨ret_i64 HM.out.symm, rfl⟩
def busyB (ss : List Sn) (g : ByteArray) : Bool := ss.any (fun k => k.grp.toList == g.toList && k.fl)
theorem any_take_succ {α : Type} (p : α → Bool) (l : List α) (j : Nat) (h : j < l.length) : (l.take (j + 1)).any p = ((l.take j).any p || p l[j]) := by
  rw [List.take_succ_eq_append_getElem h, List.any_append]
  simp
set_option maxHeartbeats 4000000 in
theorem waits_no (lb x : Nat) (c : Wp.Rq) (now : Int) (sv tv : Value) (ss : List Sn) (hs : List ByteArray) (w : World) (h : Lr w lb x c now sv tv ss hs) (hl : ss.length ≤ 1000) (hb : ∀ s ∈ ss, s.gone = true ∨ busyB ss s.grp = true) :
    Calls Tryz.prog 55 #[.pointer (some ⟨lb, 0, none⟩)] w fun e w' => e = .returned (.bool false) ∧ Tch [] w w' := by
  obtain ⟨sa, sc, rfl⟩ := own_shape h.row
  have HL : Hid (Lr w lb x c now (.slice sa ss.length sc) tv ss hs) := h
  have HBS : Hid (∀ s ∈ ss, s.gone = true ∨ busyB ss s.grp = true) := hb
  have c17 := h.c17
  have ll := h.lt
  clear h hb
  go_enter Tryz.func55, Tryz.ntmps55
  go_wp2_with fail
  go_loopw [3] (fun v wr => ∃ j : Nat, j ≤ ss.length ∧ v = .int .i64 (j : Int) ∧ Tch [] w wr) (fun v _ => ss.length - (intOf v).toNat)
  case atStart => exact ⟨0, Nat.zero_le _, rfl, Tch.refl _ _⟩
  case round =>
    obtain ⟨j, hj, rfl, ht⟩ := hrel
    have hLr := HL.out.tch ht
    have d17 := hLr.c17
    have lr := hLr.lt
    have HT : Hid (Tch [] w wr) := ht
    by_cases hlt : j < ss.length
    · obtain ⟨g, rfl, lg, hc⟩ := hLr.sc j hlt
      have g0 : wr.cell? ⟨g, j * 6, none⟩ = some (.int .i64 ss[j].num) := hc 0 _ rfl
      have g1 : wr.cell? ⟨g, j * 6 + 1, none⟩ = some (.string ss[j].grp) := hc 1 _ rfl
      have g2 : wr.cell? ⟨g, j * 6 + 2, none⟩ = some (.string ss[j].bod) := hc 2 _ rfl
      have g3 : wr.cell? ⟨g, j * 6 + 3, none⟩ = some (.bool ss[j].fl) := hc 3 _ rfl
      have g4 : wr.cell? ⟨g, j * 6 + 4, none⟩ = some (.int .i64 ss[j].til) := hc 4 _ rfl
      have g5 : wr.cell? ⟨g, j * 6 + 5, none⟩ = some (.bool ss[j].gone) := hc 5 _ rfl
      have hor := HBS.out _ (List.getElem_mem hlt)
      have HOR : Hid (ss[j].gone = true ∨ busyB ss ss[j].grp = true) := hor
      clear hc hor hLr ht
      obtain ⟨sj, hsj⟩ : ∃ s, s = ss[j] := ⟨_, rfl⟩
      rw [← hsj] at g0 g1 g2 g3 g4 g5 HOR
      have HSJ : Hid (sj = ss[j]) := hsj
      clear hsj
      have HT1 : Hid (Tch [] w (wr.alloc (.cells #[.int .i64 sj.num, .string sj.grp, .string sj.bod, .bool sj.fl, .int .i64 sj.til, .bool sj.gone] 53))) := HT.out.alloc _
      have HBX : Hid ((wr.alloc (.cells #[.int .i64 sj.num, .string sj.grp, .string sj.bod, .bool sj.fl, .int .i64 sj.til, .bool sj.gone] 53)).heap[wr.heap.size]? = some (.cells #[.int .i64 sj.num, .string sj.grp, .string sj.bod, .bool sj.fl, .int .i64 sj.til, .bool sj.gone] 53 (0, 0))) := heap_alloc_new _ _
      go_wp2_with fail
      obtain ⟨bx, hbx⟩ : ∃ bx, bx = wr.heap.size := ⟨_, rfl⟩
      rw [← hbx] at HBX
      rw [← hbx]
      clear g0 g1 g2 g3 g4 g5 d17 lr hbx
      go_loopw [5, 6] (fun bv v w2 => ∃ k : Nat, k ≤ ss.length ∧ v = .int .i64 (k : Int) ∧ bv = .bool ((ss.take k).any (fun s => s.grp.toList == sj.grp.toList && s.fl)) ∧ Tch [] w w2 ∧ w2.heap[bx]? = some (.cells #[.int .i64 sj.num, .string sj.grp, .string sj.bod, .bool sj.fl, .int .i64 sj.til, .bool sj.gone] 53 (0, 0))) (fun _ v _ => ss.length - (intOf v).toNat)
      case atStart => exact ⟨0, Nat.zero_le _, rfl, by simp, HT1.out, HBX.out⟩
      case round =>
        obtain ⟨k, hk, rfl, hbv, ht2, hbx2⟩ := hrel
        have hL2 := HL.out.tch ht2
        have d17 := hL2.c17
        have lr := hL2.lt
        have b1 : wr.cell? ⟨bx, 1, none⟩ = some (.string sj.grp) := cell_qC hbx2 1 _ rfl
        have b5 : wr.cell? ⟨bx, 5, none⟩ = some (.bool sj.gone) := cell_qC hbx2 5 _ rfl
        have lb5 := lt_of_block hbx2
        have HT2 : Hid (Tch [] w wr ∧ wr.heap[bx]? = some (.cells #[.int .i64 sj.num, .string sj.grp, .string sj.bod, .bool sj.fl, .int .i64 sj.til, .bool sj.gone] 53 (0, 0))) := ⟨ht2, hbx2⟩
        by_cases hkl : k < ss.length
        · obtain ⟨g', he', lg', hc'⟩ := hL2.sc k hkl
          simp only [Option.some.injEq, Addr.mk.injEq, and_true] at he'
          subst he'
          have e1 : wr.cell? ⟨g, k * 6 + 1, none⟩ = some (.string ss[k].grp) := hc' 1 _ rfl
          have e3 : wr.cell? ⟨g, k * 6 + 3, none⟩ = some (.bool ss[k].fl) := hc' 3 _ rfl
          have HAS : Hid ((ss.take (k + 1)).any (fun s => s.grp.toList == sj.grp.toList && s.fl) = ((ss.take k).any (fun s => s.grp.toList == sj.grp.toList && s.fl) || (ss[k].grp.toList == sj.grp.toList && ss[k].fl))) := any_take_succ _ ss k hkl
          clear hc' hL2 ht2 hbx2
          generalize (ss.take k).any (fun s => s.grp.toList == sj.grp.toList && s.fl) = bz at *
          generalize hsg : ss[k].grp = sg at *
          generalize hsf : ss[k].fl = sf at *
          clear hsg hsf
          subst hbv
          have HN : Hid (∀ n, Tch [] w (wr.drewN n) ∧ (wr.drewN n).heap[bx]? = some (.cells #[.int .i64 sj.num, .string sj.grp, .string sj.bod, .bool sj.fl, .int .i64 sj.til, .bool sj.gone] 53 (0, 0))) := fun n => ⟨HT2.out.1.drewN n, HT2.out.2⟩
          cases bz with
          | true =>
            have HA2 : Hid ((ss.take (k + 1)).any (fun s => s.grp.toList == sj.grp.toList && s.fl) = true) := by show _ = _; rw [HAS.out]; rfl
            clear HAS
            go_wp2_with fail
            go_quiet (fail)
            go_wp2_with fail
            go_roundw
            case rel => exact ⟨k + 1, by omega, by go_num, by rw [HA2.out], HN.out _⟩
            case measure => simp [intOf]; omega
          | false =>
            by_cases hg : (sg.toList == sj.grp.toList) = true
            · have HA2 : Hid ((ss.take (k + 1)).any (fun s => s.grp.toList == sj.grp.toList && s.fl) = sf) := by show _ = _; rw [HAS.out, hg]; simp
              clear HAS
              go_wp2_with fail
              go_quiet (fail)
              go_wp2_with fail
              go_roundw
              case rel => exact ⟨k + 1, by omega, by go_num, by rw [HA2.out], HN.out _⟩
              case measure => simp [intOf]; omega
            · have hg' : (sg.toList == sj.grp.toList) = false := by simpa using hg
              have HA2 : Hid ((ss.take (k + 1)).any (fun s => s.grp.toList == sj.grp.toList && s.fl) = false) := by show _ = _; rw [HAS.out, hg']; simp
              clear HAS hg
              go_wp2_with fail
              go_quiet (fail)
              go_wp2_with fail
              go_roundw
              case rel => exact ⟨k + 1, by omega, by go_num, by rw [HA2.out], HN.out _⟩
              case measure => simp [intOf]; omega
        · have hke : ss.take k = ss := List.take_of_length_le (by omega)
          rw [hke] at hbv
          have hbb : ss.any (fun s => s.grp.toList == sj.grp.toList && s.fl) = busyB ss sj.grp := rfl
          rw [hbb] at hbv
          clear hL2 ht2 hbx2 hke
          rcases HOR.out with hgo | hbu
          · rw [hgo] at b5
            generalize busyB ss sj.grp = bb at *
            subst hbv
            go_wp2_with fail
            go_roundw
            case rel => exact ⟨j + 1, by omega, by go_num, HT2.out.1⟩
            case measure => simp [intOf]; omega
          · rw [hbu] at hbv
            subst hbv
            generalize sj.gone = sg0 at b5
            cases sg0 with
            | true =>
              go_wp2_with fail
              go_roundw
              case rel => exact ⟨j + 1, by omega, by go_num, HT2.out.1⟩
              case measure => simp [intOf]; omega
            | false =>
              go_wp2_with fail
              go_roundw
              case rel => exact ⟨j + 1, by omega, by go_num, HT2.out.1⟩
              case measure => simp [intOf]; omega
    · clear hLr ht
      go_wp2_with fail
      go_ret
      exact ⟨rfl, HT.out⟩
end Go.Proofs.YtbdobaapadlcjaaGreatDoor
