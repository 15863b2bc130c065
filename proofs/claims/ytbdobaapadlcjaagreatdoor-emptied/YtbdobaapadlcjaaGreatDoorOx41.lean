import Derived.Test.YtbdobaapadlcjaaGreatDoorOx40
import Derived.Deep.RegionHeld3
import Derived.Test.YtbdobaapadlcjaaGreatDoorOx23
import Derived.Test.YtbdobaapadlcjaaGreatDoorOx09
import Derived.Test.YtbdobaapadlcjaaGreatDoorOx18
namespace Go.Proofs.YtbdobaapadlcjaaGreatDoor
open Go.RowKit
set_option linter.unusedVariables false
set_option linter.unusedSimpArgs false
def hB (p : Nat × Nat) : ByteArray := ⟨(hanB 97 p.1 p.2).toArray⟩
theorem hB_size (p : Nat × Nat) : (hB p).size = 8 := by show (hanB 97 p.1 p.2).toArray.size = 8; simp [hanB_len]
theorem hB_inj {p q : Nat × Nat} (hp : p.1 < 4294967296 ∧ p.2 < 65536) (hq : q.1 < 4294967296 ∧ q.2 < 65536) (h : hB p = hB q) : p = q := by
  obtain ⟨_, _, _, _, h1, h2⟩ := han_is 97 0 p.1 p.2 rfl (by decide) hp.1 hp.2
  obtain ⟨_, _, _, _, h3, h4⟩ := han_is 97 0 q.1 q.2 rfl (by decide) hq.1 hq.2
  have e : (⟨(hanB 97 p.1 p.2).toArray⟩ : ByteArray) = ⟨(hanB 97 q.1 q.2).toArray⟩ := h
  rw [e] at h1 h2
  exact Prod.ext (h1.symm.trans h3) (h2.symm.trans h4)
set_option maxRecDepth 8000 in
set_option maxHeartbeats 2000000 in
theorem handle_g (lb x : Nat) (c : Wp.Rq) (now : Int) (sv tv : Value) (ss : List Sn) (hs : List ByteArray) (raw : Int) (w : World) (h : Lr w lb x c now sv tv ss hs) (hl : hs.length ≤ 4611686018427387904) (hr : i64 raw) :
    Calls Tryz.prog 56 #[.pointer (some ⟨lb, 0, none⟩), .int .i64 raw] w fun e w' => ∃ s, e = .returned (.string s) ∧ (hs = [] ∧ s = ⟨#[]⟩ ∨ s ∈ hs) ∧ Tch [] w w' := by
  obtain ⟨ta, tc, rfl⟩ := own_shape h.tow
  have c18 := h.c18
  have ll := h.lt
  by_cases h0 : hs.length = 0
  · have hn : hs = [] := List.length_eq_zero_iff.1 h0
    subst hn
    clear h
    go_enter Tryz.func56, Tryz.ntmps56
    go_wp2_with fail
    go_ret
    exact ⟨_, rfl, .inl ⟨by trivial, rfl⟩, Tch.refl _ _⟩
  · have hne : ((hs.length : Int) == 0) = false := beq_eq_false_iff_ne.2 (by omega)
    have hp1 := pk_nonneg raw (hs.length : Int) (by omega)
    have hp2 := pk_lt raw (hs.length : Int) (by omega)
    obtain ⟨q, hq⟩ : ∃ q : Nat, pk raw (hs.length : Int) = (q : Int) := ⟨(pk raw (hs.length : Int)).toNat, (Int.toNat_of_nonneg hp1).symm⟩
    have HPK : Hid (∀ W, Calls Tryz.prog 14 #[.int .i64 raw, .int .i64 (hs.length : Int)] W fun e w' => e = .returned (.int .i64 (q : Int)) ∧ w' = W) := fun W => by
      have h1 := pick_any raw (hs.length : Int) W hr.1 hr.2 (by omega) (by omega)
      rw [hq] at h1
      exact h1
    rw [hq] at hp2
    obtain ⟨p, hp⟩ : ∃ p : Nat, p = hs.length - 1 - q := ⟨_, rfl⟩
    have hpl : p < hs.length := by omega
    obtain ⟨g, rfl, lg, hc⟩ := h.tc p hpl
    have HMEM : Hid (hs[p] ∈ hs) := List.getElem_mem hpl
    generalize hs[p] = s at *
    have hw1 : IntKind.i64.wrap ((hs.length : Int) - 1) = (hs.length : Int) - 1 := by rw [IntKind.wrap_i64]; omega
    have hw2 : IntKind.i64.wrap ((hs.length : Int) - 1 - (q : Int)) = (p : Int) := by rw [IntKind.wrap_i64]; omega
    have hi0 : (0 : Int) ≤ (p : Int) := by omega
    have hi1 : (p : Int) < (hs.length : Int) := by omega
    clear h hq hp1 hp hr h0
    go_enter Tryz.func56, Tryz.ntmps56
    go_wp2_with fail
    go_region_held3 (fun w' => w'.cell? ⟨lb, 18, none⟩ = some (.slice (some ⟨g, 0, none⟩) hs.length tc) ∧ w'.cell? ⟨g, p, none⟩ = some (.string s)) (go_keep) (first | (go_at_call 14; refine (HPK.out _).mono ?_; rintro e w5 ⟨rfl, h5⟩; have h6 := h5.symm; subst h6))
    go_wp2_with fail
    go_ret
    exact ⟨_, rfl, .inr HMEM.out, (Tch.refl [] w).drew⟩
def lastB (ps : List (Nat × Nat)) (n : Nat) : ByteArray := match (ps.filter (fun p => p.1 == n)).getLast? with
  | some p => hB p
  | none => ⟨#[]⟩
theorem lastB_succ (ps : List (Nat × Nat)) (n j : Nat) (h : j < ps.length) : lastB (ps.take (j + 1)) n = if ps[j].1 = n then hB ps[j] else lastB (ps.take j) n := by
  unfold lastB
  rw [List.take_succ_eq_append_getElem h, List.filter_append]
  by_cases e : ps[j].1 = n
  · rw [if_pos e]
    have : [ps[j]].filter (fun p => p.1 == n) = [ps[j]] := by simp [e]
    rw [this]
    simp
  · rw [if_neg e]
    have : [ps[j]].filter (fun p => p.1 == n) = [] := by simp [e]
    rw [this, List.append_nil]
set_option maxHeartbeats 2000000 in
theorem latest_g (lb x : Nat) (c : Wp.Rq) (now : Int) (sv tv : Value) (ss : List Sn) (ps : List (Nat × Nat)) (p : Nat × Nat) (w : World) (h : Lr w lb x c now sv tv ss (ps.map hB)) (hl : ps.length ≤ 4611686018427387904) (hps : ∀ p ∈ ps, p.1 < 4294967296) (hp : p.1 < 4294967296) :
    Calls Tryz.prog 57 #[.pointer (some ⟨lb, 0, none⟩), .string (hB p)] w fun e w' => e = .returned (.bool ((lastB ps p.1).toList == (hB p).toList)) ∧ w' = w := by
  obtain ⟨ta, tc, rfl⟩ := own_shape h.tow
  have c18 := h.c18
  have ll := h.lt
  have HL : Hid (Lr w lb x c now sv (.slice ta (ps.map hB).length tc) ss (ps.map hB)) := h
  have HSQ : Hid (∀ (q : Nat × Nat) W, q.1 < 4294967296 → Calls Tryz.prog 26 #[.string (hB q)] W fun e w' => e = .returned (.int .i64 (q.1 : Int)) ∧ w' = W) := fun q W hq => seq_any 97 q.1 q.2 hq W
  have HPS : Hid (∀ p ∈ ps, p.1 < 4294967296) := hps
  have hml : (ps.map hB).length = ps.length := by simp
  rw [hml] at c18
  clear h hps
  go_enter Tryz.func57, Tryz.ntmps57
  go_wp2_with fail
  go_loopw [5, 6] (fun s v wr => ∃ j : Nat, j ≤ ps.length ∧ v = .int .i64 (j : Int) ∧ s = .string (lastB (ps.take j) p.1) ∧ wr = w) (fun _ v _ => ps.length - (intOf v).toNat)
  case atStart => exact ⟨0, Nat.zero_le _, rfl, rfl, rfl⟩
  case round =>
    obtain ⟨j, hj, rfl, rfl, rfl⟩ := hrel
    by_cases hlt : j < ps.length
    · have hjm : j < (ps.map hB).length := by rw [hml]; exact hlt
      obtain ⟨g, rfl, lg, hc⟩ := HL.out.tc j hjm
      rw [List.getElem_map] at hc
      have HS1 : Hid (Calls Tryz.prog 26 #[.string (hB ps[j])] wr fun e w' => e = .returned (.int .i64 (ps[j].1 : Int)) ∧ w' = wr) := HSQ.out ps[j] wr (HPS.out _ (List.getElem_mem hlt))
      have HS2 : Hid (Calls Tryz.prog 26 #[.string (hB p)] wr fun e w' => e = .returned (.int .i64 (p.1 : Int)) ∧ w' = wr) := HSQ.out p wr hp
      have HLS : Hid (lastB (ps.take (j + 1)) p.1 = if ps[j].1 = p.1 then hB ps[j] else lastB (ps.take j) p.1) := lastB_succ ps p.1 j hlt
      generalize lastB (ps.take j) p.1 = lj at *
      generalize hpj : ps[j] = pj at *
      clear hpj
      generalize hB pj = hj1 at *
      generalize hB p = hp1 at *
      go_wp2_with fail
      refine HS1.out.mono ?_
      rintro e w2 ⟨rfl, h2⟩
      have h2' := h2.symm
      subst h2'
      clear HS1
      go_wp2_with fail
      refine HS2.out.mono ?_
      rintro e w2 ⟨rfl, h2⟩
      have h2' := h2.symm
      subst h2'
      clear HS2
      by_cases he : pj.1 = p.1
      · have he' : (pj.1 : Int) = (p.1 : Int) := by omega
        have HX : Hid (lastB (ps.take (j + 1)) p.1 = hj1) := by show _ = _; rw [HLS.out, if_pos he]
        clear HLS
        go_wp2_with fail
        go_roundw
        case rel => exact ⟨j + 1, by omega, by go_num, by rw [HX.out], by trivial⟩
        case measure => simp [intOf]; omega
      · have he' : ((pj.1 : Int) == (p.1 : Int)) = false := beq_eq_false_iff_ne.2 (by omega)
        have HX : Hid (lastB (ps.take (j + 1)) p.1 = lj) := by show _ = _; rw [HLS.out, if_neg he]
        clear HLS
        go_wp2_with fail
        go_roundw
        case rel => exact ⟨j + 1, by omega, by go_num, by rw [HX.out], by trivial⟩
        case measure => simp [intOf]; omega
    · have hke : ps.take j = ps := List.take_of_length_le (by omega)
      rw [hke]
      clear hke
      go_wp2_with fail
      go_ret
      exact ⟨rfl, rfl⟩
theorem step_valsL {ops : Array Oper} {o : Oper} {a : Act} {w : World} {K : Act → World → Prop} {Q : Exit → Act → World → Prop} {E : Prop} (hgd : o.guard = none) (s x : Operand) (t te : TypeId)
    (ho : o.op = .call { callee := .builtin .append, args := #[s, x], argTypes := #[t, t] }) (ht : Tryz.prog.underlying t = some (.slice te)) (z : Value) (size bytes : Nat)
    (hinfo : (Tryz.prog.info? te).map (fun i => (i.zero, i.size, i.bytes)) = some (some z, size, bytes)) (hzs : z.cells.size = size) (hsz : 0 < size)
    (v : Value) (n : Nat) (xs : List Value) (hs : a.eval s = v) (hown : w.ownsRow 0 te size v n xs) (g : Nat) (news : List Value) (m : Nat) (hx : a.eval x = .slice (some ⟨g, 0, none⟩) m m) (hm : news.length = m * size) (hm0 : 0 < m) (hg : w.heap[g]? = some (.cells news.toArray te (0, 0))) (hone : ∀ u ∈ news, u.oneCell' = true) (hn : n + m ≤ 4611686018427387904) (hnb : (n + m) * bytes ≤ 140737488355328)
    (h : ∀ v' w', w'.ownsRow 0 te size v' (n + m) (xs ++ news) → w.grownBy w' v.ownBlock → (v'.ownBlock = v.ownBlock ∨ v'.ownBlock = some w.heap.size) → K (a.put o.dst v') w') :
    if Region.wanted o (yielded ops a.tmps) = true then Oper.wp Tryz.prog o a w K Q else E := by
  have hw : Region.wanted o (yielded ops a.tmps) = true := by simp [Region.wanted, hgd]
  rw [if_pos hw]
  obtain ⟨i0, hi, hz0, hz1, hz2⟩ := info_parts hinfo
  obtain ⟨v', w', hr, h2, h3, h4⟩ := run_app (P := Tryz.prog) w 0 t o.type te i0 _ size bytes ht hi hz0 hz1 hz2 hzs hsz v n xs hown ⟨g, 0, none⟩ m m news hm (fun j u hj => by
    have e : (⟨g, 0, none⟩ : Addr).add j = ⟨g, j, none⟩ := by unfold Addr.add; split <;> simp_all
    rw [e, cell_of_row w g j _ te (0, 0) hg, ← hj]
    simp) hone (by unfold maxLen; omega) (by omega) (Nat.zero_le _) hm0
  unfold Oper.wp execOp
  simp only [ho, resolve, invoke, builtin, Sem.run_bind, Sem.run_pure, Result.andThen_ok, List.map_toArray, List.map_cons, List.map_nil, hs, hx, hr]
  exact h v' w' h2 h3 h4
theorem Lr.setS {w : World} {lb x : Nat} {c : Wp.Rq} {now : Int} {g sc : Nat} {tv : Value} {ss : List Sn} {hs : List ByteArray} (h : Lr w lb x c now (.slice (some ⟨g, 0, none⟩) ss.length sc) tv ss hs) (i j : Nat) (v : Value) (s' : Sn) (hi : i < ss.length) (hj : j < 6) (hx : s'.row = (ss[i]).row.set j v) :
    Lr (w.setCell ⟨g, i * 6 + j, none⟩ v) lb x c now (.slice (some ⟨g, 0, none⟩) ss.length sc) tv (ss.set i s') hs ∧ Tch [g] w (w.setCell ⟨g, i * 6 + j, none⟩ v) := by
  have t1 : Tch [g] w (w.setCell ⟨g, i * 6 + j, none⟩ v) := (Tch.refl _ _).setCell (fun _ => by simp) _
  have hm := h.row
  obtain ⟨C, hC⟩ : ∃ C, w.heap[g]? = some (.cells C 53 (0, 0)) := by
    rcases hm.2 with ⟨e, _⟩ | ⟨g', cap', cur, e, _, hr, _⟩
    · simp at e
    · simp at e
      obtain ⟨e1, _⟩ := e
      subst e1
      exact ⟨_, hr⟩
  have hf : Fr 0 [53] w (w.setCell ⟨g, i * 6 + j, none⟩ v) := Fr.one t1 (Nat.zero_le _) (Nat.zero_le _) hC (by decide)
  refine ⟨⟨hf.keep _ _ _ h.ln (by decide), ?_, hf.own h.tow (by decide)⟩, t1⟩
  have h2 := (World.ownsRow.stored hm (i * 6 + j) v).1
  rw [List.length_set, ← flat_set Sn.row 6 (fun _ => rfl) ss i j v s' hi hj hx]
  exact h2
structure OL (B : Nat) (w0 w : World) (x st b lb : Nat) (now : Int) (c : Nat → Option QM) (cq : Wp.Rq) (sv tv : Value) (ss : List Sn) (hs : List ByteArray) : Prop where
  bk : ∃ col, Bk B w x st b now c col ∧ ∀ k, tv.ownBlock = some k → col k = 9
  lr : Lr w lb x cq now sv tv ss hs
  lb : B ≤ lb
  lo : ∀ k, sv.ownBlock = some k ∨ tv.ownBlock = some k → B ≤ k
  env : Env B w
  bel : Below B w0 w
theorem OL.did {B : Nat} {w0 w w' : World} {x st b lb : Nat} {now : Int} {c c' : Nat → Option QM} {cq : Wp.Rq} {sv tv : Value} {ss : List Sn} {hs : List ByteArray} (h : OL B w0 w x st b lb now c cq sv tv ss hs) {col : Nat → Nat} (hc : ∀ k, tv.ownBlock = some k → col k = 9) (hd : Did B x st b w col now c' w') : OL B w0 w' x st b lb now c' cq sv tv ss hs := by
  have hE := hd.env h.env
  obtain ⟨col', h1, h2, h3⟩ := hd
  exact ⟨⟨col', h1, fun k hk => (h2 k (own_lt h.lr.tow hk)).trans (hc k hk)⟩, ⟨h3.keep _ _ _ h.lr.ln (by decide), h3.own h.lr.row (by decide), h3.own9 h.lr.tow hc⟩, h.lb, h.lo, hE, h.bel.trans h3.below⟩
theorem OL.tch {B : Nat} {w0 w w' : World} {x st b lb : Nat} {now : Int} {c : Nat → Option QM} {cq : Wp.Rq} {sv tv : Value} {ss : List Sn} {hs : List ByteArray} (h : OL B w0 w x st b lb now c cq sv tv ss hs) (ht : Tch [] w w') : OL B w0 w' x st b lb now c cq sv tv ss hs := by
  obtain ⟨col, h1, h2⟩ := h.bk
  exact h.did h2 (did_same h1 h.env.size ht)
theorem OL.put {B : Nat} {w0 w w' : World} {x st b lb : Nat} {now nw : Int} {c : Nat → Option QM} {cq : Wp.Rq} {sv tv sv' tv' : Value} {ss ss' : List Sn} {hs hs' : List ByteArray} {col : Nat → Nat} (hb : Bk B w x st b nw c col) (h9 : ∀ k, tv.ownBlock = some k → col k = 9) (hlr : Lr w lb x cq now sv tv ss hs) (hlb : B ≤ lb) (hlo0 : ∀ k, sv.ownBlock = some k ∨ tv.ownBlock = some k → B ≤ k) (henv : Env B w) (hbel : Below B w0 w)
    (ht : Tch (lb :: (bl sv ++ bl tv)) w w') (ho : Lr w' lb x cq nw sv' tv' ss' hs') (hn : ∀ k, tv'.ownBlock = some k → tv.ownBlock = some k ∨ w.heap.size ≤ k) (hm : ∀ k, sv'.ownBlock = some k → sv.ownBlock = some k ∨ w.heap.size ≤ k) : OL B w0 w' x st b lb nw c cq sv' tv' ss' hs' := by
  obtain ⟨⟨Z, hs, hc⟩, hwf, hnw, o, room, hJ⟩ := hb
  have hlo : ∀ k ∈ lb :: (bl sv ++ bl tv), B ≤ k := fun k hk => by
    rcases List.mem_cons.1 hk with rfl | hk
    · exact hlb
    · rcases List.mem_append.1 hk with hk | hk
      · exact hlo0 k (.inl (mem_bl.1 hk))
      · exact hlo0 k (.inr (mem_bl.1 hk))
  have hE := henv.tch ht hlo
  have hz := ht.size
  have hBw := henv.size
  have hty : ∀ k ∈ lb :: (bl sv ++ bl tv), ∀ (C : Array Value) (t : TypeId), w.heap[k]? = some (.cells C t (0, 0)) → t = 42 ∨ t = 53 ∨ (t = 9 ∧ tv.ownBlock = some k) := fun k hk C t hC => by
    rcases List.mem_cons.1 hk with rfl | hk
    · have := hlr.ln
      rw [hC] at this
      simp at this
      exact .inl this.2
    · rcases List.mem_append.1 hk with hk | hk
      · by_cases e : t = 53
        · exact .inr (.inl e)
        · exact absurd (mem_bl.1 hk) (own_ne hlr.row hC (Ne.symm e))
      · by_cases e : t = 9
        · exact .inr (.inr ⟨e, mem_bl.1 hk⟩)
        · exact absurd (mem_bl.1 hk) (own_ne hlr.tow hC (Ne.symm e))
  have hfr : Fr B [42, 53, 9] w w' := Fr.of_tch ht hBw hlo (fun k hk C t hC => by
    rcases hty k hk C t hC with rfl | rfl | ⟨rfl, _⟩ <;> decide)
  refine ⟨⟨fun k => if k < w.heap.size then col k else 9, ⟨⟨Z, ⟨hs.stb.fr hfr (by decide), fun i f hi => hfr.keep _ _ _ (hs.tb i f hi) (by decide), fun i y hi hy => (hs.qr i y hi hy).tch ht (fun k hk hm => ?_), fun i y hi hy k hk => ?_, hs.lo, hs.ls⟩, hc⟩, hwf, hnw, o, room, hJ.fr hfr (by decide) (by decide) (by decide) (by decide)⟩, fun k hk => ?_⟩, ho, hlb, fun k hk => ?_, hE, hbel.trans hfr.below⟩
  · have h1 := hs.cl i y hi hy k hk
    have hlt := (hs.qr i y hi hy).lt k hk
    rcases List.mem_cons.1 hm with rfl | hm2
    · exact (hs.qr i y hi hy).nty hlr.ln (by decide) hk
    · rcases List.mem_append.1 hm2 with hm2 | hm2
      · obtain ⟨C, hC⟩ : ∃ C, w.heap[k]? = some (.cells C 53 (0, 0)) := by
          rcases hlr.row.2 with ⟨e, _⟩ | ⟨g', cap', cur, e, _, hr, _⟩
          · have := mem_bl.1 hm2
            rw [e] at this
            simp [Value.ownBlock] at this
          · have := mem_bl.1 hm2
            rw [e] at this
            simp [Value.ownBlock] at this
            subst this
            exact ⟨_, hr⟩
        exact (hs.qr i y hi hy).nty hC (by decide) hk
      · have h2 := h9 k (mem_bl.1 hm2)
        omega
  · show (if k < w.heap.size then col k else 9) = i
    rw [if_pos ((hs.qr i y hi hy).lt k hk)]
    exact hs.cl i y hi hy k hk
  · show (if k < w.heap.size then col k else 9) = 9
    rcases hn k hk with h1 | h1
    · rw [if_pos (own_lt hlr.tow h1)]
      exact h9 k h1
    · rw [if_neg (by omega)]
  · rcases hk with hk | hk
    · rcases hm k hk with h1 | h1
      · exact hlo0 k (.inl h1)
      · omega
    · rcases hn k hk with h1 | h1
      · exact hlo0 k (.inr h1)
      · omega
end Go.Proofs.YtbdobaapadlcjaaGreatDoor
