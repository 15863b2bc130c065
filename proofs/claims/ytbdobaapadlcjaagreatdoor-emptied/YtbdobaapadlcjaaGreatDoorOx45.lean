import Derived.Test.YtbdobaapadlcjaaGreatDoorOx44
namespace Go.Proofs.YtbdobaapadlcjaaGreatDoor
open Go.RowKit
set_option linter.unusedVariables false
set_option linter.unusedSimpArgs false
theorem OL.own50 {B : Nat} {w0 w w' : World} {x st b lb : Nat} {now : Int} {c : Nat → Option QM} {cq : Wp.Rq} {sv tv : Value} {ss : List Sn} {hs : List ByteArray} (h : OL B w0 w x st b lb now c cq sv tv ss hs) (ht : Tch (lb :: (bl sv ++ bl tv)) w w') {v : Value} {n : Nat} {xs : List Value} (ho : w.ownsRow 0 50 3 v n xs) : w'.ownsRow 0 50 3 v n xs := own_tch ho ht (fun j hj hm => by
  rcases List.mem_cons.1 hm with rfl | hm2
  · exact own_ne ho h.lr.ln (by decide) hj
  · rcases List.mem_append.1 hm2 with hm3 | hm3
    · rcases h.lr.row.2 with ⟨e, _⟩ | ⟨g', cap', cur, e, _, hr, _⟩
      · have := mem_bl.1 hm3
        rw [e] at this
        simp [Value.ownBlock] at this
      · have := mem_bl.1 hm3
        rw [e] at this
        simp [Value.ownBlock] at this
        subst this
        exact own_ne ho hr (by decide) hj
    · rcases h.lr.tow.2 with ⟨e, _⟩ | ⟨g', cap', cur, e, _, hr, _⟩
      · have := mem_bl.1 hm3
        rw [e] at this
        simp [Value.ownBlock] at this
      · have := mem_bl.1 hm3
        rw [e] at this
        simp [Value.ownBlock] at this
        subst this
        exact own_ne ho hr (by decide) hj)
structure OP (B : Nat) (w0 w : World) (x st b lb : Nat) (now : Int) (cq : Wp.Rq) (Q : QM) (sv tv : Value) (ss : List Sn) (ps : List (Nat × Nat)) : Prop where
  ol : OL B w0 w x st b lb now (oneC Q) cq sv tv ss (ps.map hB)
  pr : PR now Q ss ps
  cc : Q.c.q = 97 ∧ Q.c.vis = cq.vis ∧ Q.c.win = cq.win
theorem OP.wf {B : Nat} {w0 w : World} {x st b lb : Nat} {now : Int} {cq : Wp.Rq} {Q : QM} {sv tv : Value} {ss : List Sn} {ps : List (Nat × Nat)} (h : OP B w0 w x st b lb now cq Q sv tv ss ps) : QW 0 Q := by
  obtain ⟨col, hb, _⟩ := h.ol.bk
  exact hb.wf 0 Q (by omega) rfl
theorem OP.nw {B : Nat} {w0 w : World} {x st b lb : Nat} {now : Int} {cq : Wp.Rq} {Q : QM} {sv tv : Value} {ss : List Sn} {ps : List (Nat × Nat)} (h : OP B w0 w x st b lb now cq Q sv tv ss ps) : 0 ≤ now ∧ now ≤ 60000 := by
  obtain ⟨col, hb, _⟩ := h.ol.bk
  exact hb.nw
set_option maxRecDepth 8000 in
set_option maxHeartbeats 4000000 in
theorem receives_g (B : Nat) (w0 w : World) (x st b lb : Nat) (now : Int) (cq : Wp.Rq) (Q : QM) (sv tv : Value) (ss : List Sn) (ps : List (Nat × Nat)) (kd a bb : Int) (s1 s2 s3 : ByteArray) (ha : i64 a) (hps : ps.length ≤ 3900000000000) (h : OP B w0 w x st b lb now cq Q sv tv ss ps) :
    Calls Tryz.prog 31 #[.pointer (some ⟨lb, 0, none⟩), .agg #[.int .i64 kd, .int .i64 a, .int .i64 bb, .string s1, .string s2, .string s3]] w fun e w' => e = .returned (.bool true) ∧ ∃ Q' tv' ss' ps', OP B w0 w' x st b lb now cq Q' sv tv' ss' ps' ∧ ps'.length + flyCnt Q ≤ ps.length + flyCnt Q' := by
  have hW := h.wf
  have hnw := h.nw
  have hnx := hW.nx
  have hvis := hW.c.vis
  obtain ⟨hq97, hcv, hcw⟩ := h.cc
  have hp1 := pk_nonneg a 10 (by omega)
  have hp2 := pk_lt a 10 (by omega)
  obtain ⟨mx, hmx⟩ : ∃ mx : Nat, (mx : Int) = 1 + pk a 10 := ⟨(1 + pk a 10).toNat, by omega⟩
  have hm1 : 1 ≤ mx ∧ mx ≤ 10 := by omega
  have HPK : Hid (∀ W, Calls Tryz.prog 14 #[.int .i64 a, .int .i64 10] W fun e w' => e = .returned (.int .i64 ((mx : Int) - 1)) ∧ w' = W) := fun W => by
    have h1 := pick_any a 10 W ha.1 ha.2 (by omega) (by omega)
    have e : (mx : Int) - 1 = pk a 10 := by omega
    rw [e]
    exact h1
  have hw1 : IntKind.i64.wrap (1 + ((mx : Int) - 1)) = (mx : Int) := by rw [IntKind.wrap_i64]; omega
  obtain ⟨cnt, hcnt⟩ : ∃ cnt, cnt = if mx ≤ Q.rs.length then mx else Q.rs.length := ⟨_, rfl⟩
  have hcl : cnt ≤ Q.rs.length ∧ cnt ≤ mx := by split at hcnt <;> omega
  have htil : 0 < now + cq.vis ∧ now < now + cq.vis ∧ now + cq.vis ≤ now + 1000 := by omega
  have htil2 : 0 < now + cq.vis ∧ now + cq.vis ≤ 61000 := by omega
  have HW : Hid (QW 0 Q) := hW
  have HRC : Hid (∀ W, Tch [] w W → Calls Tryz.prog 22 #[.pointer (some ⟨x, 0, none⟩), .int .u8 97, .string ⟨#[]⟩, .int .i64 (mx : Int)] W fun e w' => ∃ v, e = .returned (.tuple #[v, .bool true]) ∧ w'.ownsRow 0 50 3 v (entL Q cnt).length ((entL Q cnt).flatMap Ge.row) ∧ OL B w0 w' x st b lb now (oneC (rcvK Q (now + cq.vis) cnt)) cq sv tv ss (ps.map hB)) := fun W ht => by
    have hO := h.ol.tch ht
    obtain ⟨col, hb, h9⟩ := hO.bk
    refine (receive_g B 97 x st b 0 mx cnt now (oneC Q) col W hO.env hb (by omega) rfl Q rfl (by rw [h.pr.ats]; show 0 < 20; omega) hm1 hcnt).mono ?_
    rintro e w' ⟨v, rfl, ho, hd⟩
    rw [rcv_eq hW now hcl.1, hcv] at hd
    exact ⟨v, rfl, ho, hO.did h9 hd⟩
  have HP0 : Hid (PR now (rcvK Q (now + cq.vis) 0) ss ps) := by
    have h1 : Q.ms.map (flyH (now + cq.vis) Q.ms (Q.rs.take 0)) = Q.ms := by
      rw [List.map_congr_left (g := id) (fun x _ => ?_), List.map_id]
      unfold flyH
      rw [if_neg (by simp [inG])]
      rfl
    have h2 : rcvK Q (now + cq.vis) 0 = Q := by
      unfold rcvK
      rw [h1]
      rfl
    show PR _ _ _ _
    rw [h2]
    exact h.pr
  have HHE : Hid (∀ k ssk psk, k < cnt → PR now (rcvK Q (now + cq.vis) k) ssk psk → ∃ (hk : k < Q.rs.length) (p : Nat × Nat) (i : Nat) (hi : i < ssk.length), entG Q Q.rs[k] = ⟨hB p, ssk[i].grp, ssk[i].bod⟩ ∧ p.1 < 4294967296 ∧ idxL (fun m => m.num == (p.1 : Int)) ssk = (i : Int) ∧ ssk[i].gone = false ∧ (∀ j (hj : j < ssk.length), ssk[j].grp = ssk[i].grp → ssk[j].gone = false → ssk[j].fl = false ∧ i ≤ j) ∧ PR now (rcvK Q (now + cq.vis) (k + 1)) (ssk.set i (toldS ssk[i] (now + cq.vis))) (psk ++ [p])) := fun k ssk psk hk hpr => by
    have hk' : k < Q.rs.length := by omega
    exact ⟨hk', PR.hears hW hq97 hk' htil hpr⟩
  have HEN : Hid (∀ ssk psk w9 tvk, OL B w0 w9 x st b lb now (oneC (rcvK Q (now + cq.vis) cnt)) cq sv tvk ssk (psk.map hB) → PR now (rcvK Q (now + cq.vis) cnt) ssk psk → psk.length = ps.length + cnt → ∃ Q' tv' ss' ps', OP B w0 w9 x st b lb now cq Q' sv tv' ss' ps' ∧ ps'.length + flyCnt Q ≤ ps.length + flyCnt Q') := fun ssk psk w9 tvk ho hp hl => ⟨_, tvk, ssk, psk, ⟨ho, hp, ⟨hq97, hcv, hcw⟩⟩, by have := fly_rcv hW htil.1 cnt hcl.1; omega⟩
  have hsl : ss.length ≤ 200 := h.pr.len hnx.2
  have c0 := h.ol.lr.c0
  have ll := h.ol.lr.lt
  have HT1 : Hid (∀ o, Tch [] w (w.alloc o)) := fun o => (Tch.refl [] w).alloc o
  have helen : (entL Q cnt).length = cnt := entL_len Q cnt hcl.1
  have HGE : Hid (∀ k (hk : k < (entL Q cnt).length) (hk2 : k < Q.rs.length), (entL Q cnt)[k] = entG Q Q.rs[k]) := fun k hk hk2 => by
    simp [entL]
  have HBZ : Hid (cnt ≠ mx → ∀ ssk psk, PR now (rcvK Q (now + cq.vis) cnt) ssk psk → ∀ s ∈ ssk, s.gone = true ∨ busyB ssk s.grp = true) := fun hne ssk psk hp => by
    have e1 : cnt = Q.rs.length := by split at hcnt <;> omega
    refine PR.busy (rcvK_wf hW htil2 hcl.1) hp ?_
    show Q.rs.drop cnt = []
    rw [e1]
    simp
  clear h hW hcnt hmx hp1 hp2 ha
  go_enter Tryz.func31, Tryz.ntmps31
  go_wp2_with fail
  refine (HPK.out _).mono ?_
  rintro e w2 ⟨rfl, h2'⟩
  have h2s := h2'.symm
  subst h2s
  clear HPK
  go_wp2_with fail
  refine (HRC.out _ (HT1.out _)).mono ?_
  rintro e w2 ⟨v, rfl, how2, hol2⟩
  have HO2 : Hid (w2.ownsRow 0 50 3 v (entL Q cnt).length ((entL Q cnt).flatMap Ge.row) ∧ OL B w0 w2 x st b lb now (oneC (rcvK Q (now + cq.vis) cnt)) cq sv tv ss (ps.map hB)) := ⟨how2, hol2⟩
  obtain ⟨va, vc, hv⟩ := own_shape how2
  rw [helen] at hv
  subst hv
  have hgt : decide ((mx : Int) < (cnt : Int)) = false := decide_eq_false (by omega)
  have hgtN : decide (mx < cnt) = false := decide_eq_false (by omega)
  clear how2 hol2 HRC c0 ll HT1
  go_wp2_with fail
  go_loopw [8] (fun v wr => ∃ k : Nat, ∃ ssk psk tvk, k ≤ cnt ∧ v = .int .i64 (k : Int) ∧ psk.length = ps.length + k ∧ wr.ownsRow 0 50 3 (.slice va cnt vc) (entL Q cnt).length ((entL Q cnt).flatMap Ge.row) ∧ OL B w0 wr x st b lb now (oneC (rcvK Q (now + cq.vis) cnt)) cq sv tvk ssk (psk.map hB) ∧ PR now (rcvK Q (now + cq.vis) k) ssk psk) (fun v _ => cnt - (intOf v).toNat)
  case atStart => exact ⟨0, ss, ps, tv, Nat.zero_le _, rfl, rfl, HO2.out.1, HO2.out.2, HP0.out⟩
  case round =>
    obtain ⟨k, ssk, psk, tvk, hk, rfl, hpl, how, hol, hpr⟩ := hrel
    have hskl : ssk.length ≤ 200 := hpr.len hnx.2
    by_cases hkl : k < cnt
    · obtain ⟨hkr, p, i, hi, hent, hpb, hix, hgo, hfst, hpr'⟩ := HHE.out k ssk psk hkl hpr
      have hke : k < (entL Q cnt).length := by rw [helen]; exact hkl
      have hrow : (entL Q cnt)[k] = ⟨hB p, ssk[i].grp, ssk[i].bod⟩ := (HGE.out k hke hkr).trans hent
      have inh : Inhabited Ge := ⟨(entL Q cnt)[k]⟩
      obtain ⟨g, rfl⟩ : ∃ g, va = some ⟨g, 0, none⟩ := by
        rcases how.2 with ⟨_, h1⟩ | ⟨g, cap, cur, h0, _⟩
        · omega
        · simp at h0
          exact ⟨g, h0.1⟩
      have how' := how
      rw [helen] at how'
      have hc : ∀ j u, ((entL Q cnt)[k].row)[j]? = some u → wr.cell? ⟨g, k * 3 + j, none⟩ = some u := fun j u hj => by
        have h1 := own_cells Ge.row 3 (fun _ => rfl) (by rw [helen]; exact how') k hke j u (by rw [List.getElem!_eq_getElem?_getD, List.getElem?_eq_getElem hke]; exact hj)
        simpa using h1
      rw [hrow] at hc
      have d0 : wr.cell? ⟨g, k * 3, none⟩ = some (.string (hB p)) := hc 0 _ rfl
      have d1 : wr.cell? ⟨g, k * 3 + 1, none⟩ = some (.string ssk[i].grp) := hc 1 _ rfl
      have d2 : wr.cell? ⟨g, k * 3 + 2, none⟩ = some (.string ssk[i].bod) := hc 2 _ rfl
      have lg : g < wr.heap.size := World.block_lt_of_cell? _ _ d0
      have HHD : Hid (Calls Tryz.prog 54 #[.pointer (some ⟨lb, 0, none⟩), .agg #[.string (hB p), .string ssk[i].grp, .string ssk[i].bod]] wr fun e w' => e = .returned (.bool true) ∧ ∃ ssn psn tvn, psn.length = ps.length + (k + 1) ∧ w'.ownsRow 0 50 3 (.slice (some ⟨g, 0, none⟩) cnt vc) (entL Q cnt).length ((entL Q cnt).flatMap Ge.row) ∧ OL B w0 w' x st b lb now (oneC (rcvK Q (now + cq.vis) cnt)) cq sv tvn ssn (psn.map hB) ∧ PR now (rcvK Q (now + cq.vis) (k + 1)) ssn psn) := by
        refine (heard_g lb x cq now sv tvk ssk (psk.map hB) p i wr hol.lr (by omega) (by rw [List.length_map]; omega) hpb hi hix hgo hfst (by omega)).mono ?_
        rintro e w' ⟨rfl, tvn, hlr, ht, hnew⟩
        obtain ⟨col, hb, h9⟩ := hol.bk
        refine ⟨rfl, _, psk ++ [p], tvn, by simp; omega, hol.own50 ht how, ?_, hpr'⟩
        refine OL.put hb h9 hol.lr hol.lb hol.lo hol.env hol.bel ht ?_ hnew (fun k hk => .inl hk)
        rw [List.map_append]
        exact hlr
      clear hc hrow how how' hol hpr hpr' hent hix hgo hfst HO2 HP0
      generalize hB p = hbp at *
      generalize ssk[i].grp = gr at *
      generalize ssk[i].bod = bo at *
      go_wp2_with fail
      refine HHD.out.mono ?_
      rintro e w5 ⟨rfl, ssn, psn, tvn, f1, f2, f3, f4⟩
      have HF : Hid (psn.length = ps.length + (k + 1) ∧ w5.ownsRow 0 50 3 (.slice (some ⟨g, 0, none⟩) cnt vc) (entL Q cnt).length ((entL Q cnt).flatMap Ge.row) ∧ OL B w0 w5 x st b lb now (oneC (rcvK Q (now + cq.vis) cnt)) cq sv tvn ssn (psn.map hB) ∧ PR now (rcvK Q (now + cq.vis) (k + 1)) ssn psn) := ⟨f1, f2, f3, f4⟩
      clear f1 f2 f3 f4 HHD
      go_wp2_with fail
      go_roundw
      case rel =>
        exact ⟨k + 1, ssn, psn, tvn, by omega, by go_num, HF.out⟩
      case measure => simp [intOf]; omega
    · have hke : k = cnt := by omega
      subst hke
      have HE : Hid (∀ w9, Tch [] wr w9 → ∃ Q' tv' ss' ps', OP B w0 w9 x st b lb now cq Q' sv tv' ss' ps' ∧ ps'.length + flyCnt Q ≤ ps.length + flyCnt Q') := fun w9 ht => HEN.out ssk psk w9 tvk (hol.tch ht) hpr hpl
      by_cases hem : k = mx
      · subst hem
        clear hol hpr how HO2 HP0 HHE HEN HBZ HGE
        have HN : Hid (∀ q, Tch [] wr (wr.drewN q)) := fun q => (Tch.refl [] wr).drewN q
        go_wp2_with fail
        go_ret
        exact ⟨rfl, HE.out _ (Tch.refl _ _)⟩
      · have HWT : Hid (∀ W, Tch [] wr W → Calls Tryz.prog 55 #[.pointer (some ⟨lb, 0, none⟩)] W fun e w' => e = .returned (.bool false) ∧ Tch [] W w') := fun W ht => waits_no lb x cq now sv tvk ssk (psk.map hB) W (hol.lr.tch ht) (by omega) (HBZ.out hem ssk psk hpr)
        clear hol hpr how HO2 HP0 HHE HEN HBZ HGE
        have hne : ((k : Int) == (mx : Int)) = false := beq_eq_false_iff_ne.2 (by omega)
        go_wp2_with fail
        refine (HWT.out _ (Tch.refl _ _)).mono ?_
        rintro e w6 ⟨rfl, ht6⟩
        have HE2 : Hid (∃ Q' tv' ss' ps', OP B w0 w6 x st b lb now cq Q' sv tv' ss' ps' ∧ ps'.length + flyCnt Q ≤ ps.length + flyCnt Q') := HE.out _ ht6
        clear HWT HE ht6
        go_wp2_with fail
        go_ret
        exact ⟨rfl, HE2.out⟩
abbrev extR (h : ByteArray) (n : Int) : Wp.Rq := ⟨69, 0, 0, 0, 0, 0, 0, 0, n, ⟨#[]⟩, ⟨#[]⟩, ⟨#[]⟩, ⟨#[]⟩, h⟩
theorem ext_rok (h : ByteArray) (n : Int) (hs : h.size ≤ 255) (h0 : 0 ≤ n) (h1 : n ≤ 1000) : Rok (extR h n) := by
  have hwf : Wf (extR h n) := Keep.wf_small _ Keep.zz Keep.zz Keep.zz Keep.zz Keep.zz ⟨by show (0 : Int) ≤ n; omega, by show n ≤ (1001 : Int); omega⟩
  have hright : rightW (extR h n) nil0 (Wp.short []) = true := by
    refine (right_iff _ _ _ hwf).2 ⟨4, by decide, rfl, ?_, rfl, rfl⟩
    show List.all [13, 7] _ = true
    simp only [List.all_cons, List.all_nil, Bool.and_true, Bool.and_eq_true]
    exact ⟨Keep.fits_of _ _ _ 13 (by decide) (by decide) (by decide) (show (0 : Int) ≤ (h.size : Int) by omega) (show (h.size : Int) ≤ 255 by omega), Keep.fits_of _ _ _ 7 (by decide) (by decide) (by decide) (show (0 : Int) ≤ n by omega) (show n ≤ (1000 : Int) by omega)⟩
  refine ⟨hwf, hright, ?_⟩
  rw [(print_bytes _ nil0 [] hright).1, BA_size, List.append_nil, List.length_cons, show Wp.lay ((extR h n).op.toNat - 65) = [13, 7] from rfl]
  simp only [encL, List.flatMap_cons, List.flatMap_nil, List.length_append, List.length_nil]
  rw [encF_l3 _ _ 13 rfl, encF_l2 _ _ 7 rfl]
  show 1 + h.size + (2 + 0) + 1 ≤ 90000
  omega
theorem live_yes {now : Int} {Q : QM} {ss : List Sn} {ps : List (Nat × Nat)} (hW : QW 0 Q) (h : PR now Q ss ps) {p : Nat × Nat} (hf : fliesQ Q p.1 p.2 = true) :
    ∃ (i : Nat) (hi : i < ss.length) (m : Ms), idxL (fun m => m.num == (p.1 : Int)) ss = (i : Int) ∧ ss[i].fl = true ∧ ss[i].gone = false ∧ ss[i].num = (p.1 : Int) ∧ ((lastB ps p.1).toList == (hB p).toList) = true ∧ m ∈ Q.ms ∧ m.num = (p.1 : Int) ∧ 0 < m.til ∧ Q.ms.find? (isN (p.1 : Int)) = some m := by
  unfold fliesQ at hf
  cases hfd : Q.ms.find? (isN (p.1 : Int)) with
  | none => rw [hfd] at hf; simp at hf
  | some m =>
    rw [hfd] at hf
    simp only [Bool.and_eq_true, decide_eq_true_eq, beq_iff_eq] at hf
    obtain ⟨hm, hn⟩ := find_mem hfd
    obtain ⟨s, hs, e1, e2, e3, e4, e5, e6⟩ := h.ms m hm
    obtain ⟨i, hi, rfl⟩ := List.mem_iff_getElem.1 hs
    have hpw := List.pairwise_iff_getElem.1 h.up
    refine ⟨i, hi, m, ?_, e5.2 hf.1, e4, e1.trans hn, ?_, hm, hn, hf.1, rfl⟩
    · refine idxL_hit _ ss i hi ?_ (fun j hj => ?_)
      · show (ss[i].num == (p.1 : Int)) = true
        rw [e1, hn]
        simp
      · show (ss[j].num == (p.1 : Int)) = false
        have := hpw j i (by omega) hi hj
        rw [← hn, ← e1]
        exact beq_eq_false_iff_ne.2 (by omega)
    · have h1 := h.lst m hm hf.1
      have h2 : m.num.toNat = p.1 := by rw [hn]; simp
      have h3 : m.rcv.toNat = p.2 := by rw [hf.2]; simp
      rw [h2, h3] at h1
      rw [h1]
      simp
theorem live_no {now : Int} {Q : QM} {ss : List Sn} {ps : List (Nat × Nat)} (hW : QW 0 Q) (h : PR now Q ss ps) {p : Nat × Nat} (hp : p ∈ ps) (hf : fliesQ Q p.1 p.2 = false) :
    idxL (fun m => m.num == (p.1 : Int)) ss < 0 ∨ ∃ (i : Nat) (hi : i < ss.length), idxL (fun m => m.num == (p.1 : Int)) ss = (i : Int) ∧ (ss[i].fl = false ∨ ss[i].fl = true ∧ ((lastB ps p.1).toList == (hB p).toList) = false) := by
  by_cases hz : idxL (fun m : Sn => m.num == (p.1 : Int)) ss < 0
  · exact .inl hz
  · obtain ⟨i, hi⟩ : ∃ i : Nat, idxL (fun m : Sn => m.num == (p.1 : Int)) ss = (i : Int) := ⟨_, (Int.toNat_of_nonneg (by omega)).symm⟩
    obtain ⟨hil, hpi, hfi⟩ := idxL_fnd _ _ i hi
    refine .inr ⟨i, hil, hi, ?_⟩
    cases hfl : ss[i].fl with
    | false => exact .inl rfl
    | true =>
      refine .inr ⟨rfl, ?_⟩
      have hgo : ss[i].gone = false := by
        cases hg : ss[i].gone with
        | false => rfl
        | true =>
          have := h.gf _ (List.getElem_mem hil) hg
          rw [hfl] at this
          simp at this
      obtain ⟨m, hm, en⟩ := h.sm _ (List.getElem_mem hil) hgo
      obtain ⟨s, hs, e1, e2, e3, e4, e5, e6⟩ := h.ms m hm
      have hse : s = ss[i] := sn_inj h.up hs (List.getElem_mem hil) (by rw [e1, en])
      subst hse
      have htil := e5.1 hfl
      have hnum : m.num = (p.1 : Int) := by
        rw [en]
        have : (ss[i].num == (p.1 : Int)) = true := hpi
        simpa using this
      have hlast := h.lst m hm htil
      have h2 : m.num.toNat = p.1 := by rw [hnum]; simp
      rw [h2] at hlast
      rw [hlast]
      cases hb : ((hB (p.1, m.rcv.toNat)).toList == (hB p).toList) with
      | false => rfl
      | true =>
        exfalso
        have hbb := ba_of_beq hb
        have hpk := h.pok p hp
        have hrc := (hW.mok m hm).rcv
        have hnx := hW.nx
        have hinj := hB_inj (p := (p.1, m.rcv.toNat)) (q := p) ⟨by show p.1 < 4294967296; omega, by show m.rcv.toNat < 65536; omega⟩ ⟨by omega, hpk.2⟩ hbb
        have h3 : m.rcv.toNat = p.2 := congrArg Prod.snd hinj
        have hfd : Q.ms.find? (isN (p.1 : Int)) = some m := by rw [← hnum]; exact find_num Q.ms hW.nums m hm
        unfold fliesQ at hf
        rw [hfd] at hf
        have h4 : m.rcv = (p.2 : Int) := by omega
        simp [htil, h4] at hf
theorem Did.kp {B x st b : Nat} {w w' : World} {col : Nat → Nat} {now : Int} {c : Nat → Option QM} (h : Did B x st b w col now c w') : ∀ (k : Nat) (C : Array Value) (t : TypeId), t = 27 ∨ t = 33 → w.heap[k]? = some (.cells C t (0, 0)) → w'.heap[k]? = some (.cells C t (0, 0)) := fun k C t ht hk => by
  obtain ⟨_, _, _, hf⟩ := h
  rcases ht with rfl | rfl
  · exact hf.keep k C _ hk (by decide)
  · exact hf.keep k C _ hk (by decide)
theorem ask_A {B : Nat} {w0 w : World} {x st b lb : Nat} {now : Int} {cq : Wp.Rq} {Q : QM} {sv tv : Value} {ss : List Sn} {ps : List (Nat × Nat)} (h : OP B w0 w x st b lb now cq Q sv tv ss ps) {p : Nat × Nat} (hp : p ∈ ps) :
    Calls Tryz.prog 18 #[.pointer (some ⟨x, 0, none⟩), .agg #[.int .u8 65, .int .u8 0, .int .u8 0, .int .i64 0, .int .i64 0, .int .i64 0, .int .i64 0, .int .i64 0, .int .i64 0, .string ⟨#[]⟩, .string ⟨#[]⟩, .string ⟨#[]⟩, .string ⟨#[]⟩, .string (hB p), .slice none 0 0]] w fun e w' => if fliesQ Q p.1 p.2 = true then e = .returned (.string ⟨#[0]⟩) ∧ OL B w0 w' x st b lb now (oneC (dropQ Q p.1)) cq sv tv ss (ps.map hB) ∧ ∀ (k : Nat) (C : Array Value) (t : TypeId), t = 27 ∨ t = 33 → w.heap[k]? = some (.cells C t (0, 0)) → w'.heap[k]? = some (.cells C t (0, 0)) else e = .returned (.string ⟨#[8]⟩) ∧ OL B w0 w' x st b lb now (oneC Q) cq sv tv ss (ps.map hB) ∧ ∀ (k : Nat) (C : Array Value) (t : TypeId), t = 27 ∨ t = 33 → w.heap[k]? = some (.cells C t (0, 0)) → w'.heap[k]? = some (.cells C t (0, 0)) := by
  obtain ⟨col, hb, h9⟩ := h.ol.bk
  have hpk := h.pr.pok p hp
  have hnx := h.wf.nx
  have hh := han_is 97 0 p.1 p.2 rfl (by decide) (by omega) hpk.2
  have hrok : Rok (ackR (hB p)) := ack_rok _ (by rw [hB_size]; omega)
  cases hf : fliesQ Q p.1 p.2 with
  | true =>
    have h1 := ask_op (A := okL []) (Dd := Did B x st b w col now (setC (oneC Q) 0 (some (dropQ Q p.1)))) B (ackR (hB p)) x st b now (oneC Q) col w h.ol.env hb hrok (fun Z o room hs hc W y htW => op_A B _ x st b 0 p.1 p.2 now (oneC Q) col w h.ol.env hb rfl (by omega) hh Q rfl hf Z o room hs hc W y htW)
    refine h1.mono ?_
    rintro e w' ⟨rfl, hd⟩
    rw [set_oneC] at hd
    rw [if_pos rfl]
    exact ⟨rfl, h.ol.did h9 hd, hd.kp⟩
  | false =>
    have h1 := ask_op (A := ⟨#[8]⟩) (Dd := Did B x st b w col now (oneC Q)) B (ackR (hB p)) x st b now (oneC Q) col w h.ol.env hb hrok (fun Z o room hs hc W y htW => op_A8 B _ x st b 0 p.1 p.2 now (oneC Q) col w h.ol.env hb (.inl rfl) (by omega) hh Q rfl hf Z o room hs hc W y htW)
    refine h1.mono ?_
    rintro e w' ⟨rfl, hd⟩
    rw [if_neg (by simp)]
    exact ⟨rfl, h.ol.did h9 hd, hd.kp⟩
theorem ask_E {B : Nat} {w0 w : World} {x st b lb : Nat} {now : Int} {cq : Wp.Rq} {Q : QM} {sv tv : Value} {ss : List Sn} {ps : List (Nat × Nat)} (h : OP B w0 w x st b lb now cq Q sv tv ss ps) {p : Nat × Nat} (hp : p ∈ ps) (n : Int) (hn : 0 ≤ n ∧ n ≤ 1000) :
    Calls Tryz.prog 18 #[.pointer (some ⟨x, 0, none⟩), .agg #[.int .u8 69, .int .u8 0, .int .u8 0, .int .i64 0, .int .i64 0, .int .i64 0, .int .i64 0, .int .i64 0, .int .i64 n, .string ⟨#[]⟩, .string ⟨#[]⟩, .string ⟨#[]⟩, .string ⟨#[]⟩, .string (hB p), .slice none 0 0]] w fun e w' => if fliesQ Q p.1 p.2 = true then e = .returned (.string ⟨#[0]⟩) ∧ OL B w0 w' x st b lb now (extC (oneC Q) 0 Q p.1 now n) cq sv tv ss (ps.map hB) ∧ ∀ (k : Nat) (C : Array Value) (t : TypeId), t = 27 ∨ t = 33 → w.heap[k]? = some (.cells C t (0, 0)) → w'.heap[k]? = some (.cells C t (0, 0)) else e = .returned (.string ⟨#[8]⟩) ∧ OL B w0 w' x st b lb now (oneC Q) cq sv tv ss (ps.map hB) ∧ ∀ (k : Nat) (C : Array Value) (t : TypeId), t = 27 ∨ t = 33 → w.heap[k]? = some (.cells C t (0, 0)) → w'.heap[k]? = some (.cells C t (0, 0)) := by
  obtain ⟨col, hb, h9⟩ := h.ol.bk
  have hpk := h.pr.pok p hp
  have hnx := h.wf.nx
  have hh := han_is 97 0 p.1 p.2 rfl (by decide) (by omega) hpk.2
  have hrok : Rok (extR (hB p) n) := ext_rok _ n (by rw [hB_size]; omega) hn.1 hn.2
  cases hf : fliesQ Q p.1 p.2 with
  | true =>
    have h1 := ask_op (A := okL []) (Dd := Did B x st b w col now (extC (oneC Q) 0 Q p.1 now n)) B (extR (hB p) n) x st b now (oneC Q) col w h.ol.env hb hrok (fun Z o room hs hc W y htW => op_E B (extR (hB p) n) x st b 0 p.1 p.2 now (oneC Q) col w h.ol.env hb rfl (by omega) hh Q rfl hf hn Z o room hs hc W y htW)
    refine h1.mono ?_
    rintro e w' ⟨rfl, hd⟩
    rw [if_pos rfl]
    exact ⟨rfl, h.ol.did h9 hd, hd.kp⟩
  | false =>
    have h1 := ask_op (A := ⟨#[8]⟩) (Dd := Did B x st b w col now (oneC Q)) B (extR (hB p) n) x st b now (oneC Q) col w h.ol.env hb hrok (fun Z o room hs hc W y htW => op_A8 B _ x st b 0 p.1 p.2 now (oneC Q) col w h.ol.env hb (.inr rfl) (by omega) hh Q rfl hf Z o room hs hc W y htW)
    refine h1.mono ?_
    rintro e w' ⟨rfl, hd⟩
    rw [if_neg (by simp)]
    exact ⟨rfl, h.ol.did h9 hd, hd.kp⟩
end Go.Proofs.YtbdobaapadlcjaaGreatDoor
