import Derived.Test.YtbdobaapadlcjaaGreatDoorOx47
namespace Go.Proofs.YtbdobaapadlcjaaGreatDoor
open Go.RowKit
set_option linter.unusedVariables false
set_option linter.unusedSimpArgs false
theorem til_at (n til : Int) (x : Ms) : tilM n til x = atN n (fun x => { x with til := til }) x := by
  unfold tilM atN
  by_cases h : x.num = n
  · rw [if_pos h, if_pos ((isN_iff n x).2 h)]
  · rw [if_neg h, if_neg (fun e => h ((isN_iff n x).1 e))]
theorem tilQ_fs {Q : QM} {n til : Int} {m : Ms} (hf : Q.ms.find? (isN n) = some m) : (tilQ Q n til).next = Q.next ∧ (tilQ Q n til).c = Q.c ∧ (tilQ Q n til).ats = Q.ats ∧ (tilQ Q n til).ds = Q.ds := by
  unfold tilQ
  rw [hf]
  exact ⟨rfl, rfl, rfl, rfl⟩
theorem til_cnt {Q : QM} (hW : QW 0 Q) (n til : Int) : Q.ms.countP fly0 ≤ (tilQ Q n til).ms.countP fly0 + 1 := by
  have h1 := count_at n (fun x => { x with til := til }) Q.ms hW.nums
  rw [til_map Q hW.nums, List.map_congr_left (fun y _ => til_at n til y)]
  exact h1
theorem ext_zero {B : Nat} {w0 w3 : World} {x st b lb : Nat} {now : Int} {cq : Wp.Rq} {Q : QM} {g sc : Nat} {tv : Value} {ss : List Sn} {ps : List (Nat × Nat)} {p : Nat × Nat} {i : Nat} {m : Ms} (hW : QW 0 Q) (hpr : PR now Q ss ps) (hcc : Q.c.q = 97 ∧ Q.c.vis = cq.vis ∧ Q.c.win = cq.win) (hl3 : OL B w0 w3 x st b lb now (extC (oneC Q) 0 Q p.1 now 0) cq (.slice (some ⟨g, 0, none⟩) ss.length sc) tv ss (ps.map hB)) (hi : i < ss.length) (hsn : ss[i].num = (p.1 : Int)) (hsg : ss[i].gone = false) (hm : m ∈ Q.ms) (hmn : m.num = (p.1 : Int)) (hfd : Q.ms.find? (isN (p.1 : Int)) = some m) :
    ∃ Q' ss', OP B w0 (w3.setCell ⟨g, i * 6 + 3, none⟩ (.bool false)) x st b lb now cq Q' (.slice (some ⟨g, 0, none⟩) ss.length sc) tv ss' ps ∧ flyCnt Q ≤ flyCnt Q' + 1 := by
  have e : extC (oneC Q) 0 Q p.1 now 0 = oneC (readyQ (tilQ Q p.1 0) m.grp) := by
    unfold extC
    rw [if_pos rfl]
    exact back_one Q hpr.dd _ m hfd
  rw [e] at hl3
  obtain ⟨f1, f2, f3, f4⟩ := tilQ_fs (til := 0) hfd
  have hpos : ∀ x ∈ Q.ms, 0 ≤ x.num := fun x hx => by
    have := (hW.mok x hx).num
    omega
  refine ⟨_, _, ⟨hl3.one i hi 3 (by omega) (.bool false) { ss[i] with fl := false } rfl, ?_, ?_⟩, til_cnt hW (p.1 : Int) 0⟩
  · refine hpr.upd (Q' := readyQ (tilQ Q p.1 0) m.grp) (fun x => { x with til := 0 }) (p.1 : Int) (fun x => ⟨rfl, rfl, rfl⟩) ?_ f1 f2 (f3.trans hpr.ats) f4 hi hsn { ss[i] with fl := false } ⟨rfl, rfl, rfl, hsg⟩ (fun y hy hyn => ⟨⟨fun h => absurd (show false = true from h) (by decide), fun h => absurd (show (0 : Int) < 0 from h) (by omega)⟩, fun h => absurd (show (0 : Int) < 0 from h) (by omega)⟩) ⟨m, hm, hmn⟩ (fun k hk hk0 => rfl) hpr.pok hpos
    show (tilQ Q p.1 0).ms = _
    rw [til_map Q hW.nums]
    exact List.map_congr_left (fun y _ => til_at _ _ y)
  · show (tilQ Q p.1 0).c.q = 97 ∧ (tilQ Q p.1 0).c.vis = cq.vis ∧ (tilQ Q p.1 0).c.win = cq.win
    rw [f2]
    exact hcc
theorem ext_some {B : Nat} {w0 w3 : World} {x st b lb : Nat} {now : Int} {cq : Wp.Rq} {Q : QM} {g sc : Nat} {tv : Value} {ss : List Sn} {ps : List (Nat × Nat)} {p : Nat × Nat} {i : Nat} {m : Ms} {n : Int} (hW : QW 0 Q) (hpr : PR now Q ss ps) (hcc : Q.c.q = 97 ∧ Q.c.vis = cq.vis ∧ Q.c.win = cq.win) (hl3 : OL B w0 w3 x st b lb now (extC (oneC Q) 0 Q p.1 now n) cq (.slice (some ⟨g, 0, none⟩) ss.length sc) tv ss (ps.map hB)) (hi : i < ss.length) (hsn : ss[i].num = (p.1 : Int)) (hsg : ss[i].gone = false) (hsf : ss[i].fl = true) (hm : m ∈ Q.ms) (hmn : m.num = (p.1 : Int)) (hmt : 0 < m.til) (hfd : Q.ms.find? (isN (p.1 : Int)) = some m) (hn0 : n ≠ 0) (hn : 0 ≤ n ∧ 0 ≤ now ∧ n ≤ 1000) :
    ∃ Q' ss', OP B w0 (w3.setCell ⟨g, i * 6 + 4, none⟩ (.int .i64 (now + n))) x st b lb now cq Q' (.slice (some ⟨g, 0, none⟩) ss.length sc) tv ss' ps ∧ flyCnt Q ≤ flyCnt Q' + 1 := by
  have e : extC (oneC Q) 0 Q p.1 now n = oneC (tilQ Q p.1 (now + n)) := by
    unfold extC
    rw [if_neg hn0]
    exact set_oneC _ _
  rw [e] at hl3
  obtain ⟨f1, f2, f3, f4⟩ := tilQ_fs (til := now + n) hfd
  have hpos : ∀ x ∈ Q.ms, 0 ≤ x.num := fun x hx => by
    have := (hW.mok x hx).num
    omega
  refine ⟨_, _, ⟨hl3.one i hi 4 (by omega) (.int .i64 (now + n)) { ss[i] with til := now + n } rfl, ?_, ?_⟩, til_cnt hW (p.1 : Int) (now + n)⟩
  · refine hpr.upd (fun x => { x with til := now + n }) (p.1 : Int) (fun x => ⟨rfl, rfl, rfl⟩) ?_ f1 f2 (f3.trans hpr.ats) f4 hi hsn { ss[i] with til := now + n } ⟨rfl, rfl, rfl, hsg⟩ (fun y hy hyn => ?_) ⟨m, hm, hmn⟩ (fun k hk hk0 => rfl) hpr.pok hpos
    · rw [til_map Q hW.nums]
      exact List.map_congr_left (fun y _ => til_at _ _ y)
    · have hym := num_inj hW.nums hy hm (hyn.trans hmn.symm)
      subst hym
      exact ⟨⟨fun _ => by show 0 < now + n; omega, fun _ => hsf⟩, fun _ => ⟨rfl, by show now < now + n ∧ now + n ≤ now + 1000; omega, hpr.lst y hy hmt⟩⟩
  · rw [f2]
    exact hcc
set_option maxRecDepth 8000 in
set_option maxHeartbeats 8000000 in
theorem endsE_g (B : Nat) (w0 w : World) (x st b lb : Nat) (now : Int) (cq : Wp.Rq) (Q : QM) (sv tv : Value) (ss : List Sn) (ps : List (Nat × Nat)) (a bb : Int) (s1 s2 s3 : ByteArray) (ha : i64 a) (hbb : i64 bb) (hps : ps.length ≤ 3900000000000) (h : OP B w0 w x st b lb now cq Q sv tv ss ps) :
    Calls Tryz.prog 32 #[.pointer (some ⟨lb, 0, none⟩), .agg #[.int .i64 4, .int .i64 a, .int .i64 bb, .string s1, .string s2, .string s3]] w fun e w' => e = .returned (.bool true) ∧ ∃ Q' ss', OP B w0 w' x st b lb now cq Q' sv tv ss' ps ∧ flyCnt Q ≤ flyCnt Q' + 1 := by
  have hW := h.wf
  have hnw := h.nw
  have hsl : ss.length ≤ 200 := h.pr.len hW.nx.2
  have HO : Hid (∀ W, Tch [] w W → OP B w0 W x st b lb now cq Q sv tv ss ps) := fun W ht => h.tch ht
  have HH : Hid (∀ W, Tch [] w W → Calls Tryz.prog 56 #[.pointer (some ⟨lb, 0, none⟩), .int .i64 bb] W fun e w' => ∃ s, e = .returned (.string s) ∧ (s = ⟨#[]⟩ ∨ ∃ p ∈ ps, s = hB p) ∧ Tch [] W w') := fun W ht => by
    refine (handle_g lb x cq now sv tv ss (ps.map hB) bb W (h.ol.lr.tch ht) (by rw [List.length_map]; omega) hbb).mono ?_
    rintro e w' ⟨s, rfl, hs, ht'⟩
    refine ⟨s, rfl, ?_, ht'⟩
    rcases hs with ⟨_, rfl⟩ | hs
    · exact .inl rfl
    · obtain ⟨p, hp, rfl⟩ := List.mem_map.1 hs
      exact .inr ⟨p, hp, rfl⟩
  have HT1 : Hid (∀ o, Tch [] w (w.alloc o)) := fun o => (Tch.refl [] w).alloc o
  have ll := h.ol.lr.lt
  have HPR : Hid (QW 0 Q ∧ PR now Q ss ps ∧ (Q.c.q = 97 ∧ Q.c.vis = cq.vis ∧ Q.c.win = cq.win)) := ⟨hW, h.pr, h.cc⟩
  obtain ⟨sa, sc, hsv⟩ := own_shape h.ol.lr.row
  subst hsv
  have hp1 := pk_nonneg a 1001 (by omega)
  have hp2 := pk_lt a 1001 (by omega)
  obtain ⟨n, hn⟩ : ∃ n, n = pk a 1001 := ⟨_, rfl⟩
  have HPK : Hid (∀ W, Calls Tryz.prog 14 #[.int .i64 a, .int .i64 1001] W fun e w' => e = .returned (.int .i64 n) ∧ w' = W) := fun W => by
    rw [hn]
    exact pick_any a 1001 W ha.1 ha.2 (by omega) (by omega)
  rw [← hn] at hp1 hp2
  clear h hW hbb ha hn
  go_enter Tryz.func32, Tryz.ntmps32
  go_wp2_with fail
  refine (HH.out _ (HT1.out _)).mono ?_
  rintro e w2 ⟨s, rfl, hs, ht2⟩
  have HT2 : Hid (Tch [] w w2) := (HT1.out _).trans ht2 (by simp)
  have b0 : w2.heap[w.heap.size]? = some (.cells #[.int .i64 4, .int .i64 a, .int .i64 bb, .string s1, .string s2, .string s3] 33 (0, 0)) := (ht2.block _ (lt_of_block (heap_alloc_new _ _)) (by simp)).trans (heap_alloc_new _ _)
  have HB0 : Hid (∀ w', Tch [] w2 w' → w'.heap[w.heap.size]? = some (.cells #[.int .i64 4, .int .i64 a, .int .i64 bb, .string s1, .string s2, .string s3] 33 (0, 0))) := fun w' ht => (ht.block _ (lt_of_block b0) (by simp)).trans b0
  clear HH HT1 ht2
  rcases hs with rfl | ⟨p, hp, rfl⟩
  · go_wp2_with fail
    go_ret
    exact ⟨rfl, Q, ss, HO.out _ HT2.out, by omega⟩
  · have hpk := HPR.out.2.1.pok p hp
    have hnx := HPR.out.1.nx
    have hs8 := hB_size p
    have hne : (hB p).toList.isEmpty = false := by
      cases he : (hB p).toList.isEmpty with
      | false => rfl
      | true =>
        have := (empty_iff _).1 he
        rw [this] at hs8
        exact absurd hs8 (by decide)
    have HSQ : Hid (∀ W, Calls Tryz.prog 26 #[.string (hB p)] W fun e w' => e = .returned (.int .i64 (p.1 : Int)) ∧ w' = W) := fun W => seq_any 97 p.1 p.2 (by omega) W
    have HFD : Hid (∀ W, Tch [] w W → Calls Tryz.prog 37 #[.pointer (some ⟨lb, 0, none⟩), .int .i64 (p.1 : Int)] W fun e w' => e = .returned (.int .i64 (idxL (fun m => m.num == (p.1 : Int)) ss)) ∧ w' = W) := fun W ht => find_g lb x cq now _ tv ss _ (p.1 : Int) W (HO.out W ht).ol.lr (by omega)
    have HLT : Hid (∀ W, Tch [] w W → Calls Tryz.prog 57 #[.pointer (some ⟨lb, 0, none⟩), .string (hB p)] W fun e w' => e = .returned (.bool ((lastB ps p.1).toList == (hB p).toList)) ∧ w' = W) := fun W ht => latest_g lb x cq now _ tv ss ps p W (HO.out W ht).ol.lr (by omega) (fun q hq => by have := HPR.out.2.1.pok q hq; omega) (by omega)
    have HAK : Hid (∀ W, Tch [] w W → Calls Tryz.prog 18 #[.pointer (some ⟨x, 0, none⟩), .agg #[.int .u8 69, .int .u8 0, .int .u8 0, .int .i64 0, .int .i64 0, .int .i64 0, .int .i64 0, .int .i64 0, .int .i64 n, .string ⟨#[]⟩, .string ⟨#[]⟩, .string ⟨#[]⟩, .string ⟨#[]⟩, .string (hB p), .slice none 0 0]] W fun e w' => if fliesQ Q p.1 p.2 = true then e = .returned (.string ⟨#[0]⟩) ∧ OL B w0 w' x st b lb now (extC (oneC Q) 0 Q p.1 now n) cq (.slice sa ss.length sc) tv ss (ps.map hB) ∧ ∀ (k : Nat) (C : Array Value) (t : TypeId), t = 27 ∨ t = 33 → W.heap[k]? = some (.cells C t (0, 0)) → w'.heap[k]? = some (.cells C t (0, 0)) else e = .returned (.string ⟨#[8]⟩) ∧ OL B w0 w' x st b lb now (oneC Q) cq (.slice sa ss.length sc) tv ss (ps.map hB) ∧ ∀ (k : Nat) (C : Array Value) (t : TypeId), t = 27 ∨ t = 33 → W.heap[k]? = some (.cells C t (0, 0)) → w'.heap[k]? = some (.cells C t (0, 0))) := fun W ht => ask_E (HO.out W ht) hp n ⟨hp1, by omega⟩
    go_wp2_with fail
    refine (HSQ.out _).mono ?_
    rintro e w' ⟨rfl, h2'⟩
    have h2s := h2'.symm
    subst h2s
    go_wp2_with fail
    refine (HFD.out _ HT2.out).mono ?_
    rintro e w' ⟨rfl, h2'⟩
    have h2s := h2'.symm
    subst h2s
    go_wp2_with fail
    refine (HLT.out _ HT2.out).mono ?_
    rintro e w' ⟨rfl, h2'⟩
    have h2s := h2'.symm
    subst h2s
    clear HSQ HFD HLT
    cases hfl : fliesQ Q p.1 p.2 with
    | true =>
      obtain ⟨i, hi, m, hix, hsf, hsg, hsn, hla, hm, hmn, hmt, hfd⟩ := live_yes HPR.out.1 HPR.out.2.1 hfl
      rw [hix, hla]
      have hO2 := HO.out _ HT2.out
      obtain ⟨g, hsa, lg, hc⟩ := hO2.ol.lr.sc i hi
      subst hsa
      have d17 := hO2.ol.lr.c17
      have e3 : w2.cell? ⟨g, i * 6 + 3, none⟩ = some (.bool true) := by
        have h1 := hc 3 (.bool ss[i].fl) rfl
        rw [hsf] at h1
        exact h1
      have d0 := hO2.ol.lr.c0
      have l2 := hO2.ol.lr.lt
      have c33 : w2.cell? ⟨w.heap.size, 0, none⟩ = some (.int .i64 4) := cell_qC b0 0 _ rfl
      have lb0 := lt_of_block b0
      have c31 : w2.cell? ⟨w.heap.size, 1, none⟩ = some (.int .i64 a) := cell_qC b0 1 _ rfl
      obtain ⟨W3, hW3⟩ : ∃ W3, W3 = w2.alloc (.cells #[.int .u8 69, .int .u8 0, .int .u8 0, .int .i64 0, .int .i64 0, .int .i64 0, .int .i64 0, .int .i64 0, .int .i64 n, .string ⟨#[]⟩, .string ⟨#[]⟩, .string ⟨#[]⟩, .string ⟨#[]⟩, .string (hB p), .slice none 0 0] 27) := ⟨_, rfl⟩
      have hbx : W3.heap[w2.heap.size]? = some (.cells #[.int .u8 69, .int .u8 0, .int .u8 0, .int .i64 0, .int .i64 0, .int .i64 0, .int .i64 0, .int .i64 0, .int .i64 n, .string ⟨#[]⟩, .string ⟨#[]⟩, .string ⟨#[]⟩, .string ⟨#[]⟩, .string (hB p), .slice none 0 0] 27 (0, 0)) := by rw [hW3]; exact heap_alloc_new _ _
      have t23 : Tch [] w2 W3 := by rw [hW3]; exact (Tch.refl _ _).alloc _
      have HC : Hid (Calls Tryz.prog 18 #[.pointer (some ⟨x, 0, none⟩), .agg #[.int .u8 69, .int .u8 0, .int .u8 0, .int .i64 0, .int .i64 0, .int .i64 0, .int .i64 0, .int .i64 0, .int .i64 n, .string ⟨#[]⟩, .string ⟨#[]⟩, .string ⟨#[]⟩, .string ⟨#[]⟩, .string (hB p), .slice none 0 0]] W3.drew fun e w3 => e = .returned (.string ⟨#[0]⟩) ∧ OL B w0 w3 x st b lb now (extC (oneC Q) 0 Q p.1 now n) cq (.slice (some ⟨g, 0, none⟩) ss.length sc) tv ss (ps.map hB) ∧ w3.heap[w2.heap.size]? = some (.cells #[.int .u8 69, .int .u8 0, .int .u8 0, .int .i64 0, .int .i64 0, .int .i64 0, .int .i64 0, .int .i64 0, .int .i64 n, .string ⟨#[]⟩, .string ⟨#[]⟩, .string ⟨#[]⟩, .string ⟨#[]⟩, .string (hB p), .slice none 0 0] 27 (0, 0)) ∧ w3.heap[w.heap.size]? = some (.cells #[.int .i64 4, .int .i64 a, .int .i64 bb, .string s1, .string s2, .string s3] 33 (0, 0))) := by
        refine (HAK.out W3.drew ((HT2.out.trans t23 (by simp)).drew)).mono ?_
        intro e w3 hh
        revert hh
        rw [if_pos hfl]
        rintro ⟨he, hol, hkp⟩
        exact ⟨he, hol, hkp _ _ 27 (.inl rfl) hbx, hkp _ _ 33 (.inr rfl) (HB0.out _ t23.drew)⟩
      have r0 : W3.cell? ⟨lb, 0, none⟩ = some (.pointer (some ⟨x, 0, none⟩)) := (t23.cell (a := ⟨lb, 0, none⟩) l2 (by simp)).trans d0
      have r33 : W3.cell? ⟨w.heap.size, 0, none⟩ = some (.int .i64 4) := (t23.cell (a := ⟨w.heap.size, 0, none⟩) lb0 (by simp)).trans c33
      have lW := lt_of_block hbx
      have lW2 : lb < W3.heap.size := World.block_lt_of_cell? _ _ r0
      have lW3 : w.heap.size < W3.heap.size := World.block_lt_of_cell? _ _ r33
      have q0 : W3.cell? ⟨w2.heap.size, 0, none⟩ = some (.int .u8 69) := cell_qC hbx 0 _ rfl
      have q1 : W3.cell? ⟨w2.heap.size, 1, none⟩ = some (.int .u8 0) := cell_qC hbx 1 _ rfl
      have q2 : W3.cell? ⟨w2.heap.size, 2, none⟩ = some (.int .u8 0) := cell_qC hbx 2 _ rfl
      have q3 : W3.cell? ⟨w2.heap.size, 3, none⟩ = some (.int .i64 0) := cell_qC hbx 3 _ rfl
      have q4 : W3.cell? ⟨w2.heap.size, 4, none⟩ = some (.int .i64 0) := cell_qC hbx 4 _ rfl
      have q5 : W3.cell? ⟨w2.heap.size, 5, none⟩ = some (.int .i64 0) := cell_qC hbx 5 _ rfl
      have q6 : W3.cell? ⟨w2.heap.size, 6, none⟩ = some (.int .i64 0) := cell_qC hbx 6 _ rfl
      have q7 : W3.cell? ⟨w2.heap.size, 7, none⟩ = some (.int .i64 0) := cell_qC hbx 7 _ rfl
      have q8 : W3.cell? ⟨w2.heap.size, 8, none⟩ = some (.int .i64 n) := cell_qC hbx 8 _ rfl
      have q9 : W3.cell? ⟨w2.heap.size, 9, none⟩ = some (.string ⟨#[]⟩) := cell_qC hbx 9 _ rfl
      have q10 : W3.cell? ⟨w2.heap.size, 10, none⟩ = some (.string ⟨#[]⟩) := cell_qC hbx 10 _ rfl
      have q11 : W3.cell? ⟨w2.heap.size, 11, none⟩ = some (.string ⟨#[]⟩) := cell_qC hbx 11 _ rfl
      have q12 : W3.cell? ⟨w2.heap.size, 12, none⟩ = some (.string ⟨#[]⟩) := cell_qC hbx 12 _ rfl
      have q13 : W3.cell? ⟨w2.heap.size, 13, none⟩ = some (.string (hB p)) := cell_qC hbx 13 _ rfl
      have q14 : W3.cell? ⟨w2.heap.size, 14, none⟩ = some (.slice none 0 0) := cell_qC hbx 14 _ rfl
      have hiI : (0 : Int) ≤ (i : Int) := by omega
      have hilI : (i : Int) < (ss.length : Int) := by omega
      clear hc hO2 HAK HO
      go_wp2_with fail
      refine (HPK.out _).mono ?_
      rintro e w' ⟨rfl, h2'⟩
      have h2s := h2'.symm
      subst h2s
      clear HPK
      go_wp2_with fail
      rw [← hW3]
      clear hW3
      go_region_held3 (fun w' => w'.cell? ⟨lb, 0, none⟩ = some (.pointer (some ⟨x, 0, none⟩)) ∧ w'.cell? ⟨w2.heap.size, 0, none⟩ = some (.int .u8 69) ∧ w'.cell? ⟨w2.heap.size, 1, none⟩ = some (.int .u8 0) ∧ w'.cell? ⟨w2.heap.size, 2, none⟩ = some (.int .u8 0) ∧ w'.cell? ⟨w2.heap.size, 3, none⟩ = some (.int .i64 0) ∧ w'.cell? ⟨w2.heap.size, 4, none⟩ = some (.int .i64 0) ∧ w'.cell? ⟨w2.heap.size, 5, none⟩ = some (.int .i64 0) ∧ w'.cell? ⟨w2.heap.size, 6, none⟩ = some (.int .i64 0) ∧ w'.cell? ⟨w2.heap.size, 7, none⟩ = some (.int .i64 0) ∧ w'.cell? ⟨w2.heap.size, 8, none⟩ = some (.int .i64 n) ∧ w'.cell? ⟨w2.heap.size, 9, none⟩ = some (.string ⟨#[]⟩) ∧ w'.cell? ⟨w2.heap.size, 10, none⟩ = some (.string ⟨#[]⟩) ∧ w'.cell? ⟨w2.heap.size, 11, none⟩ = some (.string ⟨#[]⟩) ∧ w'.cell? ⟨w2.heap.size, 12, none⟩ = some (.string ⟨#[]⟩) ∧ w'.cell? ⟨w2.heap.size, 13, none⟩ = some (.string (hB p)) ∧ w'.cell? ⟨w2.heap.size, 14, none⟩ = some (.slice none 0 0)) (go_keep) (first | (go_at_call 18; refine HC.out.mono ?_; rintro e w3 ⟨rfl, hl3, hbx3, hst3⟩; have kl := hl3.lr.c0; have k0 := cell_qC hbx3 0 (.int .u8 69) rfl; have k1 := cell_qC hbx3 1 (.int .u8 0) rfl; have k2 := cell_qC hbx3 2 (.int .u8 0) rfl; have k3 := cell_qC hbx3 3 (.int .i64 0) rfl; have k4 := cell_qC hbx3 4 (.int .i64 0) rfl; have k5 := cell_qC hbx3 5 (.int .i64 0) rfl; have k6 := cell_qC hbx3 6 (.int .i64 0) rfl; have k7 := cell_qC hbx3 7 (.int .i64 0) rfl; have k8 := cell_qC hbx3 8 (.int .i64 n) rfl; have k9 := cell_qC hbx3 9 (.string ⟨#[]⟩) rfl; have k10 := cell_qC hbx3 10 (.string ⟨#[]⟩) rfl; have k11 := cell_qC hbx3 11 (.string ⟨#[]⟩) rfl; have k12 := cell_qC hbx3 12 (.string ⟨#[]⟩) rfl; have k13 := cell_qC hbx3 13 (.string (hB p)) rfl; have k14 := cell_qC hbx3 14 (.slice none 0 0) rfl))
      all_goals
        obtain ⟨g', hsa', lg3, hc3⟩ := hl3.lr.sc i hi
        simp only [Option.some.injEq, Addr.mk.injEq, and_true] at hsa'
        subst hsa'
        obtain ⟨C3, hC3⟩ := hl3.lr.rowB
        have n33 : w3.cell? ⟨w.heap.size, 0, none⟩ = some (.int .i64 4) := cell_qC hst3 0 _ rfl
        have n17 := hl3.lr.c17
        have n16 := hl3.lr.c16
        have n3 : w3.cell? ⟨g, i * 6 + 3, none⟩ = some (.bool ss[i].fl) := hc3 3 _ rfl
        have z3 : w3.frozen? ⟨g, i * 6 + 3, none⟩ = false := frozen_of_row w3 _ _ _ 53 hC3
        have n4 : w3.cell? ⟨g, i * 6 + 4, none⟩ = some (.int .i64 ss[i].til) := hc3 4 _ rfl
        have z4 : w3.frozen? ⟨g, i * 6 + 4, none⟩ = false := frozen_of_row w3 _ _ _ 53 hC3
        have l3 := hl3.lr.lt
        by_cases hn0 : n = 0
        · subst hn0
          have HE : Hid (∃ Q' ss', OP B w0 (w3.setCell ⟨g, i * 6 + 3, none⟩ (.bool false)) x st b lb now cq Q' (.slice (some ⟨g, 0, none⟩) ss.length sc) tv ss' ps ∧ flyCnt Q ≤ flyCnt Q' + 1) := ext_zero HPR.out.1 HPR.out.2.1 HPR.out.2.2 hl3 hi hsn hsg hm hmn hfd
          clear hc3 hC3 hl3 hbx3 hst3
          go_wp2_with fail
          go_ret
          exact ⟨rfl, HE.out⟩
        · have hw1 : IntKind.i64.wrap (now + n) = now + n := by rw [IntKind.wrap_i64]; omega
          have hE0 := ext_some HPR.out.1 HPR.out.2.1 HPR.out.2.2 hl3 hi hsn hsg hsf hm hmn hmt hfd hn0 (by omega)
          have HE : Hid (∃ Q' ss', OP B w0 (w3.setCell ⟨g, i * 6 + 4, none⟩ (.int .i64 (now + n))).drew x st b lb now cq Q' (.slice (some ⟨g, 0, none⟩) ss.length sc) tv ss' ps ∧ flyCnt Q ≤ flyCnt Q' + 1) := by
            obtain ⟨Q', ss', ho, hfc⟩ := hE0
            exact ⟨Q', ss', ho.tch (Tch.refl [] _).drew, hfc⟩
          have n8 : w3.cell? ⟨w2.heap.size, 8, none⟩ = some (.int .i64 n) := cell_qC hbx3 8 _ rfl
          have lw2 := lt_of_block hbx3
          have hgb : w2.heap.size ≠ g := fun e => by
            rw [← e, hbx3] at hC3
            simp at hC3
          have hgl : lb ≠ g := fun e => by
            have h1 := hl3.lr.ln
            rw [e, hC3] at h1
            simp at h1
          have hE1 := hE0
          have t34 : Tch [g] w3 (w3.setCell ⟨g, i * 6 + 4, none⟩ (.int .i64 (now + n))).drew := ((Tch.refl _ _).setCell (fun _ => by simp) _).drew
          have y17 : (w3.setCell ⟨g, i * 6 + 4, none⟩ (.int .i64 (now + n))).drew.cell? ⟨lb, 17, none⟩ = some (.slice (some ⟨g, 0, none⟩) ss.length sc) := (t34.cell (a := ⟨lb, 17, none⟩) l3 (by simpa using hgl)).trans n17
          have y16 : (w3.setCell ⟨g, i * 6 + 4, none⟩ (.int .i64 (now + n))).drew.cell? ⟨lb, 16, none⟩ = some (.int .i64 now) := (t34.cell (a := ⟨lb, 16, none⟩) l3 (by simpa using hgl)).trans n16
          have y8 : (w3.setCell ⟨g, i * 6 + 4, none⟩ (.int .i64 (now + n))).drew.cell? ⟨w2.heap.size, 8, none⟩ = some (.int .i64 n) := (t34.cell (a := ⟨w2.heap.size, 8, none⟩) lw2 (by simpa using hgb)).trans n8
          have hnz : (n == 0) = false := beq_eq_false_iff_ne.2 hn0
          clear hc3 hC3 hl3 hbx3 hst3 hE0 hE1 t34
          go_wp2_with fail
          go_region_held3 (fun w' => w'.cell? ⟨lb, 17, none⟩ = some (.slice (some ⟨g, 0, none⟩) ss.length sc) ∧ w'.cell? ⟨lb, 16, none⟩ = some (.int .i64 now) ∧ w'.cell? ⟨w2.heap.size, 8, none⟩ = some (.int .i64 n)) (go_keep) (fail)
          all_goals (go_wp2_with fail; go_ret; exact ⟨rfl, HE.out⟩)
    | false =>
      rcases live_no HPR.out.1 HPR.out.2.1 hp hfl with hneg | ⟨i, hi, hix, hor⟩
      · have hO2 := HO.out _ HT2.out
        generalize idxL (fun m : Sn => m.num == (p.1 : Int)) ss = zi at *
        have hng : ¬ ((0 : Int) ≤ zi) := by omega
        have d0 := hO2.ol.lr.c0
        have l2 := hO2.ol.lr.lt
        have c33 : w2.cell? ⟨w.heap.size, 0, none⟩ = some (.int .i64 4) := cell_qC b0 0 _ rfl
        have lb0 := lt_of_block b0
        have c31 : w2.cell? ⟨w.heap.size, 1, none⟩ = some (.int .i64 a) := cell_qC b0 1 _ rfl
        obtain ⟨W3, hW3⟩ : ∃ W3, W3 = w2.alloc (.cells #[.int .u8 69, .int .u8 0, .int .u8 0, .int .i64 0, .int .i64 0, .int .i64 0, .int .i64 0, .int .i64 0, .int .i64 n, .string ⟨#[]⟩, .string ⟨#[]⟩, .string ⟨#[]⟩, .string ⟨#[]⟩, .string (hB p), .slice none 0 0] 27) := ⟨_, rfl⟩
        have hbx : W3.heap[w2.heap.size]? = some (.cells #[.int .u8 69, .int .u8 0, .int .u8 0, .int .i64 0, .int .i64 0, .int .i64 0, .int .i64 0, .int .i64 0, .int .i64 n, .string ⟨#[]⟩, .string ⟨#[]⟩, .string ⟨#[]⟩, .string ⟨#[]⟩, .string (hB p), .slice none 0 0] 27 (0, 0)) := by rw [hW3]; exact heap_alloc_new _ _
        have t23 : Tch [] w2 W3 := by rw [hW3]; exact (Tch.refl _ _).alloc _
        have HC : Hid (Calls Tryz.prog 18 #[.pointer (some ⟨x, 0, none⟩), .agg #[.int .u8 69, .int .u8 0, .int .u8 0, .int .i64 0, .int .i64 0, .int .i64 0, .int .i64 0, .int .i64 0, .int .i64 n, .string ⟨#[]⟩, .string ⟨#[]⟩, .string ⟨#[]⟩, .string ⟨#[]⟩, .string (hB p), .slice none 0 0]] W3.drew fun e w3 => e = .returned (.string ⟨#[8]⟩) ∧ OL B w0 w3 x st b lb now (oneC Q) cq (.slice sa ss.length sc) tv ss (ps.map hB) ∧ w3.heap[w2.heap.size]? = some (.cells #[.int .u8 69, .int .u8 0, .int .u8 0, .int .i64 0, .int .i64 0, .int .i64 0, .int .i64 0, .int .i64 0, .int .i64 n, .string ⟨#[]⟩, .string ⟨#[]⟩, .string ⟨#[]⟩, .string ⟨#[]⟩, .string (hB p), .slice none 0 0] 27 (0, 0)) ∧ w3.heap[w.heap.size]? = some (.cells #[.int .i64 4, .int .i64 a, .int .i64 bb, .string s1, .string s2, .string s3] 33 (0, 0))) := by
          refine (HAK.out W3.drew ((HT2.out.trans t23 (by simp)).drew)).mono ?_
          intro e w3 hh
          revert hh
          rw [if_neg (by rw [hfl]; simp)]
          rintro ⟨he, hol, hkp⟩
          exact ⟨he, hol, hkp _ _ 27 (.inl rfl) hbx, hkp _ _ 33 (.inr rfl) (HB0.out _ t23.drew)⟩
        have r0 : W3.cell? ⟨lb, 0, none⟩ = some (.pointer (some ⟨x, 0, none⟩)) := (t23.cell (a := ⟨lb, 0, none⟩) l2 (by simp)).trans d0
        have r33 : W3.cell? ⟨w.heap.size, 0, none⟩ = some (.int .i64 4) := (t23.cell (a := ⟨w.heap.size, 0, none⟩) lb0 (by simp)).trans c33
        have lW := lt_of_block hbx
        have lW2 : lb < W3.heap.size := World.block_lt_of_cell? _ _ r0
        have lW3 : w.heap.size < W3.heap.size := World.block_lt_of_cell? _ _ r33
        have q0 : W3.cell? ⟨w2.heap.size, 0, none⟩ = some (.int .u8 69) := cell_qC hbx 0 _ rfl
        have q1 : W3.cell? ⟨w2.heap.size, 1, none⟩ = some (.int .u8 0) := cell_qC hbx 1 _ rfl
        have q2 : W3.cell? ⟨w2.heap.size, 2, none⟩ = some (.int .u8 0) := cell_qC hbx 2 _ rfl
        have q3 : W3.cell? ⟨w2.heap.size, 3, none⟩ = some (.int .i64 0) := cell_qC hbx 3 _ rfl
        have q4 : W3.cell? ⟨w2.heap.size, 4, none⟩ = some (.int .i64 0) := cell_qC hbx 4 _ rfl
        have q5 : W3.cell? ⟨w2.heap.size, 5, none⟩ = some (.int .i64 0) := cell_qC hbx 5 _ rfl
        have q6 : W3.cell? ⟨w2.heap.size, 6, none⟩ = some (.int .i64 0) := cell_qC hbx 6 _ rfl
        have q7 : W3.cell? ⟨w2.heap.size, 7, none⟩ = some (.int .i64 0) := cell_qC hbx 7 _ rfl
        have q8 : W3.cell? ⟨w2.heap.size, 8, none⟩ = some (.int .i64 n) := cell_qC hbx 8 _ rfl
        have q9 : W3.cell? ⟨w2.heap.size, 9, none⟩ = some (.string ⟨#[]⟩) := cell_qC hbx 9 _ rfl
        have q10 : W3.cell? ⟨w2.heap.size, 10, none⟩ = some (.string ⟨#[]⟩) := cell_qC hbx 10 _ rfl
        have q11 : W3.cell? ⟨w2.heap.size, 11, none⟩ = some (.string ⟨#[]⟩) := cell_qC hbx 11 _ rfl
        have q12 : W3.cell? ⟨w2.heap.size, 12, none⟩ = some (.string ⟨#[]⟩) := cell_qC hbx 12 _ rfl
        have q13 : W3.cell? ⟨w2.heap.size, 13, none⟩ = some (.string (hB p)) := cell_qC hbx 13 _ rfl
        have q14 : W3.cell? ⟨w2.heap.size, 14, none⟩ = some (.slice none 0 0) := cell_qC hbx 14 _ rfl
        have HFIN : Hid (∀ w3, OL B w0 w3 x st b lb now (oneC Q) cq (.slice sa ss.length sc) tv ss (ps.map hB) → ∃ Q' ss', OP B w0 w3 x st b lb now cq Q' (.slice sa ss.length sc) tv ss' ps ∧ flyCnt Q ≤ flyCnt Q' + 1) := fun w3 ho => ⟨Q, ss, ⟨ho, HPR.out.2.1, HPR.out.2.2⟩, by omega⟩
        clear hO2 HAK HO
        go_wp2_with fail
        refine (HPK.out _).mono ?_
        rintro e w' ⟨rfl, h2'⟩
        have h2s := h2'.symm
        subst h2s
        clear HPK
        go_wp2_with fail
        rw [← hW3]
        clear hW3
        go_region_held3 (fun w' => w'.cell? ⟨lb, 0, none⟩ = some (.pointer (some ⟨x, 0, none⟩)) ∧ w'.cell? ⟨w2.heap.size, 0, none⟩ = some (.int .u8 69) ∧ w'.cell? ⟨w2.heap.size, 1, none⟩ = some (.int .u8 0) ∧ w'.cell? ⟨w2.heap.size, 2, none⟩ = some (.int .u8 0) ∧ w'.cell? ⟨w2.heap.size, 3, none⟩ = some (.int .i64 0) ∧ w'.cell? ⟨w2.heap.size, 4, none⟩ = some (.int .i64 0) ∧ w'.cell? ⟨w2.heap.size, 5, none⟩ = some (.int .i64 0) ∧ w'.cell? ⟨w2.heap.size, 6, none⟩ = some (.int .i64 0) ∧ w'.cell? ⟨w2.heap.size, 7, none⟩ = some (.int .i64 0) ∧ w'.cell? ⟨w2.heap.size, 8, none⟩ = some (.int .i64 n) ∧ w'.cell? ⟨w2.heap.size, 9, none⟩ = some (.string ⟨#[]⟩) ∧ w'.cell? ⟨w2.heap.size, 10, none⟩ = some (.string ⟨#[]⟩) ∧ w'.cell? ⟨w2.heap.size, 11, none⟩ = some (.string ⟨#[]⟩) ∧ w'.cell? ⟨w2.heap.size, 12, none⟩ = some (.string ⟨#[]⟩) ∧ w'.cell? ⟨w2.heap.size, 13, none⟩ = some (.string (hB p)) ∧ w'.cell? ⟨w2.heap.size, 14, none⟩ = some (.slice none 0 0)) (go_keep) (first | (go_at_call 18; refine HC.out.mono ?_; rintro e w3 ⟨rfl, hl3, hbx3, hst3⟩; have kl := hl3.lr.c0; have k0 := cell_qC hbx3 0 (.int .u8 69) rfl; have k1 := cell_qC hbx3 1 (.int .u8 0) rfl; have k2 := cell_qC hbx3 2 (.int .u8 0) rfl; have k3 := cell_qC hbx3 3 (.int .i64 0) rfl; have k4 := cell_qC hbx3 4 (.int .i64 0) rfl; have k5 := cell_qC hbx3 5 (.int .i64 0) rfl; have k6 := cell_qC hbx3 6 (.int .i64 0) rfl; have k7 := cell_qC hbx3 7 (.int .i64 0) rfl; have k8 := cell_qC hbx3 8 (.int .i64 n) rfl; have k9 := cell_qC hbx3 9 (.string ⟨#[]⟩) rfl; have k10 := cell_qC hbx3 10 (.string ⟨#[]⟩) rfl; have k11 := cell_qC hbx3 11 (.string ⟨#[]⟩) rfl; have k12 := cell_qC hbx3 12 (.string ⟨#[]⟩) rfl; have k13 := cell_qC hbx3 13 (.string (hB p)) rfl; have k14 := cell_qC hbx3 14 (.slice none 0 0) rfl))
        all_goals
          have HE : Hid (∃ Q' ss', OP B w0 w3 x st b lb now cq Q' (.slice sa ss.length sc) tv ss' ps ∧ flyCnt Q ≤ flyCnt Q' + 1) := HFIN.out w3 hl3
          clear hl3 hbx3 hst3 HFIN
          go_wp2_with fail
          go_ret
          exact ⟨rfl, HE.out⟩
      · have hO2 := HO.out _ HT2.out
        rw [hix]
        obtain ⟨g, hsa, lg, hc⟩ := hO2.ol.lr.sc i hi
        have d17 := hO2.ol.lr.c17
        have e3 : w2.cell? ⟨g, i * 6 + 3, none⟩ = some (.bool ss[i].fl) := hc 3 (.bool ss[i].fl) rfl
        rw [hsa] at d17
        have hiI : (0 : Int) ≤ (i : Int) := by omega
        have hilI : (i : Int) < (ss.length : Int) := by omega
        obtain ⟨lv, hlv⟩ : ∃ lv, lv = ((lastB ps p.1).toList == (hB p).toList) := ⟨_, rfl⟩
        rw [← hlv]
        rw [← hlv] at hor
        clear hc hlv
        generalize ss[i].fl = sf at *
        rcases hor with rfl | ⟨rfl, rfl⟩
        all_goals
          have d0 := hO2.ol.lr.c0
          have l2 := hO2.ol.lr.lt
          have c33 : w2.cell? ⟨w.heap.size, 0, none⟩ = some (.int .i64 4) := cell_qC b0 0 _ rfl
          have lb0 := lt_of_block b0
          have c31 : w2.cell? ⟨w.heap.size, 1, none⟩ = some (.int .i64 a) := cell_qC b0 1 _ rfl
          obtain ⟨W3, hW3⟩ : ∃ W3, W3 = w2.alloc (.cells #[.int .u8 69, .int .u8 0, .int .u8 0, .int .i64 0, .int .i64 0, .int .i64 0, .int .i64 0, .int .i64 0, .int .i64 n, .string ⟨#[]⟩, .string ⟨#[]⟩, .string ⟨#[]⟩, .string ⟨#[]⟩, .string (hB p), .slice none 0 0] 27) := ⟨_, rfl⟩
          have hbx : W3.heap[w2.heap.size]? = some (.cells #[.int .u8 69, .int .u8 0, .int .u8 0, .int .i64 0, .int .i64 0, .int .i64 0, .int .i64 0, .int .i64 0, .int .i64 n, .string ⟨#[]⟩, .string ⟨#[]⟩, .string ⟨#[]⟩, .string ⟨#[]⟩, .string (hB p), .slice none 0 0] 27 (0, 0)) := by rw [hW3]; exact heap_alloc_new _ _
          have t23 : Tch [] w2 W3 := by rw [hW3]; exact (Tch.refl _ _).alloc _
          have HC : Hid (Calls Tryz.prog 18 #[.pointer (some ⟨x, 0, none⟩), .agg #[.int .u8 69, .int .u8 0, .int .u8 0, .int .i64 0, .int .i64 0, .int .i64 0, .int .i64 0, .int .i64 0, .int .i64 n, .string ⟨#[]⟩, .string ⟨#[]⟩, .string ⟨#[]⟩, .string ⟨#[]⟩, .string (hB p), .slice none 0 0]] W3.drew fun e w3 => e = .returned (.string ⟨#[8]⟩) ∧ OL B w0 w3 x st b lb now (oneC Q) cq (.slice sa ss.length sc) tv ss (ps.map hB) ∧ w3.heap[w2.heap.size]? = some (.cells #[.int .u8 69, .int .u8 0, .int .u8 0, .int .i64 0, .int .i64 0, .int .i64 0, .int .i64 0, .int .i64 0, .int .i64 n, .string ⟨#[]⟩, .string ⟨#[]⟩, .string ⟨#[]⟩, .string ⟨#[]⟩, .string (hB p), .slice none 0 0] 27 (0, 0)) ∧ w3.heap[w.heap.size]? = some (.cells #[.int .i64 4, .int .i64 a, .int .i64 bb, .string s1, .string s2, .string s3] 33 (0, 0))) := by
            refine (HAK.out W3.drew ((HT2.out.trans t23 (by simp)).drew)).mono ?_
            intro e w3 hh
            revert hh
            rw [if_neg (by rw [hfl]; simp)]
            rintro ⟨he, hol, hkp⟩
            exact ⟨he, hol, hkp _ _ 27 (.inl rfl) hbx, hkp _ _ 33 (.inr rfl) (HB0.out _ t23.drew)⟩
          have r0 : W3.cell? ⟨lb, 0, none⟩ = some (.pointer (some ⟨x, 0, none⟩)) := (t23.cell (a := ⟨lb, 0, none⟩) l2 (by simp)).trans d0
          have r33 : W3.cell? ⟨w.heap.size, 0, none⟩ = some (.int .i64 4) := (t23.cell (a := ⟨w.heap.size, 0, none⟩) lb0 (by simp)).trans c33
          have lW := lt_of_block hbx
          have lW2 : lb < W3.heap.size := World.block_lt_of_cell? _ _ r0
          have lW3 : w.heap.size < W3.heap.size := World.block_lt_of_cell? _ _ r33
          have q0 : W3.cell? ⟨w2.heap.size, 0, none⟩ = some (.int .u8 69) := cell_qC hbx 0 _ rfl
          have q1 : W3.cell? ⟨w2.heap.size, 1, none⟩ = some (.int .u8 0) := cell_qC hbx 1 _ rfl
          have q2 : W3.cell? ⟨w2.heap.size, 2, none⟩ = some (.int .u8 0) := cell_qC hbx 2 _ rfl
          have q3 : W3.cell? ⟨w2.heap.size, 3, none⟩ = some (.int .i64 0) := cell_qC hbx 3 _ rfl
          have q4 : W3.cell? ⟨w2.heap.size, 4, none⟩ = some (.int .i64 0) := cell_qC hbx 4 _ rfl
          have q5 : W3.cell? ⟨w2.heap.size, 5, none⟩ = some (.int .i64 0) := cell_qC hbx 5 _ rfl
          have q6 : W3.cell? ⟨w2.heap.size, 6, none⟩ = some (.int .i64 0) := cell_qC hbx 6 _ rfl
          have q7 : W3.cell? ⟨w2.heap.size, 7, none⟩ = some (.int .i64 0) := cell_qC hbx 7 _ rfl
          have q8 : W3.cell? ⟨w2.heap.size, 8, none⟩ = some (.int .i64 n) := cell_qC hbx 8 _ rfl
          have q9 : W3.cell? ⟨w2.heap.size, 9, none⟩ = some (.string ⟨#[]⟩) := cell_qC hbx 9 _ rfl
          have q10 : W3.cell? ⟨w2.heap.size, 10, none⟩ = some (.string ⟨#[]⟩) := cell_qC hbx 10 _ rfl
          have q11 : W3.cell? ⟨w2.heap.size, 11, none⟩ = some (.string ⟨#[]⟩) := cell_qC hbx 11 _ rfl
          have q12 : W3.cell? ⟨w2.heap.size, 12, none⟩ = some (.string ⟨#[]⟩) := cell_qC hbx 12 _ rfl
          have q13 : W3.cell? ⟨w2.heap.size, 13, none⟩ = some (.string (hB p)) := cell_qC hbx 13 _ rfl
          have q14 : W3.cell? ⟨w2.heap.size, 14, none⟩ = some (.slice none 0 0) := cell_qC hbx 14 _ rfl
          have HFIN : Hid (∀ w3, OL B w0 w3 x st b lb now (oneC Q) cq (.slice sa ss.length sc) tv ss (ps.map hB) → ∃ Q' ss', OP B w0 w3 x st b lb now cq Q' (.slice sa ss.length sc) tv ss' ps ∧ flyCnt Q ≤ flyCnt Q' + 1) := fun w3 ho => ⟨Q, ss, ⟨ho, HPR.out.2.1, HPR.out.2.2⟩, by omega⟩
          clear hO2 HAK HO
          go_wp2_with fail
          refine (HPK.out _).mono ?_
          rintro e w' ⟨rfl, h2'⟩
          have h2s := h2'.symm
          subst h2s
          clear HPK
          go_wp2_with fail
          rw [← hW3]
          clear hW3
          go_region_held3 (fun w' => w'.cell? ⟨lb, 0, none⟩ = some (.pointer (some ⟨x, 0, none⟩)) ∧ w'.cell? ⟨w2.heap.size, 0, none⟩ = some (.int .u8 69) ∧ w'.cell? ⟨w2.heap.size, 1, none⟩ = some (.int .u8 0) ∧ w'.cell? ⟨w2.heap.size, 2, none⟩ = some (.int .u8 0) ∧ w'.cell? ⟨w2.heap.size, 3, none⟩ = some (.int .i64 0) ∧ w'.cell? ⟨w2.heap.size, 4, none⟩ = some (.int .i64 0) ∧ w'.cell? ⟨w2.heap.size, 5, none⟩ = some (.int .i64 0) ∧ w'.cell? ⟨w2.heap.size, 6, none⟩ = some (.int .i64 0) ∧ w'.cell? ⟨w2.heap.size, 7, none⟩ = some (.int .i64 0) ∧ w'.cell? ⟨w2.heap.size, 8, none⟩ = some (.int .i64 n) ∧ w'.cell? ⟨w2.heap.size, 9, none⟩ = some (.string ⟨#[]⟩) ∧ w'.cell? ⟨w2.heap.size, 10, none⟩ = some (.string ⟨#[]⟩) ∧ w'.cell? ⟨w2.heap.size, 11, none⟩ = some (.string ⟨#[]⟩) ∧ w'.cell? ⟨w2.heap.size, 12, none⟩ = some (.string ⟨#[]⟩) ∧ w'.cell? ⟨w2.heap.size, 13, none⟩ = some (.string (hB p)) ∧ w'.cell? ⟨w2.heap.size, 14, none⟩ = some (.slice none 0 0)) (go_keep) (first | (go_at_call 18; refine HC.out.mono ?_; rintro e w3 ⟨rfl, hl3, hbx3, hst3⟩; have kl := hl3.lr.c0; have k0 := cell_qC hbx3 0 (.int .u8 69) rfl; have k1 := cell_qC hbx3 1 (.int .u8 0) rfl; have k2 := cell_qC hbx3 2 (.int .u8 0) rfl; have k3 := cell_qC hbx3 3 (.int .i64 0) rfl; have k4 := cell_qC hbx3 4 (.int .i64 0) rfl; have k5 := cell_qC hbx3 5 (.int .i64 0) rfl; have k6 := cell_qC hbx3 6 (.int .i64 0) rfl; have k7 := cell_qC hbx3 7 (.int .i64 0) rfl; have k8 := cell_qC hbx3 8 (.int .i64 n) rfl; have k9 := cell_qC hbx3 9 (.string ⟨#[]⟩) rfl; have k10 := cell_qC hbx3 10 (.string ⟨#[]⟩) rfl; have k11 := cell_qC hbx3 11 (.string ⟨#[]⟩) rfl; have k12 := cell_qC hbx3 12 (.string ⟨#[]⟩) rfl; have k13 := cell_qC hbx3 13 (.string (hB p)) rfl; have k14 := cell_qC hbx3 14 (.slice none 0 0) rfl))
          all_goals
            have HE : Hid (∃ Q' ss', OP B w0 w3 x st b lb now cq Q' (.slice sa ss.length sc) tv ss' ps ∧ flyCnt Q ≤ flyCnt Q' + 1) := HFIN.out w3 hl3
            clear hl3 hbx3 hst3 HFIN
            go_wp2_with fail
            go_ret
            exact ⟨rfl, HE.out⟩
end Go.Proofs.YtbdobaapadlcjaaGreatDoor
