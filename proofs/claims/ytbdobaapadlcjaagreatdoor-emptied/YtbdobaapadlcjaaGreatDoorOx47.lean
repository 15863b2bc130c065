import Derived.Test.YtbdobaapadlcjaaGreatDoorOx45
namespace Go.Proofs.YtbdobaapadlcjaaGreatDoor
open Go.RowKit
set_option linter.unusedVariables false
set_option linter.unusedSimpArgs false
def goneS (s : Sn) : Sn := { s with gone := true, fl := false }
theorem OP.tch {B : Nat} {w0 w w' : World} {x st b lb : Nat} {now : Int} {cq : Wp.Rq} {Q : QM} {sv tv : Value} {ss : List Sn} {ps : List (Nat × Nat)} (h : OP B w0 w x st b lb now cq Q sv tv ss ps) (ht : Tch [] w w') : OP B w0 w' x st b lb now cq Q sv tv ss ps := ⟨h.ol.tch ht, h.pr, h.cc⟩
theorem OL.two {B : Nat} {w0 w : World} {x st b lb : Nat} {now : Int} {c : Nat → Option QM} {cq : Wp.Rq} {g sc : Nat} {tv : Value} {ss : List Sn} {hs : List ByteArray} (h : OL B w0 w x st b lb now c cq (.slice (some ⟨g, 0, none⟩) ss.length sc) tv ss hs) (i : Nat) (hi : i < ss.length) :
    OL B w0 ((w.setCell ⟨g, i * 6 + 5, none⟩ (.bool true)).setCell ⟨g, i * 6 + 3, none⟩ (.bool false)) x st b lb now c cq (.slice (some ⟨g, 0, none⟩) ss.length sc) tv (ss.set i (goneS ss[i])) hs := by
  obtain ⟨L1, T1⟩ := h.lr.setS i 5 (.bool true) { ss[i] with gone := true } hi (by omega) rfl
  have hi1 : i < (ss.set i { ss[i] with gone := true }).length := by rw [List.length_set]; exact hi
  have hln1 : (ss.set i { ss[i] with gone := true }).length = ss.length := List.length_set
  rw [← hln1] at L1
  obtain ⟨L2, T2⟩ := L1.setS i 3 (.bool false) (goneS ss[i]) hi1 (by omega) (by rw [List.getElem_set_self]; rfl)
  rw [List.set_set, hln1] at L2
  obtain ⟨col, hb, h9⟩ := h.bk
  refine OL.put hb h9 h.lr h.lb h.lo h.env h.bel ?_ L2 (fun k hk => .inl hk) (fun k hk => .inl hk)
  exact (T1.sub (by intro k hk _; simp at hk; subst hk; simp [bl_slice])).trans T2 (by intro k hk _; simp at hk; subst hk; simp [bl_slice])
theorem OL.one {B : Nat} {w0 w : World} {x st b lb : Nat} {now : Int} {c : Nat → Option QM} {cq : Wp.Rq} {g sc : Nat} {tv : Value} {ss : List Sn} {hs : List ByteArray} (h : OL B w0 w x st b lb now c cq (.slice (some ⟨g, 0, none⟩) ss.length sc) tv ss hs) (i : Nat) (hi : i < ss.length) (j : Nat) (hj : j < 6) (v : Value) (s' : Sn) (hx : s'.row = (ss[i]).row.set j v) :
    OL B w0 (w.setCell ⟨g, i * 6 + j, none⟩ v) x st b lb now c cq (.slice (some ⟨g, 0, none⟩) ss.length sc) tv (ss.set i s') hs := by
  obtain ⟨L1, T1⟩ := h.lr.setS i j v s' hi hj hx
  obtain ⟨col, hb, h9⟩ := h.bk
  refine OL.put hb h9 h.lr h.lb h.lo h.env h.bel ?_ L1 (fun k hk => .inl hk) (fun k hk => .inl hk)
  exact T1.sub (by intro k hk _; simp at hk; subst hk; simp [bl_slice])
set_option maxRecDepth 8000 in
set_option maxHeartbeats 8000000 in
theorem endsA_g (B : Nat) (w0 w : World) (x st b lb : Nat) (now : Int) (cq : Wp.Rq) (Q : QM) (sv tv : Value) (ss : List Sn) (ps : List (Nat × Nat)) (a bb : Int) (s1 s2 s3 : ByteArray) (hbb : i64 bb) (hps : ps.length ≤ 3900000000000) (h : OP B w0 w x st b lb now cq Q sv tv ss ps) :
    Calls Tryz.prog 32 #[.pointer (some ⟨lb, 0, none⟩), .agg #[.int .i64 3, .int .i64 a, .int .i64 bb, .string s1, .string s2, .string s3]] w fun e w' => e = .returned (.bool true) ∧ ∃ Q' ss', OP B w0 w' x st b lb now cq Q' sv tv ss' ps ∧ flyCnt Q ≤ flyCnt Q' + 1 := by
  have hW := h.wf
  have hsl : ss.length ≤ 200 := h.pr.len hW.nx.2
  have HO : Hid (∀ W, Tch [] w W → OP B w0 W x st b lb now cq Q sv tv ss ps) := fun W ht => h.tch ht
  have HH : Hid (∀ W, Tch [] w W → Calls Tryz.prog 56 #[.pointer (some ⟨lb, 0, none⟩), .int .i64 bb] W fun e w' => ∃ s, e = .returned (.string s) ∧ (s = ⟨#[]⟩ ∨ ∃ p ∈ ps, s = hB p) ∧ Tch [] W w') := fun W ht => by
    refine (handle_g lb x cq now sv tv ss (ps.map hB) bb W (h.ol.lr.tch ht) (by rw [List.length_map]; omega) hbb).mono ?_
    rintro e w' ⟨s, rfl, hs, ht'⟩
    refine ⟨s, rfl, ?_, ht'⟩
    rcases hs with ⟨_, rfl⟩ | hs
    · exact .inl rfl
    · obtain ⟨p, hp, rfl⟩ := List.mem_map.1 hs
      exact .inr ⟨p, hp, rfl⟩
  have HT1 : Hid (∀ o, Tch [] w (w.alloc o)) := fun o => (Tch.refl [] w).alloc o
  have ll := h.ol.lr.lt
  have HPR : Hid (QW 0 Q ∧ PR now Q ss ps ∧ (Q.c.q = 97 ∧ Q.c.vis = cq.vis ∧ Q.c.win = cq.win)) := ⟨hW, h.pr, h.cc⟩
  obtain ⟨sa, sc, hsv⟩ := own_shape h.ol.lr.row
  subst hsv
  clear h hW hbb
  go_enter Tryz.func32, Tryz.ntmps32
  go_wp2_with fail
  refine (HH.out _ (HT1.out _)).mono ?_
  rintro e w2 ⟨s, rfl, hs, ht2⟩
  have HT2 : Hid (Tch [] w w2) := (HT1.out _).trans ht2 (by simp)
  have b0 : w2.heap[w.heap.size]? = some (.cells #[.int .i64 3, .int .i64 a, .int .i64 bb, .string s1, .string s2, .string s3] 33 (0, 0)) := (ht2.block _ (lt_of_block (heap_alloc_new _ _)) (by simp)).trans (heap_alloc_new _ _)
  have HB0 : Hid (∀ w', Tch [] w2 w' → w'.heap[w.heap.size]? = some (.cells #[.int .i64 3, .int .i64 a, .int .i64 bb, .string s1, .string s2, .string s3] 33 (0, 0))) := fun w' ht => (ht.block _ (lt_of_block b0) (by simp)).trans b0
  clear HH HT1 ht2
  rcases hs with rfl | ⟨p, hp, rfl⟩
  · go_wp2_with fail
    go_ret
    exact ⟨rfl, Q, ss, HO.out _ HT2.out, by omega⟩
  · have hpk := HPR.out.2.1.pok p hp
    have hnx := HPR.out.1.nx
    have hs8 := hB_size p
    have hne : (hB p).toList.isEmpty = false := by
      cases he : (hB p).toList.isEmpty with
      | false => rfl
      | true =>
        have := (empty_iff _).1 he
        rw [this] at hs8
        exact absurd hs8 (by decide)
    have HSQ : Hid (∀ W, Calls Tryz.prog 26 #[.string (hB p)] W fun e w' => e = .returned (.int .i64 (p.1 : Int)) ∧ w' = W) := fun W => seq_any 97 p.1 p.2 (by omega) W
    have HFD : Hid (∀ W, Tch [] w W → Calls Tryz.prog 37 #[.pointer (some ⟨lb, 0, none⟩), .int .i64 (p.1 : Int)] W fun e w' => e = .returned (.int .i64 (idxL (fun m => m.num == (p.1 : Int)) ss)) ∧ w' = W) := fun W ht => find_g lb x cq now _ tv ss _ (p.1 : Int) W (HO.out W ht).ol.lr (by omega)
    have HLT : Hid (∀ W, Tch [] w W → Calls Tryz.prog 57 #[.pointer (some ⟨lb, 0, none⟩), .string (hB p)] W fun e w' => e = .returned (.bool ((lastB ps p.1).toList == (hB p).toList)) ∧ w' = W) := fun W ht => latest_g lb x cq now _ tv ss ps p W (HO.out W ht).ol.lr (by omega) (fun q hq => by have := HPR.out.2.1.pok q hq; omega) (by omega)
    have HAK : Hid (∀ W, Tch [] w W → Calls Tryz.prog 18 #[.pointer (some ⟨x, 0, none⟩), .agg #[.int .u8 65, .int .u8 0, .int .u8 0, .int .i64 0, .int .i64 0, .int .i64 0, .int .i64 0, .int .i64 0, .int .i64 0, .string ⟨#[]⟩, .string ⟨#[]⟩, .string ⟨#[]⟩, .string ⟨#[]⟩, .string (hB p), .slice none 0 0]] W fun e w' => if fliesQ Q p.1 p.2 = true then e = .returned (.string ⟨#[0]⟩) ∧ OL B w0 w' x st b lb now (oneC (dropQ Q p.1)) cq (.slice sa ss.length sc) tv ss (ps.map hB) ∧ ∀ (k : Nat) (C : Array Value) (t : TypeId), t = 27 ∨ t = 33 → W.heap[k]? = some (.cells C t (0, 0)) → w'.heap[k]? = some (.cells C t (0, 0)) else e = .returned (.string ⟨#[8]⟩) ∧ OL B w0 w' x st b lb now (oneC Q) cq (.slice sa ss.length sc) tv ss (ps.map hB) ∧ ∀ (k : Nat) (C : Array Value) (t : TypeId), t = 27 ∨ t = 33 → W.heap[k]? = some (.cells C t (0, 0)) → w'.heap[k]? = some (.cells C t (0, 0))) := fun W ht => ask_A (HO.out W ht) hp
    go_wp2_with fail
    refine (HSQ.out _).mono ?_
    rintro e w' ⟨rfl, h2'⟩
    have h2s := h2'.symm
    subst h2s
    go_wp2_with fail
    refine (HFD.out _ HT2.out).mono ?_
    rintro e w' ⟨rfl, h2'⟩
    have h2s := h2'.symm
    subst h2s
    go_wp2_with fail
    refine (HLT.out _ HT2.out).mono ?_
    rintro e w' ⟨rfl, h2'⟩
    have h2s := h2'.symm
    subst h2s
    clear HSQ HFD HLT
    cases hfl : fliesQ Q p.1 p.2 with
    | true =>
      obtain ⟨i, hi, m, hix, hsf, hsg, hsn, hla, hm, hmn, hmt, hfd⟩ := live_yes HPR.out.1 HPR.out.2.1 hfl
      rw [hix, hla]
      have hO2 := HO.out _ HT2.out
      obtain ⟨g, hsa, lg, hc⟩ := hO2.ol.lr.sc i hi
      subst hsa
      have d17 := hO2.ol.lr.c17
      have e3 : w2.cell? ⟨g, i * 6 + 3, none⟩ = some (.bool true) := by
        have h1 := hc 3 (.bool ss[i].fl) rfl
        rw [hsf] at h1
        exact h1
      have d0 := hO2.ol.lr.c0
      have l2 := hO2.ol.lr.lt
      have c33 : w2.cell? ⟨w.heap.size, 0, none⟩ = some (.int .i64 3) := cell_qC b0 0 _ rfl
      have lb0 := lt_of_block b0
      obtain ⟨W3, hW3⟩ : ∃ W3, W3 = w2.alloc (.cells #[.int .u8 65, .int .u8 0, .int .u8 0, .int .i64 0, .int .i64 0, .int .i64 0, .int .i64 0, .int .i64 0, .int .i64 0, .string ⟨#[]⟩, .string ⟨#[]⟩, .string ⟨#[]⟩, .string ⟨#[]⟩, .string (hB p), .slice none 0 0] 27) := ⟨_, rfl⟩
      have hbx : W3.heap[w2.heap.size]? = some (.cells #[.int .u8 65, .int .u8 0, .int .u8 0, .int .i64 0, .int .i64 0, .int .i64 0, .int .i64 0, .int .i64 0, .int .i64 0, .string ⟨#[]⟩, .string ⟨#[]⟩, .string ⟨#[]⟩, .string ⟨#[]⟩, .string (hB p), .slice none 0 0] 27 (0, 0)) := by rw [hW3]; exact heap_alloc_new _ _
      have t23 : Tch [] w2 W3 := by rw [hW3]; exact (Tch.refl _ _).alloc _
      have HC : Hid (Calls Tryz.prog 18 #[.pointer (some ⟨x, 0, none⟩), .agg #[.int .u8 65, .int .u8 0, .int .u8 0, .int .i64 0, .int .i64 0, .int .i64 0, .int .i64 0, .int .i64 0, .int .i64 0, .string ⟨#[]⟩, .string ⟨#[]⟩, .string ⟨#[]⟩, .string ⟨#[]⟩, .string (hB p), .slice none 0 0]] W3.drew fun e w3 => e = .returned (.string ⟨#[0]⟩) ∧ OL B w0 w3 x st b lb now (oneC (dropQ Q p.1)) cq (.slice (some ⟨g, 0, none⟩) ss.length sc) tv ss (ps.map hB) ∧ w3.heap[w2.heap.size]? = some (.cells #[.int .u8 65, .int .u8 0, .int .u8 0, .int .i64 0, .int .i64 0, .int .i64 0, .int .i64 0, .int .i64 0, .int .i64 0, .string ⟨#[]⟩, .string ⟨#[]⟩, .string ⟨#[]⟩, .string ⟨#[]⟩, .string (hB p), .slice none 0 0] 27 (0, 0)) ∧ w3.heap[w.heap.size]? = some (.cells #[.int .i64 3, .int .i64 a, .int .i64 bb, .string s1, .string s2, .string s3] 33 (0, 0))) := by
        refine (HAK.out W3.drew ((HT2.out.trans t23 (by simp)).drew)).mono ?_
        intro e w3 hh
        revert hh
        rw [if_pos hfl]
        rintro ⟨he, hol, hkp⟩
        exact ⟨he, hol, hkp _ _ 27 (.inl rfl) hbx, hkp _ _ 33 (.inr rfl) (HB0.out _ t23.drew)⟩
      have r0 : W3.cell? ⟨lb, 0, none⟩ = some (.pointer (some ⟨x, 0, none⟩)) := (t23.cell (a := ⟨lb, 0, none⟩) l2 (by simp)).trans d0
      have r33 : W3.cell? ⟨w.heap.size, 0, none⟩ = some (.int .i64 3) := (t23.cell (a := ⟨w.heap.size, 0, none⟩) lb0 (by simp)).trans c33
      have lW := lt_of_block hbx
      have lW2 : lb < W3.heap.size := World.block_lt_of_cell? _ _ r0
      have lW3 : w.heap.size < W3.heap.size := World.block_lt_of_cell? _ _ r33
      have q0 : W3.cell? ⟨w2.heap.size, 0, none⟩ = some (.int .u8 65) := cell_qC hbx 0 _ rfl
      have q1 : W3.cell? ⟨w2.heap.size, 1, none⟩ = some (.int .u8 0) := cell_qC hbx 1 _ rfl
      have q2 : W3.cell? ⟨w2.heap.size, 2, none⟩ = some (.int .u8 0) := cell_qC hbx 2 _ rfl
      have q3 : W3.cell? ⟨w2.heap.size, 3, none⟩ = some (.int .i64 0) := cell_qC hbx 3 _ rfl
      have q4 : W3.cell? ⟨w2.heap.size, 4, none⟩ = some (.int .i64 0) := cell_qC hbx 4 _ rfl
      have q5 : W3.cell? ⟨w2.heap.size, 5, none⟩ = some (.int .i64 0) := cell_qC hbx 5 _ rfl
      have q6 : W3.cell? ⟨w2.heap.size, 6, none⟩ = some (.int .i64 0) := cell_qC hbx 6 _ rfl
      have q7 : W3.cell? ⟨w2.heap.size, 7, none⟩ = some (.int .i64 0) := cell_qC hbx 7 _ rfl
      have q8 : W3.cell? ⟨w2.heap.size, 8, none⟩ = some (.int .i64 0) := cell_qC hbx 8 _ rfl
      have q9 : W3.cell? ⟨w2.heap.size, 9, none⟩ = some (.string ⟨#[]⟩) := cell_qC hbx 9 _ rfl
      have q10 : W3.cell? ⟨w2.heap.size, 10, none⟩ = some (.string ⟨#[]⟩) := cell_qC hbx 10 _ rfl
      have q11 : W3.cell? ⟨w2.heap.size, 11, none⟩ = some (.string ⟨#[]⟩) := cell_qC hbx 11 _ rfl
      have q12 : W3.cell? ⟨w2.heap.size, 12, none⟩ = some (.string ⟨#[]⟩) := cell_qC hbx 12 _ rfl
      have q13 : W3.cell? ⟨w2.heap.size, 13, none⟩ = some (.string (hB p)) := cell_qC hbx 13 _ rfl
      have q14 : W3.cell? ⟨w2.heap.size, 14, none⟩ = some (.slice none 0 0) := cell_qC hbx 14 _ rfl
      have HFIN : Hid (∀ w3, OL B w0 w3 x st b lb now (oneC (dropQ Q p.1)) cq (.slice (some ⟨g, 0, none⟩) ss.length sc) tv ss (ps.map hB) → ∃ Q' ss', OP B w0 ((w3.setCell ⟨g, i * 6 + 5, none⟩ (.bool true)).setCell ⟨g, i * 6 + 3, none⟩ (.bool false)) x st b lb now cq Q' (.slice (some ⟨g, 0, none⟩) ss.length sc) tv ss' ps ∧ flyCnt Q ≤ flyCnt Q' + 1) := fun w3 ho => by
        have hde := drop_eq HPR.out.1 hfd
        refine ⟨dropQ Q p.1, _, ⟨ho.two i hi, ?_, ?_⟩, ?_⟩
        · exact HPR.out.2.1.gone (p.1 : Int) (by rw [hde]) (by rw [hde]) (by rw [hde]) (by rw [hde]; exact HPR.out.2.1.ats) (by rw [hde]) hi hsn _ ⟨rfl, rfl, rfl⟩
        · rw [hde]
          exact HPR.out.2.2
        · rw [hde]
          have hcd := count_drop (p.1 : Int) Q.ms HPR.out.1.nums
          unfold flyCnt
          exact hcd
      have hiI : (0 : Int) ≤ (i : Int) := by omega
      have hilI : (i : Int) < (ss.length : Int) := by omega
      clear hc hO2 HAK HO
      go_wp2_with fail
      rw [← hW3]
      clear hW3
      go_region_held3 (fun w' => w'.cell? ⟨lb, 0, none⟩ = some (.pointer (some ⟨x, 0, none⟩)) ∧ w'.cell? ⟨w2.heap.size, 0, none⟩ = some (.int .u8 65) ∧ w'.cell? ⟨w2.heap.size, 1, none⟩ = some (.int .u8 0) ∧ w'.cell? ⟨w2.heap.size, 2, none⟩ = some (.int .u8 0) ∧ w'.cell? ⟨w2.heap.size, 3, none⟩ = some (.int .i64 0) ∧ w'.cell? ⟨w2.heap.size, 4, none⟩ = some (.int .i64 0) ∧ w'.cell? ⟨w2.heap.size, 5, none⟩ = some (.int .i64 0) ∧ w'.cell? ⟨w2.heap.size, 6, none⟩ = some (.int .i64 0) ∧ w'.cell? ⟨w2.heap.size, 7, none⟩ = some (.int .i64 0) ∧ w'.cell? ⟨w2.heap.size, 8, none⟩ = some (.int .i64 0) ∧ w'.cell? ⟨w2.heap.size, 9, none⟩ = some (.string ⟨#[]⟩) ∧ w'.cell? ⟨w2.heap.size, 10, none⟩ = some (.string ⟨#[]⟩) ∧ w'.cell? ⟨w2.heap.size, 11, none⟩ = some (.string ⟨#[]⟩) ∧ w'.cell? ⟨w2.heap.size, 12, none⟩ = some (.string ⟨#[]⟩) ∧ w'.cell? ⟨w2.heap.size, 13, none⟩ = some (.string (hB p)) ∧ w'.cell? ⟨w2.heap.size, 14, none⟩ = some (.slice none 0 0)) (go_keep) (first | (go_at_call 18; refine HC.out.mono ?_; rintro e w3 ⟨rfl, hl3, hbx3, hst3⟩; have kl := hl3.lr.c0; have k0 := cell_qC hbx3 0 (.int .u8 65) rfl; have k1 := cell_qC hbx3 1 (.int .u8 0) rfl; have k2 := cell_qC hbx3 2 (.int .u8 0) rfl; have k3 := cell_qC hbx3 3 (.int .i64 0) rfl; have k4 := cell_qC hbx3 4 (.int .i64 0) rfl; have k5 := cell_qC hbx3 5 (.int .i64 0) rfl; have k6 := cell_qC hbx3 6 (.int .i64 0) rfl; have k7 := cell_qC hbx3 7 (.int .i64 0) rfl; have k8 := cell_qC hbx3 8 (.int .i64 0) rfl; have k9 := cell_qC hbx3 9 (.string ⟨#[]⟩) rfl; have k10 := cell_qC hbx3 10 (.string ⟨#[]⟩) rfl; have k11 := cell_qC hbx3 11 (.string ⟨#[]⟩) rfl; have k12 := cell_qC hbx3 12 (.string ⟨#[]⟩) rfl; have k13 := cell_qC hbx3 13 (.string (hB p)) rfl; have k14 := cell_qC hbx3 14 (.slice none 0 0) rfl))
      all_goals
        obtain ⟨g', hsa', lg3, hc3⟩ := hl3.lr.sc i hi
        simp only [Option.some.injEq, Addr.mk.injEq, and_true] at hsa'
        subst hsa'
        obtain ⟨C3, hC3⟩ := hl3.lr.rowB
        have n33 : w3.cell? ⟨w.heap.size, 0, none⟩ = some (.int .i64 3) := cell_qC hst3 0 _ rfl
        have n17 := hl3.lr.c17
        have n5 : w3.cell? ⟨g, i * 6 + 5, none⟩ = some (.bool ss[i].gone) := hc3 5 _ rfl
        have z5 : w3.frozen? ⟨g, i * 6 + 5, none⟩ = false := frozen_of_row w3 _ _ _ 53 hC3
        have ho1 := hl3.one i hi 5 (by omega) (.bool true) { ss[i] with gone := true } rfl
        have hi1 : i < (ss.set i { ss[i] with gone := true }).length := by rw [List.length_set]; exact hi
        have hln1 : (ss.set i { ss[i] with gone := true }).length = ss.length := List.length_set
        have ho1' := ho1
        rw [← hln1] at ho1'
        obtain ⟨g', hsa', lg4, hc4⟩ := ho1'.lr.sc i hi1
        simp only [Option.some.injEq, Addr.mk.injEq, and_true] at hsa'
        subst hsa'
        obtain ⟨C4, hC4⟩ := ho1.lr.rowB
        have p17 := ho1.lr.c17
        have p3 : (w3.setCell ⟨g, i * 6 + 5, none⟩ (.bool true)).cell? ⟨g, i * 6 + 3, none⟩ = some (.bool ss[i].fl) := hc4 3 _ (by rw [List.getElem_set_self]; rfl)
        have pz3 : (w3.setCell ⟨g, i * 6 + 5, none⟩ (.bool true)).frozen? ⟨g, i * 6 + 3, none⟩ = false := frozen_of_row _ _ _ _ 53 hC4
        have pl := ho1.lr.lt
        have l3 := hl3.lr.lt
        have HE : Hid (∃ Q' ss', OP B w0 ((w3.setCell ⟨g, i * 6 + 5, none⟩ (.bool true)).setCell ⟨g, i * 6 + 3, none⟩ (.bool false)) x st b lb now cq Q' (.slice (some ⟨g, 0, none⟩) ss.length sc) tv ss' ps ∧ flyCnt Q ≤ flyCnt Q' + 1) := HFIN.out w3 hl3
        clear hc3 hc4 hC3 hC4 ho1 ho1' hl3 hbx3 hst3 HFIN hln1 hi1
        go_wp2_with fail
        go_ret
        exact ⟨rfl, HE.out⟩
    | false =>
      rcases live_no HPR.out.1 HPR.out.2.1 hp hfl with hneg | ⟨i, hi, hix, hor⟩
      · have hO2 := HO.out _ HT2.out
        generalize idxL (fun m : Sn => m.num == (p.1 : Int)) ss = zi at *
        have hng : ¬ ((0 : Int) ≤ zi) := by omega
        have d0 := hO2.ol.lr.c0
        have l2 := hO2.ol.lr.lt
        have c33 : w2.cell? ⟨w.heap.size, 0, none⟩ = some (.int .i64 3) := cell_qC b0 0 _ rfl
        have lb0 := lt_of_block b0
        obtain ⟨W3, hW3⟩ : ∃ W3, W3 = w2.alloc (.cells #[.int .u8 65, .int .u8 0, .int .u8 0, .int .i64 0, .int .i64 0, .int .i64 0, .int .i64 0, .int .i64 0, .int .i64 0, .string ⟨#[]⟩, .string ⟨#[]⟩, .string ⟨#[]⟩, .string ⟨#[]⟩, .string (hB p), .slice none 0 0] 27) := ⟨_, rfl⟩
        have hbx : W3.heap[w2.heap.size]? = some (.cells #[.int .u8 65, .int .u8 0, .int .u8 0, .int .i64 0, .int .i64 0, .int .i64 0, .int .i64 0, .int .i64 0, .int .i64 0, .string ⟨#[]⟩, .string ⟨#[]⟩, .string ⟨#[]⟩, .string ⟨#[]⟩, .string (hB p), .slice none 0 0] 27 (0, 0)) := by rw [hW3]; exact heap_alloc_new _ _
        have t23 : Tch [] w2 W3 := by rw [hW3]; exact (Tch.refl _ _).alloc _
        have HC : Hid (Calls Tryz.prog 18 #[.pointer (some ⟨x, 0, none⟩), .agg #[.int .u8 65, .int .u8 0, .int .u8 0, .int .i64 0, .int .i64 0, .int .i64 0, .int .i64 0, .int .i64 0, .int .i64 0, .string ⟨#[]⟩, .string ⟨#[]⟩, .string ⟨#[]⟩, .string ⟨#[]⟩, .string (hB p), .slice none 0 0]] W3.drew fun e w3 => e = .returned (.string ⟨#[8]⟩) ∧ OL B w0 w3 x st b lb now (oneC Q) cq (.slice sa ss.length sc) tv ss (ps.map hB) ∧ w3.heap[w2.heap.size]? = some (.cells #[.int .u8 65, .int .u8 0, .int .u8 0, .int .i64 0, .int .i64 0, .int .i64 0, .int .i64 0, .int .i64 0, .int .i64 0, .string ⟨#[]⟩, .string ⟨#[]⟩, .string ⟨#[]⟩, .string ⟨#[]⟩, .string (hB p), .slice none 0 0] 27 (0, 0)) ∧ w3.heap[w.heap.size]? = some (.cells #[.int .i64 3, .int .i64 a, .int .i64 bb, .string s1, .string s2, .string s3] 33 (0, 0))) := by
          refine (HAK.out W3.drew ((HT2.out.trans t23 (by simp)).drew)).mono ?_
          intro e w3 hh
          revert hh
          rw [if_neg (by rw [hfl]; simp)]
          rintro ⟨he, hol, hkp⟩
          exact ⟨he, hol, hkp _ _ 27 (.inl rfl) hbx, hkp _ _ 33 (.inr rfl) (HB0.out _ t23.drew)⟩
        have r0 : W3.cell? ⟨lb, 0, none⟩ = some (.pointer (some ⟨x, 0, none⟩)) := (t23.cell (a := ⟨lb, 0, none⟩) l2 (by simp)).trans d0
        have r33 : W3.cell? ⟨w.heap.size, 0, none⟩ = some (.int .i64 3) := (t23.cell (a := ⟨w.heap.size, 0, none⟩) lb0 (by simp)).trans c33
        have lW := lt_of_block hbx
        have lW2 : lb < W3.heap.size := World.block_lt_of_cell? _ _ r0
        have lW3 : w.heap.size < W3.heap.size := World.block_lt_of_cell? _ _ r33
        have q0 : W3.cell? ⟨w2.heap.size, 0, none⟩ = some (.int .u8 65) := cell_qC hbx 0 _ rfl
        have q1 : W3.cell? ⟨w2.heap.size, 1, none⟩ = some (.int .u8 0) := cell_qC hbx 1 _ rfl
        have q2 : W3.cell? ⟨w2.heap.size, 2, none⟩ = some (.int .u8 0) := cell_qC hbx 2 _ rfl
        have q3 : W3.cell? ⟨w2.heap.size, 3, none⟩ = some (.int .i64 0) := cell_qC hbx 3 _ rfl
        have q4 : W3.cell? ⟨w2.heap.size, 4, none⟩ = some (.int .i64 0) := cell_qC hbx 4 _ rfl
        have q5 : W3.cell? ⟨w2.heap.size, 5, none⟩ = some (.int .i64 0) := cell_qC hbx 5 _ rfl
        have q6 : W3.cell? ⟨w2.heap.size, 6, none⟩ = some (.int .i64 0) := cell_qC hbx 6 _ rfl
        have q7 : W3.cell? ⟨w2.heap.size, 7, none⟩ = some (.int .i64 0) := cell_qC hbx 7 _ rfl
        have q8 : W3.cell? ⟨w2.heap.size, 8, none⟩ = some (.int .i64 0) := cell_qC hbx 8 _ rfl
        have q9 : W3.cell? ⟨w2.heap.size, 9, none⟩ = some (.string ⟨#[]⟩) := cell_qC hbx 9 _ rfl
        have q10 : W3.cell? ⟨w2.heap.size, 10, none⟩ = some (.string ⟨#[]⟩) := cell_qC hbx 10 _ rfl
        have q11 : W3.cell? ⟨w2.heap.size, 11, none⟩ = some (.string ⟨#[]⟩) := cell_qC hbx 11 _ rfl
        have q12 : W3.cell? ⟨w2.heap.size, 12, none⟩ = some (.string ⟨#[]⟩) := cell_qC hbx 12 _ rfl
        have q13 : W3.cell? ⟨w2.heap.size, 13, none⟩ = some (.string (hB p)) := cell_qC hbx 13 _ rfl
        have q14 : W3.cell? ⟨w2.heap.size, 14, none⟩ = some (.slice none 0 0) := cell_qC hbx 14 _ rfl
        have HFIN : Hid (∀ w3, OL B w0 w3 x st b lb now (oneC Q) cq (.slice sa ss.length sc) tv ss (ps.map hB) → ∃ Q' ss', OP B w0 w3 x st b lb now cq Q' (.slice sa ss.length sc) tv ss' ps ∧ flyCnt Q ≤ flyCnt Q' + 1) := fun w3 ho => ⟨Q, ss, ⟨ho, HPR.out.2.1, HPR.out.2.2⟩, by omega⟩
        clear hO2 HAK HO
        go_wp2_with fail
        rw [← hW3]
        clear hW3
        go_region_held3 (fun w' => w'.cell? ⟨lb, 0, none⟩ = some (.pointer (some ⟨x, 0, none⟩)) ∧ w'.cell? ⟨w2.heap.size, 0, none⟩ = some (.int .u8 65) ∧ w'.cell? ⟨w2.heap.size, 1, none⟩ = some (.int .u8 0) ∧ w'.cell? ⟨w2.heap.size, 2, none⟩ = some (.int .u8 0) ∧ w'.cell? ⟨w2.heap.size, 3, none⟩ = some (.int .i64 0) ∧ w'.cell? ⟨w2.heap.size, 4, none⟩ = some (.int .i64 0) ∧ w'.cell? ⟨w2.heap.size, 5, none⟩ = some (.int .i64 0) ∧ w'.cell? ⟨w2.heap.size, 6, none⟩ = some (.int .i64 0) ∧ w'.cell? ⟨w2.heap.size, 7, none⟩ = some (.int .i64 0) ∧ w'.cell? ⟨w2.heap.size, 8, none⟩ = some (.int .i64 0) ∧ w'.cell? ⟨w2.heap.size, 9, none⟩ = some (.string ⟨#[]⟩) ∧ w'.cell? ⟨w2.heap.size, 10, none⟩ = some (.string ⟨#[]⟩) ∧ w'.cell? ⟨w2.heap.size, 11, none⟩ = some (.string ⟨#[]⟩) ∧ w'.cell? ⟨w2.heap.size, 12, none⟩ = some (.string ⟨#[]⟩) ∧ w'.cell? ⟨w2.heap.size, 13, none⟩ = some (.string (hB p)) ∧ w'.cell? ⟨w2.heap.size, 14, none⟩ = some (.slice none 0 0)) (go_keep) (first | (go_at_call 18; refine HC.out.mono ?_; rintro e w3 ⟨rfl, hl3, hbx3, hst3⟩; have kl := hl3.lr.c0; have k0 := cell_qC hbx3 0 (.int .u8 65) rfl; have k1 := cell_qC hbx3 1 (.int .u8 0) rfl; have k2 := cell_qC hbx3 2 (.int .u8 0) rfl; have k3 := cell_qC hbx3 3 (.int .i64 0) rfl; have k4 := cell_qC hbx3 4 (.int .i64 0) rfl; have k5 := cell_qC hbx3 5 (.int .i64 0) rfl; have k6 := cell_qC hbx3 6 (.int .i64 0) rfl; have k7 := cell_qC hbx3 7 (.int .i64 0) rfl; have k8 := cell_qC hbx3 8 (.int .i64 0) rfl; have k9 := cell_qC hbx3 9 (.string ⟨#[]⟩) rfl; have k10 := cell_qC hbx3 10 (.string ⟨#[]⟩) rfl; have k11 := cell_qC hbx3 11 (.string ⟨#[]⟩) rfl; have k12 := cell_qC hbx3 12 (.string ⟨#[]⟩) rfl; have k13 := cell_qC hbx3 13 (.string (hB p)) rfl; have k14 := cell_qC hbx3 14 (.slice none 0 0) rfl))
        all_goals
          have HE : Hid (∃ Q' ss', OP B w0 w3 x st b lb now cq Q' (.slice sa ss.length sc) tv ss' ps ∧ flyCnt Q ≤ flyCnt Q' + 1) := HFIN.out w3 hl3
          clear hl3 hbx3 hst3 HFIN
          go_wp2_with fail
          go_ret
          exact ⟨rfl, HE.out⟩
      · have hO2 := HO.out _ HT2.out
        rw [hix]
        obtain ⟨g, hsa, lg, hc⟩ := hO2.ol.lr.sc i hi
        have d17 := hO2.ol.lr.c17
        have e3 : w2.cell? ⟨g, i * 6 + 3, none⟩ = some (.bool ss[i].fl) := hc 3 (.bool ss[i].fl) rfl
        rw [hsa] at d17
        have hiI : (0 : Int) ≤ (i : Int) := by omega
        have hilI : (i : Int) < (ss.length : Int) := by omega
        obtain ⟨lv, hlv⟩ : ∃ lv, lv = ((lastB ps p.1).toList == (hB p).toList) := ⟨_, rfl⟩
        rw [← hlv]
        rw [← hlv] at hor
        clear hc hlv
        generalize ss[i].fl = sf at *
        rcases hor with rfl | ⟨rfl, rfl⟩
        all_goals
          have d0 := hO2.ol.lr.c0
          have l2 := hO2.ol.lr.lt
          have c33 : w2.cell? ⟨w.heap.size, 0, none⟩ = some (.int .i64 3) := cell_qC b0 0 _ rfl
          have lb0 := lt_of_block b0
          obtain ⟨W3, hW3⟩ : ∃ W3, W3 = w2.alloc (.cells #[.int .u8 65, .int .u8 0, .int .u8 0, .int .i64 0, .int .i64 0, .int .i64 0, .int .i64 0, .int .i64 0, .int .i64 0, .string ⟨#[]⟩, .string ⟨#[]⟩, .string ⟨#[]⟩, .string ⟨#[]⟩, .string (hB p), .slice none 0 0] 27) := ⟨_, rfl⟩
          have hbx : W3.heap[w2.heap.size]? = some (.cells #[.int .u8 65, .int .u8 0, .int .u8 0, .int .i64 0, .int .i64 0, .int .i64 0, .int .i64 0, .int .i64 0, .int .i64 0, .string ⟨#[]⟩, .string ⟨#[]⟩, .string ⟨#[]⟩, .string ⟨#[]⟩, .string (hB p), .slice none 0 0] 27 (0, 0)) := by rw [hW3]; exact heap_alloc_new _ _
          have t23 : Tch [] w2 W3 := by rw [hW3]; exact (Tch.refl _ _).alloc _
          have HC : Hid (Calls Tryz.prog 18 #[.pointer (some ⟨x, 0, none⟩), .agg #[.int .u8 65, .int .u8 0, .int .u8 0, .int .i64 0, .int .i64 0, .int .i64 0, .int .i64 0, .int .i64 0, .int .i64 0, .string ⟨#[]⟩, .string ⟨#[]⟩, .string ⟨#[]⟩, .string ⟨#[]⟩, .string (hB p), .slice none 0 0]] W3.drew fun e w3 => e = .returned (.string ⟨#[8]⟩) ∧ OL B w0 w3 x st b lb now (oneC Q) cq (.slice sa ss.length sc) tv ss (ps.map hB) ∧ w3.heap[w2.heap.size]? = some (.cells #[.int .u8 65, .int .u8 0, .int .u8 0, .int .i64 0, .int .i64 0, .int .i64 0, .int .i64 0, .int .i64 0, .int .i64 0, .string ⟨#[]⟩, .string ⟨#[]⟩, .string ⟨#[]⟩, .string ⟨#[]⟩, .string (hB p), .slice none 0 0] 27 (0, 0)) ∧ w3.heap[w.heap.size]? = some (.cells #[.int .i64 3, .int .i64 a, .int .i64 bb, .string s1, .string s2, .string s3] 33 (0, 0))) := by
            refine (HAK.out W3.drew ((HT2.out.trans t23 (by simp)).drew)).mono ?_
            intro e w3 hh
            revert hh
            rw [if_neg (by rw [hfl]; simp)]
            rintro ⟨he, hol, hkp⟩
            exact ⟨he, hol, hkp _ _ 27 (.inl rfl) hbx, hkp _ _ 33 (.inr rfl) (HB0.out _ t23.drew)⟩
          have r0 : W3.cell? ⟨lb, 0, none⟩ = some (.pointer (some ⟨x, 0, none⟩)) := (t23.cell (a := ⟨lb, 0, none⟩) l2 (by simp)).trans d0
          have r33 : W3.cell? ⟨w.heap.size, 0, none⟩ = some (.int .i64 3) := (t23.cell (a := ⟨w.heap.size, 0, none⟩) lb0 (by simp)).trans c33
          have lW := lt_of_block hbx
          have lW2 : lb < W3.heap.size := World.block_lt_of_cell? _ _ r0
          have lW3 : w.heap.size < W3.heap.size := World.block_lt_of_cell? _ _ r33
          have q0 : W3.cell? ⟨w2.heap.size, 0, none⟩ = some (.int .u8 65) := cell_qC hbx 0 _ rfl
          have q1 : W3.cell? ⟨w2.heap.size, 1, none⟩ = some (.int .u8 0) := cell_qC hbx 1 _ rfl
          have q2 : W3.cell? ⟨w2.heap.size, 2, none⟩ = some (.int .u8 0) := cell_qC hbx 2 _ rfl
          have q3 : W3.cell? ⟨w2.heap.size, 3, none⟩ = some (.int .i64 0) := cell_qC hbx 3 _ rfl
          have q4 : W3.cell? ⟨w2.heap.size, 4, none⟩ = some (.int .i64 0) := cell_qC hbx 4 _ rfl
          have q5 : W3.cell? ⟨w2.heap.size, 5, none⟩ = some (.int .i64 0) := cell_qC hbx 5 _ rfl
          have q6 : W3.cell? ⟨w2.heap.size, 6, none⟩ = some (.int .i64 0) := cell_qC hbx 6 _ rfl
          have q7 : W3.cell? ⟨w2.heap.size, 7, none⟩ = some (.int .i64 0) := cell_qC hbx 7 _ rfl
          have q8 : W3.cell? ⟨w2.heap.size, 8, none⟩ = some (.int .i64 0) := cell_qC hbx 8 _ rfl
          have q9 : W3.cell? ⟨w2.heap.size, 9, none⟩ = some (.string ⟨#[]⟩) := cell_qC hbx 9 _ rfl
          have q10 : W3.cell? ⟨w2.heap.size, 10, none⟩ = some (.string ⟨#[]⟩) := cell_qC hbx 10 _ rfl
          have q11 : W3.cell? ⟨w2.heap.size, 11, none⟩ = some (.string ⟨#[]⟩) := cell_qC hbx 11 _ rfl
          have q12 : W3.cell? ⟨w2.heap.size, 12, none⟩ = some (.string ⟨#[]⟩) := cell_qC hbx 12 _ rfl
          have q13 : W3.cell? ⟨w2.heap.size, 13, none⟩ = some (.string (hB p)) := cell_qC hbx 13 _ rfl
          have q14 : W3.cell? ⟨w2.heap.size, 14, none⟩ = some (.slice none 0 0) := cell_qC hbx 14 _ rfl
          have HFIN : Hid (∀ w3, OL B w0 w3 x st b lb now (oneC Q) cq (.slice sa ss.length sc) tv ss (ps.map hB) → ∃ Q' ss', OP B w0 w3 x st b lb now cq Q' (.slice sa ss.length sc) tv ss' ps ∧ flyCnt Q ≤ flyCnt Q' + 1) := fun w3 ho => ⟨Q, ss, ⟨ho, HPR.out.2.1, HPR.out.2.2⟩, by omega⟩
          clear hO2 HAK HO
          go_wp2_with fail
          rw [← hW3]
          clear hW3
          go_region_held3 (fun w' => w'.cell? ⟨lb, 0, none⟩ = some (.pointer (some ⟨x, 0, none⟩)) ∧ w'.cell? ⟨w2.heap.size, 0, none⟩ = some (.int .u8 65) ∧ w'.cell? ⟨w2.heap.size, 1, none⟩ = some (.int .u8 0) ∧ w'.cell? ⟨w2.heap.size, 2, none⟩ = some (.int .u8 0) ∧ w'.cell? ⟨w2.heap.size, 3, none⟩ = some (.int .i64 0) ∧ w'.cell? ⟨w2.heap.size, 4, none⟩ = some (.int .i64 0) ∧ w'.cell? ⟨w2.heap.size, 5, none⟩ = some (.int .i64 0) ∧ w'.cell? ⟨w2.heap.size, 6, none⟩ = some (.int .i64 0) ∧ w'.cell? ⟨w2.heap.size, 7, none⟩ = some (.int .i64 0) ∧ w'.cell? ⟨w2.heap.size, 8, none⟩ = some (.int .i64 0) ∧ w'.cell? ⟨w2.heap.size, 9, none⟩ = some (.string ⟨#[]⟩) ∧ w'.cell? ⟨w2.heap.size, 10, none⟩ = some (.string ⟨#[]⟩) ∧ w'.cell? ⟨w2.heap.size, 11, none⟩ = some (.string ⟨#[]⟩) ∧ w'.cell? ⟨w2.heap.size, 12, none⟩ = some (.string ⟨#[]⟩) ∧ w'.cell? ⟨w2.heap.size, 13, none⟩ = some (.string (hB p)) ∧ w'.cell? ⟨w2.heap.size, 14, none⟩ = some (.slice none 0 0)) (go_keep) (first | (go_at_call 18; refine HC.out.mono ?_; rintro e w3 ⟨rfl, hl3, hbx3, hst3⟩; have kl := hl3.lr.c0; have k0 := cell_qC hbx3 0 (.int .u8 65) rfl; have k1 := cell_qC hbx3 1 (.int .u8 0) rfl; have k2 := cell_qC hbx3 2 (.int .u8 0) rfl; have k3 := cell_qC hbx3 3 (.int .i64 0) rfl; have k4 := cell_qC hbx3 4 (.int .i64 0) rfl; have k5 := cell_qC hbx3 5 (.int .i64 0) rfl; have k6 := cell_qC hbx3 6 (.int .i64 0) rfl; have k7 := cell_qC hbx3 7 (.int .i64 0) rfl; have k8 := cell_qC hbx3 8 (.int .i64 0) rfl; have k9 := cell_qC hbx3 9 (.string ⟨#[]⟩) rfl; have k10 := cell_qC hbx3 10 (.string ⟨#[]⟩) rfl; have k11 := cell_qC hbx3 11 (.string ⟨#[]⟩) rfl; have k12 := cell_qC hbx3 12 (.string ⟨#[]⟩) rfl; have k13 := cell_qC hbx3 13 (.string (hB p)) rfl; have k14 := cell_qC hbx3 14 (.slice none 0 0) rfl))
          all_goals
            have HE : Hid (∃ Q' ss', OP B w0 w3 x st b lb now cq Q' (.slice sa ss.length sc) tv ss' ps ∧ flyCnt Q ≤ flyCnt Q' + 1) := HFIN.out w3 hl3
            clear hl3 hbx3 hst3 HFIN
            go_wp2_with fail
            go_ret
            exact ⟨rfl, HE.out⟩
end Go.Proofs.YtbdobaapadlcjaaGreatDoor
