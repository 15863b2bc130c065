import Derived.Test.YtbdobaapadlcjaaGreatDoorOx45
import Derived.Deep.DeepCutAuto
import Derived.BigQuiet
import Derived.Test.YtbdobaapadlcjaaGreatDoorOx38
namespace Go.Proofs.YtbdobaapadlcjaaGreatDoor
open Go.RowKit Keep
set_option linter.unusedVariables false
set_option linter.unusedSimpArgs false
def Lh (now : Int) (tv : Value) (w : World) (lb x : Nat) (c : Wp.Rq) (sv : Value) : Prop := w.heap[lb]? = some (.cells (lnG x c now sv tv) 42 (0, 0))
theorem Lh.c0 {now : Int} {tv : Value} {w : World} {lb x : Nat} {c : Wp.Rq} {sv : Value} (h : Lh now tv w lb x c sv) : w.cell? ⟨lb, 0, none⟩ = some (.pointer (some ⟨x, 0, none⟩)) := cell_qC h 0 _ rfl
theorem Lh.c5 {now : Int} {tv : Value} {w : World} {lb x : Nat} {c : Wp.Rq} {sv : Value} (h : Lh now tv w lb x c sv) : w.cell? ⟨lb, 5, none⟩ = some (.int .i64 c.win) := cell_qC h 5 _ rfl
theorem Lh.c17 {now : Int} {tv : Value} {w : World} {lb x : Nat} {c : Wp.Rq} {sv : Value} (h : Lh now tv w lb x c sv) : w.cell? ⟨lb, 17, none⟩ = some sv := cell_qC h 17 _ rfl
theorem Lh.set17 {now : Int} {tv : Value} {w : World} {lb x : Nat} {c : Wp.Rq} {sv : Value} (h : Lh now tv w lb x c sv) (v : Value) : Lh now tv (w.setCell ⟨lb, 17, none⟩ v) lb x c v := heap_setCell_same w lb 17 _ 42 _ h
theorem Lh.tch {now : Int} {tv : Value} {w w' : World} {lb x : Nat} {c : Wp.Rq} {sv : Value} (h : Lh now tv w lb x c sv) {S : List Nat} (ht : Tch S w w') (hS : lb ∉ S) : Lh now tv w' lb x c sv := (ht.block _ (lt_of_block h) hS).trans h
abbrev stepD (kd a bb : Int) (g d b : ByteArray) : Array Value := #[.int .i64 kd, .int .i64 a, .int .i64 bb, .string g, .string d, .string b]
abbrev sndD (g d b : ByteArray) : Array Value := #[.int .u8 83, .int .u8 97, .int .u8 0, .int .i64 0, .int .i64 0, .int .i64 0, .int .i64 0, .int .i64 0, .int .i64 0, .string g, .string d, .string b, .string ⟨#[]⟩, .string ⟨#[]⟩, .slice none 0 0]
set_option maxRecDepth 8000 in
set_option maxHeartbeats 4000000 in
theorem sendG_walk (K R : World → Prop) (c : Wp.Rq) (lb x n : Nat) (now : Int) (sv tv : Value) (ss : List Sn) (hs : List ByteArray) (kd a bb : Int) (grp ded bod gg dd bd : ByteArray) (w : World) (hln : Lh now tv w lb x c sv) (hl : ss.length ≤ 1000) (hn : n < 4294967296)
    (hN : ∀ W, Calls Tryz.prog 16 #[.string grp] W fun e w' => e = .returned (.string gg) ∧ w' = W) (hD : ∀ W, Calls Tryz.prog 17 #[.string ded] W fun e w' => e = .returned (.string dd) ∧ w' = W) (hS : ∀ W, Calls Tryz.prog 15 #[.string bod, .int .i64 40] W fun e w' => e = .returned (.string bd) ∧ w' = W)
    (hA : ∀ W, Tch [] w W → Calls Tryz.prog 18 #[.pointer (some ⟨x, 0, none⟩), .agg (sndD gg dd bd)] W fun e w' => e = .returned (.string (okN n)) ∧ Lr w' lb x c now sv tv ss hs ∧ (∀ (k : Nat) (C : Array Value), W.heap[k]? = some (.cells C 27 (0, 0)) → w'.heap[k]? = some (.cells C 27 (0, 0))) ∧ R w')
    (hor : (0 ≤ idxL (fun m : Sn => m.num == (n : Int)) ss ∧ 0 < c.win ∧ ∀ w', R w' → K w') ∨
      (idxL (fun m : Sn => m.num == (n : Int)) ss < 0 ∧ (∀ m ∈ ss, m.num < (n : Int)) ∧ ∀ w1 w' sv', R w1 → Lh now tv w' lb x c sv' → w'.ownsRow 0 53 6 sv' (ss.length + 1) (ss.flatMap Sn.row ++ Sn.row ⟨(n : Int), gg, bd, false, 0, false⟩) → NewOr w1 sv sv' → Tch (lb :: bl sv) w1 w' → K w')) :
    Calls Tryz.prog 20 #[.pointer (some ⟨lb, 0, none⟩), .agg (stepD kd a bb grp ded bod)] w fun e w' => e = .returned (.bool true) ∧ K w' := by
  have HN : Hid (∀ W, Calls Tryz.prog 16 #[.string grp] W fun e w' => e = .returned (.string gg) ∧ w' = W) := hN
  have HD : Hid (∀ W, Calls Tryz.prog 17 #[.string ded] W fun e w' => e = .returned (.string dd) ∧ w' = W) := hD
  have HS : Hid (∀ W, Calls Tryz.prog 15 #[.string bod, .int .i64 40] W fun e w' => e = .returned (.string bd) ∧ w' = W) := hS
  clear hN hD hS
  obtain ⟨wb, hwb⟩ : ∃ wb, wb = w.alloc (.cells (stepD kd a bb grp ded bod) 33) := ⟨_, rfl⟩
  have HBX : Hid (wb.heap[w.heap.size]? = some (.cells (stepD kd a bb grp ded bod) 33 (0, 0))) := by rw [hwb]; exact heap_alloc_new _ _
  have HT0 : Hid (Tch [] w wb) := by rw [hwb]; exact (Tch.refl _ _).alloc _
  have HLN : Hid (Lh now tv w lb x c sv) := hln
  have HA : Hid (∀ W, Tch [] w W → _) := hA
  have HOR : Hid (_ ∨ _) := hor
  have b3 : wb.cell? ⟨w.heap.size, 3, none⟩ = some (.string grp) := cell_qC HBX.out 3 _ rfl
  have b4 : wb.cell? ⟨w.heap.size, 4, none⟩ = some (.string ded) := cell_qC HBX.out 4 _ rfl
  have b5 : wb.cell? ⟨w.heap.size, 5, none⟩ = some (.string bod) := cell_qC HBX.out 5 _ rfl
  have l1 := lt_of_block HBX.out
  clear hA hor hln
  go_enter Tryz.func20, Tryz.ntmps20
  go_wp2_with fail
  rw [← hwb]
  clear hwb
  go_cut [5] (fun s5 wx => s5 = .pointer (some ⟨wb.heap.size, 0, none⟩) ∧ Tch [] wb wx ∧ wx.heap[wb.heap.size]? = some (.cells (sndD gg dd bd) 27 (0, 0)))
  case first =>
    go_region_held3 (fun w' => w'.cell? ⟨w.heap.size, 3, none⟩ = some (.string grp) ∧ w'.cell? ⟨w.heap.size, 4, none⟩ = some (.string ded) ∧ w'.cell? ⟨w.heap.size, 5, none⟩ = some (.string bod)) (go_keep) (first | (go_at_call 16; refine (HN.out _).mono ?_; rintro e w' ⟨rfl, h'⟩; have h'' := h'.symm; subst h'') | (go_at_call 17; refine (HD.out _).mono ?_; rintro e w' ⟨rfl, h'⟩; have h'' := h'.symm; subst h'') | (go_at_call 15; refine (HS.out _).mono ?_; rintro e w' ⟨rfl, h'⟩; have h'' := h'.symm; subst h''))
    all_goals (go_wp2_with fail; go_meet)
    all_goals exact ⟨rfl, ((Tch.refl _ _).alloc _).drew, heap_alloc_new _ _⟩
  case rest =>
    obtain ⟨rfl, ht2, hc2⟩ := hcut
    generalize wc = w2 at *
    have T2 : Hid (Tch [] w w2) := HT0.out.trans ht2 (by simp)
    have HR2 : Hid (w2.heap[wb.heap.size]? = some (.cells (sndD gg dd bd) 27 (0, 0))) := hc2
    have HC : Hid (Calls Tryz.prog 18 #[.pointer (some ⟨x, 0, none⟩), .agg (sndD gg dd bd)] w2.drew fun e w' => e = .returned (.string (okN n)) ∧ Lr w' lb x c now sv tv ss hs ∧ w'.heap[wb.heap.size]? = some (.cells (sndD gg dd bd) 27 (0, 0)) ∧ R w') := by
      refine (HA.out w2.drew T2.out.drew).mono ?_
      rintro e w' ⟨he, h1, h3, h4⟩
      exact ⟨he, h1, h3 _ _ HR2.out, h4⟩
    have HL2 : Hid (Lh now tv w2 lb x c sv) := HLN.out.tch T2.out (by simp)
    have el : w2.cell? ⟨lb, 0, none⟩ = some (.pointer (some ⟨x, 0, none⟩)) := HL2.out.c0
    have e0 : w2.cell? ⟨wb.heap.size, 0, none⟩ = some (.int .u8 83) := cell_qC HR2.out 0 _ rfl
    have e1 : w2.cell? ⟨wb.heap.size, 1, none⟩ = some (.int .u8 97) := cell_qC HR2.out 1 _ rfl
    have e2 : w2.cell? ⟨wb.heap.size, 2, none⟩ = some (.int .u8 0) := cell_qC HR2.out 2 _ rfl
    have e3 : w2.cell? ⟨wb.heap.size, 3, none⟩ = some (.int .i64 0) := cell_qC HR2.out 3 _ rfl
    have e4 : w2.cell? ⟨wb.heap.size, 4, none⟩ = some (.int .i64 0) := cell_qC HR2.out 4 _ rfl
    have e5 : w2.cell? ⟨wb.heap.size, 5, none⟩ = some (.int .i64 0) := cell_qC HR2.out 5 _ rfl
    have e6 : w2.cell? ⟨wb.heap.size, 6, none⟩ = some (.int .i64 0) := cell_qC HR2.out 6 _ rfl
    have e7 : w2.cell? ⟨wb.heap.size, 7, none⟩ = some (.int .i64 0) := cell_qC HR2.out 7 _ rfl
    have e8 : w2.cell? ⟨wb.heap.size, 8, none⟩ = some (.int .i64 0) := cell_qC HR2.out 8 _ rfl
    have e9 : w2.cell? ⟨wb.heap.size, 9, none⟩ = some (.string gg) := cell_qC HR2.out 9 _ rfl
    have e10 : w2.cell? ⟨wb.heap.size, 10, none⟩ = some (.string dd) := cell_qC HR2.out 10 _ rfl
    have e11 : w2.cell? ⟨wb.heap.size, 11, none⟩ = some (.string bd) := cell_qC HR2.out 11 _ rfl
    have e12 : w2.cell? ⟨wb.heap.size, 12, none⟩ = some (.string ⟨#[]⟩) := cell_qC HR2.out 12 _ rfl
    have e13 : w2.cell? ⟨wb.heap.size, 13, none⟩ = some (.string ⟨#[]⟩) := cell_qC HR2.out 13 _ rfl
    have e14 : w2.cell? ⟨wb.heap.size, 14, none⟩ = some (.slice none 0 0) := cell_qC HR2.out 14 _ rfl
    have ltl := lt_of_block HL2.out
    have ltb := lt_of_block HR2.out
    clear ht2 hc2 b3 b4 b5 HN HD HS
    go_wp2_with fail
    go_region_held3 (fun w' => w'.cell? ⟨lb, 0, none⟩ = some (.pointer (some ⟨x, 0, none⟩)) ∧ w'.cell? ⟨wb.heap.size, 0, none⟩ = some (.int .u8 83) ∧ w'.cell? ⟨wb.heap.size, 1, none⟩ = some (.int .u8 97) ∧ w'.cell? ⟨wb.heap.size, 2, none⟩ = some (.int .u8 0) ∧ w'.cell? ⟨wb.heap.size, 3, none⟩ = some (.int .i64 0) ∧ w'.cell? ⟨wb.heap.size, 4, none⟩ = some (.int .i64 0) ∧ w'.cell? ⟨wb.heap.size, 5, none⟩ = some (.int .i64 0) ∧ w'.cell? ⟨wb.heap.size, 6, none⟩ = some (.int .i64 0) ∧ w'.cell? ⟨wb.heap.size, 7, none⟩ = some (.int .i64 0) ∧ w'.cell? ⟨wb.heap.size, 8, none⟩ = some (.int .i64 0) ∧ w'.cell? ⟨wb.heap.size, 9, none⟩ = some (.string gg) ∧ w'.cell? ⟨wb.heap.size, 10, none⟩ = some (.string dd) ∧ w'.cell? ⟨wb.heap.size, 11, none⟩ = some (.string bd) ∧ w'.cell? ⟨wb.heap.size, 12, none⟩ = some (.string ⟨#[]⟩) ∧ w'.cell? ⟨wb.heap.size, 13, none⟩ = some (.string ⟨#[]⟩) ∧ w'.cell? ⟨wb.heap.size, 14, none⟩ = some (.slice none 0 0)) (go_keep) (first | (go_at_call 18; refine HC.out.mono ?_; rintro e w3 ⟨rfl, hlr3, hbx, hR3⟩; have kl := hlr3.c0; have k0 := cell_qC hbx 0 (.int .u8 83) rfl; have k1 := cell_qC hbx 1 (.int .u8 97) rfl; have k2 := cell_qC hbx 2 (.int .u8 0) rfl; have k3 := cell_qC hbx 3 (.int .i64 0) rfl; have k4 := cell_qC hbx 4 (.int .i64 0) rfl; have k5 := cell_qC hbx 5 (.int .i64 0) rfl; have k6 := cell_qC hbx 6 (.int .i64 0) rfl; have k7 := cell_qC hbx 7 (.int .i64 0) rfl; have k8 := cell_qC hbx 8 (.int .i64 0) rfl; have k9 := cell_qC hbx 9 (.string gg) rfl; have k10 := cell_qC hbx 10 (.string dd) rfl; have k11 := cell_qC hbx 11 (.string bd) rfl; have k12 := cell_qC hbx 12 (.string ⟨#[]⟩) rfl; have k13 := cell_qC hbx 13 (.string ⟨#[]⟩) rfl; have k14 := cell_qC hbx 14 (.slice none 0 0) rfl))
    have HL3 : Hid (Lh now tv w3 lb x c sv) := hlr3.ln
    have HO3 : Hid (w3.ownsRow 0 53 6 sv ss.length (ss.flatMap Sn.row)) := hlr3.row
    have HLR : Hid (Lr w3 lb x c now sv tv ss hs) := hlr3
    have HB3 : Hid (w3.heap[wb.heap.size]? = some (.cells (sndD gg dd bd) 27 (0, 0))) := hbx
    have HR3 : Hid (R w3) := hR3
    clear hlr3 hbx hR3 el ltl ltb kl e0 k0 e1 k1 e2 k2 e3 k3 e4 k4 e5 k5 e6 k6 e7 k7 e8 k8 e9 k9 e10 k10 e11 k11 e12 k12 e13 k13 e14 k14
    have HFI : Hid (∀ W, Calls Tryz.prog 35 #[.string (okN n)] W fun e w' => e = .returned (.bool true) ∧ w' = W) := fun W => fine_okN n W
    have HNU : Hid (∀ W, Calls Tryz.prog 36 #[.string ((okN n).extract 1 5)] W fun e w' => e = .returned (.int .i64 (n : Int)) ∧ w' = W) := fun W => number_okN n hn W
    have HFD : Hid (Calls Tryz.prog 37 #[.pointer (some ⟨lb, 0, none⟩), .int .i64 (n : Int)] w3 fun e w' => e = .returned (.int .i64 (idxL (fun m : Sn => m.num == (n : Int)) ss)) ∧ w' = w3) := find_g lb x c now sv tv ss hs (n : Int) w3 HLR.out hl
    have h5 : (okN n).size = 5 := okN_size n
    generalize okN n = so at *
    go_wp2_with fail
    refine (HFI.out _).mono ?_
    rintro e w' ⟨rfl, h'⟩
    have h'' := h'.symm
    subst h''
    go_wp2_with fail
    refine (HNU.out _).mono ?_
    rintro e w' ⟨rfl, h'⟩
    have h'' := h'.symm
    subst h''
    clear HFI HNU HA HC
    go_wp2_with fail
    refine HFD.out.mono ?_
    rintro e w' ⟨rfl, h'⟩
    have h'' := h'.symm
    subst h''
    rcases HOR.out with ⟨hz, hwin, hK⟩ | ⟨hz, hlt, hK⟩
    · have HK : Hid (K w3) := hK _ HR3.out
      have c5 := HL3.out.c5
      have ll := lt_of_block HL3.out
      clear hK HFD HOR
      generalize idxL (fun m : Sn => m.num == (n : Int)) ss = z at *
      go_wp2_with fail
      go_ret
      exact ⟨ret_bool (by simp [hwin]), HK.out⟩
    · have HK : Hid (∀ w1 w' sv', _) := hK
      have c17 := HL3.out.c17
      have ll := lt_of_block HL3.out
      clear hK HFD HOR
      generalize idxL (fun m : Sn => m.num == (n : Int)) ss = z at *
      have HFIN : Hid (∀ nq v' w9, w9.ownsRow 0 53 6 v' (ss.length + 1) (ss.flatMap Sn.row ++ Sn.row ⟨(n : Int), gg, bd, false, 0, false⟩) → ((w3.drewN nq).drew.alloc (.cells (Sn.row ⟨(n : Int), gg, bd, false, 0, false⟩).toArray 53)).grownBy w9 sv.ownBlock → (v'.ownBlock = sv.ownBlock ∨ v'.ownBlock = some ((w3.drewN nq).drew.alloc (.cells (Sn.row ⟨(n : Int), gg, bd, false, 0, false⟩).toArray 53)).heap.size) → ∃ g4 cap4, v' = .slice (some ⟨g4, 0, none⟩) (ss.length + 1) cap4 ∧ w9.cell? ⟨lb, 17, none⟩ = some sv ∧ w9.frozen? ⟨lb, 17, none⟩ = false ∧ K (w9.setCell ⟨lb, 17, none⟩ v')) := fun nq v' w9 ho hg hb => by
        obtain ⟨g4, cap4, hv⟩ := own_some ho
        have t1 : Tch [] w3 ((w3.drewN nq).drew.alloc (.cells (Sn.row ⟨(n : Int), gg, bd, false, 0, false⟩).toArray 53)) := (((Tch.refl _ _).drewN nq).drew).alloc _
        have t2 : Tch (bl sv) w3 w9 := (t1.sub (by simp)).trans (grown_tch hg) (fun x hx _ => hx)
        have hl9 : Lh now tv w9 lb x c sv := HL3.out.tch t2 (fun e => own_ne HO3.out HL3.out (by decide) (mem_bl.1 e))
        have t3 : Tch [lb] w9 (w9.setCell ⟨lb, 17, none⟩ v') := (Tch.refl _ _).setCell (fun _ => by simp) _
        refine ⟨g4, cap4, hv, hl9.c17, frozen_of_row w9 _ 17 _ 42 hl9, HK.out w3 _ v' HR3.out (hl9.set17 v') (own_tch ho t3 (fun j hj hm' => ?_)) (NewOr.of t1.size hb) ?_⟩
        · simp at hm'
          subst hm'
          exact own_ne ho hl9 (by decide) hj
        · exact (t2.sub (fun x hx _ => List.mem_cons_of_mem _ hx)).trans t3 (fun x hx _ => by simp at hx; simp [hx])
      obtain ⟨sa, sc, hsv⟩ := own_shape HO3.out
      have q9 : w3.cell? ⟨wb.heap.size, 9, none⟩ = some (.string gg) := cell_qC HB3.out 9 _ rfl
      have q11 : w3.cell? ⟨wb.heap.size, 11, none⟩ = some (.string bd) := cell_qC HB3.out 11 _ rfl
      have lq := lt_of_block HB3.out
      clear HK
      by_cases h0 : 0 < ss.length
      · have hd : decide ((0 : Int) < (ss.length : Int)) = true := decide_eq_true (by omega)
        obtain ⟨g, rfl⟩ : ∃ g, sa = some ⟨g, 0, none⟩ := by
          rcases HO3.out.2 with ⟨_, h1⟩ | ⟨g, cap, cur, h0, _⟩
          · omega
          · rw [hsv] at h0
            simp at h0
            exact ⟨g, h0.1⟩
        have hml : ss.length - 1 < ss.length := by omega
        have inh : Inhabited Sn := ⟨⟨0, ⟨#[]⟩, ⟨#[]⟩, false, 0, false⟩⟩
        have d0 : w3.cell? ⟨g, (ss.length - 1) * 6, none⟩ = some (.int .i64 ss[ss.length - 1].num) := by
          have h2 := HO3.out
          rw [hsv] at h2
          have h1 := own_cells Sn.row 6 (fun _ => rfl) h2 (ss.length - 1) hml 0 (.int .i64 ss[ss.length - 1].num) (by
            rw [List.getElem!_eq_getElem?_getD, List.getElem?_eq_getElem hml]
            rfl)
          simpa using h1
        have hlast := hlt _ (List.getElem_mem hml)
        generalize ss[ss.length - 1].num = lastn at *
        have hle : ¬ ((n : Int) ≤ lastn) := by omega
        subst hsv
        clear hlt
        go_wp2_with fail
        go_quiet (fail)
        go_wp2_with fail
        have HF4 : Hid (∀ v' w9, _) := HFIN.out nq
        have c17' : (w3.drewN nq).cell? ⟨lb, 17, none⟩ = some (.slice (some ⟨g, 0, none⟩) ss.length sc) := c17
        have q9' : (w3.drewN nq).cell? ⟨wb.heap.size, 9, none⟩ = some (.string gg) := q9
        have q11' : (w3.drewN nq).cell? ⟨wb.heap.size, 11, none⟩ = some (.string bd) := q11
        have ll' : lb < (w3.drewN nq).heap.size := ll
        have lq' : wb.heap.size < (w3.drewN nq).heap.size := lq
        have HO4 : Hid ((w3.drewN nq).ownsRow 0 53 6 (.slice (some ⟨g, 0, none⟩) ss.length sc) ss.length (ss.flatMap Sn.row)) := HO3.out
        clear HFIN c17 q9 q11 ll lq HO3 HL3 HB3 HR3 HLN HT0 T2 HR2 HL2 HBX
        generalize w3.drewN nq = w4 at *
        have c17a : (w4.alloc (.cells (Sn.row ⟨(n : Int), gg, bd, false, 0, false⟩).toArray 53)).cell? ⟨lb, 17, none⟩ = some (.slice (some ⟨g, 0, none⟩) ss.length sc) := Lib.cell?_alloc_some _ c17'
        generalize ss.flatMap Sn.row = xs at *
        go_region_law (refine step_vals rfl (.tmp 80) (.tmp 87) 40 53 rfl Tryz.underlying40 (.agg #[.int .i64 0, .string ⟨#[]⟩, .string ⟨#[]⟩, .bool false, .int .i64 0, .bool false]) 6 64 info53 rfl (by decide) (by decide) (.slice (some ⟨g, 0, none⟩) ss.length sc) ss.length xs (by simp [Act.eval, Act.put]) (own_tch HO4.out ((Tch.refl [] _).drew.alloc _) (fun _ _ => by simp)) w4.heap.size (Sn.row ⟨(n : Int), gg, bd, false, 0, false⟩) 1 (by simp [Act.eval, Act.put]) rfl (by decide) (heap_alloc_new _ _) (by intro u hu; simp [Sn.row] at hu; rcases hu with rfl | rfl | rfl | rfl | rfl | rfl <;> rfl) (by omega) ?_; intro v' w9 ho3 hg3 hb3; obtain ⟨g4, cap4, hv4, c9, z9, hfin⟩ := HF4.out v' w9 ho3 hg3 hb3; subst hv4; clear ho3 hg3 hb3; have HFI2 : Hid (K _) := hfin; clear hfin)
        all_goals (go_wp2_with fail; go_ret; exact ⟨rfl, HFI2.out⟩)
      · have hd : decide ((0 : Int) < (ss.length : Int)) = false := decide_eq_false (by omega)
        subst hsv
        clear hlt
        go_wp2_with fail
        go_quiet (fail)
        go_wp2_with fail
        have HF4 : Hid (∀ v' w9, _) := HFIN.out nq
        have c17' : (w3.drewN nq).cell? ⟨lb, 17, none⟩ = some (.slice sa ss.length sc) := c17
        have q9' : (w3.drewN nq).cell? ⟨wb.heap.size, 9, none⟩ = some (.string gg) := q9
        have q11' : (w3.drewN nq).cell? ⟨wb.heap.size, 11, none⟩ = some (.string bd) := q11
        have ll' : lb < (w3.drewN nq).heap.size := ll
        have lq' : wb.heap.size < (w3.drewN nq).heap.size := lq
        have HO4 : Hid ((w3.drewN nq).ownsRow 0 53 6 (.slice sa ss.length sc) ss.length (ss.flatMap Sn.row)) := HO3.out
        clear HFIN c17 q9 q11 ll lq HO3 HL3 HB3 HR3 HLN HT0 T2 HR2 HL2 HBX
        generalize w3.drewN nq = w4 at *
        have c17a : (w4.alloc (.cells (Sn.row ⟨(n : Int), gg, bd, false, 0, false⟩).toArray 53)).cell? ⟨lb, 17, none⟩ = some (.slice sa ss.length sc) := Lib.cell?_alloc_some _ c17'
        generalize ss.flatMap Sn.row = xs at *
        go_region_law (refine step_vals rfl (.tmp 80) (.tmp 87) 40 53 rfl Tryz.underlying40 (.agg #[.int .i64 0, .string ⟨#[]⟩, .string ⟨#[]⟩, .bool false, .int .i64 0, .bool false]) 6 64 info53 rfl (by decide) (by decide) (.slice sa ss.length sc) ss.length xs (by simp [Act.eval, Act.put]) (own_tch HO4.out ((Tch.refl [] _).drew.alloc _) (fun _ _ => by simp)) w4.heap.size (Sn.row ⟨(n : Int), gg, bd, false, 0, false⟩) 1 (by simp [Act.eval, Act.put]) rfl (by decide) (heap_alloc_new _ _) (by intro u hu; simp [Sn.row] at hu; rcases hu with rfl | rfl | rfl | rfl | rfl | rfl <;> rfl) (by omega) ?_; intro v' w9 ho3 hg3 hb3; obtain ⟨g4, cap4, hv4, c9, z9, hfin⟩ := HF4.out v' w9 ho3 hg3 hb3; subst hv4; clear ho3 hg3 hb3; have HFI2 : Hid (K _) := hfin; clear hfin)
        all_goals (go_wp2_with fail; go_ret; exact ⟨rfl, HFI2.out⟩)
set_option maxHeartbeats 1000000 in
theorem fine_no (er : UInt8) (h : er ≠ 0) (w : World) : Calls Tryz.prog 35 #[.string ⟨#[er]⟩] w fun e w' => e = .returned (.bool false) ∧ w' = w := by
  have hp : 0 < (⟨#[er]⟩ : ByteArray).size := by show 0 < 1; omega
  have hb : (((((⟨#[er]⟩ : ByteArray)[0]).toNat : Nat) : Int) == 0) = false := by
    show (((er.toNat : Nat) : Int) == 0) = false
    rw [beq_eq_false_iff_ne]
    intro e
    exact h (UInt8.toNat_inj.1 (by simpa using e))
  generalize (⟨#[er]⟩ : ByteArray) = s at *
  go_enter Tryz.func35, Tryz.ntmps35
  go_wp2
  go_ret
  exact ⟨rfl, rfl⟩
def ddS (s : ByteArray) : ByteArray := if h : 0 < (sh s 8).size then (if (sh s 8)[0] = 0 then ⟨#[48]⟩ ++ (sh s 8).extract 1 (sh s 8).size else sh s 8) else sh s 8
set_option maxHeartbeats 1000000 in
theorem dedup_fn (s : ByteArray) (hs : s.size ≤ maxLen) : ((ddS s).size ≤ 8 ∧ Wp.dedOk (ddS s) = true) ∧ ∀ w, Calls Tryz.prog 17 #[.string s] w fun e w' => e = .returned (.string (ddS s)) ∧ w' = w := by
  have hsh : Hid (∀ w, Calls Tryz.prog 15 #[.string s, .int .i64 8] w fun e w' => e = .returned (.string (sh s 8)) ∧ w' = w) := fun w => short_any s 8 w hs (by decide)
  have hz := sh_size s 8
  unfold ddS
  generalize sh s 8 = t at hsh hz
  by_cases h : 0 < t.size
  · have he : t.toList.isEmpty = false := str_ne h
    rw [dif_pos h]
    by_cases h0 : t[0] = 0
    · have hb : (((t[0].toNat : Nat) : Int) == 0) = true := by rw [h0]; rfl
      rw [if_pos h0]
      refine ⟨⟨?_, ?_⟩, fun w => ?_⟩
      · simp [ByteArray.size_append]
        show 1 + _ ≤ 8
        omega
      · exact dedOk_head _ 48 (t.extract 1 t.size).data.toList (by simp [ByteArray.data_append]) (by decide)
      · go_enter Tryz.func17, Tryz.ntmps17
        go_wp2_with (go_at_call 15; refine (hsh.out _).mono ?_; rintro e w' ⟨rfl, rfl⟩)
        go_ret
        exact ⟨rfl, rfl⟩
    · have hb : (((t[0].toNat : Nat) : Int) == 0) = false := by
        rw [beq_eq_false_iff_ne]
        intro e
        exact h0 (UInt8.toNat_inj.1 (by simpa using e))
      rw [if_neg h0]
      refine ⟨⟨hz, by rw [Wp.dedOk, dif_pos h]; simpa using h0⟩, fun w => ?_⟩
      go_enter Tryz.func17, Tryz.ntmps17
      go_wp2_with (go_at_call 15; refine (hsh.out _).mono ?_; rintro e w' ⟨rfl, rfl⟩)
      go_ret
      exact ⟨rfl, rfl⟩
  · have he : t.toList.isEmpty = true := str_em h
    rw [dif_neg h]
    refine ⟨⟨hz, by rw [Wp.dedOk, dif_neg h]⟩, fun w => ?_⟩
    go_enter Tryz.func17, Tryz.ntmps17
    go_wp2_with (go_at_call 15; refine (hsh.out _).mono ?_; rintro e w' ⟨rfl, rfl⟩)
    go_ret
    exact ⟨rfl, rfl⟩
set_option maxRecDepth 8000 in
set_option maxHeartbeats 4000000 in
theorem sendR_walk (R : World → Prop) (er : UInt8) (her : er = 5 ∨ er = 6) (c : Wp.Rq) (lb x : Nat) (now : Int) (sv tv : Value) (ss : List Sn) (hs : List ByteArray) (kd a bb : Int) (grp ded bod gg dd bd : ByteArray) (w : World) (hln : Lh now tv w lb x c sv) (hl : ss.length ≤ 1000)
    (hN : ∀ W, Calls Tryz.prog 16 #[.string grp] W fun e w' => e = .returned (.string gg) ∧ w' = W) (hD : ∀ W, Calls Tryz.prog 17 #[.string ded] W fun e w' => e = .returned (.string dd) ∧ w' = W) (hS : ∀ W, Calls Tryz.prog 15 #[.string bod, .int .i64 40] W fun e w' => e = .returned (.string bd) ∧ w' = W)
    (hA : ∀ W, Tch [] w W → Calls Tryz.prog 18 #[.pointer (some ⟨x, 0, none⟩), .agg (sndD gg dd bd)] W fun e w' => e = .returned (.string (⟨#[er]⟩)) ∧ Lr w' lb x c now sv tv ss hs ∧ (∀ (k : Nat) (C : Array Value), W.heap[k]? = some (.cells C 27 (0, 0)) → w'.heap[k]? = some (.cells C 27 (0, 0))) ∧ R w') :
    Calls Tryz.prog 20 #[.pointer (some ⟨lb, 0, none⟩), .agg (stepD kd a bb grp ded bod)] w fun e w' => e = .returned (.bool true) ∧ R w' := by
  have HN : Hid (∀ W, Calls Tryz.prog 16 #[.string grp] W fun e w' => e = .returned (.string gg) ∧ w' = W) := hN
  have HD : Hid (∀ W, Calls Tryz.prog 17 #[.string ded] W fun e w' => e = .returned (.string dd) ∧ w' = W) := hD
  have HS : Hid (∀ W, Calls Tryz.prog 15 #[.string bod, .int .i64 40] W fun e w' => e = .returned (.string bd) ∧ w' = W) := hS
  clear hN hD hS
  obtain ⟨wb, hwb⟩ : ∃ wb, wb = w.alloc (.cells (stepD kd a bb grp ded bod) 33) := ⟨_, rfl⟩
  have HBX : Hid (wb.heap[w.heap.size]? = some (.cells (stepD kd a bb grp ded bod) 33 (0, 0))) := by rw [hwb]; exact heap_alloc_new _ _
  have HT0 : Hid (Tch [] w wb) := by rw [hwb]; exact (Tch.refl _ _).alloc _
  have HLN : Hid (Lh now tv w lb x c sv) := hln
  have HA : Hid (∀ W, Tch [] w W → _) := hA
  have HER : Hid (er = 5 ∨ er = 6) := her
  have b3 : wb.cell? ⟨w.heap.size, 3, none⟩ = some (.string grp) := cell_qC HBX.out 3 _ rfl
  have b4 : wb.cell? ⟨w.heap.size, 4, none⟩ = some (.string ded) := cell_qC HBX.out 4 _ rfl
  have b5 : wb.cell? ⟨w.heap.size, 5, none⟩ = some (.string bod) := cell_qC HBX.out 5 _ rfl
  have l1 := lt_of_block HBX.out
  clear hA her hln
  go_enter Tryz.func20, Tryz.ntmps20
  go_wp2_with fail
  rw [← hwb]
  clear hwb
  go_cut [5] (fun s5 wx => s5 = .pointer (some ⟨wb.heap.size, 0, none⟩) ∧ Tch [] wb wx ∧ wx.heap[wb.heap.size]? = some (.cells (sndD gg dd bd) 27 (0, 0)))
  case first =>
    go_region_held3 (fun w' => w'.cell? ⟨w.heap.size, 3, none⟩ = some (.string grp) ∧ w'.cell? ⟨w.heap.size, 4, none⟩ = some (.string ded) ∧ w'.cell? ⟨w.heap.size, 5, none⟩ = some (.string bod)) (go_keep) (first | (go_at_call 16; refine (HN.out _).mono ?_; rintro e w' ⟨rfl, h'⟩; have h'' := h'.symm; subst h'') | (go_at_call 17; refine (HD.out _).mono ?_; rintro e w' ⟨rfl, h'⟩; have h'' := h'.symm; subst h'') | (go_at_call 15; refine (HS.out _).mono ?_; rintro e w' ⟨rfl, h'⟩; have h'' := h'.symm; subst h''))
    all_goals (go_wp2_with fail; go_meet)
    all_goals exact ⟨rfl, ((Tch.refl _ _).alloc _).drew, heap_alloc_new _ _⟩
  case rest =>
    obtain ⟨rfl, ht2, hc2⟩ := hcut
    generalize wc = w2 at *
    have T2 : Hid (Tch [] w w2) := HT0.out.trans ht2 (by simp)
    have HR2 : Hid (w2.heap[wb.heap.size]? = some (.cells (sndD gg dd bd) 27 (0, 0))) := hc2
    have HC : Hid (Calls Tryz.prog 18 #[.pointer (some ⟨x, 0, none⟩), .agg (sndD gg dd bd)] w2.drew fun e w' => e = .returned (.string (⟨#[er]⟩)) ∧ Lr w' lb x c now sv tv ss hs ∧ w'.heap[wb.heap.size]? = some (.cells (sndD gg dd bd) 27 (0, 0)) ∧ R w') := by
      refine (HA.out w2.drew T2.out.drew).mono ?_
      rintro e w' ⟨he, h1, h3, h4⟩
      exact ⟨he, h1, h3 _ _ HR2.out, h4⟩
    have HL2 : Hid (Lh now tv w2 lb x c sv) := HLN.out.tch T2.out (by simp)
    have el : w2.cell? ⟨lb, 0, none⟩ = some (.pointer (some ⟨x, 0, none⟩)) := HL2.out.c0
    have e0 : w2.cell? ⟨wb.heap.size, 0, none⟩ = some (.int .u8 83) := cell_qC HR2.out 0 _ rfl
    have e1 : w2.cell? ⟨wb.heap.size, 1, none⟩ = some (.int .u8 97) := cell_qC HR2.out 1 _ rfl
    have e2 : w2.cell? ⟨wb.heap.size, 2, none⟩ = some (.int .u8 0) := cell_qC HR2.out 2 _ rfl
    have e3 : w2.cell? ⟨wb.heap.size, 3, none⟩ = some (.int .i64 0) := cell_qC HR2.out 3 _ rfl
    have e4 : w2.cell? ⟨wb.heap.size, 4, none⟩ = some (.int .i64 0) := cell_qC HR2.out 4 _ rfl
    have e5 : w2.cell? ⟨wb.heap.size, 5, none⟩ = some (.int .i64 0) := cell_qC HR2.out 5 _ rfl
    have e6 : w2.cell? ⟨wb.heap.size, 6, none⟩ = some (.int .i64 0) := cell_qC HR2.out 6 _ rfl
    have e7 : w2.cell? ⟨wb.heap.size, 7, none⟩ = some (.int .i64 0) := cell_qC HR2.out 7 _ rfl
    have e8 : w2.cell? ⟨wb.heap.size, 8, none⟩ = some (.int .i64 0) := cell_qC HR2.out 8 _ rfl
    have e9 : w2.cell? ⟨wb.heap.size, 9, none⟩ = some (.string gg) := cell_qC HR2.out 9 _ rfl
    have e10 : w2.cell? ⟨wb.heap.size, 10, none⟩ = some (.string dd) := cell_qC HR2.out 10 _ rfl
    have e11 : w2.cell? ⟨wb.heap.size, 11, none⟩ = some (.string bd) := cell_qC HR2.out 11 _ rfl
    have e12 : w2.cell? ⟨wb.heap.size, 12, none⟩ = some (.string ⟨#[]⟩) := cell_qC HR2.out 12 _ rfl
    have e13 : w2.cell? ⟨wb.heap.size, 13, none⟩ = some (.string ⟨#[]⟩) := cell_qC HR2.out 13 _ rfl
    have e14 : w2.cell? ⟨wb.heap.size, 14, none⟩ = some (.slice none 0 0) := cell_qC HR2.out 14 _ rfl
    have ltl := lt_of_block HL2.out
    have ltb := lt_of_block HR2.out
    clear ht2 hc2 b3 b4 b5 HN HD HS
    go_wp2_with fail
    go_region_held3 (fun w' => w'.cell? ⟨lb, 0, none⟩ = some (.pointer (some ⟨x, 0, none⟩)) ∧ w'.cell? ⟨wb.heap.size, 0, none⟩ = some (.int .u8 83) ∧ w'.cell? ⟨wb.heap.size, 1, none⟩ = some (.int .u8 97) ∧ w'.cell? ⟨wb.heap.size, 2, none⟩ = some (.int .u8 0) ∧ w'.cell? ⟨wb.heap.size, 3, none⟩ = some (.int .i64 0) ∧ w'.cell? ⟨wb.heap.size, 4, none⟩ = some (.int .i64 0) ∧ w'.cell? ⟨wb.heap.size, 5, none⟩ = some (.int .i64 0) ∧ w'.cell? ⟨wb.heap.size, 6, none⟩ = some (.int .i64 0) ∧ w'.cell? ⟨wb.heap.size, 7, none⟩ = some (.int .i64 0) ∧ w'.cell? ⟨wb.heap.size, 8, none⟩ = some (.int .i64 0) ∧ w'.cell? ⟨wb.heap.size, 9, none⟩ = some (.string gg) ∧ w'.cell? ⟨wb.heap.size, 10, none⟩ = some (.string dd) ∧ w'.cell? ⟨wb.heap.size, 11, none⟩ = some (.string bd) ∧ w'.cell? ⟨wb.heap.size, 12, none⟩ = some (.string ⟨#[]⟩) ∧ w'.cell? ⟨wb.heap.size, 13, none⟩ = some (.string ⟨#[]⟩) ∧ w'.cell? ⟨wb.heap.size, 14, none⟩ = some (.slice none 0 0)) (go_keep) (first | (go_at_call 18; refine HC.out.mono ?_; rintro e w3 ⟨rfl, hlr3, hbx, hR3⟩; have kl := hlr3.c0; have k0 := cell_qC hbx 0 (.int .u8 83) rfl; have k1 := cell_qC hbx 1 (.int .u8 97) rfl; have k2 := cell_qC hbx 2 (.int .u8 0) rfl; have k3 := cell_qC hbx 3 (.int .i64 0) rfl; have k4 := cell_qC hbx 4 (.int .i64 0) rfl; have k5 := cell_qC hbx 5 (.int .i64 0) rfl; have k6 := cell_qC hbx 6 (.int .i64 0) rfl; have k7 := cell_qC hbx 7 (.int .i64 0) rfl; have k8 := cell_qC hbx 8 (.int .i64 0) rfl; have k9 := cell_qC hbx 9 (.string gg) rfl; have k10 := cell_qC hbx 10 (.string dd) rfl; have k11 := cell_qC hbx 11 (.string bd) rfl; have k12 := cell_qC hbx 12 (.string ⟨#[]⟩) rfl; have k13 := cell_qC hbx 13 (.string ⟨#[]⟩) rfl; have k14 := cell_qC hbx 14 (.slice none 0 0) rfl))
    have HL3 : Hid (Lh now tv w3 lb x c sv) := hlr3.ln
    have HO3 : Hid (w3.ownsRow 0 53 6 sv ss.length (ss.flatMap Sn.row)) := hlr3.row
    have HLR : Hid (Lr w3 lb x c now sv tv ss hs) := hlr3
    have HB3 : Hid (w3.heap[wb.heap.size]? = some (.cells (sndD gg dd bd) 27 (0, 0))) := hbx
    have HR3 : Hid (R w3) := hR3
    clear hlr3 hbx hR3 el ltl ltb kl e0 k0 e1 k1 e2 k2 e3 k3 e4 k4 e5 k5 e6 k6 e7 k7 e8 k8 e9 k9 e10 k10 e11 k11 e12 k12 e13 k13 e14 k14
    have HFI : Hid (∀ W, Calls Tryz.prog 35 #[.string ⟨#[er]⟩] W fun e w' => e = .returned (.bool false) ∧ w' = W) := fun W => fine_no er (by rcases HER.out with rfl | rfl <;> decide) W
    clear HA HC HLR HL3 HO3 HB3 HL2 HR2 T2 HLN HT0
    rcases HER.out with rfl | rfl
    all_goals
      go_wp2_with fail
      refine (HFI.out _).mono ?_
      rintro e w' ⟨rfl, h'⟩
      have h'' := h'.symm
      subst h''
      go_wp2_with fail
      go_ret
      exact ⟨rfl, HR3.out⟩
abbrev sndQd (g d b : ByteArray) : Wp.Rq := ⟨83, 97, 0, 0, 0, 0, 0, 0, 0, g, d, b, ⟨#[]⟩, ⟨#[]⟩⟩
theorem Did.k27 {B x st b : Nat} {w w' : World} {col : Nat → Nat} {now : Int} {c : Nat → Option QM} (h : Did B x st b w col now c w') : ∀ (k : Nat) (C : Array Value), w.heap[k]? = some (.cells C 27 (0, 0)) → w'.heap[k]? = some (.cells C 27 (0, 0)) := fun k C hk => h.kp k C 27 (.inl rfl) hk
theorem send_p (B : Nat) (w0 w : World) (x st b lb : Nat) (now : Int) (cq : Wp.Rq) (Q : QM) (sv tv : Value) (ss : List Sn) (ps : List (Nat × Nat)) (kd a bb : Int) (grp ded bod : ByteArray) (hg : grp.size ≤ maxLen) (hd : ded.size ≤ maxLen) (hbo : bod.size ≤ maxLen) (h : OP B w0 w x st b lb now cq Q sv tv ss ps) :
    Calls Tryz.prog 20 #[.pointer (some ⟨lb, 0, none⟩), .agg #[.int .i64 kd, .int .i64 a, .int .i64 bb, .string grp, .string ded, .string bod]] w fun e w' => e = .returned (.bool true) ∧ ∃ Q' sv' ss', OP B w0 w' x st b lb now cq Q' sv' tv ss' ps ∧ flyCnt Q ≤ flyCnt Q' := by
  have hW := h.wf
  have hnx := hW.nx
  have hsl : ss.length ≤ 200 := h.pr.len hnx.2
  obtain ⟨hg1, hg8⟩ := nmS_size grp
  obtain ⟨⟨hd8, hdo⟩, hD⟩ := dedup_fn ded hd
  have hb40 := sh_size bod 40
  have hN : ∀ W, Calls Tryz.prog 16 #[.string grp] W fun e w' => e = .returned (.string (nmS grp)) ∧ w' = W := fun W => named_d grp W hg
  have hS : ∀ W, Calls Tryz.prog 15 #[.string bod, .int .i64 40] W fun e w' => e = .returned (.string (sh bod 40)) ∧ w' = W := fun W => short_any bod 40 W hbo (by decide)
  generalize nmS grp = gg at *
  generalize ddS ded = dd at *
  generalize sh bod 40 = bd at *
  have hsnd := snd_of gg dd bd hg1 hg8 hd8 hdo hb40
  have hrok := hsnd.rok
  have hask : ∀ {A : ByteArray} {c' : Nat → Option QM}, (∀ (W : World) (col : Nat → Nat), Env B W → Bk B W x st b now (oneC Q) col → ∀ Z o room, SG B W st b now Z col → ctZ Z = oneC Q → ∀ (W' : World) (y : Sl), Tch [] W W' → Calls Tryz.prog 62 #[.pointer (some ⟨st, 0, none⟩), .agg (cellsOf (sndQd gg dd bd) y.v)] W' fun e w' => Tch [] W' w' ∧ PlG B (fun w => Jg B w x st o room) (fun t w' => t = A ∧ Did B x st b W col now c' w') e w') →
      ∀ W, Tch [] w W → Calls Tryz.prog 18 #[.pointer (some ⟨x, 0, none⟩), .agg (sndD gg dd bd)] W fun e w' => e = .returned (.string A) ∧ Lr w' lb x cq now sv tv ss (ps.map hB) ∧ (∀ (k : Nat) (C : Array Value), W.heap[k]? = some (.cells C 27 (0, 0)) → w'.heap[k]? = some (.cells C 27 (0, 0))) ∧ OL B w0 w' x st b lb now c' cq sv tv ss (ps.map hB) := fun {A c'} hP W ht => by
    have hO := h.ol.tch ht
    obtain ⟨col, hb, h9⟩ := hO.bk
    refine (ask_op (A := A) (Dd := Did B x st b W col now c') B (sndQd gg dd bd) x st b now (oneC Q) col W hO.env hb hrok (hP W col hO.env hb)).mono ?_
    rintro e w' ⟨rfl, hd'⟩
    have hO' := hO.did h9 hd'
    exact ⟨rfl, hO'.lr, hd'.k27, hO'⟩
  by_cases hid : idxL (isI (didS (sndQd gg dd bd))) Q.ds < 0
  · by_cases hquo : (Q.ms.length : Int) < Q.c.quo
    · by_cases hk : Q.next ≤ 200
      · -- a new one
        have hA := hask (A := okN Q.next) (c' := setC (oneC Q) 0 (some (sendQ Q (sndQd gg dd bd) now))) (fun W col hE hb Z o room hs hc W' y ht => op_S B (sndQd gg dd bd) x st b 0 now (oneC Q) col W hE hb rfl (by omega) rfl Q rfl hid hb40 ⟨hg1, hg8⟩ hd8 hquo hk Z o room hs hc W' y ht)
        refine sendG_walk (fun w' => ∃ Q' sv' ss', OP B w0 w' x st b lb now cq Q' sv' tv ss' ps ∧ flyCnt Q ≤ flyCnt Q') _ cq lb x Q.next now sv tv ss (ps.map hB) kd a bb grp ded bod gg dd bd w h.ol.lr.ln (by omega) (by omega) hN hD hS hA (.inr ⟨?_, fun m hm => (h.pr.sn m hm).2, ?_⟩)
        · exact (idxL_neg _ _).2 (fun m hm => by
            have := (h.pr.sn m hm).2
            exact beq_eq_false_iff_ne.2 (by omega))
        · intro w1 w' sv' hR hlh how hnew ht
          rw [set_oneC] at hR
          obtain ⟨col, hb, h9⟩ := hR.bk
          have htow : w'.ownsRow 0 9 1 tv (ps.map hB).length ((ps.map hB).map Value.string) := own_tch hR.lr.tow ht (fun j hj hm => by
            rcases List.mem_cons.1 hm with rfl | hm2
            · exact own_ne hR.lr.tow hR.lr.ln (by decide) hj
            · rcases hR.lr.row.2 with ⟨e, _⟩ | ⟨g', cap', cur, e, _, hr, _⟩
              · have := mem_bl.1 hm2
                rw [e] at this
                simp [Value.ownBlock] at this
              · have := mem_bl.1 hm2
                rw [e] at this
                simp [Value.ownBlock] at this
                subst this
                exact own_ne hR.lr.tow hr (by decide) hj)
          have hlr' : Lr w' lb x cq now sv' tv (ss ++ [⟨(Q.next : Nat), gg, bd, false, 0, false⟩]) (ps.map hB) := ⟨hlh, by simpa using how, htow⟩
          have hol := OL.put (sv' := sv') (tv' := tv) hb h9 hR.lr hR.lb hR.lo hR.env hR.bel (ht.sub (by
            intro k hk _
            simp only [List.mem_cons, List.mem_append] at hk ⊢
            rcases hk with h | h
            · exact .inl h
            · exact .inr (.inl h))) hlr' (fun k hk => .inl hk) (fun k hk => hnew k hk)
          exact ⟨_, sv', _, ⟨hol, h.pr.sent hnx.1 (sndQd gg dd bd), h.cc⟩, by
            show Q.ms.countP fly0 ≤ (Q.ms ++ _).countP fly0
            rw [List.countP_append]
            omega⟩
      · refine sendR_walk (fun w' => ∃ Q' sv' ss', OP B w0 w' x st b lb now cq Q' sv' tv ss' ps ∧ flyCnt Q ≤ flyCnt Q') 6 (.inr rfl) cq lb x now sv tv ss (ps.map hB) kd a bb grp ded bod gg dd bd w h.ol.lr.ln (by omega) hN hD hS (fun W ht => ?_)
        refine (hask (A := ⟨#[6]⟩) (c' := oneC Q) (fun W col hE hb Z o room hs hc W' y ht => op_Sr B (sndQd gg dd bd) x st b 0 now (oneC Q) col W hE hb rfl (by omega) rfl Q rfl hid hb40 6 (.inr ⟨rfl, hquo, by omega⟩) Z o room hs hc W' y ht) W ht).mono ?_
        rintro e w' ⟨he, h1, h2, h3⟩
        exact ⟨he, h1, h2, Q, sv, ss, ⟨h3, h.pr, h.cc⟩, Nat.le_refl _⟩
    · refine sendR_walk (fun w' => ∃ Q' sv' ss', OP B w0 w' x st b lb now cq Q' sv' tv ss' ps ∧ flyCnt Q ≤ flyCnt Q') 5 (.inl rfl) cq lb x now sv tv ss (ps.map hB) kd a bb grp ded bod gg dd bd w h.ol.lr.ln (by omega) hN hD hS (fun W ht => ?_)
      refine (hask (A := ⟨#[5]⟩) (c' := oneC Q) (fun W col hE hb Z o room hs hc W' y ht => op_Sr B (sndQd gg dd bd) x st b 0 now (oneC Q) col W hE hb rfl (by omega) rfl Q rfl hid hb40 5 (.inl ⟨rfl, by omega⟩) Z o room hs hc W' y ht) W ht).mono ?_
      rintro e w' ⟨he, h1, h2, h3⟩
      exact ⟨he, h1, h2, Q, sv, ss, ⟨h3, h.pr, h.cc⟩, Nat.le_refl _⟩
  · -- it was taken already
    obtain ⟨p, hp⟩ : ∃ p : Nat, idxL (isI (didS (sndQd gg dd bd))) Q.ds = (p : Int) := ⟨_, (Int.toNat_of_nonneg (by omega)).symm⟩
    obtain ⟨hpl, _⟩ := idxL_at _ _ p hp
    have hmem := List.getElem_mem hpl
    have hnum := (hW.dok _ hmem).2.1
    obtain ⟨num, hnn⟩ : ∃ num : Nat, Q.ds[p].num = (num : Int) := ⟨Q.ds[p].num.toNat, (Int.toNat_of_nonneg (Int.le_trans (by omega) hnum.1)).symm⟩
    obtain ⟨⟨s, hs, hsn⟩, hwin⟩ := h.pr.ds _ hmem
    have hA := hask (A := okN num) (c' := oneC Q) (fun W col hE hb Z o room hs hc W' y ht => op_Sf B (sndQd gg dd bd) x st b 0 p num now (oneC Q) col W hE hb rfl (by omega) rfl Q rfl hb40 hp hpl hnn Z o room hs hc W' y ht)
    refine sendG_walk (fun w' => ∃ Q' sv' ss', OP B w0 w' x st b lb now cq Q' sv' tv ss' ps ∧ flyCnt Q ≤ flyCnt Q') _ cq lb x num now sv tv ss (ps.map hB) kd a bb grp ded bod gg dd bd w h.ol.lr.ln (by omega) (by omega) hN hD hS hA (.inl ⟨?_, ?_, ?_⟩)
    · exact (idxL_ex _ _).2 ⟨s, hs, by show (s.num == (num : Int)) = true; rw [hsn, hnn]; simp⟩
    · rw [← h.cc.2.2]
      exact hwin
    · exact fun w' ho => ⟨Q, sv, ss, ⟨ho, h.pr, h.cc⟩, Nat.le_refl _⟩
end Go.Proofs.YtbdobaapadlcjaaGreatDoor
