import Derived.Test.YtbdobaapadlcjaaGreatDoorOx41
namespace Go.Proofs.YtbdobaapadlcjaaGreatDoor
open Go.RowKit
set_option linter.unusedVariables false
set_option linter.unusedSimpArgs false
theorem hB_two (p : Nat × Nat) : (hB p).extract 0 2 = ⟨#[72, 97]⟩ := by
  apply ByteArray.ext
  apply Array.ext'
  rw [Lib.extract_data]
  show (((hanB 97 p.1 p.2).take 2).drop 0) = [72, 97]
  simp [hanB]
theorem Lr.set18 {w : World} {lb x : Nat} {c : Wp.Rq} {now : Int} {sv tv : Value} (h : w.heap[lb]? = some (.cells (lnG x c now sv tv) 42 (0, 0))) (v' : Value) : (w.setCell ⟨lb, 18, none⟩ v').heap[lb]? = some (.cells (lnG x c now sv v') 42 (0, 0)) := by
  exact heap_setCell_same w lb 18 _ 42 _ h
theorem Lr.tell {w : World} {lb x : Nat} {c : Wp.Rq} {now : Int} {sv tv : Value} {ss : List Sn} {hs : List ByteArray} (h : Lr w lb x c now sv tv ss hs) (hn : ByteArray) (v' : Value) (w9 : World) (ho : w9.ownsRow 0 9 1 v' (hs.length + 1) (hs.map Value.string ++ [.string hn])) (hg : (w.drew.alloc (.cells #[.string hn] 9)).grownBy w9 tv.ownBlock) (hb : v'.ownBlock = tv.ownBlock ∨ v'.ownBlock = some (w.drew.alloc (.cells #[.string hn] 9)).heap.size) :
    ∃ g4 cap4, v' = .slice (some ⟨g4, 0, none⟩) (hs.length + 1) cap4 ∧ w9.cell? ⟨lb, 18, none⟩ = some tv ∧ w9.frozen? ⟨lb, 18, none⟩ = false ∧ Lr (w9.setCell ⟨lb, 18, none⟩ v') lb x c now sv v' ss (hs ++ [hn]) ∧ Tch (lb :: bl tv) w (w9.setCell ⟨lb, 18, none⟩ v') ∧ ∀ k, v'.ownBlock = some k → tv.ownBlock = some k ∨ w.heap.size ≤ k := by
  obtain ⟨g4, cap4, hv⟩ := own_some ho
  have t1 : Tch [] w (w.drew.alloc (.cells #[.string hn] 9)) := (Tch.refl _ _).drew.alloc _
  have t2 : Tch (bl tv) w w9 := (t1.sub (by simp)).trans (grown_tch hg) (fun x hx _ => hx)
  have hl9 : w9.heap[lb]? = some (.cells (lnG x c now sv tv) 42 (0, 0)) := (t2.block _ h.lt (fun e => own_ne h.tow h.ln (by decide) (mem_bl.1 e))).trans h.ln
  have t3 : Tch [lb] w9 (w9.setCell ⟨lb, 18, none⟩ v') := (Tch.refl _ _).setCell (fun _ => by simp) _
  have hr9 : w9.ownsRow 0 53 6 sv ss.length (ss.flatMap Sn.row) := own_tch h.row t2 (fun j hj hm' => by
    have hm2 := mem_bl.1 hm'
    rcases h.tow.2 with ⟨e, _⟩ | ⟨g', cap', cur, e, _, hr, _⟩
    · rw [e] at hm2
      simp [Value.ownBlock] at hm2
    · rw [e] at hm2
      simp [Value.ownBlock] at hm2
      subst hm2
      exact own_ne h.row hr (by decide) hj)
  refine ⟨g4, cap4, hv, cell_qC hl9 18 _ rfl, frozen_of_row w9 _ 18 _ 42 hl9, ⟨Lr.set18 hl9 v', own_tch hr9 t3 (fun j hj hm' => ?_), own_tch (by simpa using ho) t3 (fun j hj hm' => ?_)⟩, ?_, fun k hk => ?_⟩
  · simp at hm'
    subst hm'
    exact own_ne hr9 hl9 (by decide) hj
  · simp at hm'
    subst hm'
    exact own_ne ho hl9 (by decide) hj
  · exact (t2.sub (fun x hx _ => List.mem_cons_of_mem _ hx)).trans t3 (fun x hx _ => by simp at hx; simp [hx])
  · rcases hb with e | e
    · exact .inl (e.symm.trans hk)
    · rw [hk] at e
      injection e with e
      have := t1.size
      exact .inr (by omega)
theorem ba_of_beq {a b : ByteArray} (h : (a.toList == b.toList) = true) : a = b := by
  have h1 : a.toList = b.toList := by simpa using h
  rw [ByteArray.toList_eq, ByteArray.toList_eq] at h1
  exact ByteArray.ext (Array.ext' h1)
def toldS (s : Sn) (t : Int) : Sn := { s with fl := true, til := t }
theorem told_end {lb x : Nat} {c : Wp.Rq} {now : Int} {g n sc : Nat} {tv tv' : Value} {ss' : List Sn} (hs : List ByteArray) (p : Nat × Nat) {hn : ByteArray} {w w5 w' : World} (hh : hB p = hn) (h5 : Tch [g] w w5) (h : Lr w' lb x c now (.slice (some ⟨g, 0, none⟩) n sc) tv' ss' (hs ++ [hn]) ∧ Tch (lb :: bl tv) w5 w' ∧ ∀ k, tv'.ownBlock = some k → tv.ownBlock = some k ∨ w5.heap.size ≤ k) :
    ∃ tv', Lr w' lb x c now (.slice (some ⟨g, 0, none⟩) n sc) tv' ss' (hs ++ [hn]) ∧ Tch (lb :: (bl (.slice (some ⟨g, 0, none⟩) n sc) ++ bl tv)) w w' ∧ ∀ k, tv'.ownBlock = some k → tv.ownBlock = some k ∨ w.heap.size ≤ k := by
  obtain ⟨h1, h2, h3⟩ := h
  have hz := h5.size
  refine ⟨tv', h1, ?_, fun k hk => (h3 k hk).imp id (fun h => by omega)⟩
  have e : bl (.slice (some ⟨g, 0, none⟩) n sc) = [g] := rfl
  rw [e]
  exact (h5.sub (by simp)).trans (h2.sub (by intro k hk; simp at hk; rcases hk with rfl | hk <;> simp [*])) (fun x hx _ => hx)
set_option maxRecDepth 8000 in
set_option maxHeartbeats 8000000 in
theorem heard_g (lb x : Nat) (c : Wp.Rq) (now : Int) (sv tv : Value) (ss : List Sn) (hs : List ByteArray) (p : Nat × Nat) (i : Nat) (w : World) (h : Lr w lb x c now sv tv ss hs) (hl : ss.length ≤ 1000) (hps : hs.length ≤ 4000000000000) (hp : p.1 < 4294967296) (hi : i < ss.length)
    (hx : idxL (fun m => m.num == (p.1 : Int)) ss = (i : Int)) (hgo : ss[i].gone = false) (hfirst : ∀ k (hk : k < ss.length), ss[k].grp = ss[i].grp → ss[k].gone = false → ss[k].fl = false ∧ i ≤ k) (hb : -1000000 ≤ now + c.vis ∧ now + c.vis ≤ 1000000) :
    Calls Tryz.prog 54 #[.pointer (some ⟨lb, 0, none⟩), .agg #[.string (hB p), .string ss[i].grp, .string ss[i].bod]] w fun e w' => e = .returned (.bool true) ∧ ∃ tv', Lr w' lb x c now sv tv' (ss.set i (toldS ss[i] (now + c.vis))) (hs ++ [hB p]) ∧ Tch (lb :: (bl sv ++ bl tv)) w w' ∧ ∀ k, tv'.ownBlock = some k → tv.ownBlock = some k ∨ w.heap.size ≤ k := by
  have hsz := hB_size p
  have h2 := hB_two p
  have HSQ : Hid (∀ W, Calls Tryz.prog 26 #[.string (hB p)] W fun e w' => e = .returned (.int .i64 (p.1 : Int)) ∧ w' = W) := fun W => seq_any 97 p.1 p.2 hp W
  obtain ⟨sa, sc, rfl⟩ := own_shape h.row
  obtain ⟨g, rfl, lg, hc⟩ := h.sc i hi
  have HL : Hid (∀ w', Tch [] w w' → Lr w' lb x c now (.slice (some ⟨g, 0, none⟩) ss.length sc) tv ss hs) := fun w' ht => h.tch ht
  have HFD : Hid (∀ W, Tch [] w W → Calls Tryz.prog 37 #[.pointer (some ⟨lb, 0, none⟩), .int .i64 (p.1 : Int)] W fun e w' => e = .returned (.int .i64 (i : Int)) ∧ w' = W) := fun W ht => by
    rw [← hx]
    exact find_g lb x c now _ tv ss _ (p.1 : Int) W (h.tch ht) hl
  have g1 : w.cell? ⟨g, i * 6 + 1, none⟩ = some (.string ss[i].grp) := hc 1 _ rfl
  have g2 : w.cell? ⟨g, i * 6 + 2, none⟩ = some (.string ss[i].bod) := hc 2 _ rfl
  have g5 : w.cell? ⟨g, i * 6 + 5, none⟩ = some (.bool ss[i].gone) := hc 5 _ rfl
  rw [hgo] at g5
  have c17 := h.c17
  have ll := h.lt
  have HFI : Hid (∀ k (hk : k < ss.length), ss[k].grp = ss[i].grp → ss[k].gone = false → ss[k].fl = false ∧ i ≤ k) := hfirst
  clear hc hx hfirst h
  generalize hgg : ss[i].grp = gr at *
  generalize hbb : ss[i].bod = bo at *
  generalize hhn : hB p = hn at *
  have HHN : Hid (hB p = hn) := hhn
  clear hhn
  have HBX : Hid (∀ w', Tch [] (w.alloc (.cells #[.string hn, .string gr, .string bo] 50)) w' → w'.heap[w.heap.size]? = some (.cells #[.string hn, .string gr, .string bo] 50 (0, 0))) := fun w' ht => (ht.block _ (lt_of_block (heap_alloc_new _ _)) (by simp)).trans (heap_alloc_new _ _)
  have k1 := Lib.cell?_alloc_some (W := w) (.cells #[.string hn, .string gr, .string bo] 50) g1
  have k2 := Lib.cell?_alloc_some (W := w) (.cells #[.string hn, .string gr, .string bo] 50) g2
  have k5 := Lib.cell?_alloc_some (W := w) (.cells #[.string hn, .string gr, .string bo] 50) g5
  have k17 := Lib.cell?_alloc_some (W := w) (.cells #[.string hn, .string gr, .string bo] 50) c17
  go_enter Tryz.func54, Tryz.ntmps54
  go_wp2_with fail
  refine (HSQ.out _).mono ?_
  rintro e w2 ⟨rfl, h2'⟩
  have h2s := h2'.symm
  subst h2s
  go_wp2_with fail
  refine (HFD.out _ ((Tch.refl [] w).alloc _)).mono ?_
  rintro e w2 ⟨rfl, h2'⟩
  have h2s := h2'.symm
  subst h2s
  go_wp2_with fail
  go_quiet (fail)
  go_wp2_with fail
  clear k1 k2 k5 k17 g1 g2 g5 c17 HSQ HFD
  go_loopw [7] (fun v wr => ∃ j : Nat, j ≤ ss.length ∧ v = .int .i64 (j : Int) ∧ Tch [] w wr ∧ wr.heap[w.heap.size]? = some (.cells #[.string hn, .string gr, .string bo] 50 (0, 0))) (fun v _ => ss.length - (intOf v).toNat)
  case atStart => exact ⟨0, Nat.zero_le _, rfl, ((Tch.refl [] w).alloc _).drewN _, HBX.out _ ((Tch.refl [] _).drewN _)⟩
  case round =>
    obtain ⟨k, hk, rfl, ht, hbx⟩ := hrel
    have hLr := HL.out _ ht
    have d17 := hLr.c17
    have lr := hLr.lt
    have b0 : wr.cell? ⟨w.heap.size, 0, none⟩ = some (.string hn) := cell_qC hbx 0 _ rfl
    have b1 : wr.cell? ⟨w.heap.size, 1, none⟩ = some (.string gr) := cell_qC hbx 1 _ rfl
    have lbx := lt_of_block hbx
    by_cases hkl : k < ss.length
    · obtain ⟨g', he', lg', hc'⟩ := hLr.sc k hkl
      simp only [Option.some.injEq, Addr.mk.injEq, and_true] at he'
      subst he'
      have e0 : wr.cell? ⟨g, k * 6, none⟩ = some (.int .i64 ss[k].num) := hc' 0 _ rfl
      have e1 : wr.cell? ⟨g, k * 6 + 1, none⟩ = some (.string ss[k].grp) := hc' 1 _ rfl
      have e2 : wr.cell? ⟨g, k * 6 + 2, none⟩ = some (.string ss[k].bod) := hc' 2 _ rfl
      have e3 : wr.cell? ⟨g, k * 6 + 3, none⟩ = some (.bool ss[k].fl) := hc' 3 _ rfl
      have e4 : wr.cell? ⟨g, k * 6 + 4, none⟩ = some (.int .i64 ss[k].til) := hc' 4 _ rfl
      have e5 : wr.cell? ⟨g, k * 6 + 5, none⟩ = some (.bool ss[k].gone) := hc' 5 _ rfl
      have HF1 : Hid (ss[k].grp = gr → ss[k].gone = false → ss[k].fl = false ∧ i ≤ k) := HFI.out k hkl
      have HT1 : Hid (∀ o, Tch [] w (wr.alloc o) ∧ (wr.alloc o).heap[w.heap.size]? = some (.cells #[.string hn, .string gr, .string bo] 50 (0, 0))) := fun o => ⟨ht.alloc _, by
        have h1 : Tch [] wr (wr.alloc o) := (Tch.refl _ _).alloc _
        exact (h1.block _ lbx (by simp)).trans hbx⟩
      clear hc' hLr ht hbx
      generalize hsn : ss[k].num = sn at *
      generalize hsg : ss[k].grp = sg at *
      generalize hsb : ss[k].bod = sb at *
      generalize hsf : ss[k].fl = sf at *
      generalize hst : ss[k].til = st at *
      generalize hso : ss[k].gone = so at *
      clear hsn hsg hsb hsf hst hso
      by_cases hg : (sg.toList == gr.toList) = true
      · cases so with
        | true =>
          clear HF1
          go_wp2_with fail
          go_roundw
          case rel => exact ⟨k + 1, by omega, by go_num, HT1.out _⟩
          case measure => simp [intOf]; omega
        | false =>
          obtain ⟨rfl, hik⟩ := HF1.out (ba_of_beq hg) rfl
          have hki : ¬ ((k : Int) < (i : Int)) := by omega
          clear HF1
          go_wp2_with fail
          go_roundw
          case rel => exact ⟨k + 1, by omega, by go_num, HT1.out _⟩
          case measure => simp [intOf]; omega
      · have hg' : (sg.toList == gr.toList) = false := by simpa using hg
        clear HF1 hg
        go_wp2_with fail
        go_roundw
        case rel => exact ⟨k + 1, by omega, by go_num, HT1.out _⟩
        case measure => simp [intOf]; omega
    · obtain ⟨g', he', lg', hc'⟩ := hLr.sc i hi
      simp only [Option.some.injEq, Addr.mk.injEq, and_true] at he'
      subst he'
      obtain ⟨C, hC⟩ : ∃ C, wr.heap[g]? = some (.cells C 53 (0, 0)) := by
        rcases hLr.row.2 with ⟨e, _⟩ | ⟨g', cap', cur, e, _, hr, _⟩
        · simp at e
        · simp at e
          obtain ⟨e1, _⟩ := e
          subst e1
          exact ⟨_, hr⟩
      have hgb : w.heap.size ≠ g := by omega
      have hgl : lb ≠ g := fun e => by
        have h1 := hLr.ln
        rw [e, hC] at h1
        simp at h1
      have e3 : wr.cell? ⟨g, i * 6 + 3, none⟩ = some (.bool ss[i].fl) := hc' 3 _ rfl
      have z3 : wr.frozen? ⟨g, i * 6 + 3, none⟩ = false := frozen_of_row wr _ _ _ 53 hC
      obtain ⟨L1, T1⟩ := hLr.setS i 3 (.bool true) { ss[i] with fl := true } hi (by omega) rfl
      obtain ⟨W1, hW1⟩ : ∃ W1, W1 = wr.setCell ⟨g, i * 6 + 3, none⟩ (.bool true) := ⟨_, rfl⟩
      rw [← hW1] at L1 T1
      have hi1 : i < (ss.set i { ss[i] with fl := true }).length := by rw [List.length_set]; exact hi
      have hln1 : (ss.set i { ss[i] with fl := true }).length = ss.length := List.length_set
      rw [← hln1] at L1
      obtain ⟨g', he', lg1, hc1⟩ := L1.sc i hi1
      simp only [Option.some.injEq, Addr.mk.injEq, and_true] at he'
      subst he'
      have hC1 : ∃ C, W1.heap[g]? = some (.cells C 53 (0, 0)) := by
        rcases L1.row.2 with ⟨e, _⟩ | ⟨g', cap', cur, e, _, hr, _⟩
        · simp at e
        · simp at e
          obtain ⟨e1, _⟩ := e
          subst e1
          exact ⟨_, hr⟩
      obtain ⟨C1, hC1⟩ := hC1
      have m4 : W1.cell? ⟨g, i * 6 + 4, none⟩ = some (.int .i64 ss[i].til) := hc1 4 _ (by rw [List.getElem_set_self]; rfl)
      have z4 : W1.frozen? ⟨g, i * 6 + 4, none⟩ = false := frozen_of_row W1 _ _ _ 53 hC1
      obtain ⟨L2, T2⟩ := L1.setS i 4 (.int .i64 (now + c.vis)) (toldS ss[i] (now + c.vis)) hi1 (by omega) (by rw [List.getElem_set_self]; rfl)
      rw [List.set_set, hln1] at L2
      rw [hln1] at L1
      have m17 := L1.c17
      have m16 := L1.c16
      have m4v := L1.c4
      have lW1 := L1.lt
      have T12 : Tch [g] w (W1.setCell ⟨g, i * 6 + 4, none⟩ (.int .i64 (now + c.vis))).drew := (((ht.sub (by simp)).trans T1 (fun x hx _ => hx)).trans T2 (fun x hx _ => hx)).drew
      have L3 : Lr (W1.setCell ⟨g, i * 6 + 4, none⟩ (.int .i64 (now + c.vis))).drew lb x c now (.slice (some ⟨g, 0, none⟩) ss.length sc) tv (ss.set i (toldS ss[i] (now + c.vis))) hs := L2.tch (Tch.refl [] _).drew
      have o0 : (W1.setCell ⟨g, i * 6 + 4, none⟩ (.int .i64 (now + c.vis))).drew.cell? ⟨w.heap.size, 0, none⟩ = some (.string hn) := by
        have h1 : Tch [g] wr (W1.setCell ⟨g, i * 6 + 4, none⟩ (.int .i64 (now + c.vis))).drew := (T1.trans T2 (fun x hx _ => hx)).drew
        exact (h1.cell (a := ⟨w.heap.size, 0, none⟩) lbx (by simpa using hgb)).trans b0
      have q17 := L3.c17
      have q16 := L3.c16
      have q4 := L3.c4
      have HL3 : Hid (Lr (W1.setCell ⟨g, i * 6 + 4, none⟩ (.int .i64 (now + c.vis))).drew lb x c now (.slice (some ⟨g, 0, none⟩) ss.length sc) tv (ss.set i (toldS ss[i] (now + c.vis))) hs ∧ Tch [g] w (W1.setCell ⟨g, i * 6 + 4, none⟩ (.int .i64 (now + c.vis))).drew) := ⟨L3, T12⟩
      have hwr : IntKind.i64.wrap (now + c.vis) = now + c.vis := by rw [IntKind.wrap_i64]; omega
      clear L1 L2 L3 T1 T2 T12 hC hC1 hc1 hc' hLr ht hbx hln1 hi1 HFI HL HBX
      have hi0 : (0 : Int) ≤ (i : Int) := by omega
      have hil : (i : Int) < (ss.length : Int) := by omega
      go_wp2_with fail
      rw [← hW1]
      clear hW1 d17 b0 b1 e3 z3
      go_region_held3 (fun w' => w'.cell? ⟨lb, 17, none⟩ = some (.slice (some ⟨g, 0, none⟩) ss.length sc) ∧ w'.cell? ⟨lb, 16, none⟩ = some (.int .i64 now) ∧ w'.cell? ⟨lb, 4, none⟩ = some (.int .i64 c.vis)) (go_keep) (fail)
      all_goals
        generalize (W1.setCell ⟨g, i * 6 + 4, none⟩ (.int .i64 (now + c.vis))).drew = w5 at *
        have HTL : Hid (∀ v' w9, _) := fun v' w9 => HL3.out.1.tell hn v' w9
        have HOW : Hid (w5.ownsRow 0 9 1 tv hs.length (hs.map Value.string)) := HL3.out.1.tow
        have q18 := HL3.out.1.c18
        have l5 := HL3.out.1.lt
        have lo5 := World.block_lt_of_cell? _ _ o0
        have q18a : (w5.alloc (.cells #[.string hn] 9)).cell? ⟨lb, 18, none⟩ = some tv := Lib.cell?_alloc_some _ q18
        obtain ⟨ta, tc, htv⟩ := own_shape HOW.out
        clear q17 q16 q4 m4 z4 m17 m16 m4v lW1
        subst htv
        go_wp2_with fail
        go_region_law (refine step_valsL rfl (.tmp 119) (.tmp 122) 25 9 rfl Tryz.underlying25 (.string ⟨#[]⟩) 1 16 info9 rfl (by decide) (.slice ta hs.length tc) hs.length (hs.map Value.string) (by simp [Act.eval, Act.put]) (own_tch HOW.out ((Tch.refl [] _).drew.alloc _) (fun _ _ => by simp)) w5.heap.size [.string hn] 1 (by simp [Act.eval, Act.put]) rfl (by decide) (heap_alloc_new _ _) (by intro u hu; simp at hu; subst hu; rfl) (by omega) (by omega) ?_; intro v' w9 ho3 hg3 hb3; obtain ⟨g4, cap4, hv4, c9, z9, hfin⟩ := HTL.out v' w9 ho3 hg3 hb3; subst hv4; clear ho3 hg3 hb3; have HFI2 : Hid (Lr _ _ _ _ _ _ _ _ _ ∧ _) := hfin; clear hfin)
        all_goals (go_wp2_with fail; go_ret; exact ⟨rfl, told_end hs p HHN.out HL3.out.2 HFI2.out⟩)
end Go.Proofs.YtbdobaapadlcjaaGreatDoor
