/-
  DISKS: act (8), Sync and Rename.
-/
import Derived.Test.YtbdobaapadlcjaaDoorDkV
namespace Go.Proofs.YtbdobaapadlcjaaDoor.Dk
open Go.RowKit
set_option linter.unusedVariables false
set_option linter.unusedSimpArgs false

set_option maxRecDepth 10000 in
set_option maxHeartbeats 2000000 in
theorem act_3 (B : Nat) (w : World) (s : Nat) (lv nv mv : Value) (c : Nat → Tag) (ps : List Pr) (ns : List Nm) (n k : Nat) (h : St B w s lv nv mv c ps ns n k) (On A : Int) (N S : ByteArray) (hn : n ≤ 1048576) (hk : k + S.size ≤ 1099511627776) (hOn : -9223372036854775808 ≤ On ∧ On ≤ 9223372036854775807) (hA : -9223372036854775808 ≤ A ∧ A ≤ 9223372036854775807) :
    Calls Tryd.prog 8 #[.pointer (some ⟨s, 0, none⟩), .agg (acs 3 On A N S)] w fun e w' => e = .returned (.bool true) ∧ Rest B w' s (n + 1) (k + S.size) ∧ Below B w w' := by
  have hT : Tch [] w (w.alloc (.cells (acs 3 On A N S) 33)) := (Tch.refl [] w).alloc _
  have hzW : (w.alloc (.cells (acs 3 On A N S) 33)).heap.size = w.heap.size + 1 := by simp
  have hOb : (w.alloc (.cells (acs 3 On A N S) 33)).heap[w.heap.size]? = some (.cells (acs 3 On A N S) 33 (0, 0)) := heap_alloc_new _ _
  have hcO : paint c w.heap.size .O w.heap.size = .O := paint_new (Nat.le_refl _)
  have HW : Hid (St B (w.alloc (.cells (acs 3 On A N S) 33)) s lv nv mv (paint c w.heap.size .O) ps ns n k ∧ Below B w (w.alloc (.cells (acs 3 On A N S) 33)) ∧ (w.alloc (.cells (acs 3 On A N S) 33)).heap.size = w.heap.size + 1 ∧ (w.alloc (.cells (acs 3 On A N S) 33)).heap[w.heap.size]? = some (.cells (acs 3 On A N S) 33 (0, 0)) ∧ paint c w.heap.size .O w.heap.size = .O) := ⟨h.keep hT .O, hT.below (fun x hx => by cases hx) h.hB, hzW, hOb, hcO⟩
  clear hT hzW h hOb hcO
  generalize paint c w.heap.size .O = c1 at HW
  obtain ⟨q0, _, _, _⟩ := HW.out.1.sh.sblk
  obtain ⟨al, cl, hlv⟩ : ∃ al cl, lv = .slice al ps.length cl := by
    rcases HW.out.1.sh.l.2 with ⟨rfl, h0⟩ | ⟨g, cap, cur, rfl, _⟩
    · exact ⟨none, 0, by rw [h0]⟩
    · exact ⟨_, _, rfl⟩
  subst hlv
  unfold acs at *
  have hpl := HW.out.1.pl
  by_cases hp0 : ps.length = 0
  · have hz : ((ps.length : Int) == 0) = true := by simp [hp0]
    go_enter Tryd.func8, Tryd.ntmps8
    go_wp2_with fail
    go_ret
    exact ⟨rfl, (HW.out.1.mono (by omega) (by omega)).rest, HW.out.2.1⟩
  · have hz : ((ps.length : Int) == 0) = false := by simpa using hp0
    have hz2 : (ps.length == 0) = false := by simpa using hp0
    have hlt : pk On ps.length < ps.length := Nat.mod_lt _ (by omega)
    have HPK : Hid (∀ W, Calls Tryd.prog 21 #[.int .i64 On, .int .i64 (ps.length : Nat)] W fun e w' => e = .returned (.int .i64 (pk On ps.length : Nat)) ∧ w' = W) := fun W => pick_eq On ps.length W hOn (by omega) (by omega)
    generalize pk On ps.length = i at hlt HPK
    obtain ⟨P, hi⟩ : ∃ P, ps[i]? = some P := ⟨ps[i], List.getElem?_eq_getElem hlt⟩
    obtain ⟨gl, capl, hal⟩ : ∃ g cap, (Value.slice al ps.length cl) = .slice (some ⟨g, 0, none⟩) ps.length cap := by
      rcases HW.out.1.sh.l.2 with ⟨_, h0⟩ | ⟨g, cap, cur, hv, _⟩
      · omega
      · exact ⟨g, cap, hv⟩
    injection hal with hal _ hcl
    subst hal hcl
    obtain ⟨hp1, hp2⟩ := prow_get ps i P hi
    have hl0 := (World.ownsRow.cellAt HW.out.1.sh.l (i * 2) (by omega)).trans hp1
    have hl1 := (World.ownsRow.cellAt HW.out.1.sh.l (i * 2 + 1) (by omega)).trans hp2
    clear hp1 hp2
    go_enter Tryd.func8, Tryd.ntmps8
    go_wp2_with fail
    have oc : (w.alloc (.cells #[.int .i64 3, .int .i64 On, .int .i64 A, .string N, .string S] 33)).cell? ⟨w.heap.size, 1, none⟩ = some (.int .i64 On) := (cell_of_row _ _ 1 _ 33 (0, 0) HW.out.2.2.2.1).trans rfl
    generalize (w.alloc (.cells #[.int .i64 3, .int .i64 On, .int .i64 A, .string N, .string S] 33)) = W at *
    have q0a : ∀ o, (W.alloc o).cell? ⟨s, 0, none⟩ = some (.slice (some ⟨gl, 0, none⟩) ps.length cl) := fun o => (World.cell?_of_block (Below.heap_alloc _ _ _ (World.block_lt_of_cell? _ _ q0))).trans q0
    have oca : ∀ o, (W.alloc o).cell? ⟨w.heap.size, 1, none⟩ = some (.int .i64 On) := fun o => (World.cell?_of_block (Below.heap_alloc _ _ _ (World.block_lt_of_cell? _ _ oc))).trans oc
    have hl0a : ∀ o, (W.alloc o).cell? ⟨gl, i * 2, none⟩ = some (.pointer (some ⟨P.p, 0, none⟩)) := fun o => (World.cell?_of_block (Below.heap_alloc _ _ _ (World.block_lt_of_cell? _ _ hl0))).trans hl0
    have hl1a : ∀ o, (W.alloc o).cell? ⟨gl, i * 2 + 1, none⟩ = some (.pointer (some ⟨P.q, 0, none⟩)) := fun o => (World.cell?_of_block (Below.heap_alloc _ _ _ (World.block_lt_of_cell? _ _ hl1))).trans hl1
    have hil : ((i : Int) < (ps.length : Int)) := by omega
    have HX : Hid (W.cell? ⟨s, 0, none⟩ = some (.slice (some ⟨gl, 0, none⟩) ps.length cl)) := q0
    have HBD : Hid (n ≤ 1048576 ∧ k + S.size ≤ 1099511627776 ∧ ps.length ≤ n) := ⟨hn, hk, hpl⟩
    have HAA : Hid (-9223372036854775808 ≤ A ∧ A ≤ 9223372036854775807) := hA
    clear hz hz2 hpl hp0 hlt hn hk hOn hA
    go_region_held3 (fun w' => w'.cell? ⟨s, 0, none⟩ = some (.slice (some ⟨gl, 0, none⟩) ps.length cl) ∧ w'.cell? ⟨w.heap.size, 1, none⟩ = some (.int .i64 On) ∧ w'.cell? ⟨gl, i * 2, none⟩ = some (.pointer (some ⟨P.p, 0, none⟩)) ∧ w'.cell? ⟨gl, i * 2 + 1, none⟩ = some (.pointer (some ⟨P.q, 0, none⟩))) (go_keep) (first | (go_at_call 21; refine (HPK.out _).mono ?_; rintro e w' ⟨rfl, rfl⟩))
    all_goals (
      have hT2 : Tch [] W (W.alloc (.cells #[.pointer (some ⟨P.p, 0, none⟩), .pointer (some ⟨P.q, 0, none⟩)] 56)).drew := ((Tch.refl [] W).alloc _).drew
      have hPb : (W.alloc (.cells #[.pointer (some ⟨P.p, 0, none⟩), .pointer (some ⟨P.q, 0, none⟩)] 56)).drew.heap[W.heap.size]? = some (.cells #[.pointer (some ⟨P.p, 0, none⟩), .pointer (some ⟨P.q, 0, none⟩)] 56 (0, 0)) := heap_alloc_new W _
      have hOb : (W.alloc (.cells #[.pointer (some ⟨P.p, 0, none⟩), .pointer (some ⟨P.q, 0, none⟩)] 56)).drew.heap[w.heap.size]? = some (.cells #[.int .i64 3, .int .i64 On, .int .i64 A, .string N, .string S] 33 (0, 0)) := (hT2.block _ (by rw [HW.out.2.2.1]; omega) (by simp)).trans HW.out.2.2.2.1
      have hzz : W.heap.size < (W.alloc (.cells #[.pointer (some ⟨P.p, 0, none⟩), .pointer (some ⟨P.q, 0, none⟩)] 56)).drew.heap.size := by show W.heap.size < (W.alloc (.cells #[.pointer (some ⟨P.p, 0, none⟩), .pointer (some ⟨P.q, 0, none⟩)] 56)).heap.size; simp
      have hSt := HW.out.1.keep hT2 .O
      have hcP : paint c1 W.heap.size .O W.heap.size = .O := paint_new (Nat.le_refl _)
      have hcO : paint c1 W.heap.size .O w.heap.size = .O := (paint_old (by rw [HW.out.2.2.1]; omega)).trans HW.out.2.2.2.2
      have hBW : Below B w (W.alloc (.cells #[.pointer (some ⟨P.p, 0, none⟩), .pointer (some ⟨P.q, 0, none⟩)] 56)).drew := HW.out.2.1.trans (hT2.below (fun x hx => by cases hx) HW.out.1.hB)
      generalize paint c1 W.heap.size .O = c2 at hSt hcP hcO
      generalize (W.alloc (.cells #[.pointer (some ⟨P.p, 0, none⟩), .pointer (some ⟨P.q, 0, none⟩)] 56)).drew = W2 at *
      have HW2 : Hid (St B W2 s (.slice (some ⟨gl, 0, none⟩) ps.length cl) nv mv c2 ps ns n k ∧ Below B w W2 ∧ (W2.heap[W.heap.size]? = some (.cells #[.pointer (some ⟨P.p, 0, none⟩), .pointer (some ⟨P.q, 0, none⟩)] 56 (0, 0)) ∧ c2 W.heap.size = .O ∧ W.heap.size < W2.heap.size) ∧ (W2.heap[w.heap.size]? = some (.cells #[.int .i64 3, .int .i64 On, .int .i64 A, .string N, .string S] 33 (0, 0)) ∧ c2 w.heap.size = .O ∧ w.heap.size < W2.heap.size)) :=
        ⟨hSt, hBW, ⟨hPb, hcP, hzz⟩, ⟨hOb, hcO, by have := HW.out.2.2.1; omega⟩⟩
      have p0 : W2.cell? ⟨W.heap.size, 0, none⟩ = some (.pointer (some ⟨P.p, 0, none⟩)) := (cell_of_row _ _ 0 _ 56 (0, 0) hPb).trans rfl
      have p1 : W2.cell? ⟨W.heap.size, 1, none⟩ = some (.pointer (some ⟨P.q, 0, none⟩)) := (cell_of_row _ _ 1 _ 56 (0, 0) hPb).trans rfl
      have o0 : W2.cell? ⟨w.heap.size, 0, none⟩ = some (.int .i64 3) := (cell_of_row _ _ 0 _ 33 (0, 0) hOb).trans rfl
      have o1 : W2.cell? ⟨w.heap.size, 1, none⟩ = some (.int .i64 On) := (cell_of_row _ _ 1 _ 33 (0, 0) hOb).trans rfl
      have o2 : W2.cell? ⟨w.heap.size, 2, none⟩ = some (.int .i64 A) := (cell_of_row _ _ 2 _ 33 (0, 0) hOb).trans rfl
      have o3 : W2.cell? ⟨w.heap.size, 3, none⟩ = some (.string N) := (cell_of_row _ _ 3 _ 33 (0, 0) hOb).trans rfl
      have o4 : W2.cell? ⟨w.heap.size, 4, none⟩ = some (.string S) := (cell_of_row _ _ 4 _ 33 (0, 0) hOb).trans rfl
      obtain ⟨heq, hgood⟩ := hSt.eq P (List.mem_of_getElem? hi)
      obtain ⟨hd, _⟩ := hSt.sh.d i P hi
      obtain ⟨hbn, hbk, _⟩ := HBD.out
      have hfs := hgood.fs
      have HD : Hid (Dsk W2 76 81 P.p P.v P.D ∧ Good P.D n k) := ⟨hd, hgood⟩
      clear hT2 hPb hOb hzz hSt hcP hcO hBW hd hgood HW heq q0 oc q0a oca hl0a hl1a hl0 hl1 HX
      go_wp2_with fail
      refine (sync_d P.p P.v P.D N W2 HD.out.1 HD.out.2.left (by omega) (fun f hf => by have := (HD.out.2.sz f hf).2; omega)).mono ?_
      rintro e w3 ⟨rfl, hl3⟩
      obtain ⟨v', hs3, hB3, hk3, hr3⟩ := HW2.out.1.opD hi hl3
      have hPb3 := (hk3 _ HW2.out.2.2.1.2.2 HW2.out.2.2.1.2.1).trans HW2.out.2.2.1.1
      have hOb3 := (hk3 _ HW2.out.2.2.2.2.2 HW2.out.2.2.2.2.1).trans HW2.out.2.2.2.1
      have r1 : w3.cell? ⟨W.heap.size, 1, none⟩ = some (.pointer (some ⟨P.q, 0, none⟩)) := (cell_of_row _ _ 1 _ 56 (0, 0) hPb3).trans rfl
      have r3 : w3.cell? ⟨w.heap.size, 3, none⟩ = some (.string N) := (cell_of_row _ _ 3 _ 33 (0, 0) hOb3).trans rfl
      have r4 : w3.cell? ⟨w.heap.size, 4, none⟩ = some (.string S) := (cell_of_row _ _ 4 _ 33 (0, 0) hOb3).trans rfl
      have H3 : Hid (Dsk w3 79 83 P.q P.u P.D ∧ Below B W2 w3 ∧ Shelf w3 s (.slice (some ⟨gl, 0, none⟩) ps.length cl) nv mv (paint c2 W2.heap.size (.D i)) (ps.set i { P with v := v', D := _ }) ns (ns.map (·.m))) := ⟨hr3, hB3, hs3⟩
      clear hl3 hs3 hB3 hk3 hr3 hPb3 hOb3
      go_wp2_with fail
      refine (sync_r P.q P.u P.D N w3 H3.out.1 HD.out.2.left (by omega) (fun f hf => by have := (HD.out.2.sz f hf).2; omega)).mono ?_
      rintro e w4 ⟨rfl, hl4⟩
      obtain ⟨hrest, hB4, _⟩ := HW2.out.1.opR (n' := n + 1) (k' := k + S.size) hi H3.out.2.2 H3.out.2.1 hl4 (by omega) (by omega) ((good_sync HD.out.2 N).mono (by omega) (by omega))
      have HFN : Hid (Rest B w4 s (n + 1) (k + S.size) ∧ Below B w w4) := ⟨hrest, (HW2.out.2.1.trans H3.out.2.1).trans hB4⟩
      clear hl4 hrest hB4
      generalize stepOk P.D.left P.D.st = bb
      go_wp2_with fail
      go_ret
      exact ⟨ret_b (by simp), HFN.out⟩)
set_option maxRecDepth 10000 in
set_option maxHeartbeats 2000000 in
theorem act_4 (B : Nat) (w : World) (s : Nat) (lv nv mv : Value) (c : Nat → Tag) (ps : List Pr) (ns : List Nm) (n k : Nat) (h : St B w s lv nv mv c ps ns n k) (On A : Int) (N S : ByteArray) (hn : n ≤ 1048576) (hk : k + S.size ≤ 1099511627776) (hOn : -9223372036854775808 ≤ On ∧ On ≤ 9223372036854775807) (hA : -9223372036854775808 ≤ A ∧ A ≤ 9223372036854775807) :
    Calls Tryd.prog 8 #[.pointer (some ⟨s, 0, none⟩), .agg (acs 4 On A N S)] w fun e w' => e = .returned (.bool true) ∧ Rest B w' s (n + 1) (k + S.size) ∧ Below B w w' := by
  have hT : Tch [] w (w.alloc (.cells (acs 4 On A N S) 33)) := (Tch.refl [] w).alloc _
  have hzW : (w.alloc (.cells (acs 4 On A N S) 33)).heap.size = w.heap.size + 1 := by simp
  have hOb : (w.alloc (.cells (acs 4 On A N S) 33)).heap[w.heap.size]? = some (.cells (acs 4 On A N S) 33 (0, 0)) := heap_alloc_new _ _
  have hcO : paint c w.heap.size .O w.heap.size = .O := paint_new (Nat.le_refl _)
  have HW : Hid (St B (w.alloc (.cells (acs 4 On A N S) 33)) s lv nv mv (paint c w.heap.size .O) ps ns n k ∧ Below B w (w.alloc (.cells (acs 4 On A N S) 33)) ∧ (w.alloc (.cells (acs 4 On A N S) 33)).heap.size = w.heap.size + 1 ∧ (w.alloc (.cells (acs 4 On A N S) 33)).heap[w.heap.size]? = some (.cells (acs 4 On A N S) 33 (0, 0)) ∧ paint c w.heap.size .O w.heap.size = .O) := ⟨h.keep hT .O, hT.below (fun x hx => by cases hx) h.hB, hzW, hOb, hcO⟩
  clear hT hzW h hOb hcO
  generalize paint c w.heap.size .O = c1 at HW
  obtain ⟨q0, _, _, _⟩ := HW.out.1.sh.sblk
  obtain ⟨al, cl, hlv⟩ : ∃ al cl, lv = .slice al ps.length cl := by
    rcases HW.out.1.sh.l.2 with ⟨rfl, h0⟩ | ⟨g, cap, cur, rfl, _⟩
    · exact ⟨none, 0, by rw [h0]⟩
    · exact ⟨_, _, rfl⟩
  subst hlv
  unfold acs at *
  have hpl := HW.out.1.pl
  by_cases hp0 : ps.length = 0
  · have hz : ((ps.length : Int) == 0) = true := by simp [hp0]
    go_enter Tryd.func8, Tryd.ntmps8
    go_wp2_with fail
    go_ret
    exact ⟨rfl, (HW.out.1.mono (by omega) (by omega)).rest, HW.out.2.1⟩
  · have hz : ((ps.length : Int) == 0) = false := by simpa using hp0
    have hz2 : (ps.length == 0) = false := by simpa using hp0
    have hlt : pk On ps.length < ps.length := Nat.mod_lt _ (by omega)
    have HPK : Hid (∀ W, Calls Tryd.prog 21 #[.int .i64 On, .int .i64 (ps.length : Nat)] W fun e w' => e = .returned (.int .i64 (pk On ps.length : Nat)) ∧ w' = W) := fun W => pick_eq On ps.length W hOn (by omega) (by omega)
    generalize pk On ps.length = i at hlt HPK
    obtain ⟨P, hi⟩ : ∃ P, ps[i]? = some P := ⟨ps[i], List.getElem?_eq_getElem hlt⟩
    obtain ⟨gl, capl, hal⟩ : ∃ g cap, (Value.slice al ps.length cl) = .slice (some ⟨g, 0, none⟩) ps.length cap := by
      rcases HW.out.1.sh.l.2 with ⟨_, h0⟩ | ⟨g, cap, cur, hv, _⟩
      · omega
      · exact ⟨g, cap, hv⟩
    injection hal with hal _ hcl
    subst hal hcl
    obtain ⟨hp1, hp2⟩ := prow_get ps i P hi
    have hl0 := (World.ownsRow.cellAt HW.out.1.sh.l (i * 2) (by omega)).trans hp1
    have hl1 := (World.ownsRow.cellAt HW.out.1.sh.l (i * 2 + 1) (by omega)).trans hp2
    clear hp1 hp2
    go_enter Tryd.func8, Tryd.ntmps8
    go_wp2_with fail
    have oc : (w.alloc (.cells #[.int .i64 4, .int .i64 On, .int .i64 A, .string N, .string S] 33)).cell? ⟨w.heap.size, 1, none⟩ = some (.int .i64 On) := (cell_of_row _ _ 1 _ 33 (0, 0) HW.out.2.2.2.1).trans rfl
    generalize (w.alloc (.cells #[.int .i64 4, .int .i64 On, .int .i64 A, .string N, .string S] 33)) = W at *
    have q0a : ∀ o, (W.alloc o).cell? ⟨s, 0, none⟩ = some (.slice (some ⟨gl, 0, none⟩) ps.length cl) := fun o => (World.cell?_of_block (Below.heap_alloc _ _ _ (World.block_lt_of_cell? _ _ q0))).trans q0
    have oca : ∀ o, (W.alloc o).cell? ⟨w.heap.size, 1, none⟩ = some (.int .i64 On) := fun o => (World.cell?_of_block (Below.heap_alloc _ _ _ (World.block_lt_of_cell? _ _ oc))).trans oc
    have hl0a : ∀ o, (W.alloc o).cell? ⟨gl, i * 2, none⟩ = some (.pointer (some ⟨P.p, 0, none⟩)) := fun o => (World.cell?_of_block (Below.heap_alloc _ _ _ (World.block_lt_of_cell? _ _ hl0))).trans hl0
    have hl1a : ∀ o, (W.alloc o).cell? ⟨gl, i * 2 + 1, none⟩ = some (.pointer (some ⟨P.q, 0, none⟩)) := fun o => (World.cell?_of_block (Below.heap_alloc _ _ _ (World.block_lt_of_cell? _ _ hl1))).trans hl1
    have hil : ((i : Int) < (ps.length : Int)) := by omega
    have HX : Hid (W.cell? ⟨s, 0, none⟩ = some (.slice (some ⟨gl, 0, none⟩) ps.length cl)) := q0
    have HBD : Hid (n ≤ 1048576 ∧ k + S.size ≤ 1099511627776 ∧ ps.length ≤ n) := ⟨hn, hk, hpl⟩
    have HAA : Hid (-9223372036854775808 ≤ A ∧ A ≤ 9223372036854775807) := hA
    clear hz hz2 hpl hp0 hlt hn hk hOn hA
    go_region_held3 (fun w' => w'.cell? ⟨s, 0, none⟩ = some (.slice (some ⟨gl, 0, none⟩) ps.length cl) ∧ w'.cell? ⟨w.heap.size, 1, none⟩ = some (.int .i64 On) ∧ w'.cell? ⟨gl, i * 2, none⟩ = some (.pointer (some ⟨P.p, 0, none⟩)) ∧ w'.cell? ⟨gl, i * 2 + 1, none⟩ = some (.pointer (some ⟨P.q, 0, none⟩))) (go_keep) (first | (go_at_call 21; refine (HPK.out _).mono ?_; rintro e w' ⟨rfl, rfl⟩))
    all_goals (
      have hT2 : Tch [] W (W.alloc (.cells #[.pointer (some ⟨P.p, 0, none⟩), .pointer (some ⟨P.q, 0, none⟩)] 56)).drew := ((Tch.refl [] W).alloc _).drew
      have hPb : (W.alloc (.cells #[.pointer (some ⟨P.p, 0, none⟩), .pointer (some ⟨P.q, 0, none⟩)] 56)).drew.heap[W.heap.size]? = some (.cells #[.pointer (some ⟨P.p, 0, none⟩), .pointer (some ⟨P.q, 0, none⟩)] 56 (0, 0)) := heap_alloc_new W _
      have hOb : (W.alloc (.cells #[.pointer (some ⟨P.p, 0, none⟩), .pointer (some ⟨P.q, 0, none⟩)] 56)).drew.heap[w.heap.size]? = some (.cells #[.int .i64 4, .int .i64 On, .int .i64 A, .string N, .string S] 33 (0, 0)) := (hT2.block _ (by rw [HW.out.2.2.1]; omega) (by simp)).trans HW.out.2.2.2.1
      have hzz : W.heap.size < (W.alloc (.cells #[.pointer (some ⟨P.p, 0, none⟩), .pointer (some ⟨P.q, 0, none⟩)] 56)).drew.heap.size := by show W.heap.size < (W.alloc (.cells #[.pointer (some ⟨P.p, 0, none⟩), .pointer (some ⟨P.q, 0, none⟩)] 56)).heap.size; simp
      have hSt := HW.out.1.keep hT2 .O
      have hcP : paint c1 W.heap.size .O W.heap.size = .O := paint_new (Nat.le_refl _)
      have hcO : paint c1 W.heap.size .O w.heap.size = .O := (paint_old (by rw [HW.out.2.2.1]; omega)).trans HW.out.2.2.2.2
      have hBW : Below B w (W.alloc (.cells #[.pointer (some ⟨P.p, 0, none⟩), .pointer (some ⟨P.q, 0, none⟩)] 56)).drew := HW.out.2.1.trans (hT2.below (fun x hx => by cases hx) HW.out.1.hB)
      generalize paint c1 W.heap.size .O = c2 at hSt hcP hcO
      generalize (W.alloc (.cells #[.pointer (some ⟨P.p, 0, none⟩), .pointer (some ⟨P.q, 0, none⟩)] 56)).drew = W2 at *
      have HW2 : Hid (St B W2 s (.slice (some ⟨gl, 0, none⟩) ps.length cl) nv mv c2 ps ns n k ∧ Below B w W2 ∧ (W2.heap[W.heap.size]? = some (.cells #[.pointer (some ⟨P.p, 0, none⟩), .pointer (some ⟨P.q, 0, none⟩)] 56 (0, 0)) ∧ c2 W.heap.size = .O ∧ W.heap.size < W2.heap.size) ∧ (W2.heap[w.heap.size]? = some (.cells #[.int .i64 4, .int .i64 On, .int .i64 A, .string N, .string S] 33 (0, 0)) ∧ c2 w.heap.size = .O ∧ w.heap.size < W2.heap.size)) :=
        ⟨hSt, hBW, ⟨hPb, hcP, hzz⟩, ⟨hOb, hcO, by have := HW.out.2.2.1; omega⟩⟩
      have p0 : W2.cell? ⟨W.heap.size, 0, none⟩ = some (.pointer (some ⟨P.p, 0, none⟩)) := (cell_of_row _ _ 0 _ 56 (0, 0) hPb).trans rfl
      have p1 : W2.cell? ⟨W.heap.size, 1, none⟩ = some (.pointer (some ⟨P.q, 0, none⟩)) := (cell_of_row _ _ 1 _ 56 (0, 0) hPb).trans rfl
      have o0 : W2.cell? ⟨w.heap.size, 0, none⟩ = some (.int .i64 4) := (cell_of_row _ _ 0 _ 33 (0, 0) hOb).trans rfl
      have o1 : W2.cell? ⟨w.heap.size, 1, none⟩ = some (.int .i64 On) := (cell_of_row _ _ 1 _ 33 (0, 0) hOb).trans rfl
      have o2 : W2.cell? ⟨w.heap.size, 2, none⟩ = some (.int .i64 A) := (cell_of_row _ _ 2 _ 33 (0, 0) hOb).trans rfl
      have o3 : W2.cell? ⟨w.heap.size, 3, none⟩ = some (.string N) := (cell_of_row _ _ 3 _ 33 (0, 0) hOb).trans rfl
      have o4 : W2.cell? ⟨w.heap.size, 4, none⟩ = some (.string S) := (cell_of_row _ _ 4 _ 33 (0, 0) hOb).trans rfl
      obtain ⟨heq, hgood⟩ := hSt.eq P (List.mem_of_getElem? hi)
      obtain ⟨hd, _⟩ := hSt.sh.d i P hi
      obtain ⟨hbn, hbk, _⟩ := HBD.out
      have hfs := hgood.fs
      have HD : Hid (Dsk W2 76 81 P.p P.v P.D ∧ Good P.D n k) := ⟨hd, hgood⟩
      clear hT2 hPb hOb hzz hSt hcP hcO hBW hd hgood HW heq q0 oc q0a oca hl0a hl1a hl0 hl1 HX
      go_wp2_with fail
      refine (rename_d P.p P.v P.D N S W2 HD.out.1 HD.out.2.left (by omega)).mono ?_
      rintro e w3 ⟨rfl, hl3⟩
      obtain ⟨v', hs3, hB3, hk3, hr3⟩ := HW2.out.1.opD hi hl3
      have hPb3 := (hk3 _ HW2.out.2.2.1.2.2 HW2.out.2.2.1.2.1).trans HW2.out.2.2.1.1
      have hOb3 := (hk3 _ HW2.out.2.2.2.2.2 HW2.out.2.2.2.2.1).trans HW2.out.2.2.2.1
      have r1 : w3.cell? ⟨W.heap.size, 1, none⟩ = some (.pointer (some ⟨P.q, 0, none⟩)) := (cell_of_row _ _ 1 _ 56 (0, 0) hPb3).trans rfl
      have r3 : w3.cell? ⟨w.heap.size, 3, none⟩ = some (.string N) := (cell_of_row _ _ 3 _ 33 (0, 0) hOb3).trans rfl
      have r4 : w3.cell? ⟨w.heap.size, 4, none⟩ = some (.string S) := (cell_of_row _ _ 4 _ 33 (0, 0) hOb3).trans rfl
      have H3 : Hid (Dsk w3 79 83 P.q P.u P.D ∧ Below B W2 w3 ∧ Shelf w3 s (.slice (some ⟨gl, 0, none⟩) ps.length cl) nv mv (paint c2 W2.heap.size (.D i)) (ps.set i { P with v := v', D := _ }) ns (ns.map (·.m))) := ⟨hr3, hB3, hs3⟩
      clear hl3 hs3 hB3 hk3 hr3 hPb3 hOb3
      go_wp2_with fail
      refine (rename_r P.q P.u P.D N S w3 H3.out.1 HD.out.2.left (by omega)).mono ?_
      rintro e w4 ⟨rfl, hl4⟩
      obtain ⟨hrest, hB4, _⟩ := HW2.out.1.opR (n' := n + 1) (k' := k + S.size) hi H3.out.2.2 H3.out.2.1 hl4 (by omega) (by omega) ((good_ren HD.out.2 N S).mono (by omega) (by omega))
      have HFN : Hid (Rest B w4 s (n + 1) (k + S.size) ∧ Below B w w4) := ⟨hrest, (HW2.out.2.1.trans H3.out.2.1).trans hB4⟩
      clear hl4 hrest hB4
      generalize stepOk P.D.left P.D.st = bb
      go_wp2_with fail
      go_ret
      exact ⟨ret_b (by simp), HFN.out⟩)
end Go.Proofs.YtbdobaapadlcjaaDoor.Dk
