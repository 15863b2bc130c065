/-
  THE WALK of Taken (5).
-/
import Derived.Test.YtbdobaapadlcjaaGreatDoorTlB
namespace Go.Proofs.YtbdobaapadlcjaaGreatDoor
open Go.RowKit
set_option linter.unusedVariables false

theorem pk_small (n m : Int) (h0 : 0 ≤ n) (hm : n < m) : pk n m = n := by
  rw [pk, if_neg (by omega)]
  exact Int.emod_eq_of_lt h0 hm

theorem ok1 : okN 1 = ⟨#[0, 1, 0, 0, 0]⟩ := by decide
theorem ok2 : okN 2 = ⟨#[0, 2, 0, 0, 0]⟩ := by decide
/-- The line's cells. -/
abbrev lineC (xb : Nat) (V P1 R P2 : Int) : Array Value := #[.pointer (some ⟨xb, 0, none⟩), .int .u8 67, .int .u8 97, .int .u8 45, .int .i64 (1 + V), .int .i64 (1 + P1), .int .i64 R, .int .i64 (1 + (9 + P2)), .int .i64 0, .int .i64 0, .string ⟨#[]⟩, .string ⟨#[]⟩, .string ⟨#[]⟩, .string ⟨#[]⟩, .string ⟨#[]⟩, .slice none 0 0, .int .i64 0, .slice none 0 0, .slice none 0 0]
theorem line_is (xb : Nat) (V P1 R P2 : Int) : #[.pointer (some ⟨xb, 0, none⟩)] ++ cellsOf (cqN V (1 + P1) R (9 + P2)) nil0.v ++ #[.int .i64 0, .slice none 0 0, .slice none 0 0] = lineC xb V P1 R P2 := by kernel_rfl
theorem ret1 {e : Ending} (h : e = .returned (.string (okN 1))) : e = .returned (.string ⟨#[0, 1, 0, 0, 0]⟩) := h.trans (congrArg (fun z => Ending.returned (.string z)) ok1)
theorem ret2 {e : Ending} (h : e = .returned (.string (okN 2))) : e = .returned (.string ⟨#[0, 2, 0, 0, 0]⟩) := h.trans (congrArg (fun z => Ending.returned (.string z)) ok2)
theorem cellsSnd (gg dd bb : ByteArray) : cellsOf (⟨83, 97, 0, 0, 0, 0, 0, 0, 0, gg, dd, bb, ⟨#[]⟩, ⟨#[]⟩⟩ : Wp.Rq) nil0.v = #[.int .u8 83, .int .u8 97, .int .u8 0, .int .i64 0, .int .i64 0, .int .i64 0, .int .i64 0, .int .i64 0, .int .i64 0, .string gg, .string dd, .string bb, .string ⟨#[]⟩, .string ⟨#[]⟩, .slice none 0 0] := rfl

set_option maxRecDepth 8000 in
set_option maxHeartbeats 8000000 in
theorem taken_walk0 (B : Nat) (r : Wp.Rq) (x : Sl) (grp id bod oth : ByteArray) (wait : Int) (w : World) (hw : Wf r) (hz : Keep.Szs r) (h1 : grp.size ≤ maxLen) (h2 : id.size ≤ maxLen) (h3 : bod.size ≤ maxLen) (h4 : oth.size ≤ maxLen) (hwait : i64 wait) (hE : Env B w) :
    Calls Tryz.prog 5 #[.agg (cellsOf r x.v), .string grp, .string id, .string bod, .string oth, .int .i64 wait] w fun e w' => e = .returned (.bool true) ∧ Below B w w' := by
  have HP1 : Hid (∀ W, Calls Tryz.prog 14 #[.int .i64 r.win, .int .i64 1000] W fun e w' => e = .returned (.int .i64 (pk r.win 1000)) ∧ w' = W) := fun W => pick_any r.win 1000 W hw.win.1 hw.win.2 (by decide) (by decide)
  have HP2 : Hid (∀ W, Calls Tryz.prog 14 #[.int .i64 r.quo, .int .i64 40] W fun e w' => e = .returned (.int .i64 (pk r.quo 40)) ∧ w' = W) := fun W => pick_any r.quo 40 W hw.quo.1 hw.quo.2 (by decide) (by decide)
  have HP3 : Hid (∀ W, Calls Tryz.prog 14 #[.int .i64 wait, .int .i64 1000] W fun e w' => e = .returned (.int .i64 (pk wait 1000)) ∧ w' = W) := fun W => pick_any wait 1000 W hwait.1 hwait.2 (by decide) (by decide)
  have a1 := pk_nonneg r.win 1000 (by decide)
  have b1 := pk_lt r.win 1000 (by decide)
  have a2 := pk_nonneg r.quo 40 (by decide)
  have b2 := pk_lt r.quo 40 (by decide)
  have a3 := pk_nonneg wait 1000 (by decide)
  have b3 := pk_lt wait 1000 (by decide)
  generalize pk r.win 1000 = P1 at *
  generalize pk r.quo 40 = P2 at *
  generalize pk wait 1000 = P3 at *
  have HBG : Hid (∀ W, Below w.heap.size w W → Calls Tryz.prog 12 #[.agg (cellsOf { r with win := 1 + P1, quo := 9 + P2 } x.v)] W fun e w' => ∃ lb xb st b qb, e = .returned (.pointer (some ⟨lb, 0, none⟩)) ∧ Game B 9 w' lb xb st b qb (cqN (pk r.vis 1000) (1 + P1) (pk r.rcv 10) (9 + P2)) ∧ Fr B TB W w') := fun W hb => by
    have h := begun_any B { r with win := 1 + P1, quo := 9 + P2 } x W ⟨hw.vis, by unfold i64; show -9223372036854775808 ≤ 1 + P1 ∧ 1 + P1 ≤ 9223372036854775807; omega, hw.rcv, by unfold i64; show -9223372036854775808 ≤ 9 + P2 ∧ 9 + P2 ≤ 9223372036854775807; omega, hw.mx, hw.tic⟩ ⟨hz.grp, hz.ded, hz.bod, hz.att, hz.han⟩ (hE.lays.below (hb.mono hE.size)) (hE.tab.tch (Tch.of_below hb) (by simp) (Nat.le_trans hE.three hE.size)) hE.three (by have := hb.size; have := hE.size; omega)
    rw [show pk ({ r with win := 1 + P1, quo := 9 + P2 } : Wp.Rq).win 1001 = 1 + P1 from pk_small _ _ (by show 0 ≤ 1 + P1; omega) (by show 1 + P1 < 1001; omega), show pk ({ r with win := 1 + P1, quo := 9 + P2 } : Wp.Rq).quo 50 = 9 + P2 from pk_small _ _ (by show 0 ≤ 9 + P2; omega) (by show 9 + P2 < 50; omega)] at h
    exact h
  rw [show cellsOf { r with win := 1 + P1, quo := 9 + P2 } x.v = #[.int .u8 (r.op.toNat : Int), .int .u8 (r.q.toNat : Int), .int .u8 (r.d.toNat : Int), .int .i64 r.vis, .int .i64 (1 + P1), .int .i64 r.rcv, .int .i64 (9 + P2), .int .i64 r.mx, .int .i64 r.tic, .string r.grp, .string r.ded, .string r.bod, .string r.att, .string r.han, .slice x.a x.n x.c] from rfl] at HBG
  have HE : Hid (Env B w) := hE
  have HSB : Hid (∀ W, Calls Tryz.prog 15 #[.string bod, .int .i64 40] W fun e w' => e = .returned (.string (Keep.sh bod 40)) ∧ w' = W) := fun W => Keep.short_any bod 40 W h3 (by decide)
  have HSO : Hid (∀ W, Calls Tryz.prog 15 #[.string oth, .int .i64 40] W fun e w' => e = .returned (.string (Keep.sh oth 40)) ∧ w' = W) := fun W => Keep.short_any oth 40 W h4 (by decide)
  have HSN : Hid (∀ W, Calls Tryz.prog 16 #[.string grp] W fun e w' => (∃ t : ByteArray, e = .returned (.string t) ∧ 1 ≤ t.size ∧ t.size ≤ 8) ∧ w' = W) := fun W => Keep.named_any grp W h1
  have HSD : Hid (∀ W, Calls Tryz.prog 17 #[.string id] W fun e w' => (∃ t : ByteArray, e = .returned (.string t) ∧ t.size ≤ 8 ∧ Wp.dedOk t = true) ∧ w' = W) := fun W => Keep.dedup_any id W h2
  have HZB : Hid ((Keep.sh bod 40).size ≤ 40) := Keep.sh_size _ _
  have HZO : Hid ((Keep.sh oth 40).size ≤ 40) := Keep.sh_size _ _
  generalize Keep.sh bod 40 = bb at *
  generalize Keep.sh oth 40 = cc at *
  generalize pk r.vis 1000 = V at *
  generalize pk r.rcv 10 = R at *
  clear hw hz hwait hE h1 h2 h3 h4
  rw [show cellsOf r x.v = #[.int .u8 (r.op.toNat : Int), .int .u8 (r.q.toNat : Int), .int .u8 (r.d.toNat : Int), .int .i64 r.vis, .int .i64 r.win, .int .i64 r.rcv, .int .i64 r.quo, .int .i64 r.mx, .int .i64 r.tic, .string r.grp, .string r.ded, .string r.bod, .string r.att, .string r.han, .slice x.a x.n x.c] from rfl]
  go_enter Tryz.func5, Tryz.ntmps5
  have hw1 : IntKind.i64.wrap (1 + P1) = 1 + P1 := by rw [IntKind.wrap_i64]; omega
  have hw2 : IntKind.i64.wrap (9 + P2) = 9 + P2 := by rw [IntKind.wrap_i64]; omega
  have hw3 : IntKind.i64.wrap (1 + P3) = 1 + P3 := by rw [IntKind.wrap_i64]; omega
  go_wp2_with fail
  refine (HP1.out _).mono ?_
  rintro e w' ⟨rfl, rfl⟩
  go_wp2_with fail
  refine (HP2.out _).mono ?_
  rintro e w' ⟨rfl, rfl⟩
  go_wp2_with fail
  refine (HBG.out _ ((Below.refl _ _).alloc (Nat.le_refl _) _)).mono ?_
  rintro e w1 ⟨lb, xb, st, b, qb, rfl, hG, hf1⟩
  have T1 : Hid (Fr B TB w w1) := (Fr.of_nil TB ((Tch.refl [] w).alloc _) HE.out.size).trans hf1
  have HG : Hid (Game B 9 w1 lb xb st b qb (cqN V (1 + P1) R (9 + P2))) := hG
  clear hG hf1
  go_wp2_with fail
  refine (HSB.out _).mono ?_
  rintro e w' ⟨rfl, h'⟩
  have h'' := h'.symm
  subst h''
  go_wp2_with fail
  refine (HSO.out _).mono ?_
  rintro e w' ⟨rfl, h'⟩
  have h'' := h'.symm
  subst h''
  go_wp2_with fail
  refine (HSN.out _).mono ?_
  rintro e w' ⟨⟨gg, rfl, g1, g8⟩, h'⟩
  have h'' := h'.symm
  subst h''
  go_wp2_with fail
  refine (HSD.out _).mono ?_
  rintro e w' ⟨⟨dd, rfl, d8, dok⟩, h'⟩
  have h'' := h'.symm
  subst h''
  have HSND : Hid (Snd (⟨83, 97, 0, 0, 0, 0, 0, 0, 0, gg, dd, bb, ⟨#[]⟩, ⟨#[]⟩⟩ : Wp.Rq)) := snd_of gg dd bb g1 g8 d8 dok HZB.out
  have HSNT : Hid (∀ tb : ByteArray, tb.size ≤ 40 → Snd (⟨83, 97, 0, 0, 0, 0, 0, 0, 0, ⟨#[111, 116, 104, 101, 114]⟩, dd, tb, ⟨#[]⟩, ⟨#[]⟩⟩ : Wp.Rq)) := fun tb htb => snd_of ⟨#[111, 116, 104, 101, 114]⟩ dd tb (by decide) (by decide) d8 dok htb
  clear g1 g8 d8 dok
  go_wp2_with fail
  obtain ⟨wb, hwb⟩ : ∃ wb, wb = w1.alloc (.cells #[.int .u8 83, .int .u8 97, .int .u8 0, .int .i64 0, .int .i64 0, .int .i64 0, .int .i64 0, .int .i64 0, .int .i64 0, .string gg, .string dd, .string bb, .string ⟨#[]⟩, .string ⟨#[]⟩, .slice none 0 0] 27) := ⟨_, rfl⟩
  rw [← hwb]
  have TWB1 : Hid (Tch [] w1 wb) := by rw [hwb]; exact (Tch.refl _ _).alloc _
  have TWB : Hid (Fr B TB w wb) := T1.out.trans (Fr.of_nil TB TWB1.out (Nat.le_trans HE.out.size T1.out.size))
  have HROW : Hid (wb.heap[w1.heap.size]? = some (.cells #[.int .u8 83, .int .u8 97, .int .u8 0, .int .i64 0, .int .i64 0, .int .i64 0, .int .i64 0, .int .i64 0, .int .i64 0, .string gg, .string dd, .string bb, .string ⟨#[]⟩, .string ⟨#[]⟩, .slice none 0 0] 27 (0, 0))) := by rw [hwb]; exact heap_alloc_new _ _
  have HGB : Hid (Game B 9 wb lb xb st b qb (cqN V (1 + P1) R (9 + P2))) := HG.out.tch TWB1.out
  have HLINE : Hid (wb.heap[lb]? = some (.cells (lineC xb V P1 R P2) 42 (0, 0))) := HGB.out.line.trans (congrArg (fun z => some (Obj.cells z 42 (0, 0))) (line_is xb V P1 R P2))
  clear hwb
  have HC1 : Hid (Calls Tryz.prog 18 #[.pointer (some ⟨xb, 0, none⟩), .agg #[.int .u8 83, .int .u8 97, .int .u8 0, .int .i64 0, .int .i64 0, .int .i64 0, .int .i64 0, .int .i64 0, .int .i64 0, .string gg, .string dd, .string bb, .string ⟨#[]⟩, .string ⟨#[]⟩, .slice none 0 0]] wb.drew fun e w' => e = .returned (.string ⟨#[0, 1, 0, 0, 0]⟩) ∧ w'.heap[lb]? = some (.cells (lineC xb V P1 R P2) 42 (0, 0)) ∧ w'.heap[w1.heap.size]? = some (.cells #[.int .u8 83, .int .u8 97, .int .u8 0, .int .i64 0, .int .i64 0, .int .i64 0, .int .i64 0, .int .i64 0, .int .i64 0, .string gg, .string dd, .string bb, .string ⟨#[]⟩, .string ⟨#[]⟩, .slice none 0 0] 27 (0, 0)) ∧ Fr B TB wb w' ∧ ∃ gm cm gd cd rs, Sent B 8 w' xb st b qb gm cm gd cd 1 rs (cqN V (1 + P1) R (9 + P2)) ⟨1, gg, bb, 0, 0⟩ ⟨didS (⟨83, 97, 0, 0, 0, 0, 0, 0, 0, gg, dd, bb, ⟨#[]⟩, ⟨#[]⟩⟩ : Wp.Rq), 1, 1 + P1⟩ 0) := by
    have h := step_one B 8 (cqN V (1 + P1) R (9 + P2)) (⟨83, 97, 0, 0, 0, 0, 0, 0, 0, gg, dd, bb, ⟨#[]⟩, ⟨#[]⟩⟩ : Wp.Rq) lb xb st b qb wb.drew ((HE.out.fr TWB.out).tch (Tch.refl [] wb).drew (by simp)) (HGB.out.tch (Tch.refl [] wb).drew) (by decide) HSND.out ⟨by show 0 < 1 + P1; omega, by show 1 + P1 ≤ 1001; omega⟩ (by show 2 ≤ 1 + (9 + P2); omega)
    rw [cellsSnd] at h
    refine h.mono ?_
    rintro e w' ⟨he, ht, hS⟩
    have hsz : B ≤ wb.heap.size := Nat.le_trans HE.out.size TWB.out.size
    exact ⟨ret1 he, ht.keep _ _ _ (show wb.drew.heap[lb]? = _ from HLINE.out) (by decide), ht.keep _ _ _ (show wb.drew.heap[w1.heap.size]? = _ from HROW.out) (by decide), (Fr.of_nil TB (Tch.refl [] wb).drew hsz).trans ht, hS⟩
  clear HP1 HP2 HBG HSB HSO HSN HSD hw1 hw2
  generalize (Value.agg #[.int .u8 (r.op.toNat : Int), .int .u8 (r.q.toNat : Int), .int .u8 (r.d.toNat : Int), .int .i64 r.vis, .int .i64 r.win, .int .i64 r.rcv, .int .i64 r.quo, .int .i64 r.mx, .int .i64 r.tic, .string r.grp, .string r.ded, .string r.bod, .string r.att, .string r.han, .slice x.a x.n x.c]) = A0
  generalize (Value.agg #[.int .u8 (r.op.toNat : Int), .int .u8 (r.q.toNat : Int), .int .u8 (r.d.toNat : Int), .int .i64 r.vis, .int .i64 (1 + P1), .int .i64 r.rcv, .int .i64 (9 + P2), .int .i64 r.mx, .int .i64 r.tic, .string r.grp, .string r.ded, .string r.bod, .string r.att, .string r.han, .slice x.a x.n x.c]) = A1
  generalize (Value.agg #[.int .u8 83, .int .u8 97, .int .u8 0, .int .i64 0, .int .i64 0, .int .i64 0, .int .i64 0, .int .i64 0, .int .i64 0, .string gg, .string dd, .string bb, .string ⟨#[]⟩, .string ⟨#[]⟩, .slice none 0 0]) = A2
  have el : wb.cell? ⟨lb, 0, none⟩ = some (.pointer (some ⟨xb, 0, none⟩)) := cell_qC HLINE.out 0 _ rfl
  have e0 : wb.cell? ⟨w1.heap.size, 0, none⟩ = some (.int .u8 83) := cell_qC HROW.out 0 _ rfl
  have e1 : wb.cell? ⟨w1.heap.size, 1, none⟩ = some (.int .u8 97) := cell_qC HROW.out 1 _ rfl
  have e2 : wb.cell? ⟨w1.heap.size, 2, none⟩ = some (.int .u8 0) := cell_qC HROW.out 2 _ rfl
  have e3 : wb.cell? ⟨w1.heap.size, 3, none⟩ = some (.int .i64 0) := cell_qC HROW.out 3 _ rfl
  have e4 : wb.cell? ⟨w1.heap.size, 4, none⟩ = some (.int .i64 0) := cell_qC HROW.out 4 _ rfl
  have e5 : wb.cell? ⟨w1.heap.size, 5, none⟩ = some (.int .i64 0) := cell_qC HROW.out 5 _ rfl
  have e6 : wb.cell? ⟨w1.heap.size, 6, none⟩ = some (.int .i64 0) := cell_qC HROW.out 6 _ rfl
  have e7 : wb.cell? ⟨w1.heap.size, 7, none⟩ = some (.int .i64 0) := cell_qC HROW.out 7 _ rfl
  have e8 : wb.cell? ⟨w1.heap.size, 8, none⟩ = some (.int .i64 0) := cell_qC HROW.out 8 _ rfl
  have e9 : wb.cell? ⟨w1.heap.size, 9, none⟩ = some (.string gg) := cell_qC HROW.out 9 _ rfl
  have e10 : wb.cell? ⟨w1.heap.size, 10, none⟩ = some (.string dd) := cell_qC HROW.out 10 _ rfl
  have e11 : wb.cell? ⟨w1.heap.size, 11, none⟩ = some (.string bb) := cell_qC HROW.out 11 _ rfl
  have e12 : wb.cell? ⟨w1.heap.size, 12, none⟩ = some (.string ⟨#[]⟩) := cell_qC HROW.out 12 _ rfl
  have e13 : wb.cell? ⟨w1.heap.size, 13, none⟩ = some (.string ⟨#[]⟩) := cell_qC HROW.out 13 _ rfl
  have e14 : wb.cell? ⟨w1.heap.size, 14, none⟩ = some (.slice none 0 0) := cell_qC HROW.out 14 _ rfl
  have ltl : lb < wb.heap.size := lt_of_block HLINE.out
  have ltb : w1.heap.size < wb.heap.size := lt_of_block HROW.out
  go_region_held3 (fun w' => w'.cell? ⟨lb, 0, none⟩ = some (.pointer (some ⟨xb, 0, none⟩)) ∧ w'.cell? ⟨w1.heap.size, 0, none⟩ = some (.int .u8 83) ∧ w'.cell? ⟨w1.heap.size, 1, none⟩ = some (.int .u8 97) ∧ w'.cell? ⟨w1.heap.size, 2, none⟩ = some (.int .u8 0) ∧ w'.cell? ⟨w1.heap.size, 3, none⟩ = some (.int .i64 0) ∧ w'.cell? ⟨w1.heap.size, 4, none⟩ = some (.int .i64 0) ∧ w'.cell? ⟨w1.heap.size, 5, none⟩ = some (.int .i64 0) ∧ w'.cell? ⟨w1.heap.size, 6, none⟩ = some (.int .i64 0) ∧ w'.cell? ⟨w1.heap.size, 7, none⟩ = some (.int .i64 0) ∧ w'.cell? ⟨w1.heap.size, 8, none⟩ = some (.int .i64 0) ∧ w'.cell? ⟨w1.heap.size, 9, none⟩ = some (.string gg) ∧ w'.cell? ⟨w1.heap.size, 10, none⟩ = some (.string dd) ∧ w'.cell? ⟨w1.heap.size, 11, none⟩ = some (.string bb) ∧ w'.cell? ⟨w1.heap.size, 12, none⟩ = some (.string ⟨#[]⟩) ∧ w'.cell? ⟨w1.heap.size, 13, none⟩ = some (.string ⟨#[]⟩) ∧ w'.cell? ⟨w1.heap.size, 14, none⟩ = some (.slice none 0 0)) (go_keep) (first | (go_at_call 18; refine HC1.out.mono ?_; rintro e w2 ⟨rfl, hl, hbx, ht, gm, cm, gd, cd, rs, hS⟩; have kl : _ := cell_qC hl 0 (.pointer (some ⟨xb, 0, none⟩)) rfl; have k0 := cell_qC hbx 0 (.int .u8 83) rfl; have k1 := cell_qC hbx 1 (.int .u8 97) rfl; have k2 := cell_qC hbx 2 (.int .u8 0) rfl; have k3 := cell_qC hbx 3 (.int .i64 0) rfl; have k4 := cell_qC hbx 4 (.int .i64 0) rfl; have k5 := cell_qC hbx 5 (.int .i64 0) rfl; have k6 := cell_qC hbx 6 (.int .i64 0) rfl; have k7 := cell_qC hbx 7 (.int .i64 0) rfl; have k8 := cell_qC hbx 8 (.int .i64 0) rfl; have k9 := cell_qC hbx 9 (.string gg) rfl; have k10 := cell_qC hbx 10 (.string dd) rfl; have k11 := cell_qC hbx 11 (.string bb) rfl; have k12 := cell_qC hbx 12 (.string ⟨#[]⟩) rfl; have k13 := cell_qC hbx 13 (.string ⟨#[]⟩) rfl; have k14 := cell_qC hbx 14 (.slice none 0 0) rfl))
  have HL2 : Hid (w2.heap[lb]? = some (.cells (lineC xb V P1 R P2) 42 (0, 0))) := hl
  have HR2 : Hid (w2.heap[w1.heap.size]? = some (.cells #[.int .u8 83, .int .u8 97, .int .u8 0, .int .i64 0, .int .i64 0, .int .i64 0, .int .i64 0, .int .i64 0, .int .i64 0, .string gg, .string dd, .string bb, .string ⟨#[]⟩, .string ⟨#[]⟩, .slice none 0 0] 27 (0, 0))) := hbx
  have TA2 : Hid (Fr B TB w w2) := TWB.out.trans ht
  have HS2 : Hid (Sent B 8 w2 xb st b qb gm cm gd cd 1 rs (cqN V (1 + P1) R (9 + P2)) ⟨1, gg, bb, 0, 0⟩ ⟨didS (⟨83, 97, 0, 0, 0, 0, 0, 0, 0, gg, dd, bb, ⟨#[]⟩, ⟨#[]⟩⟩ : Wp.Rq), 1, 1 + P1⟩ 0) := hS
  have HE2 : Hid (Env B w2) := HE.out.fr TA2.out
  clear hl hbx ht hS el ltl ltb kl e0 k0 e1 k1 e2 k2 e3 k3 e4 k4 e5 k5 e6 k6 e7 k7 e8 k8 e9 k9 e10 k10 e11 k11 e12 k12 e13 k13 e14 k14
  as_aux_lemma =>
    have HC2 : Hid (Calls Tryz.prog 18 #[.pointer (some ⟨xb, 0, none⟩), .agg #[.int .u8 83, .int .u8 97, .int .u8 0, .int .i64 0, .int .i64 0, .int .i64 0, .int .i64 0, .int .i64 0, .int .i64 0, .string gg, .string dd, .string bb, .string ⟨#[]⟩, .string ⟨#[]⟩, .slice none 0 0]] w2.drew fun e w' => e = .returned (.string ⟨#[0, 1, 0, 0, 0]⟩) ∧ w'.heap[lb]? = some (.cells (lineC xb V P1 R P2) 42 (0, 0)) ∧ w'.heap[w1.heap.size]? = some (.cells #[.int .u8 83, .int .u8 97, .int .u8 0, .int .i64 0, .int .i64 0, .int .i64 0, .int .i64 0, .int .i64 0, .int .i64 0, .string gg, .string dd, .string bb, .string ⟨#[]⟩, .string ⟨#[]⟩, .slice none 0 0] 27 (0, 0)) ∧ Tch [] w2 w') := by
      have h := step_again B 7 (cqN V (1 + P1) R (9 + P2)) (⟨83, 97, 0, 0, 0, 0, 0, 0, 0, gg, dd, bb, ⟨#[]⟩, ⟨#[]⟩⟩ : Wp.Rq) xb st b qb gm cm gd cd rs (⟨1, gg, bb, 0, 0⟩ : Ms) (⟨didS (⟨83, 97, 0, 0, 0, 0, 0, 0, 0, gg, dd, bb, ⟨#[]⟩, ⟨#[]⟩⟩ : Wp.Rq), 1, 1 + P1⟩ : Dd) 0 w2.drew (HE2.out.tch (Tch.refl [] w2).drew (by simp)) (HS2.out.tch (Tch.refl [] w2).drew) (by decide) HSND.out rfl rfl
      rw [cellsSnd] at h
      refine h.mono ?_
      rintro e w' ⟨he, ht⟩
      have t' : Tch [] w2 w' := (Tch.refl [] w2).drew.trans ht (by simp)
      exact ⟨ret1 he, (t'.block _ (lt_of_block HL2.out) (by simp)).trans HL2.out, (t'.block _ (lt_of_block HR2.out) (by simp)).trans HR2.out, t'⟩
    go_wp2_with fail
    generalize (Value.agg #[.int .u8 83, .int .u8 97, .int .u8 0, .int .i64 0, .int .i64 0, .int .i64 0, .int .i64 0, .int .i64 0, .int .i64 0, .string gg, .string dd, .string bb, .string ⟨#[]⟩, .string ⟨#[]⟩, .slice none 0 0]) = A3
    have el : w2.cell? ⟨lb, 0, none⟩ = some (.pointer (some ⟨xb, 0, none⟩)) := cell_qC HL2.out 0 _ rfl
    have e0 : w2.cell? ⟨w1.heap.size, 0, none⟩ = some (.int .u8 83) := cell_qC HR2.out 0 _ rfl
    have e1 : w2.cell? ⟨w1.heap.size, 1, none⟩ = some (.int .u8 97) := cell_qC HR2.out 1 _ rfl
    have e2 : w2.cell? ⟨w1.heap.size, 2, none⟩ = some (.int .u8 0) := cell_qC HR2.out 2 _ rfl
    have e3 : w2.cell? ⟨w1.heap.size, 3, none⟩ = some (.int .i64 0) := cell_qC HR2.out 3 _ rfl
    have e4 : w2.cell? ⟨w1.heap.size, 4, none⟩ = some (.int .i64 0) := cell_qC HR2.out 4 _ rfl
    have e5 : w2.cell? ⟨w1.heap.size, 5, none⟩ = some (.int .i64 0) := cell_qC HR2.out 5 _ rfl
    have e6 : w2.cell? ⟨w1.heap.size, 6, none⟩ = some (.int .i64 0) := cell_qC HR2.out 6 _ rfl
    have e7 : w2.cell? ⟨w1.heap.size, 7, none⟩ = some (.int .i64 0) := cell_qC HR2.out 7 _ rfl
    have e8 : w2.cell? ⟨w1.heap.size, 8, none⟩ = some (.int .i64 0) := cell_qC HR2.out 8 _ rfl
    have e9 : w2.cell? ⟨w1.heap.size, 9, none⟩ = some (.string gg) := cell_qC HR2.out 9 _ rfl
    have e10 : w2.cell? ⟨w1.heap.size, 10, none⟩ = some (.string dd) := cell_qC HR2.out 10 _ rfl
    have e11 : w2.cell? ⟨w1.heap.size, 11, none⟩ = some (.string bb) := cell_qC HR2.out 11 _ rfl
    have e12 : w2.cell? ⟨w1.heap.size, 12, none⟩ = some (.string ⟨#[]⟩) := cell_qC HR2.out 12 _ rfl
    have e13 : w2.cell? ⟨w1.heap.size, 13, none⟩ = some (.string ⟨#[]⟩) := cell_qC HR2.out 13 _ rfl
    have e14 : w2.cell? ⟨w1.heap.size, 14, none⟩ = some (.slice none 0 0) := cell_qC HR2.out 14 _ rfl
    have ltl : lb < w2.heap.size := lt_of_block HL2.out
    have ltb : w1.heap.size < w2.heap.size := lt_of_block HR2.out
    go_region_held3 (fun w' => w'.cell? ⟨lb, 0, none⟩ = some (.pointer (some ⟨xb, 0, none⟩)) ∧ w'.cell? ⟨w1.heap.size, 0, none⟩ = some (.int .u8 83) ∧ w'.cell? ⟨w1.heap.size, 1, none⟩ = some (.int .u8 97) ∧ w'.cell? ⟨w1.heap.size, 2, none⟩ = some (.int .u8 0) ∧ w'.cell? ⟨w1.heap.size, 3, none⟩ = some (.int .i64 0) ∧ w'.cell? ⟨w1.heap.size, 4, none⟩ = some (.int .i64 0) ∧ w'.cell? ⟨w1.heap.size, 5, none⟩ = some (.int .i64 0) ∧ w'.cell? ⟨w1.heap.size, 6, none⟩ = some (.int .i64 0) ∧ w'.cell? ⟨w1.heap.size, 7, none⟩ = some (.int .i64 0) ∧ w'.cell? ⟨w1.heap.size, 8, none⟩ = some (.int .i64 0) ∧ w'.cell? ⟨w1.heap.size, 9, none⟩ = some (.string gg) ∧ w'.cell? ⟨w1.heap.size, 10, none⟩ = some (.string dd) ∧ w'.cell? ⟨w1.heap.size, 11, none⟩ = some (.string bb) ∧ w'.cell? ⟨w1.heap.size, 12, none⟩ = some (.string ⟨#[]⟩) ∧ w'.cell? ⟨w1.heap.size, 13, none⟩ = some (.string ⟨#[]⟩) ∧ w'.cell? ⟨w1.heap.size, 14, none⟩ = some (.slice none 0 0)) (go_keep) (first | (go_at_call 18; refine HC2.out.mono ?_; rintro e w3 ⟨rfl, hl, hbx, ht⟩; have kl : _ := cell_qC hl 0 (.pointer (some ⟨xb, 0, none⟩)) rfl; have k0 := cell_qC hbx 0 (.int .u8 83) rfl; have k1 := cell_qC hbx 1 (.int .u8 97) rfl; have k2 := cell_qC hbx 2 (.int .u8 0) rfl; have k3 := cell_qC hbx 3 (.int .i64 0) rfl; have k4 := cell_qC hbx 4 (.int .i64 0) rfl; have k5 := cell_qC hbx 5 (.int .i64 0) rfl; have k6 := cell_qC hbx 6 (.int .i64 0) rfl; have k7 := cell_qC hbx 7 (.int .i64 0) rfl; have k8 := cell_qC hbx 8 (.int .i64 0) rfl; have k9 := cell_qC hbx 9 (.string gg) rfl; have k10 := cell_qC hbx 10 (.string dd) rfl; have k11 := cell_qC hbx 11 (.string bb) rfl; have k12 := cell_qC hbx 12 (.string ⟨#[]⟩) rfl; have k13 := cell_qC hbx 13 (.string ⟨#[]⟩) rfl; have k14 := cell_qC hbx 14 (.slice none 0 0) rfl))
    have HL3 : Hid (w3.heap[lb]? = some (.cells (lineC xb V P1 R P2) 42 (0, 0))) := hl
    have HR3 : Hid (w3.heap[w1.heap.size]? = some (.cells #[.int .u8 83, .int .u8 97, .int .u8 0, .int .i64 0, .int .i64 0, .int .i64 0, .int .i64 0, .int .i64 0, .int .i64 0, .string gg, .string dd, .string bb, .string ⟨#[]⟩, .string ⟨#[]⟩, .slice none 0 0] 27 (0, 0))) := hbx
    have T23 : Hid (Tch [] w2 w3) := ht
    clear hl hbx ht el ltl ltb kl e0 k0 e1 k1 e2 k2 e3 k3 e4 k4 e5 k5 e6 k6 e7 k7 e8 k8 e9 k9 e10 k10 e11 k11 e12 k12 e13 k13 e14 k14
    have el : w3.cell? ⟨lb, 0, none⟩ = some (.pointer (some ⟨xb, 0, none⟩)) := cell_qC HL3.out 0 _ rfl
    have e0 : w3.cell? ⟨w1.heap.size, 0, none⟩ = some (.int .u8 83) := cell_qC HR3.out 0 _ rfl
    have e1 : w3.cell? ⟨w1.heap.size, 1, none⟩ = some (.int .u8 97) := cell_qC HR3.out 1 _ rfl
    have e2 : w3.cell? ⟨w1.heap.size, 2, none⟩ = some (.int .u8 0) := cell_qC HR3.out 2 _ rfl
    have e3 : w3.cell? ⟨w1.heap.size, 3, none⟩ = some (.int .i64 0) := cell_qC HR3.out 3 _ rfl
    have e4 : w3.cell? ⟨w1.heap.size, 4, none⟩ = some (.int .i64 0) := cell_qC HR3.out 4 _ rfl
    have e5 : w3.cell? ⟨w1.heap.size, 5, none⟩ = some (.int .i64 0) := cell_qC HR3.out 5 _ rfl
    have e6 : w3.cell? ⟨w1.heap.size, 6, none⟩ = some (.int .i64 0) := cell_qC HR3.out 6 _ rfl
    have e7 : w3.cell? ⟨w1.heap.size, 7, none⟩ = some (.int .i64 0) := cell_qC HR3.out 7 _ rfl
    have e8 : w3.cell? ⟨w1.heap.size, 8, none⟩ = some (.int .i64 0) := cell_qC HR3.out 8 _ rfl
    have e9 : w3.cell? ⟨w1.heap.size, 9, none⟩ = some (.string gg) := cell_qC HR3.out 9 _ rfl
    have e10 : w3.cell? ⟨w1.heap.size, 10, none⟩ = some (.string dd) := cell_qC HR3.out 10 _ rfl
    have e11 : w3.cell? ⟨w1.heap.size, 11, none⟩ = some (.string bb) := cell_qC HR3.out 11 _ rfl
    have e12 : w3.cell? ⟨w1.heap.size, 12, none⟩ = some (.string ⟨#[]⟩) := cell_qC HR3.out 12 _ rfl
    have e13 : w3.cell? ⟨w1.heap.size, 13, none⟩ = some (.string ⟨#[]⟩) := cell_qC HR3.out 13 _ rfl
    have e14 : w3.cell? ⟨w1.heap.size, 14, none⟩ = some (.slice none 0 0) := cell_qC HR3.out 14 _ rfl
    have ltl : lb < w3.heap.size := lt_of_block HL3.out
    have ltb : w1.heap.size < w3.heap.size := lt_of_block HR3.out
    clear HC2
    by_cases hd0 : dd.size = 0
    · have hdd : dd = ⟨#[]⟩ := toList_nil _ hd0
      subst hdd
      clear hd0
      go_wp2_with fail
      as_aux_lemma =>
        clear el ltl ltb e0 e1 e2 e3 e4 e5 e6 e7 e8 e9 e10 e11 e12 e13 e14
        obtain ⟨wt, hwt⟩ : ∃ wt, wt = w3.alloc (.cells #[.int .u8 83, .int .u8 97, .int .u8 0, .int .i64 0, .int .i64 0, .int .i64 0, .int .i64 0, .int .i64 0, .int .i64 0, .string ⟨#[111, 116, 104, 101, 114]⟩, .string ⟨#[]⟩, .string bb, .string ⟨#[]⟩, .string ⟨#[]⟩, .slice none 0 0] 27) := ⟨_, rfl⟩
        rw [← hwt]
        have TT : Hid (Tch [] w3 wt) := by rw [hwt]; exact (Tch.refl _ _).alloc _
        have HT4 : Hid (wt.heap[w3.heap.size]? = some (.cells #[.int .u8 83, .int .u8 97, .int .u8 0, .int .i64 0, .int .i64 0, .int .i64 0, .int .i64 0, .int .i64 0, .int .i64 0, .string ⟨#[111, 116, 104, 101, 114]⟩, .string ⟨#[]⟩, .string bb, .string ⟨#[]⟩, .string ⟨#[]⟩, .slice none 0 0] 27 (0, 0))) := by rw [hwt]; exact heap_alloc_new _ _
        clear hwt
        have HR4 : Hid (wt.heap[w1.heap.size]? = some (.cells #[.int .u8 83, .int .u8 97, .int .u8 0, .int .i64 0, .int .i64 0, .int .i64 0, .int .i64 0, .int .i64 0, .int .i64 0, .string gg, .string ⟨#[]⟩, .string bb, .string ⟨#[]⟩, .string ⟨#[]⟩, .slice none 0 0] 27 (0, 0))) := (TT.out.block _ (lt_of_block HR3.out) (by simp)).trans HR3.out
        have HL4 : Hid (wt.heap[lb]? = some (.cells (lineC xb V P1 R P2) 42 (0, 0))) := (TT.out.block _ (lt_of_block HL3.out) (by simp)).trans HL3.out
        have T2t : Hid (Tch [] w2 wt) := T23.out.trans TT.out (by simp)
        have HST : Hid (Snd (⟨83, 97, 0, 0, 0, 0, 0, 0, 0, ⟨#[111, 116, 104, 101, 114]⟩, ⟨#[]⟩, bb, ⟨#[]⟩, ⟨#[]⟩⟩ : Wp.Rq)) := HSNT.out bb HZB.out
        have HDD : Hid (didS (⟨83, 97, 0, 0, 0, 0, 0, 0, 0, gg, ⟨#[]⟩, bb, ⟨#[]⟩, ⟨#[]⟩⟩ : Wp.Rq) = didS (⟨83, 97, 0, 0, 0, 0, 0, 0, 0, ⟨#[111, 116, 104, 101, 114]⟩, ⟨#[]⟩, bb, ⟨#[]⟩, ⟨#[]⟩⟩ : Wp.Rq)) := by show didS _ = didS _; rfl
        have HC3 : Hid (Calls Tryz.prog 18 #[.pointer (some ⟨xb, 0, none⟩), .agg #[.int .u8 83, .int .u8 97, .int .u8 0, .int .i64 0, .int .i64 0, .int .i64 0, .int .i64 0, .int .i64 0, .int .i64 0, .string ⟨#[111, 116, 104, 101, 114]⟩, .string ⟨#[]⟩, .string bb, .string ⟨#[]⟩, .string ⟨#[]⟩, .slice none 0 0]] wt.drew fun e w' => e = .returned (.string ⟨#[0, 1, 0, 0, 0]⟩) ∧ w'.heap[lb]? = some (.cells (lineC xb V P1 R P2) 42 (0, 0)) ∧ w'.heap[w3.heap.size]? = some (.cells #[.int .u8 83, .int .u8 97, .int .u8 0, .int .i64 0, .int .i64 0, .int .i64 0, .int .i64 0, .int .i64 0, .int .i64 0, .string ⟨#[111, 116, 104, 101, 114]⟩, .string ⟨#[]⟩, .string bb, .string ⟨#[]⟩, .string ⟨#[]⟩, .slice none 0 0] 27 (0, 0)) ∧ w'.heap[w1.heap.size]? = some (.cells #[.int .u8 83, .int .u8 97, .int .u8 0, .int .i64 0, .int .i64 0, .int .i64 0, .int .i64 0, .int .i64 0, .int .i64 0, .string gg, .string ⟨#[]⟩, .string bb, .string ⟨#[]⟩, .string ⟨#[]⟩, .slice none 0 0] 27 (0, 0)) ∧ Tch [] w2 w') := by
          have h := step_again B 7 (cqN V (1 + P1) R (9 + P2)) (⟨83, 97, 0, 0, 0, 0, 0, 0, 0, ⟨#[111, 116, 104, 101, 114]⟩, ⟨#[]⟩, bb, ⟨#[]⟩, ⟨#[]⟩⟩ : Wp.Rq) xb st b qb gm cm gd cd rs (⟨1, gg, bb, 0, 0⟩ : Ms) (⟨didS (⟨83, 97, 0, 0, 0, 0, 0, 0, 0, gg, ⟨#[]⟩, bb, ⟨#[]⟩, ⟨#[]⟩⟩ : Wp.Rq), 1, 1 + P1⟩ : Dd) 0 wt.drew (HE2.out.tch T2t.out.drew (by simp)) (HS2.out.tch T2t.out.drew) (by decide) HST.out HDD.out rfl
          rw [cellsSnd] at h
          refine h.mono ?_
          rintro e w' ⟨he, ht⟩
          have t' : Tch [] wt w' := (Tch.refl [] wt).drew.trans ht (by simp)
          exact ⟨ret1 he, (t'.block _ (lt_of_block HL4.out) (by simp)).trans HL4.out, (t'.block _ (lt_of_block HT4.out) (by simp)).trans HT4.out, (t'.block _ (lt_of_block HR4.out) (by simp)).trans HR4.out, T2t.out.trans t' (by simp)⟩
        generalize (Value.agg #[.int .u8 83, .int .u8 97, .int .u8 0, .int .i64 0, .int .i64 0, .int .i64 0, .int .i64 0, .int .i64 0, .int .i64 0, .string gg, .string ⟨#[]⟩, .string bb, .string ⟨#[]⟩, .string ⟨#[]⟩, .slice none 0 0]) = A4
        have el : wt.cell? ⟨lb, 0, none⟩ = some (.pointer (some ⟨xb, 0, none⟩)) := cell_qC HL4.out 0 _ rfl
        have e0 : wt.cell? ⟨w3.heap.size, 0, none⟩ = some (.int .u8 83) := cell_qC HT4.out 0 _ rfl
        have e1 : wt.cell? ⟨w3.heap.size, 1, none⟩ = some (.int .u8 97) := cell_qC HT4.out 1 _ rfl
        have e2 : wt.cell? ⟨w3.heap.size, 2, none⟩ = some (.int .u8 0) := cell_qC HT4.out 2 _ rfl
        have e3 : wt.cell? ⟨w3.heap.size, 3, none⟩ = some (.int .i64 0) := cell_qC HT4.out 3 _ rfl
        have e4 : wt.cell? ⟨w3.heap.size, 4, none⟩ = some (.int .i64 0) := cell_qC HT4.out 4 _ rfl
        have e5 : wt.cell? ⟨w3.heap.size, 5, none⟩ = some (.int .i64 0) := cell_qC HT4.out 5 _ rfl
        have e6 : wt.cell? ⟨w3.heap.size, 6, none⟩ = some (.int .i64 0) := cell_qC HT4.out 6 _ rfl
        have e7 : wt.cell? ⟨w3.heap.size, 7, none⟩ = some (.int .i64 0) := cell_qC HT4.out 7 _ rfl
        have e8 : wt.cell? ⟨w3.heap.size, 8, none⟩ = some (.int .i64 0) := cell_qC HT4.out 8 _ rfl
        have e9 : wt.cell? ⟨w3.heap.size, 9, none⟩ = some (.string ⟨#[111, 116, 104, 101, 114]⟩) := cell_qC HT4.out 9 _ rfl
        have e10 : wt.cell? ⟨w3.heap.size, 10, none⟩ = some (.string ⟨#[]⟩) := cell_qC HT4.out 10 _ rfl
        have e11 : wt.cell? ⟨w3.heap.size, 11, none⟩ = some (.string bb) := cell_qC HT4.out 11 _ rfl
        have e12 : wt.cell? ⟨w3.heap.size, 12, none⟩ = some (.string ⟨#[]⟩) := cell_qC HT4.out 12 _ rfl
        have e13 : wt.cell? ⟨w3.heap.size, 13, none⟩ = some (.string ⟨#[]⟩) := cell_qC HT4.out 13 _ rfl
        have e14 : wt.cell? ⟨w3.heap.size, 14, none⟩ = some (.slice none 0 0) := cell_qC HT4.out 14 _ rfl
        have ltl : lb < wt.heap.size := lt_of_block HL4.out
        have ltb : w3.heap.size < wt.heap.size := lt_of_block HT4.out
        go_region_held3 (fun w' => w'.cell? ⟨lb, 0, none⟩ = some (.pointer (some ⟨xb, 0, none⟩)) ∧ w'.cell? ⟨w3.heap.size, 0, none⟩ = some (.int .u8 83) ∧ w'.cell? ⟨w3.heap.size, 1, none⟩ = some (.int .u8 97) ∧ w'.cell? ⟨w3.heap.size, 2, none⟩ = some (.int .u8 0) ∧ w'.cell? ⟨w3.heap.size, 3, none⟩ = some (.int .i64 0) ∧ w'.cell? ⟨w3.heap.size, 4, none⟩ = some (.int .i64 0) ∧ w'.cell? ⟨w3.heap.size, 5, none⟩ = some (.int .i64 0) ∧ w'.cell? ⟨w3.heap.size, 6, none⟩ = some (.int .i64 0) ∧ w'.cell? ⟨w3.heap.size, 7, none⟩ = some (.int .i64 0) ∧ w'.cell? ⟨w3.heap.size, 8, none⟩ = some (.int .i64 0) ∧ w'.cell? ⟨w3.heap.size, 9, none⟩ = some (.string ⟨#[111, 116, 104, 101, 114]⟩) ∧ w'.cell? ⟨w3.heap.size, 10, none⟩ = some (.string ⟨#[]⟩) ∧ w'.cell? ⟨w3.heap.size, 11, none⟩ = some (.string bb) ∧ w'.cell? ⟨w3.heap.size, 12, none⟩ = some (.string ⟨#[]⟩) ∧ w'.cell? ⟨w3.heap.size, 13, none⟩ = some (.string ⟨#[]⟩) ∧ w'.cell? ⟨w3.heap.size, 14, none⟩ = some (.slice none 0 0)) (go_keep) (first | (go_at_call 18; refine HC3.out.mono ?_; rintro e w4 ⟨rfl, hl, hbx, hbr, ht⟩; have kl : _ := cell_qC hl 0 (.pointer (some ⟨xb, 0, none⟩)) rfl; have k0 := cell_qC hbx 0 (.int .u8 83) rfl; have k1 := cell_qC hbx 1 (.int .u8 97) rfl; have k2 := cell_qC hbx 2 (.int .u8 0) rfl; have k3 := cell_qC hbx 3 (.int .i64 0) rfl; have k4 := cell_qC hbx 4 (.int .i64 0) rfl; have k5 := cell_qC hbx 5 (.int .i64 0) rfl; have k6 := cell_qC hbx 6 (.int .i64 0) rfl; have k7 := cell_qC hbx 7 (.int .i64 0) rfl; have k8 := cell_qC hbx 8 (.int .i64 0) rfl; have k9 := cell_qC hbx 9 (.string ⟨#[111, 116, 104, 101, 114]⟩) rfl; have k10 := cell_qC hbx 10 (.string ⟨#[]⟩) rfl; have k11 := cell_qC hbx 11 (.string bb) rfl; have k12 := cell_qC hbx 12 (.string ⟨#[]⟩) rfl; have k13 := cell_qC hbx 13 (.string ⟨#[]⟩) rfl; have k14 := cell_qC hbx 14 (.slice none 0 0) rfl))
        have HL5 : Hid (w4.heap[lb]? = some (.cells (lineC xb V P1 R P2) 42 (0, 0))) := hl
        have HR5 : Hid (w4.heap[w1.heap.size]? = some (.cells #[.int .u8 83, .int .u8 97, .int .u8 0, .int .i64 0, .int .i64 0, .int .i64 0, .int .i64 0, .int .i64 0, .int .i64 0, .string gg, .string ⟨#[]⟩, .string bb, .string ⟨#[]⟩, .string ⟨#[]⟩, .slice none 0 0] 27 (0, 0))) := hbr
        have T24 : Hid (Tch [] w2 w4) := ht
        have el4 : w4.cell? ⟨lb, 0, none⟩ = some (.pointer (some ⟨xb, 0, none⟩)) := cell_qC hl 0 _ rfl
        clear hl hbx hbr ht el ltl ltb kl e0 k0 e1 k1 e2 k2 e3 k3 e4 k4 e5 k5 e6 k6 e7 k7 e8 k8 e9 k9 e10 k10 e11 k11 e12 k12 e13 k13 e14 k14
        generalize (Value.agg #[.int .u8 83, .int .u8 97, .int .u8 0, .int .i64 0, .int .i64 0, .int .i64 0, .int .i64 0, .int .i64 0, .int .i64 0, .string ⟨#[111, 116, 104, 101, 114]⟩, .string ⟨#[]⟩, .string bb, .string ⟨#[]⟩, .string ⟨#[]⟩, .slice none 0 0]) = A5
        as_aux_lemma =>
          go_wp2_with fail
          refine (HP3.out _).mono ?_
          rintro e w' ⟨rfl, h'⟩
          have h'' := h'.symm
          subst h''
          go_wp2_with fail
          have HTM : Hid (Calls Tryz.prog 18 #[.pointer (some ⟨xb, 0, none⟩), .agg (cellsOf ⟨84, 0, 0, 0, 0, 0, 0, 0, 1 + P3, ⟨#[]⟩, ⟨#[]⟩, ⟨#[]⟩, ⟨#[]⟩, ⟨#[]⟩⟩ nil0.v)] w4 _) := step_time B 7 (cqN V (1 + P1) R (9 + P2)) xb st b qb gm cm gd cd rs (⟨1, gg, bb, 0, 0⟩ : Ms) (⟨didS (⟨83, 97, 0, 0, 0, 0, 0, 0, 0, gg, ⟨#[]⟩, bb, ⟨#[]⟩, ⟨#[]⟩⟩ : Wp.Rq), 1, 1 + P1⟩ : Dd) (1 + P3) w4 (HE2.out.tch T24.out (by simp)) (HS2.out.tch T24.out) (by decide) ⟨by omega, by omega⟩ rfl rfl
          refine HTM.out.mono ?_
          rintro e w5 ⟨rfl, ht5, hor⟩
          have hsz4 : B ≤ w4.heap.size := Nat.le_trans HE2.out.size T24.out.size
          have HL6 : Hid (w5.heap[lb]? = some (.cells (lineC xb V P1 R P2) 42 (0, 0))) := ht5.keep _ _ _ HL5.out (by decide)
          have HR6 : Hid (w5.heap[w1.heap.size]? = some (.cells #[.int .u8 83, .int .u8 97, .int .u8 0, .int .i64 0, .int .i64 0, .int .i64 0, .int .i64 0, .int .i64 0, .int .i64 0, .string gg, .string ⟨#[]⟩, .string bb, .string ⟨#[]⟩, .string ⟨#[]⟩, .slice none 0 0] 27 (0, 0))) := ht5.keep _ _ _ HR5.out (by decide)
          have TW5 : Hid (Fr B TB w w5) := (TA2.out.trans (Fr.of_nil TB T24.out HE2.out.size)).trans ht5
          have HE5 : Hid (Env B w5) := (HE2.out.tch T24.out (by simp)).fr ht5
          clear ht5 hsz4 el4 HTM
          rcases hor with ⟨hn, hS5⟩ | ⟨hn, hS5⟩
          · as_aux_lemma =>
              have HC5 : Hid (Calls Tryz.prog 18 #[.pointer (some ⟨xb, 0, none⟩), .agg #[.int .u8 83, .int .u8 97, .int .u8 0, .int .i64 0, .int .i64 0, .int .i64 0, .int .i64 0, .int .i64 0, .int .i64 0, .string gg, .string ⟨#[]⟩, .string bb, .string ⟨#[]⟩, .string ⟨#[]⟩, .slice none 0 0]] w5.drew fun e w' => e = .returned (.string ⟨#[0, 1, 0, 0, 0]⟩) ∧ w'.heap[lb]? = some (.cells (lineC xb V P1 R P2) 42 (0, 0)) ∧ w'.heap[w1.heap.size]? = some (.cells #[.int .u8 83, .int .u8 97, .int .u8 0, .int .i64 0, .int .i64 0, .int .i64 0, .int .i64 0, .int .i64 0, .int .i64 0, .string gg, .string ⟨#[]⟩, .string bb, .string ⟨#[]⟩, .string ⟨#[]⟩, .slice none 0 0] 27 (0, 0)) ∧ Below B w w') := by
                have h := step_again B 6 (cqN V (1 + P1) R (9 + P2)) (⟨83, 97, 0, 0, 0, 0, 0, 0, 0, gg, ⟨#[]⟩, bb, ⟨#[]⟩, ⟨#[]⟩⟩ : Wp.Rq) xb st b qb gm cm gd cd rs (⟨1, gg, bb, 0, 0⟩ : Ms) (⟨didS (⟨83, 97, 0, 0, 0, 0, 0, 0, 0, gg, ⟨#[]⟩, bb, ⟨#[]⟩, ⟨#[]⟩⟩ : Wp.Rq), 1, 1 + P1⟩ : Dd) (1 + P3) w5.drew (HE5.out.tch (Tch.refl [] w5).drew (by simp)) (hS5.tch (Tch.refl [] w5).drew) (by decide) HSND.out rfl rfl
                rw [cellsSnd] at h
                refine h.mono ?_
                rintro e w' ⟨he, ht⟩
                have t' : Tch [] w5 w' := (Tch.refl [] w5).drew.trans ht (by simp)
                exact ⟨ret1 he, (t'.block _ (lt_of_block HL6.out) (by simp)).trans HL6.out, (t'.block _ (lt_of_block HR6.out) (by simp)).trans HR6.out, TW5.out.below.trans (t'.below (by simp) HE5.out.size)⟩
              have hnn : 1 + P3 < 1 + P1 := hn
              clear hS5 hn
              go_wp2_with fail
              generalize (Value.agg #[.int .u8 83, .int .u8 97, .int .u8 0, .int .i64 0, .int .i64 0, .int .i64 0, .int .i64 0, .int .i64 0, .int .i64 0, .string gg, .string ⟨#[]⟩, .string bb, .string ⟨#[]⟩, .string ⟨#[]⟩, .slice none 0 0]) = A6
              have el : w5.cell? ⟨lb, 0, none⟩ = some (.pointer (some ⟨xb, 0, none⟩)) := cell_qC HL6.out 0 _ rfl
              have e0 : w5.cell? ⟨w1.heap.size, 0, none⟩ = some (.int .u8 83) := cell_qC HR6.out 0 _ rfl
              have e1 : w5.cell? ⟨w1.heap.size, 1, none⟩ = some (.int .u8 97) := cell_qC HR6.out 1 _ rfl
              have e2 : w5.cell? ⟨w1.heap.size, 2, none⟩ = some (.int .u8 0) := cell_qC HR6.out 2 _ rfl
              have e3 : w5.cell? ⟨w1.heap.size, 3, none⟩ = some (.int .i64 0) := cell_qC HR6.out 3 _ rfl
              have e4 : w5.cell? ⟨w1.heap.size, 4, none⟩ = some (.int .i64 0) := cell_qC HR6.out 4 _ rfl
              have e5 : w5.cell? ⟨w1.heap.size, 5, none⟩ = some (.int .i64 0) := cell_qC HR6.out 5 _ rfl
              have e6 : w5.cell? ⟨w1.heap.size, 6, none⟩ = some (.int .i64 0) := cell_qC HR6.out 6 _ rfl
              have e7 : w5.cell? ⟨w1.heap.size, 7, none⟩ = some (.int .i64 0) := cell_qC HR6.out 7 _ rfl
              have e8 : w5.cell? ⟨w1.heap.size, 8, none⟩ = some (.int .i64 0) := cell_qC HR6.out 8 _ rfl
              have e9 : w5.cell? ⟨w1.heap.size, 9, none⟩ = some (.string gg) := cell_qC HR6.out 9 _ rfl
              have e10 : w5.cell? ⟨w1.heap.size, 10, none⟩ = some (.string ⟨#[]⟩) := cell_qC HR6.out 10 _ rfl
              have e11 : w5.cell? ⟨w1.heap.size, 11, none⟩ = some (.string bb) := cell_qC HR6.out 11 _ rfl
              have e12 : w5.cell? ⟨w1.heap.size, 12, none⟩ = some (.string ⟨#[]⟩) := cell_qC HR6.out 12 _ rfl
              have e13 : w5.cell? ⟨w1.heap.size, 13, none⟩ = some (.string ⟨#[]⟩) := cell_qC HR6.out 13 _ rfl
              have e14 : w5.cell? ⟨w1.heap.size, 14, none⟩ = some (.slice none 0 0) := cell_qC HR6.out 14 _ rfl
              have ltl : lb < w5.heap.size := lt_of_block HL6.out
              have ltb : w1.heap.size < w5.heap.size := lt_of_block HR6.out
              go_region_held3 (fun w' => w'.cell? ⟨lb, 0, none⟩ = some (.pointer (some ⟨xb, 0, none⟩)) ∧ w'.cell? ⟨w1.heap.size, 0, none⟩ = some (.int .u8 83) ∧ w'.cell? ⟨w1.heap.size, 1, none⟩ = some (.int .u8 97) ∧ w'.cell? ⟨w1.heap.size, 2, none⟩ = some (.int .u8 0) ∧ w'.cell? ⟨w1.heap.size, 3, none⟩ = some (.int .i64 0) ∧ w'.cell? ⟨w1.heap.size, 4, none⟩ = some (.int .i64 0) ∧ w'.cell? ⟨w1.heap.size, 5, none⟩ = some (.int .i64 0) ∧ w'.cell? ⟨w1.heap.size, 6, none⟩ = some (.int .i64 0) ∧ w'.cell? ⟨w1.heap.size, 7, none⟩ = some (.int .i64 0) ∧ w'.cell? ⟨w1.heap.size, 8, none⟩ = some (.int .i64 0) ∧ w'.cell? ⟨w1.heap.size, 9, none⟩ = some (.string gg) ∧ w'.cell? ⟨w1.heap.size, 10, none⟩ = some (.string ⟨#[]⟩) ∧ w'.cell? ⟨w1.heap.size, 11, none⟩ = some (.string bb) ∧ w'.cell? ⟨w1.heap.size, 12, none⟩ = some (.string ⟨#[]⟩) ∧ w'.cell? ⟨w1.heap.size, 13, none⟩ = some (.string ⟨#[]⟩) ∧ w'.cell? ⟨w1.heap.size, 14, none⟩ = some (.slice none 0 0)) (go_keep) (first | (go_at_call 18; refine HC5.out.mono ?_; rintro e w6 ⟨rfl, hl, hbx, hbel⟩; have kl : _ := cell_qC hl 0 (.pointer (some ⟨xb, 0, none⟩)) rfl; have k0 := cell_qC hbx 0 (.int .u8 83) rfl; have k1 := cell_qC hbx 1 (.int .u8 97) rfl; have k2 := cell_qC hbx 2 (.int .u8 0) rfl; have k3 := cell_qC hbx 3 (.int .i64 0) rfl; have k4 := cell_qC hbx 4 (.int .i64 0) rfl; have k5 := cell_qC hbx 5 (.int .i64 0) rfl; have k6 := cell_qC hbx 6 (.int .i64 0) rfl; have k7 := cell_qC hbx 7 (.int .i64 0) rfl; have k8 := cell_qC hbx 8 (.int .i64 0) rfl; have k9 := cell_qC hbx 9 (.string gg) rfl; have k10 := cell_qC hbx 10 (.string ⟨#[]⟩) rfl; have k11 := cell_qC hbx 11 (.string bb) rfl; have k12 := cell_qC hbx 12 (.string ⟨#[]⟩) rfl; have k13 := cell_qC hbx 13 (.string ⟨#[]⟩) rfl; have k14 := cell_qC hbx 14 (.slice none 0 0) rfl))
              have el5 : w6.cell? ⟨lb, 5, none⟩ = some (.int .i64 (1 + P1)) := cell_qC hl 5 _ rfl
              have HF : Hid (Below B w w6) := hbel
              clear hl hbx hbel el ltl ltb kl e0 k0 e1 k1 e2 k2 e3 k3 e4 k4 e5 k5 e6 k6 e7 k7 e8 k8 e9 k9 e10 k10 e11 k11 e12 k12 e13 k13 e14 k14
              go_wp2_with fail
              go_ret
              exact ⟨rfl, HF.out⟩
          · as_aux_lemma =>
              have HC6 : Hid (Calls Tryz.prog 18 #[.pointer (some ⟨xb, 0, none⟩), .agg #[.int .u8 83, .int .u8 97, .int .u8 0, .int .i64 0, .int .i64 0, .int .i64 0, .int .i64 0, .int .i64 0, .int .i64 0, .string gg, .string ⟨#[]⟩, .string bb, .string ⟨#[]⟩, .string ⟨#[]⟩, .slice none 0 0]] w5.drew fun e w' => e = .returned (.string ⟨#[0, 2, 0, 0, 0]⟩) ∧ w'.heap[lb]? = some (.cells (lineC xb V P1 R P2) 42 (0, 0)) ∧ w'.heap[w1.heap.size]? = some (.cells #[.int .u8 83, .int .u8 97, .int .u8 0, .int .i64 0, .int .i64 0, .int .i64 0, .int .i64 0, .int .i64 0, .int .i64 0, .string gg, .string ⟨#[]⟩, .string bb, .string ⟨#[]⟩, .string ⟨#[]⟩, .slice none 0 0] 27 (0, 0)) ∧ Below B w w') := by
                have h := step_late B 6 (cqN V (1 + P1) R (9 + P2)) (⟨83, 97, 0, 0, 0, 0, 0, 0, 0, gg, ⟨#[]⟩, bb, ⟨#[]⟩, ⟨#[]⟩⟩ : Wp.Rq) xb st b qb gm cm gd cd rs (⟨1, gg, bb, 0, 0⟩ : Ms) (⟨didS (⟨83, 97, 0, 0, 0, 0, 0, 0, 0, gg, ⟨#[]⟩, bb, ⟨#[]⟩, ⟨#[]⟩⟩ : Wp.Rq), 1, 1 + P1⟩ : Dd) (1 + P3) w5.drew (HE5.out.tch (Tch.refl [] w5).drew (by simp)) (hS5.tch (Tch.refl [] w5).drew) (by decide) HSND.out ⟨by show 0 < 1 + P1; omega, by show 1 + P1 ≤ 1001; omega⟩ (by show 2 ≤ 1 + (9 + P2); omega) ⟨by omega, by omega⟩
                rw [cellsSnd] at h
                refine h.mono ?_
                rintro e w' ⟨he, ht⟩
                exact ⟨ret2 he, ht.keep _ _ _ (show w5.drew.heap[lb]? = _ from HL6.out) (by decide), ht.keep _ _ _ (show w5.drew.heap[w1.heap.size]? = _ from HR6.out) (by decide), (TW5.out.trans ((Fr.of_nil TB (Tch.refl [] w5).drew HE5.out.size).trans ht)).below⟩
              have hnn : ¬ 1 + P3 < 1 + P1 := by have hn' : 1 + P1 ≤ 1 + P3 := hn; omega
              clear hS5 hn
              go_wp2_with fail
              generalize (Value.agg #[.int .u8 83, .int .u8 97, .int .u8 0, .int .i64 0, .int .i64 0, .int .i64 0, .int .i64 0, .int .i64 0, .int .i64 0, .string gg, .string ⟨#[]⟩, .string bb, .string ⟨#[]⟩, .string ⟨#[]⟩, .slice none 0 0]) = A6
              have el : w5.cell? ⟨lb, 0, none⟩ = some (.pointer (some ⟨xb, 0, none⟩)) := cell_qC HL6.out 0 _ rfl
              have e0 : w5.cell? ⟨w1.heap.size, 0, none⟩ = some (.int .u8 83) := cell_qC HR6.out 0 _ rfl
              have e1 : w5.cell? ⟨w1.heap.size, 1, none⟩ = some (.int .u8 97) := cell_qC HR6.out 1 _ rfl
              have e2 : w5.cell? ⟨w1.heap.size, 2, none⟩ = some (.int .u8 0) := cell_qC HR6.out 2 _ rfl
              have e3 : w5.cell? ⟨w1.heap.size, 3, none⟩ = some (.int .i64 0) := cell_qC HR6.out 3 _ rfl
              have e4 : w5.cell? ⟨w1.heap.size, 4, none⟩ = some (.int .i64 0) := cell_qC HR6.out 4 _ rfl
              have e5 : w5.cell? ⟨w1.heap.size, 5, none⟩ = some (.int .i64 0) := cell_qC HR6.out 5 _ rfl
              have e6 : w5.cell? ⟨w1.heap.size, 6, none⟩ = some (.int .i64 0) := cell_qC HR6.out 6 _ rfl
              have e7 : w5.cell? ⟨w1.heap.size, 7, none⟩ = some (.int .i64 0) := cell_qC HR6.out 7 _ rfl
              have e8 : w5.cell? ⟨w1.heap.size, 8, none⟩ = some (.int .i64 0) := cell_qC HR6.out 8 _ rfl
              have e9 : w5.cell? ⟨w1.heap.size, 9, none⟩ = some (.string gg) := cell_qC HR6.out 9 _ rfl
              have e10 : w5.cell? ⟨w1.heap.size, 10, none⟩ = some (.string ⟨#[]⟩) := cell_qC HR6.out 10 _ rfl
              have e11 : w5.cell? ⟨w1.heap.size, 11, none⟩ = some (.string bb) := cell_qC HR6.out 11 _ rfl
              have e12 : w5.cell? ⟨w1.heap.size, 12, none⟩ = some (.string ⟨#[]⟩) := cell_qC HR6.out 12 _ rfl
              have e13 : w5.cell? ⟨w1.heap.size, 13, none⟩ = some (.string ⟨#[]⟩) := cell_qC HR6.out 13 _ rfl
              have e14 : w5.cell? ⟨w1.heap.size, 14, none⟩ = some (.slice none 0 0) := cell_qC HR6.out 14 _ rfl
              have ltl : lb < w5.heap.size := lt_of_block HL6.out
              have ltb : w1.heap.size < w5.heap.size := lt_of_block HR6.out
              go_region_held3 (fun w' => w'.cell? ⟨lb, 0, none⟩ = some (.pointer (some ⟨xb, 0, none⟩)) ∧ w'.cell? ⟨w1.heap.size, 0, none⟩ = some (.int .u8 83) ∧ w'.cell? ⟨w1.heap.size, 1, none⟩ = some (.int .u8 97) ∧ w'.cell? ⟨w1.heap.size, 2, none⟩ = some (.int .u8 0) ∧ w'.cell? ⟨w1.heap.size, 3, none⟩ = some (.int .i64 0) ∧ w'.cell? ⟨w1.heap.size, 4, none⟩ = some (.int .i64 0) ∧ w'.cell? ⟨w1.heap.size, 5, none⟩ = some (.int .i64 0) ∧ w'.cell? ⟨w1.heap.size, 6, none⟩ = some (.int .i64 0) ∧ w'.cell? ⟨w1.heap.size, 7, none⟩ = some (.int .i64 0) ∧ w'.cell? ⟨w1.heap.size, 8, none⟩ = some (.int .i64 0) ∧ w'.cell? ⟨w1.heap.size, 9, none⟩ = some (.string gg) ∧ w'.cell? ⟨w1.heap.size, 10, none⟩ = some (.string ⟨#[]⟩) ∧ w'.cell? ⟨w1.heap.size, 11, none⟩ = some (.string bb) ∧ w'.cell? ⟨w1.heap.size, 12, none⟩ = some (.string ⟨#[]⟩) ∧ w'.cell? ⟨w1.heap.size, 13, none⟩ = some (.string ⟨#[]⟩) ∧ w'.cell? ⟨w1.heap.size, 14, none⟩ = some (.slice none 0 0)) (go_keep) (first | (go_at_call 18; refine HC6.out.mono ?_; rintro e w6 ⟨rfl, hl, hbx, hbel⟩; have kl : _ := cell_qC hl 0 (.pointer (some ⟨xb, 0, none⟩)) rfl; have k0 := cell_qC hbx 0 (.int .u8 83) rfl; have k1 := cell_qC hbx 1 (.int .u8 97) rfl; have k2 := cell_qC hbx 2 (.int .u8 0) rfl; have k3 := cell_qC hbx 3 (.int .i64 0) rfl; have k4 := cell_qC hbx 4 (.int .i64 0) rfl; have k5 := cell_qC hbx 5 (.int .i64 0) rfl; have k6 := cell_qC hbx 6 (.int .i64 0) rfl; have k7 := cell_qC hbx 7 (.int .i64 0) rfl; have k8 := cell_qC hbx 8 (.int .i64 0) rfl; have k9 := cell_qC hbx 9 (.string gg) rfl; have k10 := cell_qC hbx 10 (.string ⟨#[]⟩) rfl; have k11 := cell_qC hbx 11 (.string bb) rfl; have k12 := cell_qC hbx 12 (.string ⟨#[]⟩) rfl; have k13 := cell_qC hbx 13 (.string ⟨#[]⟩) rfl; have k14 := cell_qC hbx 14 (.slice none 0 0) rfl))
              have el5 : w6.cell? ⟨lb, 5, none⟩ = some (.int .i64 (1 + P1)) := cell_qC hl 5 _ rfl
              have HF : Hid (Below B w w6) := hbel
              clear hl hbx hbel el ltl ltb kl e0 k0 e1 k1 e2 k2 e3 k3 e4 k4 e5 k5 e6 k6 e7 k7 e8 k8 e9 k9 e10 k10 e11 k11 e12 k12 e13 k13 e14 k14
              go_wp2_with fail
              go_ret
              exact ⟨rfl, HF.out⟩
    · have hne := ne_nil _ hd0
      have HD0 : Hid (¬ dd.size = 0) := hd0
      clear hd0
      go_wp2_with fail
      as_aux_lemma =>
        clear el ltl ltb e0 e1 e2 e3 e4 e5 e6 e7 e8 e9 e10 e11 e12 e13 e14
        obtain ⟨wt, hwt⟩ : ∃ wt, wt = w3.alloc (.cells #[.int .u8 83, .int .u8 97, .int .u8 0, .int .i64 0, .int .i64 0, .int .i64 0, .int .i64 0, .int .i64 0, .int .i64 0, .string ⟨#[111, 116, 104, 101, 114]⟩, .string dd, .string cc, .string ⟨#[]⟩, .string ⟨#[]⟩, .slice none 0 0] 27) := ⟨_, rfl⟩
        rw [← hwt]
        have TT : Hid (Tch [] w3 wt) := by rw [hwt]; exact (Tch.refl _ _).alloc _
        have HT4 : Hid (wt.heap[w3.heap.size]? = some (.cells #[.int .u8 83, .int .u8 97, .int .u8 0, .int .i64 0, .int .i64 0, .int .i64 0, .int .i64 0, .int .i64 0, .int .i64 0, .string ⟨#[111, 116, 104, 101, 114]⟩, .string dd, .string cc, .string ⟨#[]⟩, .string ⟨#[]⟩, .slice none 0 0] 27 (0, 0))) := by rw [hwt]; exact heap_alloc_new _ _
        clear hwt
        have HR4 : Hid (wt.heap[w1.heap.size]? = some (.cells #[.int .u8 83, .int .u8 97, .int .u8 0, .int .i64 0, .int .i64 0, .int .i64 0, .int .i64 0, .int .i64 0, .int .i64 0, .string gg, .string dd, .string bb, .string ⟨#[]⟩, .string ⟨#[]⟩, .slice none 0 0] 27 (0, 0))) := (TT.out.block _ (lt_of_block HR3.out) (by simp)).trans HR3.out
        have HL4 : Hid (wt.heap[lb]? = some (.cells (lineC xb V P1 R P2) 42 (0, 0))) := (TT.out.block _ (lt_of_block HL3.out) (by simp)).trans HL3.out
        have T2t : Hid (Tch [] w2 wt) := T23.out.trans TT.out (by simp)
        have HST : Hid (Snd (⟨83, 97, 0, 0, 0, 0, 0, 0, 0, ⟨#[111, 116, 104, 101, 114]⟩, dd, cc, ⟨#[]⟩, ⟨#[]⟩⟩ : Wp.Rq)) := HSNT.out cc HZO.out
        have HDD : Hid (didS (⟨83, 97, 0, 0, 0, 0, 0, 0, 0, gg, dd, bb, ⟨#[]⟩, ⟨#[]⟩⟩ : Wp.Rq) = didS (⟨83, 97, 0, 0, 0, 0, 0, 0, 0, ⟨#[111, 116, 104, 101, 114]⟩, dd, cc, ⟨#[]⟩, ⟨#[]⟩⟩ : Wp.Rq)) := by show didS _ = didS _; unfold didS; rw [if_neg HD0.out, if_neg HD0.out]
        have HC3 : Hid (Calls Tryz.prog 18 #[.pointer (some ⟨xb, 0, none⟩), .agg #[.int .u8 83, .int .u8 97, .int .u8 0, .int .i64 0, .int .i64 0, .int .i64 0, .int .i64 0, .int .i64 0, .int .i64 0, .string ⟨#[111, 116, 104, 101, 114]⟩, .string dd, .string cc, .string ⟨#[]⟩, .string ⟨#[]⟩, .slice none 0 0]] wt.drew fun e w' => e = .returned (.string ⟨#[0, 1, 0, 0, 0]⟩) ∧ w'.heap[lb]? = some (.cells (lineC xb V P1 R P2) 42 (0, 0)) ∧ w'.heap[w3.heap.size]? = some (.cells #[.int .u8 83, .int .u8 97, .int .u8 0, .int .i64 0, .int .i64 0, .int .i64 0, .int .i64 0, .int .i64 0, .int .i64 0, .string ⟨#[111, 116, 104, 101, 114]⟩, .string dd, .string cc, .string ⟨#[]⟩, .string ⟨#[]⟩, .slice none 0 0] 27 (0, 0)) ∧ w'.heap[w1.heap.size]? = some (.cells #[.int .u8 83, .int .u8 97, .int .u8 0, .int .i64 0, .int .i64 0, .int .i64 0, .int .i64 0, .int .i64 0, .int .i64 0, .string gg, .string dd, .string bb, .string ⟨#[]⟩, .string ⟨#[]⟩, .slice none 0 0] 27 (0, 0)) ∧ Tch [] w2 w') := by
          have h := step_again B 7 (cqN V (1 + P1) R (9 + P2)) (⟨83, 97, 0, 0, 0, 0, 0, 0, 0, ⟨#[111, 116, 104, 101, 114]⟩, dd, cc, ⟨#[]⟩, ⟨#[]⟩⟩ : Wp.Rq) xb st b qb gm cm gd cd rs (⟨1, gg, bb, 0, 0⟩ : Ms) (⟨didS (⟨83, 97, 0, 0, 0, 0, 0, 0, 0, gg, dd, bb, ⟨#[]⟩, ⟨#[]⟩⟩ : Wp.Rq), 1, 1 + P1⟩ : Dd) 0 wt.drew (HE2.out.tch T2t.out.drew (by simp)) (HS2.out.tch T2t.out.drew) (by decide) HST.out HDD.out rfl
          rw [cellsSnd] at h
          refine h.mono ?_
          rintro e w' ⟨he, ht⟩
          have t' : Tch [] wt w' := (Tch.refl [] wt).drew.trans ht (by simp)
          exact ⟨ret1 he, (t'.block _ (lt_of_block HL4.out) (by simp)).trans HL4.out, (t'.block _ (lt_of_block HT4.out) (by simp)).trans HT4.out, (t'.block _ (lt_of_block HR4.out) (by simp)).trans HR4.out, T2t.out.trans t' (by simp)⟩
        generalize (Value.agg #[.int .u8 83, .int .u8 97, .int .u8 0, .int .i64 0, .int .i64 0, .int .i64 0, .int .i64 0, .int .i64 0, .int .i64 0, .string gg, .string dd, .string bb, .string ⟨#[]⟩, .string ⟨#[]⟩, .slice none 0 0]) = A4
        have el : wt.cell? ⟨lb, 0, none⟩ = some (.pointer (some ⟨xb, 0, none⟩)) := cell_qC HL4.out 0 _ rfl
        have e0 : wt.cell? ⟨w3.heap.size, 0, none⟩ = some (.int .u8 83) := cell_qC HT4.out 0 _ rfl
        have e1 : wt.cell? ⟨w3.heap.size, 1, none⟩ = some (.int .u8 97) := cell_qC HT4.out 1 _ rfl
        have e2 : wt.cell? ⟨w3.heap.size, 2, none⟩ = some (.int .u8 0) := cell_qC HT4.out 2 _ rfl
        have e3 : wt.cell? ⟨w3.heap.size, 3, none⟩ = some (.int .i64 0) := cell_qC HT4.out 3 _ rfl
        have e4 : wt.cell? ⟨w3.heap.size, 4, none⟩ = some (.int .i64 0) := cell_qC HT4.out 4 _ rfl
        have e5 : wt.cell? ⟨w3.heap.size, 5, none⟩ = some (.int .i64 0) := cell_qC HT4.out 5 _ rfl
        have e6 : wt.cell? ⟨w3.heap.size, 6, none⟩ = some (.int .i64 0) := cell_qC HT4.out 6 _ rfl
        have e7 : wt.cell? ⟨w3.heap.size, 7, none⟩ = some (.int .i64 0) := cell_qC HT4.out 7 _ rfl
        have e8 : wt.cell? ⟨w3.heap.size, 8, none⟩ = some (.int .i64 0) := cell_qC HT4.out 8 _ rfl
        have e9 : wt.cell? ⟨w3.heap.size, 9, none⟩ = some (.string ⟨#[111, 116, 104, 101, 114]⟩) := cell_qC HT4.out 9 _ rfl
        have e10 : wt.cell? ⟨w3.heap.size, 10, none⟩ = some (.string dd) := cell_qC HT4.out 10 _ rfl
        have e11 : wt.cell? ⟨w3.heap.size, 11, none⟩ = some (.string cc) := cell_qC HT4.out 11 _ rfl
        have e12 : wt.cell? ⟨w3.heap.size, 12, none⟩ = some (.string ⟨#[]⟩) := cell_qC HT4.out 12 _ rfl
        have e13 : wt.cell? ⟨w3.heap.size, 13, none⟩ = some (.string ⟨#[]⟩) := cell_qC HT4.out 13 _ rfl
        have e14 : wt.cell? ⟨w3.heap.size, 14, none⟩ = some (.slice none 0 0) := cell_qC HT4.out 14 _ rfl
        have ltl : lb < wt.heap.size := lt_of_block HL4.out
        have ltb : w3.heap.size < wt.heap.size := lt_of_block HT4.out
        go_region_held3 (fun w' => w'.cell? ⟨lb, 0, none⟩ = some (.pointer (some ⟨xb, 0, none⟩)) ∧ w'.cell? ⟨w3.heap.size, 0, none⟩ = some (.int .u8 83) ∧ w'.cell? ⟨w3.heap.size, 1, none⟩ = some (.int .u8 97) ∧ w'.cell? ⟨w3.heap.size, 2, none⟩ = some (.int .u8 0) ∧ w'.cell? ⟨w3.heap.size, 3, none⟩ = some (.int .i64 0) ∧ w'.cell? ⟨w3.heap.size, 4, none⟩ = some (.int .i64 0) ∧ w'.cell? ⟨w3.heap.size, 5, none⟩ = some (.int .i64 0) ∧ w'.cell? ⟨w3.heap.size, 6, none⟩ = some (.int .i64 0) ∧ w'.cell? ⟨w3.heap.size, 7, none⟩ = some (.int .i64 0) ∧ w'.cell? ⟨w3.heap.size, 8, none⟩ = some (.int .i64 0) ∧ w'.cell? ⟨w3.heap.size, 9, none⟩ = some (.string ⟨#[111, 116, 104, 101, 114]⟩) ∧ w'.cell? ⟨w3.heap.size, 10, none⟩ = some (.string dd) ∧ w'.cell? ⟨w3.heap.size, 11, none⟩ = some (.string cc) ∧ w'.cell? ⟨w3.heap.size, 12, none⟩ = some (.string ⟨#[]⟩) ∧ w'.cell? ⟨w3.heap.size, 13, none⟩ = some (.string ⟨#[]⟩) ∧ w'.cell? ⟨w3.heap.size, 14, none⟩ = some (.slice none 0 0)) (go_keep) (first | (go_at_call 18; refine HC3.out.mono ?_; rintro e w4 ⟨rfl, hl, hbx, hbr, ht⟩; have kl : _ := cell_qC hl 0 (.pointer (some ⟨xb, 0, none⟩)) rfl; have k0 := cell_qC hbx 0 (.int .u8 83) rfl; have k1 := cell_qC hbx 1 (.int .u8 97) rfl; have k2 := cell_qC hbx 2 (.int .u8 0) rfl; have k3 := cell_qC hbx 3 (.int .i64 0) rfl; have k4 := cell_qC hbx 4 (.int .i64 0) rfl; have k5 := cell_qC hbx 5 (.int .i64 0) rfl; have k6 := cell_qC hbx 6 (.int .i64 0) rfl; have k7 := cell_qC hbx 7 (.int .i64 0) rfl; have k8 := cell_qC hbx 8 (.int .i64 0) rfl; have k9 := cell_qC hbx 9 (.string ⟨#[111, 116, 104, 101, 114]⟩) rfl; have k10 := cell_qC hbx 10 (.string dd) rfl; have k11 := cell_qC hbx 11 (.string cc) rfl; have k12 := cell_qC hbx 12 (.string ⟨#[]⟩) rfl; have k13 := cell_qC hbx 13 (.string ⟨#[]⟩) rfl; have k14 := cell_qC hbx 14 (.slice none 0 0) rfl))
        have HL5 : Hid (w4.heap[lb]? = some (.cells (lineC xb V P1 R P2) 42 (0, 0))) := hl
        have HR5 : Hid (w4.heap[w1.heap.size]? = some (.cells #[.int .u8 83, .int .u8 97, .int .u8 0, .int .i64 0, .int .i64 0, .int .i64 0, .int .i64 0, .int .i64 0, .int .i64 0, .string gg, .string dd, .string bb, .string ⟨#[]⟩, .string ⟨#[]⟩, .slice none 0 0] 27 (0, 0))) := hbr
        have T24 : Hid (Tch [] w2 w4) := ht
        have el4 : w4.cell? ⟨lb, 0, none⟩ = some (.pointer (some ⟨xb, 0, none⟩)) := cell_qC hl 0 _ rfl
        clear hl hbx hbr ht el ltl ltb kl e0 k0 e1 k1 e2 k2 e3 k3 e4 k4 e5 k5 e6 k6 e7 k7 e8 k8 e9 k9 e10 k10 e11 k11 e12 k12 e13 k13 e14 k14
        generalize (Value.agg #[.int .u8 83, .int .u8 97, .int .u8 0, .int .i64 0, .int .i64 0, .int .i64 0, .int .i64 0, .int .i64 0, .int .i64 0, .string ⟨#[111, 116, 104, 101, 114]⟩, .string dd, .string cc, .string ⟨#[]⟩, .string ⟨#[]⟩, .slice none 0 0]) = A5
        as_aux_lemma =>
          go_wp2_with fail
          refine (HP3.out _).mono ?_
          rintro e w' ⟨rfl, h'⟩
          have h'' := h'.symm
          subst h''
          go_wp2_with fail
          have HTM : Hid (Calls Tryz.prog 18 #[.pointer (some ⟨xb, 0, none⟩), .agg (cellsOf ⟨84, 0, 0, 0, 0, 0, 0, 0, 1 + P3, ⟨#[]⟩, ⟨#[]⟩, ⟨#[]⟩, ⟨#[]⟩, ⟨#[]⟩⟩ nil0.v)] w4 _) := step_time B 7 (cqN V (1 + P1) R (9 + P2)) xb st b qb gm cm gd cd rs (⟨1, gg, bb, 0, 0⟩ : Ms) (⟨didS (⟨83, 97, 0, 0, 0, 0, 0, 0, 0, gg, dd, bb, ⟨#[]⟩, ⟨#[]⟩⟩ : Wp.Rq), 1, 1 + P1⟩ : Dd) (1 + P3) w4 (HE2.out.tch T24.out (by simp)) (HS2.out.tch T24.out) (by decide) ⟨by omega, by omega⟩ rfl rfl
          refine HTM.out.mono ?_
          rintro e w5 ⟨rfl, ht5, hor⟩
          have hsz4 : B ≤ w4.heap.size := Nat.le_trans HE2.out.size T24.out.size
          have HL6 : Hid (w5.heap[lb]? = some (.cells (lineC xb V P1 R P2) 42 (0, 0))) := ht5.keep _ _ _ HL5.out (by decide)
          have HR6 : Hid (w5.heap[w1.heap.size]? = some (.cells #[.int .u8 83, .int .u8 97, .int .u8 0, .int .i64 0, .int .i64 0, .int .i64 0, .int .i64 0, .int .i64 0, .int .i64 0, .string gg, .string dd, .string bb, .string ⟨#[]⟩, .string ⟨#[]⟩, .slice none 0 0] 27 (0, 0))) := ht5.keep _ _ _ HR5.out (by decide)
          have TW5 : Hid (Fr B TB w w5) := (TA2.out.trans (Fr.of_nil TB T24.out HE2.out.size)).trans ht5
          have HE5 : Hid (Env B w5) := (HE2.out.tch T24.out (by simp)).fr ht5
          clear ht5 hsz4 el4 HTM
          rcases hor with ⟨hn, hS5⟩ | ⟨hn, hS5⟩
          · as_aux_lemma =>
              have HC5 : Hid (Calls Tryz.prog 18 #[.pointer (some ⟨xb, 0, none⟩), .agg #[.int .u8 83, .int .u8 97, .int .u8 0, .int .i64 0, .int .i64 0, .int .i64 0, .int .i64 0, .int .i64 0, .int .i64 0, .string gg, .string dd, .string bb, .string ⟨#[]⟩, .string ⟨#[]⟩, .slice none 0 0]] w5.drew fun e w' => e = .returned (.string ⟨#[0, 1, 0, 0, 0]⟩) ∧ w'.heap[lb]? = some (.cells (lineC xb V P1 R P2) 42 (0, 0)) ∧ w'.heap[w1.heap.size]? = some (.cells #[.int .u8 83, .int .u8 97, .int .u8 0, .int .i64 0, .int .i64 0, .int .i64 0, .int .i64 0, .int .i64 0, .int .i64 0, .string gg, .string dd, .string bb, .string ⟨#[]⟩, .string ⟨#[]⟩, .slice none 0 0] 27 (0, 0)) ∧ Below B w w') := by
                have h := step_again B 6 (cqN V (1 + P1) R (9 + P2)) (⟨83, 97, 0, 0, 0, 0, 0, 0, 0, gg, dd, bb, ⟨#[]⟩, ⟨#[]⟩⟩ : Wp.Rq) xb st b qb gm cm gd cd rs (⟨1, gg, bb, 0, 0⟩ : Ms) (⟨didS (⟨83, 97, 0, 0, 0, 0, 0, 0, 0, gg, dd, bb, ⟨#[]⟩, ⟨#[]⟩⟩ : Wp.Rq), 1, 1 + P1⟩ : Dd) (1 + P3) w5.drew (HE5.out.tch (Tch.refl [] w5).drew (by simp)) (hS5.tch (Tch.refl [] w5).drew) (by decide) HSND.out rfl rfl
                rw [cellsSnd] at h
                refine h.mono ?_
                rintro e w' ⟨he, ht⟩
                have t' : Tch [] w5 w' := (Tch.refl [] w5).drew.trans ht (by simp)
                exact ⟨ret1 he, (t'.block _ (lt_of_block HL6.out) (by simp)).trans HL6.out, (t'.block _ (lt_of_block HR6.out) (by simp)).trans HR6.out, TW5.out.below.trans (t'.below (by simp) HE5.out.size)⟩
              have hnn : 1 + P3 < 1 + P1 := hn
              clear hS5 hn
              go_wp2_with fail
              generalize (Value.agg #[.int .u8 83, .int .u8 97, .int .u8 0, .int .i64 0, .int .i64 0, .int .i64 0, .int .i64 0, .int .i64 0, .int .i64 0, .string gg, .string dd, .string bb, .string ⟨#[]⟩, .string ⟨#[]⟩, .slice none 0 0]) = A6
              have el : w5.cell? ⟨lb, 0, none⟩ = some (.pointer (some ⟨xb, 0, none⟩)) := cell_qC HL6.out 0 _ rfl
              have e0 : w5.cell? ⟨w1.heap.size, 0, none⟩ = some (.int .u8 83) := cell_qC HR6.out 0 _ rfl
              have e1 : w5.cell? ⟨w1.heap.size, 1, none⟩ = some (.int .u8 97) := cell_qC HR6.out 1 _ rfl
              have e2 : w5.cell? ⟨w1.heap.size, 2, none⟩ = some (.int .u8 0) := cell_qC HR6.out 2 _ rfl
              have e3 : w5.cell? ⟨w1.heap.size, 3, none⟩ = some (.int .i64 0) := cell_qC HR6.out 3 _ rfl
              have e4 : w5.cell? ⟨w1.heap.size, 4, none⟩ = some (.int .i64 0) := cell_qC HR6.out 4 _ rfl
              have e5 : w5.cell? ⟨w1.heap.size, 5, none⟩ = some (.int .i64 0) := cell_qC HR6.out 5 _ rfl
              have e6 : w5.cell? ⟨w1.heap.size, 6, none⟩ = some (.int .i64 0) := cell_qC HR6.out 6 _ rfl
              have e7 : w5.cell? ⟨w1.heap.size, 7, none⟩ = some (.int .i64 0) := cell_qC HR6.out 7 _ rfl
              have e8 : w5.cell? ⟨w1.heap.size, 8, none⟩ = some (.int .i64 0) := cell_qC HR6.out 8 _ rfl
              have e9 : w5.cell? ⟨w1.heap.size, 9, none⟩ = some (.string gg) := cell_qC HR6.out 9 _ rfl
              have e10 : w5.cell? ⟨w1.heap.size, 10, none⟩ = some (.string dd) := cell_qC HR6.out 10 _ rfl
              have e11 : w5.cell? ⟨w1.heap.size, 11, none⟩ = some (.string bb) := cell_qC HR6.out 11 _ rfl
              have e12 : w5.cell? ⟨w1.heap.size, 12, none⟩ = some (.string ⟨#[]⟩) := cell_qC HR6.out 12 _ rfl
              have e13 : w5.cell? ⟨w1.heap.size, 13, none⟩ = some (.string ⟨#[]⟩) := cell_qC HR6.out 13 _ rfl
              have e14 : w5.cell? ⟨w1.heap.size, 14, none⟩ = some (.slice none 0 0) := cell_qC HR6.out 14 _ rfl
              have ltl : lb < w5.heap.size := lt_of_block HL6.out
              have ltb : w1.heap.size < w5.heap.size := lt_of_block HR6.out
              go_region_held3 (fun w' => w'.cell? ⟨lb, 0, none⟩ = some (.pointer (some ⟨xb, 0, none⟩)) ∧ w'.cell? ⟨w1.heap.size, 0, none⟩ = some (.int .u8 83) ∧ w'.cell? ⟨w1.heap.size, 1, none⟩ = some (.int .u8 97) ∧ w'.cell? ⟨w1.heap.size, 2, none⟩ = some (.int .u8 0) ∧ w'.cell? ⟨w1.heap.size, 3, none⟩ = some (.int .i64 0) ∧ w'.cell? ⟨w1.heap.size, 4, none⟩ = some (.int .i64 0) ∧ w'.cell? ⟨w1.heap.size, 5, none⟩ = some (.int .i64 0) ∧ w'.cell? ⟨w1.heap.size, 6, none⟩ = some (.int .i64 0) ∧ w'.cell? ⟨w1.heap.size, 7, none⟩ = some (.int .i64 0) ∧ w'.cell? ⟨w1.heap.size, 8, none⟩ = some (.int .i64 0) ∧ w'.cell? ⟨w1.heap.size, 9, none⟩ = some (.string gg) ∧ w'.cell? ⟨w1.heap.size, 10, none⟩ = some (.string dd) ∧ w'.cell? ⟨w1.heap.size, 11, none⟩ = some (.string bb) ∧ w'.cell? ⟨w1.heap.size, 12, none⟩ = some (.string ⟨#[]⟩) ∧ w'.cell? ⟨w1.heap.size, 13, none⟩ = some (.string ⟨#[]⟩) ∧ w'.cell? ⟨w1.heap.size, 14, none⟩ = some (.slice none 0 0)) (go_keep) (first | (go_at_call 18; refine HC5.out.mono ?_; rintro e w6 ⟨rfl, hl, hbx, hbel⟩; have kl : _ := cell_qC hl 0 (.pointer (some ⟨xb, 0, none⟩)) rfl; have k0 := cell_qC hbx 0 (.int .u8 83) rfl; have k1 := cell_qC hbx 1 (.int .u8 97) rfl; have k2 := cell_qC hbx 2 (.int .u8 0) rfl; have k3 := cell_qC hbx 3 (.int .i64 0) rfl; have k4 := cell_qC hbx 4 (.int .i64 0) rfl; have k5 := cell_qC hbx 5 (.int .i64 0) rfl; have k6 := cell_qC hbx 6 (.int .i64 0) rfl; have k7 := cell_qC hbx 7 (.int .i64 0) rfl; have k8 := cell_qC hbx 8 (.int .i64 0) rfl; have k9 := cell_qC hbx 9 (.string gg) rfl; have k10 := cell_qC hbx 10 (.string dd) rfl; have k11 := cell_qC hbx 11 (.string bb) rfl; have k12 := cell_qC hbx 12 (.string ⟨#[]⟩) rfl; have k13 := cell_qC hbx 13 (.string ⟨#[]⟩) rfl; have k14 := cell_qC hbx 14 (.slice none 0 0) rfl))
              have el5 : w6.cell? ⟨lb, 5, none⟩ = some (.int .i64 (1 + P1)) := cell_qC hl 5 _ rfl
              have HF : Hid (Below B w w6) := hbel
              clear hl hbx hbel el ltl ltb kl e0 k0 e1 k1 e2 k2 e3 k3 e4 k4 e5 k5 e6 k6 e7 k7 e8 k8 e9 k9 e10 k10 e11 k11 e12 k12 e13 k13 e14 k14
              go_wp2_with fail
              go_ret
              exact ⟨rfl, HF.out⟩
          · as_aux_lemma =>
              have HC6 : Hid (Calls Tryz.prog 18 #[.pointer (some ⟨xb, 0, none⟩), .agg #[.int .u8 83, .int .u8 97, .int .u8 0, .int .i64 0, .int .i64 0, .int .i64 0, .int .i64 0, .int .i64 0, .int .i64 0, .string gg, .string dd, .string bb, .string ⟨#[]⟩, .string ⟨#[]⟩, .slice none 0 0]] w5.drew fun e w' => e = .returned (.string ⟨#[0, 2, 0, 0, 0]⟩) ∧ w'.heap[lb]? = some (.cells (lineC xb V P1 R P2) 42 (0, 0)) ∧ w'.heap[w1.heap.size]? = some (.cells #[.int .u8 83, .int .u8 97, .int .u8 0, .int .i64 0, .int .i64 0, .int .i64 0, .int .i64 0, .int .i64 0, .int .i64 0, .string gg, .string dd, .string bb, .string ⟨#[]⟩, .string ⟨#[]⟩, .slice none 0 0] 27 (0, 0)) ∧ Below B w w') := by
                have h := step_late B 6 (cqN V (1 + P1) R (9 + P2)) (⟨83, 97, 0, 0, 0, 0, 0, 0, 0, gg, dd, bb, ⟨#[]⟩, ⟨#[]⟩⟩ : Wp.Rq) xb st b qb gm cm gd cd rs (⟨1, gg, bb, 0, 0⟩ : Ms) (⟨didS (⟨83, 97, 0, 0, 0, 0, 0, 0, 0, gg, dd, bb, ⟨#[]⟩, ⟨#[]⟩⟩ : Wp.Rq), 1, 1 + P1⟩ : Dd) (1 + P3) w5.drew (HE5.out.tch (Tch.refl [] w5).drew (by simp)) (hS5.tch (Tch.refl [] w5).drew) (by decide) HSND.out ⟨by show 0 < 1 + P1; omega, by show 1 + P1 ≤ 1001; omega⟩ (by show 2 ≤ 1 + (9 + P2); omega) ⟨by omega, by omega⟩
                rw [cellsSnd] at h
                refine h.mono ?_
                rintro e w' ⟨he, ht⟩
                exact ⟨ret2 he, ht.keep _ _ _ (show w5.drew.heap[lb]? = _ from HL6.out) (by decide), ht.keep _ _ _ (show w5.drew.heap[w1.heap.size]? = _ from HR6.out) (by decide), (TW5.out.trans ((Fr.of_nil TB (Tch.refl [] w5).drew HE5.out.size).trans ht)).below⟩
              have hnn : ¬ 1 + P3 < 1 + P1 := by have hn' : 1 + P1 ≤ 1 + P3 := hn; omega
              clear hS5 hn
              go_wp2_with fail
              generalize (Value.agg #[.int .u8 83, .int .u8 97, .int .u8 0, .int .i64 0, .int .i64 0, .int .i64 0, .int .i64 0, .int .i64 0, .int .i64 0, .string gg, .string dd, .string bb, .string ⟨#[]⟩, .string ⟨#[]⟩, .slice none 0 0]) = A6
              have el : w5.cell? ⟨lb, 0, none⟩ = some (.pointer (some ⟨xb, 0, none⟩)) := cell_qC HL6.out 0 _ rfl
              have e0 : w5.cell? ⟨w1.heap.size, 0, none⟩ = some (.int .u8 83) := cell_qC HR6.out 0 _ rfl
              have e1 : w5.cell? ⟨w1.heap.size, 1, none⟩ = some (.int .u8 97) := cell_qC HR6.out 1 _ rfl
              have e2 : w5.cell? ⟨w1.heap.size, 2, none⟩ = some (.int .u8 0) := cell_qC HR6.out 2 _ rfl
              have e3 : w5.cell? ⟨w1.heap.size, 3, none⟩ = some (.int .i64 0) := cell_qC HR6.out 3 _ rfl
              have e4 : w5.cell? ⟨w1.heap.size, 4, none⟩ = some (.int .i64 0) := cell_qC HR6.out 4 _ rfl
              have e5 : w5.cell? ⟨w1.heap.size, 5, none⟩ = some (.int .i64 0) := cell_qC HR6.out 5 _ rfl
              have e6 : w5.cell? ⟨w1.heap.size, 6, none⟩ = some (.int .i64 0) := cell_qC HR6.out 6 _ rfl
              have e7 : w5.cell? ⟨w1.heap.size, 7, none⟩ = some (.int .i64 0) := cell_qC HR6.out 7 _ rfl
              have e8 : w5.cell? ⟨w1.heap.size, 8, none⟩ = some (.int .i64 0) := cell_qC HR6.out 8 _ rfl
              have e9 : w5.cell? ⟨w1.heap.size, 9, none⟩ = some (.string gg) := cell_qC HR6.out 9 _ rfl
              have e10 : w5.cell? ⟨w1.heap.size, 10, none⟩ = some (.string dd) := cell_qC HR6.out 10 _ rfl
              have e11 : w5.cell? ⟨w1.heap.size, 11, none⟩ = some (.string bb) := cell_qC HR6.out 11 _ rfl
              have e12 : w5.cell? ⟨w1.heap.size, 12, none⟩ = some (.string ⟨#[]⟩) := cell_qC HR6.out 12 _ rfl
              have e13 : w5.cell? ⟨w1.heap.size, 13, none⟩ = some (.string ⟨#[]⟩) := cell_qC HR6.out 13 _ rfl
              have e14 : w5.cell? ⟨w1.heap.size, 14, none⟩ = some (.slice none 0 0) := cell_qC HR6.out 14 _ rfl
              have ltl : lb < w5.heap.size := lt_of_block HL6.out
              have ltb : w1.heap.size < w5.heap.size := lt_of_block HR6.out
              go_region_held3 (fun w' => w'.cell? ⟨lb, 0, none⟩ = some (.pointer (some ⟨xb, 0, none⟩)) ∧ w'.cell? ⟨w1.heap.size, 0, none⟩ = some (.int .u8 83) ∧ w'.cell? ⟨w1.heap.size, 1, none⟩ = some (.int .u8 97) ∧ w'.cell? ⟨w1.heap.size, 2, none⟩ = some (.int .u8 0) ∧ w'.cell? ⟨w1.heap.size, 3, none⟩ = some (.int .i64 0) ∧ w'.cell? ⟨w1.heap.size, 4, none⟩ = some (.int .i64 0) ∧ w'.cell? ⟨w1.heap.size, 5, none⟩ = some (.int .i64 0) ∧ w'.cell? ⟨w1.heap.size, 6, none⟩ = some (.int .i64 0) ∧ w'.cell? ⟨w1.heap.size, 7, none⟩ = some (.int .i64 0) ∧ w'.cell? ⟨w1.heap.size, 8, none⟩ = some (.int .i64 0) ∧ w'.cell? ⟨w1.heap.size, 9, none⟩ = some (.string gg) ∧ w'.cell? ⟨w1.heap.size, 10, none⟩ = some (.string dd) ∧ w'.cell? ⟨w1.heap.size, 11, none⟩ = some (.string bb) ∧ w'.cell? ⟨w1.heap.size, 12, none⟩ = some (.string ⟨#[]⟩) ∧ w'.cell? ⟨w1.heap.size, 13, none⟩ = some (.string ⟨#[]⟩) ∧ w'.cell? ⟨w1.heap.size, 14, none⟩ = some (.slice none 0 0)) (go_keep) (first | (go_at_call 18; refine HC6.out.mono ?_; rintro e w6 ⟨rfl, hl, hbx, hbel⟩; have kl : _ := cell_qC hl 0 (.pointer (some ⟨xb, 0, none⟩)) rfl; have k0 := cell_qC hbx 0 (.int .u8 83) rfl; have k1 := cell_qC hbx 1 (.int .u8 97) rfl; have k2 := cell_qC hbx 2 (.int .u8 0) rfl; have k3 := cell_qC hbx 3 (.int .i64 0) rfl; have k4 := cell_qC hbx 4 (.int .i64 0) rfl; have k5 := cell_qC hbx 5 (.int .i64 0) rfl; have k6 := cell_qC hbx 6 (.int .i64 0) rfl; have k7 := cell_qC hbx 7 (.int .i64 0) rfl; have k8 := cell_qC hbx 8 (.int .i64 0) rfl; have k9 := cell_qC hbx 9 (.string gg) rfl; have k10 := cell_qC hbx 10 (.string dd) rfl; have k11 := cell_qC hbx 11 (.string bb) rfl; have k12 := cell_qC hbx 12 (.string ⟨#[]⟩) rfl; have k13 := cell_qC hbx 13 (.string ⟨#[]⟩) rfl; have k14 := cell_qC hbx 14 (.slice none 0 0) rfl))
              have el5 : w6.cell? ⟨lb, 5, none⟩ = some (.int .i64 (1 + P1)) := cell_qC hl 5 _ rfl
              have HF : Hid (Below B w w6) := hbel
              clear hl hbx hbel el ltl ltb kl e0 k0 e1 k1 e2 k2 e3 k3 e4 k4 e5 k5 e6 k6 e7 k7 e8 k8 e9 k9 e10 k10 e11 k11 e12 k12 e13 k13 e14 k14
              go_wp2_with fail
              go_ret
              exact ⟨rfl, HF.out⟩

theorem Lays.up {B C : Nat} {w : World} (h : Lays B w) (hBC : B ≤ C) : Lays C w := by
  obtain ⟨h2, hr, hl⟩ := h
  refine ⟨by omega, hr, fun i hi => ?_⟩
  obtain ⟨a, cap, h1, h3⟩ := hl i hi
  refine ⟨a, cap, h1, fun j hj => ?_⟩
  obtain ⟨b, o, e1, e2, e3⟩ := h3 j hj
  exact ⟨b, o, e1, by omega, e3⟩

theorem taken_walk (B : Nat) (r : Wp.Rq) (x : Sl) (grp id bod oth : ByteArray) (wait : Int) (w : World) (hw : Wf r) (hz : Keep.Szs r) (h1 : grp.size ≤ maxLen) (h2 : id.size ≤ maxLen) (h3 : bod.size ≤ maxLen) (h4 : oth.size ≤ maxLen) (hwait : i64 wait) (hE : Env B w) :
    Calls Tryz.prog 5 #[.agg (cellsOf r x.v), .string grp, .string id, .string bod, .string oth, .int .i64 wait] w fun e w' => e = .returned (.bool true) ∧ Below w.heap.size w w' :=
  taken_walk0 w.heap.size r x grp id bod oth wait w hw hz h1 h2 h3 h4 hwait ⟨hE.lays.up hE.size, hE.tab, Nat.le_refl _, Nat.le_trans hE.three hE.size⟩
end Go.Proofs.YtbdobaapadlcjaaGreatDoor
