/-
  THE WALK of state.Plan (81) at the Op S.
-/
import Derived.Test.YtbdobaapadlcjaaGreatDoorTkP
import Derived.Test.YtbdobaapadlcjaaGreatDoorTkD
namespace Go.Proofs.YtbdobaapadlcjaaGreatDoor
open Go.RowKit

/-- What is done with a closure when it is laid down, or with none. -/
def Chg (B m xb st : Nat) (K : ByteArray → World → Prop) (t : ByteArray) (chg : Value) (w : World) : Prop :=
  (chg = .nilFunc ∧ ∀ w2, Tch [] w w2 → K t w2) ∨ ∃ f cap, chg = .func (.func f) #[] cap ∧ (∀ args w, (callFunc f args).run Tryz.prog w = .ok (.enter f args) w) ∧ ∀ w2 w3, Tch [] w w2 → Fr B TJ w2 w3 → Jn false B m w3 xb st → Calls Tryz.prog f cap w3 fun e w' => e = .returned (.tuple #[]) ∧ K t w'

theorem cellsS (r : Wp.Rq) (x : Sl) (hop : r.op = 83) (hq : r.q = 97) : cellsOf r x.v = #[.int .u8 83, .int .u8 97, .int .u8 (r.d.toNat : Int), .int .i64 r.vis, .int .i64 r.win, .int .i64 r.rcv, .int .i64 r.quo, .int .i64 r.mx, .int .i64 r.tic, .string r.grp, .string r.ded, .string r.bod, .string r.att, .string r.han, .slice x.a x.n x.c] := by
  have ho' : ((r.op.toNat : Nat) : Int) = 83 := by rw [hop]; rfl
  have hq' : ((r.q.toNat : Nat) : Int) = 97 := by rw [hq]; rfl
  unfold cellsOf Sl.v; rw [ho', hq']

/-- A number as four bytes behind a zero. -/
abbrev okN (k : Nat) : ByteArray := ⟨(0 :: lowB k 4).toArray⟩

theorem own4 {w : World} {base : Nat} {v : Value} {k : Nat} (h : OwnB w base v (lowB k 4)) : ∃ g cap, v = .slice (some ⟨g, 0, none⟩) 4 cap ∧ ∀ j u, (bytesV (lowB k 4))[j]? = some u → w.cell? ((⟨g, 0, none⟩ : Addr).add j) = some u := by
  have hc := fun g (hg : v.ownBlock = some g) => World.ownsRow.cells h hg
  rcases h.2 with ⟨_, h0⟩ | ⟨g, cap, cur, rfl, _⟩
  · rw [lowB_length] at h0; omega
  · rw [lowB_length]
    exact ⟨g, cap, rfl, hc g rfl⟩

set_option maxRecDepth 8000 in
set_option maxHeartbeats 2000000 in
theorem plan_S (B m xb : Nat) (K : ByteArray → World → Prop) (k : Nat) (r : Wp.Rq) (x : Sl) (st b qb : Nat) (now : Int) (w : World) (hop : r.op = 83) (hq : r.q = 97)
    (hst : w.heap[st]? = some (.cells (stC now (.pointer (some ⟨qb, 0, none⟩)) b) 156 (0, 0))) (hb3 : w.heap[b + 3]? = some (.cells #[.func (.func 164) #[] #[]] 221 (0, 0)))
    (hS : ∀ W, Tch [] w W → Calls Tryz.prog 164 #[.pointer (some ⟨qb, 0, none⟩), .int .i64 now, .agg (cellsOf r x.v)] W fun e w' => ∃ av chg, e = .returned (.tuple #[av, chg, .int .i64 0]) ∧ Tch [] W w' ∧ (∃ base, OwnB w' base av (lowB k 4)) ∧ ∀ w2, Tch [] w' w2 → Chg B m xb st K (okN k) chg w2) :
    Calls Tryz.prog 62 #[.pointer (some ⟨st, 0, none⟩), .agg (cellsOf r x.v)] w fun e w' => Tch [] w w' ∧ Planned B m xb st K e w' := by
  have hlt := lt_of_block hst
  have hltb := lt_of_block hb3
  have HST : Hid (w.heap[st]? = _) := hst
  have HN : Hid (∀ W, Tch [] w W → Calls Tryz.prog 207 #[.pointer (some ⟨st, 0, none⟩), .agg (cellsOf r x.v), .pointer (some ⟨b + 1 + 1 + 1, 0, none⟩)] W fun e w' => ∃ av chg, e = .returned (.tuple #[av, chg, .int .i64 0]) ∧ Tch [] W w' ∧ (∃ base, OwnB w' base av (lowB k 4)) ∧ ∀ w2, Tch [] w' w2 → Chg B m xb st K (okN k) chg w2) := fun W ht =>
    within_walk (fun av chg w' => (∃ base, OwnB w' base av (lowB k 4)) ∧ ∀ w2, Tch [] w' w2 → Chg B m xb st K (okN k) chg w2) r x st b qb now W hq ((ht.block _ hlt (by simp)).trans hst) ((ht.block _ hltb (by simp)).trans hb3) (fun W' ht' => hS W' (ht.trans ht' (by simp)))
  rw [cellsS r x hop hq] at HN
  rw [cellsS r x hop hq]
  clear hS hb3
  obtain ⟨i0, hi, hz0, hz1, hz2⟩ := info_parts info5
  go_enter Tryz.func62, Tryz.ntmps62
  have hw18 : IntKind.u8.wrap 18 = 18 := by decide
  go_wp2_with fail
  obtain ⟨wb, hwb⟩ : ∃ wb, wb = w.alloc (.cells #[.int .u8 83, .int .u8 97, .int .u8 (r.d.toNat : Int), .int .i64 r.vis, .int .i64 r.win, .int .i64 r.rcv, .int .i64 r.quo, .int .i64 r.mx, .int .i64 r.tic, .string r.grp, .string r.ded, .string r.bod, .string r.att, .string r.han, .slice x.a x.n x.c] 27) := ⟨_, rfl⟩
  rw [← hwb]
  have hrow : wb.heap[w.heap.size]? = some (.cells #[.int .u8 83, .int .u8 97, .int .u8 (r.d.toNat : Int), .int .i64 r.vis, .int .i64 r.win, .int .i64 r.rcv, .int .i64 r.quo, .int .i64 r.mx, .int .i64 r.tic, .string r.grp, .string r.ded, .string r.bod, .string r.att, .string r.han, .slice x.a x.n x.c] 27 (0, 0)) := by rw [hwb]; exact heap_alloc_new _ _
  have hsb : wb.heap[st]? = some (.cells (stC now (.pointer (some ⟨qb, 0, none⟩)) b) 156 (0, 0)) := by rw [hwb]; exact (Below.heap_alloc _ _ _ hlt).trans HST.out
  have TB : Hid (Tch [] w wb) := by rw [hwb]; exact (Tch.refl _ _).alloc _
  have e0 : wb.cell? ⟨w.heap.size, 0, none⟩ = some (.int .u8 83) := by simp [World.cell?, hrow]
  have e1 : wb.cell? ⟨w.heap.size, 1, none⟩ = some (.int .u8 97) := by simp [World.cell?, hrow]
  have e2 : wb.cell? ⟨w.heap.size, 2, none⟩ = some (.int .u8 (r.d.toNat : Int)) := by simp [World.cell?, hrow]
  have e3 : wb.cell? ⟨w.heap.size, 3, none⟩ = some (.int .i64 r.vis) := by simp [World.cell?, hrow]
  have e4 : wb.cell? ⟨w.heap.size, 4, none⟩ = some (.int .i64 r.win) := by simp [World.cell?, hrow]
  have e5 : wb.cell? ⟨w.heap.size, 5, none⟩ = some (.int .i64 r.rcv) := by simp [World.cell?, hrow]
  have e6 : wb.cell? ⟨w.heap.size, 6, none⟩ = some (.int .i64 r.quo) := by simp [World.cell?, hrow]
  have e7 : wb.cell? ⟨w.heap.size, 7, none⟩ = some (.int .i64 r.mx) := by simp [World.cell?, hrow]
  have e8 : wb.cell? ⟨w.heap.size, 8, none⟩ = some (.int .i64 r.tic) := by simp [World.cell?, hrow]
  have e9 : wb.cell? ⟨w.heap.size, 9, none⟩ = some (.string r.grp) := by simp [World.cell?, hrow]
  have e10 : wb.cell? ⟨w.heap.size, 10, none⟩ = some (.string r.ded) := by simp [World.cell?, hrow]
  have e11 : wb.cell? ⟨w.heap.size, 11, none⟩ = some (.string r.bod) := by simp [World.cell?, hrow]
  have e12 : wb.cell? ⟨w.heap.size, 12, none⟩ = some (.string r.att) := by simp [World.cell?, hrow]
  have e13 : wb.cell? ⟨w.heap.size, 13, none⟩ = some (.string r.han) := by simp [World.cell?, hrow]
  have e14 : wb.cell? ⟨w.heap.size, 14, none⟩ = some (.slice x.a x.n x.c) := by simp [World.cell?, hrow]
  have cx2 := stC_S _ _ _ _ _ hsb
  have hlL : w.heap.size < wb.heap.size := lt_of_block hrow
  have hlX : st < wb.heap.size := lt_of_block hsb
  have HN1 : Hid (Calls Tryz.prog 207 _ wb.drew _) := HN.out wb.drew TB.out.drew
  clear hrow hsb hwb hst
  go_region_held3 (fun w' => w'.cell? ⟨w.heap.size, 0, none⟩ = some (.int .u8 83) ∧ w'.cell? ⟨w.heap.size, 1, none⟩ = some (.int .u8 97) ∧ w'.cell? ⟨w.heap.size, 2, none⟩ = some (.int .u8 (r.d.toNat : Int)) ∧ w'.cell? ⟨w.heap.size, 3, none⟩ = some (.int .i64 r.vis) ∧ w'.cell? ⟨w.heap.size, 4, none⟩ = some (.int .i64 r.win) ∧ w'.cell? ⟨w.heap.size, 5, none⟩ = some (.int .i64 r.rcv) ∧ w'.cell? ⟨w.heap.size, 6, none⟩ = some (.int .i64 r.quo) ∧ w'.cell? ⟨w.heap.size, 7, none⟩ = some (.int .i64 r.mx) ∧ w'.cell? ⟨w.heap.size, 8, none⟩ = some (.int .i64 r.tic) ∧ w'.cell? ⟨w.heap.size, 9, none⟩ = some (.string r.grp) ∧ w'.cell? ⟨w.heap.size, 10, none⟩ = some (.string r.ded) ∧ w'.cell? ⟨w.heap.size, 11, none⟩ = some (.string r.bod) ∧ w'.cell? ⟨w.heap.size, 12, none⟩ = some (.string r.att) ∧ w'.cell? ⟨w.heap.size, 13, none⟩ = some (.string r.han) ∧ w'.cell? ⟨w.heap.size, 14, none⟩ = some (.slice x.a x.n x.c) ∧ w'.cell? ⟨st, 27, none⟩ = some (.func (.func 207) #[] #[.pointer (some ⟨b + 1 + 1 + 1, 0, none⟩)])) (go_keep) (first | (go_at_call 207; refine HN1.out.mono ?_; rintro e w1 ⟨av, chg, rfl, ht, ⟨base, hown⟩, hk⟩; have k0 := (ht.cell (a := ⟨w.heap.size, 0, none⟩) hlL (by simp)).trans e0; have k1 := (ht.cell (a := ⟨w.heap.size, 1, none⟩) hlL (by simp)).trans e1; have k2 := (ht.cell (a := ⟨w.heap.size, 2, none⟩) hlL (by simp)).trans e2; have k3 := (ht.cell (a := ⟨w.heap.size, 3, none⟩) hlL (by simp)).trans e3; have k4 := (ht.cell (a := ⟨w.heap.size, 4, none⟩) hlL (by simp)).trans e4; have k5 := (ht.cell (a := ⟨w.heap.size, 5, none⟩) hlL (by simp)).trans e5; have k6 := (ht.cell (a := ⟨w.heap.size, 6, none⟩) hlL (by simp)).trans e6; have k7 := (ht.cell (a := ⟨w.heap.size, 7, none⟩) hlL (by simp)).trans e7; have k8 := (ht.cell (a := ⟨w.heap.size, 8, none⟩) hlL (by simp)).trans e8; have k9 := (ht.cell (a := ⟨w.heap.size, 9, none⟩) hlL (by simp)).trans e9; have k10 := (ht.cell (a := ⟨w.heap.size, 10, none⟩) hlL (by simp)).trans e10; have k11 := (ht.cell (a := ⟨w.heap.size, 11, none⟩) hlL (by simp)).trans e11; have k12 := (ht.cell (a := ⟨w.heap.size, 12, none⟩) hlL (by simp)).trans e12; have k13 := (ht.cell (a := ⟨w.heap.size, 13, none⟩) hlL (by simp)).trans e13; have k14 := (ht.cell (a := ⟨w.heap.size, 14, none⟩) hlL (by simp)).trans e14; have kx := (ht.cell (a := ⟨st, 27, none⟩) hlX (by simp)).trans cx2))
  obtain ⟨g, cap, hav, hcell⟩ := own4 hown
  subst hav
  have HC : Hid (∀ j u, (bytesV (lowB k 4))[j]? = some u → w1.cell? ((⟨g, 0, none⟩ : Addr).add j) = some u) := hcell
  have HK : Hid (∀ w2, Tch [] w1 w2 → Chg B m xb st K (okN k) chg w2) := hk
  have HOW : Hid (∀ W : World, (W.alloc (.cells #[.int .u8 0] 5)).ownsRow W.heap.size 5 1 (.slice (some ⟨W.heap.size, 0, none⟩) 1 1) 1 [.int .u8 0]) := fun W => ⟨rfl, .inr ⟨W.heap.size, 1, #[.int .u8 0], rfl, Nat.le_refl _, heap_alloc_new _ _, by decide, by decide, rfl, rfl⟩⟩
  have HTW : Hid (Tch [] w w1) := TB.out.drew.trans ht (by simp)
  clear ht hown hcell hk
  go_wp2_with (at_builtin; refine wpList_append_own _ rfl _ _ 74 rfl w1.heap.size 5 i0 (.int .u8 0) 1 1 Tryz.underlying74 hi hz0 hz1 hz2 rfl (by decide) _ _ _ rfl (HOW.out w1) ⟨g, 0, none⟩ 4 cap (bytesV (lowB k 4)) rfl ?c0 ?c1 ?c2 ?c3 ?c4 ?c5 ?_)
  case c0 => simp [bytesV, lowB_length]
  case c1 => exact fun j u hu => Lib.cell?_alloc_some _ (HC.out j u hu)
  case c2 => intro u hu; obtain ⟨z, _, rfl⟩ := List.mem_map.1 hu; rfl
  case c3 => decide
  case c4 => decide
  case c5 => simp
  intro v' w2 hown' hgrow _
  have hstr : (convert 74 9 v').run Tryz.prog w2 = .ok (.string (okN k)) w2 := OwnB.str (l := 0 :: lowB k 4) (by
    have h := hown'
    unfold OwnB
    rw [List.length_cons, lowB_length]
    exact h) (by simp)
  have HT2 : Hid (Tch [] w1 w2) := ((Tch.refl [] w1).alloc _).grown hgrow (fun j hj hlt => by
    simp [Value.ownBlock] at hj
    omega)
  clear hown' hgrow
  go_wp2_with fail
  rcases HK.out _ HT2.out with ⟨rfl, hk⟩ | ⟨f, fc, rfl, eg, hk⟩
  · go_ret2
    exact ⟨HTW.out.trans HT2.out (by simp), okN k, .inl ⟨rfl, hk⟩⟩
  · go_ret2
    exact ⟨HTW.out.trans HT2.out (by simp), okN k, .inr ⟨f, fc, rfl, eg, hk⟩⟩
end Go.Proofs.YtbdobaapadlcjaaGreatDoor
