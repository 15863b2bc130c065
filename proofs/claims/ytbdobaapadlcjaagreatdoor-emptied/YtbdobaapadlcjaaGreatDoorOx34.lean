import Derived.Test.YtbdobaapadlcjaaGreatDoorOx33
import Derived.Test.YtbdobaapadlcjaaGreatDoorOx23
import Derived.Test.YtbdobaapadlcjaaGreatDoorOx29
import Derived.Deep.DeepCutAuto
namespace Go.Proofs.YtbdobaapadlcjaaGreatDoor
open Go.RowKit
set_option linter.unusedVariables false
set_option linter.unusedSimpArgs false
theorem one_str (c : UInt8) (W : World) (g cap : Nat) (h : W.cell? ⟨g, 0, none⟩ = some (.int .u8 (c.toNat : Int))) : (convert 74 9 (.slice (some ⟨g, 0, none⟩) 1 cap)).run Tryz.prog W = .ok (.string ⟨#[c]⟩) W := by
  refine run_convert_bytes_back (P := Tryz.prog) W 74 9 5 ⟨g, 0, none⟩ cap [c] Tryz.underlying74 Tryz.underlying5 Tryz.underlying9 ?_
  intro j hj
  have hj0 : j = 0 := by simpa using hj
  subst hj0
  exact h
set_option maxHeartbeats 1000000 in
theorem refusal_any (c : UInt8) (w : World) : Calls Tryz.prog 61 #[.int .i64 (c.toNat : Int)] w fun e w' => e = .returned (.string ⟨#[c]⟩) ∧ Tch [] w w' := by
  have hc := c.toNat_lt
  have hw : IntKind.u8.wrap ((c.toNat : Nat) : Int) = ((c.toNat : Nat) : Int) := by rw [IntKind.wrap_u8]; omega
  have hs := one_str c
  have hl : (w.alloc (.cells #[.int .u8 ((c.toNat : Nat) : Int)] 5)).cell? ⟨w.heap.size, 0, none⟩ = some (.int .u8 ((c.toNat : Nat) : Int)) := cell_of_one (heap_alloc_new _ _)
  generalize ((c.toNat : Nat) : Int) = n at *
  go_enter Tryz.func61, Tryz.ntmps61
  go_wp2_with fail
  go_ret
  exact ⟨rfl, (Tch.refl _ _).alloc _⟩
def ChgG (B : Nat) (J : World → Prop) (K : ByteArray → World → Prop) (t : ByteArray) (chg : Value) (w : World) : Prop :=
  (chg = .nilFunc ∧ ∀ w2, Tch [] w w2 → K t w2) ∨ ∃ f cap, chg = .func (.func f) #[] cap ∧ (∀ args w, (callFunc f args).run Tryz.prog w = .ok (.enter f args) w) ∧ ∀ w2 w3, Tch [] w w2 → Fr B TJ w2 w3 → J w3 → Calls Tryz.prog f cap w3 fun e w' => e = .returned (.tuple #[]) ∧ K t w'
def RdN (w : World) (v : Value) (l : List UInt8) : Prop := (v = .slice none 0 0 ∧ l = []) ∨ (0 < l.length ∧ l.length ≤ 100000 ∧ Rdb w v l)
def Ans (B : Nat) (J : World → Prop) (K : ByteArray → World → Prop) (e : Ending) (w : World) : Prop :=
  (∃ c : UInt8, 0 < c.toNat ∧ e = .returned (.tuple #[.slice none 0 0, .nilFunc, .int .i64 (c.toNat : Int)]) ∧ ∀ w2, Tch [] w w2 → K ⟨#[c]⟩ w2) ∨
  (∃ av chg l, e = .returned (.tuple #[av, chg, .int .i64 0]) ∧ RdN w av l ∧ ∀ w2, Tch [] w w2 → ChgG B J K (okL l) chg w2)
theorem Ans.shape {B : Nat} {J : World → Prop} {K : ByteArray → World → Prop} {e : Ending} {w : World} (h : Ans B J K e w) : ∃ av chg n, e = .returned (.tuple #[av, chg, .int .i64 n]) := by
  rcases h with ⟨c, _, h, _⟩ | ⟨av, chg, l, h, _⟩
  · exact ⟨_, _, _, h⟩
  · exact ⟨_, _, _, h⟩
theorem cellsI (r : Wp.Rq) (x : Sl) (i : Nat) (hop : r.op.toNat = 65 + i) : cellsOf r x.v = #[.int .u8 (65 + (i : Int)), .int .u8 (r.q.toNat : Int), .int .u8 (r.d.toNat : Int), .int .i64 r.vis, .int .i64 r.win, .int .i64 r.rcv, .int .i64 r.quo, .int .i64 r.mx, .int .i64 r.tic, .string r.grp, .string r.ded, .string r.bod, .string r.att, .string r.han, .slice x.a x.n x.c] := by
  have ho' : ((r.op.toNat : Nat) : Int) = 65 + (i : Int) := by rw [hop]; omega
  unfold cellsOf Sl.v; rw [ho']
theorem stG_deed {w : World} {st b i : Nat} {now : Int} {P : Nat → Value} {v : Value} (h : Stb w st b now P) (hv : (deedsC b)[i]? = some v) : w.cell? ⟨st, 9 + i, none⟩ = some v := by
  rw [cell_of_row w st (9 + i) _ 156 (0, 0) h]
  unfold stG
  rw [Array.getElem?_append_right (by rw [stH_size]; omega), stH_size]
  simpa using hv
set_option maxRecDepth 8000 in
set_option maxHeartbeats 4000000 in
theorem plan_p (B : Nat) (J : World → Prop) (K : ByteArray → World → Prop) (r : Wp.Rq) (x : Sl) (st b i fn : Nat) (now : Int) (P : Nat → Value) (w : World) (hop : r.op.toNat = 65 + i) (hi : i < 26) (hst : Stb w st b now P) (hv : (deedsC b)[i]? = some (.func (.func fn) #[] #[]))
    (eg : ∀ args w, (callFunc fn args).run Tryz.prog w = .ok (.enter fn args) w)
    (hS : ∀ W, Tch [] w W → Calls Tryz.prog fn #[.pointer (some ⟨st, 0, none⟩), .agg (cellsOf r x.v)] W fun e w' => Tch [] W w' ∧ Ans B J K e w') :
    Calls Tryz.prog 62 #[.pointer (some ⟨st, 0, none⟩), .agg (cellsOf r x.v)] w fun e w' => Tch [] w w' ∧ PlG B J K e w' := by
  have hlt := hst.lt
  have HST : Hid (Stb w st b now P) := hst
  have HV : Hid ((deedsC b)[i]? = some (.func (.func fn) #[] #[])) := hv
  have HN : Hid (∀ W, Tch [] w W → Calls Tryz.prog fn #[.pointer (some ⟨st, 0, none⟩), .agg (cellsOf r x.v)] W fun e w' => Tch [] W w' ∧ Ans B J K e w') := hS
  rw [cellsI r x i hop] at HN
  rw [cellsI r x i hop]
  clear hS hv
  obtain ⟨i0, hi0, hz0, hz1, hz2⟩ := info_parts info5
  have hb1 : (0 : Int) ≤ (i : Int) := Int.natCast_nonneg i
  have hb2 : (i : Int) < 26 := by omega
  have hb3 : (i : Int) ≤ 26 := by omega
  have hwi : IntKind.u8.wrap (65 + (i : Int) - 65) = (i : Int) := by
    have e : (65 + (i : Int) - 65) = (i : Int) := by omega
    rw [e, IntKind.wrap_u8]
    omega
  go_enter Tryz.func62, Tryz.ntmps62
  go_wp2_with fail
  obtain ⟨wb, hwb⟩ : ∃ wb, wb = w.alloc (.cells #[.int .u8 (65 + (i : Int)), .int .u8 (r.q.toNat : Int), .int .u8 (r.d.toNat : Int), .int .i64 r.vis, .int .i64 r.win, .int .i64 r.rcv, .int .i64 r.quo, .int .i64 r.mx, .int .i64 r.tic, .string r.grp, .string r.ded, .string r.bod, .string r.att, .string r.han, .slice x.a x.n x.c] 27) := ⟨_, rfl⟩
  rw [← hwb]
  have hrow : wb.heap[w.heap.size]? = some (.cells #[.int .u8 (65 + (i : Int)), .int .u8 (r.q.toNat : Int), .int .u8 (r.d.toNat : Int), .int .i64 r.vis, .int .i64 r.win, .int .i64 r.rcv, .int .i64 r.quo, .int .i64 r.mx, .int .i64 r.tic, .string r.grp, .string r.ded, .string r.bod, .string r.att, .string r.han, .slice x.a x.n x.c] 27 (0, 0)) := by rw [hwb]; exact heap_alloc_new _ _
  have TB : Hid (Tch [] w wb) := by rw [hwb]; exact (Tch.refl _ _).alloc _
  have hsb : Stb wb st b now P := HST.out.tch TB.out (by simp)
  have e0 : wb.cell? ⟨w.heap.size, 0, none⟩ = some (.int .u8 (65 + (i : Int))) := by simp [World.cell?, hrow]
  have e1 : wb.cell? ⟨w.heap.size, 1, none⟩ = some (.int .u8 (r.q.toNat : Int)) := by simp [World.cell?, hrow]
  have e2 : wb.cell? ⟨w.heap.size, 2, none⟩ = some (.int .u8 (r.d.toNat : Int)) := by simp [World.cell?, hrow]
  have e3 : wb.cell? ⟨w.heap.size, 3, none⟩ = some (.int .i64 r.vis) := by simp [World.cell?, hrow]
  have e4 : wb.cell? ⟨w.heap.size, 4, none⟩ = some (.int .i64 r.win) := by simp [World.cell?, hrow]
  have e5 : wb.cell? ⟨w.heap.size, 5, none⟩ = some (.int .i64 r.rcv) := by simp [World.cell?, hrow]
  have e6 : wb.cell? ⟨w.heap.size, 6, none⟩ = some (.int .i64 r.quo) := by simp [World.cell?, hrow]
  have e7 : wb.cell? ⟨w.heap.size, 7, none⟩ = some (.int .i64 r.mx) := by simp [World.cell?, hrow]
  have e8 : wb.cell? ⟨w.heap.size, 8, none⟩ = some (.int .i64 r.tic) := by simp [World.cell?, hrow]
  have e9 : wb.cell? ⟨w.heap.size, 9, none⟩ = some (.string r.grp) := by simp [World.cell?, hrow]
  have e10 : wb.cell? ⟨w.heap.size, 10, none⟩ = some (.string r.ded) := by simp [World.cell?, hrow]
  have e11 : wb.cell? ⟨w.heap.size, 11, none⟩ = some (.string r.bod) := by simp [World.cell?, hrow]
  have e12 : wb.cell? ⟨w.heap.size, 12, none⟩ = some (.string r.att) := by simp [World.cell?, hrow]
  have e13 : wb.cell? ⟨w.heap.size, 13, none⟩ = some (.string r.han) := by simp [World.cell?, hrow]
  have e14 : wb.cell? ⟨w.heap.size, 14, none⟩ = some (.slice x.a x.n x.c) := by simp [World.cell?, hrow]
  have cx2 := stG_deed hsb HV.out
  have hlL : w.heap.size < wb.heap.size := lt_of_block hrow
  have hlX : st < wb.heap.size := hsb.lt
  have HN1 : Hid (Calls Tryz.prog fn _ wb.drew _) := HN.out wb.drew TB.out.drew
  clear hrow hsb hwb hst
  go_region_held3 (fun w' => w'.cell? ⟨w.heap.size, 0, none⟩ = some (.int .u8 (65 + (i : Int))) ∧ w'.cell? ⟨w.heap.size, 1, none⟩ = some (.int .u8 (r.q.toNat : Int)) ∧ w'.cell? ⟨w.heap.size, 2, none⟩ = some (.int .u8 (r.d.toNat : Int)) ∧ w'.cell? ⟨w.heap.size, 3, none⟩ = some (.int .i64 r.vis) ∧ w'.cell? ⟨w.heap.size, 4, none⟩ = some (.int .i64 r.win) ∧ w'.cell? ⟨w.heap.size, 5, none⟩ = some (.int .i64 r.rcv) ∧ w'.cell? ⟨w.heap.size, 6, none⟩ = some (.int .i64 r.quo) ∧ w'.cell? ⟨w.heap.size, 7, none⟩ = some (.int .i64 r.mx) ∧ w'.cell? ⟨w.heap.size, 8, none⟩ = some (.int .i64 r.tic) ∧ w'.cell? ⟨w.heap.size, 9, none⟩ = some (.string r.grp) ∧ w'.cell? ⟨w.heap.size, 10, none⟩ = some (.string r.ded) ∧ w'.cell? ⟨w.heap.size, 11, none⟩ = some (.string r.bod) ∧ w'.cell? ⟨w.heap.size, 12, none⟩ = some (.string r.att) ∧ w'.cell? ⟨w.heap.size, 13, none⟩ = some (.string r.han) ∧ w'.cell? ⟨w.heap.size, 14, none⟩ = some (.slice x.a x.n x.c) ∧ w'.cell? ⟨st, 9 + i, none⟩ = some (.func (.func fn) #[] #[])) (go_keep) (first | (go_at_fn fn; refine HN1.out.mono ?_; rintro e w1 ⟨ht, ha⟩; obtain ⟨av, chg, en, rfl⟩ := ha.shape; have k0 := (ht.cell (a := ⟨w.heap.size, 0, none⟩) hlL (by simp)).trans e0; have k1 := (ht.cell (a := ⟨w.heap.size, 1, none⟩) hlL (by simp)).trans e1; have k2 := (ht.cell (a := ⟨w.heap.size, 2, none⟩) hlL (by simp)).trans e2; have k3 := (ht.cell (a := ⟨w.heap.size, 3, none⟩) hlL (by simp)).trans e3; have k4 := (ht.cell (a := ⟨w.heap.size, 4, none⟩) hlL (by simp)).trans e4; have k5 := (ht.cell (a := ⟨w.heap.size, 5, none⟩) hlL (by simp)).trans e5; have k6 := (ht.cell (a := ⟨w.heap.size, 6, none⟩) hlL (by simp)).trans e6; have k7 := (ht.cell (a := ⟨w.heap.size, 7, none⟩) hlL (by simp)).trans e7; have k8 := (ht.cell (a := ⟨w.heap.size, 8, none⟩) hlL (by simp)).trans e8; have k9 := (ht.cell (a := ⟨w.heap.size, 9, none⟩) hlL (by simp)).trans e9; have k10 := (ht.cell (a := ⟨w.heap.size, 10, none⟩) hlL (by simp)).trans e10; have k11 := (ht.cell (a := ⟨w.heap.size, 11, none⟩) hlL (by simp)).trans e11; have k12 := (ht.cell (a := ⟨w.heap.size, 12, none⟩) hlL (by simp)).trans e12; have k13 := (ht.cell (a := ⟨w.heap.size, 13, none⟩) hlL (by simp)).trans e13; have k14 := (ht.cell (a := ⟨w.heap.size, 14, none⟩) hlL (by simp)).trans e14; have kx := (ht.cell (a := ⟨st, 9 + i, none⟩) hlX (by simp)).trans cx2))
  have HTW : Hid (Tch [] w w1) := TB.out.drew.trans ht (by simp)
  clear e0 k0 e1 k1 e2 k2 e3 k3 e4 k4 e5 k5 e6 k6 e7 k7 e8 k8 e9 k9 e10 k10 e11 k11 e12 k12 e13 k13 e14 k14 kx cx2 ht HN1 HN
  rcases ha with ⟨c, hc0, he, hk⟩ | ⟨av', chg', l, he, hrd, hk⟩
  · simp only [Ending.returned.injEq, Value.tuple.injEq, Array.mk.injEq, List.cons.injEq, Value.int.injEq, and_true, true_and] at he
    obtain ⟨rfl, rfl, rfl⟩ := he
    have hne : (((c.toNat : Nat) : Int) == 0) = false := beq_eq_false_iff_ne.2 (by omega)
    have hne2 : (((c.toNat : Nat) : Int) != 0) = true := by simp [bne, hne]
    have HK : Hid (∀ w2, Tch [] w1 w2 → K ⟨#[c]⟩ w2) := hk
    have HRF : Hid (Calls Tryz.prog 61 #[.int .i64 ((c.toNat : Nat) : Int)] w1 fun e w' => e = .returned (.string ⟨#[c]⟩) ∧ Tch [] w1 w') := refusal_any c w1
    clear hk
    generalize ((c.toNat : Nat) : Int) = n at *
    go_wp2_with fail
    refine HRF.out.mono ?_
    rintro e w2 ⟨rfl, ht2⟩
    have HT2 : Hid (Tch [] w1 w2) := ht2
    clear ht2 HRF
    go_wp2_with fail
    go_ret2
    exact ⟨HTW.out.trans HT2.out (by simp), ⟨#[c]⟩, .inl ⟨rfl, fun w3 h3 => HK.out w3 (HT2.out.trans h3 (by simp))⟩⟩
  · simp only [Ending.returned.injEq, Value.tuple.injEq, Array.mk.injEq, List.cons.injEq, Value.int.injEq, and_true, true_and] at he
    obtain ⟨rfl, rfl, rfl⟩ := he
    have HK : Hid (∀ w2, Tch [] w1 w2 → ChgG B J K (okL l) chg w2) := hk
    clear hk
    rcases hrd with ⟨rfl, rfl⟩ | ⟨hl0, hl1, g, cap, hav, hcell⟩
    · have HT2 : Hid (Tch [] w1 (w1.alloc (.cells #[.int .u8 0] 5))) := (Tch.refl _ _).alloc _
      have hzs := zero_str
      go_wp2_with fail
      rcases HK.out _ HT2.out with ⟨rfl, hk⟩ | ⟨f, fc, rfl, eg2, hk⟩
      · go_ret2
        exact ⟨HTW.out.trans HT2.out (by simp), okL [], .inl ⟨rfl, hk⟩⟩
      · go_ret2
        exact ⟨HTW.out.trans HT2.out (by simp), okL [], .inr ⟨f, fc, rfl, eg2, hk⟩⟩
    · subst hav
      have HC : Hid (∀ j u, (bytesV l)[j]? = some u → w1.cell? ((⟨g, 0, none⟩ : Addr).add j) = some u) := hcell
      have HOW : Hid (∀ W : World, (W.alloc (.cells #[.int .u8 0] 5)).ownsRow W.heap.size 5 1 (.slice (some ⟨W.heap.size, 0, none⟩) 1 1) 1 [.int .u8 0]) := fun W => ⟨rfl, .inr ⟨W.heap.size, 1, #[.int .u8 0], rfl, Nat.le_refl _, heap_alloc_new _ _, by decide, by decide, rfl, rfl⟩⟩
      clear hcell
      go_wp2_with (at_builtin; refine wpList_append_own _ rfl _ _ 74 rfl w1.heap.size 5 i0 (.int .u8 0) 1 1 Tryz.underlying74 hi0 hz0 hz1 hz2 rfl (by decide) _ _ _ rfl (HOW.out w1) ⟨g, 0, none⟩ l.length cap (bytesV l) rfl ?c0 ?c1 ?c2 ?c3 ?c4 ?c5 ?_)
      case c0 => simp [bytesV]
      case c1 => exact fun j u hu => Lib.cell?_alloc_some _ (HC.out j u hu)
      case c2 => intro u hu; obtain ⟨z, _, rfl⟩ := List.mem_map.1 hu; rfl
      case c3 => unfold maxLen; omega
      case c4 => omega
      case c5 => simp
      intro v' w2 hown' hgrow _
      have hstr : (convert 74 9 v').run Tryz.prog w2 = .ok (.string (okL l)) w2 := OwnB.str (l := 0 :: l) (by
        have h := hown'
        unfold OwnB
        rw [List.length_cons, Nat.add_comm]
        exact h) (by simp)
      have HT2 : Hid (Tch [] w1 w2) := ((Tch.refl [] w1).alloc _).grown hgrow (fun j hj hlt => by
        simp [Value.ownBlock] at hj
        omega)
      clear hown' hgrow
      go_wp2_with fail
      rcases HK.out _ HT2.out with ⟨rfl, hk⟩ | ⟨f, fc, rfl, eg2, hk⟩
      · go_ret2
        exact ⟨HTW.out.trans HT2.out (by simp), okL l, .inl ⟨rfl, hk⟩⟩
      · go_ret2
        exact ⟨HTW.out.trans HT2.out (by simp), okL l, .inr ⟨f, fc, rfl, eg2, hk⟩⟩
set_option maxRecDepth 8000 in
set_option maxHeartbeats 4000000 in
theorem plan_w (B : Nat) (J : World → Prop) (K : ByteArray → World → Prop) (r : Wp.Rq) (x : Sl) (st b i fn bb : Nat) (now : Int) (P : Nat → Value) (w : World) (hop : r.op.toNat = 65 + i) (hi : i < 26) (hst : Stb w st b now P) (hv : (deedsC b)[i]? = some (.func (.func fn) #[] #[.pointer (some ⟨bb, 0, none⟩)]))
    (eg : ∀ args w, (callFunc fn args).run Tryz.prog w = .ok (.enter fn args) w)
    (hS : ∀ W, Tch [] w W → Calls Tryz.prog fn #[.pointer (some ⟨st, 0, none⟩), .agg (cellsOf r x.v), .pointer (some ⟨bb, 0, none⟩)] W fun e w' => Tch [] W w' ∧ Ans B J K e w') :
    Calls Tryz.prog 62 #[.pointer (some ⟨st, 0, none⟩), .agg (cellsOf r x.v)] w fun e w' => Tch [] w w' ∧ PlG B J K e w' := by
  have hlt := hst.lt
  have HST : Hid (Stb w st b now P) := hst
  have HV : Hid ((deedsC b)[i]? = some (.func (.func fn) #[] #[.pointer (some ⟨bb, 0, none⟩)])) := hv
  have HN : Hid (∀ W, Tch [] w W → Calls Tryz.prog fn #[.pointer (some ⟨st, 0, none⟩), .agg (cellsOf r x.v), .pointer (some ⟨bb, 0, none⟩)] W fun e w' => Tch [] W w' ∧ Ans B J K e w') := hS
  rw [cellsI r x i hop] at HN
  rw [cellsI r x i hop]
  clear hS hv
  obtain ⟨i0, hi0, hz0, hz1, hz2⟩ := info_parts info5
  have hb1 : (0 : Int) ≤ (i : Int) := Int.natCast_nonneg i
  have hb2 : (i : Int) < 26 := by omega
  have hb3 : (i : Int) ≤ 26 := by omega
  have hwi : IntKind.u8.wrap (65 + (i : Int) - 65) = (i : Int) := by
    have e : (65 + (i : Int) - 65) = (i : Int) := by omega
    rw [e, IntKind.wrap_u8]
    omega
  go_enter Tryz.func62, Tryz.ntmps62
  go_wp2_with fail
  obtain ⟨wb, hwb⟩ : ∃ wb, wb = w.alloc (.cells #[.int .u8 (65 + (i : Int)), .int .u8 (r.q.toNat : Int), .int .u8 (r.d.toNat : Int), .int .i64 r.vis, .int .i64 r.win, .int .i64 r.rcv, .int .i64 r.quo, .int .i64 r.mx, .int .i64 r.tic, .string r.grp, .string r.ded, .string r.bod, .string r.att, .string r.han, .slice x.a x.n x.c] 27) := ⟨_, rfl⟩
  rw [← hwb]
  have hrow : wb.heap[w.heap.size]? = some (.cells #[.int .u8 (65 + (i : Int)), .int .u8 (r.q.toNat : Int), .int .u8 (r.d.toNat : Int), .int .i64 r.vis, .int .i64 r.win, .int .i64 r.rcv, .int .i64 r.quo, .int .i64 r.mx, .int .i64 r.tic, .string r.grp, .string r.ded, .string r.bod, .string r.att, .string r.han, .slice x.a x.n x.c] 27 (0, 0)) := by rw [hwb]; exact heap_alloc_new _ _
  have TB : Hid (Tch [] w wb) := by rw [hwb]; exact (Tch.refl _ _).alloc _
  have hsb : Stb wb st b now P := HST.out.tch TB.out (by simp)
  have e0 : wb.cell? ⟨w.heap.size, 0, none⟩ = some (.int .u8 (65 + (i : Int))) := by simp [World.cell?, hrow]
  have e1 : wb.cell? ⟨w.heap.size, 1, none⟩ = some (.int .u8 (r.q.toNat : Int)) := by simp [World.cell?, hrow]
  have e2 : wb.cell? ⟨w.heap.size, 2, none⟩ = some (.int .u8 (r.d.toNat : Int)) := by simp [World.cell?, hrow]
  have e3 : wb.cell? ⟨w.heap.size, 3, none⟩ = some (.int .i64 r.vis) := by simp [World.cell?, hrow]
  have e4 : wb.cell? ⟨w.heap.size, 4, none⟩ = some (.int .i64 r.win) := by simp [World.cell?, hrow]
  have e5 : wb.cell? ⟨w.heap.size, 5, none⟩ = some (.int .i64 r.rcv) := by simp [World.cell?, hrow]
  have e6 : wb.cell? ⟨w.heap.size, 6, none⟩ = some (.int .i64 r.quo) := by simp [World.cell?, hrow]
  have e7 : wb.cell? ⟨w.heap.size, 7, none⟩ = some (.int .i64 r.mx) := by simp [World.cell?, hrow]
  have e8 : wb.cell? ⟨w.heap.size, 8, none⟩ = some (.int .i64 r.tic) := by simp [World.cell?, hrow]
  have e9 : wb.cell? ⟨w.heap.size, 9, none⟩ = some (.string r.grp) := by simp [World.cell?, hrow]
  have e10 : wb.cell? ⟨w.heap.size, 10, none⟩ = some (.string r.ded) := by simp [World.cell?, hrow]
  have e11 : wb.cell? ⟨w.heap.size, 11, none⟩ = some (.string r.bod) := by simp [World.cell?, hrow]
  have e12 : wb.cell? ⟨w.heap.size, 12, none⟩ = some (.string r.att) := by simp [World.cell?, hrow]
  have e13 : wb.cell? ⟨w.heap.size, 13, none⟩ = some (.string r.han) := by simp [World.cell?, hrow]
  have e14 : wb.cell? ⟨w.heap.size, 14, none⟩ = some (.slice x.a x.n x.c) := by simp [World.cell?, hrow]
  have cx2 := stG_deed hsb HV.out
  have hlL : w.heap.size < wb.heap.size := lt_of_block hrow
  have hlX : st < wb.heap.size := hsb.lt
  have HN1 : Hid (Calls Tryz.prog fn _ wb.drew _) := HN.out wb.drew TB.out.drew
  clear hrow hsb hwb hst
  go_region_held3 (fun w' => w'.cell? ⟨w.heap.size, 0, none⟩ = some (.int .u8 (65 + (i : Int))) ∧ w'.cell? ⟨w.heap.size, 1, none⟩ = some (.int .u8 (r.q.toNat : Int)) ∧ w'.cell? ⟨w.heap.size, 2, none⟩ = some (.int .u8 (r.d.toNat : Int)) ∧ w'.cell? ⟨w.heap.size, 3, none⟩ = some (.int .i64 r.vis) ∧ w'.cell? ⟨w.heap.size, 4, none⟩ = some (.int .i64 r.win) ∧ w'.cell? ⟨w.heap.size, 5, none⟩ = some (.int .i64 r.rcv) ∧ w'.cell? ⟨w.heap.size, 6, none⟩ = some (.int .i64 r.quo) ∧ w'.cell? ⟨w.heap.size, 7, none⟩ = some (.int .i64 r.mx) ∧ w'.cell? ⟨w.heap.size, 8, none⟩ = some (.int .i64 r.tic) ∧ w'.cell? ⟨w.heap.size, 9, none⟩ = some (.string r.grp) ∧ w'.cell? ⟨w.heap.size, 10, none⟩ = some (.string r.ded) ∧ w'.cell? ⟨w.heap.size, 11, none⟩ = some (.string r.bod) ∧ w'.cell? ⟨w.heap.size, 12, none⟩ = some (.string r.att) ∧ w'.cell? ⟨w.heap.size, 13, none⟩ = some (.string r.han) ∧ w'.cell? ⟨w.heap.size, 14, none⟩ = some (.slice x.a x.n x.c) ∧ w'.cell? ⟨st, 9 + i, none⟩ = some (.func (.func fn) #[] #[.pointer (some ⟨bb, 0, none⟩)])) (go_keep) (first | (go_at_fn fn; refine HN1.out.mono ?_; rintro e w1 ⟨ht, ha⟩; obtain ⟨av, chg, en, rfl⟩ := ha.shape; have k0 := (ht.cell (a := ⟨w.heap.size, 0, none⟩) hlL (by simp)).trans e0; have k1 := (ht.cell (a := ⟨w.heap.size, 1, none⟩) hlL (by simp)).trans e1; have k2 := (ht.cell (a := ⟨w.heap.size, 2, none⟩) hlL (by simp)).trans e2; have k3 := (ht.cell (a := ⟨w.heap.size, 3, none⟩) hlL (by simp)).trans e3; have k4 := (ht.cell (a := ⟨w.heap.size, 4, none⟩) hlL (by simp)).trans e4; have k5 := (ht.cell (a := ⟨w.heap.size, 5, none⟩) hlL (by simp)).trans e5; have k6 := (ht.cell (a := ⟨w.heap.size, 6, none⟩) hlL (by simp)).trans e6; have k7 := (ht.cell (a := ⟨w.heap.size, 7, none⟩) hlL (by simp)).trans e7; have k8 := (ht.cell (a := ⟨w.heap.size, 8, none⟩) hlL (by simp)).trans e8; have k9 := (ht.cell (a := ⟨w.heap.size, 9, none⟩) hlL (by simp)).trans e9; have k10 := (ht.cell (a := ⟨w.heap.size, 10, none⟩) hlL (by simp)).trans e10; have k11 := (ht.cell (a := ⟨w.heap.size, 11, none⟩) hlL (by simp)).trans e11; have k12 := (ht.cell (a := ⟨w.heap.size, 12, none⟩) hlL (by simp)).trans e12; have k13 := (ht.cell (a := ⟨w.heap.size, 13, none⟩) hlL (by simp)).trans e13; have k14 := (ht.cell (a := ⟨w.heap.size, 14, none⟩) hlL (by simp)).trans e14; have kx := (ht.cell (a := ⟨st, 9 + i, none⟩) hlX (by simp)).trans cx2))
  have HTW : Hid (Tch [] w w1) := TB.out.drew.trans ht (by simp)
  clear e0 k0 e1 k1 e2 k2 e3 k3 e4 k4 e5 k5 e6 k6 e7 k7 e8 k8 e9 k9 e10 k10 e11 k11 e12 k12 e13 k13 e14 k14 kx cx2 ht HN1 HN
  rcases ha with ⟨c, hc0, he, hk⟩ | ⟨av', chg', l, he, hrd, hk⟩
  · simp only [Ending.returned.injEq, Value.tuple.injEq, Array.mk.injEq, List.cons.injEq, Value.int.injEq, and_true, true_and] at he
    obtain ⟨rfl, rfl, rfl⟩ := he
    have hne : (((c.toNat : Nat) : Int) == 0) = false := beq_eq_false_iff_ne.2 (by omega)
    have hne2 : (((c.toNat : Nat) : Int) != 0) = true := by simp [bne, hne]
    have HK : Hid (∀ w2, Tch [] w1 w2 → K ⟨#[c]⟩ w2) := hk
    have HRF : Hid (Calls Tryz.prog 61 #[.int .i64 ((c.toNat : Nat) : Int)] w1 fun e w' => e = .returned (.string ⟨#[c]⟩) ∧ Tch [] w1 w') := refusal_any c w1
    clear hk
    generalize ((c.toNat : Nat) : Int) = n at *
    go_wp2_with fail
    refine HRF.out.mono ?_
    rintro e w2 ⟨rfl, ht2⟩
    have HT2 : Hid (Tch [] w1 w2) := ht2
    clear ht2 HRF
    go_wp2_with fail
    go_ret2
    exact ⟨HTW.out.trans HT2.out (by simp), ⟨#[c]⟩, .inl ⟨rfl, fun w3 h3 => HK.out w3 (HT2.out.trans h3 (by simp))⟩⟩
  · simp only [Ending.returned.injEq, Value.tuple.injEq, Array.mk.injEq, List.cons.injEq, Value.int.injEq, and_true, true_and] at he
    obtain ⟨rfl, rfl, rfl⟩ := he
    have HK : Hid (∀ w2, Tch [] w1 w2 → ChgG B J K (okL l) chg w2) := hk
    clear hk
    rcases hrd with ⟨rfl, rfl⟩ | ⟨hl0, hl1, g, cap, hav, hcell⟩
    · have HT2 : Hid (Tch [] w1 (w1.alloc (.cells #[.int .u8 0] 5))) := (Tch.refl _ _).alloc _
      have hzs := zero_str
      go_wp2_with fail
      rcases HK.out _ HT2.out with ⟨rfl, hk⟩ | ⟨f, fc, rfl, eg2, hk⟩
      · go_ret2
        exact ⟨HTW.out.trans HT2.out (by simp), okL [], .inl ⟨rfl, hk⟩⟩
      · go_ret2
        exact ⟨HTW.out.trans HT2.out (by simp), okL [], .inr ⟨f, fc, rfl, eg2, hk⟩⟩
    · subst hav
      have HC : Hid (∀ j u, (bytesV l)[j]? = some u → w1.cell? ((⟨g, 0, none⟩ : Addr).add j) = some u) := hcell
      have HOW : Hid (∀ W : World, (W.alloc (.cells #[.int .u8 0] 5)).ownsRow W.heap.size 5 1 (.slice (some ⟨W.heap.size, 0, none⟩) 1 1) 1 [.int .u8 0]) := fun W => ⟨rfl, .inr ⟨W.heap.size, 1, #[.int .u8 0], rfl, Nat.le_refl _, heap_alloc_new _ _, by decide, by decide, rfl, rfl⟩⟩
      clear hcell
      go_wp2_with (at_builtin; refine wpList_append_own _ rfl _ _ 74 rfl w1.heap.size 5 i0 (.int .u8 0) 1 1 Tryz.underlying74 hi0 hz0 hz1 hz2 rfl (by decide) _ _ _ rfl (HOW.out w1) ⟨g, 0, none⟩ l.length cap (bytesV l) rfl ?c0 ?c1 ?c2 ?c3 ?c4 ?c5 ?_)
      case c0 => simp [bytesV]
      case c1 => exact fun j u hu => Lib.cell?_alloc_some _ (HC.out j u hu)
      case c2 => intro u hu; obtain ⟨z, _, rfl⟩ := List.mem_map.1 hu; rfl
      case c3 => unfold maxLen; omega
      case c4 => omega
      case c5 => simp
      intro v' w2 hown' hgrow _
      have hstr : (convert 74 9 v').run Tryz.prog w2 = .ok (.string (okL l)) w2 := OwnB.str (l := 0 :: l) (by
        have h := hown'
        unfold OwnB
        rw [List.length_cons, Nat.add_comm]
        exact h) (by simp)
      have HT2 : Hid (Tch [] w1 w2) := ((Tch.refl [] w1).alloc _).grown hgrow (fun j hj hlt => by
        simp [Value.ownBlock] at hj
        omega)
      clear hown' hgrow
      go_wp2_with fail
      rcases HK.out _ HT2.out with ⟨rfl, hk⟩ | ⟨f, fc, rfl, eg2, hk⟩
      · go_ret2
        exact ⟨HTW.out.trans HT2.out (by simp), okL l, .inl ⟨rfl, hk⟩⟩
      · go_ret2
        exact ⟨HTW.out.trans HT2.out (by simp), okL l, .inr ⟨f, fc, rfl, eg2, hk⟩⟩
end Go.Proofs.YtbdobaapadlcjaaGreatDoor
