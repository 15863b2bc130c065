/-
  DISKS: the walk of told (30): Names.
-/
import Derived.Test.YtbdobaapadlcjaaDoorDkQ
namespace Go.Proofs.YtbdobaapadlcjaaDoor.Dk
open Go.RowKit
set_option linter.unusedVariables false
set_option linter.unusedSimpArgs false

theorem Shelf.drewN {w : World} {s : Nat} {lv nv mv : Value} {c : Nat → Tag} {ps : List Pr} {ns : List Nm} {ms : List ByteArray} (h : Shelf w s lv nv mv c ps ns ms) (m : Nat) : Shelf (w.drewN m) s lv nv mv c ps ns ms where
  blk := h.blk
  cs := h.cs
  l := h.l
  cl := h.cl
  n := h.n
  cn := h.cn
  m := h.m
  cm := h.cm
  d i P hP := ⟨(h.d i P hP).1.tch ((Tch.refl [] _).drewN m) (fun _ _ => by simp), (h.d i P hP).2⟩
  r i P hP := ⟨(h.r i P hP).1.tch ((Tch.refl [] _).drewN m) (fun _ _ => by simp), (h.r i P hP).2⟩
  x := h.x

set_option maxRecDepth 10000 in
set_option maxHeartbeats 2000000 in
theorem told_7 (B : Nat) (w : World) (s : Nat) (lv nv mv : Value) (c : Nat → Tag) (ps : List Pr) (ns : List Nm) (n k : Nat) (h : St B w s lv nv mv c ps ns n k) (i : Nat) (P : Pr) (hi : ps[i]? = some P) (On A : Int) (N S : ByteArray) (hn : n ≤ 1048576) (hA : -9223372036854775808 ≤ A ∧ A ≤ 9223372036854775807) :
    Calls Tryd.prog 30 #[.pointer (some ⟨s, 0, none⟩), .agg (pcs P.p P.q), .agg (acs 7 On A N S)] w fun e w' => e = .returned (.bool true) ∧ Rest B w' s (n + 1) k ∧ Below B w w' := by
  obtain ⟨heq, hgood⟩ := h.eq P (List.mem_of_getElem? hi)
  have hT : Tch [] w ((w.alloc (.cells (pcs P.p P.q) 56)).alloc (.cells (acs 7 On A N S) 33)) := ((Tch.refl [] w).alloc _).alloc _
  have hBw : Below B w ((w.alloc (.cells (pcs P.p P.q) 56)).alloc (.cells (acs 7 On A N S) 33)) := hT.below (fun x hx => by cases hx) h.hB
  have hW := h.keep hT .O
  have hPb : ((w.alloc (.cells (pcs P.p P.q) 56)).alloc (.cells (acs 7 On A N S) 33)).heap[w.heap.size]? = some (.cells (pcs P.p P.q) 56 (0, 0)) := heap_alloc2_old _ _ _
  have hOb : ((w.alloc (.cells (pcs P.p P.q) 56)).alloc (.cells (acs 7 On A N S) 33)).heap[w.heap.size + 1]? = some (.cells (acs 7 On A N S) 33 (0, 0)) := heap_alloc2_new _ _ _
  have hcP : paint c w.heap.size .O w.heap.size = .O := paint_new (Nat.le_refl _)
  have hcO : paint c w.heap.size .O (w.heap.size + 1) = .O := paint_new (by omega)
  have hzW : ((w.alloc (.cells (pcs P.p P.q) 56)).alloc (.cells (acs 7 On A N S) 33)).heap.size = w.heap.size + 2 := by simp
  obtain ⟨hd, _⟩ := hW.sh.d i P hi
  obtain ⟨hr, _⟩ := hW.sh.r i P hi
  rw [heq] at hr
  generalize paint c w.heap.size .O = c1 at hW hcP hcO
  have HW : Hid (St B ((w.alloc (.cells (pcs P.p P.q) 56)).alloc (.cells (acs 7 On A N S) 33)) s lv nv mv c1 ps ns n k) := hW
  clear h hT hW
  unfold pcs acs at *
  have hfs := hgood.fs
  have HD : Hid (Dsk ((w.alloc (.cells #[.pointer (some ⟨P.p, 0, none⟩), .pointer (some ⟨P.q, 0, none⟩)] 56)).alloc (.cells #[.int .i64 7, .int .i64 On, .int .i64 A, .string N, .string S] 33)) 76 81 P.p P.v P.D ∧ Dsk ((w.alloc (.cells #[.pointer (some ⟨P.p, 0, none⟩), .pointer (some ⟨P.q, 0, none⟩)] 56)).alloc (.cells #[.int .i64 7, .int .i64 On, .int .i64 A, .string N, .string S] 33)) 79 83 P.q P.u P.D) := ⟨hd, hr⟩
  have HF : Hid (Below B w ((w.alloc (.cells #[.pointer (some ⟨P.p, 0, none⟩), .pointer (some ⟨P.q, 0, none⟩)] 56)).alloc (.cells #[.int .i64 7, .int .i64 On, .int .i64 A, .string N, .string S] 33))) := hBw
  have HPO : Hid (((w.alloc (.cells #[.pointer (some ⟨P.p, 0, none⟩), .pointer (some ⟨P.q, 0, none⟩)] 56)).alloc (.cells #[.int .i64 7, .int .i64 On, .int .i64 A, .string N, .string S] 33)).heap[w.heap.size]? = some (.cells #[.pointer (some ⟨P.p, 0, none⟩), .pointer (some ⟨P.q, 0, none⟩)] 56 (0, 0)) ∧ ((w.alloc (.cells #[.pointer (some ⟨P.p, 0, none⟩), .pointer (some ⟨P.q, 0, none⟩)] 56)).alloc (.cells #[.int .i64 7, .int .i64 On, .int .i64 A, .string N, .string S] 33)).heap.size = w.heap.size + 2) := ⟨hPb, hzW⟩
  clear hd hr hBw hPb hOb hcP hcO hzW
  go_enter Tryd.func30, Tryd.ntmps30
  go_wp2_with fail
  refine (names_d P.p P.v P.D.left P.D.st P.D.fs _ HD.out.1.blk HD.out.1.own (by omega)).mono ?_
  rintro e w1 ⟨a1, cap1, rfl, ho1, hn1, ht1⟩
  have hPb1 := (ht1.block _ (by rw [HPO.out.2]; omega) (by simp)).trans HPO.out.1
  have cp : w1.cell? ⟨w.heap.size, 1, none⟩ = some (.pointer (some ⟨P.q, 0, none⟩)) := (cell_of_row _ _ 1 _ 56 (0, 0) hPb1).trans rfl
  have H1 : Hid (OwnS w1 (.slice a1 P.D.fs.length cap1) (nmS P.D.fs) ∧ Tch [] ((w.alloc (.cells #[.pointer (some ⟨P.p, 0, none⟩), .pointer (some ⟨P.q, 0, none⟩)] 56)).alloc (.cells #[.int .i64 7, .int .i64 On, .int .i64 A, .string N, .string S] 33)) w1 ∧ (∀ b, (Value.slice a1 P.D.fs.length cap1).ownBlock = some b → ((w.alloc (.cells #[.pointer (some ⟨P.p, 0, none⟩), .pointer (some ⟨P.q, 0, none⟩)] 56)).alloc (.cells #[.int .i64 7, .int .i64 On, .int .i64 A, .string N, .string S] 33)).heap.size ≤ b) ∧ Dsk w1 79 83 P.q P.u P.D) := ⟨ho1, ht1, hn1, HD.out.2.tch ht1 (fun _ _ => by simp)⟩
  clear ho1 ht1 hn1 hPb1
  go_wp2_with fail
  refine (names_r P.q P.u P.D.left P.D.st P.D.fs w1 H1.out.2.2.2.blk H1.out.2.2.2.own (by omega)).mono ?_
  rintro e w2 ⟨a2, cap2, rfl, ho2, hn2, ht2⟩
  have hst := (HW.out.keep H1.out.2.1 .Y).keep ht2 .O
  have hcy : ∀ b, (Value.slice a1 P.D.fs.length cap1).ownBlock = some b → paint (paint c1 ((w.alloc (.cells #[.pointer (some ⟨P.p, 0, none⟩), .pointer (some ⟨P.q, 0, none⟩)] 56)).alloc (.cells #[.int .i64 7, .int .i64 On, .int .i64 A, .string N, .string S] 33)).heap.size .Y) w1.heap.size .O b = .Y := fun b hb => by
    rw [paint_old (owns_lt H1.out.1 b hb)]
    exact paint_new (H1.out.2.2.1 b hb)
  have hB2 : Below B w w2 := (HF.out.trans (H1.out.2.1.below (fun x hx => by cases hx) HW.out.hB)).trans (ht2.below (fun x hx => by cases hx) (Nat.le_trans HW.out.hB H1.out.2.1.size))
  have hol : OwnS w2 (.slice a1 P.D.fs.length cap1) (nmS P.D.fs) := H1.out.1.tch ht2 (fun _ _ => by simp)
  generalize paint (paint c1 ((w.alloc (.cells #[.pointer (some ⟨P.p, 0, none⟩), .pointer (some ⟨P.q, 0, none⟩)] 56)).alloc (.cells #[.int .i64 7, .int .i64 On, .int .i64 A, .string N, .string S] 33)).heap.size .Y) w1.heap.size .O = c2 at hst hcy
  have hlen := nmS_len P.D.fs
  generalize nmS P.D.fs = Ls at hol ho2 hlen
  generalize P.D.fs.length = m at *
  obtain ⟨a3, c3, e3, hc3⟩ := hol.at
  rw [hlen] at e3
  injection e3 with e4 _ e4c
  subst e4 e4c
  obtain ⟨a5, c5, e5, hc5⟩ := ho2.at
  rw [hlen] at e5
  injection e5 with e6 _ e6c
  subst e6 e6c
  have HCC : Hid (∀ j (hj : j < m), ∃ g g2 x, a1 = some ⟨g, 0, none⟩ ∧ a2 = some ⟨g2, 0, none⟩ ∧ w2.cell? ⟨g, j, none⟩ = some (.string x) ∧ w2.cell? ⟨g2, j, none⟩ = some (.string x)) := fun j hj => by
    obtain ⟨g, h1, h2, _⟩ := hc3 j (by omega)
    obtain ⟨g2, h3, h4, _⟩ := hc5 j (by omega)
    exact ⟨g, g2, _, h1, h3, h2, h4⟩
  have H2 : Hid (St B w2 s lv nv mv c2 ps ns n k ∧ (∀ b, (Value.slice a1 m cap1).ownBlock = some b → c2 b = .Y) ∧ OwnS w2 (.slice a1 m cap1) Ls ∧ Below B w w2 ∧ Ls.length = m) := ⟨hst, hcy, hol, hB2, hlen⟩
  clear hst hcy hB2 hol hc3 hc5 ho2 hn2 ht2 cp H1 HD HW
  go_wp2_with fail
  go_loopw [13, 14] (fun sv iv wr => ∃ (j mm : Nat), j ≤ m ∧ sv = .bool true ∧ iv = .int .i64 j ∧ wr = w2.drewN mm) (fun _ iv _ => m - (intOf iv).toNat)
  case atStart => exact ⟨0, 0, Nat.zero_le _, by simp, rfl, rfl⟩
  case round =>
    obtain ⟨j, mm, hj, rfl, rfl, rfl⟩ := hrel
    by_cases hjm : j < m
    · have hjl : ((j : Int) < (m : Int)) := by omega
      obtain ⟨g, g2, x, rfl, rfl, q1, q2⟩ := HCC.out j hjm
      have hss : (x.toList == x.toList) = true := by simp
      go_wp2_with fail
      go_quiet (fail)
      go_wp2_with fail
      go_roundw
      case rel => exact ⟨j + 1, _, by omega, by simp, by go_num, rfl⟩
      case measure => simp [intOf]; omega
    · have hjl : ¬ ((j : Int) < (m : Int)) := by omega
      go_wp2_with fail
      have hnl4 := H2.out.1.nl
      have hk1 : ns.length ≤ 16777216 := by clear HCC H2 HF HPO; omega
      have hk2 : m ≤ 8388608 := by clear HCC H2 HF HPO; omega
      have hK1 := H2.out.1.sh.drewN mm
      have hK2 := H2.out.2.2.1.drewN mm
      have hK := keeps_any (w2.drewN mm) s lv nv mv c2 ps ns hK1 a1 m _ Ls H2.out.2.2.2.2 hK2 H2.out.2.1 hk1 hk2
      refine hK.mono ?_
      rintro e w4 ⟨rfl, nv', mv', c', xs, hs4, hx4, hxn, hc4, ht4⟩
      have hB4 : Below B (w2.drewN mm) w4 := tch_below ht4 H2.out.1.hB H2.out.1.old (fun b hb => by
        simp only [List.mem_append, List.mem_cons, Option.mem_toList] at hb
        rcases hb with ((hb | hb) | hb) | hb
        · rw [hb, H2.out.1.sh.cs]; simp
        · rw [H2.out.1.sh.cn b hb]; simp
        · rw [H2.out.1.sh.cm b hb]; simp
        · rw [H2.out.2.1 b hb]; simp)
      have HFN : Hid (Rest B w4 s (n + 1) k ∧ Below B w w4) := by
        refine ⟨St.rest (lv := lv) (nv := nv') (mv := mv') (c := c') (ps := ps) (ns := ns ++ xs) ⟨hs4, ?_, ?_, ?_, ?_, ?_, ?_⟩, Below.trans (b := w2.drewN mm) ⟨H2.out.2.2.2.1.os, H2.out.2.2.2.1.tape, H2.out.2.2.2.1.output, H2.out.2.2.2.1.size, H2.out.2.2.2.1.block⟩ hB4⟩
        · exact fun Q hQ => ⟨(H2.out.1.eq Q hQ).1, (H2.out.1.eq Q hQ).2.mono (by omega) (Nat.le_refl _)⟩
        · have := H2.out.1.pl; omega
        · rw [List.length_append, hx4]; omega
        · intro x hx
          rcases List.mem_append.1 hx with hx | hx
          · have := H2.out.1.nx x hx; omega
          · have := hxn x hx; omega
        · intro b hb
          have h1 := H2.out.1.old b hb
          rw [hc4 b (by have := H2.out.1.hB; exact Nat.lt_of_lt_of_le hb this) (by rw [h1]; simp)]
          exact h1
        · exact Nat.le_trans H2.out.1.hB ht4.size
      clear hs4 hx4 hxn hc4 ht4 hB4
      go_wp2_with fail
      go_ret
      exact ⟨rfl, HFN.out⟩
end Go.Proofs.YtbdobaapadlcjaaDoor.Dk
