/-
  DISKS: the walk of told (30): Crash.
-/
import Derived.Test.YtbdobaapadlcjaaDoorDkP
namespace Go.Proofs.YtbdobaapadlcjaaDoor.Dk
open Go.RowKit
set_option linter.unusedVariables false
set_option linter.unusedSimpArgs false

/-- A pair more. -/
theorem St.push {B : Nat} {w w1 w3 : World} {s : Nat} {lv nv mv lv' : Value} {c : Nat → Tag} {ps : List Pr} {ns : List Nm} {n k : Nat} (h : St B w s lv nv mv c ps ns n k) (P : Pr) (hd : Dsk w 76 81 P.p P.v P.D ∧ ∀ b ∈ bl P.p P.v, c b = .D ps.length) (hr : Dsk w 79 83 P.q P.u P.E ∧ ∀ b ∈ bl P.q P.u, c b = .R ps.length) (hE : P.E = P.D) (hg : Good P.D (n + 1) k)
    (h1 : Tch [] w w1) (hgr : w1.grownBy w3 lv.ownBlock) (ho : w3.ownsRow 0 56 2 lv' (ps.length + 1) (prow ps ++ [.pointer (some ⟨P.p, 0, none⟩), .pointer (some ⟨P.q, 0, none⟩)])) (hb : lv'.ownBlock = lv.ownBlock ∨ lv'.ownBlock = some w1.heap.size) :
    w3.cell? ⟨s, 0, none⟩ = some lv ∧ w3.frozen? ⟨s, 0, none⟩ = false ∧ (∃ g cap, lv' = .slice (some ⟨g, 0, none⟩) (ps.length + 1) cap) ∧ Rest B (w3.setCell ⟨s, 0, none⟩ lv') s (n + 1) k ∧ Below B w (w3.setCell ⟨s, 0, none⟩ lv') := by
  have hpr : prow (ps ++ [P]) = prow ps ++ [.pointer (some ⟨P.p, 0, none⟩), .pointer (some ⟨P.q, 0, none⟩)] := by
    unfold prow
    rw [List.flatMap_append]
    rfl
  obtain ⟨q, z, hs, ht⟩ := h.sh.pushL P hd hr h1 hgr (by rw [List.length_append, hpr]; exact ho) hb
  refine ⟨q, z, ?_, St.rest (lv := lv') (nv := nv) (mv := mv) (c := paint c w.heap.size .L) (ps := ps ++ [P]) (ns := ns) ⟨hs, ?_, ?_, ?_, ?_, ?_, ?_⟩, tch_below ht h.hB h.old ?_⟩
  · rcases ho.2 with ⟨_, h0⟩ | ⟨g, cap, cur, hv, _⟩
    · omega
    · exact ⟨g, cap, hv⟩
  · intro Q hQ
    rcases List.mem_append.1 hQ with hQ | hQ
    · exact ⟨(h.eq Q hQ).1, (h.eq Q hQ).2.mono (by omega) (Nat.le_refl _)⟩
    · simp at hQ
      subst hQ
      exact ⟨hE, hg⟩
  · rw [List.length_append, List.length_singleton]; have := h.pl; omega
  · have := h.nl; omega
  · intro x hx; have := h.nx x hx; omega
  · intro b hbb
    rw [paint_old (by have := h.hB; omega)]
    exact h.old b hbb
  · exact Nat.le_trans h.hB ht.size
  · intro b hbb
    simp only [List.mem_cons, Option.mem_toList] at hbb
    rcases hbb with rfl | hbb
    · rw [h.sh.cs]; simp
    · rw [h.sh.cl b hbb]; simp

set_option maxRecDepth 10000 in
set_option maxHeartbeats 2000000 in
theorem told_10 (B : Nat) (w : World) (s : Nat) (lv nv mv : Value) (c : Nat → Tag) (ps : List Pr) (ns : List Nm) (n k : Nat) (h : St B w s lv nv mv c ps ns n k) (i : Nat) (P : Pr) (hi : ps[i]? = some P) (On A : Int) (N S : ByteArray) (hn : n ≤ 1048576) (hkb : k ≤ 1099511627776) (hA : -9223372036854775808 ≤ A ∧ A ≤ 9223372036854775807) :
    Calls Tryd.prog 30 #[.pointer (some ⟨s, 0, none⟩), .agg (pcs P.p P.q), .agg (acs 10 On A N S)] w fun e w' => e = .returned (.bool true) ∧ Rest B w' s (n + 1) k ∧ Below B w w' := by
  obtain ⟨heq, hgood⟩ := h.eq P (List.mem_of_getElem? hi)
  have hT : Tch [] w ((w.alloc (.cells (pcs P.p P.q) 56)).alloc (.cells (acs 10 On A N S) 33)) := ((Tch.refl [] w).alloc _).alloc _
  have hBw : Below B w ((w.alloc (.cells (pcs P.p P.q) 56)).alloc (.cells (acs 10 On A N S) 33)) := hT.below (fun x hx => by cases hx) h.hB
  have hW := h.keep hT .O
  have hPb : ((w.alloc (.cells (pcs P.p P.q) 56)).alloc (.cells (acs 10 On A N S) 33)).heap[w.heap.size]? = some (.cells (pcs P.p P.q) 56 (0, 0)) := heap_alloc2_old _ _ _
  have hOb : ((w.alloc (.cells (pcs P.p P.q) 56)).alloc (.cells (acs 10 On A N S) 33)).heap[w.heap.size + 1]? = some (.cells (acs 10 On A N S) 33 (0, 0)) := heap_alloc2_new _ _ _
  have hcP : paint c w.heap.size .O w.heap.size = .O := paint_new (Nat.le_refl _)
  have hcO : paint c w.heap.size .O (w.heap.size + 1) = .O := paint_new (by omega)
  have hzW : ((w.alloc (.cells (pcs P.p P.q) 56)).alloc (.cells (acs 10 On A N S) 33)).heap.size = w.heap.size + 2 := by simp
  obtain ⟨hd, _⟩ := hW.sh.d i P hi
  obtain ⟨hr, _⟩ := hW.sh.r i P hi
  rw [heq] at hr
  generalize paint c w.heap.size .O = c1 at hW hcP hcO
  have HW : Hid (St B ((w.alloc (.cells (pcs P.p P.q) 56)).alloc (.cells (acs 10 On A N S) 33)) s lv nv mv c1 ps ns n k) := hW
  clear h hT hW
  unfold pcs acs at *
  have hgd : Good ⟨P.D.fs.map (crF A), -1, false⟩ (n + 1) k := by
    refine ⟨⟨by show (_ : Int) ≤ -1; decide, by show (-1 : Int) ≤ _; decide⟩, ?_, ?_⟩
    · have := hgood.fs
      show (P.D.fs.map (crF A)).length ≤ _
      rw [List.length_map]
      omega
    · intro f hf
      obtain ⟨g, hg, rfl⟩ := List.mem_map.1 hf
      obtain ⟨h1, h2⟩ := hgood.sz g hg
      have h3 := crN_le A g h1
      have h4 := crF_size A g h1
      show g.safe + crN A g ≤ (g.data.extract 0 (g.safe + crN A g)).size ∧ (g.data.extract 0 (g.safe + crN A g)).size ≤ k
      rw [h4]
      omega
  have HG : Hid (Good ⟨P.D.fs.map (crF A), -1, false⟩ (n + 1) k) := hgd
  have hfs := hgood.fs
  have HSZ : Hid (∀ f ∈ P.D.fs, f.safe ≤ f.data.size ∧ f.data.size ≤ 1099511627776) := fun f hf => ⟨(hgood.sz f hf).1, by have := (hgood.sz f hf).2; omega⟩
  have HD : Hid (Dsk ((w.alloc (.cells #[.pointer (some ⟨P.p, 0, none⟩), .pointer (some ⟨P.q, 0, none⟩)] 56)).alloc (.cells #[.int .i64 10, .int .i64 On, .int .i64 A, .string N, .string S] 33)) 76 81 P.p P.v P.D ∧ Dsk ((w.alloc (.cells #[.pointer (some ⟨P.p, 0, none⟩), .pointer (some ⟨P.q, 0, none⟩)] 56)).alloc (.cells #[.int .i64 10, .int .i64 On, .int .i64 A, .string N, .string S] 33)) 79 83 P.q P.u P.D) := ⟨hd, hr⟩
  have HF : Hid (Below B w ((w.alloc (.cells #[.pointer (some ⟨P.p, 0, none⟩), .pointer (some ⟨P.q, 0, none⟩)] 56)).alloc (.cells #[.int .i64 10, .int .i64 On, .int .i64 A, .string N, .string S] 33))) := hBw
  have HPO : Hid (((w.alloc (.cells #[.pointer (some ⟨P.p, 0, none⟩), .pointer (some ⟨P.q, 0, none⟩)] 56)).alloc (.cells #[.int .i64 10, .int .i64 On, .int .i64 A, .string N, .string S] 33)).heap[w.heap.size]? = some (.cells #[.pointer (some ⟨P.p, 0, none⟩), .pointer (some ⟨P.q, 0, none⟩)] 56 (0, 0)) ∧ ((w.alloc (.cells #[.pointer (some ⟨P.p, 0, none⟩), .pointer (some ⟨P.q, 0, none⟩)] 56)).alloc (.cells #[.int .i64 10, .int .i64 On, .int .i64 A, .string N, .string S] 33)).heap[w.heap.size + 1]? = some (.cells #[.int .i64 10, .int .i64 On, .int .i64 A, .string N, .string S] 33 (0, 0)) ∧ ((w.alloc (.cells #[.pointer (some ⟨P.p, 0, none⟩), .pointer (some ⟨P.q, 0, none⟩)] 56)).alloc (.cells #[.int .i64 10, .int .i64 On, .int .i64 A, .string N, .string S] 33)).heap.size = w.heap.size + 2) := ⟨hPb, hOb, hzW⟩
  clear hd hr hBw hPb hOb hcP hcO hzW hgd
  go_enter Tryd.func30, Tryd.ntmps30
  go_wp2_with fail
  refine (crash_d P.p P.v P.D.left P.D.st P.D.fs A _ HD.out.1.blk HD.out.1.own (by omega) HSZ.out hA.1 hA.2).mono ?_
  rintro e w1 ⟨rfl, v1, hd1, ht1, hn1⟩
  rw [HPO.out.2.2] at hd1 hn1 ⊢
  have hPb1 := (ht1.block _ (by rw [HPO.out.2.2]; omega) (by simp)).trans HPO.out.1
  have hOb1 := (ht1.block _ (by rw [HPO.out.2.2]; omega) (by simp)).trans HPO.out.2.1
  have cp : w1.cell? ⟨w.heap.size, 1, none⟩ = some (.pointer (some ⟨P.q, 0, none⟩)) := (cell_of_row _ _ 1 _ 56 (0, 0) hPb1).trans rfl
  have co : w1.cell? ⟨w.heap.size + 1, 2, none⟩ = some (.int .i64 A) := (cell_of_row _ _ 2 _ 33 (0, 0) hOb1).trans rfl
  have H1 : Hid (Dsk w1 76 81 (w.heap.size + 2) v1 ⟨P.D.fs.map (crF A), -1, false⟩ ∧ Tch [] ((w.alloc (.cells #[.pointer (some ⟨P.p, 0, none⟩), .pointer (some ⟨P.q, 0, none⟩)] 56)).alloc (.cells #[.int .i64 10, .int .i64 On, .int .i64 A, .string N, .string S] 33)) w1 ∧ (∀ b, v1.ownBlock = some b → w.heap.size + 2 ≤ b) ∧ Dsk w1 79 83 P.q P.u P.D) := ⟨hd1, ht1, hn1, HD.out.2.tch ht1 (fun _ _ => by simp)⟩
  clear hd1 ht1 hn1 hPb1 hOb1
  go_wp2_with fail
  refine (crash_r P.q P.u P.D.left P.D.st P.D.fs A w1 H1.out.2.2.2.blk H1.out.2.2.2.own (by omega) HSZ.out hA.1 hA.2).mono ?_
  rintro e w2 ⟨rfl, u1, hd2, ht2, hn2⟩
  have hst := (HW.out.keep H1.out.2.1 (.D ps.length)).keep ht2 (.R ps.length)
  rw [HPO.out.2.2] at hst
  have hcd : ∀ b ∈ bl (w.heap.size + 2) v1, paint (paint c1 (w.heap.size + 2) (.D ps.length)) w1.heap.size (.R ps.length) b = .D ps.length := fun b hb => by
    rw [paint_old (H1.out.1.lt b hb)]
    refine paint_new ?_
    simp only [bl, List.mem_cons, Option.mem_toList] at hb
    rcases hb with rfl | hb
    · exact Nat.le_refl _
    · exact H1.out.2.2.1 b hb
  have hcr : ∀ b ∈ bl w1.heap.size u1, paint (paint c1 (w.heap.size + 2) (.D ps.length)) w1.heap.size (.R ps.length) b = .R ps.length := fun b hb => by
    refine paint_new ?_
    simp only [bl, List.mem_cons, Option.mem_toList] at hb
    rcases hb with rfl | hb
    · exact Nat.le_refl _
    · exact hn2 b hb
  have H2 : Hid (St B w2 s lv nv mv (paint (paint c1 (w.heap.size + 2) (.D ps.length)) w1.heap.size (.R ps.length)) ps ns n k ∧ (Dsk w2 76 81 (w.heap.size + 2) v1 ⟨P.D.fs.map (crF A), -1, false⟩ ∧ ∀ b ∈ bl (w.heap.size + 2) v1, paint (paint c1 (w.heap.size + 2) (.D ps.length)) w1.heap.size (.R ps.length) b = .D ps.length) ∧
    (Dsk w2 79 83 w1.heap.size u1 ⟨P.D.fs.map (crF A), -1, false⟩ ∧ ∀ b ∈ bl w1.heap.size u1, paint (paint c1 (w.heap.size + 2) (.D ps.length)) w1.heap.size (.R ps.length) b = .R ps.length) ∧ Below B w w2) :=
    ⟨hst, ⟨H1.out.1.tch ht2 (fun _ _ => by simp), hcd⟩, ⟨hd2, hcr⟩, (HF.out.trans (H1.out.2.1.below (fun x hx => by cases hx) HW.out.hB)).trans (ht2.below (fun x hx => by cases hx) (Nat.le_trans HW.out.hB H1.out.2.1.size))⟩
  generalize paint (paint c1 (w.heap.size + 2) (.D ps.length)) w1.heap.size (.R ps.length) = c2 at H2
  obtain ⟨q0, _, _, _⟩ := hst.sh.sblk
  obtain ⟨al, cl, hlv⟩ : ∃ al cl, lv = .slice al ps.length cl := by
    rcases hst.sh.l.2 with ⟨rfl, h0⟩ | ⟨g, cap, cur, rfl, _⟩
    · exact ⟨none, 0, by rw [h0]⟩
    · exact ⟨_, _, rfl⟩
  subst hlv
  have q0a : ∀ o, (w2.alloc o).cell? ⟨s, 0, none⟩ = some (.slice al ps.length cl) := fun o => (World.cell?_of_block (Below.heap_alloc _ _ _ hst.sh.lt)).trans q0
  have hpl := HW.out.pl
  clear hd2 ht2 hn2 hst hcd hcr cp co
  go_wp2_with (at_builtin; refine wpList_vals _ rfl _ _ 26 56 rfl Tryd.underlying26 _ 2 16 info56 rfl (by decide) (by decide) (.slice al ps.length cl) ps.length (prow ps) rfl (owns_tch H2.out.1.sh.l ((Tch.refl [] _).alloc _) (fun _ _ => by simp)) w2.heap.size [.pointer (some ⟨w.heap.size + 2, 0, none⟩), .pointer (some ⟨w1.heap.size, 0, none⟩)] 1 rfl rfl (by decide) (heap_alloc_new _ _) (fun u hu => by
    simp only [List.mem_cons, List.not_mem_nil, or_false] at hu
    rcases hu with rfl | rfl <;> rfl) (by omega) ?_)
  intro lv' w3 ho3 hg3 hb3
  obtain ⟨q3, z3, ⟨g3, cap3, hv3⟩, hrest, hB3⟩ := H2.out.1.push ⟨w.heap.size + 2, v1, ⟨P.D.fs.map (crF A), -1, false⟩, w1.heap.size, u1, ⟨P.D.fs.map (crF A), -1, false⟩⟩ H2.out.2.1 H2.out.2.2.1 rfl HG.out ((Tch.refl [] _).alloc _) hg3 ho3 (by simpa using hb3)
  subst hv3
  have HFN : Hid (Rest B (w3.setCell ⟨s, 0, none⟩ (.slice (some ⟨g3, 0, none⟩) (ps.length + 1) cap3)) s (n + 1) k ∧ Below B w (w3.setCell ⟨s, 0, none⟩ (.slice (some ⟨g3, 0, none⟩) (ps.length + 1) cap3))) := ⟨hrest, H2.out.2.2.2.trans hB3⟩
  clear ho3 hg3 hb3 hrest hB3 q0 q0a
  go_wp2_with fail
  go_ret
  exact ⟨rfl, HFN.out⟩
end Go.Proofs.YtbdobaapadlcjaaDoor.Dk
