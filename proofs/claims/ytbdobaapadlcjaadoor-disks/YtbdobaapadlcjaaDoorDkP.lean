/-
  DISKS: the walk of told (30): Read, Stopped, Stop, and any other kind.
-/
import Derived.Test.YtbdobaapadlcjaaDoorDkO
namespace Go.Proofs.YtbdobaapadlcjaaDoor.Dk
open Go.RowKit
set_option linter.unusedVariables false
set_option linter.unusedSimpArgs false

/-- An act's cells; a pair's. -/
def acs (K On A : Int) (N S : ByteArray) : Array Value := #[.int .i64 K, .int .i64 On, .int .i64 A, .string N, .string S]
def pcs (p q : Nat) : Array Value := #[.pointer (some ⟨p, 0, none⟩), .pointer (some ⟨q, 0, none⟩)]
/-- THE SHELF AT REST: both disks of each pair are alike; so many pairs, names and bytes at most. -/
structure St (B : Nat) (w : World) (s : Nat) (lv nv mv : Value) (c : Nat → Tag) (ps : List Pr) (ns : List Nm) (n k : Nat) : Prop where
  sh : Shelf w s lv nv mv c ps ns (ns.map (·.m))
  eq : ∀ P ∈ ps, P.E = P.D ∧ Good P.D n k
  pl : ps.length ≤ n
  nl : ns.length ≤ 4 * n
  nx : ∀ x ∈ ns, x.n ≤ n + 3
  old : ∀ b, b < B → c b = .O
  hB : B ≤ w.heap.size
def Rest (B : Nat) (w : World) (s n k : Nat) : Prop := ∃ lv nv mv c ps ns, St B w s lv nv mv c ps ns n k
theorem St.rest {B : Nat} {w : World} {s : Nat} {lv nv mv : Value} {c : Nat → Tag} {ps : List Pr} {ns : List Nm} {n k : Nat} (h : St B w s lv nv mv c ps ns n k) : Rest B w s n k := ⟨_, _, _, _, _, _, h⟩
theorem St.mono {B : Nat} {w : World} {s : Nat} {lv nv mv : Value} {c : Nat → Tag} {ps : List Pr} {ns : List Nm} {n k n' k' : Nat} (h : St B w s lv nv mv c ps ns n k) (hn : n ≤ n') (hk : k ≤ k') : St B w s lv nv mv c ps ns n' k' :=
  ⟨h.sh, fun P hP => ⟨(h.eq P hP).1, (h.eq P hP).2.mono hn hk⟩, by have := h.pl; omega, by have := h.nl; omega, fun x hx => by have := h.nx x hx; omega, h.old, h.hB⟩
theorem St.keep {B : Nat} {w w' : World} {s : Nat} {lv nv mv : Value} {c : Nat → Tag} {ps : List Pr} {ns : List Nm} {n k : Nat} (h : St B w s lv nv mv c ps ns n k) (ht : Tch [] w w') (t : Tag) : St B w' s lv nv mv (paint c w.heap.size t) ps ns n k :=
  ⟨h.sh.keep ht t, h.eq, h.pl, h.nl, h.nx, fun b hb => (paint_old (by have := h.hB; omega)).trans (h.old b hb), Nat.le_trans h.hB ht.size⟩
theorem Rest.drewN {B : Nat} {w : World} {s n k : Nat} (h : Rest B w s n k) (m : Nat) : Rest B (w.drewN m) s n k := by
  obtain ⟨lv, nv, mv, c, ps, ns, h⟩ := h
  exact (h.keep ((Tch.refl [] _).drewN m) .O).rest
theorem tch_below {B : Nat} {w w' : World} {c : Nat → Tag} {S : List Nat} (ht : Tch S w w') (hB : B ≤ w.heap.size) (old : ∀ b, b < B → c b = .O) (hS : ∀ b ∈ S, c b ≠ .O) : Below B w w' :=
  ht.below (fun x hx => by
    by_cases h : x < B
    · exact absurd (old x h) (hS x hx)
    · omega) hB
theorem left_of {w w' : World} {t te : TypeId} {p : Nat} {v : Value} {D : DK} {L : Int} {S : Bool} (h : Dsk w t te p v D) (hb : DBlk w' p t v L S) (ht : Tch [p] w w') : Left w w' t te p v ⟨D.fs, L, S⟩ :=
  ⟨v, ⟨hb, h.own.tch ht (fun b hb hm => h.sep (by simp at hm; rw [hb, hm])), h.sep⟩, ht.sub (fun x hx _ => by simp at hx; simp [bl, hx]), fun b hb => .inl hb⟩

/-- A CALL ON ONE DISK OF A PAIR .. -/
theorem St.opD {B : Nat} {w w1 : World} {s : Nat} {lv nv mv : Value} {c : Nat → Tag} {ps : List Pr} {ns : List Nm} {n k : Nat} (h : St B w s lv nv mv c ps ns n k) {i : Nat} {P : Pr} (hi : ps[i]? = some P) {D' : DK} (hl : Left w w1 76 81 P.p P.v D') :
    ∃ v', Shelf w1 s lv nv mv (paint c w.heap.size (.D i)) (ps.set i { P with v := v', D := D' }) ns (ns.map (·.m)) ∧ Below B w w1 ∧ (∀ b, b < w.heap.size → c b = .O → w1.heap[b]? = w.heap[b]?) ∧ Dsk w1 79 83 P.q P.u P.D := by
  obtain ⟨v', hs, ht⟩ := h.sh.opD i P hi D' hl
  have hne : ∀ b ∈ bl P.p P.v, c b ≠ .O := fun b hb => by rw [(h.sh.d i P hi).2 b hb]; simp
  refine ⟨v', hs, tch_below ht h.hB h.old hne, fun b hb hO => ht.block b hb (fun hm => hne b hm hO), ?_⟩
  have := (hs.r i { P with v := v', D := D' } (by rw [List.getElem?_set_self (List.getElem?_eq_some_iff.1 hi).1])).1
  rw [show ({ P with v := v', D := D' } : Pr).E = P.D from (h.eq P (List.mem_of_getElem? hi)).1] at this
  exact this
/-- .. AND ON THE OTHER. -/
theorem St.opR {B : Nat} {w w1 w2 : World} {s : Nat} {lv nv mv : Value} {c : Nat → Tag} {ps : List Pr} {ns : List Nm} {n k n' k' : Nat} (h : St B w s lv nv mv c ps ns n k) {i : Nat} {P : Pr} (hi : ps[i]? = some P) {D' : DK} {v' : Value}
    (hs : Shelf w1 s lv nv mv (paint c w.heap.size (.D i)) (ps.set i { P with v := v', D := D' }) ns (ns.map (·.m))) (hb : Below B w w1) (hl : Left w1 w2 79 83 P.q P.u D') (hn : n ≤ n') (hk : k ≤ k') (hg : Good D' n' k') :
    Rest B w2 s n' k' ∧ Below B w1 w2 ∧ (∀ b, b < w.heap.size → c b = .O → w2.heap[b]? = w1.heap[b]?) := by
  have hi1 : (ps.set i { P with v := v', D := D' })[i]? = some { P with v := v', D := D' } := List.getElem?_set_self (List.getElem?_eq_some_iff.1 hi).1
  obtain ⟨u', hs2, ht⟩ := hs.opR i { P with v := v', D := D' } hi1 D' hl
  have hsz := hb.size
  have hold : ∀ b, b < B → paint c w.heap.size (.D i) b = .O := fun b hb => (paint_old (by have := h.hB; omega)).trans (h.old b hb)
  have hne : ∀ b ∈ bl P.q P.u, paint c w.heap.size (.D i) b ≠ .O := fun b hb => by rw [(hs.r i _ hi1).2 b hb]; simp
  have hB1 : B ≤ w1.heap.size := Nat.le_trans h.hB hsz
  refine ⟨St.rest (lv := lv) (nv := nv) (mv := mv) (ns := ns) (c := paint (paint c w.heap.size (.D i)) w1.heap.size (.R i)) (ps := (ps.set i { P with v := v', D := D' }).set i { p := P.p, v := v', D := D', q := P.q, u := u', E := D' }) ⟨hs2, ?_, ?_, ?_, ?_, ?_, ?_⟩, tch_below ht hB1 hold hne, fun b hb hO => ht.block b (by omega) (fun hm => hne b hm ((paint_old hb).trans hO))⟩
  · intro Q hQ
    obtain ⟨j, hj⟩ := List.getElem?_of_mem hQ
    rcases set_get hi1 hj with ⟨rfl, rfl⟩ | ⟨hne, hj⟩
    · exact ⟨rfl, hg⟩
    · rcases set_get hi hj with ⟨e, _⟩ | ⟨_, hj⟩
      · exact absurd e hne
      · exact ⟨(h.eq Q (List.mem_of_getElem? hj)).1, (h.eq Q (List.mem_of_getElem? hj)).2.mono hn hk⟩
  · rw [List.length_set, List.length_set]; have := h.pl; omega
  · have := h.nl; omega
  · intro x hx; have := h.nx x hx; omega
  · intro b hbb
    rw [paint_old (by omega)]
    exact hold b hbb
  · exact Nat.le_trans hB1 ht.size

set_option maxRecDepth 10000 in
set_option maxHeartbeats 2000000 in
theorem told_9 (B : Nat) (w : World) (s : Nat) (lv nv mv : Value) (c : Nat → Tag) (ps : List Pr) (ns : List Nm) (n k : Nat) (h : St B w s lv nv mv c ps ns n k) (i : Nat) (P : Pr) (hi : ps[i]? = some P) (On A : Int) (N S : ByteArray) (hn : n ≤ 1048576) (hA : -9223372036854775808 ≤ A ∧ A ≤ 9223372036854775807) :
    Calls Tryd.prog 30 #[.pointer (some ⟨s, 0, none⟩), .agg (pcs P.p P.q), .agg (acs 9 On A N S)] w fun e w' => e = .returned (.bool true) ∧ Rest B w' s (n + 1) k ∧ Below B w w' := by
  obtain ⟨heq, hgood⟩ := h.eq P (List.mem_of_getElem? hi)
  have hT : Tch [] w ((w.alloc (.cells (pcs P.p P.q) 56)).alloc (.cells (acs 9 On A N S) 33)) := ((Tch.refl [] w).alloc _).alloc _
  have hBw : Below B w ((w.alloc (.cells (pcs P.p P.q) 56)).alloc (.cells (acs 9 On A N S) 33)) := hT.below (fun x hx => by cases hx) h.hB
  have hW := h.keep hT .O
  have hPb : ((w.alloc (.cells (pcs P.p P.q) 56)).alloc (.cells (acs 9 On A N S) 33)).heap[w.heap.size]? = some (.cells (pcs P.p P.q) 56 (0, 0)) := heap_alloc2_old _ _ _
  have hOb : ((w.alloc (.cells (pcs P.p P.q) 56)).alloc (.cells (acs 9 On A N S) 33)).heap[w.heap.size + 1]? = some (.cells (acs 9 On A N S) 33 (0, 0)) := heap_alloc2_new _ _ _
  have hcP : paint c w.heap.size .O w.heap.size = .O := paint_new (Nat.le_refl _)
  have hcO : paint c w.heap.size .O (w.heap.size + 1) = .O := paint_new (by omega)
  have hzW : ((w.alloc (.cells (pcs P.p P.q) 56)).alloc (.cells (acs 9 On A N S) 33)).heap.size = w.heap.size + 2 := by simp
  obtain ⟨hd, _⟩ := hW.sh.d i P hi
  obtain ⟨hr, _⟩ := hW.sh.r i P hi
  rw [heq] at hr
  generalize paint c w.heap.size .O = c1 at hW hcP hcO
  have HW : Hid (St B ((w.alloc (.cells (pcs P.p P.q) 56)).alloc (.cells (acs 9 On A N S) 33)) s lv nv mv c1 ps ns n k) := hW
  clear h hT hW
  unfold pcs acs at *
  have HD : Hid (DBlk ((w.alloc (.cells #[.pointer (some ⟨P.p, 0, none⟩), .pointer (some ⟨P.q, 0, none⟩)] 56)).alloc (.cells #[.int .i64 9, .int .i64 On, .int .i64 A, .string N, .string S] 33)) P.p 76 P.v P.D.left P.D.st) := hd.blk
  have HR : Hid (DBlk ((w.alloc (.cells #[.pointer (some ⟨P.p, 0, none⟩), .pointer (some ⟨P.q, 0, none⟩)] 56)).alloc (.cells #[.int .i64 9, .int .i64 On, .int .i64 A, .string N, .string S] 33)) P.q 79 P.u P.D.left P.D.st) := hr.blk
  have HF : Hid (Below B w ((w.alloc (.cells #[.pointer (some ⟨P.p, 0, none⟩), .pointer (some ⟨P.q, 0, none⟩)] 56)).alloc (.cells #[.int .i64 9, .int .i64 On, .int .i64 A, .string N, .string S] 33))) := hBw
  clear hd hr hBw hPb hOb hcP hcO hzW
  go_enter Tryd.func30, Tryd.ntmps30
  go_wp2_with fail
  refine (stopped_d P.p P.v P.D.left P.D.st _ HD.out).mono ?_
  rintro e w1 ⟨rfl, rfl⟩
  go_wp2_with fail
  refine (stopped_r P.q P.u P.D.left P.D.st _ HR.out).mono ?_
  rintro e w1 ⟨rfl, rfl⟩
  generalize (P.D.st || P.D.left == 0) = b
  go_wp2_with fail
  go_ret
  exact ⟨ret_b (by simp), (HW.out.mono (by omega) (Nat.le_refl _)).rest, HF.out⟩
set_option maxRecDepth 10000 in
set_option maxHeartbeats 2000000 in
theorem told_6 (B : Nat) (w : World) (s : Nat) (lv nv mv : Value) (c : Nat → Tag) (ps : List Pr) (ns : List Nm) (n k : Nat) (h : St B w s lv nv mv c ps ns n k) (i : Nat) (P : Pr) (hi : ps[i]? = some P) (On A : Int) (N S : ByteArray) (hn : n ≤ 1048576) (hA : -9223372036854775808 ≤ A ∧ A ≤ 9223372036854775807) :
    Calls Tryd.prog 30 #[.pointer (some ⟨s, 0, none⟩), .agg (pcs P.p P.q), .agg (acs 6 On A N S)] w fun e w' => e = .returned (.bool true) ∧ Rest B w' s (n + 1) k ∧ Below B w w' := by
  obtain ⟨heq, hgood⟩ := h.eq P (List.mem_of_getElem? hi)
  have hT : Tch [] w ((w.alloc (.cells (pcs P.p P.q) 56)).alloc (.cells (acs 6 On A N S) 33)) := ((Tch.refl [] w).alloc _).alloc _
  have hBw : Below B w ((w.alloc (.cells (pcs P.p P.q) 56)).alloc (.cells (acs 6 On A N S) 33)) := hT.below (fun x hx => by cases hx) h.hB
  have hW := h.keep hT .O
  have hPb : ((w.alloc (.cells (pcs P.p P.q) 56)).alloc (.cells (acs 6 On A N S) 33)).heap[w.heap.size]? = some (.cells (pcs P.p P.q) 56 (0, 0)) := heap_alloc2_old _ _ _
  have hOb : ((w.alloc (.cells (pcs P.p P.q) 56)).alloc (.cells (acs 6 On A N S) 33)).heap[w.heap.size + 1]? = some (.cells (acs 6 On A N S) 33 (0, 0)) := heap_alloc2_new _ _ _
  have hcP : paint c w.heap.size .O w.heap.size = .O := paint_new (Nat.le_refl _)
  have hcO : paint c w.heap.size .O (w.heap.size + 1) = .O := paint_new (by omega)
  have hzW : ((w.alloc (.cells (pcs P.p P.q) 56)).alloc (.cells (acs 6 On A N S) 33)).heap.size = w.heap.size + 2 := by simp
  obtain ⟨hd, _⟩ := hW.sh.d i P hi
  obtain ⟨hr, _⟩ := hW.sh.r i P hi
  rw [heq] at hr
  generalize paint c w.heap.size .O = c1 at hW hcP hcO
  have HW : Hid (St B ((w.alloc (.cells (pcs P.p P.q) 56)).alloc (.cells (acs 6 On A N S) 33)) s lv nv mv c1 ps ns n k) := hW
  clear h hT hW
  unfold pcs acs at *
  have HD : Hid (Dsk ((w.alloc (.cells #[.pointer (some ⟨P.p, 0, none⟩), .pointer (some ⟨P.q, 0, none⟩)] 56)).alloc (.cells #[.int .i64 6, .int .i64 On, .int .i64 A, .string N, .string S] 33)) 76 81 P.p P.v P.D) := hd
  have HR : Hid (Dsk ((w.alloc (.cells #[.pointer (some ⟨P.p, 0, none⟩), .pointer (some ⟨P.q, 0, none⟩)] 56)).alloc (.cells #[.int .i64 6, .int .i64 On, .int .i64 A, .string N, .string S] 33)) 79 83 P.q P.u P.D) := hr
  have HF : Hid (Below B w ((w.alloc (.cells #[.pointer (some ⟨P.p, 0, none⟩), .pointer (some ⟨P.q, 0, none⟩)] 56)).alloc (.cells #[.int .i64 6, .int .i64 On, .int .i64 A, .string N, .string S] 33))) := hBw
  have hfs := hgood.fs
  clear hd hr hBw hPb hOb hcP hcO hzW
  go_enter Tryd.func30, Tryd.ntmps30
  go_wp2_with fail
  refine (read_d P.p P.v P.D.left P.D.st P.D.fs N _ HD.out.blk HD.out.own (by omega)).mono ?_
  rintro e w1 ⟨rfl, rfl⟩
  go_wp2_with fail
  refine (has_d P.p P.v P.D.left P.D.st P.D.fs N _ HD.out.blk HD.out.own (by omega)).mono ?_
  rintro e w1 ⟨rfl, rfl⟩
  go_wp2_with fail
  refine (read_r P.q P.u P.D.left P.D.st P.D.fs N _ HR.out.blk HR.out.own (by omega)).mono ?_
  rintro e w1 ⟨rfl, rfl⟩
  generalize rd N P.D.fs = T
  generalize decide (0 ≤ fnd N P.D.fs) = b
  have hss : (T.toList == T.toList) = true := by simp
  go_wp2_with fail
  go_ret
  exact ⟨ret_b (by simp), (HW.out.mono (by omega) (Nat.le_refl _)).rest, HF.out⟩
set_option maxRecDepth 10000 in
set_option maxHeartbeats 2000000 in
theorem told_8 (B : Nat) (w : World) (s : Nat) (lv nv mv : Value) (c : Nat → Tag) (ps : List Pr) (ns : List Nm) (n k : Nat) (h : St B w s lv nv mv c ps ns n k) (i : Nat) (P : Pr) (hi : ps[i]? = some P) (On A : Int) (N S : ByteArray) (hn : n ≤ 1048576) (hA : -9223372036854775808 ≤ A ∧ A ≤ 9223372036854775807) :
    Calls Tryd.prog 30 #[.pointer (some ⟨s, 0, none⟩), .agg (pcs P.p P.q), .agg (acs 8 On A N S)] w fun e w' => e = .returned (.bool true) ∧ Rest B w' s (n + 1) k ∧ Below B w w' := by
  obtain ⟨heq, hgood⟩ := h.eq P (List.mem_of_getElem? hi)
  have hT : Tch [] w ((w.alloc (.cells (pcs P.p P.q) 56)).alloc (.cells (acs 8 On A N S) 33)) := ((Tch.refl [] w).alloc _).alloc _
  have hBw : Below B w ((w.alloc (.cells (pcs P.p P.q) 56)).alloc (.cells (acs 8 On A N S) 33)) := hT.below (fun x hx => by cases hx) h.hB
  have hW := h.keep hT .O
  have hPb : ((w.alloc (.cells (pcs P.p P.q) 56)).alloc (.cells (acs 8 On A N S) 33)).heap[w.heap.size]? = some (.cells (pcs P.p P.q) 56 (0, 0)) := heap_alloc2_old _ _ _
  have hOb : ((w.alloc (.cells (pcs P.p P.q) 56)).alloc (.cells (acs 8 On A N S) 33)).heap[w.heap.size + 1]? = some (.cells (acs 8 On A N S) 33 (0, 0)) := heap_alloc2_new _ _ _
  have hcP : paint c w.heap.size .O w.heap.size = .O := paint_new (Nat.le_refl _)
  have hcO : paint c w.heap.size .O (w.heap.size + 1) = .O := paint_new (by omega)
  have hzW : ((w.alloc (.cells (pcs P.p P.q) 56)).alloc (.cells (acs 8 On A N S) 33)).heap.size = w.heap.size + 2 := by simp
  obtain ⟨hd, _⟩ := hW.sh.d i P hi
  obtain ⟨hr, _⟩ := hW.sh.r i P hi
  rw [heq] at hr
  generalize paint c w.heap.size .O = c1 at hW hcP hcO
  have HW : Hid (St B ((w.alloc (.cells (pcs P.p P.q) 56)).alloc (.cells (acs 8 On A N S) 33)) s lv nv mv c1 ps ns n k) := hW
  clear h hT hW
  unfold pcs acs at *
  have hg8 : Good ⟨P.D.fs, stopL P.D.left P.D.st A, P.D.st⟩ (n + 1) k := by
    refine ⟨?_, ?_, hgood.sz⟩
    · have := hgood.left
      show _ ≤ stopL _ _ _ ∧ stopL _ _ _ ≤ _
      unfold stopL
      split
      · exact this
      · split <;> omega
    · have := hgood.fs
      show P.D.fs.length ≤ _
      omega
  have HG : Hid (Good ⟨P.D.fs, stopL P.D.left P.D.st A, P.D.st⟩ (n + 1) k) := hg8
  have HD : Hid (Dsk ((w.alloc (.cells #[.pointer (some ⟨P.p, 0, none⟩), .pointer (some ⟨P.q, 0, none⟩)] 56)).alloc (.cells #[.int .i64 8, .int .i64 On, .int .i64 A, .string N, .string S] 33)) 76 81 P.p P.v P.D) := hd
  have HF : Hid (Below B w ((w.alloc (.cells #[.pointer (some ⟨P.p, 0, none⟩), .pointer (some ⟨P.q, 0, none⟩)] 56)).alloc (.cells #[.int .i64 8, .int .i64 On, .int .i64 A, .string N, .string S] 33))) := hBw
  have HPO : Hid (((w.alloc (.cells #[.pointer (some ⟨P.p, 0, none⟩), .pointer (some ⟨P.q, 0, none⟩)] 56)).alloc (.cells #[.int .i64 8, .int .i64 On, .int .i64 A, .string N, .string S] 33)).heap[w.heap.size]? = some (.cells #[.pointer (some ⟨P.p, 0, none⟩), .pointer (some ⟨P.q, 0, none⟩)] 56 (0, 0)) ∧ ((w.alloc (.cells #[.pointer (some ⟨P.p, 0, none⟩), .pointer (some ⟨P.q, 0, none⟩)] 56)).alloc (.cells #[.int .i64 8, .int .i64 On, .int .i64 A, .string N, .string S] 33)).heap[w.heap.size + 1]? = some (.cells #[.int .i64 8, .int .i64 On, .int .i64 A, .string N, .string S] 33 (0, 0)) ∧ c1 w.heap.size = .O ∧ c1 (w.heap.size + 1) = .O ∧ ((w.alloc (.cells #[.pointer (some ⟨P.p, 0, none⟩), .pointer (some ⟨P.q, 0, none⟩)] 56)).alloc (.cells #[.int .i64 8, .int .i64 On, .int .i64 A, .string N, .string S] 33)).heap.size = w.heap.size + 2) := ⟨hPb, hOb, hcP, hcO, hzW⟩
  clear hd hr hBw hPb hOb hcP hcO hzW hg8
  go_enter Tryd.func30, Tryd.ntmps30
  go_wp2_with fail
  refine (stop_d P.p P.v P.D.left P.D.st A _ HD.out.blk).mono ?_
  rintro e w1 ⟨rfl, hb1, ht1, _⟩
  obtain ⟨v', hs1, hB1, hk1, hr1⟩ := HW.out.opD hi (left_of HD.out hb1 ht1)
  have hPb1 := (hk1 _ (by rw [HPO.out.2.2.2.2]; omega) HPO.out.2.2.1).trans HPO.out.1
  have hOb1 := (hk1 _ (by rw [HPO.out.2.2.2.2]; omega) HPO.out.2.2.2.1).trans HPO.out.2.1
  have cp : w1.cell? ⟨w.heap.size, 1, none⟩ = some (.pointer (some ⟨P.q, 0, none⟩)) := (cell_of_row _ _ 1 _ 56 (0, 0) hPb1).trans rfl
  have co : w1.cell? ⟨w.heap.size + 1, 2, none⟩ = some (.int .i64 A) := (cell_of_row _ _ 2 _ 33 (0, 0) hOb1).trans rfl
  have HS1 : Hid (Shelf w1 s lv nv mv (paint c1 ((w.alloc (.cells #[.pointer (some ⟨P.p, 0, none⟩), .pointer (some ⟨P.q, 0, none⟩)] 56)).alloc (.cells #[.int .i64 8, .int .i64 On, .int .i64 A, .string N, .string S] 33)).heap.size (.D i)) (ps.set i { P with v := v', D := ⟨P.D.fs, stopL P.D.left P.D.st A, P.D.st⟩ }) ns (ns.map (·.m)) ∧ Below B ((w.alloc (.cells #[.pointer (some ⟨P.p, 0, none⟩), .pointer (some ⟨P.q, 0, none⟩)] 56)).alloc (.cells #[.int .i64 8, .int .i64 On, .int .i64 A, .string N, .string S] 33)) w1 ∧ Dsk w1 79 83 P.q P.u P.D) := ⟨hs1, hB1, hr1⟩
  clear hb1 ht1 hs1 hB1 hk1 hr1 hPb1 hOb1
  go_wp2_with fail
  refine (stop_r P.q P.u P.D.left P.D.st A w1 HS1.out.2.2.blk).mono ?_
  rintro e w2 ⟨rfl, hb2, ht2, _⟩
  obtain ⟨hrest, hB2, _⟩ := HW.out.opR hi HS1.out.1 HS1.out.2.1 (left_of HS1.out.2.2 hb2 ht2) (by omega) (Nat.le_refl _) HG.out
  have HFN : Hid (Rest B w2 s (n + 1) k ∧ Below B w w2) := ⟨hrest, (HF.out.trans HS1.out.2.1).trans hB2⟩
  clear hb2 ht2 hrest hB2 cp co
  go_wp2_with fail
  go_ret
  exact ⟨rfl, HFN.out⟩
set_option maxRecDepth 10000 in
set_option maxHeartbeats 2000000 in
theorem told_else (B : Nat) (w : World) (s : Nat) (lv nv mv : Value) (c : Nat → Tag) (ps : List Pr) (ns : List Nm) (n k : Nat) (h : St B w s lv nv mv c ps ns n k) (i : Nat) (P : Pr) (hi : ps[i]? = some P) (K On A : Int) (N S : ByteArray) (h6 : K ≠ 6) (h7 : K ≠ 7) (h8 : K ≠ 8) (h9 : K ≠ 9) (h10 : K ≠ 10) (hn : n ≤ 1048576) (hA : -9223372036854775808 ≤ A ∧ A ≤ 9223372036854775807) :
    Calls Tryd.prog 30 #[.pointer (some ⟨s, 0, none⟩), .agg (pcs P.p P.q), .agg (acs K On A N S)] w fun e w' => e = .returned (.bool true) ∧ Rest B w' s (n + 1) k ∧ Below B w w' := by
  obtain ⟨heq, hgood⟩ := h.eq P (List.mem_of_getElem? hi)
  have hT : Tch [] w ((w.alloc (.cells (pcs P.p P.q) 56)).alloc (.cells (acs K On A N S) 33)) := ((Tch.refl [] w).alloc _).alloc _
  have hBw : Below B w ((w.alloc (.cells (pcs P.p P.q) 56)).alloc (.cells (acs K On A N S) 33)) := hT.below (fun x hx => by cases hx) h.hB
  have hW := h.keep hT .O
  have hPb : ((w.alloc (.cells (pcs P.p P.q) 56)).alloc (.cells (acs K On A N S) 33)).heap[w.heap.size]? = some (.cells (pcs P.p P.q) 56 (0, 0)) := heap_alloc2_old _ _ _
  have hOb : ((w.alloc (.cells (pcs P.p P.q) 56)).alloc (.cells (acs K On A N S) 33)).heap[w.heap.size + 1]? = some (.cells (acs K On A N S) 33 (0, 0)) := heap_alloc2_new _ _ _
  have hcP : paint c w.heap.size .O w.heap.size = .O := paint_new (Nat.le_refl _)
  have hcO : paint c w.heap.size .O (w.heap.size + 1) = .O := paint_new (by omega)
  have hzW : ((w.alloc (.cells (pcs P.p P.q) 56)).alloc (.cells (acs K On A N S) 33)).heap.size = w.heap.size + 2 := by simp
  obtain ⟨hd, _⟩ := hW.sh.d i P hi
  obtain ⟨hr, _⟩ := hW.sh.r i P hi
  rw [heq] at hr
  generalize paint c w.heap.size .O = c1 at hW hcP hcO
  have HW : Hid (St B ((w.alloc (.cells (pcs P.p P.q) 56)).alloc (.cells (acs K On A N S) 33)) s lv nv mv c1 ps ns n k) := hW
  clear h hT hW
  unfold pcs acs at *
  have HF : Hid (Below B w ((w.alloc (.cells #[.pointer (some ⟨P.p, 0, none⟩), .pointer (some ⟨P.q, 0, none⟩)] 56)).alloc (.cells #[.int .i64 K, .int .i64 On, .int .i64 A, .string N, .string S] 33))) := hBw
  clear hd hr hBw hPb hOb hcP hcO hzW
  have e6 : (K == 6) = false := by simpa using h6
  have e7 : (K == 7) = false := by simpa using h7
  have e8 : (K == 8) = false := by simpa using h8
  have e9 : (K == 9) = false := by simpa using h9
  have e10 : (K == 10) = false := by simpa using h10
  go_enter Tryd.func30, Tryd.ntmps30
  go_wp2_with fail
  go_ret
  exact ⟨rfl, (HW.out.mono (by omega) (Nat.le_refl _)).rest, HF.out⟩
end Go.Proofs.YtbdobaapadlcjaaDoor.Dk
