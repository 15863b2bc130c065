import Derived.Test.YtbdobaapadlcjaaGreatDoorOx11
import Derived.Test.YtbdobaapadlcjaaGreatDoorOx14
import Derived.BigQuiet
namespace Go.Proofs.YtbdobaapadlcjaaGreatDoor
open Go.RowKit
set_option linter.unusedVariables false
set_option linter.unusedSimpArgs false
structure Fr (B : Nat) (T : List TypeId) (w w' : World) : Prop where
  os : w'.os = w.os
  tape : w'.tape = w.tape
  output : w'.output = w.output
  size : w.heap.size ≤ w'.heap.size
  low : ∀ k : Nat, k < B → w'.heap[k]? = w.heap[k]?
  keep : ∀ (k : Nat) (C : Array Value) (t : TypeId), w.heap[k]? = some (.cells C t (0, 0)) → t ∉ T → w'.heap[k]? = some (.cells C t (0, 0))
theorem Fr.refl (B : Nat) (T : List TypeId) (w : World) : Fr B T w w := ⟨rfl, rfl, rfl, Nat.le_refl _, fun _ _ => rfl, fun _ _ _ h _ => h⟩
theorem Fr.trans {B : Nat} {T : List TypeId} {a b c : World} (h : Fr B T a b) (k : Fr B T b c) : Fr B T a c :=
  ⟨k.os.trans h.os, k.tape.trans h.tape, k.output.trans h.output, Nat.le_trans h.size k.size, fun x hx => (k.low x hx).trans (h.low x hx), fun x C t hx ht => k.keep x C t (h.keep x C t hx ht) ht⟩
theorem Fr.of_tch {B : Nat} {T : List TypeId} {S : List Nat} {w w' : World} (h : Tch S w w') (hB : B ≤ w.heap.size) (hlow : ∀ k ∈ S, B ≤ k) (hty : ∀ k ∈ S, ∀ (C : Array Value) (t : TypeId), w.heap[k]? = some (.cells C t (0, 0)) → t ∈ T) : Fr B T w w' :=
  ⟨h.os, h.tape, h.output, h.size, fun k hk => h.block k (by omega) (fun hm => by have := hlow k hm; omega), fun k C t hk ht => (h.block k (lt_of_block hk) (fun hm => ht (hty k hm C t hk))).trans hk⟩
theorem Fr.of_nil {B : Nat} (T : List TypeId) {w w' : World} (h : Tch [] w w') (hB : B ≤ w.heap.size) : Fr B T w w' := Fr.of_tch h hB (by simp) (by simp)
theorem Fr.below {B : Nat} {T : List TypeId} {w w' : World} (h : Fr B T w w') : Below B w w' := ⟨h.os, h.tape, h.output, h.size, fun k hk => h.low k hk⟩
theorem Fr.own {B : Nat} {T : List TypeId} {w w' : World} (h : Fr B T w w') {base size n : Nat} {t : TypeId} {v : Value} {xs : List Value} (ho : w.ownsRow base t size v n xs) (ht : t ∉ T) : w'.ownsRow base t size v n xs := by
  refine ⟨ho.1, ?_⟩
  rcases ho.2 with hn | ⟨g, cap, cur, rfl, hb, hg, rest⟩
  · exact .inl hn
  · exact .inr ⟨g, cap, cur, rfl, hb, h.keep g cur t hg ht, rest⟩
abbrev TJ : List TypeId := [143, 110, 116]
theorem Jr.fr {B : Nat} {w w' : World} {j d : Nat} {room : Int} {v : Value} {fs : List Dk.DF} {n k : Nat} (h : Jr w j d room v fs n k) (hB : B ≤ w.heap.size) (hlo : ∀ b ∈ jbl j d v, B ≤ b) (ht : Tch (jbl j d v) w w') : Fr B TJ w w' :=
  Fr.of_tch ht hB hlo (fun b hb C t hC => by
    by_cases h1 : 143 = t
    · rw [← h1]; decide
    · by_cases h2 : 110 = t
      · rw [← h2]; decide
      · by_cases h3 : 116 = t
        · rw [← h3]; decide
        · exact absurd hb (h.apart hC h1 h2 h3))
structure Jp (f : Bool) (B m : Nat) (w : World) (x st j d : Nat) (room : Int) (v : Value) (fs : List Dk.DF) (n k : Nat) : Prop where
  hx : w.heap[x]? = some (.cells #[.pointer (some ⟨st, 0, none⟩), .pointer (some ⟨j, 0, none⟩)] 99 (0, 0))
  jr : Jr w j d room v fs n k
  lo : ∀ b ∈ jbl j d v, B ≤ b
  ro : if f = true then fs = [] ∧ room = 0 else (400 * m : Int) ≤ room ∧ room ≤ 16384
  bd : n + 3 * m ≤ 100 ∧ k + 4000 * m ≤ 100000
def Jn (f : Bool) (B m : Nat) (w : World) (x st : Nat) : Prop := ∃ j d room v fs n k, Jp f B m w x st j d room v fs n k
structure QV where
  m : Value
  r : Value
  d : Value
  a : Value
structure QM where
  c : Wp.Rq
  next : Nat
  ms : List Ms
  rs : List ByteArray
  ds : List Dd
  ats : List At
structure QR (w : World) (qb : Nat) (V : QV) (Q : QM) : Prop where
  blk : Qb w qb Q.c (Q.next : Int) V.m V.r V.d V.a
  m : w.ownsRow 0 226 5 V.m Q.ms.length (Q.ms.flatMap Ms.row)
  r : w.ownsRow 0 9 1 V.r Q.rs.length (Q.rs.map Value.string)
  d : w.ownsRow 0 230 3 V.d Q.ds.length (Q.ds.flatMap Dd.row)
  a : w.ownsRow 0 234 3 V.a Q.ats.length (Q.ats.flatMap At.row)
def qbl (qb : Nat) (V : QV) : List Nat := qb :: (bl V.m ++ (bl V.r ++ (bl V.d ++ bl V.a)))
theorem mem_qbl {qb : Nat} {V : QV} {b : Nat} : b ∈ qbl qb V ↔ b = qb ∨ V.m.ownBlock = some b ∨ V.r.ownBlock = some b ∨ V.d.ownBlock = some b ∨ V.a.ownBlock = some b := by
  simp only [qbl, List.mem_cons, List.mem_append, mem_bl]
def QL (w w' : World) (qb : Nat) (V : QV) (Q : QM) : Prop := ∃ V', QR w' qb V' Q ∧ Tch (qbl qb V) w w' ∧ ∀ b ∈ qbl qb V', b ∈ qbl qb V ∨ w.heap.size ≤ b
theorem QR.tch {w w' : World} {qb : Nat} {V : QV} {Q : QM} (h : QR w qb V Q) {S : List Nat} (ht : Tch S w w') (hS : ∀ b ∈ qbl qb V, b ∉ S) : QR w' qb V Q :=
  ⟨(ht.block _ h.blk.lt (hS _ (by simp [qbl]))).trans h.blk, own_tch h.m ht (fun b hb => hS b (mem_qbl.2 (.inr (.inl hb)))), own_tch h.r ht (fun b hb => hS b (mem_qbl.2 (.inr (.inr (.inl hb))))), own_tch h.d ht (fun b hb => hS b (mem_qbl.2 (.inr (.inr (.inr (.inl hb)))))), own_tch h.a ht (fun b hb => hS b (mem_qbl.2 (.inr (.inr (.inr (.inr hb))))))⟩
theorem QR.lt {w : World} {qb : Nat} {V : QV} {Q : QM} (h : QR w qb V Q) : ∀ b ∈ qbl qb V, b < w.heap.size := fun b hb => by
  rcases mem_qbl.1 hb with e | e | e | e | e
  · rw [e]; exact h.blk.lt
  · exact own_lt h.m e
  · exact own_lt h.r e
  · exact own_lt h.d e
  · exact own_lt h.a e
abbrev TQ : List TypeId := [191, 226, 9, 230, 234]
theorem QR.ty {w : World} {qb : Nat} {V : QV} {Q : QM} (h : QR w qb V Q) : ∀ b ∈ qbl qb V, ∀ (C : Array Value) (t : TypeId), w.heap[b]? = some (.cells C t (0, 0)) → t ∈ TQ := fun b hb C t hC => by
  by_cases e1 : 191 = t
  · rw [← e1]; decide
  by_cases e2 : 226 = t
  · rw [← e2]; decide
  by_cases e3 : 9 = t
  · rw [← e3]; decide
  by_cases e4 : 230 = t
  · rw [← e4]; decide
  by_cases e5 : 234 = t
  · rw [← e5]; decide
  exfalso
  rcases mem_qbl.1 hb with e | e | e | e | e
  · have h0 : w.heap[qb]? = _ := h.blk
    rw [← e, hC] at h0
    simp at h0
    exact e1 h0.2.symm
  · exact own_ne h.m hC e2 e
  · exact own_ne h.r hC e3 e
  · exact own_ne h.d hC e4 e
  · exact own_ne h.a hC e5 e
theorem QR.keep {B : Nat} {T : List TypeId} {w w' : World} {qb : Nat} {V : QV} {Q : QM} (h : QR w qb V Q) (hf : Fr B T w w') (hT : ∀ t ∈ TQ, t ∉ T) : QR w' qb V Q :=
  ⟨hf.keep _ _ _ h.blk (hT _ (by decide)), hf.own h.m (hT _ (by decide)), hf.own h.r (hT _ (by decide)), hf.own h.d (hT _ (by decide)), hf.own h.a (hT _ (by decide))⟩
def sendQ (Q : QM) (r : Wp.Rq) (now : Int) : QM :=
  { Q with next := Q.next + 1, ms := Q.ms ++ [⟨(Q.next : Nat), r.grp, r.bod, 0, 0⟩], rs := if idxL (isG r.grp) Q.ms < 0 then Q.rs ++ [r.grp] else Q.rs, ds := if 0 < Q.c.win then Q.ds ++ [⟨didS r, (Q.next : Nat), now + Q.c.win⟩] else Q.ds }
theorem rs_len (b : Prop) [Decidable b] (l : List ByteArray) (g : ByteArray) : (if b then l ++ [g] else l).length = if b then l.length + 1 else l.length := by split <;> simp
theorem rs_map (b : Prop) [Decidable b] (l : List ByteArray) (g : ByteArray) : (if b then l ++ [g] else l).map Value.string = if b then l.map Value.string ++ [.string g] else l.map Value.string := by split <;> simp
theorem sent_q (Q : QM) (V : QV) (r : Wp.Rq) (y : Sl) (qb gq gi gn gr : Nat) (now : Int) (w : World) (h : QR w qb V Q) (hnm : Q.ms.length ≤ 1000) (hnr : Q.rs.length ≤ 1000) (hnd : Q.ds.length ≤ 1000) (hk : Q.next ≤ 200) (hwin : 0 ≤ Q.c.win ∧ Q.c.win ≤ 1001) (hnow : 0 ≤ now ∧ now ≤ 60000)
    (hgq : w.heap[gq]? = some (.cells #[.pointer (some ⟨qb, 0, none⟩)] 152 (0, 0))) (hgi : w.heap[gi]? = some (.cells #[.string (didS r)] 9 (0, 0))) (hgn : w.heap[gn]? = some (.cells #[.int .i64 now] 3 (0, 0))) (hgr : w.heap[gr]? = some (.cells (cellsOf r y.v) 27 (0, 0))) :
    Calls Tryz.prog 218 #[.pointer (some ⟨gq, 0, none⟩), .pointer (some ⟨gi, 0, none⟩), .pointer (some ⟨gn, 0, none⟩), .pointer (some ⟨gr, 0, none⟩)] w fun e w' => e = .returned (.tuple #[]) ∧ QL w w' qb V (sendQ Q r now) := by
  have ha : ∀ (S : List Nat) (w' : World), (∀ b ∈ S, b = qb ∨ V.d.ownBlock = some b ∨ V.m.ownBlock = some b ∨ V.r.ownBlock = some b) → Tch S w w' → w'.ownsRow 0 234 3 V.a Q.ats.length (Q.ats.flatMap At.row) := fun S w' hS ht => own_tch h.a ht (fun b hb hm => by
    obtain ⟨C, hC⟩ : ∃ C, w.heap[b]? = some (.cells C 234 (0, 0)) := by
      rcases h.a.2 with ⟨h0, _⟩ | ⟨g', cap', cur', h0, _, hg', _⟩
      · rw [h0] at hb; simp [Value.ownBlock] at hb
      · rw [h0] at hb
        simp only [Value.ownBlock, Option.some.injEq] at hb
        subst hb
        exact ⟨_, hg'⟩
    rcases hS b hm with e | e | e | e
    · have h0 : w.heap[qb]? = _ := h.blk
      rw [← e, hC] at h0
      simp at h0
    · exact own_ne h.d hC (by decide) e
    · exact own_ne h.m hC (by decide) e
    · exact own_ne h.r hC (by decide) e)
  by_cases hw : 0 < Q.c.win
  · refine sentg_walk (fun w' => QL w w' qb V (sendQ Q r now)) Q.c r y (didS r) qb Q.next Q.rs.length Q.ds.length gq gi gn gr now V.d V.m V.r V.a Q.ms (Q.rs.map Value.string) (Q.ds.flatMap Dd.row) w h.blk h.m h.r h.d hnm hnd hnr hk ⟨hw, hwin.2⟩ hnow hgq hgi hgn hgr ?_
    intro w' ms' rs' ds' hq hm hr hd hN1 hN2 hj ht
    refine ⟨⟨ms', rs', ds', V.a⟩, ⟨hq, ?_, ?_, ?_, ?_⟩, ht.sub (fun x hx _ => ?_), fun b hb => ?_⟩
    · simpa [sendQ, Ms.row] using hm
    · show w'.ownsRow 0 9 1 rs' (sendQ Q r now).rs.length ((sendQ Q r now).rs.map Value.string)
      simp only [sendQ, rs_len, rs_map]
      exact hr
    · simpa [sendQ, hw, Dd.row, ddV] using hd
    · exact ha _ w' (fun b hb => by
        rcases List.mem_cons.1 hb with e | e
        · exact .inl e
        · rcases List.mem_append.1 e with e | e
          · exact .inr (.inl (mem_bl.1 e))
          · rcases List.mem_append.1 e with e | e
            · exact .inr (.inr (.inl (mem_bl.1 e)))
            · exact .inr (.inr (.inr (mem_bl.1 e)))) ht
    · rcases List.mem_cons.1 hx with e | e
      · exact mem_qbl.2 (.inl e)
      · rcases List.mem_append.1 e with e | e
        · exact mem_qbl.2 (.inr (.inr (.inr (.inl (mem_bl.1 e)))))
        · rcases List.mem_append.1 e with e | e
          · exact mem_qbl.2 (.inr (.inl (mem_bl.1 e)))
          · exact mem_qbl.2 (.inr (.inr (.inl (mem_bl.1 e))))
    · rcases mem_qbl.1 hb with e | e | e | e | e
      · exact .inl (mem_qbl.2 (.inl e))
      · exact (hN1 b e).imp (fun h => mem_qbl.2 (.inr (.inl h))) id
      · exact (hN2 b e).imp (fun h => mem_qbl.2 (.inr (.inr (.inl h)))) id
      · exact (hj b e).imp (fun h => mem_qbl.2 (.inr (.inr (.inr (.inl h))))) id
      · exact .inl (mem_qbl.2 (.inr (.inr (.inr (.inr e)))))
  · have hw0 : Q.c.win = 0 := by omega
    refine sentg_now (fun w' => QL w w' qb V (sendQ Q r now)) Q.c r y qb Q.next Q.rs.length gq gi gn gr V.d V.m V.r V.a Q.ms (Q.rs.map Value.string) w h.blk h.m h.r hnm hnr hk hw0 hgq hgr ?_
    intro w' ms' rs' hq hm hr hN1 hN2 ht
    have hS : ∀ b ∈ (qb :: (bl V.m ++ bl V.r)), b = qb ∨ V.d.ownBlock = some b ∨ V.m.ownBlock = some b ∨ V.r.ownBlock = some b := fun b hb => by
      rcases List.mem_cons.1 hb with e | e
      · exact .inl e
      · rcases List.mem_append.1 e with e | e
        · exact .inr (.inr (.inl (mem_bl.1 e)))
        · exact .inr (.inr (.inr (mem_bl.1 e)))
    refine ⟨⟨ms', rs', V.d, V.a⟩, ⟨hq, ?_, ?_, ?_, ha _ w' hS ht⟩, ht.sub (fun x hx _ => ?_), fun b hb => ?_⟩
    · simpa [sendQ, Ms.row] using hm
    · show w'.ownsRow 0 9 1 rs' (sendQ Q r now).rs.length ((sendQ Q r now).rs.map Value.string)
      simp only [sendQ, rs_len, rs_map]
      exact hr
    · have hd' : w'.ownsRow 0 230 3 V.d Q.ds.length (Q.ds.flatMap Dd.row) := own_tch h.d ht (fun b hb hm => by
        obtain ⟨C, hC⟩ : ∃ C, w.heap[b]? = some (.cells C 230 (0, 0)) := by
          rcases h.d.2 with ⟨h0, _⟩ | ⟨g', cap', cur', h0, _, hg', _⟩
          · rw [h0] at hb; simp [Value.ownBlock] at hb
          · rw [h0] at hb
            simp only [Value.ownBlock, Option.some.injEq] at hb
            subst hb
            exact ⟨_, hg'⟩
        rcases List.mem_cons.1 hm with e | e
        · have h0 : w.heap[qb]? = _ := h.blk
          rw [← e, hC] at h0
          simp at h0
        · rcases List.mem_append.1 e with e | e
          · exact own_ne h.m hC (by decide) (mem_bl.1 e)
          · exact own_ne h.r hC (by decide) (mem_bl.1 e))
      simpa [sendQ, hw] using hd'
    · rcases List.mem_cons.1 hx with e | e
      · exact mem_qbl.2 (.inl e)
      · rcases List.mem_append.1 e with e | e
        · exact mem_qbl.2 (.inr (.inl (mem_bl.1 e)))
        · exact mem_qbl.2 (.inr (.inr (.inl (mem_bl.1 e))))
    · rcases mem_qbl.1 hb with e | e | e | e | e
      · exact .inl (mem_qbl.2 (.inl e))
      · exact (hN1 b e).imp (fun h => mem_qbl.2 (.inr (.inl h))) id
      · exact (hN2 b e).imp (fun h => mem_qbl.2 (.inr (.inr (.inl h)))) id
      · exact .inl (mem_qbl.2 (.inr (.inr (.inr (.inl e)))))
      · exact .inl (mem_qbl.2 (.inr (.inr (.inr (.inr e)))))
end Go.Proofs.YtbdobaapadlcjaaGreatDoor
namespace Go.Proofs.YtbdobaapadlcjaaGreatDoor
open Go.Shelf Go.RowKit Go.Lib
set_option linter.unusedVariables false
set_option linter.unusedSimpArgs false
abbrev isN (n : Int) (x : Ms) : Bool := x.num == n
theorem idxL_fnd {α : Type} (p : α → Bool) : ∀ (l : List α) (i : Nat), idxL p l = (i : Int) → ∃ h : i < l.length, p l[i] = true ∧ l.find? p = some l[i]
  | [], i, h => by simp only [idxL] at h; omega
  | x :: l, i, h => by
    simp only [idxL] at h
    by_cases hx : p x = true
    · rw [if_pos hx] at h
      have : i = 0 := by omega
      subst this
      exact ⟨by simp, hx, by simp [hx]⟩
    · rw [if_neg hx] at h
      split at h
      · omega
      · obtain ⟨j, rfl⟩ : ∃ j, i = j + 1 := ⟨i - 1, by omega⟩
        obtain ⟨hl, hp, hf⟩ := idxL_fnd p l j (by omega)
        exact ⟨by simp; omega, by simpa using hp, by simp [hx, hf]⟩
theorem idxL_no {α : Type} (p : α → Bool) (l : List α) (h : idxL p l < 0) : l.find? p = none := by
  rw [List.find?_eq_none]
  intro x hx
  have := (idxL_neg p l).1 h x hx
  simp [this]
theorem num_pred (n : Int) (B : Nat) (w : World) (hB : B < w.heap.size) (hcell : w.cell? ⟨B, 0, none⟩ = some (.int .i64 n)) :
    PredBelow Tryz.prog 286 #[.pointer (some ⟨B, 0, none⟩)] (fun x : Ms => .agg x.row.toArray) (isN n) w := fun W x hb => by
  have hc : W.cell? ⟨B, 0, none⟩ = some (.int .i64 n) := (hb.cell (p := ⟨B, 0, none⟩) hB).trans hcell
  have hBW : B < W.heap.size := Nat.lt_of_lt_of_le hB hb.size
  have hne : B ≠ W.heap.size := by omega
  show Calls Tryz.prog 286 #[.agg #[.int .i64 x.num, .string x.grp, .string x.bod, .int .i64 x.rcv, .int .i64 x.til], .pointer (some ⟨B, 0, none⟩)] W _
  go_enter Tryz.func286, Tryz.ntmps286
  go_wp2
  all_goals (go_ret; exact ⟨by simp_all, hb.alloc hb.size _⟩)
theorem eg286 : ∀ args w, (callFunc 286 args).run Tryz.prog w = .ok (.enter 286 args) w := enters_of Tryz.func286 (by kernel_rfl) rfl
theorem idx_num (v : Value) (l : List Ms) (n : Int) (B : Nat) (w : World) (ho : w.ownsRow 0 226 5 v l.length (l.flatMap Ms.row)) (hl : l.length ≤ 1000000) (hB : B < w.heap.size) (hcell : w.cell? ⟨B, 0, none⟩ = some (.int .i64 n)) :
    Calls Tryz.prog 264 #[v, .func (.func 286) #[] #[.pointer (some ⟨B, 0, none⟩)]] w fun e w' => e = .returned (.int .i64 (idxL (isN n) l)) ∧ Below w.heap.size w w' := by
  have inh : Inhabited Ms := ⟨⟨0, ⟨#[]⟩, ⟨#[]⟩, 0, 0⟩⟩
  rcases ho.2 with ⟨rfl, h0⟩ | ⟨gd, cap, cur, rfl, _, hg, _⟩
  · have e0 : l = [] := List.length_eq_zero_iff.1 h0
    subst e0
    refine (idx_ms_none none 0 _ w).mono ?_
    rintro e w' ⟨rfl, rfl⟩
    exact ⟨rfl, Below.refl _ _⟩
  · have h := AnyQ.slices_IndexFunc l197 5 Tryz.isAgg226 Tryz.sizeOf226 Ms.row (fun _ => rfl) (isN n) 286 #[.pointer (some ⟨B, 0, none⟩)] eg286 gd 0 l.length cap l w (num_pred n B w hB hcell) (Nat.le_refl _) (by omega) (lt_of_block hg) (fun j hj i v hi => own_cells Ms.row 5 (fun _ => rfl) ho j hj i v hi)
    rw [List.take_length, idxBy_eq] at h
    exact h
set_option maxHeartbeats 400000 in
theorem find_gen (n : Int) (qb : Nat) (v : Value) (l : List Ms) (w : World) (c7 : w.cell? ⟨qb, 7, none⟩ = some v) (ho : w.ownsRow 0 226 5 v l.length (l.flatMap Ms.row)) (hl : l.length ≤ 1000000) :
    Calls Tryz.prog 253 #[.pointer (some ⟨qb, 0, none⟩), .int .i64 n] w fun e w' => e = .returned (.int .i64 (idxL (isN n) l)) ∧ Below w.heap.size w w' := by
  have hlt := World.block_lt_of_cell? _ _ c7
  have hne : qb ≠ w.heap.size := by have := hlt; simp at this; omega
  have hmf : ∀ (fn : Fn) (first cap : Array Value) (w : World), (Instr.makeFunc fn first cap).run Tryz.prog w = .ok (.func fn first cap) w := fun _ _ _ _ => rfl
  have HI : Hid (Calls Tryz.prog 264 _ (w.alloc (.cells #[.int .i64 n] 3)) _) := idx_num v l n w.heap.size (w.alloc (.cells #[.int .i64 n] 3)) (own_tch ho ((Tch.refl [] w).alloc _) (fun _ _ => by simp)) hl (by simp) (cell_of_one (heap_alloc_new _ _))
  clear ho
  generalize idxL (isN n) l = z at *
  go_enter Tryz.func253, Tryz.ntmps253
  go_wp2_with (go_at_call 264; refine HI.out.mono ?_; rintro e w' ⟨rfl, hb⟩)
  go_ret
  exact ⟨rfl, ((Below.refl _ _).alloc (Nat.le_refl _) _).trans (hb.mono (by simp))⟩
def fliesQ (Q : QM) (num rcv : Int) : Bool := match Q.ms.find? (isN num) with
  | some m => decide (0 < m.til) && m.rcv == rcv
  | none => false
theorem QR.msc {w : World} {qb : Nat} {V : QV} {Q : QM} (h : QR w qb V Q) (i : Nat) (hi : i < Q.ms.length) : ∃ g c, V.m = .slice (some ⟨g, 0, none⟩) Q.ms.length c ∧ g < w.heap.size ∧ ∀ j u, (Q.ms[i].row)[j]? = some u → w.cell? ⟨g, i * 5 + j, none⟩ = some u := by
  have inh : Inhabited Ms := ⟨⟨0, ⟨#[]⟩, ⟨#[]⟩, 0, 0⟩⟩
  obtain ⟨g, c, hv⟩ : ∃ g c, V.m = .slice (some ⟨g, 0, none⟩) Q.ms.length c := by
    rcases h.m.2 with ⟨h0, h1⟩ | ⟨g, cap, cur, h0, _⟩
    · omega
    · exact ⟨_, _, h0⟩
  have hm := h.m
  rw [hv] at hm
  have hc : ∀ j u, (Q.ms[i].row)[j]? = some u → w.cell? ⟨g, i * 5 + j, none⟩ = some u := fun j u hj => by
    have h1 := own_cells Ms.row 5 (fun _ => rfl) hm i hi j u (by rw [List.getElem!_eq_getElem?_getD, List.getElem?_eq_getElem hi]; exact hj)
    simpa using h1
  exact ⟨g, c, hv, World.block_lt_of_cell? _ _ (hc 0 _ rfl), hc⟩
set_option maxHeartbeats 2000000 in
theorem flies_any (Q : QM) (V : QV) (qb : Nat) (q : UInt8) (num rcv : Int) (w : World) (h : QR w qb V Q) (hl : Q.ms.length ≤ 1000) :
    Calls Tryz.prog 252 #[.pointer (some ⟨qb, 0, none⟩), .agg #[.int .u8 (q.toNat : Int), .int .i64 num, .int .i64 rcv]] w fun e w' => e = .returned (.bool (fliesQ Q num rcv)) ∧ Tch [] w w' := by
  obtain ⟨wb, hwb⟩ : ∃ wb, wb = w.alloc (.cells #[.int .u8 (q.toNat : Int), .int .i64 num, .int .i64 rcv] 237) := ⟨_, rfl⟩
  have HT : Hid (Tch [] w wb) := by rw [hwb]; exact (Tch.refl _ _).alloc _
  have HBX : Hid (wb.heap[w.heap.size]? = some (.cells #[.int .u8 (q.toNat : Int), .int .i64 num, .int .i64 rcv] 237 (0, 0))) := by rw [hwb]; exact heap_alloc_new _ _
  have hq := h.tch HT.out (by simp)
  have HF : Hid (Calls Tryz.prog 253 #[.pointer (some ⟨qb, 0, none⟩), .int .i64 num] wb fun e w' => e = .returned (.int .i64 (idxL (isN num) Q.ms)) ∧ Below wb.heap.size wb w') := find_gen num qb V.m Q.ms wb (cell_qC hq.blk 7 _ rfl) hq.m (by omega)
  have HQ : Hid (QR wb qb V Q) := hq
  have b1 : wb.cell? ⟨w.heap.size, 1, none⟩ = some (.int .i64 num) := cell_qC HBX.out 1 _ rfl
  have l1 := lt_of_block HBX.out
  clear h hq
  go_enter Tryz.func252, Tryz.ntmps252
  go_wp2_with fail
  rw [← hwb]
  clear hwb
  refine HF.out.mono ?_
  rintro e w1 ⟨rfl, hb1⟩
  have t1 := Tch.of_below hb1
  have hq1 := HQ.out.tch t1 (by simp)
  have HT1 : Hid (Tch [] w w1) := HT.out.trans t1 (by simp)
  have hbx1 := (hb1.block _ l1).trans HBX.out
  have b2 : w1.cell? ⟨w.heap.size, 2, none⟩ = some (.int .i64 rcv) := cell_qC hbx1 2 _ rfl
  have l2 := lt_of_block hbx1
  have c7 : w1.cell? ⟨qb, 7, none⟩ = some V.m := cell_qC hq1.blk 7 _ rfl
  have lq := hq1.blk.lt
  by_cases hz : idxL (isN num) Q.ms < 0
  · have HFL : Hid (fliesQ Q num rcv = false) := by show _ = _; unfold fliesQ; rw [idxL_no _ _ hz]
    have hd : decide ((0 : Int) ≤ idxL (isN num) Q.ms) = false := decide_eq_false (by omega)
    generalize idxL (isN num) Q.ms = z at *
    clear hq1 hb1 t1 hbx1 HF HQ HBX b1
    go_wp2_with fail
    go_quiet (fail)
    go_wp2_with fail
    go_ret
    exact ⟨ret_bool HFL.out.symm, HT1.out.drewN _⟩
  · obtain ⟨i, hi⟩ : ∃ i : Nat, idxL (isN num) Q.ms = (i : Int) := ⟨_, (Int.toNat_of_nonneg (by omega)).symm⟩
    obtain ⟨hil, hp, hfi⟩ := idxL_fnd _ _ i hi
    obtain ⟨g, c, hv, hg, hc⟩ := hq1.msc i hil
    have HFL : Hid (fliesQ Q num rcv = (decide (0 < Q.ms[i].til) && Q.ms[i].rcv == rcv)) := by show _ = _; unfold fliesQ; rw [hfi]
    have hd : decide ((0 : Int) ≤ (i : Int)) = true := decide_eq_true (by omega)
    have d3 : w1.cell? ⟨g, i * 5 + 3, none⟩ = some (.int .i64 Q.ms[i].rcv) := hc 3 _ rfl
    have d4 : w1.cell? ⟨g, i * 5 + 4, none⟩ = some (.int .i64 Q.ms[i].til) := hc 4 _ rfl
    rw [hi]
    rw [hv] at c7
    generalize Q.ms[i].til = til at *
    generalize Q.ms[i].rcv = rc at *
    clear hc hz hi hp hfi hq1 hb1 t1 hbx1 HF HQ HBX b1
    by_cases ht : 0 < til
    · have hdt : decide ((0 : Int) < til) = true := decide_eq_true ht
      go_wp2_with fail
      go_quiet (fail)
      go_wp2_with fail
      go_ret
      exact ⟨ret_bool (by rw [HFL.out, hdt]; simp), HT1.out.drewN _⟩
    · have hdt : decide ((0 : Int) < til) = false := decide_eq_false ht
      go_wp2_with fail
      go_quiet (fail)
      go_wp2_with fail
      go_ret
      exact ⟨ret_bool (by rw [HFL.out, hdt]; simp), HT1.out.drewN _⟩
end Go.Proofs.YtbdobaapadlcjaaGreatDoor
