/-
  THE WALKS of queue.put (159) and of Send's closure (158).
-/
import Derived.Test.YtbdobaapadlcjaaGreatDoorTkV
import Derived.Test.YtbdobaapadlcjaaGreatDoorTkL
namespace Go.Proofs.YtbdobaapadlcjaaGreatDoor
open Go.RowKit
set_option linter.unusedVariables false
set_option linter.unusedSimpArgs false

theorem info214 : (Tryz.prog.info? 226).map (fun i => (i.zero, i.size, i.bytes)) = some (some (.agg #[.int .i64 0, .string ⟨#[]⟩, .string ⟨#[]⟩, .int .i64 0, .int .i64 0]), 5, 56) := by kernel_rfl
theorem info219 : (Tryz.prog.info? 230).map (fun i => (i.zero, i.size, i.bytes)) = some (some (.agg #[.string ⟨#[]⟩, .int .i64 0, .int .i64 0]), 3, 32) := by kernel_rfl

/-- A queue's block. -/
abbrev Qb (w : World) (qb : Nat) (c : Wp.Rq) (next : Int) (ms rs ds at_ : Value) : Prop := w.heap[qb]? = some (.cells (qC c next ms rs ds at_) 191 (0, 0))
theorem Qb.set6 {w : World} {qb : Nat} {c : Wp.Rq} {next : Int} {ms rs ds at_ : Value} (h : Qb w qb c next ms rs ds at_) (v : Int) : Qb (w.setCell ⟨qb, 6, none⟩ (.int .i64 v)) qb c v ms rs ds at_ := heap_setCell_same w qb 6 _ 191 _ h
theorem Qb.set7 {w : World} {qb : Nat} {c : Wp.Rq} {next : Int} {ms rs ds at_ : Value} (h : Qb w qb c next ms rs ds at_) (v : Value) : Qb (w.setCell ⟨qb, 7, none⟩ v) qb c next v rs ds at_ := heap_setCell_same w qb 7 _ 191 _ h
theorem Qb.set8 {w : World} {qb : Nat} {c : Wp.Rq} {next : Int} {ms rs ds at_ : Value} (h : Qb w qb c next ms rs ds at_) (v : Value) : Qb (w.setCell ⟨qb, 8, none⟩ v) qb c next ms v ds at_ := heap_setCell_same w qb 8 _ 191 _ h
theorem Qb.set9 {w : World} {qb : Nat} {c : Wp.Rq} {next : Int} {ms rs ds at_ : Value} (h : Qb w qb c next ms rs ds at_) (v : Value) : Qb (w.setCell ⟨qb, 9, none⟩ v) qb c next ms rs v at_ := heap_setCell_same w qb 9 _ 191 _ h
theorem Qb.set10 {w : World} {qb : Nat} {c : Wp.Rq} {next : Int} {ms rs ds at_ : Value} (h : Qb w qb c next ms rs ds at_) (v : Value) : Qb (w.setCell ⟨qb, 10, none⟩ v) qb c next ms rs ds v := heap_setCell_same w qb 10 _ 191 _ h
theorem Qb.fz {w : World} {qb : Nat} {c : Wp.Rq} {next : Int} {ms rs ds at_ : Value} (h : Qb w qb c next ms rs ds at_) (j : Nat) : w.frozen? ⟨qb, j, none⟩ = false := frozen_of_row w qb j _ 191 h
theorem Qb.lt {w : World} {qb : Nat} {c : Wp.Rq} {next : Int} {ms rs ds at_ : Value} (h : Qb w qb c next ms rs ds at_) : qb < w.heap.size := lt_of_block h

def bl (v : Value) : List Nat := v.ownBlock.toList
theorem mem_bl {v : Value} {k : Nat} : k ∈ bl v ↔ v.ownBlock = some k := by simp [bl, Option.mem_toList]

/-- What a queue's rows hold. -/
structure Rows (w : World) (nm nr nd : Nat) (ms rs ds : Value) (xm xr xd : List Value) : Prop where
  m : w.ownsRow 0 226 5 ms nm xm
  r : w.ownsRow 0 9 1 rs nr xr
  d : w.ownsRow 0 230 3 ds nd xd

theorem own_some {w : World} {t : TypeId} {size n : Nat} {v : Value} {xs : List Value} (h : w.ownsRow 0 t size v (n + 1) xs) : ∃ g cap, v = .slice (some ⟨g, 0, none⟩) (n + 1) cap := by
  rcases h.2 with ⟨_, h0⟩ | ⟨g, cap, cur, rfl, _⟩
  · omega
  · exact ⟨g, cap, rfl⟩
theorem grown_tch {w w' : World} {v : Value} (h : w.grownBy w' v.ownBlock) : Tch (bl v) w w' := (Tch.refl _ _).grown h (fun k hk _ => mem_bl.2 hk)

/-- A row lies where another lay, or in a block that is new since w. -/
def NewOr (w : World) (v v' : Value) : Prop := ∀ j, v'.ownBlock = some j → v.ownBlock = some j ∨ w.heap.size ≤ j
theorem NewOr.refl (w : World) (v : Value) : NewOr w v v := fun _ h => .inl h
theorem NewOr.of {w W : World} {v v' : Value} (hs : w.heap.size ≤ W.heap.size) (h : v'.ownBlock = v.ownBlock ∨ v'.ownBlock = some W.heap.size) : NewOr w v v' := fun j hj => by
  rcases h with h | h
  · exact .inl (h.symm.trans hj)
  · rw [hj] at h
    injection h with h
    exact .inr (by omega)
theorem NewOr.mono {w W : World} {v v' : Value} (hs : w.heap.size ≤ W.heap.size) (h : NewOr W v v') : NewOr w v v' := fun j hj => by
  rcases h j hj with h | h
  · exact .inl h
  · exact .inr (by omega)

/-- The message's cells. -/
abbrev msV (k : Int) (g bd : ByteArray) : List Value := [.int .i64 k, .string g, .string bd, .int .i64 0, .int .i64 0]

/-- What is left when a message was appended in W, and the queue's fields are set. -/
theorem put_fin (K : World → Prop) (c : Wp.Rq) (g bd : ByteArray) (qb k nm nr NR : Nat) (ms rs0 rs ds at_ : Value) (xm xr : List Value) (w W : World) (ht : Tch (qb :: bl rs0) w W)
    (hq : Qb W qb c (k : Int) ms rs ds at_) (hm : W.ownsRow 0 226 5 ms nm xm) (hr : W.ownsRow 0 9 1 rs nr xr) (hnr : nr ≤ NR)
    (hK : ∀ w' ms' rs', Qb w' qb c ((k + 1 : Nat) : Int) ms' rs' ds at_ → w'.ownsRow 0 226 5 ms' (nm + 1) (xm ++ msV k g bd) → (∃ nr' xr', w'.ownsRow 0 9 1 rs' nr' xr' ∧ nr' ≤ NR) → NewOr w ms ms' → NewOr w rs0 rs' → Tch (qb :: (bl ms ++ bl rs0)) w w' → K w') (hNr : NewOr w rs0 rs)
    (v' : Value) (w' : World) (ho : w'.ownsRow 0 226 5 v' (nm + 1) (xm ++ msV k g bd)) (hg : (W.drew.alloc (.cells (msV k g bd).toArray 226)).grownBy w' ms.ownBlock) (hb : v'.ownBlock = ms.ownBlock ∨ v'.ownBlock = some (W.drew.alloc (.cells (msV k g bd).toArray 226)).heap.size) :
    ∃ g4 cap4, v' = .slice (some ⟨g4, 0, none⟩) (nm + 1) cap4 ∧ w'.cell? ⟨qb, 7, none⟩ = some ms ∧ w'.frozen? ⟨qb, 7, none⟩ = false ∧ (w'.setCell ⟨qb, 7, none⟩ v').cell? ⟨qb, 6, none⟩ = some (.int .i64 (k : Int)) ∧ (w'.setCell ⟨qb, 7, none⟩ v').frozen? ⟨qb, 6, none⟩ = false ∧
      K ((w'.setCell ⟨qb, 7, none⟩ v').setCell ⟨qb, 6, none⟩ (.int .i64 ((k : Int) + 1))) := by
  obtain ⟨g4, cap4, hv⟩ := own_some ho
  have t1 : Tch [] W (W.drew.alloc (.cells (msV k g bd).toArray 226)) := (Tch.refl _ _).drew.alloc _
  have t2 : Tch (bl ms) W w' := (t1.sub (by simp)).trans (grown_tch hg) (fun x hx _ => hx)
  have hq1 : Qb w' qb c (k : Int) ms rs ds at_ := (t2.block _ hq.lt (fun e => own_ne hm hq (by decide) (mem_bl.1 e))).trans hq
  have hq2 := hq1.set7 v'
  have t3 : Tch [qb] w' ((w'.setCell ⟨qb, 7, none⟩ v').setCell ⟨qb, 6, none⟩ (.int .i64 ((k : Int) + 1))) := ((Tch.refl _ _).setCell (fun _ => by simp) _).setCell (fun _ => by simp) _
  have hr' : w'.ownsRow 0 9 1 rs nr xr := own_tch hr t2 (fun j hj hm' => by
    have e := mem_bl.1 hm'
    rcases hr.2 with ⟨rfl, _⟩ | ⟨g', cap', cur', rfl, _, hg', _⟩
    · simp [Value.ownBlock] at hj
    · simp only [Value.ownBlock, Option.some.injEq] at hj
      subst hj
      exact own_ne hm hg' (by decide) e)
  refine ⟨g4, cap4, hv, cell_qC hq1 7 _ rfl, hq1.fz 7, cell_qC hq2 6 _ rfl, hq2.fz 6, hK _ v' rs (hq2.set6 _) (own_tch ho t3 (fun j hj hm' => ?_)) ⟨nr, xr, own_tch hr' t3 (fun j hj hm' => ?_), hnr⟩ (NewOr.of (Nat.le_trans ht.size t1.size) hb) hNr ?_⟩
  · simp at hm'
    subst hm'
    exact own_ne ho hq1 (by decide) hj
  · simp at hm'
    subst hm'
    exact own_ne hr' hq1 (by decide) hj
  · refine ((ht.sub (S' := qb :: (bl ms ++ bl rs0)) (fun x hx _ => ?_)).trans t2 (fun x hx _ => ?_)).trans t3 (fun x hx _ => ?_)
    · rcases List.mem_cons.1 hx with h | h
      · exact List.mem_cons.2 (.inl h)
      · exact List.mem_cons.2 (.inr (List.mem_append.2 (.inr h)))
    · exact List.mem_cons.2 (.inr (List.mem_append.2 (.inl hx)))
    · exact List.mem_cons.2 (.inl (by simpa using hx))

set_option maxRecDepth 8000 in
set_option maxHeartbeats 2000000 in
theorem put_walk (K : World → Prop) (c : Wp.Rq) (g bd : ByteArray) (qb k nm nr : Nat) (ms rs ds at_ : Value) (xm xr : List Value) (w : World)
    (hq : Qb w qb c (k : Int) ms rs ds at_) (hm : w.ownsRow 0 226 5 ms nm xm) (hr : w.ownsRow 0 9 1 rs nr xr) (hv : Ms1 w ms) (hnm : nm ≤ 1) (hnr : nr ≤ 1000) (hk : k ≤ 200)
    (hK : ∀ w' ms' rs', Qb w' qb c ((k + 1 : Nat) : Int) ms' rs' ds at_ → w'.ownsRow 0 226 5 ms' (nm + 1) (xm ++ msV k g bd) → (∃ nr' xr', w'.ownsRow 0 9 1 rs' nr' xr' ∧ nr' ≤ nr + 1) → NewOr w ms ms' → NewOr w rs rs' → Tch (qb :: (bl ms ++ bl rs)) w w' → K w') :
    Calls Tryz.prog 219 #[.pointer (some ⟨qb, 0, none⟩), .string g, .string bd] w fun e w' => e = .returned (.tuple #[]) ∧ K w' := by
  have hlt := hq.lt
  have HQ : Hid (Qb w qb c (k : Int) ms rs ds at_) := hq
  have HM : Hid (w.ownsRow 0 226 5 ms nm xm) := hm
  have HR : Hid (w.ownsRow 0 9 1 rs nr xr) := hr
  have HH : Hid (Calls Tryz.prog 210 _ w _) := head_any g qb ms w (cell_qC hq 7 _ rfl) hv
  have HK : Hid (∀ w' ms' rs', _) := hK
  clear hq hm hr hv hK
  go_enter Tryz.func219, Tryz.ntmps219
  go_wp2_with fail
  refine HH.out.mono ?_
  rintro e w1 ⟨⟨z, rfl⟩, hb1⟩
  have t1 := Tch.of_below hb1
  have hq1 : Qb w1 qb c (k : Int) ms rs ds at_ := (t1.block _ hlt (by simp)).trans HQ.out
  have HQ1 : Hid (Qb w1 qb c (k : Int) ms rs ds at_) := hq1
  have HM1 : Hid (w1.ownsRow 0 226 5 ms nm xm) := own_tch HM.out t1 (fun _ _ => by simp)
  have HR1 : Hid (w1.ownsRow 0 9 1 rs nr xr) := own_tch HR.out t1 (fun _ _ => by simp)
  have T1 : Hid (Tch [] w w1) := t1
  have hlt1 := hq1.lt
  by_cases hz : z < 0
  · have q8 : w1.cell? ⟨qb, 8, none⟩ = some rs := cell_qC hq1 8 _ rfl
    clear hq1 hb1 t1
    go_wp2_with (at_builtin; refine wpList_vals _ rfl _ _ 25 9 rfl Tryz.underlying25 (.string ⟨#[]⟩) 1 16 info9 rfl (by decide) (by decide) rs nr xr ?hs ?own w1.heap.size [.string g] 1 ?hx rfl (by decide) ?hg ?one (by omega) ?k)
    case hs => simp [Act.eval, Act.put]
    case own => exact own_tch HR1.out ((Tch.refl [] _).alloc _) (fun _ _ => by simp)
    case hx => simp [Act.eval, Act.put]
    case hg => exact heap_alloc_new _ _
    case one => intro u hu; simp at hu; subst hu; rfl
    intro v2 w2 ho2 hg2 hb2
    have t2 : Tch (bl rs) w1 w2 := (((Tch.refl [] w1).alloc _).sub (by simp)).trans (grown_tch hg2) (fun x hx _ => hx)
    have hq2 : Qb w2 qb c (k : Int) ms rs ds at_ := (t2.block _ hlt1 (fun e => own_ne HR1.out HQ1.out (by decide) (mem_bl.1 e))).trans HQ1.out
    obtain ⟨g2, cap2, hv2⟩ := own_some ho2
    subst hv2
    have t3 : Tch [qb] w2 (w2.setCell ⟨qb, 8, none⟩ (.slice (some ⟨g2, 0, none⟩) (nr + 1) cap2)) := (Tch.refl _ _).setCell (fun _ => by simp) _
    have HQ3 : Hid (Qb (w2.setCell ⟨qb, 8, none⟩ (.slice (some ⟨g2, 0, none⟩) (nr + 1) cap2)) qb c (k : Int) ms (.slice (some ⟨g2, 0, none⟩) (nr + 1) cap2) ds at_) := hq2.set8 _
    have HM2 : w2.ownsRow 0 226 5 ms nm xm := own_tch HM1.out t2 (fun j hj hm' => by
      have e := mem_bl.1 hm'
      rcases HM1.out.2 with ⟨rfl, _⟩ | ⟨g', cap', cur', rfl, _, hg', _⟩
      · simp [Value.ownBlock] at hj
      · simp only [Value.ownBlock, Option.some.injEq] at hj
        subst hj
        exact own_ne HR1.out hg' (by decide) e)
    have HM3 : Hid ((w2.setCell ⟨qb, 8, none⟩ (.slice (some ⟨g2, 0, none⟩) (nr + 1) cap2)).ownsRow 0 226 5 ms nm xm) := own_tch HM2 t3 (fun j hj hm' => by
      simp at hm'
      subst hm'
      exact own_ne HM2 hq2 (by decide) hj)
    have HR3 : Hid ((w2.setCell ⟨qb, 8, none⟩ (.slice (some ⟨g2, 0, none⟩) (nr + 1) cap2)).ownsRow 0 9 1 (.slice (some ⟨g2, 0, none⟩) (nr + 1) cap2) (nr + 1) (xr ++ [.string g])) := own_tch ho2 t3 (fun j hj hm' => by
      simp at hm'
      subst hm'
      exact own_ne ho2 hq2 (by decide) hj)
    have T3 : Hid (Tch (qb :: bl rs) w (w2.setCell ⟨qb, 8, none⟩ (.slice (some ⟨g2, 0, none⟩) (nr + 1) cap2))) := ((T1.out.sub (by simp)).trans t2 (fun x hx _ => List.mem_cons.2 (.inr hx))).trans t3 (fun x hx _ => List.mem_cons.2 (.inl (by simpa using hx)))
    have HNR : Hid (NewOr w rs (.slice (some ⟨g2, 0, none⟩) (nr + 1) cap2)) := fun j hj => by
      rcases hb2 with h | h
      · exact .inl (h.symm.trans hj)
      · rw [hj] at h
        injection h with h
        have := T1.out.size
        exact .inr (by omega)
    have c8 : w2.cell? ⟨qb, 8, none⟩ = some rs := cell_qC hq2 8 _ rfl
    have z8 := hq2.fz 8
    clear ho2 hg2 hb2 t2 hq2 t3 HM2 q8
    go_wp2_with fail
    generalize hWW : w2.setCell ⟨qb, 8, none⟩ (.slice (some ⟨g2, 0, none⟩) (nr + 1) cap2) = WW at HQ3 HM3 HR3 T3 ⊢
    have HQW : Hid (Qb WW qb c (k : Int) ms (.slice (some ⟨g2, 0, none⟩) (nr + 1) cap2) ds at_) := HQ3
    have HMW : Hid (WW.ownsRow 0 226 5 ms nm xm) := HM3
    have HRW : Hid (WW.ownsRow 0 9 1 (.slice (some ⟨g2, 0, none⟩) (nr + 1) cap2) (nr + 1) (xr ++ [.string g])) := HR3
    have TW : Hid (Tch (qb :: bl rs) w WW) := T3
    clear HQ3 HM3 HR3 T3 hWW c8 z8
    have q6 : WW.cell? ⟨qb, 6, none⟩ = some (.int .i64 (k : Int)) := cell_qC HQW.out 6 _ rfl
    have q7 : WW.cell? ⟨qb, 7, none⟩ = some ms := cell_qC HQW.out 7 _ rfl
    have q7a : (WW.alloc (.cells (msV k g bd).toArray 226)).cell? ⟨qb, 7, none⟩ = some ms := Lib.cell?_alloc_some _ q7
    have hltW : qb < WW.heap.size := HQW.out.lt
    have HG : Hid (∀ v' w', w'.ownsRow 0 226 5 v' (nm + 1) (xm ++ msV k g bd) → (WW.drew.alloc (.cells (msV k g bd).toArray 226)).grownBy w' ms.ownBlock → (v'.ownBlock = ms.ownBlock ∨ v'.ownBlock = some (WW.drew.alloc (.cells (msV k g bd).toArray 226)).heap.size) → _) := fun v' w' => put_fin K c g bd qb k nm (nr + 1) (nr + 1) ms rs (.slice (some ⟨g2, 0, none⟩) (nr + 1) cap2) ds at_ xm (xr ++ [.string g]) w WW TW.out HQW.out HMW.out HRW.out (by omega) HK.out HNR.out v' w'
    go_region_law (refine step_vals rfl (.tmp 24) (.tmp 32) 187 226 rfl Tryz.underlying187 (.agg #[.int .i64 0, .string ⟨#[]⟩, .string ⟨#[]⟩, .int .i64 0, .int .i64 0]) 5 56 info214 rfl (by decide) (by decide) ms nm xm (by simp [Act.eval, Act.put]) (own_tch HMW.out ((Tch.refl [] _).drew.alloc _) (fun _ _ => by simp)) WW.heap.size (msV k g bd) 1 (by simp [Act.eval, Act.put]) rfl (by decide) (heap_alloc_new _ _) (by intro u hu; simp at hu; rcases hu with rfl | rfl | rfl | rfl | rfl <;> rfl) (by omega) ?_; intro v' w9 ho3 hg3 hb3; obtain ⟨g4, cap4, hv4, c9, z9, c6, z6, hfin⟩ := HG.out v' w9 ho3 hg3 hb3; subst hv4; clear ho3 hg3 hb3; have HFIN : Hid (K _) := hfin; clear hfin)
    all_goals (go_wp2_with fail; go_end0; exact ⟨rfl, HFIN.out⟩)
  · clear hq1 hb1 t1
    go_wp2_with fail
    have HQW : Hid (Qb w1 qb c (k : Int) ms rs ds at_) := HQ1
    have HMW : Hid (w1.ownsRow 0 226 5 ms nm xm) := HM1
    have HRW : Hid (w1.ownsRow 0 9 1 rs nr xr) := HR1
    have TW : Hid (Tch (qb :: bl rs) w w1) := T1.out.sub (by simp)
    have HNR : Hid (NewOr w rs rs) := NewOr.refl _ _
    have q6 : w1.cell? ⟨qb, 6, none⟩ = some (.int .i64 (k : Int)) := cell_qC HQW.out 6 _ rfl
    have q7 : w1.cell? ⟨qb, 7, none⟩ = some ms := cell_qC HQW.out 7 _ rfl
    have q7a : (w1.alloc (.cells (msV k g bd).toArray 226)).cell? ⟨qb, 7, none⟩ = some ms := Lib.cell?_alloc_some _ q7
    have hltW : qb < w1.heap.size := HQW.out.lt
    have HG : Hid (∀ v' w', w'.ownsRow 0 226 5 v' (nm + 1) (xm ++ msV k g bd) → (w1.drew.alloc (.cells (msV k g bd).toArray 226)).grownBy w' ms.ownBlock → (v'.ownBlock = ms.ownBlock ∨ v'.ownBlock = some (w1.drew.alloc (.cells (msV k g bd).toArray 226)).heap.size) → _) := fun v' w' => put_fin K c g bd qb k nm nr (nr + 1) ms rs rs ds at_ xm xr w w1 TW.out HQW.out HMW.out HRW.out (by omega) HK.out HNR.out v' w'
    go_region_law (refine step_vals rfl (.tmp 24) (.tmp 32) 187 226 rfl Tryz.underlying187 (.agg #[.int .i64 0, .string ⟨#[]⟩, .string ⟨#[]⟩, .int .i64 0, .int .i64 0]) 5 56 info214 rfl (by decide) (by decide) ms nm xm (by simp [Act.eval, Act.put]) (own_tch HMW.out ((Tch.refl [] _).drew.alloc _) (fun _ _ => by simp)) w1.heap.size (msV k g bd) 1 (by simp [Act.eval, Act.put]) rfl (by decide) (heap_alloc_new _ _) (by intro u hu; simp at hu; rcases hu with rfl | rfl | rfl | rfl | rfl <;> rfl) (by omega) ?_; intro v' w9 ho3 hg3 hb3; obtain ⟨g4, cap4, hv4, c9, z9, c6, z6, hfin⟩ := HG.out v' w9 ho3 hg3 hb3; subst hv4; clear ho3 hg3 hb3; have HFIN : Hid (K _) := hfin; clear hfin)
    all_goals (go_wp2_with fail; go_end0; exact ⟨rfl, HFIN.out⟩)
end Go.Proofs.YtbdobaapadlcjaaGreatDoor
