/-
  THE WALK of Send's closure (158).
-/
import Derived.Test.YtbdobaapadlcjaaGreatDoorTkN
namespace Go.Proofs.YtbdobaapadlcjaaGreatDoor
open Go.RowKit
set_option linter.unusedVariables false
set_option linter.unusedSimpArgs false

abbrev ddV (id : ByteArray) (k til : Int) : List Value := [.string id, .int .i64 k, .int .i64 til]
theorem gr9 {w : World} {gr : Nat} {r : Wp.Rq} {y : Sl} (h : w.heap[gr]? = some (.cells (cellsOf r y.v) 27 (0, 0))) : w.cell? ⟨gr, 9, none⟩ = some (.string r.grp) := cell_qC h 9 _ rfl
theorem gr11 {w : World} {gr : Nat} {r : Wp.Rq} {y : Sl} (h : w.heap[gr]? = some (.cells (cellsOf r y.v) 27 (0, 0))) : w.cell? ⟨gr, 11, none⟩ = some (.string r.bod) := cell_qC h 11 _ rfl
/-- A row stays where another row of another type was written. -/
theorem own_apart {w w' : World} {t t' : TypeId} {size n size' n' : Nat} {v v' : Value} {xs xs' : List Value} (h : w.ownsRow 0 t size v n xs) (h' : w.ownsRow 0 t' size' v' n' xs') (htt : t' ≠ t) (ht : Tch (bl v') w w') : w'.ownsRow 0 t size v n xs :=
  own_tch h ht (fun j hj hm' => by
    have e := mem_bl.1 hm'
    rcases h.2 with ⟨rfl, _⟩ | ⟨g', cap', cur', rfl, _, hg', _⟩
    · simp [Value.ownBlock] at hj
    · simp only [Value.ownBlock, Option.some.injEq] at hj
      subst hj
      exact own_ne h' hg' htt e)
theorem own_set {w : World} {t : TypeId} {size n qb : Nat} {v : Value} {xs : List Value} (h : w.ownsRow 0 t size v n xs) {C : Array Value} {t' : TypeId} (hq : w.heap[qb]? = some (.cells C t' (0, 0))) (htt : t ≠ t') {w' : World} (ht : Tch [qb] w w') : w'.ownsRow 0 t size v n xs :=
  own_tch h ht (fun j hj hm' => by
    simp at hm'
    subst hm'
    exact own_ne h hq htt hj)
theorem ms1_tch {w w' : World} {v : Value} (h : Ms1 w v) {S : List Nat} (ht : Tch S w w') (hS : ∀ k, v.ownBlock = some k → k ∉ S) : Ms1 w' v := by
  rcases h with h | ⟨gd, cd, d, rfl, hgd, hc⟩
  · exact .inl h
  · exact .inr ⟨gd, cd, d, rfl, Nat.lt_of_lt_of_le hgd ht.size, fun i u hi => (ht.cell (a := ⟨gd, i, none⟩) hgd (hS gd rfl)).trans (hc i u hi)⟩

/-- The cells that Send's closure reads. -/
def Sf (w : World) (gq gi gn qb : Nat) (id : ByteArray) (now win k : Int) : Prop := w.cell? ⟨gq, 0, none⟩ = some (.pointer (some ⟨qb, 0, none⟩)) ∧ w.cell? ⟨gi, 0, none⟩ = some (.string id) ∧ w.cell? ⟨gn, 0, none⟩ = some (.int .i64 now) ∧ w.cell? ⟨qb, 3, none⟩ = some (.int .i64 win) ∧ w.cell? ⟨qb, 6, none⟩ = some (.int .i64 k) ∧ w.frozen? ⟨qb, 9, none⟩ = false
theorem sent_fin (K : World → Prop) (c r : Wp.Rq) (y : Sl) (id : ByteArray) (qb k nm nr cd gq gi gn gr : Nat) (now til : Int) (ad : Option Addr) (ms rs at_ : Value) (xm xr : List Value) (w : World)
    (hq : Qb w qb c (k : Int) ms rs (.slice ad 0 cd) at_) (hm : w.ownsRow 0 226 5 ms nm xm) (hr : w.ownsRow 0 9 1 rs nr xr) (hd : w.ownsRow 0 230 3 (.slice ad 0 cd) 0 []) (hv : Ms1 w ms) (hnm : nm ≤ 1) (hnr : nr ≤ 1000) (hk : k ≤ 200)
    (hgq : w.heap[gq]? = some (.cells #[.pointer (some ⟨qb, 0, none⟩)] 152 (0, 0))) (hgr : w.heap[gr]? = some (.cells (cellsOf r y.v) 27 (0, 0)))
    (hgi : w.heap[gi]? = some (.cells #[.string id] 9 (0, 0))) (hgn : w.heap[gn]? = some (.cells #[.int .i64 now] 3 (0, 0)))
    (hK : ∀ w' ms' rs' ds', Qb w' qb c ((k + 1 : Nat) : Int) ms' rs' ds' at_ → w'.ownsRow 0 226 5 ms' (nm + 1) (xm ++ msV k r.grp r.bod) → (∃ nr' xr', w'.ownsRow 0 9 1 rs' nr' xr' ∧ nr' ≤ nr + 1) → w'.ownsRow 0 230 3 ds' 1 (ddV id k til) → NewOr w ms ms' → NewOr w rs rs' → (∀ j, ds'.ownBlock = some j → Value.ownBlock (.slice ad 0 cd) = some j ∨ w.heap.size ≤ j) → Tch (qb :: (bl (.slice ad 0 cd) ++ (bl ms ++ bl rs))) w w' → K w')
    (v' : Value) (w' : World) (ho : w'.ownsRow 0 230 3 v' 1 (ddV id k til)) (hg : (w.drew.alloc (.cells (ddV id k til).toArray 230)).grownBy w' (Value.ownBlock (.slice ad 0 cd))) (hb : v'.ownBlock = Value.ownBlock (.slice ad 0 cd) ∨ v'.ownBlock = some (w.drew.alloc (.cells (ddV id k til).toArray 230)).heap.size) :
    ∃ g4 cap4, v' = .slice (some ⟨g4, 0, none⟩) 1 cap4 ∧ Sf w' gq gi gn qb id now c.win k ∧ w'.cell? ⟨qb, 9, none⟩ = some (.slice ad 0 cd) ∧
      Sf (w'.setCell ⟨qb, 9, none⟩ v') gq gi gn qb id now c.win k ∧ (w'.setCell ⟨qb, 9, none⟩ v').cell? ⟨gr, 9, none⟩ = some (.string r.grp) ∧ (w'.setCell ⟨qb, 9, none⟩ v').cell? ⟨gr, 11, none⟩ = some (.string r.bod) ∧
      Calls Tryz.prog 219 #[.pointer (some ⟨qb, 0, none⟩), .string r.grp, .string r.bod] (w'.setCell ⟨qb, 9, none⟩ v') fun e w2 => e = .returned (.tuple #[]) ∧ K w2 := by
  obtain ⟨g4, cap4, hv4⟩ := own_some ho
  have t1 : Tch [] w (w.drew.alloc (.cells (ddV id k til).toArray 230)) := (Tch.refl _ _).drew.alloc _
  have t2 : Tch (bl (.slice ad 0 cd)) w w' := (t1.sub (by simp)).trans (grown_tch hg) (fun x hx _ => hx)
  have hq1 : Qb w' qb c (k : Int) ms rs (.slice ad 0 cd) at_ := (t2.block _ hq.lt (fun e => own_ne hd hq (by decide) (mem_bl.1 e))).trans hq
  have hgq1 : w'.heap[gq]? = some (.cells #[.pointer (some ⟨qb, 0, none⟩)] 152 (0, 0)) := (t2.block _ (lt_of_block hgq) (fun e => own_ne hd hgq (by decide) (mem_bl.1 e))).trans hgq
  have hgr1 : w'.heap[gr]? = some (.cells (cellsOf r y.v) 27 (0, 0)) := (t2.block _ (lt_of_block hgr) (fun e => own_ne hd hgr (by decide) (mem_bl.1 e))).trans hgr
  have hgi1 : w'.heap[gi]? = some (.cells #[.string id] 9 (0, 0)) := (t2.block _ (lt_of_block hgi) (fun e => own_ne hd hgi (by decide) (mem_bl.1 e))).trans hgi
  have hgn1 : w'.heap[gn]? = some (.cells #[.int .i64 now] 3 (0, 0)) := (t2.block _ (lt_of_block hgn) (fun e => own_ne hd hgn (by decide) (mem_bl.1 e))).trans hgn
  have hm1 := own_apart hm hd (by decide) t2
  have hr1 := own_apart hr hd (by decide) t2
  have hmb : ∀ j, ms.ownBlock = some j → j ∉ bl (.slice ad 0 cd) := fun j hj hm' => by
    have e := mem_bl.1 hm'
    rcases hm.2 with ⟨rfl, _⟩ | ⟨g', cap', cur', rfl, _, hg', _⟩
    · simp [Value.ownBlock] at hj
    · simp only [Value.ownBlock, Option.some.injEq] at hj
      subst hj
      exact own_ne hd hg' (by decide) e
  have hv1 := ms1_tch hv t2 hmb
  have hq2 := hq1.set9 v'
  have t3 : Tch [qb] w' (w'.setCell ⟨qb, 9, none⟩ v') := (Tch.refl _ _).setCell (fun _ => by simp) _
  have hnq : gq ≠ qb := fun e => by rw [e, hq] at hgq; simp at hgq
  have hnr' : gr ≠ qb := fun e => by rw [e, hq] at hgr; simp at hgr
  have hniq : gi ≠ qb := fun e => by rw [e, hq] at hgi; simp at hgi
  have hnnq : gn ≠ qb := fun e => by rw [e, hq] at hgn; simp at hgn
  have hgi2 := (t3.block _ (lt_of_block hgi1) (by simpa using hniq)).trans hgi1
  have hgn2 := (t3.block _ (lt_of_block hgn1) (by simpa using hnnq)).trans hgn1
  have hgq2 := (t3.block _ (lt_of_block hgq1) (by simpa using hnq)).trans hgq1
  have hgr2 := (t3.block _ (lt_of_block hgr1) (by simpa using hnr')).trans hgr1
  have hd2 : (w'.setCell ⟨qb, 9, none⟩ v').ownsRow 0 230 3 v' 1 (ddV id k til) := own_set ho hq1 (by decide) t3
  have hm2 := own_set hm1 hq1 (by decide) t3
  have hr2 := own_set hr1 hq1 (by decide) t3
  have hv2 := ms1_tch hv1 t3 (fun j hj hm' => by
    simp at hm'
    subst hm'
    exact own_ne hm1 hq1 (by decide) hj)
  refine ⟨g4, cap4, hv4, ⟨cell_of_one hgq1, cell_of_one hgi1, cell_of_one hgn1, cell_qC hq1 3 _ rfl, cell_qC hq1 6 _ rfl, hq1.fz 9⟩, cell_qC hq1 9 _ rfl, ⟨cell_of_one hgq2, cell_of_one hgi2, cell_of_one hgn2, cell_qC hq2 3 _ rfl, cell_qC hq2 6 _ rfl, hq2.fz 9⟩, gr9 hgr2, gr11 hgr2, ?_⟩
  refine put_walk K c r.grp r.bod qb k nm nr ms rs v' at_ xm xr _ hq2 hm2 hr2 hv2 hnm hnr hk ?_
  intro w3 ms3 rs3 hq3 hm3 hr3 hN1 hN2 ht3
  refine hK w3 ms3 rs3 v' hq3 hm3 hr3 (own_tch hd2 ht3 (fun j hj hm' => ?_)) (hN1.mono (Nat.le_trans t2.size t3.size)) (hN2.mono (Nat.le_trans t2.size t3.size)) (fun j hj => ?_) ?_
  · rcases List.mem_cons.1 hm' with h | h
    · subst h
      exact own_ne hd2 hq2 (by decide) hj
    · obtain ⟨C, hjj⟩ : ∃ C, (w'.setCell ⟨qb, 9, none⟩ v').heap[j]? = some (.cells C 230 (0, 0)) := by
        rcases hd2.2 with ⟨h0, _⟩ | ⟨g', cap', cur', h0, _, hg', _⟩
        · rw [h0] at hj; simp [Value.ownBlock] at hj
        · rw [h0] at hj
          simp only [Value.ownBlock, Option.some.injEq] at hj
          subst hj
          exact ⟨_, hg'⟩
      rcases List.mem_append.1 h with h | h
      · exact own_ne hm2 hjj (by decide) (mem_bl.1 h)
      · exact own_ne hr2 hjj (by decide) (mem_bl.1 h)
  · rcases hb with h | h
    · exact .inl (h.symm.trans hj)
    · right
      rw [hj] at h
      injection h with h
      have := t1.size
      omega
  · refine ((t2.sub (S' := qb :: (bl (.slice ad 0 cd) ++ (bl ms ++ bl rs))) (fun x hx _ => ?_)).trans t3 (fun x hx _ => ?_)).trans ht3 (fun x hx _ => ?_)
    · exact List.mem_cons.2 (.inr (List.mem_append.2 (.inl hx)))
    · exact List.mem_cons.2 (.inl (by simpa using hx))
    · rcases List.mem_cons.1 hx with h | h
      · exact List.mem_cons.2 (.inl h)
      · exact List.mem_cons.2 (.inr (List.mem_append.2 (.inr h)))

set_option maxRecDepth 8000 in
set_option maxHeartbeats 4000000 in
theorem sent_walk (K : World → Prop) (c r : Wp.Rq) (y : Sl) (id : ByteArray) (qb k nm nr cd gq gi gn gr : Nat) (now : Int) (ad : Option Addr) (ms rs at_ : Value) (xm xr : List Value) (w : World)
    (hq : Qb w qb c (k : Int) ms rs (.slice ad 0 cd) at_) (hm : w.ownsRow 0 226 5 ms nm xm) (hr : w.ownsRow 0 9 1 rs nr xr) (hd : w.ownsRow 0 230 3 (.slice ad 0 cd) 0 []) (hv : Ms1 w ms) (hnm : nm ≤ 1) (hnr : nr ≤ 1000) (hk : k ≤ 200)
    (hwin : 0 < c.win ∧ c.win ≤ 1001) (hnow : 0 ≤ now ∧ now ≤ 60000)
    (hgq : w.heap[gq]? = some (.cells #[.pointer (some ⟨qb, 0, none⟩)] 152 (0, 0))) (hgi : w.heap[gi]? = some (.cells #[.string id] 9 (0, 0))) (hgn : w.heap[gn]? = some (.cells #[.int .i64 now] 3 (0, 0))) (hgr : w.heap[gr]? = some (.cells (cellsOf r y.v) 27 (0, 0)))
    (hK : ∀ w' ms' rs' ds', Qb w' qb c ((k + 1 : Nat) : Int) ms' rs' ds' at_ → w'.ownsRow 0 226 5 ms' (nm + 1) (xm ++ msV k r.grp r.bod) → (∃ nr' xr', w'.ownsRow 0 9 1 rs' nr' xr' ∧ nr' ≤ nr + 1) → w'.ownsRow 0 230 3 ds' 1 (ddV id k (now + c.win)) → NewOr w ms ms' → NewOr w rs rs' → (∀ j, ds'.ownBlock = some j → Value.ownBlock (.slice ad 0 cd) = some j ∨ w.heap.size ≤ j) → Tch (qb :: (bl (.slice ad 0 cd) ++ (bl ms ++ bl rs))) w w' → K w') :
    Calls Tryz.prog 218 #[.pointer (some ⟨gq, 0, none⟩), .pointer (some ⟨gi, 0, none⟩), .pointer (some ⟨gn, 0, none⟩), .pointer (some ⟨gr, 0, none⟩)] w fun e w' => e = .returned (.tuple #[]) ∧ K w' := by
  have HG : Hid (∀ v' w', w'.ownsRow 0 230 3 v' 1 (ddV id k (now + c.win)) → (w.drew.alloc (.cells (ddV id k (now + c.win)).toArray 230)).grownBy w' (Value.ownBlock (.slice ad 0 cd)) → (v'.ownBlock = Value.ownBlock (.slice ad 0 cd) ∨ v'.ownBlock = some (w.drew.alloc (.cells (ddV id k (now + c.win)).toArray 230)).heap.size) → _) := fun v' w' => sent_fin K c r y id qb k nm nr cd gq gi gn gr now (now + c.win) ad ms rs at_ xm xr w hq hm hr hd hv hnm hnr hk hgq hgr hgi hgn hK v' w'
  have q3 : w.cell? ⟨qb, 3, none⟩ = some (.int .i64 c.win) := cell_qC hq 3 _ rfl
  have q6 : w.cell? ⟨qb, 6, none⟩ = some (.int .i64 (k : Int)) := cell_qC hq 6 _ rfl
  have q9 : w.cell? ⟨qb, 9, none⟩ = some (.slice ad 0 cd) := cell_qC hq 9 _ rfl
  have cq := cell_of_one hgq
  have ci := cell_of_one hgi
  have cn := cell_of_one hgn
  have l1 := hq.lt
  have l2 := lt_of_block hgq
  have l3 := lt_of_block hgi
  have l4 := lt_of_block hgn
  have HD : Hid (w.ownsRow 0 230 3 (.slice ad 0 cd) 0 []) := hd
  have hw1 : 0 < c.win := hwin.1
  have hw2 := hwin.2
  have hn1 := hnow.1
  have hn2 := hnow.2
  have hwr : IntKind.i64.wrap (now + c.win) = now + c.win := by rw [IntKind.wrap_i64]; omega
  have HZ : Hid (w.frozen? ⟨qb, 9, none⟩ = false) := hq.fz 9
  have HZB : Hid (∀ o, (w.drew.alloc o).frozen? ⟨qb, 9, none⟩ = false) := fun o => frozen_of_row _ qb 9 _ 191 ((Below.heap_alloc _ _ _ hq.lt).trans hq)
  clear hq hm hr hd hv hgq hgi hgn hgr hK hwin hnow
  go_enter Tryz.func218, Tryz.ntmps218
  go_wp2_with fail
  have z9 : w.frozen? ⟨qb, 9, none⟩ = false := HZ.out
  have z9a : w.drew.frozen? ⟨qb, 9, none⟩ = false := HZ.out
  have z9b : ∀ o, (w.drew.alloc o).frozen? ⟨qb, 9, none⟩ = false := fun o => HZB.out o
  have z9c : ∀ o, (w.alloc o).drew.frozen? ⟨qb, 9, none⟩ = false := fun o => HZB.out o
  have z9d : ∀ o, (w.alloc o).frozen? ⟨qb, 9, none⟩ = false := fun o => HZB.out o
  refine wp_region_noPanic ?_
  refine wp_region_held_drew (S := (fun w' => w'.cell? ⟨gq, 0, none⟩ = some (.pointer (some ⟨qb, 0, none⟩)) ∧ w'.cell? ⟨gi, 0, none⟩ = some (.string id) ∧ w'.cell? ⟨gn, 0, none⟩ = some (.int .i64 now) ∧ w'.cell? ⟨qb, 3, none⟩ = some (.int .i64 c.win) ∧ w'.cell? ⟨qb, 6, none⟩ = some (.int .i64 (k : Int)) ∧ w'.frozen? ⟨qb, 9, none⟩ = false)) (by kernel_rfl) (by go_keep) (fun hHeld => ?_)
  refine wpAnyH_take (i := 0) (v := ?_) rfl (by kernel_rfl) (by kernel_rfl) (by kernel_rfl) (fun _ _ _ h => h) (Or.inl ⟨by rfl, ?_⟩) (by assumption) ?_
  rotate_left
  · (intro w hSw; (try dsimp only at hSw); go_simp; try with_reducible rfl)
  try simp only [Act.put, List.setIfInBounds_toArray, List.set_cons_zero, List.set_cons_succ]
  refine wpAnyH_take (i := 1) (v := ?_) rfl (by kernel_rfl) (by kernel_rfl) (by kernel_rfl) (fun _ _ _ h => h) (Or.inl ⟨by rfl, ?_⟩) (by assumption) ?_
  rotate_left
  · (intro w hSw; (try dsimp only at hSw); go_simp; try with_reducible rfl)
  try simp only [Act.put, List.setIfInBounds_toArray, List.set_cons_zero, List.set_cons_succ]
  refine wpAnyH_take (i := 2) (v := ?_) rfl (by kernel_rfl) (by kernel_rfl) (by kernel_rfl) (fun _ _ _ h => h) (Or.inl ⟨by rfl, ?_⟩) (by assumption) ?_
  rotate_left
  · (intro w hSw; (try dsimp only at hSw); go_simp; try with_reducible rfl)
  try simp only [Act.put, List.setIfInBounds_toArray, List.set_cons_zero, List.set_cons_succ]
  refine wpAnyH_take (i := 3) (v := ?_) rfl (by kernel_rfl) (by kernel_rfl) (by kernel_rfl) (fun _ _ _ h => h) (Or.inl ⟨by rfl, ?_⟩) (by assumption) ?_
  rotate_left
  · (intro w hSw; (try dsimp only at hSw); go_simp; try with_reducible rfl)
  try simp only [Act.put, List.setIfInBounds_toArray, List.set_cons_zero, List.set_cons_succ]
  refine wpAnyH_take (i := 5) (v := ?_) rfl (by kernel_rfl) (by kernel_rfl) (by kernel_rfl) (fun _ _ _ h => h) (Or.inl ⟨by rfl, ?_⟩) (by assumption) ?_
  rotate_left
  · (intro w hSw; (try dsimp only at hSw); go_simp; try with_reducible rfl)
  try simp only [Act.put, List.setIfInBounds_toArray, List.set_cons_zero, List.set_cons_succ]
  refine wpAnyH_take (i := 6) (v := ?_) rfl (by kernel_rfl) (by kernel_rfl) (by kernel_rfl) (fun _ _ _ h => h) (Or.inl ⟨by rfl, ?_⟩) (by assumption) ?_
  rotate_left
  · (intro w hSw; (try dsimp only at hSw); go_simp; try with_reducible rfl)
  try simp only [Act.put, List.setIfInBounds_toArray, List.set_cons_zero, List.set_cons_succ]
  refine wpAnyH_take (i := 7) (v := ?_) rfl (by kernel_rfl) (by kernel_rfl) (by kernel_rfl) (fun _ _ _ h => h) (Or.inl ⟨by rfl, ?_⟩) (by assumption) ?_
  rotate_left
  · (intro w hSw; (try dsimp only at hSw); go_simp; try with_reducible rfl)
  try simp only [Act.put, List.setIfInBounds_toArray, List.set_cons_zero, List.set_cons_succ]
  refine wpAnyH_take (i := 8) (v := ?_) rfl (by kernel_rfl) (by kernel_rfl) (by kernel_rfl) (fun _ _ _ h => h) (Or.inl ⟨by rfl, ?_⟩) (by assumption) ?_
  rotate_left
  · (intro w hSw; (try dsimp only at hSw); go_simp; try with_reducible rfl)
  try simp only [Act.put, List.setIfInBounds_toArray, List.set_cons_zero, List.set_cons_succ]
  refine wpAnyH_take (i := 9) (v := ?_) rfl (by kernel_rfl) (by kernel_rfl) (by kernel_rfl) (fun _ _ _ h => h) (Or.inl ⟨by rfl, ?_⟩) (by assumption) ?_
  rotate_left
  · (intro w hSw; (try dsimp only at hSw); go_simp; try with_reducible rfl)
  try simp only [Act.put, List.setIfInBounds_toArray, List.set_cons_zero, List.set_cons_succ]
  refine wpAnyH_take (i := 10) (v := ?_) rfl (by kernel_rfl) (by kernel_rfl) (by kernel_rfl) (fun _ _ _ h => h) (Or.inl ⟨by rfl, ?_⟩) (by assumption) ?_
  rotate_left
  · (intro w hSw; (try dsimp only at hSw); go_simp; try with_reducible rfl)
  try simp only [Act.put, List.setIfInBounds_toArray, List.set_cons_zero, List.set_cons_succ]
  refine wpAnyH_take (i := 11) (v := ?_) rfl (by kernel_rfl) (by kernel_rfl) (by kernel_rfl) (fun _ _ _ h => h) (Or.inl ⟨by rfl, ?_⟩) (by assumption) ?_
  rotate_left
  · (intro w hSw; (try dsimp only at hSw); go_simp; try with_reducible rfl)
  try simp only [Act.put, List.setIfInBounds_toArray, List.set_cons_zero, List.set_cons_succ]
  refine wpAnyH_take (i := 12) (v := ?_) rfl (by kernel_rfl) (by kernel_rfl) (by kernel_rfl) (fun _ _ _ h => h) (Or.inl ⟨by rfl, ?_⟩) (by assumption) ?_
  rotate_left
  · (intro w hSw; (try dsimp only at hSw); go_simp; try with_reducible rfl)
  try simp only [Act.put, List.setIfInBounds_toArray, List.set_cons_zero, List.set_cons_succ]
  refine wpAnyH_take (i := 13) (v := ?_) rfl (by kernel_rfl) (by kernel_rfl) (by kernel_rfl) (fun _ _ _ h => h) (Or.inl ⟨by rfl, ?_⟩) (by assumption) ?_
  rotate_left
  · (intro w hSw; (try dsimp only at hSw); go_simp; try with_reducible rfl)
  try simp only [Act.put, List.setIfInBounds_toArray, List.set_cons_zero, List.set_cons_succ]
  refine wpAnyH_take (i := 14) (v := ?_) rfl (by kernel_rfl) (by kernel_rfl) (by kernel_rfl) (fun _ _ _ h => h) (Or.inl ⟨by rfl, ?_⟩) (by assumption) ?_
  rotate_left
  · (intro w hSw; (try dsimp only at hSw); go_simp; try with_reducible rfl)
  try simp only [Act.put, List.setIfInBounds_toArray, List.set_cons_zero, List.set_cons_succ]
  refine wpAnyH_take (i := 15) (v := ?_) rfl (by kernel_rfl) (by kernel_rfl) (by kernel_rfl) (fun _ _ _ h => h) (Or.inl ⟨by rfl, ?_⟩) (by assumption) ?_
  rotate_left
  · (intro w hSw; (try dsimp only at hSw); go_simp; try with_reducible rfl)
  try simp only [Act.put, List.setIfInBounds_toArray, List.set_cons_zero, List.set_cons_succ]
  refine wpAnyH_take (i := 16) (v := ?_) rfl (by kernel_rfl) (by kernel_rfl) (by kernel_rfl) (fun _ _ _ h => h) (Or.inl ⟨by rfl, ?_⟩) (by assumption) ?_
  rotate_left
  · (intro w hSw; (try dsimp only at hSw); go_simp; try with_reducible rfl)
  try simp only [Act.put, List.setIfInBounds_toArray, List.set_cons_zero, List.set_cons_succ]
  refine wpAnyH_ready (rs := [4, 17]) (by kernel_rfl) (by simp) ?_
  refine AllReadyH.cons rfl (fun K' hK' => ?_) (AllReadyH.cons rfl (fun K' hK' => ?_) AllReadyH.nil)
  · go_simp
    refine hK'.out _ _ (by go_keep) (fun hHeld => ?_)
    clear hK' K'
    try simp only [Act.put, List.setIfInBounds_toArray, List.set_cons_zero, List.set_cons_succ]
    refine wpAnyH_ready (rs := [17]) (by kernel_rfl) (by simp) ?_
    refine AllReadyH.cons rfl (fun K' hK' => ?_) AllReadyH.nil
    go_simp
    refine hK'.out _ _ (by go_keep) (fun hHeld => ?_)
    clear hK' K'
    try simp only [Act.put, List.setIfInBounds_toArray, List.set_cons_zero, List.set_cons_succ]
    refine wpAnyH_ready (rs := [18]) (by kernel_rfl) (by simp) ?_
    refine AllReadyH.cons rfl (fun K' hK' => ?_) AllReadyH.nil
    refine step_vals rfl (.tmp 13) (.tmp 26) 188 230 rfl Tryz.underlying188 (.agg #[.string ⟨#[]⟩, .int .i64 0, .int .i64 0]) 3 32 info219 rfl (by decide) (by decide) (.slice ad 0 cd) 0 [] (by simp [Act.eval, Act.put]) (by first | exact own_tch HD.out ((Tch.refl [] _).alloc _).drew (fun _ _ => by simp) | exact own_tch HD.out ((Tch.refl [] _).drew.alloc _) (fun _ _ => by simp)) w.heap.size (ddV id k (now + c.win)) 1 (by simp [Act.eval, Act.put]) rfl (by decide) (by first | exact heap_alloc_new _ _ | exact heap_alloc_new w _) (by intro u hu; simp at hu; rcases hu with rfl | rfl | rfl <;> rfl) (by omega) ?_; intro v' w9 ho3 hg3 hb3; obtain ⟨g4, cap4, hv4, ⟨s1, s2, s3, s4, s5, s6⟩, d9, ⟨u1, u2, u3, u4, u5, u6⟩, d10, e10, hfin⟩ := HG.out v' w9 ho3 hg3 hb3; subst hv4; clear ho3 hg3 hb3; have HFIN : Hid (Calls Tryz.prog 219 _ _ _) := hfin; clear hfin
    refine hK'.out _ _ (by go_keep) (fun hHeld => ?_)
    clear hK' K'
    try simp only [Act.put, List.setIfInBounds_toArray, List.set_cons_zero, List.set_cons_succ]
    refine wpAnyH_take (i := 19) (v := ?_) rfl (by kernel_rfl) (by kernel_rfl) (by kernel_rfl) (fun _ _ _ h => h) (Or.inl ⟨by rfl, ?_⟩) (by assumption) ?_
    rotate_left
    · (intro w hSw; (try dsimp only at hSw); go_simp; try with_reducible rfl)
    try simp only [Act.put, List.setIfInBounds_toArray, List.set_cons_zero, List.set_cons_succ]
    refine wpAnyH_take (i := 20) (v := ?_) rfl (by kernel_rfl) (by kernel_rfl) (by kernel_rfl) (fun _ _ _ h => h) (Or.inl ⟨by rfl, ?_⟩) (by assumption) ?_
    rotate_left
    · (intro w hSw; (try dsimp only at hSw); go_simp; try with_reducible rfl)
    try simp only [Act.put, List.setIfInBounds_toArray, List.set_cons_zero, List.set_cons_succ]
    refine wpAnyH_ready (rs := [21]) (by kernel_rfl) (by simp) ?_
    refine AllReadyH.cons rfl (fun K' hK' => ?_) AllReadyH.nil
    go_simp
    refine hK'.out _ _ (by go_keep) (fun hHeld => ?_)
    clear hK' K'
    try simp only [Act.put, List.setIfInBounds_toArray, List.set_cons_zero, List.set_cons_succ]
    refine wpAnyH_done (by kernel_rfl) ?_ _
    refine NoPanic.normal ?_
    go_wp2_with fail
    refine HFIN.out.mono ?_
    rintro e w2 ⟨rfl, hk2⟩
    go_wp2_with fail
    go_end0
    exact ⟨rfl, hk2⟩
  · go_simp
    refine hK'.out _ _ (by go_keep) (fun hHeld => ?_)
    clear hK' K'
    try simp only [Act.put, List.setIfInBounds_toArray, List.set_cons_zero, List.set_cons_succ]
    refine wpAnyH_ready (rs := [4]) (by kernel_rfl) (by simp) ?_
    refine AllReadyH.cons rfl (fun K' hK' => ?_) AllReadyH.nil
    go_simp
    refine hK'.out _ _ (by go_keep) (fun hHeld => ?_)
    clear hK' K'
    try simp only [Act.put, List.setIfInBounds_toArray, List.set_cons_zero, List.set_cons_succ]
    refine wpAnyH_ready (rs := [18]) (by kernel_rfl) (by simp) ?_
    refine AllReadyH.cons rfl (fun K' hK' => ?_) AllReadyH.nil
    refine step_vals rfl (.tmp 13) (.tmp 26) 188 230 rfl Tryz.underlying188 (.agg #[.string ⟨#[]⟩, .int .i64 0, .int .i64 0]) 3 32 info219 rfl (by decide) (by decide) (.slice ad 0 cd) 0 [] (by simp [Act.eval, Act.put]) (by first | exact own_tch HD.out ((Tch.refl [] _).alloc _).drew (fun _ _ => by simp) | exact own_tch HD.out ((Tch.refl [] _).drew.alloc _) (fun _ _ => by simp)) w.heap.size (ddV id k (now + c.win)) 1 (by simp [Act.eval, Act.put]) rfl (by decide) (by first | exact heap_alloc_new _ _ | exact heap_alloc_new w _) (by intro u hu; simp at hu; rcases hu with rfl | rfl | rfl <;> rfl) (by omega) ?_; intro v' w9 ho3 hg3 hb3; obtain ⟨g4, cap4, hv4, ⟨s1, s2, s3, s4, s5, s6⟩, d9, ⟨u1, u2, u3, u4, u5, u6⟩, d10, e10, hfin⟩ := HG.out v' w9 ho3 hg3 hb3; subst hv4; clear ho3 hg3 hb3; have HFIN : Hid (Calls Tryz.prog 219 _ _ _) := hfin; clear hfin
    refine hK'.out _ _ (by go_keep) (fun hHeld => ?_)
    clear hK' K'
    try simp only [Act.put, List.setIfInBounds_toArray, List.set_cons_zero, List.set_cons_succ]
    refine wpAnyH_take (i := 19) (v := ?_) rfl (by kernel_rfl) (by kernel_rfl) (by kernel_rfl) (fun _ _ _ h => h) (Or.inl ⟨by rfl, ?_⟩) (by assumption) ?_
    rotate_left
    · (intro w hSw; (try dsimp only at hSw); go_simp; try with_reducible rfl)
    try simp only [Act.put, List.setIfInBounds_toArray, List.set_cons_zero, List.set_cons_succ]
    refine wpAnyH_take (i := 20) (v := ?_) rfl (by kernel_rfl) (by kernel_rfl) (by kernel_rfl) (fun _ _ _ h => h) (Or.inl ⟨by rfl, ?_⟩) (by assumption) ?_
    rotate_left
    · (intro w hSw; (try dsimp only at hSw); go_simp; try with_reducible rfl)
    try simp only [Act.put, List.setIfInBounds_toArray, List.set_cons_zero, List.set_cons_succ]
    refine wpAnyH_ready (rs := [21]) (by kernel_rfl) (by simp) ?_
    refine AllReadyH.cons rfl (fun K' hK' => ?_) AllReadyH.nil
    go_simp
    refine hK'.out _ _ (by go_keep) (fun hHeld => ?_)
    clear hK' K'
    try simp only [Act.put, List.setIfInBounds_toArray, List.set_cons_zero, List.set_cons_succ]
    refine wpAnyH_done (by kernel_rfl) ?_ _
    refine NoPanic.normal ?_
    go_wp2_with fail
    refine HFIN.out.mono ?_
    rintro e w2 ⟨rfl, hk2⟩
    go_wp2_with fail
    go_end0
    exact ⟨rfl, hk2⟩
end Go.Proofs.YtbdobaapadlcjaaGreatDoor
