/-
  THE STEPS OF A GAME: what was sent, sent again, the time, sent late.
-/
import Derived.Test.YtohanpmkgpcdcaaGreatDoorTlA
import Derived.Test.YtohanpmkgpcdcaaGreatDoorTlB
namespace Go.Proofs.YtohanpmkgpcdcaaGreatDoor
open Go.RowKit
set_option linter.unusedVariables false

/-- The tables. -/
structure Env (B : Nat) (w : World) : Prop where
  lays : Lays B w
  tab : Tab w
  size : B ≤ w.heap.size
  three : 3 ≤ B
theorem Env.tch {B : Nat} {w w' : World} (h : Env B w) {S : List Nat} (ht : Tch S w w') (hS : ∀ k ∈ S, B ≤ k) : Env B w' := ⟨Lays.tch h.lays ht hS h.size, h.tab.tch ht (fun k hk => Nat.le_trans h.three (hS k hk)) (Nat.le_trans h.three h.size), Nat.le_trans h.size ht.size, h.three⟩

/-- A request of the Op S that is right. -/
structure Snd (r : Wp.Rq) : Prop where
  wf : Wf r
  right : rightW r nil0 (Wp.short []) = true
  op : r.op = 83
  q : r.q = 97
  bod : r.bod.size ≤ 40
theorem snd_of (g d b : ByteArray) (hg1 : 1 ≤ g.size) (hg8 : g.size ≤ 8) (hd8 : d.size ≤ 8) (hdo : Wp.dedOk d = true) (hb : b.size ≤ 40) : Snd ⟨83, 97, 0, 0, 0, 0, 0, 0, 0, g, d, b, ⟨#[]⟩, ⟨#[]⟩⟩ := by
  have hwf : Wf ⟨83, 97, 0, 0, 0, 0, 0, 0, 0, g, d, b, ⟨#[]⟩, ⟨#[]⟩⟩ := Keep.wf_small _ Keep.zz Keep.zz Keep.zz Keep.zz Keep.zz Keep.zz
  refine ⟨hwf, ?_, rfl, rfl, hb⟩
  refine (right_iff _ _ _ hwf).2 ⟨18, by decide, rfl, ?_, rfl, rfl⟩
  show List.all [0, 9, 10, 11] _ = true
  simp only [List.all_cons, List.all_nil, Bool.and_true, Bool.and_eq_true]
  exact ⟨Keep.fits_of _ _ _ 0 (by decide) (by decide) (by decide) (show (97 : Int) ≤ 97 by omega) (show (97 : Int) ≤ 104 by omega), Keep.fits_of _ _ _ 9 (by decide) (by decide) (by decide) (show (1 : Int) ≤ (g.size : Int) by omega) (show (g.size : Int) ≤ 8 by omega), Keep.fits_dedup _ _ _ hd8 hdo, Keep.fits_of _ _ _ 11 (by decide) (by decide) (by decide) (show (0 : Int) ≤ (b.size : Int) by omega) (show (b.size : Int) ≤ 255 by omega)⟩
theorem tick_of (n : Int) (h1 : 1 ≤ n) (h2 : n ≤ 1000) : Wf ⟨84, 0, 0, 0, 0, 0, 0, 0, n, ⟨#[]⟩, ⟨#[]⟩, ⟨#[]⟩, ⟨#[]⟩, ⟨#[]⟩⟩ ∧ rightW ⟨84, 0, 0, 0, 0, 0, 0, 0, n, ⟨#[]⟩, ⟨#[]⟩, ⟨#[]⟩, ⟨#[]⟩, ⟨#[]⟩⟩ nil0 (Wp.short []) = true := by
  have hwf : Wf ⟨84, 0, 0, 0, 0, 0, 0, 0, n, ⟨#[]⟩, ⟨#[]⟩, ⟨#[]⟩, ⟨#[]⟩, ⟨#[]⟩⟩ := Keep.wf_small _ Keep.zz Keep.zz Keep.zz Keep.zz Keep.zz ⟨by show (0 : Int) ≤ n; omega, by show n ≤ (1001 : Int); omega⟩
  refine ⟨hwf, ?_⟩
  refine (right_iff _ _ _ hwf).2 ⟨19, by decide, rfl, ?_, rfl, rfl⟩
  show List.all [8] _ = true
  simp only [List.all_cons, List.all_nil, Bool.and_true]
  exact Keep.fits_of _ _ _ 8 (by decide) (by decide) (by decide) (show (1 : Int) ≤ n by omega) (show n ≤ (1000 : Int) by omega)

/-- One message was sent; nd: is its dedup there. -/
structure Sent (w : World) (x st b qb gm cm gd cd nd : Nat) (rs : Value) (c : Wp.Rq) (m : Ms) (d : Dd) (now : Int) : Prop where
  brk : Brk w x st b now (.pointer (some ⟨qb, 0, none⟩))
  que : Qb w qb c 2 (.slice (some ⟨gm, 0, none⟩) 1 cm) rs (.slice (some ⟨gd, 0, none⟩) nd cd) (.slice none 0 0)
  ms : w.ownsRow 0 214 5 (.slice (some ⟨gm, 0, none⟩) 1 cm) 1 m.row
  dd : w.ownsRow 0 219 3 (.slice (some ⟨gd, 0, none⟩) nd cd) nd (if nd = 1 then d.row else [])
  rd : ∃ nr xr, w.ownsRow 0 9 1 rs nr xr ∧ nr ≤ 1

theorem Sent.tch {w w' : World} {x st b qb gm cm gd cd nd : Nat} {rs : Value} {c : Wp.Rq} {m : Ms} {d : Dd} {now : Int} (h : Sent w x st b qb gm cm gd cd nd rs c m d now) (ht : Tch [] w w') : Sent w' x st b qb gm cm gd cd nd rs c m d now :=
  ⟨h.brk.tch ht (by simp) (by simp) (by simp), h.que.tch ht (by simp), own_tch h.ms ht (fun _ _ => by simp), own_tch h.dd ht (fun _ _ => by simp), by
    obtain ⟨nr, xr, hr, hn⟩ := h.rd
    exact ⟨nr, xr, own_tch hr ht (fun _ _ => by simp), hn⟩⟩

/-- The first one is taken. -/
theorem step_one (B : Nat) (c r : Wp.Rq) (lb x st b qb : Nat) (w : World) (hE : Env B w) (hG : Game w lb x st b qb c) (hr : Snd r) (hwin : 0 < c.win ∧ c.win ≤ 1001) (hquo : 2 ≤ c.quo) :
    Calls Tryz.prog 18 #[.pointer (some ⟨x, 0, none⟩), .agg (cellsOf r nil0.v)] w fun e w' => e = .returned (.string (okN 1)) ∧ Tch [qb] w w' ∧ ∃ gm cm gd cd rs, Sent w' x st b qb gm cm gd cd 1 rs c ⟨1, r.grp, r.bod, 0, 0⟩ ⟨didS r, 1, c.win⟩ 0 ∧ w.heap.size ≤ gd ∧ w.heap.size ≤ gm ∧ ∀ j, rs.ownBlock = some j → w.heap.size ≤ j := by
  refine asked_new B (fun w' => Tch [qb] w w' ∧ ∃ gm cm gd cd rs, Sent w' x st b qb gm cm gd cd 1 rs c ⟨1, r.grp, r.bod, 0, 0⟩ ⟨didS r, 1, c.win⟩ 0 ∧ w.heap.size ≤ gd ∧ w.heap.size ≤ gm ∧ ∀ j, rs.ownBlock = some j → w.heap.size ≤ j) c r x st b qb 1 0 0 0 0 none (.slice none 0 0) (.slice none 0 0) (.slice none 0 0) [] [] w hr.wf hr.right hr.op hr.q hE.lays hE.size hE.tab (Nat.le_trans hE.three hE.size) hG.brk hG.que hr.bod (World.ownsRow_nil _ _ _ _) (World.ownsRow_nil _ _ _ _) (World.ownsRow_nil _ _ _ _) (.inl ⟨_, _, rfl⟩) (by decide) (by decide) (by decide) (by omega) hwin (by omega) ?_
  intro w' ms' rs' ds' hB hQ hm hrr hd hN1 hN2 hj ht
  obtain ⟨gm, cm, hmv⟩ := own_some hm
  obtain ⟨gd, cd, hdv⟩ := own_some (n := 0) hd
  subst hmv hdv
  obtain ⟨nr', xr', hr1, hr2⟩ := hrr
  refine ⟨ht, gm, cm, gd, cd, rs', ⟨hB, hQ, hm, ?_, ⟨nr', xr', hr1, by omega⟩⟩, ?_, ?_, ?_⟩
  · show w'.ownsRow 0 219 3 _ 1 (ddV (didS r) 1 c.win)
    have h := hd
    rw [Int.zero_add] at h
    exact h
  · rcases hj gd rfl with h | h
    · simp [Value.ownBlock] at h
    · exact h
  · rcases hN1 gm rfl with h | h
    · simp [Value.ownBlock] at h
    · exact h
  · intro j hj
    rcases hN2 j hj with h | h
    · simp [Value.ownBlock] at h
    · exact h

/-- The same again: the same number. -/
theorem step_again (B : Nat) (c r : Wp.Rq) (x st b qb gm cm gd cd : Nat) (rs : Value) (m : Ms) (d : Dd) (now : Int) (w : World) (hE : Env B w) (hG : Sent w x st b qb gm cm gd cd 1 rs c m d now) (hr : Snd r) (hid : d.id = didS r) (hnum : d.num = 1) :
    Calls Tryz.prog 18 #[.pointer (some ⟨x, 0, none⟩), .agg (cellsOf r nil0.v)] w fun e w' => e = .returned (.string (okN 1)) ∧ Tch [] w w' :=
  asked_found B c r x st b qb gd cd d now 2 _ rs _ w hr.wf hr.right hr.op hr.q hE.lays hE.size hE.tab (Nat.le_trans hE.three hE.size) hG.brk hG.que hr.bod (own_lt hG.dd rfl) (dd_cells hG.dd) hid hnum

/-- The time goes on. -/
theorem step_time (B : Nat) (c : Wp.Rq) (x st b qb gm cm gd cd : Nat) (rs : Value) (m : Ms) (d : Dd) (n : Int) (w : World) (hE : Env B w) (hG : Sent w x st b qb gm cm gd cd 1 rs c m d 0) (hn : 1 ≤ n ∧ n ≤ 1000) (hdash : c.d = 45) (hmt : m.til = 0) :
    Calls Tryz.prog 18 #[.pointer (some ⟨x, 0, none⟩), .agg (cellsOf ⟨84, 0, 0, 0, 0, 0, 0, 0, n, ⟨#[]⟩, ⟨#[]⟩, ⟨#[]⟩, ⟨#[]⟩, ⟨#[]⟩⟩ nil0.v)] w fun e w' => e = .returned (.string ⟨#[0]⟩) ∧ Tch [st, qb, gd] w w' ∧
      ((n < d.til ∧ Sent w' x st b qb gm cm gd cd 1 rs c m d n) ∨ (d.til ≤ n ∧ Sent w' x st b qb gm cm gd cd 0 rs c m d n)) := by
  obtain ⟨hwf, hright⟩ := tick_of n hn.1 hn.2
  refine (asked_T B c ⟨84, 0, 0, 0, 0, 0, 0, 0, n, ⟨#[]⟩, ⟨#[]⟩, ⟨#[]⟩, ⟨#[]⟩, ⟨#[]⟩⟩ x st b qb gm cm gd cd m d 0 2 rs w hwf hright rfl hE.lays hE.size hG.brk hG.que hdash hG.ms hmt hG.dd ⟨by omega, by show (0 : Int) ≤ n; omega, by show 0 + n ≤ (60000 : Int); omega⟩).mono ?_
  rintro e w' ⟨rfl, ht, hB, hor⟩
  refine ⟨rfl, ht, ?_⟩
  have e0 : (0 : Int) + n = n := by omega
  rw [show ((0 : Int) + (⟨84, 0, 0, 0, 0, 0, 0, 0, n, ⟨#[]⟩, ⟨#[]⟩, ⟨#[]⟩, ⟨#[]⟩, ⟨#[]⟩⟩ : Wp.Rq).tic) = n from e0] at hB hor
  obtain ⟨nr, xr, hr, hnr⟩ := hG.rd
  obtain ⟨curd, hrd⟩ : ∃ cur, w.heap[gd]? = some (.cells cur 219 (0, 0)) := by
    rcases hG.dd.2 with ⟨e, _⟩ | ⟨g', cap', cur, e, _, hr, _⟩
    · simp at e
    · simp at e
      obtain ⟨rfl, rfl⟩ := e
      exact ⟨cur, hr⟩
  have hap : ∀ {t : TypeId} {size n' : Nat} {v : Value} {xs : List Value}, w.ownsRow 0 t size v n' xs → t ≠ 148 → t ≠ 208 → t ≠ 219 → w'.ownsRow 0 t size v n' xs := fun h h1 h2 h3 => own_tch h ht (fun j hj hm => by
    simp at hm
    rcases hm with e | e | e
    · subst e; exact own_ne h hG.brk.hst h1 hj
    · subst e; exact own_ne h hG.que h2 hj
    · subst e; exact own_ne h hrd h3 hj)
  have hm' := hap hG.ms (by decide) (by decide) (by decide)
  have hr' := hap hr (by decide) (by decide) (by decide)
  rcases hor with ⟨h1, h2, h3⟩ | ⟨h1, h2, h3⟩
  · exact .inl ⟨h1, hB, h2, hm', h3, nr, xr, hr', hnr⟩
  · exact .inr ⟨h1, hB, h2, hm', h3, nr, xr, hr', hnr⟩

/-- Sent late: another number. -/
theorem step_late (B : Nat) (c r : Wp.Rq) (lb x st b qb gm cm gd cd : Nat) (rs : Value) (m : Ms) (d : Dd) (now : Int) (C : Array Value) (w : World) (hE : Env B w) (hG : Sent w x st b qb gm cm gd cd 0 rs c m d now) (hr : Snd r) (hwin : 0 < c.win ∧ c.win ≤ 1001) (hquo : 2 ≤ c.quo) (hnow : 0 ≤ now ∧ now ≤ 60000)
    (hl : w.heap[lb]? = some (.cells C 42 (0, 0))) :
    Calls Tryz.prog 18 #[.pointer (some ⟨x, 0, none⟩), .agg (cellsOf r nil0.v)] w fun e w' => e = .returned (.string (okN 2)) ∧ w'.heap[lb]? = some (.cells C 42 (0, 0)) ∧ ∃ S, Tch S w w' ∧ ∀ k ∈ S, k = qb ∨ k = gd ∨ k = gm ∨ rs.ownBlock = some k := by
  obtain ⟨nr, xr, hrd, hnr⟩ := hG.rd
  have hv : Ms1 w (.slice (some ⟨gm, 0, none⟩) 1 cm) := .inr ⟨gm, cm, m, rfl, own_lt hG.ms rfl, fun i u hi => by
    have h1 := World.ownsRow.cells hG.ms (g := gm) rfl i u hi
    have e : (⟨gm, 0, none⟩ : Addr).add i = ⟨gm, i, none⟩ := by unfold Addr.add; split <;> simp_all
    rw [e] at h1
    exact h1⟩
  refine asked_new B (fun w' => w'.heap[lb]? = some (.cells C 42 (0, 0)) ∧ ∃ S, Tch S w w' ∧ ∀ k ∈ S, k = qb ∨ k = gd ∨ k = gm ∨ rs.ownBlock = some k) c r x st b qb 2 1 nr cd now (some ⟨gd, 0, none⟩) _ rs _ m.row xr w hr.wf hr.right hr.op hr.q hE.lays hE.size hE.tab (Nat.le_trans hE.three hE.size) hG.brk hG.que hr.bod hG.ms hrd hG.dd hv (by decide) (by omega) (by decide) (by omega) hwin hnow ?_
  intro w' ms' rs' ds' hB hQ hm hrr hd hN1 hN2 hj ht
  refine ⟨?_, _, ht, fun k hk => ?_⟩
  rotate_left
  · rcases List.mem_cons.1 hk with h | h
    · exact .inl h
    · rcases List.mem_append.1 h with h | h
      · have h1 := mem_bl.1 h
        simp [Value.ownBlock] at h1
        exact .inr (.inl h1.symm)
      · rcases List.mem_append.1 h with h | h
        · have h1 := mem_bl.1 h
          simp [Value.ownBlock] at h1
          exact .inr (.inr (.inl h1.symm))
        · exact .inr (.inr (.inr (mem_bl.1 h)))
  refine (ht.block lb (lt_of_block hl) (fun hmem => ?_)).trans hl
  rcases List.mem_cons.1 hmem with h | h
  · subst h
    have h1 : w.heap[lb]? = _ := hG.que
    rw [hl] at h1
    simp at h1
  · rcases List.mem_append.1 h with h | h
    · exact own_ne hG.dd hl (by decide) (mem_bl.1 h)
    · rcases List.mem_append.1 h with h | h
      · exact own_ne hG.ms hl (by decide) (mem_bl.1 h)
      · exact own_ne hrd hl (by decide) (mem_bl.1 h)
end Go.Proofs.YtohanpmkgpcdcaaGreatDoor
