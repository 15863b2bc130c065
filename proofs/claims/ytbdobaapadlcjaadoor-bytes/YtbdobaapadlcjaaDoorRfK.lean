/-
  THE WALK of package wharfref's Print (35): it answers what package wharf's Print does.
-/
import Derived.Test.YtbdobaapadlcjaaDoorRfI
import Derived.Test.YtbdobaapadlcjaaDoorRfJ1
import Derived.Test.YtbdobaapadlcjaaDoorBackK
namespace Go.Proofs.YtbdobaapadlcjaaDoor.Ref
open Go.RowKit
set_option linter.unusedVariables false

theorem nums (r : Wp.Rq) (n : Nat) (b : Bool) (f : Nat) (h : r.fits n b f = true) (h1 : f ≠ 1) (h10 : f ≠ 10) (h14 : f ≠ 14) : Wp.least f ≤ r.measure n f ∧ r.measure n f ≤ Wp.most f := (fits_num r n b f h1 h10 h14).1 h
theorem written_any (r : Wp.Rq) (x : Sl) (bs : List ByteArray) (w : World) (hw : Wf r) (hxn : x.n = bs.length) (hS : Strs w x.a bs) (hr : rightW r x (Wp.short bs) = true) :
    Calls Tryd.prog 63 #[.agg (cellsOf r x.v)] w fun e w' => e = .returned (.string (printS r x bs)) ∧ Below w.heap.size w w' := by
  obtain ⟨i, hi, hop, hall, _, _⟩ := (right_iff r x _ hw).1 hr
  have hp : printS r x bs = ⟨(r.op :: encL r bs (Wp.lay i)).toArray⟩ := by
    rw [printS, if_pos hr, hop, Nat.add_sub_cancel_left]
  rw [hp]
  have hf := List.all_eq_true.1 hall
  simp only [opsAt, List.mem_cons, List.not_mem_nil, or_false] at hi
  rcases hi with rfl | rfl | rfl | rfl | rfl | rfl | rfl | rfl | rfl | rfl
  · have h13 : (0 : Int) ≤ (r.han.size : Int) ∧ (r.han.size : Int) ≤ 255 := nums r _ _ 13 (hf 13 (by decide)) (by decide) (by decide) (by decide)
    exact written_65 r x bs w hop (by omega)
  · have h14 := (fits_bat r _ _).1 (hf 14 (by decide))
    have h := written_66 r x.a x.c bs w hop (by omega) (fun s hs => by simpa using List.all_eq_true.1 h14.2 s hs) hS
    have e : x.v = .slice x.a bs.length x.c := by show Value.slice x.a x.n x.c = _; rw [hxn]
    rw [e]
    exact h
  · have h2 : (1 : Int) ≤ r.vis ∧ r.vis ≤ 1000 := nums r _ _ 2 (hf 2 (by decide)) (by decide) (by decide) (by decide)
    have h3 : (0 : Int) ≤ r.win ∧ r.win ≤ 1000 := nums r _ _ 3 (hf 3 (by decide)) (by decide) (by decide) (by decide)
    have h4 : (0 : Int) ≤ r.rcv ∧ r.rcv ≤ 9 := nums r _ _ 4 (hf 4 (by decide)) (by decide) (by decide) (by decide)
    have h5 : (1 : Int) ≤ r.quo ∧ r.quo ≤ 50 := nums r _ _ 5 (hf 5 (by decide)) (by decide) (by decide) (by decide)
    exact written_67 r x bs w hop (by omega) (by omega) (by omega) (by omega)
  · have h13 : (0 : Int) ≤ (r.han.size : Int) ∧ (r.han.size : Int) ≤ 255 := nums r _ _ 13 (hf 13 (by decide)) (by decide) (by decide) (by decide)
    have h7 : (0 : Int) ≤ r.tic ∧ r.tic ≤ 1000 := nums r _ _ 7 (hf 7 (by decide)) (by decide) (by decide) (by decide)
    exact written_69 r x bs w hop (by omega) (by omega)
  · exact written_80 r x bs w hop
  · have h12 : (0 : Int) ≤ (r.att.size : Int) ∧ (r.att.size : Int) ≤ 8 := nums r _ _ 12 (hf 12 (by decide)) (by decide) (by decide) (by decide)
    have h6 : (1 : Int) ≤ r.mx ∧ r.mx ≤ 10 := nums r _ _ 6 (hf 6 (by decide)) (by decide) (by decide) (by decide)
    exact written_82 r x bs w hop (by omega) (by omega)
  · have h9 : (1 : Int) ≤ (r.grp.size : Int) ∧ (r.grp.size : Int) ≤ 8 := nums r _ _ 9 (hf 9 (by decide)) (by decide) (by decide) (by decide)
    have h10 := (fits_ded r _ _).1 (hf 10 (by decide))
    have h11 : (0 : Int) ≤ (r.bod.size : Int) ∧ (r.bod.size : Int) ≤ 255 := nums r _ _ 11 (hf 11 (by decide)) (by decide) (by decide) (by decide)
    exact written_83 r x bs w hop (by omega) (by omega) (by omega)
  · have h8 : (1 : Int) ≤ r.tic ∧ r.tic ≤ 1000 := nums r _ _ 8 (hf 8 (by decide)) (by decide) (by decide) (by decide)
    exact written_84 r x bs w hop (by omega)
  · exact written_86 r x bs w hop
  · exact written_88 r x bs w hop

set_option maxRecDepth 100000 in
set_option maxHeartbeats 1000000 in
theorem print_ref (r : Wp.Rq) (x : Sl) (bs : List ByteArray) (w : World) (hw : Wf r) (hxn : x.n = bs.length) (hb : bs.length ≤ 8796093022208) (hbs : ∀ s ∈ bs, s.size ≤ maxLen) (hS : Strs w x.a bs) :
    Calls Tryd.prog 35 #[.agg (cellsOf r x.v)] w fun e w' => e = .returned (.tuple #[.string (printS r x bs), .int .i64 (printE r x bs)]) ∧ Below w.heap.size w w' := by
  have hinf := info37
  have HR : Hid (∀ W, Below w.heap.size w W → Calls Tryd.prog 62 #[.agg (cellsOf r x.v)] W fun e w' => e = .returned (.bool (rightW r x (Wp.short bs))) ∧ Below W.heap.size W w') := fun W hW => right_any r x bs W hw hxn hb hbs (hS.below hW)
  have HWR : Hid (∀ W, Below w.heap.size w W → rightW r x (Wp.short bs) = true → Calls Tryd.prog 63 #[.agg (cellsOf r x.v)] W fun e w' => e = .returned (.string (printS r x bs)) ∧ Below W.heap.size W w') := fun W hW h => written_any r x bs W hw hxn (hS.below hW) h
  clear hw hxn hb hbs hS
  cases hq : rightW r x (Wp.short bs) with
  | false =>
    have HP : Hid (printS r x bs = ⟨#[]⟩ ∧ printE r x bs = 1) := print_none r x bs hq
    rw [hq] at HR
    clear hq
    go_enter Tryd.func35, Tryd.ntmps35
    go_wp2_with (refine wpList_load_row rfl 37 _ rfl w.heap.size rfl 37 (cellsOf r x.v) (0, 0) _ (heap_alloc_new _ _) Tryd.underlying37 rfl hinf ?_)
    refine (HR.out _ ((Below.refl _ _).alloc (Nat.le_refl _) _)).mono ?_
    rintro e w1 ⟨rfl, hb1⟩
    have HB1 : Hid (Below w.heap.size w w1) := ((Below.refl _ _).alloc (Nat.le_refl _) _).trans (hb1.mono (by simp))
    clear hb1
    go_wp2_with fail
    go_ret2
    exact ⟨ret_print HP.out.1.symm HP.out.2.symm, HB1.out⟩
  | true =>
    have HP : Hid (printE r x bs = 0) := (print_bytes r x bs hq).2
    have HWR2 : Hid (∀ W, Below w.heap.size w W → Calls Tryd.prog 63 #[.agg (cellsOf r x.v)] W fun e w' => e = .returned (.string (printS r x bs)) ∧ Below W.heap.size W w') := fun W hW => HWR.out W hW hq
    rw [hq] at HR
    clear hq HWR
    generalize printS r x bs = PS at HWR2
    go_enter Tryd.func35, Tryd.ntmps35
    go_wp2_with (refine wpList_load_row rfl 37 _ rfl w.heap.size rfl 37 (cellsOf r x.v) (0, 0) _ (heap_alloc_new _ _) Tryd.underlying37 rfl hinf ?_)
    refine (HR.out _ ((Below.refl _ _).alloc (Nat.le_refl _) _)).mono ?_
    rintro e w1 ⟨rfl, hb1⟩
    have HB1 : Hid (Below w.heap.size w w1) := ((Below.refl _ _).alloc (Nat.le_refl _) _).trans (hb1.mono (by simp))
    have HK1 : Hid (w1.heap[w.heap.size]? = some (.cells (cellsOf r x.v) 37 (0, 0))) := by
      show _ = _
      rw [hb1.block _ (by simp)]; exact heap_alloc_new _ _
    clear hb1
    go_wp2_with (refine wpList_load_row rfl 37 _ rfl w.heap.size rfl 37 (cellsOf r x.v) (0, 0) _ HK1.out Tryd.underlying37 rfl hinf ?_)
    refine (HWR2.out _ HB1.out).mono ?_
    rintro e w2 ⟨rfl, hb2⟩
    have HB2 : Hid (Below w.heap.size w w2) := HB1.out.trans (hb2.mono HB1.out.size)
    clear hb2
    go_wp2_with fail
    go_ret2
    exact ⟨ret_print rfl HP.out.symm, HB2.out⟩
end Go.Proofs.YtbdobaapadlcjaaDoor.Ref
