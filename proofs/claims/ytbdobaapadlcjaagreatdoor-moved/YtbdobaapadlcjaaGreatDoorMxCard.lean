/-
  WHAT THE ROWS' LISTS GIVE: package wire's tables, cell by cell. THE CARD of Moved.
-/
import Derived.Test.YtbdobaapadlcjaaGreatDoorMx37
import Derived.ProofKit
import Derived.OpenShut
import Derived.SliceStrings
import Derived.Test.YtbdobaapadlcjaaGreatDoorRows
import Derived.Deep.Strs
import Derived.Test.YtbdobaapadlcjaaGreatDoorCards
import Derived.Test.YtbdobaapadlcjaaGreatDoorTie
import Derived.Test.YtbdobaapadlcjaaGreatDoorMx53
import Derived.WalkKit
import Derived.Carry
import Derived.MakeChecks
import Derived.LaidSub
import Derived.SizedLaws
import Derived.Lib.LaidTab
import Derived.Deep.DeepHandedRow
import Derived.Deep.DeepWitnessRowRef
import Derived.LaidMore
namespace Go.Proofs.YtbdobaapadlcjaaGreatDoor.Keep
open Go.ChangeShapes Go.WideShapes Go.ChangeAt Go.RowKit
set_option linter.unusedVariables false

theorem addr_at (b o j : Nat) : (⟨b, o, none⟩ : Addr).add j = ⟨b, o + j, none⟩ := by unfold Addr.add; split <;> simp_all
theorem cells3 : Tryz.prog.cellsOf 3 = 1 := by kernel_rfl
theorem cells9 : Tryz.prog.cellsOf 9 = 1 := by kernel_rfl
theorem strs_of {W : World} {a : Addr} {len : Nat} {ss : List ByteArray} (hl : len ≤ ss.length) (h : ∀ i, i < ss.length → W.cell? (a.add i) = some (.string (ss.getD i ByteArray.empty))) : Strs W (some a) (ss.take len) := by
  intro j hj
  have hj' : j < ss.length := by rw [List.length_take] at hj; omega
  have h0 := h 0 (by omega)
  have hs : a.spot = none := by
    have e : a.add 0 = a := by unfold Addr.add; rw [if_pos rfl]
    rw [e] at h0
    unfold World.cell? at h0
    split at h0
    · cases hsp : a.spot with
      | none => rfl
      | some x => simp [hsp] at h0
    · simp at h0
  obtain ⟨b, o, sp⟩ := a
  simp only at hs
  subst hs
  refine ⟨b, o, rfl, ?_⟩
  have h2 := h j hj'
  rw [addr_at] at h2
  rw [h2, List.getElem_take]
  simp [hj']

end Go.Proofs.YtbdobaapadlcjaaGreatDoor.Keep

namespace Go.Proofs.YtbdobaapadlcjaaGreatDoor.Keep
open Go.ChangeShapes Go.WideShapes Go.ChangeAt Go.RowKit Go.Deep
set_option linter.unusedVariables false

theorem gLay : Tryz.prog.globalNamed "wharf/wire.layouts" = some 0 := by kernel_rfl
theorem gLayT : (Tryz.prog.globals[0]?).map (·.type) = some 138 := by kernel_rfl
theorem gRow : Tryz.prog.globalNamed "wharf/wire.rows" = some 1 := by kernel_rfl
theorem gRowT : (Tryz.prog.globals[1]?).map (·.type) = some 175 := by kernel_rfl
theorem cells95 : Tryz.prog.cellsOf 137 = 1 := by kernel_rfl
theorem cells97 : Tryz.prog.cellsOf 139 = 1 := by kernel_rfl
theorem cells116 : Tryz.prog.cellsOf 173 = 1 := by kernel_rfl
theorem cells117 : Tryz.prog.cellsOf 174 = 3 := by kernel_rfl

/-- A list of fields as the row lists it. -/
def dat (l : List Nat) : DataW Unit := if l = [] then .nil else .slice (l.map fun (f : Nat) => DataW.lit (.int .i64 (f : Int))) []
theorem laid_lay (i : Nat) (hi : i < 26) : ∀ l, (Rows.laid_wharf_wire_layouts (H := Unit)) = .agg l → l[i]? = some (dat (Wp.lay i)) := by
  intro l hl
  injection hl with hl
  subst hl
  have hx : i = 0 ∨ i = 1 ∨ i = 2 ∨ i = 3 ∨ i = 4 ∨ i = 5 ∨ i = 6 ∨ i = 7 ∨ i = 8 ∨ i = 9 ∨ i = 10 ∨ i = 11 ∨ i = 12 ∨ i = 13 ∨ i = 14 ∨ i = 15 ∨ i = 16 ∨ i = 17 ∨ i = 18 ∨ i = 19 ∨ i = 20 ∨ i = 21 ∨ i = 22 ∨ i = 23 ∨ i = 24 ∨ i = 25 := by omega
  rcases hx with rfl | rfl | rfl | rfl | rfl | rfl | rfl | rfl | rfl | rfl | rfl | rfl | rfl | rfl | rfl | rfl | rfl | rfl | rfl | rfl | rfl | rfl | rfl | rfl | rfl | rfl <;> rfl
theorem laid_row (i : Nat) (hi : i < 15) : ∀ l, (Rows.laid_wharf_wire_rows (H := Unit)) = .agg l → l[i]? = some (.agg [.lit (.int .i64 (Wp.rowTab.getD (3 * i) 0)), .lit (.int .i64 (Wp.rowTab.getD (3 * i + 1) 0)), .lit (.int .i64 (Wp.rowTab.getD (3 * i + 2) 0))]) := by
  intro l hl
  injection hl with hl
  subst hl
  have hx : i = 0 ∨ i = 1 ∨ i = 2 ∨ i = 3 ∨ i = 4 ∨ i = 5 ∨ i = 6 ∨ i = 7 ∨ i = 8 ∨ i = 9 ∨ i = 10 ∨ i = 11 ∨ i = 12 ∨ i = 13 ∨ i = 14 := by omega
  rcases hx with rfl | rfl | rfl | rfl | rfl | rfl | rfl | rfl | rfl | rfl | rfl | rfl | rfl | rfl | rfl <;> rfl
theorem lits_nat (zs : List Int) (l : List Nat) (h : (lits .i64 zs : List (DataW Unit)) = l.map fun (f : Nat) => DataW.lit (.int .i64 (f : Int))) : zs = l.map fun (f : Nat) => (f : Int) := by
  induction l generalizing zs with
  | nil =>
    cases zs with
    | nil => rfl
    | cons z zs => simp [lits] at h
  | cons f l ih =>
    cases zs with
    | nil => simp [lits] at h
    | cons z zs =>
      simp only [lits, List.map_cons, List.cons.injEq, DataW.lit.injEq, Lit.int.injEq, true_and] at h
      rw [List.map_cons, h.1, ih zs h.2]
theorem addr_spot {W : World} {a : Addr} {v : Value} (h : W.cell? a = some v) : a.spot = none := by
  unfold World.cell? at h
  split at h
  · cases hsp : a.spot with
    | none => rfl
    | some x => simp [hsp] at h
  · simp at h

/-- FROM THE ROW's LIST TO THE TABLES. -/
theorem lays_of {W : World} {rest : List (String × DataW Unit)} (h2s : 2 < W.heap.size) (h : laidMet Tryz.prog (("wharf/wire.layouts", Rows.laid_wharf_wire_layouts) :: ("wharf/wire.rows", Rows.laid_wharf_wire_rows) :: rest) W) : Lays W.heap.size W := by
  obtain ⟨ps, ⟨g, t, cs, fuel, p, q, hg, ht, hvar, hd, ⟨g2, t2, cs2, fuel2, p2, q2, hg2, ht2, hvar2, hd2, _, _⟩, _⟩, _⟩ := h
  obtain rfl := Option.some.inj (gLay.symm.trans hg)
  obtain rfl := Option.some.inj (gLayT.symm.trans ht)
  obtain rfl := Option.some.inj (gRow.symm.trans hg2)
  obtain rfl := Option.some.inj (gRowT.symm.trans ht2)
  have hrow : ∀ i, i < 45 → W.cell? ⟨1, i, none⟩ = some (.int .i64 (Wp.rowTab.getD i 0)) := by
    obtain ⟨xs, m, _, hx, hl, hlen, hel⟩ := DataW.trod_array Tryz.underlying175 hd2
    intro i hi
    have hi3 : i / 3 < 15 := by omega
    have h1 := hel (i / 3) hi3
    rw [cells117, List.getElem?_eq_getElem (by omega)] at h1
    obtain ⟨y0, y1, y2, n, hy, _, a0, a1, a2⟩ := trod_struct3 Tryz.underlying174 h1
    have hdat := laid_row (i / 3) hi3 _ (congrArg Prod.fst hx)
    rw [List.getElem?_map, List.getElem?_eq_getElem (by omega)] at hdat
    have hdat2 := Option.some.inj hdat
    rw [hy] at hdat2
    injection hdat2 with hdat3
    simp only [List.cons.injEq, and_true] at hdat3
    obtain ⟨z0, e0, f0, _⟩ := DataW.trod_int Tryz.underlying173 a0
    obtain ⟨z1, e1, f1, _⟩ := DataW.trod_int Tryz.underlying3 a1
    obtain ⟨z2, e2, f2, _⟩ := DataW.trod_int Tryz.underlying3 a2
    rw [f0, f1, f2] at hdat3
    simp only [DataW.lit.injEq, Lit.int.injEq, true_and] at hdat3
    have hc2 : W.cell? ⟨1, i, none⟩ = cs2[i]? := World.var?_cell gRow hvar2 i
    rw [hc2]
    have hmod : i = i / 3 * 3 ∨ i = i / 3 * 3 + 1 ∨ i = i / 3 * 3 + 2 := by omega
    rcases hmod with hm | hm | hm
    · have e := congrArg (·[0]?) e0
      simp [cells116] at e
      rw [hm, e, hdat3.1]
      rw [Nat.mul_comm 3 (i / 3)]
    · have e := congrArg (·[0]?) e1
      simp [cells3] at e
      rw [hm, e, hdat3.2.1]
      rw [Nat.mul_comm 3 (i / 3)]
    · have e := congrArg (·[0]?) e2
      simp [cells3] at e
      rw [hm, e, hdat3.2.2]
      rw [Nat.mul_comm 3 (i / 3)]
  refine ⟨?_, hrow, ?_⟩
  · exact h2s
  · obtain ⟨xs, m, _, hx, hl, hlen, hel⟩ := DataW.trod_array Tryz.underlying138 hd
    intro i hi
    have h1 := hel i hi
    rw [cells95, Nat.mul_one, List.getElem?_eq_getElem (by omega)] at h1
    have hdat := laid_lay i hi _ (congrArg Prod.fst hx)
    rw [List.getElem?_map, List.getElem?_eq_getElem (by omega)] at hdat
    have hdat2 := Option.some.inj hdat
    have hc1 : W.cell? ⟨0, i, none⟩ = cs[i]? := World.var?_cell gLay hvar i
    rcases open_ints Tryz.underlying137 Tryz.underlying139 cells97 h1 with ⟨hcs, hy⟩ | ⟨a, len, cap, zs, hcs, _, hle, _, hz, hy, hcell, _⟩
    · have e := congrArg (·[0]?) hcs
      simp at e
      have hlay : Wp.lay i = [] := by
        have h2 : (DataW.nil : DataW Unit) = dat (Wp.lay i) := (congrArg Prod.fst hy).symm.trans hdat2
        unfold dat at h2
        by_cases hn : Wp.lay i = []
        · exact hn
        · rw [if_neg hn] at h2; cases h2
      refine ⟨none, 0, ?_, fun j hj => ?_⟩
      · rw [hc1, e, hlay]; rfl
      · rw [hlay] at hj; simp at hj
    · have e := congrArg (·[0]?) hcs
      simp at e
      have h2 : (.slice (lits .i64 (zs.take len)) (lits .i64 (zs.drop len)) : DataW Unit) = dat (Wp.lay i) := (congrArg Prod.fst hy).symm.trans hdat2
      unfold dat at h2
      by_cases hn : Wp.lay i = []
      · rw [if_pos hn] at h2; cases h2
      · rw [if_neg hn] at h2
        injection h2 with h3 h4
        have h5 := lits_nat _ _ h3
        have hzl : zs.length = cap := hz
        have hll : (Wp.lay i).length = len := by
          have := congrArg List.length h5
          rw [List.length_take, List.length_map] at this
          omega
        refine ⟨some a, cap, ?_, fun j hj => ?_⟩
        · rw [hc1, e, hll]
        · have hj2 : j < zs.length := by omega
          have h0 := hcell 0 (by omega)
          have hs := addr_spot (by rw [show a.add 0 = a by unfold Addr.add; rw [if_pos rfl]] at h0; exact h0)
          obtain ⟨b, o, sp⟩ := a
          simp only at hs
          subst hs
          have h6 := hcell j hj2
          rw [addr_at] at h6
          refine ⟨b, o, rfl, World.block_lt_of_cell? _ _ h6, ?_⟩
          rw [h6]
          congr 2
          have h7 := congrArg (fun l => l.getD j 0) h5
          simp only [List.getD_eq_getElem?_getD, List.getElem?_map, List.getElem?_take] at h7 ⊢
          rw [if_pos (by omega)] at h7
          rw [h7, List.getElem?_eq_getElem hj]
          rfl
end Go.Proofs.YtbdobaapadlcjaaGreatDoor.Keep

namespace Go.Proofs.YtbdobaapadlcjaaGreatDoor.mv
open Go.ChangeShapes Go.WideShapes Go.ChangeAt Go.RowKit
open Go.ChangeMaps (open_string shut_string)
open Go.Proofs.YtbdobaapadlcjaaGreatDoor.Keep

theorem own : ownKnob Tryz.prog.godebug = none := by kernel_rfl
theorem laidOut : laidOutB Tryz.prog = true := by kernel_rfl
theorem read25 : Tryz.prog.readableRec 25 = true := by kernel_rfl
theorem row25 : 25 < Tryz.prog.types.size := of_decide_eq_true (by kernel_rfl)
theorem gTab : Tryz.prog.globalNamed "wharf/wire.quads" = some 2 := by kernel_rfl
theorem gTabType : (Tryz.prog.globals[2]?).map (·.type) = some 186 := by kernel_rfl
theorem cells172 : Tryz.prog.cellsOf 186 = 16 := by kernel_rfl
theorem cells113 : Tryz.prog.cellsOf 121 = 1 := by kernel_rfl

/-- WHAT THE ROW's LIST GIVES. -/
theorem table {W : World} (h : laidMetH Tryz.prog Rows.movedRow.laid W) : Lib.TabIs Tryz.prog W "wharf/wire.quads" .u32 [0, 498536548, 997073096, 651767980, 1994146192, 1802195444, 1303535960, 1342533948, 3988292384, 4027552580, 3604390888, 3412177804, 2607071920, 2262029012, 2685067896, 3183342108] :=
  Lib.tabIs_of_head (rest := [("wharf/wire.layouts", Rows.laid_wharf_wire_layouts), ("wharf/wire.rows", Rows.laid_wharf_wire_rows)]) gTab gTabType Tryz.underlying186 Tryz.underlying121 cells113 cells172 h
theorem tab_of {W : World} (h : Lib.TabIs Tryz.prog W "wharf/wire.quads" .u32 [0, 498536548, 997073096, 651767980, 1994146192, 1802195444, 1303535960, 1342533948, 3988292384, 4027552580, 3604390888, 3412177804, 2607071920, 2262029012, 2685067896, 3183342108]) : Tab W := by
  intro i hi
  have h1 := h.cell gTab i hi
  rw [h1]
  have h2 : ∀ j : Fin 16, ([0, 498536548, 997073096, 651767980, 1994146192, 1802195444, 1303535960, 1342533948, 3988292384, 4027552580, 3604390888, 3412177804, 2607071920, 2262029012, 2685067896, 3183342108] : List Int).getD j.val 0 = ((Crc.tab.getD j.val 0 : Nat) : Int) := by decide
  exact congrArg (fun z => some (Value.int .u32 z)) (h2 ⟨i, hi⟩)
theorem env_of {W : World} (h : laidMetH Tryz.prog Rows.movedRow.laid W) : Env W.heap.size W := by
  have hT : Tab W := tab_of (table h)
  have h2 : 2 < W.heap.size := World.block_lt_of_cell? _ _ (hT 0 (by decide))
  rw [MakeChecks.laidMetH_plain _ _ _ (by kernel_rfl)] at h
  have h3 := laidMet.filter (fun x => x.1 != "wharf/wire.quads") h
  exact ⟨lays_of (rest := []) h2 h3, hT, Nat.le_refl _, h2⟩

set_option maxRecDepth 100000 in
/-- A list of strings that came in. -/
theorem open_ss {H : Type} {enc : TypeId × Value → H} {W : World} {base : Nat} {v : Value} {d : DataW H} {p : List MemPlace} (hv : Value.okWide Tryz.prog W .any base 25 v) (h : DataW.Trod enc Tryz.prog W 0 (fun _ => true) true 25 v d p) :
    ∃ (ga : Option Addr) (gc : Nat) (ss : List ByteArray), v = .slice ga ss.length gc ∧ ss.length ≤ maxLen ∧ (∀ s ∈ ss, s.size ≤ maxLen) ∧ (0 < ss.length → ∃ g o, ga = some ⟨g, o, none⟩ ∧ g < W.heap.size ∧ ∀ j (hj : j < ss.length), W.cell? ⟨g, o + j, none⟩ = some (.string ss[j])) := by
  obtain ⟨a0, l0, c0, rfl⟩ := okWide_slice Tryz.underlying25 hv
  obtain ⟨fuel, hf⟩ := h
  have hf' : DataW.trod enc Tryz.prog W 0 (fun _ => true) true fuel 25 [.slice a0 l0 c0] = some (d, p) := hf
  rcases open_strings Tryz.underlying25 Tryz.underlying9 cells9 hf' with ⟨hcs, _⟩ | ⟨a, len, cap, ss, hcs, _, hl, hm, hz, _, hcell, hws⟩
  · rw [List.singleton_inj.1 hcs]
    exact ⟨none, 0, [], rfl, by decide, fun s hs => by simp at hs, fun h => absurd h (by simp)⟩
  · rw [List.singleton_inj.1 hcs]
    have hss : ss.length = cap := hz
    have hlt : (ss.take len).length = len := by rw [List.length_take]; omega
    have hS := strs_of (len := len) (by omega) hcell
    refine ⟨some a, cap, ss.take len, by rw [hlt], by omega, fun s hs => hws s (List.mem_of_mem_take hs), fun hp => ?_⟩
    obtain ⟨g, o, hg, _⟩ := hS 0 hp
    refine ⟨g, o, hg, ?_, fun j hj => ?_⟩
    · have h0 := hcell 0 (by omega)
      have h1 := World.block_lt_of_cell? _ _ h0
      injection hg with hg
      subst hg
      have e : (⟨g, o, none⟩ : Addr).add 0 = ⟨g, o + 0, none⟩ := addr_at g o 0
      rw [e] at h1
      exact h1
    · obtain ⟨g2, o2, hg2, h2⟩ := hS j hj
      rw [hg] at hg2
      simp only [Option.some.injEq, Addr.mk.injEq, and_true] at hg2
      obtain ⟨rfl, rfl⟩ := hg2
      exact h2

set_option maxRecDepth 100000 in
/-- WHAT THE WALK GIVES, FOR EVERY ARGUMENT AND EVERY WORLD THAT HOLDS THE TABLES. -/
theorem contract (H : Type) (enc : TypeId × Value → H) (W : World) (base : Nat) (args : Array Value) (ds gs : List (DataW H)) (before : List MemPlace)
    (hval : ∀ (j : Nat) t v, Tryz.f8.params[j]? = some t → args[j]? = some v → Value.okWide Tryz.prog W .any base t v)
    (hW : DataW.Whole enc Tryz.prog Tryz.f8.params.toList Rows.movedSpec.vars false W args.toList ds gs before) (hL : laidMetH Tryz.prog Rows.movedRow.laid W) :
    Calls Tryz.prog 8 args W fun e W' => ∃ v, e = .returned v ∧ Rows.movedSpec.post enc Tryz.prog Tryz.f8 false true false false W args v W' := by
  have hW' := hW
  have hlt := hW.lt
  obtain ⟨p, q, hA0, hV, rfl, hfz, hnd⟩ := hW
  have hA : DataW.TrodAll enc Tryz.prog W 0 (fun _ => true) true Tryz.f8.params.toList args.toList ds p := hA0
  rw [Tryz.params8] at hA hval
  obtain ⟨v0, vs0, d0, ds0, p0, q0, hargs, rfl, rfl, h0, r0⟩ := trodAll_cons hA
  obtain ⟨v1, vs1, d1, ds1, p1, q1, rfl, rfl, rfl, h1, r1⟩ := trodAll_cons r0
  obtain ⟨v2, vs2, d2, ds2, p2, q2, rfl, rfl, rfl, h2, r2⟩ := trodAll_cons r1
  obtain ⟨rfl, rfl, rfl⟩ := trodAll_nil r2
  obtain rfl : args = #[v0, v1, v2] := Array.toList_inj.1 hargs
  obtain ⟨rfl, rfl⟩ := trodVars_none hV
  obtain ⟨x1, rfl, rfl, rfl, wx1⟩ := open_int Tryz.underlying3 (hval 1 3 v1 rfl rfl) h1
  obtain ⟨x2, rfl, rfl, rfl, wx2⟩ := open_int Tryz.underlying3 (hval 2 3 v2 rfl rfl) h2
  have hp0 : ∀ a ∈ p0, a.block < W.heap.size := fun a ha => hlt a (by simp [ha])
  obtain ⟨ga, gc, ss, rfl, hsn, hss, hga⟩ := open_ss (hval 0 25 v0 rfl rfl) h0
  clear hA0
  have walk := moved_walk W.heap.size ga gc ss x1 x2 W (env_of hL) rfl (bounds_i64 wx1) (bounds_i64 wx2) hss hsn hga
  refine walk.mono fun e W' ⟨he, hg⟩ => ?_
  subst he
  refine ⟨_, rfl, _, _, _, [], p0 ++ ([] ++ ([] ++ [])), [], hW', ?_, ?_, ?_, hg.frame _, fun h => by cases h⟩
  · exact trodAll_cons_mk (shut_bool Tryz.underlying4 _) trodAll_mk0
  · exact trodAll_cons_mk (Below.trod laidOut read25 row25 h0 hg hp0) (trodAll_cons_mk (shut_int Tryz.underlying3 wx1) (trodAll_cons_mk (shut_int Tryz.underlying3 wx2) trodAll_mk0))
  · rfl

abbrev wit0 : Array Value := #[.slice none 0 0, .int .i64 0, .int .i64 0]
theorem laid_met (os : Os) (args : Array Value) : laidMet Tryz.prog Rows.movedRow.laid ((World.doorLaid Tryz.prog 49 os).forCall (fun _ _ => 0) ⟨#[], args, []⟩).memory :=
  laidMet_of_run' 8 (by kernel_rfl) (by kernel_rfl)
theorem reads (os : Os) {H : Type} (enc : TypeId × Value → H) : ∃ places, DataW.whole enc Tryz.prog ((World.doorLaid Tryz.prog 49 os).forCall (fun _ _ => 0) ⟨#[], #[.slice none 0 0, .int .i64 0, .int .i64 0], []⟩).memory Tryz.f8.params.toList Rows.movedSpec.vars false #[Value.slice none 0 0, .int .i64 0, .int .i64 0].toList 8 =
    some ([.nil, .lit (.int .i64 0), .lit (.int .i64 0)], [], places) :=
  ⟨[], by kernel_rfl⟩

set_option maxRecDepth 100000 in
theorem lifted (os : Os) (started : os.Started) (H : Type) (enc : TypeId × Value → H) (F : Stop.Interp) :
    ReturnsInHanded {} Tryz.checked os 8 .any ((OpenSpec.ofChange Rows.movedSpec).preRow enc Tryz.prog Tryz.f8 Rows.movedRow.domain false Rows.movedRow.laid) (((OpenSpec.ofChange Rows.movedSpec).at F).post enc Tryz.prog Tryz.f8 false true false false) := by
  obtain ⟨places, hx⟩ := reads os enc
  refine returnsInHanded_of_row (C := Tryz.checked) (s := OpenSpec.ofChange Rows.movedSpec) own started (by kernel_rfl) Tryz.func8
    (witness_row_atRef (enc := enc) (C := Tryz.checked) false (World.doorLaid Tryz.prog 49 os) #[.slice none 0 0, .int .i64 0, .int .i64 0] rfl (by kernel_rfl) (by kernel_rfl) (by kernel_rfl)
      (OpenSpec.preRow_of_cond 8 hx (by kernel_rfl) (fun k hk => by cases hk) (by kernel_rfl) (laid_met os _))) ?_
  intro W base args ds gs before hval hW _ _ _ hL _ _
  exact contract H enc W base args ds gs before hval hW hL

theorem said : Rows.MovedSaid :=
  OpenClaim.holds_of_cond 8 Tryz.f8 rfl rfl rfl rfl rfl rfl rfl ⟨rfl, rfl, rfl, rfl, rfl⟩ rfl rfl rfl rfl rfl (by kernel_rfl) Tryz.func8 (by kernel_rfl)
    (of_decide_eq_true (by kernel_rfl)) (by unfold Func.isWrapper; first | (rw [if_pos (by decide +kernel)]; kernel_rfl) | (rw [if_neg (by decide +kernel)]; exact ⟨rfl, rfl⟩))
    (fun os started H enc _ F => by rw [OpenClaim.pre_eq_preRow]; exact lifted os started H enc F)

theorem plain (f : FuncId) (fn : Func) (hf : Tryz.pinned.checked.prog.funcNamed "wharf/wharfkeep.Moved" = some f) (hfn : Tryz.pinned.checked.prog.funcs[f]? = some fn) :
    false = Tryz.pinned.checked.prog.looks [] ∧ ∀ (j : Nat) t, fn.params[j]? = some t → Tryz.pinned.checked.prog.wantsStandIn t = false := by
  obtain rfl : f = 8 := Option.some.inj ((show Tryz.prog.funcNamed "wharf/wharfkeep.Moved" = some 8 by kernel_rfl).symm.trans hf) |>.symm
  obtain rfl : fn = Tryz.f8 := (Option.some.inj (Tryz.func8.symm.trans hfn)).symm
  refine ⟨by kernel_rfl, fun j t ht => ?_⟩
  rw [Tryz.params8] at ht
  have hm := Array.mem_of_getElem? ht
  have ht' : t = 25 ∨ t = 3 := by simpa using hm
  rcases ht' with rfl | rfl
  · exact (show Tryz.prog.wantsStandIn 25 = false by kernel_rfl)
  · exact (show Tryz.prog.wantsStandIn 3 = false by kernel_rfl)

end Go.Proofs.YtbdobaapadlcjaaGreatDoor.mv

namespace Go.Proofs.YtbdobaapadlcjaaGreatDoor.mv

/-- A tied card whose road comes to a go statement: as the library's builder, with the cell 'goes'. -/
theorem holds_tied_goes (Lk : Looks) {p : Pinned} {s : OpenSpec} {c : OpenClaim} (kinds : List LaidKind) (tests : Bool) (har : Bool × String) (lk : Bool)
    (hc : c.holds p s) (hw : c.wfByText s = true) (htie : c.laidByTextAt Lk p kinds tests)
    (hst : c.start = .entering) (hnb : c.noBlocks = false ∧ c.again = false) (hm : p.checked.prog.mainIs = some (har.1, har.2.toList)) (hn : (!har.1 && har.2.isEmpty && !lk) = false)
    (hl : ∀ f fn, p.checked.prog.funcNamed c.func = some f → p.checked.prog.funcs[f]? = some fn → lk = p.checked.prog.looks [] ∧ ∀ (j : Nat) t, fn.params[j]? = some t → p.checked.prog.wantsStandIn t = false)
    (hg : true = c.goesBy p.checked.prog) :
    Claim7.holds p (.plain s) { stood := { row := c, standIns := [], harness := har, looks := lk }, kinds := [], alts := [], goes := true, laidByText := true, laidKinds := kinds, laidTests := tests, laidLooks := Lk } := by
  have h6 : Claim7.isSixth { stood := { row := c, standIns := [], harness := har, looks := lk }, kinds := [] } = false := by simpa [Claim7.isSixth] using hn
  exact ⟨Claim7.tied_new_at Lk kinds tests (Claim7.new_of_sixth hc har lk hst hnb hm h6 hl) hw, fun D hD => (by cases hD), htie, (fun h => by cases h), hg⟩

theorem card : Rows.MovedCardSaid :=
  holds_tied_goes .later _ _ _ _ said (by kernel_rfl) moved_row_tie rfl ⟨rfl, rfl⟩ (by kernel_rfl) rfl plain (by kernel_rfl)
end Go.Proofs.YtbdobaapadlcjaaGreatDoor.mv
namespace Go.Proofs.YtbdobaapadlcjaaGreatDoor
theorem moved_card : Rows.MovedCardSaid := mv.card
end Go.Proofs.YtbdobaapadlcjaaGreatDoor
