/-
  THE CARD of Again.
-/
import Derived.Test.YtbdobaapadlcjaaGreatDoorCards
import Derived.Test.YtbdobaapadlcjaaGreatDoorTie
import Derived.Test.YtbdobaapadlcjaaGreatDoorQm4
import Derived.Test.YtbdobaapadlcjaaGreatDoorTlO
import Derived.WalkKit
import Derived.ProofKit
import Derived.OpenShut
import Derived.Carry
import Derived.MakeChecks
import Derived.LaidSub
import Derived.SizedLaws
import Derived.Lib.LaidTab
import Derived.Deep.DeepHandedRow
import Derived.Deep.DeepWitnessRowRef
import Derived.LaidMore
namespace Go.Proofs.YtbdobaapadlcjaaGreatDoor.ag
open Go.ChangeShapes Go.WideShapes Go.ChangeAt Go.RowKit
open Go.ChangeMaps (open_string shut_string)
open Go.Proofs.YtbdobaapadlcjaaGreatDoor.Keep

theorem own : ownKnob Tryz.prog.godebug = none := by kernel_rfl
theorem laidOut : laidOutB Tryz.prog = true := by kernel_rfl
theorem read27 : Tryz.prog.readableRec 27 = true := by kernel_rfl
theorem read25 : Tryz.prog.readableRec 25 = true := by kernel_rfl
theorem row25 : 25 < Tryz.prog.types.size := of_decide_eq_true (by kernel_rfl)
theorem row27 : 27 < Tryz.prog.types.size := of_decide_eq_true (by kernel_rfl)
theorem gTab : Tryz.prog.globalNamed "wharf/wire.quads" = some 2 := by kernel_rfl
theorem gTabType : (Tryz.prog.globals[2]?).map (·.type) = some 186 := by kernel_rfl
theorem cells172 : Tryz.prog.cellsOf 186 = 16 := by kernel_rfl
theorem cells113 : Tryz.prog.cellsOf 121 = 1 := by kernel_rfl

/-- WHAT THE ROW's LIST GIVES. -/
theorem table {W : World} (h : laidMetH Tryz.prog Rows.againRow.laid W) : Lib.TabIs Tryz.prog W "wharf/wire.quads" .u32 [0, 498536548, 997073096, 651767980, 1994146192, 1802195444, 1303535960, 1342533948, 3988292384, 4027552580, 3604390888, 3412177804, 2607071920, 2262029012, 2685067896, 3183342108] :=
  Lib.tabIs_of_head (rest := [("wharf/wire.layouts", Rows.laid_wharf_wire_layouts), ("wharf/wire.rows", Rows.laid_wharf_wire_rows)]) gTab gTabType Tryz.underlying186 Tryz.underlying121 cells113 cells172 h
theorem tab_of {W : World} (h : Lib.TabIs Tryz.prog W "wharf/wire.quads" .u32 [0, 498536548, 997073096, 651767980, 1994146192, 1802195444, 1303535960, 1342533948, 3988292384, 4027552580, 3604390888, 3412177804, 2607071920, 2262029012, 2685067896, 3183342108]) : Tab W := by
  intro i hi
  have h1 := h.cell gTab i hi
  rw [h1]
  have h2 : ∀ j : Fin 16, ([0, 498536548, 997073096, 651767980, 1994146192, 1802195444, 1303535960, 1342533948, 3988292384, 4027552580, 3604390888, 3412177804, 2607071920, 2262029012, 2685067896, 3183342108] : List Int).getD j.val 0 = ((Crc.tab.getD j.val 0 : Nat) : Int) := by decide
  exact congrArg (fun z => some (Value.int .u32 z)) (h2 ⟨i, hi⟩)
theorem env_of {W : World} (h : laidMetH Tryz.prog Rows.againRow.laid W) : Env W.heap.size W := by
  have hT : Tab W := tab_of (table h)
  have h2 : 2 < W.heap.size := World.block_lt_of_cell? _ _ (hT 0 (by decide))
  rw [MakeChecks.laidMetH_plain _ _ _ (by kernel_rfl)] at h
  have h3 := laidMet.filter (fun x => x.1 != "wharf/wire.quads") h
  exact ⟨lays_of (rest := []) h2 h3, hT, Nat.le_refl _, h2⟩

set_option maxRecDepth 100000 in
/-- A list of strings that came in. -/
theorem open_ss {H : Type} {enc : TypeId × Value → H} {W : World} {base : Nat} {v : Value} {d : DataW H} {p : List MemPlace} (hv : Value.okWide Tryz.prog W .any base 25 v) (h : DataW.Trod enc Tryz.prog W 0 (fun _ => true) true 25 v d p) :
    ∃ (ga : Option Addr) (gc : Nat) (ss : List ByteArray), v = .slice ga ss.length gc ∧ ss.length ≤ maxLen ∧ (∀ s ∈ ss, s.size ≤ maxLen) ∧ (0 < ss.length → ∃ g o, ga = some ⟨g, o, none⟩ ∧ g < W.heap.size ∧ ∀ j (hj : j < ss.length), W.cell? ⟨g, o + j, none⟩ = some (.string ss[j])) := by
  obtain ⟨a0, l0, c0, rfl⟩ := okWide_slice Tryz.underlying25 hv
  obtain ⟨fuel, hf⟩ := h
  have hf' : DataW.trod enc Tryz.prog W 0 (fun _ => true) true fuel 25 [.slice a0 l0 c0] = some (d, p) := hf
  rcases open_strings Tryz.underlying25 Tryz.underlying9 cells9 hf' with ⟨hcs, _⟩ | ⟨a, len, cap, ss, hcs, _, hl, hm, hz, _, hcell, hws⟩
  · rw [List.singleton_inj.1 hcs]
    exact ⟨none, 0, [], rfl, by decide, fun s hs => by simp at hs, fun h => absurd h (by simp)⟩
  · rw [List.singleton_inj.1 hcs]
    have hss : ss.length = cap := hz
    have hlt : (ss.take len).length = len := by rw [List.length_take]; omega
    have hS := strs_of (len := len) (by omega) hcell
    refine ⟨some a, cap, ss.take len, by rw [hlt], by omega, fun s hs => hws s (List.mem_of_mem_take hs), fun hp => ?_⟩
    obtain ⟨g, o, hg, _⟩ := hS 0 hp
    refine ⟨g, o, hg, ?_, fun j hj => ?_⟩
    · have h0 := hcell 0 (by omega)
      have h1 := World.block_lt_of_cell? _ _ h0
      injection hg with hg
      subst hg
      have e : (⟨g, o, none⟩ : Addr).add 0 = ⟨g, o + 0, none⟩ := addr_at g o 0
      rw [e] at h1
      exact h1
    · obtain ⟨g2, o2, hg2, h2⟩ := hS j hj
      rw [hg] at hg2
      simp only [Option.some.injEq, Addr.mk.injEq, and_true] at hg2
      obtain ⟨rfl, rfl⟩ := hg2
      exact h2

set_option maxRecDepth 100000 in
/-- WHAT THE WALK GIVES, FOR EVERY ARGUMENT AND EVERY WORLD THAT HOLDS THE TABLES. -/
theorem contract (H : Type) (enc : TypeId × Value → H) (W : World) (base : Nat) (args : Array Value) (ds gs : List (DataW H)) (before : List MemPlace)
    (hval : ∀ (j : Nat) t v, Tryz.f6.params[j]? = some t → args[j]? = some v → Value.okWide Tryz.prog W .any base t v)
    (hW : DataW.Whole enc Tryz.prog Tryz.f6.params.toList Rows.againSpec.vars false W args.toList ds gs before) (hL : laidMetH Tryz.prog Rows.againRow.laid W) :
    Calls Tryz.prog 6 args W fun e W' => ∃ v, e = .returned v ∧ Rows.againSpec.post enc Tryz.prog Tryz.f6 false true false false W args v W' := by
  have hW' := hW
  have hlt := hW.lt
  obtain ⟨p, q, hA0, hV, rfl, hfz, hnd⟩ := hW
  have hA : DataW.TrodAll enc Tryz.prog W 0 (fun _ => true) true Tryz.f6.params.toList args.toList ds p := hA0
  rw [Tryz.params6] at hA hval
  obtain ⟨v0, vs0, d0, ds0, p0, q0, hargs, rfl, rfl, h0, r0⟩ := trodAll_cons hA
  obtain ⟨v1, vs1, d1, ds1, p1, q1, rfl, rfl, rfl, h1, r1⟩ := trodAll_cons r0
  obtain ⟨v2, vs2, d2, ds2, p2, q2, rfl, rfl, rfl, h2, r2⟩ := trodAll_cons r1
  obtain ⟨v3, vs3, d3, ds3, p3, q3, rfl, rfl, rfl, h3, r3⟩ := trodAll_cons r2
  obtain ⟨v4, vs4, d4, ds4, p4, q4, rfl, rfl, rfl, h4, r4⟩ := trodAll_cons r3
  obtain ⟨rfl, rfl, rfl⟩ := trodAll_nil r4
  obtain rfl : args = #[v0, v1, v2, v3, v4] := Array.toList_inj.1 hargs
  obtain ⟨rfl, rfl⟩ := trodVars_none hV
  obtain ⟨s2, rfl, rfl, rfl, hs2⟩ := open_string Tryz.underlying9 (hval 2 9 v2 rfl rfl) h2
  obtain ⟨x3, rfl, rfl, rfl, wx3⟩ := open_int Tryz.underlying3 (hval 3 3 v3 rfl rfl) h3
  obtain ⟨x4, rfl, rfl, rfl, wx4⟩ := open_int Tryz.underlying3 (hval 4 3 v4 rfl rfl) h4
  have hp0 : ∀ a ∈ p0, a.block < W.heap.size := fun a ha => hlt a (by simp [ha])
  have hp1 : ∀ a ∈ p1, a.block < W.heap.size := fun a ha => hlt a (by simp [ha])
  obtain ⟨r, xa, xc, bs, rfl, hwf, hsz, hn, hbs, hS⟩ := open_rq (hval 0 27 v0 rfl rfl) h0
  obtain ⟨ga, gc, ss, rfl, hsn, hss, hga⟩ := open_ss (hval 1 25 v1 rfl rfl) h1
  clear hA0
  have walk := again_walk W.heap.size r ⟨xa, bs.length, xc⟩ ga gc ss s2 x3 x4 W hwf hsz (env_of hL) hs2 (bounds_i64 wx3) (bounds_i64 wx4) hss hsn hga
  refine walk.mono fun e W' ⟨he, hg⟩ => ?_
  subst he
  refine ⟨_, rfl, _, _, _, [], p0 ++ (p1 ++ ([] ++ ([] ++ ([] ++ [])))), [], hW', ?_, ?_, ?_, hg.frame _, fun h => by cases h⟩
  · exact trodAll_cons_mk (shut_bool Tryz.underlying4 _) trodAll_mk0
  · exact trodAll_cons_mk (Below.trod laidOut read27 row27 h0 hg hp0) (trodAll_cons_mk (Below.trod laidOut read25 row25 h1 hg hp1) (trodAll_cons_mk (shut_string Tryz.underlying9 hs2) (trodAll_cons_mk (shut_int Tryz.underlying3 wx3) (trodAll_cons_mk (shut_int Tryz.underlying3 wx4) trodAll_mk0))))
  · rfl

abbrev wit0 : Array Value := #[.agg (cellsOf (opR 0) (.slice none 0 0)), .slice none 0 0, .string ByteArray.empty, .int .i64 0, .int .i64 0]
theorem laid_met (os : Os) (args : Array Value) : laidMet Tryz.prog Rows.againRow.laid ((World.doorLaid Tryz.prog 49 os).forCall (fun _ _ => 0) ⟨#[], args, []⟩).memory :=
  laidMet_of_run' 8 (by kernel_rfl) (by kernel_rfl)
theorem reads (os : Os) {H : Type} (enc : TypeId × Value → H) : ∃ places, DataW.whole enc Tryz.prog ((World.doorLaid Tryz.prog 49 os).forCall (fun _ _ => 0) ⟨#[], #[.agg (cellsOf (opR 0) (.slice none 0 0)), .slice none 0 0, .string ByteArray.empty, .int .i64 0, .int .i64 0], []⟩).memory Tryz.f6.params.toList Rows.againSpec.vars false #[Value.agg (cellsOf (opR 0) (.slice none 0 0)), .slice none 0 0, .string ByteArray.empty, .int .i64 0, .int .i64 0].toList 8 =
    some ([.agg [.lit (.int .u8 0), .lit (.int .u8 0), .lit (.int .u8 0), .lit (.int .i64 0), .lit (.int .i64 0), .lit (.int .i64 0), .lit (.int .i64 0), .lit (.int .i64 0), .lit (.int .i64 0), .lit (.string []), .lit (.string []), .lit (.string []), .lit (.string []), .lit (.string []), .nil], .nil, .lit (.string []), .lit (.int .i64 0), .lit (.int .i64 0)], [], places) :=
  ⟨[], by kernel_rfl⟩

set_option maxRecDepth 100000 in
theorem lifted (os : Os) (started : os.Started) (H : Type) (enc : TypeId × Value → H) (F : Stop.Interp) :
    ReturnsInHanded {} Tryz.checked os 6 .any ((OpenSpec.ofChange Rows.againSpec).preRow enc Tryz.prog Tryz.f6 Rows.againRow.domain false Rows.againRow.laid) (((OpenSpec.ofChange Rows.againSpec).at F).post enc Tryz.prog Tryz.f6 false true false false) := by
  obtain ⟨places, hx⟩ := reads os enc
  refine returnsInHanded_of_row (C := Tryz.checked) (s := OpenSpec.ofChange Rows.againSpec) own started (by kernel_rfl) Tryz.func6
    (witness_row_atRef (enc := enc) (C := Tryz.checked) false (World.doorLaid Tryz.prog 49 os) #[.agg (cellsOf (opR 0) (.slice none 0 0)), .slice none 0 0, .string ByteArray.empty, .int .i64 0, .int .i64 0] rfl (by kernel_rfl) (by kernel_rfl) (by kernel_rfl)
      (OpenSpec.preRow_of_cond 8 hx (by kernel_rfl) (fun k hk => by cases hk) (by kernel_rfl) (laid_met os _))) ?_
  intro W base args ds gs before hval hW _ _ _ hL _ _
  exact contract H enc W base args ds gs before hval hW hL

theorem said : Rows.AgainSaid :=
  OpenClaim.holds_of_cond 6 Tryz.f6 rfl rfl rfl rfl rfl rfl rfl ⟨rfl, rfl, rfl, rfl, rfl⟩ rfl rfl rfl rfl rfl (by kernel_rfl) Tryz.func6 (by kernel_rfl)
    (of_decide_eq_true (by kernel_rfl)) (by unfold Func.isWrapper; first | (rw [if_pos (by decide +kernel)]; kernel_rfl) | (rw [if_neg (by decide +kernel)]; exact ⟨rfl, rfl⟩))
    (fun os started H enc _ F => by rw [OpenClaim.pre_eq_preRow]; exact lifted os started H enc F)

theorem plain (f : FuncId) (fn : Func) (hf : Tryz.pinned.checked.prog.funcNamed "wharf/wharfkeep.Again" = some f) (hfn : Tryz.pinned.checked.prog.funcs[f]? = some fn) :
    false = Tryz.pinned.checked.prog.looks [] ∧ ∀ (j : Nat) t, fn.params[j]? = some t → Tryz.pinned.checked.prog.wantsStandIn t = false := by
  obtain rfl : f = 6 := Option.some.inj ((show Tryz.prog.funcNamed "wharf/wharfkeep.Again" = some 6 by kernel_rfl).symm.trans hf) |>.symm
  obtain rfl : fn = Tryz.f6 := (Option.some.inj (Tryz.func6.symm.trans hfn)).symm
  refine ⟨by kernel_rfl, fun j t ht => ?_⟩
  rw [Tryz.params6] at ht
  have hm := Array.mem_of_getElem? ht
  have ht' : t = 27 ∨ t = 25 ∨ t = 9 ∨ t = 3 := by simpa using hm
  rcases ht' with rfl | rfl | rfl | rfl
  · exact (show Tryz.prog.wantsStandIn 27 = false by kernel_rfl)
  · exact (show Tryz.prog.wantsStandIn 25 = false by kernel_rfl)
  · exact (show Tryz.prog.wantsStandIn 9 = false by kernel_rfl)
  · exact (show Tryz.prog.wantsStandIn 3 = false by kernel_rfl)

end Go.Proofs.YtbdobaapadlcjaaGreatDoor.ag

namespace Go.Proofs.YtbdobaapadlcjaaGreatDoor.ag

/-- A tied card whose road comes to a go statement: as the library's builder, with the cell 'goes'. -/
theorem holds_tied_goes (Lk : Looks) {p : Pinned} {s : OpenSpec} {c : OpenClaim} (kinds : List LaidKind) (tests : Bool) (har : Bool × String) (lk : Bool)
    (hc : c.holds p s) (hw : c.wfByText s = true) (htie : c.laidByTextAt Lk p kinds tests)
    (hst : c.start = .entering) (hnb : c.noBlocks = false ∧ c.again = false) (hm : p.checked.prog.mainIs = some (har.1, har.2.toList)) (hn : (!har.1 && har.2.isEmpty && !lk) = false)
    (hl : ∀ f fn, p.checked.prog.funcNamed c.func = some f → p.checked.prog.funcs[f]? = some fn → lk = p.checked.prog.looks [] ∧ ∀ (j : Nat) t, fn.params[j]? = some t → p.checked.prog.wantsStandIn t = false)
    (hg : true = c.goesBy p.checked.prog) :
    Claim7.holds p (.plain s) { stood := { row := c, standIns := [], harness := har, looks := lk }, kinds := [], alts := [], goes := true, laidByText := true, laidKinds := kinds, laidTests := tests, laidLooks := Lk } := by
  have h6 : Claim7.isSixth { stood := { row := c, standIns := [], harness := har, looks := lk }, kinds := [] } = false := by simpa [Claim7.isSixth] using hn
  exact ⟨Claim7.tied_new_at Lk kinds tests (Claim7.new_of_sixth hc har lk hst hnb hm h6 hl) hw, fun D hD => (by cases hD), htie, (fun h => by cases h), hg⟩

theorem card : Rows.AgainCardSaid :=
  holds_tied_goes .later _ _ _ _ said (by kernel_rfl) again_row_tie rfl ⟨rfl, rfl⟩ (by kernel_rfl) rfl plain (by kernel_rfl)
end Go.Proofs.YtbdobaapadlcjaaGreatDoor.ag
namespace Go.Proofs.YtbdobaapadlcjaaGreatDoor
theorem again_card : Rows.AgainCardSaid := ag.card
end Go.Proofs.YtbdobaapadlcjaaGreatDoor
