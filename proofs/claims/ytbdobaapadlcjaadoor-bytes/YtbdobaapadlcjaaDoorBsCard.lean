/-
  THE STATEMENT Bytes: the row out of the walk, and its card.
-/
import Derived.Test.YtbdobaapadlcjaaDoorCards
import Derived.Test.YtbdobaapadlcjaaDoorTie
import Derived.Test.YtbdobaapadlcjaaDoorRfR
import Derived.Test.YtbdobaapadlcjaaDoorBackO
import Derived.WalkKit
import Derived.ProofKit
import Derived.OpenShut
import Derived.Carry
import Derived.MakeChecks
import Derived.LaidSub
import Derived.SizedLaws
import Derived.Lib.LaidTab
import Derived.Deep.DeepHandedRow
import Derived.Deep.DeepWitnessRowRef
import Derived.LaidMore
namespace Go.Proofs.YtbdobaapadlcjaaDoor.bs
open Go.ChangeShapes Go.WideShapes Go.ChangeAt Go.RowKit
open Go.ChangeMaps (open_string shut_string)
open Go.Proofs.YtbdobaapadlcjaaDoor.Keep

theorem own : ownKnob Tryd.prog.godebug = none := by kernel_rfl
theorem laidOut : laidOutB Tryd.prog = true := by kernel_rfl
theorem read37 : Tryd.prog.readableRec 37 = true := by kernel_rfl
theorem row37 : 37 < Tryd.prog.types.size := of_decide_eq_true (by kernel_rfl)
theorem gTab : Tryd.prog.globalNamed "wharf/wire.quads" = some 0 := by kernel_rfl
theorem gTabType : (Tryd.prog.globals[0]?).map (·.type) = some 73 := by kernel_rfl
theorem cells73 : Tryd.prog.cellsOf 73 = 16 := by kernel_rfl
theorem cells23 : Tryd.prog.cellsOf 23 = 1 := by kernel_rfl
theorem bytes9 : Tryd.prog.bytesOf 9 = 16 := by kernel_rfl

/-- WHAT THE ROW's LIST GIVES. -/
theorem tables {W : World} (h : laidMetH Tryd.prog Rows.bytesRow.laid W) : Lays W.heap.size W := by
  rw [MakeChecks.laidMetH_plain _ _ _ (by kernel_rfl)] at h
  have h2 := laidMet.filter (fun x => x.1 != "wharf/wire.quads") h
  exact lays_of (rest := []) h2
theorem table {W : World} (h : laidMetH Tryd.prog Rows.bytesRow.laid W) : Lib.TabIs Tryd.prog W "wharf/wire.quads" .u32 [0, 498536548, 997073096, 651767980, 1994146192, 1802195444, 1303535960, 1342533948, 3988292384, 4027552580, 3604390888, 3412177804, 2607071920, 2262029012, 2685067896, 3183342108] :=
  Lib.tabIs_of_head (rest := [("wharf/wire.layouts", Rows.laid_wharf_wire_layouts), ("wharf/wire.rows", Rows.laid_wharf_wire_rows)]) gTab gTabType Tryd.underlying73 Tryd.underlying23 cells23 cells73 h
theorem tab_of {W : World} (h : Lib.TabIs Tryd.prog W "wharf/wire.quads" .u32 [0, 498536548, 997073096, 651767980, 1994146192, 1802195444, 1303535960, 1342533948, 3988292384, 4027552580, 3604390888, 3412177804, 2607071920, 2262029012, 2685067896, 3183342108]) : Tab W := by
  intro i hi
  have h1 := h.cell gTab i hi
  rw [h1]
  have h2 : ∀ j : Fin 16, ([0, 498536548, 997073096, 651767980, 1994146192, 1802195444, 1303535960, 1342533948, 3988292384, 4027552580, 3604390888, 3412177804, 2607071920, 2262029012, 2685067896, 3183342108] : List Int).getD j.val 0 = ((Crc.tab.getD j.val 0 : Nat) : Int) := by decide
  exact congrArg (fun z => some (Value.int .u32 z)) (h2 ⟨i, hi⟩)

/-- How long the list of a request that came in can be: the form's own reach. -/
theorem sized_rq {H : Type} {enc : TypeId × Value → H} {W : World} {r : Wp.Rq} {xa : Option Addr} {n xc : Nat} {d : DataW H} {p : List MemPlace} (h : DataW.Trod enc Tryd.prog W 0 (fun _ => true) true 37 (.agg (cellsOf r (.slice xa n xc))) d p)
    (hs : (DataW.weights Tryd.prog 37 d).all (· ≤ reachBytes) = true) : n ≤ 8796093022208 := by
  obtain ⟨fuel, hf⟩ := h
  obtain ⟨xs, m, _, hx, _, hlen, hfd⟩ := DataW.trod_struct Tryd.underlying37 hf
  have hlen' : xs.length = 15 := hlen
  have h14 : DataW.trod enc Tryd.prog W 0 (fun _ => true) true m 28 [.slice xa n xc] = some (xs[14]'(by omega)) := by
    have := hfd 14 _ rfl
    rw [List.getElem?_eq_getElem (by omega)] at this
    rw [← this]
    show _ = DataW.trod enc Tryd.prog W 0 (fun _ => true) true m 28 (List.take (Tryd.prog.cellsOf 28) (List.drop 14 (cellsOf r (.slice xa n xc)).toList))
    rw [cells28]
    rfl
  have hd : d = .agg (xs.map (·.1)) := congrArg Prod.fst hx
  subst hd
  simp only [DataW.weights, Tryd.underlying37] at hs
  rcases open_strings Tryd.underlying28 Tryd.underlying9 cells9 h14 with ⟨hcs, _⟩ | ⟨a, len, cap, ss, hcs, _, hl, hm, hz, hy, hcell, hws⟩
  · have e := List.singleton_inj.1 hcs
    injection e with _ e2 _
    omega
  · have e := List.singleton_inj.1 hcs
    injection e with _ e2 e3
    have hss : ss.length = cap := hz
    have hj : (xs.map (·.1))[14]? = some (.slice (strs (ss.take len)) (strs (ss.drop len))) := by
      rw [List.getElem?_map, List.getElem?_eq_getElem (by omega), hy]
      rfl
    have h3 := sized_slice hs (j := 14) (t := 28) rfl hj Tryd.underlying28
    rw [bytes9] at h3
    have h4 : (strs (H := H) (ss.take len)).length = len := by simp [strs]; omega
    have h5 := reachBytes_lt
    rw [h4] at h3
    omega

set_option maxRecDepth 100000 in
/-- WHAT THE WALK GIVES, FOR EVERY ARGUMENT AND EVERY WORLD THAT HOLDS THE TABLES. -/
theorem contract (H : Type) (enc : TypeId × Value → H) (W : World) (base : Nat) (args : Array Value) (ds gs : List (DataW H)) (before : List MemPlace)
    (hval : ∀ (j : Nat) t v, Tryd.f4.params[j]? = some t → args[j]? = some v → Value.okWide Tryd.prog W .any base t v)
    (hW : DataW.Whole enc Tryd.prog Tryd.f4.params.toList Rows.bytesSpec.vars false W args.toList ds gs before)
    (hR : (DataW.weightsEach Tryd.prog (Tryd.f4.params.toList ++ (OpenSpec.ofChange Rows.bytesSpec).bare.plain.varTypes Tryd.prog) (ds ++ gs)).all (· ≤ reachBytes) = true)
    (hL : laidMetH Tryd.prog Rows.bytesRow.laid W) :
    Calls Tryd.prog 4 args W fun e W' => ∃ v, e = .returned v ∧ Rows.bytesSpec.post enc Tryd.prog Tryd.f4 false true false false W args v W' := by
  have hW' := hW
  have hlt := hW.lt
  obtain ⟨p, q, hA0, hV, rfl, hfz, hnd⟩ := hW
  have hA : DataW.TrodAll enc Tryd.prog W 0 (fun _ => true) true Tryd.f4.params.toList args.toList ds p := hA0
  rw [Tryd.params4] at hA hval
  obtain ⟨v0, vs0, d0, ds0, p0, q0, hargs, rfl, rfl, h0, r0⟩ := trodAll_cons hA
  obtain ⟨v1, vs1, d1, ds1, p1, q1, rfl, rfl, rfl, h1, r1⟩ := trodAll_cons r0
  obtain ⟨rfl, rfl, rfl⟩ := trodAll_nil r1
  obtain rfl : args = #[v0, v1] := Array.toList_inj.1 hargs
  obtain ⟨rfl, rfl⟩ := trodVars_none hV
  obtain ⟨s, rfl, rfl, rfl, hs⟩ := open_string Tryd.underlying9 (hval 0 9 v0 rfl rfl) h0
  have hp1 : ∀ a ∈ p1, a.block < W.heap.size := fun a ha => hlt a (by simp [ha])
  obtain ⟨r, xa, xc, bs, rfl, hwf, hsz, hn, hbs, hS⟩ := open_rq (hval 1 37 v1 rfl rfl) h1
  have hn2 : bs.length ≤ 8796093022208 := sized_rq h1 (by
    rw [Tryd.params4] at hR
    refine List.all_eq_true.2 fun n hm => List.all_eq_true.1 hR n (DataW.weights_mem_each (j := 1) (t := 37) (d := d1) rfl rfl n hm))
  clear hA0
  have hT : Tab W := tab_of (table hL)
  have hz : 0 < W.heap.size := World.block_lt_of_cell? _ _ (hT 0 (by decide))
  have walk := Ref.Bytes_law W.heap.size r xa xc bs s W hwf hn2 hbs hS hs hT hz (tables hL) (Nat.le_refl _)
  refine walk.mono fun e W' ⟨he, hg⟩ => ?_
  subst he
  refine ⟨_, rfl, _, _, _, [], [] ++ (p1 ++ []), [], hW', ?_, ?_, ?_, hg.frame _, fun h => by cases h⟩
  · exact trodAll_cons_mk (shut_bool Tryd.underlying4 _) trodAll_mk0
  · exact trodAll_cons_mk (shut_string Tryd.underlying9 hs) (trodAll_cons_mk (Below.trod laidOut read37 row37 h1 hg hp1) trodAll_mk0)
  · rfl

theorem laid_met (os : Os) (args : Array Value) : laidMet Tryd.prog Rows.bytesRow.laid ((World.doorLaid Tryd.prog 49 os).forCall (fun _ _ => 0) ⟨#[], args, []⟩).memory :=
  laidMet_of_run' 8 (by kernel_rfl) (by kernel_rfl)
theorem reads (os : Os) {H : Type} (enc : TypeId × Value → H) : ∃ places, DataW.whole enc Tryd.prog ((World.doorLaid Tryd.prog 49 os).forCall (fun _ _ => 0) ⟨#[], #[.string ByteArray.empty, .agg (cellsOf (opR 0) (.slice none 0 0))], []⟩).memory Tryd.f4.params.toList Rows.bytesSpec.vars false #[Value.string ByteArray.empty, .agg (cellsOf (opR 0) (.slice none 0 0))].toList 8 =
    some ([.lit (.string []), .agg [.lit (.int .u8 0), .lit (.int .u8 0), .lit (.int .u8 0), .lit (.int .i64 0), .lit (.int .i64 0), .lit (.int .i64 0), .lit (.int .i64 0), .lit (.int .i64 0), .lit (.int .i64 0), .lit (.string []), .lit (.string []), .lit (.string []), .lit (.string []), .lit (.string []), .nil]], [], places) :=
  ⟨[], by kernel_rfl⟩

set_option maxRecDepth 100000 in
theorem lifted (os : Os) (started : os.Started) (H : Type) (enc : TypeId × Value → H) (F : Stop.Interp) :
    ReturnsInHanded {} Tryd.checked os 4 .any ((OpenSpec.ofChange Rows.bytesSpec).preRow enc Tryd.prog Tryd.f4 Rows.bytesRow.domain false Rows.bytesRow.laid) (((OpenSpec.ofChange Rows.bytesSpec).at F).post enc Tryd.prog Tryd.f4 false true false false) := by
  obtain ⟨places, hx⟩ := reads os enc
  refine returnsInHanded_of_row (C := Tryd.checked) (s := OpenSpec.ofChange Rows.bytesSpec) own started (by kernel_rfl) Tryd.func4
    (witness_row_atRef (enc := enc) (C := Tryd.checked) false (World.doorLaid Tryd.prog 49 os) #[.string ByteArray.empty, .agg (cellsOf (opR 0) (.slice none 0 0))] rfl (by kernel_rfl) (by kernel_rfl) (by kernel_rfl)
      (OpenSpec.preRow_of_cond 8 hx (by kernel_rfl) (fun k hk => by cases hk) (by kernel_rfl) (laid_met os _))) ?_
  intro W base args ds gs before hval hW _ _ hR hL _ _
  exact contract H enc W base args ds gs before hval hW hR hL

theorem said : Rows.BytesSaid :=
  OpenClaim.holds_of_cond 4 Tryd.f4 rfl rfl rfl rfl rfl rfl rfl ⟨rfl, rfl, rfl, rfl, rfl⟩ rfl rfl rfl rfl rfl (by kernel_rfl) Tryd.func4 (by kernel_rfl)
    (of_decide_eq_true (by kernel_rfl)) (by unfold Func.isWrapper; first | (rw [if_pos (by decide +kernel)]; kernel_rfl) | (rw [if_neg (by decide +kernel)]; exact ⟨rfl, rfl⟩))
    (fun os started H enc _ F => by rw [OpenClaim.pre_eq_preRow]; exact lifted os started H enc F)

theorem plain (f : FuncId) (fn : Func) (hf : Tryd.pinned.checked.prog.funcNamed "wharf/wharflaw.Bytes" = some f) (hfn : Tryd.pinned.checked.prog.funcs[f]? = some fn) :
    false = Tryd.pinned.checked.prog.looks [] ∧ ∀ (j : Nat) t, fn.params[j]? = some t → Tryd.pinned.checked.prog.wantsStandIn t = false := by
  obtain rfl : f = 4 := Option.some.inj ((show Tryd.prog.funcNamed "wharf/wharflaw.Bytes" = some 4 by kernel_rfl).symm.trans hf) |>.symm
  obtain rfl : fn = Tryd.f4 := (Option.some.inj (Tryd.func4.symm.trans hfn)).symm
  refine ⟨by kernel_rfl, fun j t ht => ?_⟩
  rw [Tryd.params4] at ht
  have hm := Array.mem_of_getElem? ht
  have ht' : t = 9 ∨ t = 37 := by simpa using hm
  rcases ht' with rfl | rfl
  · exact (show Tryd.prog.wantsStandIn 9 = false by kernel_rfl)
  · exact (show Tryd.prog.wantsStandIn 37 = false by kernel_rfl)

/-- THE CARD -/
theorem card : Rows.BytesCardSaid :=
  Claim7.holds_tied_plain_at .later [] _ _ _ _ said (fun _ h => by cases h) (by kernel_rfl) (fun _ h => by cases h) bytes_row_tie rfl ⟨rfl, rfl⟩ (by kernel_rfl) rfl plain (by kernel_rfl)
end Go.Proofs.YtbdobaapadlcjaaDoor.bs
namespace Go.Proofs.YtbdobaapadlcjaaDoor
theorem bytes_card : Rows.BytesCardSaid := bs.card
end Go.Proofs.YtbdobaapadlcjaaDoor
