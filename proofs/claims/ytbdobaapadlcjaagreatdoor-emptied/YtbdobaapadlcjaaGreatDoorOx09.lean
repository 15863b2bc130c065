import Derived.Test.YtbdobaapadlcjaaGreatDoorOx08
import Derived.ProofKit
import Derived.OpenShut
import Derived.SliceStrings
import Derived.Test.YtbdobaapadlcjaaGreatDoorRows
import Derived.Deep.Strs
import Derived.Test.YtbdobaapadlcjaaGreatDoorOx07
import Derived.Laws.AppendOwn
import Derived.Laws.OwnMore
import Derived.Deep.RegionLaw
namespace Go.Proofs.YtbdobaapadlcjaaGreatDoor.Keep
open Go.ChangeShapes Go.WideShapes Go.ChangeAt Go.RowKit
set_option linter.unusedVariables false
set_option linter.unusedSimpArgs false
theorem addr_at (b o j : Nat) : (⟨b, o, none⟩ : Addr).add j = ⟨b, o + j, none⟩ := by unfold Addr.add; split <;> simp_all
theorem cells5 : Tryz.prog.cellsOf 5 = 1 := by kernel_rfl
theorem cells3 : Tryz.prog.cellsOf 3 = 1 := by kernel_rfl
theorem cells9 : Tryz.prog.cellsOf 9 = 1 := by kernel_rfl
theorem cells28 : Tryz.prog.cellsOf 25 = 1 := by kernel_rfl
theorem cells37 : Tryz.prog.cellsOf 27 = 15 := by kernel_rfl
theorem array15 {α : Type} {cs : Array α} (h : cs.size = 15) : ∃ c0 c1 c2 c3 c4 c5 c6 c7 c8 c9 c10 c11 c12 c13 c14, cs = #[c0, c1, c2, c3, c4, c5, c6, c7, c8, c9, c10, c11, c12, c13, c14] := by
  obtain ⟨l⟩ := cs
  match l, h with
  | [c0, c1, c2, c3, c4, c5, c6, c7, c8, c9, c10, c11, c12, c13, c14], _ => exact ⟨c0, c1, c2, c3, c4, c5, c6, c7, c8, c9, c10, c11, c12, c13, c14, rfl⟩
theorem byte_of (z : Int) (h : 0 ≤ z ∧ z ≤ 255) : ∃ c : UInt8, z = (c.toNat : Int) := by
  refine ⟨UInt8.ofNat z.toNat, ?_⟩
  rw [UInt8.toNat_ofNat_of_lt' (by show _ < 256; omega)]
  omega
theorem strs_of {W : World} {a : Addr} {len : Nat} {ss : List ByteArray} (hl : len ≤ ss.length) (h : ∀ i, i < ss.length → W.cell? (a.add i) = some (.string (ss.getD i ByteArray.empty))) : Strs W (some a) (ss.take len) := by
  intro j hj
  have hj' : j < ss.length := by rw [List.length_take] at hj; omega
  have h0 := h 0 (by omega)
  have hs : a.spot = none := by
    have e : a.add 0 = a := by unfold Addr.add; rw [if_pos rfl]
    rw [e] at h0
    unfold World.cell? at h0
    split at h0
    · cases hsp : a.spot with
      | none => rfl
      | some x => simp [hsp] at h0
    · simp at h0
  obtain ⟨b, o, sp⟩ := a
  simp only at hs
  subst hs
  refine ⟨b, o, rfl, ?_⟩
  have h2 := h j hj'
  rw [addr_at] at h2
  rw [h2, List.getElem_take]
  simp [hj']
set_option maxRecDepth 100000 in
set_option maxHeartbeats 1000000 in
theorem open_rq {H : Type} {enc : TypeId × Value → H} {W : World} {base : Nat} {v : Value} {d : DataW H} {p : List MemPlace} (hv : Value.okWide Tryz.prog W .any base 27 v) (h : DataW.Trod enc Tryz.prog W 0 (fun _ => true) true 27 v d p) :
    ∃ (r : Wp.Rq) (xa : Option Addr) (xc : Nat) (bs : List ByteArray), v = .agg (cellsOf r (.slice xa bs.length xc)) ∧ Wf r ∧ Szs r ∧ bs.length ≤ maxLen ∧ (∀ s ∈ bs, s.size ≤ maxLen) ∧ Strs W xa bs := by
  obtain ⟨cs, rfl, hsz⟩ := okWide_struct Tryz.underlying27 hv
  rw [cells37] at hsz
  obtain ⟨c0, c1, c2, c3, c4, c5, c6, c7, c8, c9, c10, c11, c12, c13, c14, rfl⟩ := array15 hsz
  obtain ⟨fuel, hf⟩ := h
  obtain ⟨xs, n, _, _, _, hlen, hfd⟩ := DataW.trod_struct Tryz.underlying27 hf
  have hlen' : xs.length = 15 := hlen
  have h0 : DataW.trod enc Tryz.prog W 0 (fun _ => true) true n 5 [c0] = some (xs[0]'(by omega)) := by
    have := hfd 0 _ rfl
    rw [List.getElem?_eq_getElem (by omega)] at this
    rw [← this]
    show _ = DataW.trod enc Tryz.prog W 0 (fun _ => true) true n 5 (List.take (Tryz.prog.cellsOf 5) (List.drop 0 [c0, c1, c2, c3, c4, c5, c6, c7, c8, c9, c10, c11, c12, c13, c14]))
    rw [cells5]
    rfl
  have h1 : DataW.trod enc Tryz.prog W 0 (fun _ => true) true n 5 [c1] = some (xs[1]'(by omega)) := by
    have := hfd 1 _ rfl
    rw [List.getElem?_eq_getElem (by omega)] at this
    rw [← this]
    show _ = DataW.trod enc Tryz.prog W 0 (fun _ => true) true n 5 (List.take (Tryz.prog.cellsOf 5) (List.drop 1 [c0, c1, c2, c3, c4, c5, c6, c7, c8, c9, c10, c11, c12, c13, c14]))
    rw [cells5]
    rfl
  have h2 : DataW.trod enc Tryz.prog W 0 (fun _ => true) true n 5 [c2] = some (xs[2]'(by omega)) := by
    have := hfd 2 _ rfl
    rw [List.getElem?_eq_getElem (by omega)] at this
    rw [← this]
    show _ = DataW.trod enc Tryz.prog W 0 (fun _ => true) true n 5 (List.take (Tryz.prog.cellsOf 5) (List.drop 2 [c0, c1, c2, c3, c4, c5, c6, c7, c8, c9, c10, c11, c12, c13, c14]))
    rw [cells5]
    rfl
  have h3 : DataW.trod enc Tryz.prog W 0 (fun _ => true) true n 3 [c3] = some (xs[3]'(by omega)) := by
    have := hfd 3 _ rfl
    rw [List.getElem?_eq_getElem (by omega)] at this
    rw [← this]
    show _ = DataW.trod enc Tryz.prog W 0 (fun _ => true) true n 3 (List.take (Tryz.prog.cellsOf 3) (List.drop 3 [c0, c1, c2, c3, c4, c5, c6, c7, c8, c9, c10, c11, c12, c13, c14]))
    rw [cells3]
    rfl
  have h4 : DataW.trod enc Tryz.prog W 0 (fun _ => true) true n 3 [c4] = some (xs[4]'(by omega)) := by
    have := hfd 4 _ rfl
    rw [List.getElem?_eq_getElem (by omega)] at this
    rw [← this]
    show _ = DataW.trod enc Tryz.prog W 0 (fun _ => true) true n 3 (List.take (Tryz.prog.cellsOf 3) (List.drop 4 [c0, c1, c2, c3, c4, c5, c6, c7, c8, c9, c10, c11, c12, c13, c14]))
    rw [cells3]
    rfl
  have h5 : DataW.trod enc Tryz.prog W 0 (fun _ => true) true n 3 [c5] = some (xs[5]'(by omega)) := by
    have := hfd 5 _ rfl
    rw [List.getElem?_eq_getElem (by omega)] at this
    rw [← this]
    show _ = DataW.trod enc Tryz.prog W 0 (fun _ => true) true n 3 (List.take (Tryz.prog.cellsOf 3) (List.drop 5 [c0, c1, c2, c3, c4, c5, c6, c7, c8, c9, c10, c11, c12, c13, c14]))
    rw [cells3]
    rfl
  have h6 : DataW.trod enc Tryz.prog W 0 (fun _ => true) true n 3 [c6] = some (xs[6]'(by omega)) := by
    have := hfd 6 _ rfl
    rw [List.getElem?_eq_getElem (by omega)] at this
    rw [← this]
    show _ = DataW.trod enc Tryz.prog W 0 (fun _ => true) true n 3 (List.take (Tryz.prog.cellsOf 3) (List.drop 6 [c0, c1, c2, c3, c4, c5, c6, c7, c8, c9, c10, c11, c12, c13, c14]))
    rw [cells3]
    rfl
  have h7 : DataW.trod enc Tryz.prog W 0 (fun _ => true) true n 3 [c7] = some (xs[7]'(by omega)) := by
    have := hfd 7 _ rfl
    rw [List.getElem?_eq_getElem (by omega)] at this
    rw [← this]
    show _ = DataW.trod enc Tryz.prog W 0 (fun _ => true) true n 3 (List.take (Tryz.prog.cellsOf 3) (List.drop 7 [c0, c1, c2, c3, c4, c5, c6, c7, c8, c9, c10, c11, c12, c13, c14]))
    rw [cells3]
    rfl
  have h8 : DataW.trod enc Tryz.prog W 0 (fun _ => true) true n 3 [c8] = some (xs[8]'(by omega)) := by
    have := hfd 8 _ rfl
    rw [List.getElem?_eq_getElem (by omega)] at this
    rw [← this]
    show _ = DataW.trod enc Tryz.prog W 0 (fun _ => true) true n 3 (List.take (Tryz.prog.cellsOf 3) (List.drop 8 [c0, c1, c2, c3, c4, c5, c6, c7, c8, c9, c10, c11, c12, c13, c14]))
    rw [cells3]
    rfl
  have h9 : DataW.trod enc Tryz.prog W 0 (fun _ => true) true n 9 [c9] = some (xs[9]'(by omega)) := by
    have := hfd 9 _ rfl
    rw [List.getElem?_eq_getElem (by omega)] at this
    rw [← this]
    show _ = DataW.trod enc Tryz.prog W 0 (fun _ => true) true n 9 (List.take (Tryz.prog.cellsOf 9) (List.drop 9 [c0, c1, c2, c3, c4, c5, c6, c7, c8, c9, c10, c11, c12, c13, c14]))
    rw [cells9]
    rfl
  have h10 : DataW.trod enc Tryz.prog W 0 (fun _ => true) true n 9 [c10] = some (xs[10]'(by omega)) := by
    have := hfd 10 _ rfl
    rw [List.getElem?_eq_getElem (by omega)] at this
    rw [← this]
    show _ = DataW.trod enc Tryz.prog W 0 (fun _ => true) true n 9 (List.take (Tryz.prog.cellsOf 9) (List.drop 10 [c0, c1, c2, c3, c4, c5, c6, c7, c8, c9, c10, c11, c12, c13, c14]))
    rw [cells9]
    rfl
  have h11 : DataW.trod enc Tryz.prog W 0 (fun _ => true) true n 9 [c11] = some (xs[11]'(by omega)) := by
    have := hfd 11 _ rfl
    rw [List.getElem?_eq_getElem (by omega)] at this
    rw [← this]
    show _ = DataW.trod enc Tryz.prog W 0 (fun _ => true) true n 9 (List.take (Tryz.prog.cellsOf 9) (List.drop 11 [c0, c1, c2, c3, c4, c5, c6, c7, c8, c9, c10, c11, c12, c13, c14]))
    rw [cells9]
    rfl
  have h12 : DataW.trod enc Tryz.prog W 0 (fun _ => true) true n 9 [c12] = some (xs[12]'(by omega)) := by
    have := hfd 12 _ rfl
    rw [List.getElem?_eq_getElem (by omega)] at this
    rw [← this]
    show _ = DataW.trod enc Tryz.prog W 0 (fun _ => true) true n 9 (List.take (Tryz.prog.cellsOf 9) (List.drop 12 [c0, c1, c2, c3, c4, c5, c6, c7, c8, c9, c10, c11, c12, c13, c14]))
    rw [cells9]
    rfl
  have h13 : DataW.trod enc Tryz.prog W 0 (fun _ => true) true n 9 [c13] = some (xs[13]'(by omega)) := by
    have := hfd 13 _ rfl
    rw [List.getElem?_eq_getElem (by omega)] at this
    rw [← this]
    show _ = DataW.trod enc Tryz.prog W 0 (fun _ => true) true n 9 (List.take (Tryz.prog.cellsOf 9) (List.drop 13 [c0, c1, c2, c3, c4, c5, c6, c7, c8, c9, c10, c11, c12, c13, c14]))
    rw [cells9]
    rfl
  have h14 : DataW.trod enc Tryz.prog W 0 (fun _ => true) true n 25 [c14] = some (xs[14]'(by omega)) := by
    have := hfd 14 _ rfl
    rw [List.getElem?_eq_getElem (by omega)] at this
    rw [← this]
    show _ = DataW.trod enc Tryz.prog W 0 (fun _ => true) true n 25 (List.take (Tryz.prog.cellsOf 25) (List.drop 14 [c0, c1, c2, c3, c4, c5, c6, c7, c8, c9, c10, c11, c12, c13, c14]))
    rw [cells28]
    rfl
  obtain ⟨z0, e0, _, w0⟩ := DataW.trod_int Tryz.underlying5 h0
  obtain ⟨b0, q0⟩ := byte_of z0 (bounds_u8 w0)
  obtain ⟨z1, e1, _, w1⟩ := DataW.trod_int Tryz.underlying5 h1
  obtain ⟨b1, q1⟩ := byte_of z1 (bounds_u8 w1)
  obtain ⟨z2, e2, _, w2⟩ := DataW.trod_int Tryz.underlying5 h2
  obtain ⟨b2, q2⟩ := byte_of z2 (bounds_u8 w2)
  obtain ⟨z3, e3, _, w3⟩ := DataW.trod_int Tryz.underlying3 h3
  obtain ⟨z4, e4, _, w4⟩ := DataW.trod_int Tryz.underlying3 h4
  obtain ⟨z5, e5, _, w5⟩ := DataW.trod_int Tryz.underlying3 h5
  obtain ⟨z6, e6, _, w6⟩ := DataW.trod_int Tryz.underlying3 h6
  obtain ⟨z7, e7, _, w7⟩ := DataW.trod_int Tryz.underlying3 h7
  obtain ⟨z8, e8, _, w8⟩ := DataW.trod_int Tryz.underlying3 h8
  obtain ⟨s9, e9, _, w9⟩ := DataW.trod_string Tryz.underlying9 h9
  obtain ⟨s10, e10, _, w10⟩ := DataW.trod_string Tryz.underlying9 h10
  obtain ⟨s11, e11, _, w11⟩ := DataW.trod_string Tryz.underlying9 h11
  obtain ⟨s12, e12, _, w12⟩ := DataW.trod_string Tryz.underlying9 h12
  obtain ⟨s13, e13, _, w13⟩ := DataW.trod_string Tryz.underlying9 h13
  have f0 := List.singleton_inj.1 e0
  have f1 := List.singleton_inj.1 e1
  have f2 := List.singleton_inj.1 e2
  have f3 := List.singleton_inj.1 e3
  have f4 := List.singleton_inj.1 e4
  have f5 := List.singleton_inj.1 e5
  have f6 := List.singleton_inj.1 e6
  have f7 := List.singleton_inj.1 e7
  have f8 := List.singleton_inj.1 e8
  have f9 := List.singleton_inj.1 e9
  have f10 := List.singleton_inj.1 e10
  have f11 := List.singleton_inj.1 e11
  have f12 := List.singleton_inj.1 e12
  have f13 := List.singleton_inj.1 e13
  subst f0 f1 f2 f3 f4 f5 f6 f7 f8 f9 f10 f11 f12 f13 q0 q1 q2
  have hwf : Wf (⟨b0, b1, b2, z3, z4, z5, z6, z7, z8, s9, s10, s11, s12, s13⟩ : Wp.Rq) := ⟨bounds_i64 w3, bounds_i64 w4, bounds_i64 w5, bounds_i64 w6, bounds_i64 w7, bounds_i64 w8⟩
  have hszs : Szs (⟨b0, b1, b2, z3, z4, z5, z6, z7, z8, s9, s10, s11, s12, s13⟩ : Wp.Rq) := ⟨w9, w10, w11, w12, w13⟩
  rcases open_strings Tryz.underlying25 Tryz.underlying9 cells9 h14 with ⟨hcs, _⟩ | ⟨a, len, cap, ss, hcs, _, hl, hm, hz, _, hcell, hws⟩
  · have f14 := List.singleton_inj.1 hcs
    subst f14
    exact ⟨⟨b0, b1, b2, z3, z4, z5, z6, z7, z8, s9, s10, s11, s12, s13⟩, none, 0, [], rfl, hwf, hszs, by decide, fun s hs => by simp at hs, fun j hj => absurd hj (by simp)⟩
  · have f14 := List.singleton_inj.1 hcs
    subst f14
    have hss : ss.length = cap := hz
    have hlt : (ss.take len).length = len := by rw [List.length_take]; omega
    refine ⟨⟨b0, b1, b2, z3, z4, z5, z6, z7, z8, s9, s10, s11, s12, s13⟩, some a, cap, ss.take len, ?_, hwf, hszs, by omega, fun s hs => hws s (List.mem_of_mem_take hs), strs_of (by omega) hcell⟩
    rw [hlt]
    rfl
end Go.Proofs.YtbdobaapadlcjaaGreatDoor.Keep
namespace Go.Proofs.YtbdobaapadlcjaaGreatDoor.Keep
open Go.ChangeShapes Go.WideShapes Go.ChangeAt Go.RowKit Go.Deep
set_option linter.unusedVariables false
set_option linter.unusedSimpArgs false
theorem gLay : Tryz.prog.globalNamed "wharf/wire.layouts" = some 0 := by kernel_rfl
theorem gLayT : (Tryz.prog.globals[0]?).map (·.type) = some 138 := by kernel_rfl
theorem gRow : Tryz.prog.globalNamed "wharf/wire.rows" = some 1 := by kernel_rfl
theorem gRowT : (Tryz.prog.globals[1]?).map (·.type) = some 175 := by kernel_rfl
theorem cells95 : Tryz.prog.cellsOf 137 = 1 := by kernel_rfl
theorem cells97 : Tryz.prog.cellsOf 139 = 1 := by kernel_rfl
theorem cells116 : Tryz.prog.cellsOf 173 = 1 := by kernel_rfl
theorem cells117 : Tryz.prog.cellsOf 174 = 3 := by kernel_rfl
def dat (l : List Nat) : DataW Unit := if l = [] then .nil else .slice (l.map fun (f : Nat) => DataW.lit (.int .i64 (f : Int))) []
theorem laid_lay (i : Nat) (hi : i < 26) : ∀ l, (Rows.laid_wharf_wire_layouts (H := Unit)) = .agg l → l[i]? = some (dat (Wp.lay i)) := by
  intro l hl
  injection hl with hl
  subst hl
  have hx : i = 0 ∨ i = 1 ∨ i = 2 ∨ i = 3 ∨ i = 4 ∨ i = 5 ∨ i = 6 ∨ i = 7 ∨ i = 8 ∨ i = 9 ∨ i = 10 ∨ i = 11 ∨ i = 12 ∨ i = 13 ∨ i = 14 ∨ i = 15 ∨ i = 16 ∨ i = 17 ∨ i = 18 ∨ i = 19 ∨ i = 20 ∨ i = 21 ∨ i = 22 ∨ i = 23 ∨ i = 24 ∨ i = 25 := by omega
  rcases hx with rfl | rfl | rfl | rfl | rfl | rfl | rfl | rfl | rfl | rfl | rfl | rfl | rfl | rfl | rfl | rfl | rfl | rfl | rfl | rfl | rfl | rfl | rfl | rfl | rfl | rfl <;> rfl
theorem laid_row (i : Nat) (hi : i < 15) : ∀ l, (Rows.laid_wharf_wire_rows (H := Unit)) = .agg l → l[i]? = some (.agg [.lit (.int .i64 (Wp.rowTab.getD (3 * i) 0)), .lit (.int .i64 (Wp.rowTab.getD (3 * i + 1) 0)), .lit (.int .i64 (Wp.rowTab.getD (3 * i + 2) 0))]) := by
  intro l hl
  injection hl with hl
  subst hl
  have hx : i = 0 ∨ i = 1 ∨ i = 2 ∨ i = 3 ∨ i = 4 ∨ i = 5 ∨ i = 6 ∨ i = 7 ∨ i = 8 ∨ i = 9 ∨ i = 10 ∨ i = 11 ∨ i = 12 ∨ i = 13 ∨ i = 14 := by omega
  rcases hx with rfl | rfl | rfl | rfl | rfl | rfl | rfl | rfl | rfl | rfl | rfl | rfl | rfl | rfl | rfl <;> rfl
theorem lits_nat (zs : List Int) (l : List Nat) (h : (lits .i64 zs : List (DataW Unit)) = l.map fun (f : Nat) => DataW.lit (.int .i64 (f : Int))) : zs = l.map fun (f : Nat) => (f : Int) := by
  induction l generalizing zs with
  | nil =>
    cases zs with
    | nil => rfl
    | cons z zs => simp [lits] at h
  | cons f l ih =>
    cases zs with
    | nil => simp [lits] at h
    | cons z zs =>
      simp only [lits, List.map_cons, List.cons.injEq, DataW.lit.injEq, Lit.int.injEq, true_and] at h
      rw [List.map_cons, h.1, ih zs h.2]
theorem addr_spot {W : World} {a : Addr} {v : Value} (h : W.cell? a = some v) : a.spot = none := by
  unfold World.cell? at h
  split at h
  · cases hsp : a.spot with
    | none => rfl
    | some x => simp [hsp] at h
  · simp at h
theorem lays_of {W : World} {rest : List (String × DataW Unit)} (h2s : 2 < W.heap.size) (h : laidMet Tryz.prog (("wharf/wire.layouts", Rows.laid_wharf_wire_layouts) :: ("wharf/wire.rows", Rows.laid_wharf_wire_rows) :: rest) W) : Lays W.heap.size W := by
  obtain ⟨ps, ⟨g, t, cs, fuel, p, q, hg, ht, hvar, hd, ⟨g2, t2, cs2, fuel2, p2, q2, hg2, ht2, hvar2, hd2, _, _⟩, _⟩, _⟩ := h
  obtain rfl := Option.some.inj (gLay.symm.trans hg)
  obtain rfl := Option.some.inj (gLayT.symm.trans ht)
  obtain rfl := Option.some.inj (gRow.symm.trans hg2)
  obtain rfl := Option.some.inj (gRowT.symm.trans ht2)
  have hrow : ∀ i, i < 45 → W.cell? ⟨1, i, none⟩ = some (.int .i64 (Wp.rowTab.getD i 0)) := by
    obtain ⟨xs, m, _, hx, hl, hlen, hel⟩ := DataW.trod_array Tryz.underlying175 hd2
    intro i hi
    have hi3 : i / 3 < 15 := by omega
    have h1 := hel (i / 3) hi3
    rw [cells117, List.getElem?_eq_getElem (by omega)] at h1
    obtain ⟨y0, y1, y2, n, hy, _, a0, a1, a2⟩ := trod_struct3 Tryz.underlying174 h1
    have hdat := laid_row (i / 3) hi3 _ (congrArg Prod.fst hx)
    rw [List.getElem?_map, List.getElem?_eq_getElem (by omega)] at hdat
    have hdat2 := Option.some.inj hdat
    rw [hy] at hdat2
    injection hdat2 with hdat3
    simp only [List.cons.injEq, and_true] at hdat3
    obtain ⟨z0, e0, f0, _⟩ := DataW.trod_int Tryz.underlying173 a0
    obtain ⟨z1, e1, f1, _⟩ := DataW.trod_int Tryz.underlying3 a1
    obtain ⟨z2, e2, f2, _⟩ := DataW.trod_int Tryz.underlying3 a2
    rw [f0, f1, f2] at hdat3
    simp only [DataW.lit.injEq, Lit.int.injEq, true_and] at hdat3
    have hc2 : W.cell? ⟨1, i, none⟩ = cs2[i]? := World.var?_cell gRow hvar2 i
    rw [hc2]
    have hmod : i = i / 3 * 3 ∨ i = i / 3 * 3 + 1 ∨ i = i / 3 * 3 + 2 := by omega
    rcases hmod with hm | hm | hm
    · have e := congrArg (·[0]?) e0
      simp [cells116] at e
      rw [hm, e, hdat3.1]
      rw [Nat.mul_comm 3 (i / 3)]
    · have e := congrArg (·[0]?) e1
      simp [cells3] at e
      rw [hm, e, hdat3.2.1]
      rw [Nat.mul_comm 3 (i / 3)]
    · have e := congrArg (·[0]?) e2
      simp [cells3] at e
      rw [hm, e, hdat3.2.2]
      rw [Nat.mul_comm 3 (i / 3)]
  refine ⟨?_, hrow, ?_⟩
  · exact h2s
  · obtain ⟨xs, m, _, hx, hl, hlen, hel⟩ := DataW.trod_array Tryz.underlying138 hd
    intro i hi
    have h1 := hel i hi
    rw [cells95, Nat.mul_one, List.getElem?_eq_getElem (by omega)] at h1
    have hdat := laid_lay i hi _ (congrArg Prod.fst hx)
    rw [List.getElem?_map, List.getElem?_eq_getElem (by omega)] at hdat
    have hdat2 := Option.some.inj hdat
    have hc1 : W.cell? ⟨0, i, none⟩ = cs[i]? := World.var?_cell gLay hvar i
    rcases open_ints Tryz.underlying137 Tryz.underlying139 cells97 h1 with ⟨hcs, hy⟩ | ⟨a, len, cap, zs, hcs, _, hle, _, hz, hy, hcell, _⟩
    · have e := congrArg (·[0]?) hcs
      simp at e
      have hlay : Wp.lay i = [] := by
        have h2 : (DataW.nil : DataW Unit) = dat (Wp.lay i) := (congrArg Prod.fst hy).symm.trans hdat2
        unfold dat at h2
        by_cases hn : Wp.lay i = []
        · exact hn
        · rw [if_neg hn] at h2; cases h2
      refine ⟨none, 0, ?_, fun j hj => ?_⟩
      · rw [hc1, e, hlay]; rfl
      · rw [hlay] at hj; simp at hj
    · have e := congrArg (·[0]?) hcs
      simp at e
      have h2 : (.slice (lits .i64 (zs.take len)) (lits .i64 (zs.drop len)) : DataW Unit) = dat (Wp.lay i) := (congrArg Prod.fst hy).symm.trans hdat2
      unfold dat at h2
      by_cases hn : Wp.lay i = []
      · rw [if_pos hn] at h2; cases h2
      · rw [if_neg hn] at h2
        injection h2 with h3 h4
        have h5 := lits_nat _ _ h3
        have hzl : zs.length = cap := hz
        have hll : (Wp.lay i).length = len := by
          have := congrArg List.length h5
          rw [List.length_take, List.length_map] at this
          omega
        refine ⟨some a, cap, ?_, fun j hj => ?_⟩
        · rw [hc1, e, hll]
        · have hj2 : j < zs.length := by omega
          have h0 := hcell 0 (by omega)
          have hs := addr_spot (by rw [show a.add 0 = a by unfold Addr.add; rw [if_pos rfl]] at h0; exact h0)
          obtain ⟨b, o, sp⟩ := a
          simp only at hs
          subst hs
          have h6 := hcell j hj2
          rw [addr_at] at h6
          refine ⟨b, o, rfl, World.block_lt_of_cell? _ _ h6, ?_⟩
          rw [h6]
          congr 2
          have h7 := congrArg (fun l => l.getD j 0) h5
          simp only [List.getD_eq_getElem?_getD, List.getElem?_map, List.getElem?_take] at h7 ⊢
          rw [if_pos (by omega)] at h7
          rw [h7, List.getElem?_eq_getElem hj]
          rfl
end Go.Proofs.YtbdobaapadlcjaaGreatDoor.Keep
namespace Go.Proofs.YtbdobaapadlcjaaGreatDoor
open Go.RowKit
set_option linter.unusedVariables false
set_option linter.unusedSimpArgs false
structure Tch (S : List Nat) (w w' : World) : Prop where
  os : w'.os = w.os
  tape : w'.tape = w.tape
  output : w'.output = w.output
  size : w.heap.size ≤ w'.heap.size
  block : ∀ k, k < w.heap.size → k ∉ S → w'.heap[k]? = w.heap[k]?
theorem Tch.refl (S : List Nat) (w : World) : Tch S w w := ⟨rfl, rfl, rfl, Nat.le_refl _, fun _ _ _ => rfl⟩
theorem Tch.trans {S S' : List Nat} {a b c : World} (h : Tch S a b) (k : Tch S' b c) (hS : ∀ x ∈ S', x < a.heap.size → x ∈ S) : Tch S a c :=
  ⟨k.os.trans h.os, k.tape.trans h.tape, k.output.trans h.output, Nat.le_trans h.size k.size, fun x hx hn =>
    (k.block x (Nat.lt_of_lt_of_le hx h.size) (fun hm => hn (hS x hm hx))).trans (h.block x hx hn)⟩
theorem Tch.sub {S S' : List Nat} {a b : World} (h : Tch S a b) (hS : ∀ x ∈ S, x < a.heap.size → x ∈ S') : Tch S' a b :=
  ⟨h.os, h.tape, h.output, h.size, fun x hx hn => h.block x hx (fun hm => hn (hS x hm hx))⟩
theorem Tch.alloc {S : List Nat} {a w : World} (h : Tch S a w) (o : Obj) : Tch S a (w.alloc o) :=
  ⟨h.os, h.tape, h.output, by rw [World.size_alloc]; exact Nat.le_succ_of_le h.size, fun k hk hn => (Below.heap_alloc w o k (Nat.lt_of_lt_of_le hk h.size)).trans (h.block k hk hn)⟩
theorem Tch.drew {S : List Nat} {a w : World} (h : Tch S a w) : Tch S a w.drew := ⟨h.os, h.tape, h.output, h.size, h.block⟩
theorem Tch.setCell {S : List Nat} {a w : World} (h : Tch S a w) {p : Addr} (hp : p.block < a.heap.size → p.block ∈ S) (u : Value) : Tch S a (w.setCell p u) :=
  ⟨h.os, h.tape, h.output, by rw [World.size_setCell]; exact h.size, fun k hk hn => (Below.heap_setCell w p u k (fun e => hn (by subst e; exact hp hk))).trans (h.block k hk hn)⟩
theorem Tch.setRow {S : List Nat} {a w : World} (h : Tch S a w) {g : Nat} (hp : g < a.heap.size → g ∈ S) (C : Array Value) : Tch S a (w.setRow g C) :=
  ⟨h.os, h.tape, h.output, by simp; exact h.size, fun k hk hn => (setRow_other w g k _ (fun e => hn (by subst e; exact hp hk))).trans (h.block k hk hn)⟩
theorem Tch.grown {S : List Nat} {a w w' : World} {row : Option Nat} (h : Tch S a w) (hg : w.grownBy w' row) (hr : ∀ k, row = some k → k < a.heap.size → k ∈ S) : Tch S a w' :=
  ⟨hg.os.trans h.os, hg.tape.trans h.tape, hg.output.trans h.output, Nat.le_trans h.size hg.size, fun k hk hn =>
    (hg.block k (Nat.lt_of_lt_of_le hk h.size) (fun e => hn (hr k e.symm hk))).trans (h.block k hk hn)⟩
theorem Tch.below {S : List Nat} {B : Nat} {w w' : World} (h : Tch S w w') (hS : ∀ x ∈ S, B ≤ x) (hB : B ≤ w.heap.size) : Below B w w' :=
  ⟨h.os, h.tape, h.output, h.size, fun k hk => h.block k (Nat.lt_of_lt_of_le hk hB) (fun hm => by have := hS k hm; omega)⟩
theorem Tch.of_below {w w' : World} (h : Below w.heap.size w w') : Tch [] w w' := ⟨h.os, h.tape, h.output, h.size, fun k hk _ => h.block k hk⟩
theorem Tch.cell {S : List Nat} {w w' : World} (h : Tch S w w') {a : Addr} (ha : a.block < w.heap.size) (hS : a.block ∉ S) : w'.cell? a = w.cell? a := World.cell?_of_block (h.block _ ha hS)
theorem Tch.drewN {S : List Nat} {a w : World} (h : Tch S a w) (n : Nat) : Tch S a (w.drewN n) := ⟨h.os, h.tape, h.output, h.size, h.block⟩
theorem own_tch {w w' : World} {base : Nat} {t : TypeId} {size n : Nat} {v : Value} {xs : List Value} (h : w.ownsRow base t size v n xs) {S : List Nat} (ht : Tch S w w') (hS : ∀ k, v.ownBlock = some k → k ∉ S) : w'.ownsRow base t size v n xs := by
  refine ⟨h.1, ?_⟩
  rcases h.2 with hn | ⟨g, cap, cur, rfl, hb, hg, rest⟩
  · exact .inl hn
  · exact .inr ⟨g, cap, cur, rfl, hb, (ht.block g (lt_of_block hg) (hS g rfl)).trans hg, rest⟩
theorem own_ne {w : World} {base : Nat} {t : TypeId} {size n : Nat} {v : Value} {xs : List Value} (h : w.ownsRow base t size v n xs) {k : Nat} {C : Array Value} {t' : TypeId} (hk : w.heap[k]? = some (.cells C t' (0, 0))) (ht : t ≠ t') : v.ownBlock ≠ some k := by
  intro e
  rcases h.2 with ⟨rfl, _⟩ | ⟨g, cap, cur, rfl, hb, hg, rest⟩
  · simp [Value.ownBlock] at e
  · simp only [Value.ownBlock, Option.some.injEq] at e
    subst e
    rw [hg] at hk
    simp at hk
    exact ht hk.2
theorem own_lt {w : World} {base : Nat} {t : TypeId} {size n : Nat} {v : Value} {xs : List Value} (h : w.ownsRow base t size v n xs) {k : Nat} (hk : v.ownBlock = some k) : k < w.heap.size := (World.ownsRow.lt h k hk).2
theorem run_app {P : Program} (w : World) (base : Nat) (t ty e : TypeId) (i : TypeInfo) (z : Value) (size bytes : Nat) (ht : P.underlying t = some (.slice e)) (hi : P.info? e = some i) (hz : i.zero = some z)
    (hsize : i.size = size) (hby : i.bytes = bytes) (hzs : z.cells.size = size) (hsz : 0 < size)
    (v : Value) (n : Nat) (xs : List Value) (hown : w.ownsRow base e size v n xs)
    (a : Addr) (m c : Nat) (news : List Value) (hl : news.length = m * size) (hnews : ∀ j u, news[j]? = some u → w.cell? (a.add j) = some u) (h1 : ∀ u ∈ news, u.oneCell' = true)
    (h63 : n + m ≤ maxLen) (hbytes : (n + m) * bytes ≤ 140737488355328) (hbase : base ≤ w.heap.size) (hm : 0 < m) :
    ∃ v' w', (Builtin.append_ #[t, t] ty #[v, .slice (some a) m c]).run P w = .ok v' w' ∧ w'.ownsRow base e size v' (n + m) (xs ++ news) ∧ w.grownBy w' v.ownBlock ∧ (v'.ownBlock = v.ownBlock ∨ v'.ownBlock = some w.heap.size) := by
  obtain ⟨v', w', hr, h2, h3, _⟩ := run_append_own (P := P) w base t ty e i z size bytes ht hi hz hsize hby hzs hsz v n xs hown a m c news hl hnews h1 h63 hbytes hbase
  refine ⟨v', w', hr, h2, h3, ?_⟩
  subst hsize
  subst hby
  have hsmall : n + m ≤ 9223372036854775807 := by simp only [maxLen] at h63; omega
  rcases hown.2 with ⟨rfl, rfl⟩ | ⟨g, cap, cur, rfl, hbg, hg, hnc, hcm, hcs, htake⟩
  · have hr2 := run_append_nil (P := P) w t ty e i z ht hi hz a m c news hl hnews hm (by omega) (by have hb := hbytes; simp only [Nat.zero_add] at hb; omega)
    rw [hr2] at hr
    injection hr with e1 e2
    subst e1
    exact .inr rfl
  · by_cases hroom : n + m ≤ cap
    · have hfit : n * i.size + news.length ≤ cur.size := by rw [hl, hcs, ← Nat.add_mul]; exact Nat.mul_le_mul_right _ hroom
      have hr2 := run_append_room (P := P) w t ty e i ht hi g n cap cur hg a m c news hl hnews h1 hroom hfit
      rw [hr2] at hr
      injection hr with e1 e2
      subst e1
      exact .inl rfl
    · have holds : ∀ j u, xs[j]? = some u → w.cell? ((⟨g, 0, none⟩ : Addr).add j) = some u := hown.cells (g := g) rfl
      have hr2 := run_append_grow (P := P) w t ty e i z ht hi hz ⟨g, 0, none⟩ n cap xs hown.1 holds a m c news hl hnews (by omega) (by omega) (growslice_fits (by omega) hbytes)
      rw [hr2] at hr
      injection hr with e1 e2
      subst e1
      exact .inr rfl
theorem wpList_app {P : Program} (w : World) {ops : Array Oper} {rest : List Oper} {o : Oper} {a : Act} {Q : Exit → Act → World → Prop} (hgd : o.guard = none) (s x : Operand) (t : TypeId)
    (ho : o.op = .call { callee := .builtin .append, args := #[s, x], argTypes := #[t, t] })
    (base : Nat) (e : TypeId) (i : TypeInfo) (z : Value) (size bytes : Nat) (ht : P.underlying t = some (.slice e)) (hi : P.info? e = some i) (hz : i.zero = some z)
    (hsize : i.size = size) (hby : i.bytes = bytes) (hzs : z.cells.size = size) (hsz : 0 < size)
    (v : Value) (n : Nat) (xs : List Value) (hs : a.eval s = v) (hown : w.ownsRow base e size v n xs)
    (ad : Addr) (m c : Nat) (news : List Value) (hx : a.eval x = .slice (some ad) m c) (hl : news.length = m * size) (hnews : ∀ j u, news[j]? = some u → w.cell? (ad.add j) = some u) (h1 : ∀ u ∈ news, u.oneCell' = true)
    (h63 : n + m ≤ maxLen) (hbytes : (n + m) * bytes ≤ 140737488355328) (hbase : base ≤ w.heap.size) (hm : 0 < m)
    (h : ∀ v' w', w'.ownsRow base e size v' (n + m) (xs ++ news) → w.grownBy w' v.ownBlock → (v'.ownBlock = v.ownBlock ∨ v'.ownBlock = some w.heap.size) → wpList P ops Q rest (a.put o.dst v') w') : wpList P ops Q (o :: rest) a w :=
  wpList_plain hgd fun _ hK => by
    obtain ⟨v', w', hr, h2, h3, h4⟩ := run_app (P := P) w base t o.type e i z size bytes ht hi hz hsize hby hzs hsz v n xs hown ad m c news hl hnews h1 h63 hbytes hbase hm
    unfold Oper.wp execOp
    simp only [ho, resolve, invoke, builtin, Sem.run_bind, Sem.run_pure, Result.andThen_ok, List.map_toArray, List.map_cons, List.map_nil, hs, hx, hr]
    exact hK _ _ (h v' w' h2 h3 h4)
theorem step_vals {ops : Array Oper} {o : Oper} {a : Act} {w : World} {K : Act → World → Prop} {Q : Exit → Act → World → Prop} {E : Prop} (hgd : o.guard = none) (s x : Operand) (t te : TypeId)
    (ho : o.op = .call { callee := .builtin .append, args := #[s, x], argTypes := #[t, t] }) (ht : Tryz.prog.underlying t = some (.slice te)) (z : Value) (size bytes : Nat)
    (hinfo : (Tryz.prog.info? te).map (fun i => (i.zero, i.size, i.bytes)) = some (some z, size, bytes)) (hzs : z.cells.size = size) (hsz : 0 < size) (hby : bytes ≤ 100)
    (v : Value) (n : Nat) (xs : List Value) (hs : a.eval s = v) (hown : w.ownsRow 0 te size v n xs) (g : Nat) (news : List Value) (m : Nat) (hx : a.eval x = .slice (some ⟨g, 0, none⟩) m m) (hm : news.length = m * size) (hm0 : 0 < m) (hg : w.heap[g]? = some (.cells news.toArray te (0, 0))) (hone : ∀ u ∈ news, u.oneCell' = true) (hn : n + m ≤ 1073741824)
    (h : ∀ v' w', w'.ownsRow 0 te size v' (n + m) (xs ++ news) → w.grownBy w' v.ownBlock → (v'.ownBlock = v.ownBlock ∨ v'.ownBlock = some w.heap.size) → K (a.put o.dst v') w') :
    if Region.wanted o (yielded ops a.tmps) = true then Oper.wp Tryz.prog o a w K Q else E := by
  have hw : Region.wanted o (yielded ops a.tmps) = true := by simp [Region.wanted, hgd]
  rw [if_pos hw]
  obtain ⟨i0, hi, hz0, hz1, hz2⟩ := info_parts hinfo
  obtain ⟨v', w', hr, h2, h3, h4⟩ := run_app (P := Tryz.prog) w 0 t o.type te i0 _ size bytes ht hi hz0 hz1 hz2 hzs hsz v n xs hown ⟨g, 0, none⟩ m m news hm (fun j u hj => by
    have e : (⟨g, 0, none⟩ : Addr).add j = ⟨g, j, none⟩ := by unfold Addr.add; split <;> simp_all
    rw [e, cell_of_row w g j _ te (0, 0) hg, ← hj]
    simp) hone (by unfold maxLen; omega) (by
      have h1 : (n + m) * bytes ≤ 1073741824 * 100 := Nat.mul_le_mul hn hby
      omega) (Nat.zero_le _) hm0
  unfold Oper.wp execOp
  simp only [ho, resolve, invoke, builtin, Sem.run_bind, Sem.run_pure, Result.andThen_ok, List.map_toArray, List.map_cons, List.map_nil, hs, hx, hr]
  exact h v' w' h2 h3 h4
theorem wpList_vals (w : World) {ops : Array Oper} {rest : List Oper} {o : Oper} {a : Act} {Q : Exit → Act → World → Prop} (hgd : o.guard = none) (s x : Operand) (t te : TypeId)
    (ho : o.op = .call { callee := .builtin .append, args := #[s, x], argTypes := #[t, t] }) (ht : Tryz.prog.underlying t = some (.slice te)) (z : Value) (size bytes : Nat)
    (hinfo : (Tryz.prog.info? te).map (fun i => (i.zero, i.size, i.bytes)) = some (some z, size, bytes)) (hzs : z.cells.size = size) (hsz : 0 < size) (hby : bytes ≤ 100)
    (v : Value) (n : Nat) (xs : List Value) (hs : a.eval s = v) (hown : w.ownsRow 0 te size v n xs) (g : Nat) (news : List Value) (m : Nat) (hx : a.eval x = .slice (some ⟨g, 0, none⟩) m m) (hm : news.length = m * size) (hm0 : 0 < m) (hg : w.heap[g]? = some (.cells news.toArray te (0, 0))) (hone : ∀ u ∈ news, u.oneCell' = true) (hn : n + m ≤ 1073741824)
    (h : ∀ v' w', w'.ownsRow 0 te size v' (n + m) (xs ++ news) → w.grownBy w' v.ownBlock → (v'.ownBlock = v.ownBlock ∨ v'.ownBlock = some w.heap.size) → wpList Tryz.prog ops Q rest (a.put o.dst v') w') : wpList Tryz.prog ops Q (o :: rest) a w := by
  obtain ⟨i0, hi, hz0, hz1, hz2⟩ := info_parts hinfo
  refine wpList_app w hgd s x t ho 0 te i0 _ size bytes ht hi hz0 hz1 hz2 hzs hsz v n xs hs hown ⟨g, 0, none⟩ m m news hx hm ?_ hone (by unfold maxLen; omega) ?_ (Nat.zero_le _) hm0 h
  · intro j u hj
    have e : (⟨g, 0, none⟩ : Addr).add j = ⟨g, j, none⟩ := by unfold Addr.add; split <;> simp_all
    rw [e, cell_of_row w g j _ te (0, 0) hg, ← hj]
    simp
  · have h1 : (n + m) * bytes ≤ 1073741824 * 100 := Nat.mul_le_mul hn hby
    omega
end Go.Proofs.YtbdobaapadlcjaaGreatDoor
