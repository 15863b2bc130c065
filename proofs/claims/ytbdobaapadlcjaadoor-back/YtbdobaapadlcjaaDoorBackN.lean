/-
  A REQUEST THAT COMES IN AS DATA: its cells.
-/
import Derived.Test.YtbdobaapadlcjaaDoorBackG
import Derived.Test.YtbdobaapadlcjaaDoorBackH
import Derived.ProofKit
import Derived.OpenShut
import Derived.SliceStrings
namespace Go.Proofs.YtbdobaapadlcjaaDoor.Keep
open Go.ChangeShapes Go.WideShapes Go.ChangeAt Go.RowKit
set_option linter.unusedVariables false

theorem cells5 : Tryd.prog.cellsOf 5 = 1 := by kernel_rfl
theorem cells3 : Tryd.prog.cellsOf 3 = 1 := by kernel_rfl
theorem cells9 : Tryd.prog.cellsOf 9 = 1 := by kernel_rfl
theorem cells28 : Tryd.prog.cellsOf 28 = 1 := by kernel_rfl
theorem cells37 : Tryd.prog.cellsOf 37 = 15 := by kernel_rfl
theorem array15 {α : Type} {cs : Array α} (h : cs.size = 15) : ∃ c0 c1 c2 c3 c4 c5 c6 c7 c8 c9 c10 c11 c12 c13 c14, cs = #[c0, c1, c2, c3, c4, c5, c6, c7, c8, c9, c10, c11, c12, c13, c14] := by
  obtain ⟨l⟩ := cs
  match l, h with
  | [c0, c1, c2, c3, c4, c5, c6, c7, c8, c9, c10, c11, c12, c13, c14], _ => exact ⟨c0, c1, c2, c3, c4, c5, c6, c7, c8, c9, c10, c11, c12, c13, c14, rfl⟩
theorem byte_of (z : Int) (h : 0 ≤ z ∧ z ≤ 255) : ∃ c : UInt8, z = (c.toNat : Int) := by
  refine ⟨UInt8.ofNat z.toNat, ?_⟩
  rw [UInt8.toNat_ofNat_of_lt' (by show _ < 256; omega)]
  omega
theorem strs_of {W : World} {a : Addr} {len : Nat} {ss : List ByteArray} (hl : len ≤ ss.length) (h : ∀ i, i < ss.length → W.cell? (a.add i) = some (.string (ss.getD i ByteArray.empty))) : Strs W (some a) (ss.take len) := by
  intro j hj
  have hj' : j < ss.length := by rw [List.length_take] at hj; omega
  have h0 := h 0 (by omega)
  have hs : a.spot = none := by
    have e : a.add 0 = a := by unfold Addr.add; rw [if_pos rfl]
    rw [e] at h0
    unfold World.cell? at h0
    split at h0
    · cases hsp : a.spot with
      | none => rfl
      | some x => simp [hsp] at h0
    · simp at h0
  obtain ⟨b, o, sp⟩ := a
  simp only at hs
  subst hs
  refine ⟨b, o, rfl, ?_⟩
  have h2 := h j hj'
  rw [addr_at] at h2
  rw [h2, List.getElem_take]
  simp [hj']

set_option maxRecDepth 100000 in
set_option maxHeartbeats 1000000 in
/-- A request that came in: its cells, and what they hold. -/
theorem open_rq {H : Type} {enc : TypeId × Value → H} {W : World} {base : Nat} {v : Value} {d : DataW H} {p : List MemPlace} (hv : Value.okWide Tryd.prog W .any base 37 v) (h : DataW.Trod enc Tryd.prog W 0 (fun _ => true) true 37 v d p) :
    ∃ (r : Wp.Rq) (xa : Option Addr) (xc : Nat) (bs : List ByteArray), v = .agg (cellsOf r (.slice xa bs.length xc)) ∧ Wf r ∧ Szs r ∧ bs.length ≤ maxLen ∧ (∀ s ∈ bs, s.size ≤ maxLen) ∧ Strs W xa bs := by
  obtain ⟨cs, rfl, hsz⟩ := okWide_struct Tryd.underlying37 hv
  rw [cells37] at hsz
  obtain ⟨c0, c1, c2, c3, c4, c5, c6, c7, c8, c9, c10, c11, c12, c13, c14, rfl⟩ := array15 hsz
  obtain ⟨fuel, hf⟩ := h
  obtain ⟨xs, n, _, _, _, hlen, hfd⟩ := DataW.trod_struct Tryd.underlying37 hf
  have hlen' : xs.length = 15 := hlen
  have h0 : DataW.trod enc Tryd.prog W 0 (fun _ => true) true n 5 [c0] = some (xs[0]'(by omega)) := by
    have := hfd 0 _ rfl
    rw [List.getElem?_eq_getElem (by omega)] at this
    rw [← this]
    show _ = DataW.trod enc Tryd.prog W 0 (fun _ => true) true n 5 (List.take (Tryd.prog.cellsOf 5) (List.drop 0 [c0, c1, c2, c3, c4, c5, c6, c7, c8, c9, c10, c11, c12, c13, c14]))
    rw [cells5]
    rfl
  have h1 : DataW.trod enc Tryd.prog W 0 (fun _ => true) true n 5 [c1] = some (xs[1]'(by omega)) := by
    have := hfd 1 _ rfl
    rw [List.getElem?_eq_getElem (by omega)] at this
    rw [← this]
    show _ = DataW.trod enc Tryd.prog W 0 (fun _ => true) true n 5 (List.take (Tryd.prog.cellsOf 5) (List.drop 1 [c0, c1, c2, c3, c4, c5, c6, c7, c8, c9, c10, c11, c12, c13, c14]))
    rw [cells5]
    rfl
  have h2 : DataW.trod enc Tryd.prog W 0 (fun _ => true) true n 5 [c2] = some (xs[2]'(by omega)) := by
    have := hfd 2 _ rfl
    rw [List.getElem?_eq_getElem (by omega)] at this
    rw [← this]
    show _ = DataW.trod enc Tryd.prog W 0 (fun _ => true) true n 5 (List.take (Tryd.prog.cellsOf 5) (List.drop 2 [c0, c1, c2, c3, c4, c5, c6, c7, c8, c9, c10, c11, c12, c13, c14]))
    rw [cells5]
    rfl
  have h3 : DataW.trod enc Tryd.prog W 0 (fun _ => true) true n 3 [c3] = some (xs[3]'(by omega)) := by
    have := hfd 3 _ rfl
    rw [List.getElem?_eq_getElem (by omega)] at this
    rw [← this]
    show _ = DataW.trod enc Tryd.prog W 0 (fun _ => true) true n 3 (List.take (Tryd.prog.cellsOf 3) (List.drop 3 [c0, c1, c2, c3, c4, c5, c6, c7, c8, c9, c10, c11, c12, c13, c14]))
    rw [cells3]
    rfl
  have h4 : DataW.trod enc Tryd.prog W 0 (fun _ => true) true n 3 [c4] = some (xs[4]'(by omega)) := by
    have := hfd 4 _ rfl
    rw [List.getElem?_eq_getElem (by omega)] at this
    rw [← this]
    show _ = DataW.trod enc Tryd.prog W 0 (fun _ => true) true n 3 (List.take (Tryd.prog.cellsOf 3) (List.drop 4 [c0, c1, c2, c3, c4, c5, c6, c7, c8, c9, c10, c11, c12, c13, c14]))
    rw [cells3]
    rfl
  have h5 : DataW.trod enc Tryd.prog W 0 (fun _ => true) true n 3 [c5] = some (xs[5]'(by omega)) := by
    have := hfd 5 _ rfl
    rw [List.getElem?_eq_getElem (by omega)] at this
    rw [← this]
    show _ = DataW.trod enc Tryd.prog W 0 (fun _ => true) true n 3 (List.take (Tryd.prog.cellsOf 3) (List.drop 5 [c0, c1, c2, c3, c4, c5, c6, c7, c8, c9, c10, c11, c12, c13, c14]))
    rw [cells3]
    rfl
  have h6 : DataW.trod enc Tryd.prog W 0 (fun _ => true) true n 3 [c6] = some (xs[6]'(by omega)) := by
    have := hfd 6 _ rfl
    rw [List.getElem?_eq_getElem (by omega)] at this
    rw [← this]
    show _ = DataW.trod enc Tryd.prog W 0 (fun _ => true) true n 3 (List.take (Tryd.prog.cellsOf 3) (List.drop 6 [c0, c1, c2, c3, c4, c5, c6, c7, c8, c9, c10, c11, c12, c13, c14]))
    rw [cells3]
    rfl
  have h7 : DataW.trod enc Tryd.prog W 0 (fun _ => true) true n 3 [c7] = some (xs[7]'(by omega)) := by
    have := hfd 7 _ rfl
    rw [List.getElem?_eq_getElem (by omega)] at this
    rw [← this]
    show _ = DataW.trod enc Tryd.prog W 0 (fun _ => true) true n 3 (List.take (Tryd.prog.cellsOf 3) (List.drop 7 [c0, c1, c2, c3, c4, c5, c6, c7, c8, c9, c10, c11, c12, c13, c14]))
    rw [cells3]
    rfl
  have h8 : DataW.trod enc Tryd.prog W 0 (fun _ => true) true n 3 [c8] = some (xs[8]'(by omega)) := by
    have := hfd 8 _ rfl
    rw [List.getElem?_eq_getElem (by omega)] at this
    rw [← this]
    show _ = DataW.trod enc Tryd.prog W 0 (fun _ => true) true n 3 (List.take (Tryd.prog.cellsOf 3) (List.drop 8 [c0, c1, c2, c3, c4, c5, c6, c7, c8, c9, c10, c11, c12, c13, c14]))
    rw [cells3]
    rfl
  have h9 : DataW.trod enc Tryd.prog W 0 (fun _ => true) true n 9 [c9] = some (xs[9]'(by omega)) := by
    have := hfd 9 _ rfl
    rw [List.getElem?_eq_getElem (by omega)] at this
    rw [← this]
    show _ = DataW.trod enc Tryd.prog W 0 (fun _ => true) true n 9 (List.take (Tryd.prog.cellsOf 9) (List.drop 9 [c0, c1, c2, c3, c4, c5, c6, c7, c8, c9, c10, c11, c12, c13, c14]))
    rw [cells9]
    rfl
  have h10 : DataW.trod enc Tryd.prog W 0 (fun _ => true) true n 9 [c10] = some (xs[10]'(by omega)) := by
    have := hfd 10 _ rfl
    rw [List.getElem?_eq_getElem (by omega)] at this
    rw [← this]
    show _ = DataW.trod enc Tryd.prog W 0 (fun _ => true) true n 9 (List.take (Tryd.prog.cellsOf 9) (List.drop 10 [c0, c1, c2, c3, c4, c5, c6, c7, c8, c9, c10, c11, c12, c13, c14]))
    rw [cells9]
    rfl
  have h11 : DataW.trod enc Tryd.prog W 0 (fun _ => true) true n 9 [c11] = some (xs[11]'(by omega)) := by
    have := hfd 11 _ rfl
    rw [List.getElem?_eq_getElem (by omega)] at this
    rw [← this]
    show _ = DataW.trod enc Tryd.prog W 0 (fun _ => true) true n 9 (List.take (Tryd.prog.cellsOf 9) (List.drop 11 [c0, c1, c2, c3, c4, c5, c6, c7, c8, c9, c10, c11, c12, c13, c14]))
    rw [cells9]
    rfl
  have h12 : DataW.trod enc Tryd.prog W 0 (fun _ => true) true n 9 [c12] = some (xs[12]'(by omega)) := by
    have := hfd 12 _ rfl
    rw [List.getElem?_eq_getElem (by omega)] at this
    rw [← this]
    show _ = DataW.trod enc Tryd.prog W 0 (fun _ => true) true n 9 (List.take (Tryd.prog.cellsOf 9) (List.drop 12 [c0, c1, c2, c3, c4, c5, c6, c7, c8, c9, c10, c11, c12, c13, c14]))
    rw [cells9]
    rfl
  have h13 : DataW.trod enc Tryd.prog W 0 (fun _ => true) true n 9 [c13] = some (xs[13]'(by omega)) := by
    have := hfd 13 _ rfl
    rw [List.getElem?_eq_getElem (by omega)] at this
    rw [← this]
    show _ = DataW.trod enc Tryd.prog W 0 (fun _ => true) true n 9 (List.take (Tryd.prog.cellsOf 9) (List.drop 13 [c0, c1, c2, c3, c4, c5, c6, c7, c8, c9, c10, c11, c12, c13, c14]))
    rw [cells9]
    rfl
  have h14 : DataW.trod enc Tryd.prog W 0 (fun _ => true) true n 28 [c14] = some (xs[14]'(by omega)) := by
    have := hfd 14 _ rfl
    rw [List.getElem?_eq_getElem (by omega)] at this
    rw [← this]
    show _ = DataW.trod enc Tryd.prog W 0 (fun _ => true) true n 28 (List.take (Tryd.prog.cellsOf 28) (List.drop 14 [c0, c1, c2, c3, c4, c5, c6, c7, c8, c9, c10, c11, c12, c13, c14]))
    rw [cells28]
    rfl
  obtain ⟨z0, e0, _, w0⟩ := DataW.trod_int Tryd.underlying5 h0
  obtain ⟨b0, q0⟩ := byte_of z0 (bounds_u8 w0)
  obtain ⟨z1, e1, _, w1⟩ := DataW.trod_int Tryd.underlying5 h1
  obtain ⟨b1, q1⟩ := byte_of z1 (bounds_u8 w1)
  obtain ⟨z2, e2, _, w2⟩ := DataW.trod_int Tryd.underlying5 h2
  obtain ⟨b2, q2⟩ := byte_of z2 (bounds_u8 w2)
  obtain ⟨z3, e3, _, w3⟩ := DataW.trod_int Tryd.underlying3 h3
  obtain ⟨z4, e4, _, w4⟩ := DataW.trod_int Tryd.underlying3 h4
  obtain ⟨z5, e5, _, w5⟩ := DataW.trod_int Tryd.underlying3 h5
  obtain ⟨z6, e6, _, w6⟩ := DataW.trod_int Tryd.underlying3 h6
  obtain ⟨z7, e7, _, w7⟩ := DataW.trod_int Tryd.underlying3 h7
  obtain ⟨z8, e8, _, w8⟩ := DataW.trod_int Tryd.underlying3 h8
  obtain ⟨s9, e9, _, w9⟩ := DataW.trod_string Tryd.underlying9 h9
  obtain ⟨s10, e10, _, w10⟩ := DataW.trod_string Tryd.underlying9 h10
  obtain ⟨s11, e11, _, w11⟩ := DataW.trod_string Tryd.underlying9 h11
  obtain ⟨s12, e12, _, w12⟩ := DataW.trod_string Tryd.underlying9 h12
  obtain ⟨s13, e13, _, w13⟩ := DataW.trod_string Tryd.underlying9 h13
  have f0 := List.singleton_inj.1 e0
  have f1 := List.singleton_inj.1 e1
  have f2 := List.singleton_inj.1 e2
  have f3 := List.singleton_inj.1 e3
  have f4 := List.singleton_inj.1 e4
  have f5 := List.singleton_inj.1 e5
  have f6 := List.singleton_inj.1 e6
  have f7 := List.singleton_inj.1 e7
  have f8 := List.singleton_inj.1 e8
  have f9 := List.singleton_inj.1 e9
  have f10 := List.singleton_inj.1 e10
  have f11 := List.singleton_inj.1 e11
  have f12 := List.singleton_inj.1 e12
  have f13 := List.singleton_inj.1 e13
  subst f0 f1 f2 f3 f4 f5 f6 f7 f8 f9 f10 f11 f12 f13 q0 q1 q2
  have hwf : Wf (⟨b0, b1, b2, z3, z4, z5, z6, z7, z8, s9, s10, s11, s12, s13⟩ : Wp.Rq) := ⟨bounds_i64 w3, bounds_i64 w4, bounds_i64 w5, bounds_i64 w6, bounds_i64 w7, bounds_i64 w8⟩
  have hszs : Szs (⟨b0, b1, b2, z3, z4, z5, z6, z7, z8, s9, s10, s11, s12, s13⟩ : Wp.Rq) := ⟨w9, w10, w11, w12, w13⟩
  rcases open_strings Tryd.underlying28 Tryd.underlying9 cells9 h14 with ⟨hcs, _⟩ | ⟨a, len, cap, ss, hcs, _, hl, hm, hz, _, hcell, hws⟩
  · have f14 := List.singleton_inj.1 hcs
    subst f14
    exact ⟨⟨b0, b1, b2, z3, z4, z5, z6, z7, z8, s9, s10, s11, s12, s13⟩, none, 0, [], rfl, hwf, hszs, by decide, fun s hs => by simp at hs, fun j hj => absurd hj (by simp)⟩
  · have f14 := List.singleton_inj.1 hcs
    subst f14
    have hss : ss.length = cap := hz
    have hlt : (ss.take len).length = len := by rw [List.length_take]; omega
    refine ⟨⟨b0, b1, b2, z3, z4, z5, z6, z7, z8, s9, s10, s11, s12, s13⟩, some a, cap, ss.take len, ?_, hwf, hszs, by omega, fun s hs => hws s (List.mem_of_mem_take hs), strs_of (by omega) hcell⟩
    rw [hlt]
    rfl
end Go.Proofs.YtbdobaapadlcjaaDoor.Keep
