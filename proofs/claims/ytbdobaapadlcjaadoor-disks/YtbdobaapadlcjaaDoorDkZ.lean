/-
  A SCRIPT OF ACTS THAT COMES IN AS DATA: its cells, and how great it is.
-/
import Derived.Test.YtbdobaapadlcjaaDoorRows
import Derived.Test.YtbdobaapadlcjaaDoorDkY
import Derived.ProofKit
import Derived.OpenShut
import Derived.Deep.Slices
namespace Go.Proofs.YtbdobaapadlcjaaDoor.Dk
open Go.ChangeShapes Go.WideShapes Go.ChangeAt Go.RowKit Go.Deep
set_option linter.unusedVariables false

theorem cells33 : Tryd.prog.cellsOf 33 = 5 := by kernel_rfl
theorem cells3 : Tryd.prog.cellsOf 3 = 1 := by kernel_rfl
theorem cells9 : Tryd.prog.cellsOf 9 = 1 := by kernel_rfl
theorem at_none {W : World} {a : Addr} {v : Value} (h : W.cell? a = some v) : a.spot = none := by
  unfold World.cell? at h
  split at h
  · cases hsp : a.spot with
    | none => rfl
    | some x => simp [hsp] at h
  · simp at h
theorem at_add (b o j : Nat) : (⟨b, o, none⟩ : Addr).add j = ⟨b, o + j, none⟩ := by
  unfold Addr.add
  split
  · next h => rw [h, Nat.add_zero]
  · rfl
instance : Inhabited ActD := ⟨⟨0, 0, 0, ⟨#[]⟩, ⟨#[]⟩⟩⟩
theorem bulk_acts {H : Type} (l : List Nat) (D : Nat → DataW H) (f : Nat → ActD) (h : ∀ i ∈ l, 1 + (f i).S.size ≤ Rows.uptoBulk (D i)) : l.length + tot (l.map f) ≤ Rows.uptoBulkAll (l.map D) := by
  induction l with
  | nil => simp [tot, Rows.uptoBulkAll]
  | cons i l ih =>
    have h1 := ih (fun j hj => h j (by simp [hj]))
    have h2 := h i (by simp)
    simp only [List.map_cons, Rows.uptoBulkAll, List.length_cons, tot, List.sum_cons] at h1 ⊢
    omega

set_option maxRecDepth 100000 in
theorem open_acts {H : Type} {enc : TypeId × Value → H} {W : World} {fuel : Nat} {v : Value} {x : DataW H × List MemPlace} (h : DataW.trod enc Tryd.prog W 0 (fun _ => true) true fuel 22 [v] = some x) :
    ∃ (a : Option Addr) (cap : Nat) (os : List ActD), v = .slice a os.length cap ∧ Acts W a os ∧ (∀ o ∈ os, (-9223372036854775808 ≤ o.On ∧ o.On ≤ 9223372036854775807) ∧ (-9223372036854775808 ≤ o.A ∧ o.A ≤ 9223372036854775807)) ∧ os.length + tot os ≤ Rows.uptoBulk x.1 := by
  rcases open_slice Tryd.underlying22 h with ⟨hcs, hx⟩ | ⟨a, len, cap, m, n, D, Pl, hcs, hb, hl, hm, hmm, hx, hel⟩
  · have e := List.singleton_inj.1 hcs
    subst e
    exact ⟨none, 0, [], rfl, fun j hj => (by cases hj), fun o ho => (by cases ho), by simp [tot]⟩
  · have e := List.singleton_inj.1 hcs
    subst e
    have hlm : len ≤ m := by rw [hmm]; split <;> omega
    have each : ∀ i, i < len → ∃ o : ActD, (W.cell? (a.add (i * 5)) = some (.int .i64 o.K) ∧ W.cell? (a.add (i * 5 + 1)) = some (.int .i64 o.On) ∧ W.cell? (a.add (i * 5 + 2)) = some (.int .i64 o.A) ∧ W.cell? (a.add (i * 5 + 3)) = some (.string o.N) ∧ W.cell? (a.add (i * 5 + 4)) = some (.string o.S)) ∧
        ((-9223372036854775808 ≤ o.On ∧ o.On ≤ 9223372036854775807) ∧ (-9223372036854775808 ≤ o.A ∧ o.A ≤ 9223372036854775807)) ∧ 1 + o.S.size ≤ Rows.uptoBulk (D i) := by
      intro i hi
      obtain ⟨cs', h1, h2⟩ := hel i (by omega)
      rw [cells33] at h1
      obtain ⟨_, hlen, hcell⟩ := World.cells?_some h1
      obtain ⟨xs, k, hk, hxy, _, hxl, hf⟩ := DataW.trod_struct Tryd.underlying33 h2
      have hxl' : xs.length = 5 := hxl
      match xs, hxl', cs', hlen with
      | [y0, y1, y2, y3, y4], _, [v0, v1, v2, v3, v4], _ =>
        have g0 : DataW.trod enc Tryd.prog W 0 (fun _ => true) true k 3 (List.take (Tryd.prog.cellsOf 3) (List.drop 0 [v0, v1, v2, v3, v4])) = some y0 := hf 0 _ rfl
        have g1 : DataW.trod enc Tryd.prog W 0 (fun _ => true) true k 3 (List.take (Tryd.prog.cellsOf 3) (List.drop 1 [v0, v1, v2, v3, v4])) = some y1 := hf 1 _ rfl
        have g2 : DataW.trod enc Tryd.prog W 0 (fun _ => true) true k 3 (List.take (Tryd.prog.cellsOf 3) (List.drop 2 [v0, v1, v2, v3, v4])) = some y2 := hf 2 _ rfl
        have g3 : DataW.trod enc Tryd.prog W 0 (fun _ => true) true k 9 (List.take (Tryd.prog.cellsOf 9) (List.drop 3 [v0, v1, v2, v3, v4])) = some y3 := hf 3 _ rfl
        have g4 : DataW.trod enc Tryd.prog W 0 (fun _ => true) true k 9 (List.take (Tryd.prog.cellsOf 9) (List.drop 4 [v0, v1, v2, v3, v4])) = some y4 := hf 4 _ rfl
        rw [cells3] at g0 g1 g2
        rw [cells9] at g3 g4
        obtain ⟨z0, e0, q0, w0⟩ := DataW.trod_int Tryd.underlying3 g0
        obtain ⟨z1, e1, q1, w1⟩ := DataW.trod_int Tryd.underlying3 g1
        obtain ⟨z2, e2, q2, w2⟩ := DataW.trod_int Tryd.underlying3 g2
        obtain ⟨s3, e3, q3, w3⟩ := DataW.trod_string Tryd.underlying9 g3
        obtain ⟨s4, e4, q4, w4⟩ := DataW.trod_string Tryd.underlying9 g4
        have f0 : v0 = .int .i64 z0 := List.singleton_inj.1 e0
        have f1 : v1 = .int .i64 z1 := List.singleton_inj.1 e1
        have f2 : v2 = .int .i64 z2 := List.singleton_inj.1 e2
        have f3 : v3 = .string s3 := List.singleton_inj.1 e3
        have f4 : v4 = .string s4 := List.singleton_inj.1 e4
        subst f0 f1 f2 f3 f4
        have t0 := hcell 0 (by omega)
        have t1 := hcell 1 (by omega)
        have t2 := hcell 2 (by omega)
        have t3 := hcell 3 (by omega)
        have t4 := hcell 4 (by omega)
        rw [Deep.add_add] at t0 t1 t2 t3 t4
        refine ⟨⟨z0, z1, z2, s3, s4⟩, ⟨by simpa using t0, by simpa using t1, by simpa using t2, by simpa using t3, by simpa using t4⟩, ⟨bounds_i64 w1, bounds_i64 w2⟩, ?_⟩
        have hD : D i = .agg [y0.1, y1.1, y2.1, y3.1, y4.1] := congrArg Prod.fst hxy
        have hS : y4.1 = .lit (.string s4.data.toList) := congrArg Prod.fst q4
        rw [hD]
        simp only [Rows.uptoBulk, Rows.uptoBulkAll, hS]
        have : s4.data.toList.length = s4.size := by rw [Array.length_toList]; rfl
        show 1 + s4.size ≤ _
        omega
    obtain ⟨f, hf⟩ := choose_lt each
    have hlo : ((List.range len).map f).length = len := by simp
    refine ⟨some a, cap, (List.range len).map f, by rw [hlo], ?_, ?_, ?_⟩
    · intro j hj
      have hj' : j < len := by omega
      obtain ⟨⟨c0, c1, c2, c3, c4⟩, _⟩ := hf j hj'
      have e0 : ((List.range len).map f)[j] = f j := by simp
      have hsp : a.spot = none := by
        have h0 := (hf 0 (by omega)).1.1
        rw [show a.add (0 * 5) = a by unfold Addr.add; rw [if_pos (by omega)]] at h0
        exact at_none h0
      obtain ⟨b, o, sp⟩ := a
      simp only at hsp
      subst hsp
      rw [at_add] at c0 c1 c2 c3 c4
      refine ⟨b, o, rfl, ?_⟩
      rw [e0]
      exact ⟨c0, by rw [Nat.add_assoc]; exact c1, by rw [Nat.add_assoc]; exact c2, by rw [Nat.add_assoc]; exact c3, by rw [Nat.add_assoc]; exact c4⟩
    · intro o ho
      obtain ⟨j, hj, rfl⟩ := List.mem_map.1 ho
      exact (hf j (List.mem_range.1 hj)).2.1
    · have hbk := bulk_acts (List.range len) D f (fun i hi => (hf i (List.mem_range.1 hi)).2.2)
      have hx1 : x.1 = .slice ((List.range len).map D) ((List.range (m - len)).map fun j => D (len + j)) := congrArg Prod.fst hx
      rw [hx1, hlo]
      simp only [Rows.uptoBulk]
      rw [List.length_range] at hbk
      omega
end Go.Proofs.YtbdobaapadlcjaaDoor.Dk
