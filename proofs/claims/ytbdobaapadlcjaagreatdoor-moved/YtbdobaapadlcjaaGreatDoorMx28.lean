/-
  A STATE WITH WHATEVER QUEUES: at (200), Dead (261), deadOf (204), there (93). A STATE WITH WHATEVER QUEUES: Dead (261), deadOf (204), there (93).
-/
import Derived.Test.YtbdobaapadlcjaaGreatDoorMx13
import Derived.Test.YtbdobaapadlcjaaGreatDoorMx09
import Derived.Test.YtbdobaapadlcjaaGreatDoorMx17
namespace Go.Proofs.YtbdobaapadlcjaaGreatDoor
open Go.RowKit
set_option linter.unusedVariables false
set_option linter.unusedSimpArgs false

theorem set_head {α : Type} (A D : Array α) (j : Nat) (v : α) (hj : j < A.size) : (A ++ D).setIfInBounds j v = A.setIfInBounds j v ++ D := by
  apply Array.toList_inj.1
  rw [Array.toList_setIfInBounds, Array.toList_append, Array.toList_append, Array.toList_setIfInBounds, List.set_append_left _ _ (by simpa using hj)]
theorem get_head {α : Type} (A D : Array α) (j : Nat) (hj : j < A.size) : (A ++ D)[j]? = A[j]? := Array.getElem?_append_left hj
/-- A state's cells: the time, eight pointers, the table of deeds. -/
def stH (now : Int) (P : Nat → Value) : Array Value := #[.int .i64 now, P 0, P 1, P 2, P 3, P 4, P 5, P 6, P 7]
def stG (now : Int) (P : Nat → Value) (b : Nat) : Array Value := stH now P ++ deedsC b
def Stb (w : World) (st b : Nat) (now : Int) (P : Nat → Value) : Prop := w.heap[st]? = some (.cells (stG now P b) 156 (0, 0))
theorem lt8 {i : Nat} (h : i < 8) : i = 0 ∨ i = 1 ∨ i = 2 ∨ i = 3 ∨ i = 4 ∨ i = 5 ∨ i = 6 ∨ i = 7 := by omega
theorem stH_size (now : Int) (P : Nat → Value) : (stH now P).size = 9 := rfl
theorem Stb.get {w : World} {st b : Nat} {now : Int} {P : Nat → Value} (h : Stb w st b now P) (j : Nat) (hj : j < 9) : w.cell? ⟨st, j, none⟩ = (stH now P)[j]? :=
  (cell_of_row w st j _ 156 (0, 0) h).trans (get_head _ _ _ (by rw [stH_size]; exact hj))
theorem Stb.cell {w : World} {st b : Nat} {now : Int} {P : Nat → Value} (h : Stb w st b now P) (i : Nat) (hi : i < 8) : w.cell? ⟨st, 1 + i, none⟩ = some (P i) := by
  rw [h.get (1 + i) (by omega)]
  rcases lt8 hi with rfl | rfl | rfl | rfl | rfl | rfl | rfl | rfl <;> rfl
theorem Stb.now {w : World} {st b : Nat} {now : Int} {P : Nat → Value} (h : Stb w st b now P) : w.cell? ⟨st, 0, none⟩ = some (.int .i64 now) := by
  rw [h.get 0 (by decide)]
  rfl
theorem Stb.lt {w : World} {st b : Nat} {now : Int} {P : Nat → Value} (h : Stb w st b now P) : st < w.heap.size := lt_of_block h
theorem Stb.tch {w w' : World} {st b : Nat} {now : Int} {P : Nat → Value} (h : Stb w st b now P) {S : List Nat} (ht : Tch S w w') (hS : st ∉ S) : Stb w' st b now P := (ht.block _ h.lt hS).trans h
theorem Stb.fr {B : Nat} {T : List TypeId} {w w' : World} {st b : Nat} {now : Int} {P : Nat → Value} (h : Stb w st b now P) (hf : Fr B T w w') (hT : 156 ∉ T) : Stb w' st b now P := hf.keep _ _ _ h hT
theorem Stb.fz {w : World} {st b : Nat} {now : Int} {P : Nat → Value} (h : Stb w st b now P) (j : Nat) : w.frozen? ⟨st, j, none⟩ = false := frozen_of_row w st j _ 156 h
/-- A queue is set. -/
def updP (P : Nat → Value) (i : Nat) (v : Value) : Nat → Value := fun j => if j = i then v else P j
theorem stH_set (now : Int) (P : Nat → Value) (i : Nat) (hi : i < 8) (v : Value) : (stH now P).setIfInBounds (1 + i) v = stH now (updP P i v) := by
  rcases lt8 hi with rfl | rfl | rfl | rfl | rfl | rfl | rfl | rfl <;> rfl
theorem Stb.set {w : World} {st b : Nat} {now : Int} {P : Nat → Value} (h : Stb w st b now P) (i : Nat) (hi : i < 8) (v : Value) : Stb (w.setCell ⟨st, 1 + i, none⟩ v) st b now (updP P i v) := by
  have h1 := heap_setCell_same w st (1 + i) _ 156 v h
  unfold stG at h1
  rw [set_head _ _ _ _ (by rw [stH_size]; omega), stH_set now P i hi v] at h1
  exact h1
theorem Stb.set0 {w : World} {st b : Nat} {now : Int} {P : Nat → Value} (h : Stb w st b now P) (n : Int) : Stb (w.setCell ⟨st, 0, none⟩ (.int .i64 n)) st b n P := by
  have h1 := heap_setCell_same w st 0 _ 156 (.int .i64 n) h
  unfold stG at h1
  rw [set_head _ _ _ _ (by rw [stH_size]; omega)] at h1
  exact h1

set_option maxHeartbeats 1000000 in
theorem at_g (st b i : Nat) (now : Int) (P : Nat → Value) (w : World) (h : Stb w st b now P) (hi : i < 8) : Calls Tryz.prog 200 #[.pointer (some ⟨st, 0, none⟩), .int .u8 (97 + (i : Int))] w fun e w' => e = .returned (P i) ∧ w' = w := by
  have hc := h.cell i hi
  have hl := h.lt
  have hw0 : IntKind.u8.wrap (97 + (i : Int) - 97) = (i : Int) := by
    have e : (97 + (i : Int) - 97) = (i : Int) := by omega
    rw [e, IntKind.wrap_u8]
    omega
  clear h
  generalize P i = v at *
  go_enter Tryz.func200, Tryz.ntmps200
  go_wp2
  go_ret
  exact ⟨rfl, rfl⟩
end Go.Proofs.YtbdobaapadlcjaaGreatDoor

namespace Go.Proofs.YtbdobaapadlcjaaGreatDoor
open Go.RowKit
set_option linter.unusedVariables false
set_option linter.unusedSimpArgs false

/-- A pointer to a queue, or none. -/
def ptrV : Option Nat → Value
  | some q => .pointer (some ⟨q, 0, none⟩)
  | none => .pointer none
theorem own_ge' {w : World} {base t size n : Nat} {v : Value} {xs : List Value} (h : w.ownsRow base t size v n xs) : ∀ k, v.ownBlock = some k → base ≤ k := fun k hk => by
  rcases h.2 with ⟨rfl, _⟩ | ⟨g, cap, cur, rfl, hb, hg, rest⟩
  · simp [Value.ownBlock] at hk
  · simp only [Value.ownBlock, Option.some.injEq] at hk
    omega
theorem own_shape' {w : World} {base e size n : Nat} {v : Value} {xs : List Value} (h : w.ownsRow base e size v n xs) : ∃ a c, v = .slice a n c := by
  rcases h.2 with ⟨h0, h1⟩ | ⟨g, cap, cur, h0, _⟩
  · exact ⟨none, 0, by rw [h0, h1]⟩
  · exact ⟨_, _, h0⟩
theorem info152 : (Tryz.prog.info? 152).map (fun i => (i.zero, i.size, i.bytes)) = some (some (.pointer none), 1, 8) := by kernel_rfl
theorem wpList_valsD (base : Nat) (w : World) {ops : Array Oper} {rest : List Oper} {o : Oper} {a : Act} {Q : Exit → Act → World → Prop} (hgd : o.guard = none) (s x : Operand) (t te : TypeId)
    (ho : o.op = .call { callee := .builtin .append, args := #[s, x], argTypes := #[t, t] }) (ht : Tryz.prog.underlying t = some (.slice te)) (z : Value) (size bytes : Nat)
    (hinfo : (Tryz.prog.info? te).map (fun i => (i.zero, i.size, i.bytes)) = some (some z, size, bytes)) (hzs : z.cells.size = size) (hsz : 0 < size) (hby : bytes ≤ 100)
    (v : Value) (n : Nat) (xs : List Value) (hs : a.eval s = v) (hown : w.ownsRow base te size v n xs) (hbase : base ≤ w.heap.size) (g : Nat) (news : List Value) (m : Nat) (hx : a.eval x = .slice (some ⟨g, 0, none⟩) m m) (hm : news.length = m * size) (hm0 : 0 < m) (hg : w.heap[g]? = some (.cells news.toArray te (0, 0))) (hone : ∀ u ∈ news, u.oneCell' = true) (hn : n + m ≤ 1073741824)
    (h : ∀ v' w', w'.ownsRow base te size v' (n + m) (xs ++ news) → w.grownBy w' v.ownBlock → (v'.ownBlock = v.ownBlock ∨ v'.ownBlock = some w.heap.size) → wpList Tryz.prog ops Q rest (a.put o.dst v') w') : wpList Tryz.prog ops Q (o :: rest) a w := by
  obtain ⟨i0, hi, hz0, hz1, hz2⟩ := info_parts hinfo
  refine wpList_app w hgd s x t ho base te i0 _ size bytes ht hi hz0 hz1 hz2 hzs hsz v n xs hs hown ⟨g, 0, none⟩ m m news hx hm ?_ hone (by unfold maxLen; omega) ?_ hbase hm0 h
  · intro j u hj
    have e : (⟨g, 0, none⟩ : Addr).add j = ⟨g, j, none⟩ := by unfold Addr.add; split <;> simp_all
    rw [e, cell_of_row w g j _ te (0, 0) hg, ← hj]
    simp
  · have h1 : (n + m) * bytes ≤ 1073741824 * 100 := Nat.mul_le_mul hn hby
    omega

set_option maxHeartbeats 400000 in
theorem deadL_any (qb : Nat) (d : Int) (w : World) (c1 : w.cell? ⟨qb, 1, none⟩ = some (.int .u8 d)) : Calls Tryz.prog 261 #[.pointer (some ⟨qb, 0, none⟩)] w fun e w' => e = .returned (.int .u8 d) ∧ w' = w := by
  have hl := World.block_lt_of_cell? _ _ c1
  go_enter Tryz.func261, Tryz.ntmps261
  go_wp2
  go_ret
  exact ⟨rfl, rfl⟩
set_option maxHeartbeats 1000000 in
theorem deadOf_none (st qb : Nat) (w : World) (c1 : w.cell? ⟨qb, 1, none⟩ = some (.int .u8 45)) : Calls Tryz.prog 204 #[.pointer (some ⟨st, 0, none⟩), .pointer (some ⟨qb, 0, none⟩)] w fun e w' => e = .returned (.pointer none) ∧ w' = w := by
  have HD : Hid (∀ W, W = w → Calls Tryz.prog 261 #[.pointer (some ⟨qb, 0, none⟩)] W fun e w' => e = .returned (.int .u8 45) ∧ w' = W) := fun W h => by rw [h]; exact deadL_any qb 45 w c1
  go_enter Tryz.func204, Tryz.ntmps204
  go_wp2_with (go_at_call 261; refine (HD.out _ rfl).mono ?_; rintro e w' ⟨rfl, rfl⟩)
  go_ret
  exact ⟨rfl, rfl⟩
set_option maxHeartbeats 1000000 in
theorem deadOf_some (st b qb i : Nat) (now : Int) (P : Nat → Value) (w : World) (h : Stb w st b now P) (hi : i < 8) (c1 : w.cell? ⟨qb, 1, none⟩ = some (.int .u8 (97 + (i : Int)))) : Calls Tryz.prog 204 #[.pointer (some ⟨st, 0, none⟩), .pointer (some ⟨qb, 0, none⟩)] w fun e w' => e = .returned (P i) ∧ w' = w := by
  have HD : Hid (∀ W, W = w → Calls Tryz.prog 261 #[.pointer (some ⟨qb, 0, none⟩)] W fun e w' => e = .returned (.int .u8 (97 + (i : Int))) ∧ w' = W) := fun W h => by rw [h]; exact deadL_any qb _ w c1
  have HA : Hid (∀ W, W = w → Calls Tryz.prog 200 #[.pointer (some ⟨st, 0, none⟩), .int .u8 (97 + (i : Int))] W fun e w' => e = .returned (P i) ∧ w' = W) := fun W hW => by rw [hW]; exact at_g st b i now P w h hi
  have hne : ((97 + (i : Int)) == 45) = false := beq_eq_false_iff_ne.2 (by omega)
  generalize P i = v at *
  clear h
  go_enter Tryz.func204, Tryz.ntmps204
  go_wp2_with (first | (go_at_call 261; refine (HD.out _ rfl).mono ?_; rintro e w' ⟨rfl, rfl⟩) | (go_at_call 200; refine (HA.out _ rfl).mono ?_; rintro e w' ⟨rfl, rfl⟩))
  go_ret
  exact ⟨rfl, rfl⟩

/-- The queues that are there, of the first k letters. -/
def qsL (Pq : Nat → Option Nat) (k : Nat) : List Nat := (List.range k).filterMap Pq
theorem qsL_succ (Pq : Nat → Option Nat) (k : Nat) : qsL Pq (k + 1) = qsL Pq k ++ (Pq k).toList := by
  unfold qsL
  rw [List.range_succ, List.filterMap_append]
  cases h : Pq k <;> simp [h]
theorem qsL_len (Pq : Nat → Option Nat) (k : Nat) : (qsL Pq k).length ≤ k := by
  unfold qsL
  have := List.length_filterMap_le Pq (List.range k)
  simpa using this
theorem idx8_0 (p0 p1 p2 p3 p4 p5 p6 p7 : Value) (W : World) : (Instr.index 153 (.agg #[p0, p1, p2, p3, p4, p5, p6, p7]) (.int .i64 0)).run Tryz.prog W = .ok p0 W := by kernel_rfl
theorem idx8_1 (p0 p1 p2 p3 p4 p5 p6 p7 : Value) (W : World) : (Instr.index 153 (.agg #[p0, p1, p2, p3, p4, p5, p6, p7]) (.int .i64 1)).run Tryz.prog W = .ok p1 W := by kernel_rfl
theorem idx8_2 (p0 p1 p2 p3 p4 p5 p6 p7 : Value) (W : World) : (Instr.index 153 (.agg #[p0, p1, p2, p3, p4, p5, p6, p7]) (.int .i64 2)).run Tryz.prog W = .ok p2 W := by kernel_rfl
theorem idx8_3 (p0 p1 p2 p3 p4 p5 p6 p7 : Value) (W : World) : (Instr.index 153 (.agg #[p0, p1, p2, p3, p4, p5, p6, p7]) (.int .i64 3)).run Tryz.prog W = .ok p3 W := by kernel_rfl
theorem idx8_4 (p0 p1 p2 p3 p4 p5 p6 p7 : Value) (W : World) : (Instr.index 153 (.agg #[p0, p1, p2, p3, p4, p5, p6, p7]) (.int .i64 4)).run Tryz.prog W = .ok p4 W := by kernel_rfl
theorem idx8_5 (p0 p1 p2 p3 p4 p5 p6 p7 : Value) (W : World) : (Instr.index 153 (.agg #[p0, p1, p2, p3, p4, p5, p6, p7]) (.int .i64 5)).run Tryz.prog W = .ok p5 W := by kernel_rfl
theorem idx8_6 (p0 p1 p2 p3 p4 p5 p6 p7 : Value) (W : World) : (Instr.index 153 (.agg #[p0, p1, p2, p3, p4, p5, p6, p7]) (.int .i64 6)).run Tryz.prog W = .ok p6 W := by kernel_rfl
theorem idx8_7 (p0 p1 p2 p3 p4 p5 p6 p7 : Value) (W : World) : (Instr.index 153 (.agg #[p0, p1, p2, p3, p4, p5, p6, p7]) (.int .i64 7)).run Tryz.prog W = .ok p7 W := by kernel_rfl
theorem idx8 (P : Nat → Value) (k : Nat) (hk : k < 8) (W : World) : (Instr.index 153 (.agg #[P 0, P 1, P 2, P 3, P 4, P 5, P 6, P 7]) (.int .i64 (k : Int))).run Tryz.prog W = .ok (P k) W := by
  rcases lt8 hk with rfl | rfl | rfl | rfl | rfl | rfl | rfl | rfl
  · exact idx8_0 _ _ _ _ _ _ _ _ W
  · exact idx8_1 _ _ _ _ _ _ _ _ W
  · exact idx8_2 _ _ _ _ _ _ _ _ W
  · exact idx8_3 _ _ _ _ _ _ _ _ W
  · exact idx8_4 _ _ _ _ _ _ _ _ W
  · exact idx8_5 _ _ _ _ _ _ _ _ W
  · exact idx8_6 _ _ _ _ _ _ _ _ W
  · exact idx8_7 _ _ _ _ _ _ _ _ W

set_option maxRecDepth 8000 in
set_option maxHeartbeats 4000000 in
theorem there_g (st b : Nat) (now : Int) (Pq : Nat → Option Nat) (w : World) (h : Stb w st b now (fun i => ptrV (Pq i))) :
    Calls Tryz.prog 93 #[.pointer (some ⟨st, 0, none⟩)] w fun e w' => ∃ v, e = .returned v ∧ w'.ownsRow w.heap.size 152 1 v (qsL Pq 8).length ((qsL Pq 8).map fun q => .pointer (some ⟨q, 0, none⟩)) ∧ Tch [] w w' := by
  have HC := fun i hi => h.cell i hi
  have c1 : w.cell? ⟨st, 1, none⟩ = some (ptrV (Pq 0)) := HC 0 (by decide)
  have c2 : w.cell? ⟨st, 2, none⟩ = some (ptrV (Pq 1)) := HC 1 (by decide)
  have c3 : w.cell? ⟨st, 3, none⟩ = some (ptrV (Pq 2)) := HC 2 (by decide)
  have c4 : w.cell? ⟨st, 4, none⟩ = some (ptrV (Pq 3)) := HC 3 (by decide)
  have c5 : w.cell? ⟨st, 5, none⟩ = some (ptrV (Pq 4)) := HC 4 (by decide)
  have c6 : w.cell? ⟨st, 6, none⟩ = some (ptrV (Pq 5)) := HC 5 (by decide)
  have c7 : w.cell? ⟨st, 7, none⟩ = some (ptrV (Pq 6)) := HC 6 (by decide)
  have c8 : w.cell? ⟨st, 8, none⟩ = some (ptrV (Pq 7)) := HC 7 (by decide)
  have hl := h.lt
  have HIX : Hid (∀ k : Nat, k < 8 → ∀ W : World, (Instr.index 153 (.agg #[ptrV (Pq 0), ptrV (Pq 1), ptrV (Pq 2), ptrV (Pq 3), ptrV (Pq 4), ptrV (Pq 5), ptrV (Pq 6), ptrV (Pq 7)]) (.int .i64 (k : Int))).run Tryz.prog W = .ok (ptrV (Pq k)) W) := fun k hk W => idx8 (fun i => ptrV (Pq i)) k hk W
  clear h HC
  go_enter Tryz.func93, Tryz.ntmps93
  go_wp2_with fail
  go_loopw [3, 10] (fun ov kv wr => ∃ (k : Nat) (v : Value), k ≤ 8 ∧ ov = v ∧ kv = .int .i64 (k : Int) ∧ wr.ownsRow w.heap.size 152 1 v (qsL Pq k).length ((qsL Pq k).map fun q => .pointer (some ⟨q, 0, none⟩)) ∧ Tch [] w wr) (fun _ kv _ => 8 - (intOf kv).toNat)
  case atStart => exact ⟨0, _, by decide, rfl, rfl, World.ownsRow_nil _ _ _ _, Tch.refl _ _⟩
  case round =>
    obtain ⟨k, v, hk, rfl, rfl, ho, ht⟩ := hrel
    have HO : Hid (wr.ownsRow w.heap.size 152 1 u3 (qsL Pq k).length ((qsL Pq k).map fun q => .pointer (some ⟨q, 0, none⟩))) := ho
    have HT : Hid (Tch [] w wr) := ht
    have zr := ht.size
    have hln := qsL_len Pq k
    clear ho ht
    by_cases hlt : k < 8
    · have hix := HIX.out k hlt
      have HS : Hid (qsL Pq (k + 1) = qsL Pq k ++ (Pq k).toList) := qsL_succ Pq k
      cases hp : Pq k with
      | none =>
        have HR : Hid (qsL Pq (k + 1) = qsL Pq k) := by show _ = _; rw [HS.out, hp]; simp
        rw [hp] at hix
        have hix' : ∀ W : World, (Instr.index 153 (.agg #[ptrV (Pq 0), ptrV (Pq 1), ptrV (Pq 2), ptrV (Pq 3), ptrV (Pq 4), ptrV (Pq 5), ptrV (Pq 6), ptrV (Pq 7)]) (.int .i64 (k : Int))).run Tryz.prog W = .ok (.pointer none) W := hix
        clear hix hp HS
        go_wp2_with fail
        go_roundw
        case rel => exact ⟨k + 1, _, by omega, rfl, by go_num, by rw [HR.out]; exact HO.out, HT.out⟩
        case measure => simp [intOf]; omega
      | some q =>
        have HR : Hid (qsL Pq (k + 1) = qsL Pq k ++ [q]) := by show _ = _; rw [HS.out, hp]; rfl
        rw [hp] at hix
        have hix' : ∀ W : World, (Instr.index 153 (.agg #[ptrV (Pq 0), ptrV (Pq 1), ptrV (Pq 2), ptrV (Pq 3), ptrV (Pq 4), ptrV (Pq 5), ptrV (Pq 6), ptrV (Pq 7)]) (.int .i64 (k : Int))).run Tryz.prog W = .ok (.pointer (some ⟨q, 0, none⟩)) W := hix
        clear hix hp HS
        obtain ⟨oa, oc, hoe⟩ := own_shape' HO.out
        subst hoe
        go_wp2_with (at_builtin; refine wpList_valsD w.heap.size _ rfl _ _ 159 152 rfl Tryz.underlying159 (.pointer none) 1 8 info152 rfl (by decide) (by decide) (.slice oa (qsL Pq k).length oc) (qsL Pq k).length ((qsL Pq k).map fun q => .pointer (some ⟨q, 0, none⟩)) ?hvs ?hvo ?hvb wr.heap.size [.pointer (some ⟨q, 0, none⟩)] 1 ?hvx rfl (by decide) ?hvg ?hv1 (by omega) ?hvk)
        case hvs => simp [Act.eval, Act.put]
        case hvo => exact own_tch HO.out ((Tch.refl [] _).alloc _) (fun _ _ => by simp)
        case hvb => rw [World.size_alloc]; omega
        case hvx => simp [Act.eval, Act.put]
        case hvg => exact heap_alloc_new _ _
        case hv1 => intro u hu; simp at hu; subst hu; rfl
        intro v2 w2 ho2 hg2 hb2
        have HO2 : Hid (w2.ownsRow w.heap.size 152 1 v2 (qsL Pq (k + 1)).length ((qsL Pq (k + 1)).map fun q => .pointer (some ⟨q, 0, none⟩)) ∧ Tch [] w w2) := by
          refine ⟨by rw [HR.out]; simpa using ho2, (HT.out.alloc _).grown hg2 (fun j hj hlt => ?_)⟩
          have := own_ge' HO.out j hj
          omega
        clear ho2 hg2 hb2
        go_wp2_with fail
        go_roundw
        case rel => exact ⟨k + 1, v2, by omega, rfl, by go_num, HO2.out.1, HO2.out.2⟩
        case measure => simp [intOf]; omega
    · have hke : k = 8 := by omega
      subst hke
      go_wp2_with fail
      go_ret
      exact ⟨_, rfl, HO.out, HT.out⟩
end Go.Proofs.YtbdobaapadlcjaaGreatDoor
