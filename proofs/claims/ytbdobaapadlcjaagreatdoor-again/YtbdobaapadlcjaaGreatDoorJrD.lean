/-
  WHAT STAYS, BY TYPES; a broker's journal; Lay (63) within its bounds; there (93) and Whole (65) of a state without queues.
-/
import Derived.Test.YtbdobaapadlcjaaGreatDoorTkA
namespace Go.Proofs.YtbdobaapadlcjaaGreatDoor
open Go.RowKit
set_option linter.unusedVariables false

/-- The blocks below B stay, and so do those that are of no type of a list. -/
structure Fr (B : Nat) (T : List TypeId) (w w' : World) : Prop where
  os : w'.os = w.os
  tape : w'.tape = w.tape
  output : w'.output = w.output
  size : w.heap.size ≤ w'.heap.size
  low : ∀ k : Nat, k < B → w'.heap[k]? = w.heap[k]?
  keep : ∀ (k : Nat) (C : Array Value) (t : TypeId), w.heap[k]? = some (.cells C t (0, 0)) → t ∉ T → w'.heap[k]? = some (.cells C t (0, 0))
theorem Fr.refl (B : Nat) (T : List TypeId) (w : World) : Fr B T w w := ⟨rfl, rfl, rfl, Nat.le_refl _, fun _ _ => rfl, fun _ _ _ h _ => h⟩
theorem Fr.trans {B : Nat} {T : List TypeId} {a b c : World} (h : Fr B T a b) (k : Fr B T b c) : Fr B T a c :=
  ⟨k.os.trans h.os, k.tape.trans h.tape, k.output.trans h.output, Nat.le_trans h.size k.size, fun x hx => (k.low x hx).trans (h.low x hx), fun x C t hx ht => k.keep x C t (h.keep x C t hx ht) ht⟩
theorem Fr.mono {B : Nat} {T T' : List TypeId} {a b : World} (h : Fr B T a b) (hT : ∀ t ∈ T, t ∈ T') : Fr B T' a b :=
  ⟨h.os, h.tape, h.output, h.size, h.low, fun k C t hk ht => h.keep k C t hk (fun hm => ht (hT t hm))⟩
theorem Fr.of_tch {B : Nat} {T : List TypeId} {S : List Nat} {w w' : World} (h : Tch S w w') (hB : B ≤ w.heap.size) (hlow : ∀ k ∈ S, B ≤ k) (hty : ∀ k ∈ S, ∀ (C : Array Value) (t : TypeId), w.heap[k]? = some (.cells C t (0, 0)) → t ∈ T) : Fr B T w w' :=
  ⟨h.os, h.tape, h.output, h.size, fun k hk => h.block k (by omega) (fun hm => by have := hlow k hm; omega), fun k C t hk ht => (h.block k (lt_of_block hk) (fun hm => ht (hty k hm C t hk))).trans hk⟩
theorem Fr.of_nil {B : Nat} (T : List TypeId) {w w' : World} (h : Tch [] w w') (hB : B ≤ w.heap.size) : Fr B T w w' := Fr.of_tch h hB (by simp) (by simp)
theorem Fr.below {B : Nat} {T : List TypeId} {w w' : World} (h : Fr B T w w') : Below B w w' := ⟨h.os, h.tape, h.output, h.size, fun k hk => h.low k hk⟩
theorem Fr.own {B : Nat} {T : List TypeId} {w w' : World} (h : Fr B T w w') {base size n : Nat} {t : TypeId} {v : Value} {xs : List Value} (ho : w.ownsRow base t size v n xs) (ht : t ∉ T) : w'.ownsRow base t size v n xs := by
  refine ⟨ho.1, ?_⟩
  rcases ho.2 with hn | ⟨g, cap, cur, rfl, hb, hg, rest⟩
  · exact .inl hn
  · exact .inr ⟨g, cap, cur, rfl, hb, h.keep g cur t hg ht, rest⟩

abbrev TJ : List TypeId := [143, 110, 116]
theorem Jr.fr {B : Nat} {w w' : World} {j d : Nat} {room : Int} {v : Value} {fs : List Dk.DF} {n k : Nat} (h : Jr w j d room v fs n k) (hB : B ≤ w.heap.size) (hlo : ∀ b ∈ jbl j d v, B ≤ b) (ht : Tch (jbl j d v) w w') : Fr B TJ w w' :=
  Fr.of_tch ht hB hlo (fun b hb C t hC => by
    by_cases h1 : 143 = t
    · rw [← h1]; decide
    · by_cases h2 : 110 = t
      · rw [← h2]; decide
      · by_cases h3 : 116 = t
        · rw [← h3]; decide
        · exact absurd hb (h.apart hC h1 h2 h3))

/-- A broker in x with the state st and a journal that is good for m more requests; f: nothing was laid down yet. -/
structure Jp (f : Bool) (B m : Nat) (w : World) (x st j d : Nat) (room : Int) (v : Value) (fs : List Dk.DF) (n k : Nat) : Prop where
  hx : w.heap[x]? = some (.cells #[.pointer (some ⟨st, 0, none⟩), .pointer (some ⟨j, 0, none⟩)] 99 (0, 0))
  jr : Jr w j d room v fs n k
  lo : ∀ b ∈ jbl j d v, B ≤ b
  ro : if f = true then fs = [] ∧ room = 0 else (400 * m : Int) ≤ room ∧ room ≤ 16384
  bd : n + 3 * m ≤ 100 ∧ k + 4000 * m ≤ 100000
def Jn (f : Bool) (B m : Nat) (w : World) (x st : Nat) : Prop := ∃ j d room v fs n k, Jp f B m w x st j d room v fs n k
theorem Jn.keep {f : Bool} {B m : Nat} {w w' : World} {x st : Nat} (h : Jn f B m w x st) {T : List TypeId} (ht : Fr B T w w') (h1 : 99 ∉ T) (h2 : 143 ∉ T) (h3 : 110 ∉ T) (h4 : 116 ∉ T) : Jn f B m w' x st := by
  obtain ⟨j, d, room, v, fs, n, k, h⟩ := h
  exact ⟨j, d, room, v, fs, n, k, ht.keep _ _ _ h.hx h1, ⟨ht.keep _ _ _ h.jr.hj h2, ⟨ht.keep _ _ _ h.jr.dsk.blk h3, ht.own h.jr.dsk.own h4, h.jr.dsk.sep⟩, h.jr.gd⟩, h.lo, h.ro, h.bd⟩
theorem Jn.tch {f : Bool} {B m : Nat} {w w' : World} {x st : Nat} (h : Jn f B m w x st) (ht : Tch [] w w') : Jn f B m w' x st := by
  obtain ⟨j, d, room, v, fs, n, k, h⟩ := h
  exact ⟨j, d, room, v, fs, n, k, (ht.block _ (lt_of_block h.hx) (by simp)).trans h.hx, h.jr.tch ht (by simp), h.lo, h.ro, h.bd⟩

theorem lay_ok (f : Bool) (B m base x st j d : Nat) (room : Int) (v : Value) (fs : List Dk.DF) (n k : Nat) (rv : Value) (rec : List UInt8) (w : World) (h : Jp f B (m + 1) w x st j d room v fs n k) (hm : m ≤ 24) (hBw : B ≤ w.heap.size) (h3 : 3 ≤ B) (hT : Tab w) (ho : OwnB w base rv rec) (hpos : 0 < rec.length) (hrl : rec.length ≤ 400)
    (hW : f = true → ∀ W, Tch [j] w W → Calls Tryz.prog 65 #[.pointer (some ⟨st, 0, none⟩)] W fun e w' => ∃ t, e = .returned (.string t) ∧ t.size ≤ 1000 ∧ Tch [] W w') :
    Calls Tryz.prog 63 #[.pointer (some ⟨j, 0, none⟩), rv, .func (.func 65) #[.pointer (some ⟨st, 0, none⟩)] #[]] w fun e w' => e = .returned (.bool true) ∧ Fr B TJ w w' ∧ Jn false B m w' x st := by
  have key : ∃ room2 n2 k2, Calls Tryz.prog 89 #[.pointer (some ⟨j, 0, none⟩), .int .i64 (rec.length : Int), .func (.func 65) #[.pointer (some ⟨st, 0, none⟩)] #[]] w (fun e w' => e = .returned (.bool true) ∧ Jl w w' j d v room2 n2 k2) ∧ (400 * m : Int) ≤ room2 - rec.length ∧ room2 ≤ 16384 ∧ n2 ≤ n + 1 ∧ k2 ≤ k + 2000 := by
    have hro := h.ro
    have hbd := h.bd
    cases f with
    | true =>
      simp only [if_true] at hro
      obtain ⟨rfl, rfl⟩ := hro
      refine ⟨16384, n + 1, k + 2000, room_no j d st v n k rec.length w h.jr hpos (by omega) (by omega) (by omega) hT (by omega) (by have := h.lo j (by simp [jbl]); omega) (hW rfl), ?_, ?_, ?_, ?_⟩ <;> omega
    | false =>
      simp only [Bool.false_eq_true, if_false] at hro
      refine ⟨room, n, k, room_yes j d room v fs n k rec.length _ w h.jr (by omega), ?_, ?_, ?_, ?_⟩ <;> omega
  obtain ⟨room2, n2, k2, hM, e1, e2, e3, e4⟩ := key
  have hbd := h.bd
  refine (lay_walk j d room room2 v fs n k n2 k2 base rv _ rec w h.jr ho hpos (by omega) (by omega) (by omega) (by omega) hM (by omega)).mono ?_
  rintro e w' ⟨rfl, v', fs', hj', ht', hb'⟩
  refine ⟨rfl, h.jr.fr hBw h.lo ht', j, d, _, v', fs', _, _, ?_, hj', fun b hb => ?_, ?_, by omega, by omega⟩
  · exact (ht'.block _ (lt_of_block h.hx) (h.jr.apart h.hx (by decide) (by decide) (by decide))).trans h.hx
  · rcases List.mem_cons.1 hb with e | e
    · rw [e]; exact h.lo j (by simp [jbl])
    · rcases List.mem_cons.1 e with e | e
      · rw [e]; exact h.lo d (by simp [jbl, Dk.bl])
      · rcases hb' b (by simpa [Option.mem_toList] using e) with h1 | h1
        · exact h.lo b (by simp [jbl, Dk.bl, h1])
        · omega
  · simp only [Bool.false_eq_true, if_false]
    omega

theorem iy0 (W : World) : (Instr.index 153 (.agg #[.pointer none, .pointer none, .pointer none, .pointer none, .pointer none, .pointer none, .pointer none, .pointer none]) (.int .i64 0)).run Tryz.prog W = .ok (.pointer none) W := by kernel_rfl
theorem iy1 (W : World) : (Instr.index 153 (.agg #[.pointer none, .pointer none, .pointer none, .pointer none, .pointer none, .pointer none, .pointer none, .pointer none]) (.int .i64 1)).run Tryz.prog W = .ok (.pointer none) W := by kernel_rfl
theorem iy2 (W : World) : (Instr.index 153 (.agg #[.pointer none, .pointer none, .pointer none, .pointer none, .pointer none, .pointer none, .pointer none, .pointer none]) (.int .i64 2)).run Tryz.prog W = .ok (.pointer none) W := by kernel_rfl
theorem iy3 (W : World) : (Instr.index 153 (.agg #[.pointer none, .pointer none, .pointer none, .pointer none, .pointer none, .pointer none, .pointer none, .pointer none]) (.int .i64 3)).run Tryz.prog W = .ok (.pointer none) W := by kernel_rfl
theorem iy4 (W : World) : (Instr.index 153 (.agg #[.pointer none, .pointer none, .pointer none, .pointer none, .pointer none, .pointer none, .pointer none, .pointer none]) (.int .i64 4)).run Tryz.prog W = .ok (.pointer none) W := by kernel_rfl
theorem iy5 (W : World) : (Instr.index 153 (.agg #[.pointer none, .pointer none, .pointer none, .pointer none, .pointer none, .pointer none, .pointer none, .pointer none]) (.int .i64 5)).run Tryz.prog W = .ok (.pointer none) W := by kernel_rfl
theorem iy6 (W : World) : (Instr.index 153 (.agg #[.pointer none, .pointer none, .pointer none, .pointer none, .pointer none, .pointer none, .pointer none, .pointer none]) (.int .i64 6)).run Tryz.prog W = .ok (.pointer none) W := by kernel_rfl
theorem iy7 (W : World) : (Instr.index 153 (.agg #[.pointer none, .pointer none, .pointer none, .pointer none, .pointer none, .pointer none, .pointer none, .pointer none]) (.int .i64 7)).run Tryz.prog W = .ok (.pointer none) W := by kernel_rfl

set_option maxRecDepth 8000 in
set_option maxHeartbeats 4000000 in
theorem there_none (st b : Nat) (now : Int) (w : World) (hst : w.heap[st]? = some (.cells (stC now (.pointer none) b) 156 (0, 0))) :
    Calls Tryz.prog 93 #[.pointer (some ⟨st, 0, none⟩)] w fun e w' => e = .returned (.slice none 0 0) ∧ w' = w := by
  have c1 : w.cell? ⟨st, 1, none⟩ = some (.pointer none) := by simp [World.cell?, hst, stC, deedsC]
  have c2 : w.cell? ⟨st, 2, none⟩ = some (.pointer none) := by simp [World.cell?, hst, stC, deedsC]
  have c3 : w.cell? ⟨st, 3, none⟩ = some (.pointer none) := by simp [World.cell?, hst, stC, deedsC]
  have c4 : w.cell? ⟨st, 4, none⟩ = some (.pointer none) := by simp [World.cell?, hst, stC, deedsC]
  have c5 : w.cell? ⟨st, 5, none⟩ = some (.pointer none) := by simp [World.cell?, hst, stC, deedsC]
  have c6 : w.cell? ⟨st, 6, none⟩ = some (.pointer none) := by simp [World.cell?, hst, stC, deedsC]
  have c7 : w.cell? ⟨st, 7, none⟩ = some (.pointer none) := by simp [World.cell?, hst, stC, deedsC]
  have c8 : w.cell? ⟨st, 8, none⟩ = some (.pointer none) := by simp [World.cell?, hst, stC, deedsC]
  clear hst
  have x0 := iy0
  have x1 := iy1
  have x2 := iy2
  have x3 := iy3
  have x4 := iy4
  have x5 := iy5
  have x6 := iy6
  have x7 := iy7
  go_enter Tryz.func93, Tryz.ntmps93
  go_wp2
  refine wp_loop_rounds 9 ?_
  iterate 9 (rw [rounds_succ]; go_wp2)
  go_ret
  exact ⟨rfl, rfl⟩

set_option maxHeartbeats 1000000 in
theorem whole_none (st b : Nat) (w : World) (hst : w.heap[st]? = some (.cells (stC 0 (.pointer none) b) 156 (0, 0))) :
    Calls Tryz.prog 65 #[.pointer (some ⟨st, 0, none⟩)] w fun e w' => ∃ t, e = .returned (.string t) ∧ t.size ≤ 1000 ∧ Tch [] w w' := by
  have c0 : w.cell? ⟨st, 0, none⟩ = some (.int .i64 0) := by simp [World.cell?, hst, stC, deedsC]
  have hnum : Hid (Calls Tryz.prog 91 #[.slice none 0 0, .int .i64 0, .int .i64 4] w fun e w' => ∃ v', e = .returned v' ∧ OwnB w' w.heap.size v' ([] ++ lowB 0 4) ∧ Below w.heap.size w w') :=
    appendNumber_any w.heap.size _ [] 0 4 w (by omega) (by decide) (by decide) (Nat.le_refl _) (World.ownsRow_nil _ _ _ _)
  have HT : Hid (∀ W, Below w.heap.size w W → Calls Tryz.prog 93 #[.pointer (some ⟨st, 0, none⟩)] W fun e w' => e = .returned (.slice none 0 0) ∧ w' = W) := fun W hb => there_none st b 0 W ((hb.block _ (lt_of_block hst)).trans hst)
  clear hst
  go_enter Tryz.func65, Tryz.ntmps65
  go_wp2_with fail
  refine hnum.out.mono ?_
  rintro e w1 ⟨v1, rfl, ho1, hb1⟩
  have hstr : (convert 74 9 v1).run Tryz.prog w1 = .ok (.string ⟨([] ++ lowB 0 4).toArray⟩) w1 := OwnB.str ho1 (by simp [lowB_length])
  have HB : Hid (Below w.heap.size w w1) := hb1
  clear ho1 hb1
  go_wp2_with fail
  refine (HT.out _ HB.out).mono ?_
  rintro e w' ⟨rfl, h'⟩
  have h'' := h'.symm
  subst h''
  go_wp2_with fail
  refine wp_loop_rounds 1 ?_
  rw [rounds_succ]
  go_wp2_with fail
  go_ret
  exact ⟨_, rfl, by decide, Tch.of_below HB.out⟩
end Go.Proofs.YtbdobaapadlcjaaGreatDoor
