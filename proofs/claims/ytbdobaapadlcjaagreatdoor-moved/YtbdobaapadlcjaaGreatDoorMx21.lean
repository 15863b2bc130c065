/-
  WHAT IS RIGHT, in plain mathematics: a request that is right has nothing but its own fields. A REQUEST COMES BACK OUT OF ITS BYTES. THE BYTES OF A RIGHT REQUEST: with a byte less, or one more, they are no request's. THE WALK of state.Plan (81) at the Op C. THE WALKS of state.Do (61) and Broker.Do (34), out of what Plan answers.
-/
import Derived.Test.YtbdobaapadlcjaaGreatDoorMx08
import Derived.Test.YtbdobaapadlcjaaGreatDoorMx20
import Derived.Test.YtbdobaapadlcjaaGreatDoorMx13
import Derived.Test.YtbdobaapadlcjaaGreatDoorMx17
import Derived.Deep.RegionHeld3
import Derived.Shelf.Abstract
namespace Go.Proofs.YtbdobaapadlcjaaGreatDoor
set_option linter.unusedVariables false

def i64 (n : Int) : Prop := -9223372036854775808 ≤ n ∧ n ≤ 9223372036854775807
/-- A request whose numbers are such. -/
structure Wf (r : Wp.Rq) : Prop where
  vis : i64 r.vis
  win : i64 r.win
  rcv : i64 r.rcv
  quo : i64 r.quo
  mx : i64 r.mx
  tic : i64 r.tic
theorem wrap_i64 (n : Int) : i64 (IntKind.i64.wrap n) := by
  unfold i64
  simp [IntKind.wrap, IntKind.bits, IntKind.signed]
  split <;> omega
theorem ofInt_zero (a : Int) (ha : i64 a) (h : BitVec.ofInt 64 a = 0#64) : a = 0 := by
  have h1 := congrArg BitVec.toInt h
  rw [BitVec.toInt_ofInt, BitVec.toInt_zero] at h1
  unfold i64 at ha
  unfold Int.bmod at h1
  dsimp only at h1
  split at h1 <;> omega
theorem or_zero_iff (a b : Int) (ha : i64 a) (hb : i64 b) : bits .or .i64 a b = 0 ↔ a = 0 ∧ b = 0 := by
  constructor
  · intro h
    have h0 : IntKind.i64.wrap ((BitVec.ofInt 64 a ||| BitVec.ofInt 64 b).toNat : Int) = 0 := h
    have hz : (BitVec.ofInt 64 a ||| BitVec.ofInt 64 b).toNat = 0 := by
      have hlt := (BitVec.ofInt 64 a ||| BitVec.ofInt 64 b).isLt
      generalize (BitVec.ofInt 64 a ||| BitVec.ofInt 64 b).toNat = n at h0 hlt
      simp [IntKind.wrap, IntKind.bits, IntKind.signed] at h0
      split at h0 <;> omega
    have hv : BitVec.ofInt 64 a ||| BitVec.ofInt 64 b = 0#64 := BitVec.eq_of_toNat_eq (by rw [hz]; rfl)
    have hab := BitVec.or_eq_zero_iff.1 hv
    exact ⟨ofInt_zero a ha hab.1, ofInt_zero b hb hab.2⟩
  · rintro ⟨rfl, rfl⟩
    decide
theorem or_i64_range (a b : Int) : i64 (bits .or .i64 a b) := wrap_i64 _
theorem or_byte (a b : Nat) (ha : a < 256) (hb : b < 256) : bits .or .u8 (a : Int) (b : Int) = 0 ↔ a = 0 ∧ b = 0 := by
  rw [u8_or_nat a b ha hb]
  constructor
  · intro h
    have h1 : a ||| b = 0 := by omega
    exact Nat.or_eq_zero_iff.1 h1
  · rintro ⟨rfl, rfl⟩; rfl
theorem or_byte_lt (a b : Nat) (ha : a < 256) (hb : b < 256) : ∃ c : Nat, bits .or .u8 (a : Int) (b : Int) = (c : Int) ∧ c < 256 ∧ (c = 0 ↔ a = 0 ∧ b = 0) :=
  ⟨a ||| b, u8_or_nat a b ha hb, by have := Nat.or_lt_two_pow (n := 8) (x := a) (y := b) (by omega) (by omega); omega, Nat.or_eq_zero_iff⟩
theorem empty_iff (s : ByteArray) : s.toList.isEmpty = true ↔ s = ⟨#[]⟩ := by
  constructor
  · intro h
    apply ByteArray.ext
    apply Array.eq_empty_of_size_eq_zero
    have : ¬ 0 < s.size := fun hs => by rw [str_ne hs] at h; cases h
    have e : s.size = s.data.size := rfl
    omega
  · rintro rfl; exact str_em (s := ⟨#[]⟩) (by show ¬ 0 < 0; omega)
theorem byte_zero (c : UInt8) : c.toNat = 0 ↔ c = 0 := ⟨fun h => UInt8.toNat_inj.1 h, fun h => by rw [h]; rfl⟩
/-- A request that is blank is without anything. -/
theorem blank_iff (r : Wp.Rq) (n : Nat) (h : Wf r) : blankW r n = true ↔ r = opR 0 ∧ n = 0 := by
  obtain ⟨c, hc, hc2, hc3⟩ := or_byte_lt r.op.toNat r.q.toNat r.op.toNat_lt r.q.toNat_lt
  unfold blankW
  rw [hc]
  simp only [Bool.and_eq_true, beq_iff_eq, or_byte c r.d.toNat hc2 r.d.toNat_lt, hc3, or_zero_iff _ _ (or_i64_range _ _) h.tic, or_zero_iff _ _ (or_i64_range _ _) h.mx, or_zero_iff _ _ (or_i64_range _ _) h.quo, or_zero_iff _ _ (or_i64_range _ _) h.rcv, or_zero_iff _ _ h.vis h.win, empty_iff, byte_zero]
  constructor
  · rintro ⟨⟨⟨⟨⟨h1, h2⟩, h3⟩, ⟨⟨⟨⟨h4, h5⟩, h6⟩, h7⟩, h8⟩, h9⟩, ⟨⟨⟨h10, h11⟩, h12⟩, h13⟩, h14⟩, h15⟩
    refine ⟨?_, by omega⟩
    cases r
    simp only at *
    subst h1 h2 h3 h4 h5 h6 h7 h8 h9 h10 h11 h12 h13 h14
    rfl
  · rintro ⟨rfl, rfl⟩
    exact ⟨⟨⟨⟨⟨rfl, rfl⟩, rfl⟩, ⟨⟨⟨⟨rfl, rfl⟩, rfl⟩, rfl⟩, rfl⟩, rfl⟩, ⟨⟨⟨rfl, rfl⟩, rfl⟩, rfl⟩, rfl⟩, rfl⟩
theorem ite_wf {c : Prop} [Decidable c] {a b : Wp.Rq} (ha : Wf a) (hb : Wf b) : Wf (if c then a else b) := by
  by_cases h : c
  · rw [if_pos h]; exact ha
  · rw [if_neg h]; exact hb
theorem er_wf (r : Wp.Rq) (f : Nat) (h : Wf r) : Wf (er r f) := by
  have hz : i64 0 := by unfold i64; omega
  obtain ⟨h1, h2, h3, h4, h5, h6⟩ := h
  unfold er
  repeat' (refine ite_wf ?_ ?_)
  all_goals exact ⟨by first | exact h1 | exact hz, by first | exact h2 | exact hz, by first | exact h3 | exact hz, by first | exact h4 | exact hz, by first | exact h5 | exact hz, by first | exact h6 | exact hz⟩
theorem erAll_wf (r : Wp.Rq) (L : List Nat) (h : Wf r) : Wf (erAll r L) := by
  unfold erAll
  induction L generalizing r with
  | nil => exact h
  | cons f L ih => exact ih _ (er_wf r f h)
/-- The places of the Ops among the letters. -/
def opsAt : List Nat := [0, 1, 2, 4, 15, 17, 18, 19, 21, 23]
theorem isOp_at (op : UInt8) : Wp.isOp op = true ↔ ∃ i ∈ opsAt, op.toNat = 65 + i := by
  have h1 : ∀ a : Fin 26, 0 < (Wp.lay a.val).length ↔ a.val ∈ opsAt := by decide
  have h2 : ∀ i ∈ opsAt, i < 26 := by decide
  simp only [Wp.isOp, Bool.and_eq_true, decide_eq_true_eq]
  constructor
  · rintro ⟨⟨a, b⟩, c⟩
    exact ⟨op.toNat - 65, (h1 ⟨op.toNat - 65, by omega⟩).1 c, by omega⟩
  · rintro ⟨i, hi, he⟩
    have := h2 i hi
    refine ⟨⟨by omega, by omega⟩, ?_⟩
    rw [he, Nat.add_sub_cancel_left]
    exact (h1 ⟨i, this⟩).2 hi
/-- What it is to be right. -/
theorem right_iff (r : Wp.Rq) (x : Sl) (b : Bool) (h : Wf r) : rightW r x b = true ↔ ∃ i ∈ opsAt, r.op.toNat = 65 + i ∧ (Wp.lay i).all (r.fits x.n b) = true ∧ erAll { r with op := 0 } (Wp.lay i) = opR 0 ∧ (ebAll x (Wp.lay i)).n = 0 := by
  have hw : Wf { r with op := 0 } := ⟨h.vis, h.win, h.rcv, h.quo, h.mx, h.tic⟩
  unfold rightW
  rw [Bool.and_eq_true, Bool.and_eq_true, isOp_at, blank_iff _ _ (erAll_wf _ _ hw)]
  constructor
  · rintro ⟨⟨i, hi, he⟩, h1, h2, h3⟩
    rw [he, Nat.add_sub_cancel_left] at h1 h2 h3
    exact ⟨i, hi, he, h1, h2, h3⟩
  · rintro ⟨i, hi, he, h1, h2, h3⟩
    rw [he, Nat.add_sub_cancel_left]
    exact ⟨⟨i, hi, rfl⟩, h1, h2, h3⟩
end Go.Proofs.YtbdobaapadlcjaaGreatDoor

namespace Go.Proofs.YtbdobaapadlcjaaGreatDoor
set_option linter.unusedVariables false

theorem cp_right (r : Wp.Rq) (i : Nat) (hi : i ∈ opsAt) (he : erAll { r with op := 0 } (Wp.lay i) = opR 0) : (Wp.lay i).foldl (fun a f => cp a r f) (opR r.op) = r := by
  simp only [opsAt, List.mem_cons, List.not_mem_nil, or_false] at hi
  obtain ⟨op, q, d, vis, win, rcv, quo, mx, tic, grp, ded, bod, att, han⟩ := r
  rcases hi with rfl | rfl | rfl | rfl | rfl | rfl | rfl | rfl | rfl | rfl <;>
    (simp [Wp.lay, Wp.layTab, erAll, er, opR] at he; simp [Wp.lay, Wp.layTab, cp, opR, he])
theorem eb_right (x : Sl) (i : Nat) (hi : i ∈ opsAt) (h : (ebAll x (Wp.lay i)).n = 0) : i = 1 ∨ x.n = 0 := by
  simp only [opsAt, List.mem_cons, List.not_mem_nil, or_false] at hi
  rcases hi with rfl | rfl | rfl | rfl | rfl | rfl | rfl | rfl | rfl | rfl <;>
    (simp [Wp.lay, Wp.layTab, ebAll, eb] at h ⊢; try exact h)
/-- READING WHAT WAS WRITTEN, a list of fields. -/
theorem run_enc (r : Wp.Rq) (bs : List ByteArray) (q : List UInt8) (L : List Nat) (hL : ∀ f ∈ L, f < 15) (hall : L.all (r.fits bs.length (Wp.short bs)) = true) (t : St) (ht : t.s = BA (encL r bs L ++ q)) (hf : t.fl = false) :
    L.foldl stepSt t = ⟨L.foldl (fun a f => cp a r f) t.r, BA q, false, if 14 ∈ L then bs else t.bs⟩ := by
  induction L generalizing t with
  | nil =>
    obtain ⟨tr, ts, tf, tb⟩ := t
    simp only at ht hf
    subst ht hf
    rfl
  | cons f L ih =>
    rw [List.all_cons, Bool.and_eq_true] at hall
    have e : encL r bs (f :: L) ++ q = encF r bs f ++ (encL r bs L ++ q) := by
      have e1 : encL r bs (f :: L) = encF r bs f ++ encL r bs L := by simp [encL]
      rw [e1, List.append_assoc]
    rw [e] at ht
    obtain ⟨h1, h2, h3, h4⟩ := read_enc t.r r bs f (encL r bs L ++ q) t.fl (hL f List.mem_cons_self) hall.1
    rw [← ht] at h1 h2 h3 h4
    rw [List.foldl_cons, ih (fun g hg => hL g (List.mem_cons_of_mem _ hg)) hall.2 (stepSt t f) h2 (h3.trans hf)]
    have e2 : (stepSt t f).r = cp t.r r f := h1
    have e3 : (stepSt t f).bs = if f = 14 then bs else t.bs := by
      show (if f = 14 then rdT (nmN t.s 1) (lf t.s 1) else t.bs) = _
      by_cases h14 : f = 14
      · rw [if_pos h14, if_pos h14]; exact h4 h14
      · rw [if_neg h14, if_neg h14]
    rw [e2, e3, List.foldl_cons]
    congr 1
    by_cases h14 : f = 14
    · subst h14
      simp
    · have : (14 ∈ f :: L) = (14 ∈ L) := by simp [Ne.symm h14]
      rw [if_neg h14]
      by_cases hm : 14 ∈ L
      · rw [if_pos hm, if_pos (by rw [this]; exact hm)]
      · rw [if_neg hm, if_neg (by rw [this]; exact hm)]
theorem lay_fields (i : Nat) (hi : i ∈ opsAt) : ∀ f ∈ Wp.lay i, f < 15 := by
  have h2 : ∀ i ∈ opsAt, ∀ f ∈ Wp.lay i, f < 15 := by decide
  exact h2 i hi
/-- The bytes of a right request, with others behind them. -/
theorem end_enc (r : Wp.Rq) (x : Sl) (bs : List ByteArray) (q : List UInt8) (hw : Wf r) (hxn : x.n = bs.length) (h : rightW r x (Wp.short bs) = true) :
    endSt (BA (r.op :: encL r bs (Wp.lay (r.op.toNat - 65)) ++ q)) = ⟨r, BA q, false, bs⟩ ∧ opOf (BA (r.op :: encL r bs (Wp.lay (r.op.toNat - 65)) ++ q)) = r.op := by
  obtain ⟨i, hi, hop, hall, her, heb⟩ := (right_iff r x _ hw).1 h
  rw [hop, Nat.add_sub_cancel_left]
  have ho : opOf (BA (r.op :: encL r bs (Wp.lay i) ++ q)) = r.op := nm_byte r.op (encL r bs (Wp.lay i) ++ q)
  have h1 : lf (BA (r.op :: encL r bs (Wp.lay i) ++ q)) 1 = BA (encL r bs (Wp.lay i) ++ q) := lf_app [r.op] (encL r bs (Wp.lay i) ++ q)
  have h2 : bad (BA (r.op :: encL r bs (Wp.lay i) ++ q)) false 1 = false := bad_app [r.op] (encL r bs (Wp.lay i) ++ q) false
  refine ⟨?_, ho⟩
  unfold endSt runSt
  rw [ho, hop, Nat.add_sub_cancel_left, h1, h2]
  rw [hxn] at hall
  rw [run_enc r bs q (Wp.lay i) (lay_fields i hi) hall _ rfl rfl, cp_right r i hi her]
  congr 1
  by_cases h14 : 14 ∈ Wp.lay i
  · rw [if_pos h14]
  · rw [if_neg h14]
    rcases eb_right x i hi heb with rfl | hn
    · exact absurd (by decide) h14
    · rw [hxn] at hn
      exact (List.length_eq_zero_iff.1 hn).symm
theorem good_enc (r : Wp.Rq) (x : Sl) (bs : List ByteArray) (q : List UInt8) (hw : Wf r) (hxn : x.n = bs.length) (h : rightW r x (Wp.short bs) = true) :
    parseGood (BA (r.op :: encL r bs (Wp.lay (r.op.toNat - 65)) ++ q)) = q.isEmpty := by
  obtain ⟨h1, h2⟩ := end_enc r x bs q hw hxn h
  have hop : Wp.isOp r.op = true := by
    unfold rightW at h
    rw [Bool.and_eq_true] at h
    exact h.1
  unfold parseGood
  rw [h1, h2, hop, ← rightW_n r x ⟨none, bs.length, 0⟩ (Wp.short bs) hxn, h]
  show (true && (!false && ((BA q).toList.isEmpty && true))) = _
  rw [ByteArray.toList_eq, BA_list]
  simp
end Go.Proofs.YtbdobaapadlcjaaGreatDoor

namespace Go.Proofs.YtbdobaapadlcjaaGreatDoor
set_option linter.unusedVariables false

theorem print_bytes (r : Wp.Rq) (x : Sl) (bs : List ByteArray) (h : rightW r x (Wp.short bs) = true) : printS r x bs = BA (r.op :: encL r bs (Wp.lay (r.op.toNat - 65)) ++ []) ∧ printE r x bs = 0 := by
  rw [List.append_nil]
  exact ⟨by rw [printS, if_pos h]; rfl, by rw [printE, if_pos h]⟩
theorem print_good (r : Wp.Rq) (x : Sl) (bs : List ByteArray) (hw : Wf r) (hxn : x.n = bs.length) (h : rightW r x (Wp.short bs) = true) :
    parseGood (printS r x bs) = true ∧ (endSt (printS r x bs)).r = r ∧ (endSt (printS r x bs)).bs = bs := by
  rw [(print_bytes r x bs h).1]
  refine ⟨good_enc r x bs [] hw hxn h, ?_, ?_⟩
  · rw [(end_enc r x bs [] hw hxn h).1]
  · rw [(end_enc r x bs [] hw hxn h).1]
end Go.Proofs.YtbdobaapadlcjaaGreatDoor

namespace Go.Proofs.YtbdobaapadlcjaaGreatDoor
open Go.RowKit

theorem zero_str (W : World) (g cap : Nat) (h : W.cell? ⟨g, 0, none⟩ = some (.int .u8 0)) : (convert 74 9 (.slice (some ⟨g, 0, none⟩) 1 cap)).run Tryz.prog W = .ok (.string ⟨#[0]⟩) W := by
  refine run_convert_bytes_back (P := Tryz.prog) W 74 9 5 ⟨g, 0, none⟩ cap [0] Tryz.underlying74 Tryz.underlying5 Tryz.underlying9 ?_
  intro j hj
  have hj0 : j = 0 := by simpa using hj
  subst hj0
  exact h

end Go.Proofs.YtbdobaapadlcjaaGreatDoor

namespace Go.Proofs.YtbdobaapadlcjaaGreatDoor
open Go.RowKit

theorem func_nil2 (fn : Fn) (f c : Array Value) (W : World) : (binOp .eql 1 (.func fn f c) .nilFunc).run Tryz.prog W = .ok (.bool false) W := by kernel_rfl
theorem nil_nil2 (W : World) : (binOp .eql 1 .nilFunc .nilFunc).run Tryz.prog W = .ok (.bool true) W := by kernel_rfl
def laidIn (w : World) (C : Array Value) : World := (w.alloc (.cells (cellsOf (opR 0) (Sl.v ⟨none, 0, 0⟩)) 27)).setRow w.heap.size C
theorem laidIn_heap (w : World) (C : Array Value) : (laidIn w C).heap[w.heap.size]? = some (.cells C 27 (0, 0)) := setRow_heap _ _ _ _ 27 (0, 0) (heap_alloc_new _ _)
theorem laidIn_tch (w : World) (C : Array Value) : Tch [] w (laidIn w C) := ((Tch.refl _ _).alloc _).setRow (fun h => absurd h (Nat.lt_irrefl _)) _
theorem laidIn_is (w : World) (C : Array Value) : (w.alloc (.cells #[.int .u8 0, .int .u8 0, .int .u8 0, .int .i64 0, .int .i64 0, .int .i64 0, .int .i64 0, .int .i64 0, .int .i64 0, .string ⟨#[]⟩, .string ⟨#[]⟩, .string ⟨#[]⟩, .string ⟨#[]⟩, .string ⟨#[]⟩, .slice none 0 0] 27)).setRow w.heap.size C = laidIn w C := rfl
theorem parse_good (B : Nat) (s : ByteArray) (r : Wp.Rq) (w : World) (hs : s.size ≤ maxLen) (hL : Lays B w) (hBw : B ≤ w.heap.size) (hg : parseGood s = true) (hr : (endSt s).r = r) :
    Calls Tryz.prog 60 #[.string s] w fun e w' => ∃ y : Sl, e = .returned (.tuple #[.agg (cellsOf r y.v), .int .i64 0]) ∧ Below w.heap.size w w' := by
  refine (parse_any B s w hs hL hBw).mono ?_
  rintro e w' ⟨h | h, hb⟩
  · obtain ⟨_, y, he, _⟩ := h
    exact ⟨y, by rw [he, hr], hb⟩
  · rw [hg] at h
    exact absurd h.1 (by decide)

/-- What Plan leaves: nothing to change, or a closure that makes the change when it is laid down. -/
def Planned (B m x st : Nat) (K : ByteArray → World → Prop) (e : Ending) (w1 : World) : Prop :=
  ∃ t, (e = .returned (.tuple #[.string t, .nilFunc]) ∧ ∀ w2, Tch [] w1 w2 → K t w2) ∨
    ∃ f cap, e = .returned (.tuple #[.string t, .func (.func f) #[] cap]) ∧ (∀ args w, (callFunc f args).run Tryz.prog w = .ok (.enter f args) w) ∧ ∀ w2 w3, Tch [] w1 w2 → Fr B TJ w2 w3 → Jn false B m w3 x st → Calls Tryz.prog f cap w3 fun e w' => e = .returned (.tuple #[]) ∧ K t w'
end Go.Proofs.YtbdobaapadlcjaaGreatDoor
