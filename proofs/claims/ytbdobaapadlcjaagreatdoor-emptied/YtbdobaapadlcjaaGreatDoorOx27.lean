import Derived.Test.YtbdobaapadlcjaaGreatDoorOx23
import Derived.Test.YtbdobaapadlcjaaGreatDoorOx26
import Derived.Test.YtbdobaapadlcjaaGreatDoorOx24
namespace Go.Proofs.YtbdobaapadlcjaaGreatDoor
open Go.RowKit
set_option linter.unusedVariables false
set_option linter.unusedSimpArgs false
structure BQ where
  qb : Nat
  V : QV
  Q : QM
def ptZ (Z : Nat → Option BQ) (i : Nat) : Option Nat := (Z i).map BQ.qb
structure SG (B : Nat) (w : World) (st b : Nat) (now : Int) (Z : Nat → Option BQ) (col : Nat → Nat) : Prop where
  stb : Stb w st b now (fun i => ptrV (ptZ Z i))
  tb : Tbl w b
  qr : ∀ i x, i < 8 → Z i = some x → QR w x.qb x.V x.Q
  cl : ∀ i x, i < 8 → Z i = some x → ∀ k ∈ qbl x.qb x.V, col k = i
  lo : ∀ i x, i < 8 → Z i = some x → ∀ k ∈ qbl x.qb x.V, B ≤ k
  ls : B ≤ st
def bqL (Z : Nat → Option BQ) (k : Nat) : List BQ := (List.range k).filterMap Z
theorem qsL_bqL (Z : Nat → Option BQ) (k : Nat) : qsL (ptZ Z) k = (bqL Z k).map BQ.qb := by
  unfold qsL bqL
  rw [List.map_filterMap]
  rfl
theorem bqL_mem {Z : Nat → Option BQ} {k : Nat} {x : BQ} (h : x ∈ bqL Z k) : ∃ i, i < k ∧ Z i = some x := by
  obtain ⟨i, hi, he⟩ := List.mem_filterMap.1 h
  exact ⟨i, List.mem_range.1 hi, he⟩
theorem bqL_len (Z : Nat → Option BQ) (k : Nat) : (bqL Z k).length ≤ k := by
  have := List.length_filterMap_le Z (List.range k)
  simpa [bqL] using this
theorem flt_one {α : Type} (f : α → Value) (l : List α) : (l.flatMap fun x => [f x]) = l.map f := by
  induction l with
  | nil => rfl
  | cons a r ih => rw [List.flatMap_cons, ih]; rfl
def bqB (x : BQ) : List UInt8 := x.Q.c.q :: allB x.Q
def wholeB (now : Int) (Z : Nat → Option BQ) : List UInt8 := lowB now.toNat 4 ++ (bqL Z 8).flatMap bqB
theorem allB_len {Q : QM} (h : QOk Q) : (allB Q).length ≤ 19200 := by
  have h1 := h.lens
  have h2 := setB_length Q.c
  simp only [allB, List.length_append, lowB_length]
  omega
theorem wholeB_len {now : Int} {Z : Nat → Option BQ} (hQ : ∀ i x, i < 8 → Z i = some x → QOk x.Q) : (wholeB now Z).length ≤ 160000 := by
  have h1 := flt_len bqB 19201 (bqL Z 8) (fun x hx => by
    obtain ⟨i, hi, he⟩ := bqL_mem hx
    have h2 := allB_len (hQ i x hi he)
    simp only [bqB, List.length_cons]
    omega)
  have h2 := bqL_len Z 8
  simp only [wholeB, List.length_append, lowB_length]
  omega
theorem SG.tch {B : Nat} {w w' : World} {st b : Nat} {now : Int} {Z : Nat → Option BQ} {col : Nat → Nat} (h : SG B w st b now Z col) (ht : Tch [] w w') : SG B w' st b now Z col :=
  ⟨h.stb.tch ht (by simp), h.tb.tch ht (by simp), fun i x hi hx => (h.qr i x hi hx).tch ht (by simp), h.cl, h.lo, h.ls⟩
theorem SG.fr {B : Nat} {T : List TypeId} {w w' : World} {st b : Nat} {now : Int} {Z : Nat → Option BQ} {col : Nat → Nat} (h : SG B w st b now Z col) (hf : Fr B T w w') (h1 : 156 ∉ T) (h2 : 221 ∉ T) (h3 : ∀ t ∈ TQ, t ∉ T) : SG B w' st b now Z col :=
  ⟨h.stb.fr hf h1, fun i f hi => hf.keep _ _ _ (h.tb i f hi) h2, fun i x hi hx => (h.qr i x hi hx).keep hf h3, h.cl, h.lo, h.ls⟩
set_option maxHeartbeats 2000000 in
theorem whole_any (B st b : Nat) (now : Int) (Z : Nat → Option BQ) (col : Nat → Nat) (w : World) (h : SG B w st b now Z col) (hn : inN now) (hQ : ∀ i x, i < 8 → Z i = some x → QOk x.Q) :
    Calls Tryz.prog 65 #[.pointer (some ⟨st, 0, none⟩)] w fun e w' => e = .returned (.string ⟨(wholeB now Z).toArray⟩) ∧ Tch [] w w' := by
  have c0 := h.stb.now
  have ls := h.stb.lt
  have H1 : Hid (Calls Tryz.prog 91 #[.slice none 0 0, .int .i64 now, .int .i64 4] w fun e w' => ∃ v', e = .returned v' ∧ OwnB w' w.heap.size v' ([] ++ lowB now.toNat 4) ∧ Below w.heap.size w w' ∧ Fr 0 [5] w w') := appendInt_f w.heap.size _ [] now 4 w hn (by decide) (by decide) (Nat.le_refl _) (World.ownsRow_nil _ _ _ _)
  have HST : Hid (∀ W, BF w.heap.size w W → Calls Tryz.prog 93 #[.pointer (some ⟨st, 0, none⟩)] W fun e w' => ∃ v, e = .returned v ∧ w'.ownsRow W.heap.size 152 1 v (bqL Z 8).length ((bqL Z 8).map fun x => .pointer (some ⟨x.qb, 0, none⟩)) ∧ Tch [] W w') := fun W hb => by
    have h1 := there_g st b now (ptZ Z) W (h.stb.tch (Tch.of_below hb.1) (by simp))
    rw [qsL_bqL, List.length_map, List.map_map] at h1
    exact h1
  have HQS : Hid (∀ x ∈ bqL Z 8, QR w x.qb x.V x.Q ∧ QOk x.Q) := fun x hx => by
    obtain ⟨i, hi, he⟩ := bqL_mem hx
    exact ⟨h.qr i x hi he, hQ i x hi he⟩
  have hbl : (bqL Z 8).length ≤ 8 := bqL_len Z 8
  have HWB : Hid (wholeB now Z = ([] ++ lowB now.toNat 4) ++ (bqL Z 8).flatMap bqB) := rfl
  generalize wholeB now Z = WB at HWB
  generalize bqL Z 8 = xs at *
  clear h hQ hn
  go_enter Tryz.func65, Tryz.ntmps65
  go_wp2_with fail
  refine H1.out.mono ?_
  rintro e w1 ⟨v1, rfl, ho1, hb1, hf1⟩
  have HB1 : Hid (BF w.heap.size w w1) := ⟨hb1, hf1⟩
  have hl1 : ([] ++ lowB now.toNat 4).length = 4 := by simp [lowB_length]
  generalize [] ++ lowB now.toNat 4 = L at *
  have HO1 : Hid (OwnB w1 w.heap.size v1 L) := ho1
  have H2 : Hid (Calls Tryz.prog 93 _ w1 _) := HST.out w1 HB1.out
  clear ho1 hb1 hf1 H1 c0
  go_wp2_with fail
  refine H2.out.mono ?_
  rintro e w2 ⟨vt, rfl, hot, ht2⟩
  obtain ⟨ta, tc, rfl⟩ := own_shape' hot
  have HOT : Hid (w2.ownsRow w1.heap.size 152 1 (.slice ta xs.length tc) xs.length (xs.map fun x => .pointer (some ⟨x.qb, 0, none⟩))) := hot
  have HB2 : Hid (BF w.heap.size w w2) := HB1.out.trans ⟨⟨ht2.os, ht2.tape, ht2.output, ht2.size, fun k hk => ht2.block k (by have := HB1.out.size; omega) (by simp)⟩, Fr.of_nil [5] ht2 (Nat.zero_le _)⟩
  have HO2 : Hid (OwnB w2 w.heap.size v1 L) := own_tch HO1.out ht2 (by simp)
  have z1 := HB1.out.size
  have z2 := ht2.size
  clear hot ht2 H2 HST
  go_wp2_with fail
  go_loopw [3, 14] (fun o i wr => ∃ k : Nat, k ≤ xs.length ∧ i = .int .i64 (k : Int) ∧ OwnB wr w.heap.size o (L ++ (xs.take k).flatMap bqB) ∧ BF w.heap.size w wr ∧ wr.ownsRow w1.heap.size 152 1 (.slice ta xs.length tc) xs.length (xs.map fun x => .pointer (some ⟨x.qb, 0, none⟩))) (fun _ i _ => xs.length - (intOf i).toNat)
  case atStart => exact ⟨0, Nat.zero_le _, rfl, by simpa using HO2.out, HB2.out, HOT.out⟩
  case round =>
    obtain ⟨k, hk, rfl, ho, hbr, hrow⟩ := hrel
    by_cases hlt : k < xs.length
    · obtain ⟨hqr, hok⟩ := HQS.out _ (List.getElem_mem hlt)
      have HS : Hid (L ++ (xs.take (k + 1)).flatMap bqB = (L ++ (xs.take k).flatMap bqB) ++ bqB xs[k]) := flt_succ bqB L xs k hlt
      have hle : (L ++ (xs.take k).flatMap bqB).length ≤ 100000000 := by
        rw [List.length_append]
        have h1 := flt_len bqB 19201 (xs.take k) (fun x hx => by
          have h2 := allB_len (HQS.out x (List.mem_of_mem_take hx)).2
          simp only [bqB, List.length_cons]
          omega)
        rw [List.length_take] at h1
        omega
      obtain ⟨g, hg, hgl⟩ : ∃ g, ta = some ⟨g, 0, none⟩ ∧ wr.cell? ⟨g, k, none⟩ = some (.pointer (some ⟨xs[k].qb, 0, none⟩)) := by
        rcases hrow.2 with ⟨h0, h1⟩ | ⟨g, cap, cur, h0, hb0, hg0, h5, h6, h7, h8⟩
        · omega
        · simp only [Value.slice.injEq, true_and] at h0
          obtain ⟨rfl, rfl⟩ := h0
          have inh : Inhabited BQ := ⟨xs[k]⟩
          have hm : wr.ownsRow w1.heap.size 152 1 (.slice (some ⟨g, 0, none⟩) xs.length tc) xs.length (xs.flatMap fun x => [Value.pointer (some ⟨x.qb, 0, none⟩)]) := by
            have e : (xs.flatMap fun x => [Value.pointer (some ⟨x.qb, 0, none⟩)]) = xs.map fun x => .pointer (some ⟨x.qb, 0, none⟩) := flt_one _ xs
            rw [e]
            exact hrow
          have h1 := own_cells (fun x : BQ => [Value.pointer (some ⟨x.qb, 0, none⟩)]) 1 (fun _ => rfl) (own_le hm (Nat.zero_le _)) k hlt 0 (.pointer (some ⟨xs[k].qb, 0, none⟩)) (by rw [List.getElem!_eq_getElem?_getD, List.getElem?_eq_getElem hlt]; rfl)
          exact ⟨g, rfl, by simpa using h1⟩
      subst hg
      have zr := hbr.size
      have H3 : Hid (Calls Tryz.prog 94 #[.pointer (some ⟨xs[k].qb, 0, none⟩), u3] wr fun e w' => ∃ v', e = .returned v' ∧ OwnB w' w.heap.size v' ((L ++ (xs.take k).flatMap bqB) ++ bqB xs[k]) ∧ BF w.heap.size wr w') := append_any w.heap.size u3 _ xs[k].Q xs[k].V xs[k].qb wr (hqr.below hqr.lt hbr.1) hqr.lt hok (by omega) (by omega) ho
      rw [← HS.out] at H3
      have HBR : Hid (BF w.heap.size w wr) := hbr
      have HRW : Hid (wr.ownsRow w1.heap.size 152 1 (.slice (some ⟨g, 0, none⟩) xs.length tc) xs.length (xs.map fun x => .pointer (some ⟨x.qb, 0, none⟩))) := hrow
      have lg := World.block_lt_of_cell? _ _ hgl
      clear hqr hok hle ho hbr hrow
      generalize xs[k].qb = qk at *
      go_wp2_with fail
      refine H3.out.mono ?_
      rintro e w3 ⟨v3, rfl, ho3, hb3⟩
      have HN : Hid (OwnB w3 w.heap.size v3 (L ++ (xs.take (k + 1)).flatMap bqB) ∧ BF w.heap.size w w3 ∧ w3.ownsRow w1.heap.size 152 1 (.slice (some ⟨g, 0, none⟩) xs.length tc) xs.length (xs.map fun x => .pointer (some ⟨x.qb, 0, none⟩))) := ⟨ho3, HBR.out.trans hb3, hb3.2.own HRW.out (by decide)⟩
      clear ho3 hb3 H3
      go_wp2_with fail
      go_roundw
      case rel => exact ⟨k + 1, by omega, by go_num, HN.out.1, HN.out.2.1, HN.out.2.2⟩
      case measure => simp [intOf]; omega
    · have he : xs.take k = xs := List.take_of_length_le (by omega)
      rw [he, ← HWB.out] at ho
      have hwl : 0 < WB.length := by rw [HWB.out, List.length_append]; omega
      have hstr : (convert 74 9 u3).run Tryz.prog wr = .ok (.string ⟨WB.toArray⟩) wr := OwnB.str ho hwl
      have HT : Hid (Tch [] w wr) := Tch.of_below hbr.1
      clear he ho hbr hrow hwl
      go_wp2_with fail
      go_ret
      exact ⟨rfl, HT.out⟩
abbrev TSt : List TypeId := [191, 226, 9, 230, 234, 156]
abbrev TA : List TypeId := [143, 110, 116, 191, 226, 9, 230, 234, 156]
structure FqT (T : List TypeId) (B : Nat) (col : Nat → Nat) (w w' : World) : Prop where
  os : w'.os = w.os
  tape : w'.tape = w.tape
  output : w'.output = w.output
  size : w.heap.size ≤ w'.heap.size
  low : ∀ k : Nat, k < B → w'.heap[k]? = w.heap[k]?
  keep : ∀ (k : Nat) (C : Array Value) (t : TypeId), w.heap[k]? = some (.cells C t (0, 0)) → t ∉ T → w'.heap[k]? = some (.cells C t (0, 0))
  nine : ∀ (k : Nat) (C : Array Value), w.heap[k]? = some (.cells C 9 (0, 0)) → col k = 9 → w'.heap[k]? = some (.cells C 9 (0, 0))
abbrev Fq (B : Nat) (col : Nat → Nat) (w w' : World) : Prop := FqT TSt B col w w'
def Agr (w : World) (c c' : Nat → Nat) : Prop := ∀ k, k < w.heap.size → c' k = c k
theorem Agr.refl (w : World) (c : Nat → Nat) : Agr w c c := fun _ _ => rfl
theorem Agr.trans {a b : World} {c d e : Nat → Nat} (h : Agr a c d) (k : Agr b d e) (hz : a.heap.size ≤ b.heap.size) : Agr a c e := fun x hx => (k x (by omega)).trans (h x hx)
theorem FqT.trans {T : List TypeId} {B : Nat} {c c' : Nat → Nat} {x y z : World} (h : FqT T B c x y) (hc : Agr x c c') (k : FqT T B c' y z) : FqT T B c x z :=
  ⟨k.os.trans h.os, k.tape.trans h.tape, k.output.trans h.output, Nat.le_trans h.size k.size, fun q hq => (k.low q hq).trans (h.low q hq), fun q C t hq ht => k.keep q C t (h.keep q C t hq ht) ht, fun q C hq h9 => k.nine q C (h.nine q C hq h9) ((hc q (lt_of_block hq)).trans h9)⟩
theorem FqT.of_fr {T' : List TypeId} {B : Nat} {T : List TypeId} {c : Nat → Nat} {w w' : World} (h : Fr B T w w') (hT : ∀ t ∈ T, t ∈ T' ∧ t ≠ 9) : FqT T' B c w w' :=
  ⟨h.os, h.tape, h.output, h.size, h.low, fun k C t hk ht => h.keep k C t hk (fun hm => ht (hT t hm).1), fun k C hk _ => h.keep k C 9 hk (fun hm => (hT 9 hm).2 rfl)⟩
theorem FqT.of_nil {T' : List TypeId} {B : Nat} (c : Nat → Nat) {w w' : World} (h : Tch [] w w') (hB : B ≤ w.heap.size) : FqT T' B c w w' := FqT.of_fr (T := []) (Fr.of_nil [] h hB) (by simp)
theorem FqT.below {T : List TypeId} {B : Nat} {c : Nat → Nat} {w w' : World} (h : FqT T B c w w') : Below B w w' := ⟨h.os, h.tape, h.output, h.size, fun k hk => h.low k hk⟩
theorem FqT.of_tch {T : List TypeId} {B : Nat} {c : Nat → Nat} {S : List Nat} {w w' : World} (h : Tch S w w') (hB : B ≤ w.heap.size) (hlow : ∀ k ∈ S, B ≤ k) (hty : ∀ k ∈ S, ∀ (C : Array Value) (t : TypeId), w.heap[k]? = some (.cells C t (0, 0)) → t ∈ T ∧ (t = 9 → c k ≠ 9)) : FqT T B c w w' :=
  ⟨h.os, h.tape, h.output, h.size, fun k hk => h.block k (by omega) (fun hm => by have := hlow k hm; omega), fun k C t hk ht => (h.block k (lt_of_block hk) (fun hm => ht (hty k hm C t hk).1)).trans hk, fun k C hk h9 => (h.block k (lt_of_block hk) (fun hm => (hty k hm C 9 hk).2 rfl h9)).trans hk⟩
theorem FqT.mono {T T' : List TypeId} {B : Nat} {c : Nat → Nat} {w w' : World} (h : FqT T B c w w') (hT : ∀ t ∈ T, t ∈ T') : FqT T' B c w w' :=
  ⟨h.os, h.tape, h.output, h.size, h.low, fun k C t hk ht => h.keep k C t hk (fun hm => ht (hT t hm)), h.nine⟩
theorem ts_ta : ∀ t ∈ TSt, t ∈ TA := by decide
theorem FqT.own {T : List TypeId} {B : Nat} {c : Nat → Nat} {w w' : World} (h : FqT T B c w w') {base size n : Nat} {t : TypeId} {v : Value} {xs : List Value} (ho : w.ownsRow base t size v n xs) (ht : t ∉ T) : w'.ownsRow base t size v n xs := by
  refine ⟨ho.1, ?_⟩
  rcases ho.2 with hn | ⟨g, cap, cur, rfl, hb, hg, rest⟩
  · exact .inl hn
  · exact .inr ⟨g, cap, cur, rfl, hb, h.keep g cur t hg ht, rest⟩
theorem FqT.own9 {T : List TypeId} {B : Nat} {c : Nat → Nat} {w w' : World} (h : FqT T B c w w') {base size n : Nat} {v : Value} {xs : List Value} (ho : w.ownsRow base 9 size v n xs) (h9 : ∀ k, v.ownBlock = some k → c k = 9) : w'.ownsRow base 9 size v n xs := by
  refine ⟨ho.1, ?_⟩
  rcases ho.2 with hn | ⟨g, cap, cur, rfl, hb, hg, rest⟩
  · exact .inl hn
  · exact .inr ⟨g, cap, cur, rfl, hb, h.nine g cur hg (h9 g rfl), rest⟩
def updZ (Z : Nat → Option BQ) (i : Nat) (v : Option BQ) : Nat → Option BQ := fun j => if j = i then v else Z j
theorem updZ_same (Z : Nat → Option BQ) (i : Nat) (v : Option BQ) : updZ Z i v i = v := by simp [updZ]
theorem updZ_ne (Z : Nat → Option BQ) {i j : Nat} (v : Option BQ) (h : j ≠ i) : updZ Z i v j = Z j := by simp [updZ, h]
theorem ptZ_upd (Z : Nat → Option BQ) (i : Nat) (v : Option BQ) (h : v.map BQ.qb = (Z i).map BQ.qb) : ptZ (updZ Z i v) = ptZ Z := by
  funext j
  unfold ptZ updZ
  by_cases e : j = i
  · subst e; simp [h]
  · simp [e]
theorem SG.dis {B : Nat} {w : World} {st b : Nat} {now : Int} {Z : Nat → Option BQ} {col : Nat → Nat} (h : SG B w st b now Z col) {i j : Nat} {x y : BQ} (hi : i < 8) (hj : j < 8) (hx : Z i = some x) (hy : Z j = some y) (hne : i ≠ j) : Apart x.qb x.V y.qb y.V := fun k hk hm => hne ((h.cl i x hi hx k hk).symm.trans (h.cl j y hj hy k hm))
theorem QR.nty {w : World} {qb : Nat} {V : QV} {Q : QM} (h : QR w qb V Q) {k : Nat} {C : Array Value} {t : TypeId} (hk : w.heap[k]? = some (.cells C t (0, 0))) (ht : t ∉ TQ) : k ∉ qbl qb V := fun hm => ht (h.ty k hm C t hk)
theorem tq_ta {t : TypeId} (h : t ∈ TQ) : t ∈ TSt := by
  simp only [TQ, List.mem_cons, List.not_mem_nil, or_false] at h
  rcases h with rfl | rfl | rfl | rfl | rfl <;> decide
theorem SG.upd2 {B : Nat} {w w' : World} {st b : Nat} {now : Int} {Z : Nat → Option BQ} {col : Nat → Nat} (h : SG B w st b now Z col) (hB : B ≤ w.heap.size) {i j : Nat} (hi : i < 8) (hj : j < 8) {x y : BQ} (hx : Z i = some x) (hy : Z j = some y) (hij : i ≠ j) {V' VT' : QV} {Q' T' : QM}
    (hQ : QR w' x.qb V' Q') (hT : QR w' y.qb VT' T') (ht : Tch (qbl x.qb x.V ++ qbl y.qb y.V) w w') (hN : ∀ k ∈ qbl x.qb V', k ∈ qbl x.qb x.V) (hM : ∀ k ∈ qbl y.qb VT', k ∈ qbl y.qb y.V ∨ w.heap.size ≤ k) :
    ∃ col', SG B w' st b now (updZ (updZ Z i (some ⟨x.qb, V', Q'⟩)) j (some ⟨y.qb, VT', T'⟩)) col' ∧ Agr w col col' ∧ Fq B col w w' := by
  have hqx := h.qr i x hi hx
  have hqy := h.qr j y hj hy
  refine ⟨fun k => if k < w.heap.size then col k else j, ⟨?_, ?_, ?_, ?_, ?_, h.ls⟩, fun k hk => by simp [hk], ?_⟩
  · have e : ptZ (updZ (updZ Z i (some ⟨x.qb, V', Q'⟩)) j (some ⟨y.qb, VT', T'⟩)) = ptZ Z := by
      rw [ptZ_upd _ _ _ (by rw [updZ_ne _ _ (Ne.symm hij), hy]; rfl), ptZ_upd _ _ _ (by rw [hx]; rfl)]
    rw [e]
    exact h.stb.tch ht (fun hm => by
      rcases List.mem_append.1 hm with hm | hm
      · exact hqx.nty h.stb (by decide) hm
      · exact hqy.nty h.stb (by decide) hm)
  · exact fun q f hq => (ht.block _ (lt_of_block (h.tb q f hq)) (fun hm => by
      rcases List.mem_append.1 hm with hm | hm
      · exact hqx.nty (h.tb q f hq) (by decide) hm
      · exact hqy.nty (h.tb q f hq) (by decide) hm)).trans (h.tb q f hq)
  · intro q z hq hz
    by_cases e1 : q = j
    · subst e1
      rw [updZ_same] at hz
      injection hz with hz
      subst hz
      exact hT
    · rw [updZ_ne _ _ e1] at hz
      by_cases e2 : q = i
      · subst e2
        rw [updZ_same] at hz
        injection hz with hz
        subst hz
        exact hQ
      · rw [updZ_ne _ _ e2] at hz
        exact (h.qr q z hq hz).tch ht (fun k hk hm => by
          rcases List.mem_append.1 hm with hm | hm
          · exact h.dis hq hi hz hx e2 k hk hm
          · exact h.dis hq hj hz hy e1 k hk hm)
  · intro q z hq hz k hk
    by_cases e1 : q = j
    · subst e1
      rw [updZ_same] at hz
      injection hz with hz
      subst hz
      rcases hM k hk with hm | hm
      · simp [hqy.lt k hm, h.cl q y hj hy k hm]
      · simp [Nat.not_lt.2 hm]
    · rw [updZ_ne _ _ e1] at hz
      by_cases e2 : q = i
      · subst e2
        rw [updZ_same] at hz
        injection hz with hz
        subst hz
        have hm := hN k hk
        simp [hqx.lt k hm, h.cl q x hi hx k hm]
      · rw [updZ_ne _ _ e2] at hz
        simp [(h.qr q z hq hz).lt k hk, h.cl q z hq hz k hk]
  · intro q z hq hz k hk
    by_cases e1 : q = j
    · subst e1
      rw [updZ_same] at hz
      injection hz with hz
      subst hz
      rcases hM k hk with hm | hm
      · exact h.lo q y hj hy k hm
      · omega
    · rw [updZ_ne _ _ e1] at hz
      by_cases e2 : q = i
      · subst e2
        rw [updZ_same] at hz
        injection hz with hz
        subst hz
        exact h.lo q x hi hx k (hN k hk)
      · rw [updZ_ne _ _ e2] at hz
        exact h.lo q z hq hz k hk
  · refine FqT.of_tch ht hB (fun k hk => ?_) (fun k hk C t hC => ?_)
    · rcases List.mem_append.1 hk with hm | hm
      · exact h.lo i x hi hx k hm
      · exact h.lo j y hj hy k hm
    · rcases List.mem_append.1 hk with hm | hm
      · exact ⟨tq_ta (hqx.ty k hm C t hC), fun _ => by rw [h.cl i x hi hx k hm]; omega⟩
      · exact ⟨tq_ta (hqy.ty k hm C t hC), fun _ => by rw [h.cl j y hj hy k hm]; omega⟩
theorem SG.upd {B : Nat} {w w' : World} {st b : Nat} {now : Int} {Z : Nat → Option BQ} {col : Nat → Nat} (h : SG B w st b now Z col) (hB : B ≤ w.heap.size) {i : Nat} (hi : i < 8) {x : BQ} (hx : Z i = some x) {Q' : QM} (hq : QL w w' x.qb x.V Q') :
    ∃ V' col', SG B w' st b now (updZ Z i (some ⟨x.qb, V', Q'⟩)) col' ∧ Agr w col col' ∧ Fq B col w w' ∧ (∀ k ∈ qbl x.qb V', k ∈ qbl x.qb x.V ∨ w.heap.size ≤ k) ∧ Tch (qbl x.qb x.V) w w' := by
  obtain ⟨V', hQ, ht, hN⟩ := hq
  have hqx := h.qr i x hi hx
  refine ⟨V', fun k => if k < w.heap.size then col k else i, ⟨?_, ?_, ?_, ?_, ?_, h.ls⟩, fun k hk => by simp [hk], ?_, hN, ht⟩
  · rw [ptZ_upd _ _ _ (by rw [hx]; rfl)]
    exact h.stb.tch ht (fun hm => hqx.nty h.stb (by decide) hm)
  · exact fun q f hq => (ht.block _ (lt_of_block (h.tb q f hq)) (fun hm => hqx.nty (h.tb q f hq) (by decide) hm)).trans (h.tb q f hq)
  · intro q z hq hz
    by_cases e2 : q = i
    · subst e2
      rw [updZ_same] at hz
      injection hz with hz
      subst hz
      exact hQ
    · rw [updZ_ne _ _ e2] at hz
      exact (h.qr q z hq hz).tch ht (fun k hk hm => h.dis hq hi hz hx e2 k hk hm)
  · intro q z hq hz k hk
    by_cases e2 : q = i
    · subst e2
      rw [updZ_same] at hz
      injection hz with hz
      subst hz
      rcases hN k hk with hm | hm
      · simp [hqx.lt k hm, h.cl q x hi hx k hm]
      · simp [Nat.not_lt.2 hm]
    · rw [updZ_ne _ _ e2] at hz
      simp [(h.qr q z hq hz).lt k hk, h.cl q z hq hz k hk]
  · intro q z hq hz k hk
    by_cases e2 : q = i
    · subst e2
      rw [updZ_same] at hz
      injection hz with hz
      subst hz
      rcases hN k hk with hm | hm
      · exact h.lo q x hi hx k hm
      · omega
    · rw [updZ_ne _ _ e2] at hz
      exact h.lo q z hq hz k hk
  · exact FqT.of_tch ht hB (fun k hk => h.lo i x hi hx k hk) (fun k hk C t hC => ⟨tq_ta (hqx.ty k hk C t hC), fun _ => by rw [h.cl i x hi hx k hk]; omega⟩)
theorem SG.time {B : Nat} {w : World} {st b : Nat} {now : Int} {Z : Nat → Option BQ} {col : Nat → Nat} (h : SG B w st b now Z col) (n : Int) : SG B (w.setCell ⟨st, 0, none⟩ (.int .i64 n)) st b n Z col := by
  have ht : Tch [st] w (w.setCell ⟨st, 0, none⟩ (.int .i64 n)) := (Tch.refl _ _).setCell (fun _ => by simp) _
  refine ⟨h.stb.set0 n, fun q f hq => (ht.block _ (lt_of_block (h.tb q f hq)) (fun hm => ?_)).trans (h.tb q f hq), fun i x hi hx => (h.qr i x hi hx).tch ht (fun k hk hm => ?_), h.cl, h.lo, h.ls⟩
  · simp at hm
    have h1 := h.tb q f hq
    have h2 : w.heap[st]? = _ := h.stb
    rw [hm, h2] at h1
    simp at h1
  · simp at hm
    subst hm
    exact (h.qr i x hi hx).nty h.stb (by decide) hk
theorem SG.timeF {B : Nat} {w : World} {st b : Nat} {now : Int} {Z : Nat → Option BQ} {col : Nat → Nat} (h : SG B w st b now Z col) (hB : B ≤ w.heap.size) (n : Int) (c : Nat → Nat) : Fq B c w (w.setCell ⟨st, 0, none⟩ (.int .i64 n)) := by
  have ht : Tch [st] w (w.setCell ⟨st, 0, none⟩ (.int .i64 n)) := (Tch.refl _ _).setCell (fun _ => by simp) _
  refine FqT.of_tch ht hB (fun k hk => ?_) (fun k hk C t hC => ?_)
  · simp at hk
    subst hk
    exact h.ls
  · simp at hk
    subst hk
    have h2 : w.heap[k]? = _ := h.stb
    rw [h2] at hC
    simp at hC
    rw [← hC.2]
    exact ⟨by decide, fun e => absurd e (by decide)⟩
end Go.Proofs.YtbdobaapadlcjaaGreatDoor
