import Derived.Test.YtbdobaapadlcjaaGreatDoorOx17
import Derived.Lib.ConvBytes
import Derived.Test.YtbdobaapadlcjaaGreatDoorOx08
import Derived.Test.YtbdobaapadlcjaaGreatDoorOx12
import Derived.Test.YtbdobaapadlcjaaGreatDoorOx15
import Derived.Deep.RegionHeld3
import Derived.Shelf.Abstract
import Derived.Shelf.Slices.Cells
import Derived.Lib.SliceRun
namespace Go.Proofs.YtbdobaapadlcjaaGreatDoor
open Go.RowKit
set_option linter.unusedVariables false
set_option linter.unusedSimpArgs false
def Rdb (w : World) (v : Value) (l : List UInt8) : Prop := ∃ g cap, v = .slice (some ⟨g, 0, none⟩) l.length cap ∧ ∀ j u, (bytesV l)[j]? = some u → w.cell? ((⟨g, 0, none⟩ : Addr).add j) = some u
theorem Rdb.of_own {w : World} {base : Nat} {v : Value} {l : List UInt8} (h : OwnB w base v l) (hl : 0 < l.length) : Rdb w v l := by
  have hc := fun g (hg : v.ownBlock = some g) => World.ownsRow.cells h hg
  rcases h.2 with ⟨_, h0⟩ | ⟨g, cap, cur, rfl, _⟩
  · omega
  · exact ⟨g, cap, rfl, hc g rfl⟩
end Go.Proofs.YtbdobaapadlcjaaGreatDoor
namespace Go.Proofs.YtbdobaapadlcjaaGreatDoor
set_option linter.unusedVariables false
set_option linter.unusedSimpArgs false
theorem print_bytes (r : Wp.Rq) (x : Sl) (bs : List ByteArray) (h : rightW r x (Wp.short bs) = true) : printS r x bs = BA (r.op :: encL r bs (Wp.lay (r.op.toNat - 65)) ++ []) ∧ printE r x bs = 0 := by
  rw [List.append_nil]
  exact ⟨by rw [printS, if_pos h]; rfl, by rw [printE, if_pos h]⟩
theorem print_good (r : Wp.Rq) (x : Sl) (bs : List ByteArray) (hw : Wf r) (hxn : x.n = bs.length) (h : rightW r x (Wp.short bs) = true) :
    parseGood (printS r x bs) = true ∧ (endSt (printS r x bs)).r = r ∧ (endSt (printS r x bs)).bs = bs := by
  rw [(print_bytes r x bs h).1]
  refine ⟨good_enc r x bs [] hw hxn h, ?_, ?_⟩
  · rw [(end_enc r x bs [] hw hxn h).1]
  · rw [(end_enc r x bs [] hw hxn h).1]
end Go.Proofs.YtbdobaapadlcjaaGreatDoor
namespace Go.Proofs.YtbdobaapadlcjaaGreatDoor
open Go.RowKit
set_option linter.unusedVariables false
set_option linter.unusedSimpArgs false
theorem zero_str (W : World) (g cap : Nat) (h : W.cell? ⟨g, 0, none⟩ = some (.int .u8 0)) : (convert 74 9 (.slice (some ⟨g, 0, none⟩) 1 cap)).run Tryz.prog W = .ok (.string ⟨#[0]⟩) W := by
  refine run_convert_bytes_back (P := Tryz.prog) W 74 9 5 ⟨g, 0, none⟩ cap [0] Tryz.underlying74 Tryz.underlying5 Tryz.underlying9 ?_
  intro j hj
  have hj0 : j = 0 := by simpa using hj
  subst hj0
  exact h
theorem func_nil2 (fn : Fn) (f c : Array Value) (W : World) : (binOp .eql 1 (.func fn f c) .nilFunc).run Tryz.prog W = .ok (.bool false) W := by kernel_rfl
theorem nil_nil2 (W : World) : (binOp .eql 1 .nilFunc .nilFunc).run Tryz.prog W = .ok (.bool true) W := by kernel_rfl
def laidIn (w : World) (C : Array Value) : World := (w.alloc (.cells (cellsOf (opR 0) (Sl.v ⟨none, 0, 0⟩)) 27)).setRow w.heap.size C
theorem laidIn_heap (w : World) (C : Array Value) : (laidIn w C).heap[w.heap.size]? = some (.cells C 27 (0, 0)) := setRow_heap _ _ _ _ 27 (0, 0) (heap_alloc_new _ _)
theorem laidIn_tch (w : World) (C : Array Value) : Tch [] w (laidIn w C) := ((Tch.refl _ _).alloc _).setRow (fun h => absurd h (Nat.lt_irrefl _)) _
theorem laidIn_is (w : World) (C : Array Value) : (w.alloc (.cells #[.int .u8 0, .int .u8 0, .int .u8 0, .int .i64 0, .int .i64 0, .int .i64 0, .int .i64 0, .int .i64 0, .int .i64 0, .string ⟨#[]⟩, .string ⟨#[]⟩, .string ⟨#[]⟩, .string ⟨#[]⟩, .string ⟨#[]⟩, .slice none 0 0] 27)).setRow w.heap.size C = laidIn w C := rfl
theorem parse_good (B : Nat) (s : ByteArray) (r : Wp.Rq) (w : World) (hs : s.size ≤ maxLen) (hL : Lays B w) (hBw : B ≤ w.heap.size) (hg : parseGood s = true) (hr : (endSt s).r = r) :
    Calls Tryz.prog 60 #[.string s] w fun e w' => ∃ y : Sl, e = .returned (.tuple #[.agg (cellsOf r y.v), .int .i64 0]) ∧ Below w.heap.size w w' := by
  refine (parse_any B s w hs hL hBw).mono ?_
  rintro e w' ⟨h | h, hb⟩
  · obtain ⟨_, y, he, _⟩ := h
    exact ⟨y, by rw [he, hr], hb⟩
  · rw [hg] at h
    exact absurd h.1 (by decide)
def Planned (B m x st : Nat) (K : ByteArray → World → Prop) (e : Ending) (w1 : World) : Prop :=
  ∃ t, (e = .returned (.tuple #[.string t, .nilFunc]) ∧ ∀ w2, Tch [] w1 w2 → K t w2) ∨
    ∃ f cap, e = .returned (.tuple #[.string t, .func (.func f) #[] cap]) ∧ (∀ args w, (callFunc f args).run Tryz.prog w = .ok (.enter f args) w) ∧ ∀ w2 w3, Tch [] w1 w2 → Fr B TJ w2 w3 → Jn false B m w3 x st → Calls Tryz.prog f cap w3 fun e w' => e = .returned (.tuple #[]) ∧ K t w'
abbrev nil0 : Sl := ⟨none, 0, 0⟩
theorem strs0 (W : World) : Strs W none [] := by
  simp [Strs]
set_option maxHeartbeats 400000 in
theorem asked_walk (K : ByteArray → World → Prop) (B : Nat) (r : Wp.Rq) (x : Nat) (w : World) (hright : rightW r nil0 (Wp.short []) = true) (hL : Lays B w) (hBw : B ≤ w.heap.size)
    (hD : ∀ W, Below w.heap.size w W → Calls Tryz.prog 34 #[.pointer (some ⟨x, 0, none⟩), .string (printS r nil0 [])] W fun e w' => ∃ t, e = .returned (.string t) ∧ K t w') :
    Calls Tryz.prog 18 #[.pointer (some ⟨x, 0, none⟩), .agg (cellsOf r nil0.v)] w fun e w' => ∃ t, e = .returned (.string t) ∧ K t w' := by
  have hE := (print_bytes r nil0 [] hright).2
  have HD : Hid (∀ W, _) := hD
  have HP : Hid (∀ W, Below w.heap.size w W → Calls Tryz.prog 33 #[.agg (cellsOf r nil0.v)] W fun e w' => e = .returned (.tuple #[.string (printS r nil0 []), .int .i64 0]) ∧ Below W.heap.size W w') := fun W hb => by
    have h := wharf_print B r nil0 [] W rfl (Nat.zero_le _) (hL.below (hb.mono hBw)) (by have := hb.size; omega) (strs0 W)
    rw [hE] at h
    exact h
  have HCS : Hid ((Tryz.prog.info? 27).map (·.size) = some (cellsOf r nil0.v).size) := info37
  clear hD hE hright hL
  generalize cellsOf r nil0.v = C at *
  generalize printS r nil0 [] = T at *
  go_enter Tryz.func18, Tryz.ntmps18
  go_wp2_with (first | (refine wpList_load_row rfl 27 _ rfl w.heap.size rfl 27 C (0, 0) _ (heap_alloc_new _ _) Tryz.underlying27 rfl HCS.out ?_) | (go_at_call 33; refine (HP.out _ ((Below.refl _ _).alloc (Nat.le_refl _) _)).mono ?_; rintro e w1 ⟨rfl, hb⟩) | (go_at_call 34; refine (HD.out _ (((Below.refl _ _).alloc (Nat.le_refl _) _).trans (hb.mono (by simp)))).mono ?_; rintro e w2 ⟨t, rfl, hk⟩))
  go_ret
  exact ⟨_, rfl, by assumption⟩
set_option maxHeartbeats 400000 in
theorem create_walk (K : World → Prop) (B : Nat) (r : Wp.Rq) (x : Nat) (w : World) (hright : rightW r nil0 (Wp.short []) = true) (hL : Lays B w) (hBw : B ≤ w.heap.size)
    (hD : ∀ W, Below w.heap.size w W → Calls Tryz.prog 34 #[.pointer (some ⟨x, 0, none⟩), .string (printS r nil0 [])] W fun e w' => e = .returned (.string ⟨#[0]⟩) ∧ K w') :
    Calls Tryz.prog 25 #[.pointer (some ⟨x, 0, none⟩), .agg (cellsOf r nil0.v)] w fun e w' => e = .returned (.bool true) ∧ K w' := by
  have HA : Hid (∀ W, Below w.heap.size w W → Calls Tryz.prog 18 #[.pointer (some ⟨x, 0, none⟩), .agg (cellsOf r nil0.v)] W fun e w' => e = .returned (.string ⟨#[0]⟩) ∧ K w') := fun W hb => by
    refine (asked_walk (fun t w' => t = ⟨#[0]⟩ ∧ K w') B r x W hright (hL.below (hb.mono hBw)) (by have := hb.size; omega) ?_).mono ?_
    · intro W' hb'
      refine (hD W' (hb.trans (hb'.mono hb.size))).mono ?_
      rintro e w' ⟨rfl, hk⟩
      exact ⟨_, rfl, rfl, hk⟩
    · rintro e w' ⟨t, rfl, rfl, hk⟩
      exact ⟨rfl, hk⟩
  have HCS : Hid ((Tryz.prog.info? 27).map (·.size) = some (cellsOf r nil0.v).size) := info37
  clear hD hright hL
  generalize cellsOf r nil0.v = C at *
  go_enter Tryz.func25, Tryz.ntmps25
  go_wp2_with (first | (refine wpList_load_row rfl 27 _ rfl w.heap.size rfl 27 C (0, 0) _ (heap_alloc_new _ _) Tryz.underlying27 rfl HCS.out ?_) | (go_at_call 18; refine (HA.out _ ((Below.refl _ _).alloc (Nat.le_refl _) _)).mono ?_; rintro e w1 ⟨rfl, hk⟩))
  go_ret
  exact ⟨rfl, by assumption⟩
abbrev newQ (r : Wp.Rq) : Array Value := qC r 1 (.slice none 0 0) (.slice none 0 0) (.slice none 0 0) (.slice none 0 0)
abbrev TB : List TypeId := [143, 110, 116, 156, 191, 226, 230, 9]
theorem Lays.fr {B : Nat} {T : List TypeId} {w w' : World} (h : Lays B w) (hf : Fr B T w w') : Lays B w' := h.below hf.below
theorem Tab.fr {B : Nat} {T : List TypeId} {w w' : World} (h : Tab w) (hf : Fr B T w w') (h3 : 3 ≤ B) : Tab w' := h.below (B := 3) (hf.below.mono h3) (by decide)
theorem Fr.one {B : Nat} {T : List TypeId} {w w' : World} {st : Nat} {C : Array Value} {t : TypeId} (ht : Tch [st] w w') (hB : B ≤ w.heap.size) (hlo : B ≤ st) (hst : w.heap[st]? = some (.cells C t (0, 0))) (hT : t ∈ T) : Fr B T w w' :=
  Fr.of_tch ht hB (by simpa using hlo) (fun k hk C' t' h => by
    simp at hk
    subst hk
    rw [hst] at h
    simp at h
    rw [← h.2]
    exact hT)
theorem encF_l0 (r : Wp.Rq) (bs : List ByteArray) (f : Nat) (h : Wp.shape f = 0) : (encF r bs f).length = 1 := by unfold encF; rw [if_pos h]; rfl
theorem encF_l1 (r : Wp.Rq) (bs : List ByteArray) (f : Nat) (h : Wp.shape f = 1) : (encF r bs f).length = 1 := by
  unfold encF
  rw [if_neg (by rw [h]; decide), if_pos h, lowB_length]
theorem encF_l2 (r : Wp.Rq) (bs : List ByteArray) (f : Nat) (h : Wp.shape f = 2) : (encF r bs f).length = 2 := by
  unfold encF
  rw [if_neg (by rw [h]; decide), if_neg (by rw [h]; decide), if_pos h, lowB_length]
theorem encF_l3 (r : Wp.Rq) (bs : List ByteArray) (f : Nat) (h : Wp.shape f = 3) : (encF r bs f).length = 1 + (r.txt f).size := by
  unfold encF
  rw [if_neg (by rw [h]; decide), if_neg (by rw [h]; decide), if_neg (by rw [h]; decide), if_pos h, txtB_length]
theorem small_C (r : Wp.Rq) (hright : rightW r nil0 (Wp.short []) = true) (hop : r.op = 67) : (printS r nil0 []).size ≤ 300 := by
  rw [(print_bytes r nil0 [] hright).1, BA_size, List.append_nil, List.length_cons, show Wp.lay (r.op.toNat - 65) = [0, 2, 3, 4, 1, 5] by rw [hop]; rfl]
  simp only [encL, List.flatMap_cons, List.flatMap_nil, List.length_append, List.length_nil]
  rw [encF_l0 _ _ 0 rfl, encF_l2 _ _ 2 rfl, encF_l2 _ _ 3 rfl, encF_l1 _ _ 4 rfl, encF_l0 _ _ 1 rfl, encF_l1 _ _ 5 rfl]
  decide
theorem small_T (r : Wp.Rq) (hright : rightW r nil0 (Wp.short []) = true) (hop : r.op = 84) : (printS r nil0 []).size ≤ 300 := by
  rw [(print_bytes r nil0 [] hright).1, BA_size, List.append_nil, List.length_cons, show Wp.lay (r.op.toNat - 65) = [8] by rw [hop]; rfl]
  simp only [encL, List.flatMap_cons, List.flatMap_nil, List.length_append, List.length_nil]
  rw [encF_l2 _ _ 8 rfl]
  decide
theorem small_S (r : Wp.Rq) (hright : rightW r nil0 (Wp.short []) = true) (hop : r.op = 83) (h1 : r.grp.size ≤ 20) (h2 : r.ded.size ≤ 20) (h3 : r.bod.size ≤ 200) : (printS r nil0 []).size ≤ 300 := by
  rw [(print_bytes r nil0 [] hright).1, BA_size, List.append_nil, List.length_cons, show Wp.lay (r.op.toNat - 65) = [0, 9, 10, 11] by rw [hop]; rfl]
  simp only [encL, List.flatMap_cons, List.flatMap_nil, List.length_append, List.length_nil]
  rw [encF_l0 _ _ 0 rfl, encF_l3 _ _ 9 rfl, encF_l3 _ _ 10 rfl, encF_l3 _ _ 11 rfl]
  show 1 + (1 + r.grp.size + (1 + r.ded.size + (1 + r.bod.size + 0))) + 1 ≤ 300
  omega
theorem flat_set {α : Type} (row : α → List Value) (k : Nat) (hk : ∀ x, (row x).length = k) (l : List α) (i j : Nat) (v : Value) (x' : α) (hi : i < l.length) (hj : j < k) (hx : row x' = (row l[i]).set j v) : (l.flatMap row).set (i * k + j) v = (l.set i x').flatMap row := by
  induction l generalizing i with
  | nil => simp at hi
  | cons x l ih =>
    cases i with
    | zero =>
      rw [List.set_cons_zero, List.flatMap_cons, List.flatMap_cons, Nat.zero_mul, Nat.zero_add, List.set_append_left _ _ (by rw [hk]; exact hj), hx]
      rfl
    | succ i =>
      have e : (i + 1) * k + j = (row x).length + (i * k + j) := by rw [hk, Nat.add_mul, Nat.one_mul]; omega
      rw [List.set_cons_succ, List.flatMap_cons, List.flatMap_cons, e, List.set_append_right _ _ (by omega), Nat.add_sub_cancel_left, ih i (by simpa using hi) hx]
def flyM (til : Int) (m : Ms) : Ms := { m with rcv := (oft m.rcv.toNat : Nat), til := til }
def flyAt (til : Int) (ms : List Ms) (z : Int) : List Ms := match ms[z.toNat]? with
  | some m => ms.set z.toNat (flyM til m)
  | none => ms
def flyAll (til : Int) (ms : List Ms) (zs : List Int) : List Ms := zs.foldl (flyAt til) ms
theorem flyAt_len (til : Int) (ms : List Ms) (z : Int) : (flyAt til ms z).length = ms.length := by
  unfold flyAt; split <;> simp
theorem flyAll_len (til : Int) (ms : List Ms) (zs : List Int) : (flyAll til ms zs).length = ms.length := by
  unfold flyAll
  induction zs generalizing ms with
  | nil => rfl
  | cons z zs ih => rw [List.foldl_cons, ih, flyAt_len]
theorem flyM_ok (til : Int) (m : Ms) (h : MsOk m) : MsOk (flyM til m) := ⟨h.num, ⟨by show (0 : Int) ≤ ((oft m.rcv.toNat : Nat) : Int); omega, by show ((oft m.rcv.toNat : Nat) : Int) ≤ 65535; have := oft_le m.rcv.toNat; omega⟩, h.grp, h.bod⟩
theorem flyAt_ok (til : Int) (ms : List Ms) (z : Int) (h : ∀ m ∈ ms, MsOk m) : ∀ m ∈ flyAt til ms z, MsOk m := by
  unfold flyAt
  split
  · rename_i m hm
    intro x hx
    rcases List.mem_or_eq_of_mem_set hx with hx | hx
    · exact h x hx
    · rw [hx]; exact flyM_ok til m (h m (List.mem_of_getElem? hm))
  · exact h
theorem flyAll_ok (til : Int) (ms : List Ms) (zs : List Int) (h : ∀ m ∈ ms, MsOk m) : ∀ m ∈ flyAll til ms zs, MsOk m := by
  unfold flyAll
  induction zs generalizing ms with
  | nil => exact h
  | cons z zs ih => rw [List.foldl_cons]; exact ih _ (flyAt_ok til ms z h)
structure Cap (wr : World) (qb : Nat) (CC : Array Value) (cnt g0 gc ga base : Nat) (til : Int) (hds : List Int) (av : Value) (ans : List UInt8) : Prop where
  hgq : wr.heap[g0]? = some (.cells #[.pointer (some ⟨qb, 0, none⟩)] 152 (0, 0))
  hgr : wr.heap[g0 + 1]? = some (.cells CC 27 (0, 0))
  hgc : wr.heap[gc]? = some (.cells #[.int .i64 (cnt : Int)] 3 (0, 0))
  hga : wr.heap[ga]? = some (.cells #[av] 74 (0, 0))
  hgu : wr.heap[ga + 1]? = some (.cells #[.int .i64 til] 3 (0, 0))
  hhb : wr.heap[ga + 1 + 1]? = some (.cells (intRow hds cnt) 3 (0, 0))
  hgh : wr.heap[ga + 1 + 1 + 1]? = some (.cells #[.slice (some ⟨ga + 1 + 1, 0, none⟩) cnt cnt] 258 (0, 0))
  own : OwnB wr base av ans
theorem RcI.cap {w wr : World} {qb : Nat} {V : QV} {Q : QM} {CC : Array Value} {cnt gc ga base : Nat} {til : Int} {kh ka : Nat} {av : Value} (h : RcI w wr qb V Q CC cnt gc ga base til kh ka av) : Cap wr qb CC cnt w.heap.size gc ga base til (hdsL Q kh) av (ansL Q cnt ka) :=
  ⟨h.hgq, h.hgr, h.hgc, h.hga, h.hgu, h.hhb, h.hgh, h.own⟩
theorem Cap.keep {B : Nat} {T : List TypeId} {w w' : World} {qb : Nat} {CC : Array Value} {cnt g0 gc ga base : Nat} {til : Int} {hds : List Int} {av : Value} {ans : List UInt8} (h : Cap w qb CC cnt g0 gc ga base til hds av ans) (hf : Fr B T w w') (hT : ∀ t ∈ [152, 27, 3, 74, 258, 5], t ∉ T) : Cap w' qb CC cnt g0 gc ga base til hds av ans :=
  ⟨hf.keep _ _ _ h.hgq (hT _ (by decide)), hf.keep _ _ _ h.hgr (hT _ (by decide)), hf.keep _ _ _ h.hgc (hT _ (by decide)), hf.keep _ _ _ h.hga (hT _ (by decide)), hf.keep _ _ _ h.hgu (hT _ (by decide)), hf.keep _ _ _ h.hhb (hT _ (by decide)), hf.keep _ _ _ h.hgh (hT _ (by decide)), hf.own h.own (hT _ (by decide))⟩
theorem QR.setM {w : World} {qb : Nat} {V : QV} {Q : QM} (h : QR w qb V Q) {gm cm : Nat} (hvm : V.m = .slice (some ⟨gm, 0, none⟩) Q.ms.length cm) (i j : Nat) (v : Value) (x' : Ms) (hi : i < Q.ms.length) (hj : j < 5) (hx : x'.row = (Q.ms[i]).row.set j v) :
    QR (w.setCell ⟨gm, i * 5 + j, none⟩ v) qb V { Q with ms := Q.ms.set i x' } ∧ Tch [gm] w (w.setCell ⟨gm, i * 5 + j, none⟩ v) ∧ Fr 0 [226] w (w.setCell ⟨gm, i * 5 + j, none⟩ v) := by
  have t1 : Tch [gm] w (w.setCell ⟨gm, i * 5 + j, none⟩ v) := (Tch.refl _ _).setCell (fun _ => by simp) _
  have hm := h.m
  rw [hvm] at hm
  obtain ⟨C, hC⟩ : ∃ C, w.heap[gm]? = some (.cells C 226 (0, 0)) := by
    rcases hm.2 with ⟨e, _⟩ | ⟨g', cap', cur, e, _, hr, _⟩
    · simp at e
    · simp at e
      obtain ⟨e1, _⟩ := e
      subst e1
      exact ⟨_, hr⟩
  have hf : Fr 0 [226] w (w.setCell ⟨gm, i * 5 + j, none⟩ v) := Fr.one t1 (Nat.zero_le _) (Nat.zero_le _) hC (by decide)
  refine ⟨⟨hf.keep _ _ _ h.blk (by decide), ?_, hf.own h.r (by decide), hf.own h.d (by decide), hf.own h.a (by decide)⟩, t1, hf⟩
  have h2 := (World.ownsRow.stored hm (i * 5 + j) v).1
  show World.ownsRow _ 0 226 5 V.m (Q.ms.set i x').length ((Q.ms.set i x').flatMap Ms.row)
  rw [hvm, List.length_set, ← flat_set Ms.row 5 (fun _ => rfl) Q.ms i j v x' hi hj hx]
  exact h2
end Go.Proofs.YtbdobaapadlcjaaGreatDoor
namespace Go.Proofs.YtbdobaapadlcjaaGreatDoor
open Go.Shelf Go.RowKit Go.Lib
set_option linter.unusedVariables false
set_option linter.unusedSimpArgs false
def l214_ren : Go.Shelf.Ren := ⟨fun | 24 => 214 | n => n, fun | 24 => 25 | 9 => 9 | 3 => 3 | 0 => 0 | 4 => 4 | n => n, fun | n => n⟩
theorem l214 : Go.Proofs.Lays2.n24 Tryz.prog l214_ren := {
  mixed := by kernel_rfl
  f24 := Tryz.func214.trans (congrArg some (by kernel_rfl))
  t0 := Tryz.underlying0
  a0 := Tryz.isAgg0
  z0 := Tryz.sizeOf0
  v0 := Tryz.zeroValue0
  t3 := Tryz.underlying3
  a3 := Tryz.isAgg3
  z3 := Tryz.sizeOf3
  v3 := Tryz.zeroValue3
  t4 := Tryz.underlying4
  a4 := Tryz.isAgg4
  z4 := Tryz.sizeOf4
  v4 := Tryz.zeroValue4
  t9 := Tryz.underlying9
  a9 := Tryz.isAgg9
  z9 := Tryz.sizeOf9
  v9 := Tryz.zeroValue9
  t24 := Tryz.underlying25
  a24 := Tryz.isAgg25
  z24 := Tryz.sizeOf25
  v24 := Tryz.zeroValue25
  i9 := by kernel_rfl }
def putMany : List Value → Nat → List Value → List Value
  | xs, _, [] => xs
  | xs, o, v :: r => putMany (xs.set o v) (o + 1) r
theorem own_setCells {base e size n cap g : Nat} : ∀ (vs : List Value) (o : Nat) (w : World) (xs : List Value), w.ownsRow base e size (.slice (some ⟨g, 0, none⟩) n cap) n xs → (w.setCells g o vs).ownsRow base e size (.slice (some ⟨g, 0, none⟩) n cap) n (putMany xs o vs)
  | [], _, _, _, h => h
  | v :: r, o, w, xs, h => own_setCells r (o + 1) _ _ (World.ownsRow.stored h o v).1
theorem putMany_all (pre xs vs : List Value) (h : xs.length = vs.length) : putMany (pre ++ xs) pre.length vs = pre ++ vs := by
  induction vs generalizing pre xs with
  | nil =>
    have : xs = [] := List.length_eq_zero_iff.1 h
    simp [putMany, this]
  | cons v r ih =>
    cases xs with
    | nil => simp at h
    | cons x xs =>
      simp only [putMany]
      rw [List.set_append_right _ _ (Nat.le_refl _), Nat.sub_self, List.set_cons_zero]
      have e1 : pre ++ v :: xs = (pre ++ [v]) ++ xs := by simp
      have e2 : pre.length + 1 = (pre ++ [v]).length := by simp
      rw [e1, e2, ih (pre ++ [v]) xs (by simpa using h)]
      simp
theorem tch_setCells (g : Nat) : ∀ (vs : List Value) (o : Nat) (w : World), Tch [g] w (w.setCells g o vs)
  | [], _, w => Tch.refl _ _
  | v :: r, o, w => ((Tch.refl [g] w).setCell (fun _ => by simp) v).trans (tch_setCells g r (o + 1) _) (fun _ h _ => h)
theorem own_cut {w : World} {base e size n n' cap g : Nat} {xs : List Value} (h : w.ownsRow base e size (.slice (some ⟨g, 0, none⟩) n cap) n xs) (hn : n' ≤ n) : w.ownsRow base e size (.slice (some ⟨g, 0, none⟩) n' cap) n' (xs.take (n' * size)) := by
  have hle : n' * size ≤ n * size := Nat.mul_le_mul_right _ hn
  refine ⟨by rw [List.length_take, h.1]; omega, ?_⟩
  rcases h.2 with ⟨h', _⟩ | ⟨g', cap', cur, h', hb, hg, hnc, hcm, hcs, htake⟩
  · simp at h'
  · simp only [Value.slice.injEq, Option.some.injEq, Addr.mk.injEq, and_true, true_and] at h'
    obtain ⟨rfl, rfl⟩ := h'
    refine .inr ⟨g, cap, cur, rfl, hb, hg, by omega, hcm, hcs, ?_⟩
    rw [← htake, List.take_take, Nat.min_eq_left hle]
theorem delete_ready (rs : List ByteArray) (g c cnt : Nat) (w : World) (ho : w.ownsRow 0 9 1 (.slice (some ⟨g, 0, none⟩) rs.length c) rs.length (rs.map Value.string)) (hc : cnt ≤ rs.length) :
    Calls Tryz.prog 214 #[.slice (some ⟨g, 0, none⟩) rs.length c, .int .i64 0, .int .i64 (cnt : Int)] w fun e w' => e = .returned (.slice (some ⟨g, 0, none⟩) (rs.length - cnt) c) ∧ w'.ownsRow 0 9 1 (.slice (some ⟨g, 0, none⟩) (rs.length - cnt) c) (rs.length - cnt) ((rs.drop cnt).map Value.string) ∧ Tch [g] w w' := by
  obtain ⟨hnc, hcm, hrow⟩ : rs.length ≤ c ∧ c ≤ maxLen ∧ ∃ cur, w.heap[g]? = some (.cells cur 9 (0, 0)) := by
    rcases ho.2 with ⟨h', _⟩ | ⟨g', cap', cur, h', hb, hg, hnc, hcm, hcs, htake⟩
    · simp at h'
    · simp only [Value.slice.injEq, Option.some.injEq, Addr.mk.injEq, and_true, true_and] at h'
      obtain ⟨rfl, rfl⟩ := h'
      exact ⟨hnc, hcm, cur, hg⟩
  obtain ⟨cur, hrow⟩ := hrow
  have hcell : ∀ i, i < rs.length → w.cell? ⟨g, 0 + i, none⟩ = some (.string (rs.getD i ⟨#[]⟩)) := fun i hi => by
    have h1 := World.ownsRow.cells ho (g := g) rfl i (.string (rs.getD i ⟨#[]⟩)) (by simp [hi])
    have e2 : (⟨g, 0, none⟩ : Addr).add i = ⟨g, 0 + i, none⟩ := by unfold Addr.add; split <;> simp_all
    rw [e2] at h1
    exact h1
  refine (Any.slices_Delete_string_cells l214 g 0 rs.length c 0 cnt (fun i => rs.getD i ⟨#[]⟩) w hnc (by unfold maxLen at hcm; omega) (Nat.zero_le _) hc hcell (fun j hj => frozen_of_row w g _ cur 9 hrow)).mono ?_
  rintro e w' ⟨rfl, q, rfl⟩
  have hst : Lib.strsOf (fun i => rs.getD i ⟨#[]⟩) rs.length = rs.map (fun s => s.data.toList) := by
    apply List.ext_getElem
    · simp [Lib.strsOf]
    · intro i h1 h2
      simp [Lib.strsOf] at h1 ⊢
      simp [h1]
  have hw : (w.drewN q).ownsRow 0 9 1 (.slice (some ⟨g, 0, none⟩) rs.length c) rs.length (rs.map Value.string) := ho
  have t1 : Tch [] w (w.drewN q) := (Tch.refl [] w).drewN q
  refine ⟨rfl, ?_, (t1.sub (by simp)).trans (tch_setCells g _ 0 _) (fun _ h _ => h)⟩
  have h2 := own_setCells ((((Lib.strsOf (fun i => rs.getD i ⟨#[]⟩) rs.length).take 0 ++ (Lib.strsOf (fun i => rs.getD i ⟨#[]⟩) rs.length).drop cnt ++ List.replicate (cnt - 0) []).map encStr)) 0 (w.drewN q) _ hw
  have e1 : putMany (rs.map Value.string) 0 ((((Lib.strsOf (fun i => rs.getD i ⟨#[]⟩) rs.length).take 0 ++ (Lib.strsOf (fun i => rs.getD i ⟨#[]⟩) rs.length).drop cnt ++ List.replicate (cnt - 0) []).map encStr)) = (((Lib.strsOf (fun i => rs.getD i ⟨#[]⟩) rs.length).take 0 ++ (Lib.strsOf (fun i => rs.getD i ⟨#[]⟩) rs.length).drop cnt ++ List.replicate (cnt - 0) []).map encStr) := by
    have h3 := putMany_all [] (rs.map Value.string) (((Lib.strsOf (fun i => rs.getD i ⟨#[]⟩) rs.length).take 0 ++ (Lib.strsOf (fun i => rs.getD i ⟨#[]⟩) rs.length).drop cnt ++ List.replicate (cnt - 0) []).map encStr) (by simp [Lib.strsOf_length]; omega)
    simpa using h3
  rw [e1] at h2
  have h4 := own_cut h2 (n' := rs.length - cnt) (by omega)
  have e2 : ((((Lib.strsOf (fun i => rs.getD i ⟨#[]⟩) rs.length).take 0 ++ (Lib.strsOf (fun i => rs.getD i ⟨#[]⟩) rs.length).drop cnt ++ List.replicate (cnt - 0) []).map encStr)).take ((rs.length - cnt) * 1) = (rs.drop cnt).map Value.string := by
    rw [hst]
    simp only [List.take_zero, List.nil_append, Nat.mul_one, List.map_append]
    rw [List.take_append_of_le_length (by simp), List.take_of_length_le (by simp)]
    have e3 : (rs.map (fun s => s.data.toList)).map encStr = rs.map Value.string := by
      rw [List.map_map]
      apply List.map_congr_left
      intro s _
      cases s
      simp [encStr]
    rw [List.map_drop, e3, List.map_drop]
  rw [e2] at h4
  exact h4
theorem eg241 : ∀ args w, (callFunc 294 args).run Tryz.prog w = .ok (.enter 294 args) w := enters_of Tryz.func294 (by kernel_rfl) rfl
theorem del_pred (now : Int) (B : Nat) (w : World) (hB : B < w.heap.size) (hcell : w.cell? ⟨B, 0, none⟩ = some (.int .i64 now)) :
    PredBelow Tryz.prog 294 #[.pointer (some ⟨B, 0, none⟩)] (fun x : Dd => .agg x.row.toArray) (fun x => decide (x.til ≤ now)) w := fun W x hb => by
  have hc : W.cell? ⟨B, 0, none⟩ = some (.int .i64 now) := (hb.cell (p := ⟨B, 0, none⟩) hB).trans hcell
  have hBW : B < W.heap.size := Nat.lt_of_lt_of_le hB hb.size
  have hne : B ≠ W.heap.size := by omega
  show Calls Tryz.prog 294 #[.agg #[.string x.id, .int .i64 x.num, .int .i64 x.til], .pointer (some ⟨B, 0, none⟩)] W _
  go_enter Tryz.func294, Tryz.ntmps294
  go_wp2
  all_goals (go_ret; exact ⟨by simp_all, hb.alloc hb.size _⟩)
end Go.Proofs.YtbdobaapadlcjaaGreatDoor
