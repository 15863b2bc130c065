import Derived.Test.YtbdobaapadlcjaaGreatDoorOx41
namespace Go.Proofs.YtbdobaapadlcjaaGreatDoor
open Go.RowKit
set_option linter.unusedVariables false
set_option linter.unusedSimpArgs false
theorem OL.out {B : Nat} {w0 w w' : World} {x st b lb : Nat} {now now' : Int} {c c' : Nat → Option QM} {cq : Wp.Rq} {sv tv : Value} {ss : List Sn} {hs : List ByteArray} (h : OL B w0 w x st b lb now c cq sv tv ss hs) {col : Nat → Nat} (hc : ∀ k, tv.ownBlock = some k → col k = 9) (hd : Did B x st b w col now' c' w') : (∃ col', Bk B w' x st b now' c' col' ∧ ∀ k, tv.ownBlock = some k → col' k = 9) ∧ Lr w' lb x cq now sv tv ss hs ∧ Env B w' ∧ Below B w0 w' := by
  have hE := hd.env h.env
  obtain ⟨col', h1, h2, h3⟩ := hd
  exact ⟨⟨col', h1, fun k hk => (h2 k (own_lt h.lr.tow hk)).trans (hc k hk)⟩, ⟨h3.keep _ _ _ h.lr.ln (by decide), h3.own h.lr.row (by decide), h3.own9 h.lr.tow hc⟩, hE, h.bel.trans h3.below⟩
def tickS (t : Int) (s : Sn) : Sn := if s.til ≤ t then { s with fl := false } else s
theorem Lr.now {w : World} {lb x : Nat} {c : Wp.Rq} {now : Int} {sv tv : Value} {ss : List Sn} {hs : List ByteArray} (h : Lr w lb x c now sv tv ss hs) (t : Int) : Lr (w.setCell ⟨lb, 16, none⟩ (.int .i64 t)) lb x c t sv tv ss hs ∧ Tch [lb] w (w.setCell ⟨lb, 16, none⟩ (.int .i64 t)) := by
  have t1 : Tch [lb] w (w.setCell ⟨lb, 16, none⟩ (.int .i64 t)) := (Tch.refl _ _).setCell (fun _ => by simp) _
  refine ⟨⟨heap_setCell_same w lb 16 _ 42 _ h.ln, own_tch h.row t1 (fun j hj hm' => ?_), own_tch h.tow t1 (fun j hj hm' => ?_)⟩, t1⟩
  · simp at hm'
    subst hm'
    exact own_ne h.row h.ln (by decide) hj
  · simp at hm'
    subst hm'
    exact own_ne h.tow h.ln (by decide) hj
theorem Lr.rowB {w : World} {lb x : Nat} {c : Wp.Rq} {now : Int} {g n sc : Nat} {tv : Value} {ss : List Sn} {hs : List ByteArray} (h : Lr w lb x c now (.slice (some ⟨g, 0, none⟩) n sc) tv ss hs) : ∃ C, w.heap[g]? = some (.cells C 53 (0, 0)) := by
  rcases h.row.2 with ⟨e, _⟩ | ⟨g', cap', cur, e, _, hr, _⟩
  · simp at e
  · simp at e
    obtain ⟨e1, _⟩ := e
    subst e1
    exact ⟨_, hr⟩
def Part (f : Sn → Sn) (ss L : List Sn) (k : Nat) : Prop := L.length = ss.length ∧ ∀ j s, ss[j]? = some s → L[j]? = some (if j < k then f s else s)
theorem Part.zero (f : Sn → Sn) (ss : List Sn) : Part f ss ss 0 := ⟨rfl, fun j s h => by simpa using h⟩
theorem Part.at {f : Sn → Sn} {ss L : List Sn} {k : Nat} (h : Part f ss L k) (hk : k < ss.length) : ∃ hk' : k < L.length, L[k] = ss[k] := by
  have hk' : k < L.length := by rw [h.1]; exact hk
  refine ⟨hk', ?_⟩
  have := h.2 k ss[k] (List.getElem?_eq_getElem hk)
  rw [List.getElem?_eq_getElem hk'] at this
  simpa using this
theorem Part.step {f : Sn → Sn} {ss L : List Sn} {k : Nat} (h : Part f ss L k) (hk : k < ss.length) (s' : Sn) (he : s' = f ss[k]) : Part f ss (L.set k s') (k + 1) := by
  refine ⟨by rw [List.length_set]; exact h.1, fun j s hj => ?_⟩
  rw [List.getElem?_set]
  by_cases e : k = j
  · subst e
    rw [if_pos rfl, if_pos (by rw [h.1]; exact hk), if_pos (by omega), he]
    rw [List.getElem?_eq_getElem hk] at hj
    injection hj with hj
    rw [hj]
  · rw [if_neg e, h.2 j s hj]
    by_cases e2 : j < k
    · rw [if_pos e2, if_pos (by omega)]
    · rw [if_neg e2, if_neg (by omega)]
theorem Part.skip {f : Sn → Sn} {ss L : List Sn} {k : Nat} (h : Part f ss L k) (hk : k < ss.length) (he : f ss[k] = ss[k]) : Part f ss L (k + 1) := by
  refine ⟨h.1, fun j s hj => ?_⟩
  rw [h.2 j s hj]
  by_cases e : k = j
  · subst e
    rw [List.getElem?_eq_getElem hk] at hj
    injection hj with hj
    rw [if_neg (by omega), if_pos (by omega), ← hj, he]
  · by_cases e2 : j < k
    · rw [if_pos e2, if_pos (by omega)]
    · rw [if_neg e2, if_neg (by omega)]
theorem Part.all {f : Sn → Sn} {ss L : List Sn} (h : Part f ss L ss.length) : L = ss.map f := by
  apply List.ext_getElem?
  intro j
  rw [List.getElem?_map]
  by_cases e : j < ss.length
  · rw [h.2 j ss[j] (List.getElem?_eq_getElem e), if_pos e, List.getElem?_eq_getElem e]
    rfl
  · rw [List.getElem?_eq_none (by rw [h.1]; omega), List.getElem?_eq_none (by omega)]
    rfl
set_option maxRecDepth 8000 in
set_option maxHeartbeats 4000000 in
theorem ticks_g (B : Nat) (w0 w : World) (x st b lb : Nat) (now : Int) (c : Nat → Option QM) (cq : Wp.Rq) (sv tv : Value) (ss : List Sn) (hs : List ByteArray) (kd a bb : Int) (s1 s2 s3 : ByteArray) (n : Int) (ha : i64 a) (hn : n = 1 + pk a 1000) (hl : ss.length ≤ 1000) (h : OL B w0 w x st b lb now c cq sv tv ss hs) :
    Calls Tryz.prog 23 #[.pointer (some ⟨lb, 0, none⟩), .agg #[.int .i64 kd, .int .i64 a, .int .i64 bb, .string s1, .string s2, .string s3]] w fun e w' => e = .returned (.bool true) ∧ (60000 < now + n ∧ OL B w0 w' x st b lb now c cq sv tv ss hs ∨ now + n ≤ 60000 ∧ OL B w0 w' x st b lb (now + n) (timeC (now + n) c) cq sv tv (ss.map (tickS (now + n))) hs) := by
  have hp1 := pk_nonneg a 1000 (by omega)
  have hp2 := pk_lt a 1000 (by omega)
  have HPK : Hid (∀ W, Calls Tryz.prog 14 #[.int .i64 a, .int .i64 1000] W fun e w' => e = .returned (.int .i64 (n - 1)) ∧ w' = W) := fun W => by
    have h1 := pick_any a 1000 W ha.1 ha.2 (by omega) (by omega)
    have e : n - 1 = pk a 1000 := by omega
    rw [e]
    exact h1
  have hn1 : 1 ≤ n := by omega
  have hn2 : n ≤ 1000 := by omega
  clear hn hp1 hp2
  have hnw : 0 ≤ now ∧ now ≤ 60000 := by
    obtain ⟨col, hb, _⟩ := h.bk
    exact hb.nw
  have hw1 : IntKind.i64.wrap (1 + (n - 1)) = n := by rw [IntKind.wrap_i64]; omega
  have hw2 : IntKind.i64.wrap (now + n) = now + n := by rw [IntKind.wrap_i64]; omega
  have HOL : Hid (OL B w0 w x st b lb now c cq sv tv ss hs) := h
  have c0 := h.lr.c0
  have ll := h.lr.lt
  clear h ha
  by_cases hlate : 60000 < now + n
  · have HA : Hid (∀ W, Tch [] w W → Calls Tryz.prog 18 #[.pointer (some ⟨x, 0, none⟩), .agg #[.int .u8 84, .int .u8 0, .int .u8 0, .int .i64 0, .int .i64 0, .int .i64 0, .int .i64 0, .int .i64 0, .int .i64 n, .string ⟨#[]⟩, .string ⟨#[]⟩, .string ⟨#[]⟩, .string ⟨#[]⟩, .string ⟨#[]⟩, .slice none 0 0]] W fun e w' => e = .returned (.string ⟨#[9]⟩) ∧ OL B w0 w' x st b lb now c cq sv tv ss hs) := fun W ht => by
      have hO := HOL.out.tch ht
      obtain ⟨col, hb, h9⟩ := hO.bk
      have h1 := ask_op (A := ⟨#[9]⟩) (Dd := Did B x st b W col now c) B ⟨84, 0, 0, 0, 0, 0, 0, 0, n, ⟨#[]⟩, ⟨#[]⟩, ⟨#[]⟩, ⟨#[]⟩, ⟨#[]⟩⟩ x st b now c col W hO.env hb (tick_rok n hn1 hn2) (fun Z o room hs hc W' y htW => op_T9 B _ x st b now c col W hO.env hb rfl ⟨by show (0 : Int) ≤ n; omega, hn2, hlate⟩ Z o room hs hc W' y htW)
      refine h1.mono ?_
      rintro e w' ⟨rfl, hd⟩
      exact ⟨rfl, hO.did h9 hd⟩
    have HT1 : Hid (∀ o, Tch [] w (w.alloc o)) := fun o => (Tch.refl [] w).alloc o
    have HLA : Hid (60000 < now + n) := hlate
    have hd : decide (60000 < now + n) = true := decide_eq_true hlate
    clear HOL
    go_enter Tryz.func23, Tryz.ntmps23
    go_wp2_with fail
    refine (HPK.out _).mono ?_
    rintro e w2 ⟨rfl, h2'⟩
    have h2s := h2'.symm
    subst h2s
    clear HPK
    go_wp2_with fail
    refine (HA.out _ (HT1.out _)).mono ?_
    rintro e w2 ⟨rfl, ho2⟩
    have HO2 : Hid (OL B w0 w2 x st b lb now c cq sv tv ss hs) := ho2
    have d16 := ho2.lr.c16
    have l2 := ho2.lr.lt
    clear ho2 HA c0 ll HT1
    go_wp2_with fail
    go_ret
    exact ⟨rfl, .inl ⟨HLA.out, HO2.out⟩⟩
  · have HA : Hid (∀ W, Tch [] w W → Calls Tryz.prog 18 #[.pointer (some ⟨x, 0, none⟩), .agg #[.int .u8 84, .int .u8 0, .int .u8 0, .int .i64 0, .int .i64 0, .int .i64 0, .int .i64 0, .int .i64 0, .int .i64 n, .string ⟨#[]⟩, .string ⟨#[]⟩, .string ⟨#[]⟩, .string ⟨#[]⟩, .string ⟨#[]⟩, .slice none 0 0]] W fun e w' => e = .returned (.string ⟨#[0]⟩) ∧ Lr w' lb x cq now sv tv ss hs ∧ ∀ w9, Lr w9 lb x cq (now + n) sv tv (ss.map (tickS (now + n))) hs → Tch (lb :: bl sv) w' w9 → OL B w0 w9 x st b lb (now + n) (timeC (now + n) c) cq sv tv (ss.map (tickS (now + n))) hs) := fun W ht => by
      have hO := HOL.out.tch ht
      obtain ⟨col, hb, h9⟩ := hO.bk
      have h1 := ask_op (A := okL []) (Dd := Did B x st b W col (now + n) (timeC (now + n) c)) B ⟨84, 0, 0, 0, 0, 0, 0, 0, n, ⟨#[]⟩, ⟨#[]⟩, ⟨#[]⟩, ⟨#[]⟩, ⟨#[]⟩⟩ x st b now c col W hO.env hb (tick_rok n hn1 hn2) (fun Z o room hs hc W' y htW => op_T B _ x st b now c col W hO.env hb rfl ⟨by show (0 : Int) ≤ n; omega, by show now + n ≤ 60000; omega⟩ Z o room hs hc W' y htW)
      refine h1.mono ?_
      rintro e w' ⟨rfl, hd⟩
      obtain ⟨⟨col', hb', h9'⟩, hlr, hE, hbel⟩ := hO.out h9 hd
      refine ⟨rfl, hlr, fun w9 hlr9 ht9 => OL.put hb' h9' hlr hO.lb hO.lo hE hbel (ht9.sub (by
        intro k hk _
        simp only [List.mem_cons, List.mem_append] at hk ⊢
        rcases hk with h | h
        · exact .inl h
        · exact .inr (.inl h))) hlr9 (fun k hk => .inl hk) (fun k hk => .inl hk)⟩
    have HT1 : Hid (∀ o, Tch [] w (w.alloc o)) := fun o => (Tch.refl [] w).alloc o
    have HLA : Hid (now + n ≤ 60000) := by show _ ≤ _; omega
    have hd : decide (60000 < now + n) = false := decide_eq_false hlate
    clear HOL
    go_enter Tryz.func23, Tryz.ntmps23
    go_wp2_with fail
    refine (HPK.out _).mono ?_
    rintro e w2 ⟨rfl, h2'⟩
    have h2s := h2'.symm
    subst h2s
    clear HPK
    go_wp2_with fail
    refine (HA.out _ (HT1.out _)).mono ?_
    rintro e w2 ⟨rfl, hlr2, hfin⟩
    have HFI : Hid (∀ w9, _) := hfin
    have d16 := hlr2.c16
    have z16 : w2.frozen? ⟨lb, 16, none⟩ = false := frozen_of_row w2 _ 16 _ 42 hlr2.ln
    have l2 := hlr2.lt
    have HL2 : Hid (Lr (w2.setCell ⟨lb, 16, none⟩ (.int .i64 (now + n))) lb x cq (now + n) sv tv ss hs ∧ Tch [lb] w2 (w2.setCell ⟨lb, 16, none⟩ (.int .i64 (now + n)))) := hlr2.now (now + n)
    clear hlr2 hfin HA c0 ll HT1
    go_wp2_with fail
    obtain ⟨sa, sc, hsv⟩ := own_shape HL2.out.1.row
    go_loopw [7] (fun v wr => ∃ k : Nat, ∃ L : List Sn, k ≤ ss.length ∧ v = .int .i64 (k : Int) ∧ Part (tickS (now + n)) ss L k ∧ Lr wr lb x cq (now + n) sv tv L hs ∧ Tch (lb :: bl sv) w2 wr) (fun v _ => ss.length - (intOf v).toNat)
    case atStart => exact ⟨0, ss, Nat.zero_le _, rfl, Part.zero _ _, HL2.out.1, HL2.out.2.sub (by simp)⟩
    case round =>
      obtain ⟨k, L, hk, rfl, hpa, hLr, ht⟩ := hrel
      subst hsv
      have d17 := hLr.c17
      have d16 := hLr.c16
      have lr := hLr.lt
      by_cases hkl : k < ss.length
      · obtain ⟨hkL, heL⟩ := hpa.at hkl
        have hLr' := hLr
        rw [← hpa.1] at hLr'
        obtain ⟨g, hsa, lg', hc'⟩ := hLr'.sc k hkL
        subst hsa
        obtain ⟨C, hC⟩ := hLr'.rowB
        have e3 : wr.cell? ⟨g, k * 6 + 3, none⟩ = some (.bool ss[k].fl) := by rw [← heL]; exact hc' 3 _ rfl
        have e4 : wr.cell? ⟨g, k * 6 + 4, none⟩ = some (.int .i64 ss[k].til) := by rw [← heL]; exact hc' 4 _ rfl
        have z3 : wr.frozen? ⟨g, k * 6 + 3, none⟩ = false := frozen_of_row wr _ _ _ 53 hC
        by_cases htl : ss[k].til ≤ now + n
        · have HN : Hid (∀ q, ∃ L', Part (tickS (now + n)) ss L' (k + 1) ∧ Lr ((wr.drewN q).setCell ⟨g, k * 6 + 3, none⟩ (.bool false)) lb x cq (now + n) (.slice (some ⟨g, 0, none⟩) ss.length sc) tv L' hs ∧ Tch (lb :: bl (.slice (some ⟨g, 0, none⟩) ss.length sc)) w2 ((wr.drewN q).setCell ⟨g, k * 6 + 3, none⟩ (.bool false))) := fun q => by
            obtain ⟨h1, h2⟩ := (hLr'.tch ((Tch.refl [] wr).drewN q)).setS k 3 (.bool false) (tickS (now + n) ss[k]) hkL (by omega) (by unfold tickS; rw [if_pos htl, heL]; rfl)
            rw [hpa.1] at h1
            exact ⟨_, hpa.step hkl _ rfl, h1, (ht.drewN q).trans h2 (fun y hy _ => by simp at hy; subst hy; exact List.mem_cons_of_mem _ (List.mem_singleton.2 rfl))⟩
          clear hc' hLr hLr' ht hC HL2 hpa heL
          generalize ss[k].til = stl at *
          generalize ss[k].fl = sf at *
          go_wp2_with fail
          go_quiet (fail)
          go_wp2_with fail
          go_roundw
          case rel =>
            obtain ⟨L', h1, h2, h3⟩ := HN.out nq
            exact ⟨k + 1, L', by omega, by go_num, h1, h2, h3⟩
          case measure => simp [intOf]; omega
        · have HN : Hid (∀ q, ∃ L', Part (tickS (now + n)) ss L' (k + 1) ∧ Lr (wr.drewN q) lb x cq (now + n) (.slice (some ⟨g, 0, none⟩) ss.length sc) tv L' hs ∧ Tch (lb :: bl (.slice (some ⟨g, 0, none⟩) ss.length sc)) w2 (wr.drewN q)) := fun q => ⟨L, hpa.skip hkl (by unfold tickS; rw [if_neg htl]), hLr.tch ((Tch.refl [] wr).drewN q), ht.drewN q⟩
          clear hc' hLr hLr' ht hC HL2 hpa heL
          generalize ss[k].til = stl at *
          generalize ss[k].fl = sf at *
          go_wp2_with fail
          go_quiet (fail)
          go_wp2_with fail
          go_roundw
          case rel =>
            obtain ⟨L', h1, h2, h3⟩ := HN.out nq
            exact ⟨k + 1, L', by omega, by go_num, h1, h2, h3⟩
          case measure => simp [intOf]; omega
      · have hke : k = ss.length := by omega
        have HE : Hid (OL B w0 wr x st b lb (now + n) (timeC (now + n) c) cq (.slice sa ss.length sc) tv (ss.map (tickS (now + n))) hs) := HFI.out wr (by rw [hke] at hpa; rw [← hpa.all]; exact hLr) ht
        clear hLr ht hpa HL2 HFI
        go_wp2_with fail
        go_ret
        exact ⟨rfl, .inr ⟨HLA.out, HE.out⟩⟩
def oneC (Q : QM) : Nat → Option QM := setC (fun _ => none) 0 (some Q)
theorem oneC_0 (Q : QM) : oneC Q 0 = some Q := rfl
theorem oneC_no (Q : QM) (i : Nat) (h : 1 ≤ i) : oneC Q i = none := by unfold oneC; rw [setC_ne _ _ (by omega)]
theorem set_oneC (Q Q' : QM) : setC (oneC Q) 0 (some Q') = oneC Q' := by
  funext i
  unfold oneC setC
  by_cases e : i = 0
  · subst e; rfl
  · simp [e]
theorem back_one (Q : QM) (hd : Q.c.d = 45) (num : Int) (m : Ms) (hf : Q.ms.find? (isN num) = some m) : backC (oneC Q) 0 num = oneC (readyQ (tilQ Q num 0) m.grp) := by
  have h1 : deadC (oneC Q) Q.c = none := by unfold deadC deadJ; rw [if_pos hd]; rfl
  unfold backC
  rw [oneC_0]
  simp only [hf, h1]
  exact set_oneC _ _
theorem back_none (Q : QM) (num : Int) (hf : Q.ms.find? (isN num) = none) : backC (oneC Q) 0 num = oneC Q := by
  unfold backC
  rw [oneC_0]
  simp only [hf]
def zeroN (ns : List Int) (m : Ms) : Ms := if m.num ∈ ns then { m with til := 0 } else m
theorem zeroN_num (ns : List Int) (m : Ms) : (zeroN ns m).num = m.num := by unfold zeroN; split <;> rfl
theorem zeroN_grp (ns : List Int) (m : Ms) : (zeroN ns m).grp = m.grp := by unfold zeroN; split <;> rfl
theorem zeroN_bod (ns : List Int) (m : Ms) : (zeroN ns m).bod = m.bod := by unfold zeroN; split <;> rfl
theorem zeroN_rcv (ns : List Int) (m : Ms) : (zeroN ns m).rcv = m.rcv := by unfold zeroN; split <;> rfl
theorem zeroN_til (ns : List Int) (m : Ms) : (zeroN ns m).til = if m.num ∈ ns then 0 else m.til := by unfold zeroN; split <;> rfl
theorem zero_til (n : Int) (ns : List Int) (m : Ms) : zeroN ns (tilM n 0 m) = zeroN (n :: ns) m := by
  unfold tilM
  by_cases h : m.num = n
  · rw [if_pos ((isN_iff n m).2 h)]
    have h1 : zeroN (n :: ns) m = { m with til := 0 } := if_pos (by rw [h]; exact List.mem_cons_self)
    rw [h1]
    unfold zeroN
    split <;> rfl
  · rw [if_neg (fun e => h ((isN_iff n m).1 e))]
    unfold zeroN
    by_cases h2 : m.num ∈ ns
    · rw [if_pos h2, if_pos (List.mem_cons_of_mem _ h2)]
    · rw [if_neg h2, if_neg (by simp [h, h2])]
theorem back_fold : ∀ (ns : List Int) (Q : QM), Ups Q.ms → Q.c.d = 45 → ∃ rs', ns.foldl (fun c n => backC c 0 n) (oneC Q) = oneC { Q with ms := Q.ms.map (zeroN ns), rs := rs' }
  | [], Q, hu, hd => ⟨Q.rs, by
    have e : Q.ms.map (zeroN []) = Q.ms := by
      rw [List.map_congr_left (g := id) (fun x _ => ?_), List.map_id]
      unfold zeroN
      rw [if_neg (by simp)]
      rfl
    rw [e]
    rfl⟩
  | n :: ns, Q, hu, hd => by
    rw [List.foldl_cons]
    cases hf : Q.ms.find? (isN n) with
    | none =>
      rw [back_none Q n hf]
      obtain ⟨rs', h⟩ := back_fold ns Q hu hd
      refine ⟨rs', ?_⟩
      rw [h]
      have e : Q.ms.map (zeroN ns) = Q.ms.map (zeroN (n :: ns)) := List.map_congr_left (fun x hx => by
        have h1 := List.find?_eq_none.1 hf x hx
        have h2 : x.num ≠ n := fun e => h1 ((isN_iff n x).2 e)
        unfold zeroN
        by_cases h3 : x.num ∈ ns
        · rw [if_pos h3, if_pos (List.mem_cons_of_mem _ h3)]
        · rw [if_neg h3, if_neg (by simp [h2, h3])])
      rw [e]
    | some m =>
      rw [back_one Q hd n m hf]
      have e1 : (readyQ (tilQ Q n 0) m.grp).ms = Q.ms.map (tilM n 0) := til_map Q hu n 0
      have e2 : (readyQ (tilQ Q n 0) m.grp).c = Q.c := by unfold readyQ tilQ; rw [hf]
      obtain ⟨rs', h⟩ := back_fold ns (readyQ (tilQ Q n 0) m.grp) (by rw [e1]; exact ups_map hu _ (tilM_num n 0)) (by rw [e2]; exact hd)
      refine ⟨rs', ?_⟩
      rw [h]
      have e3 : Q.ms.map (zeroN (n :: ns)) = (readyQ (tilQ Q n 0) m.grp).ms.map (zeroN ns) := by
        rw [e1, List.map_map]
        exact List.map_congr_left (fun x _ => (zero_til n ns x).symm)
      rw [e3]
      have e4 : ({ readyQ (tilQ Q n 0) m.grp with ms := (readyQ (tilQ Q n 0) m.grp).ms.map (zeroN ns), rs := rs' } : QM) = { Q with ms := (readyQ (tilQ Q n 0) m.grp).ms.map (zeroN ns), rs := rs' } := by
        unfold readyQ tilQ
        rw [hf]
      rw [e4]
theorem fgt_one (now : Int) (Q : QM) : fgtTo now 8 (oneC Q) = oneC (forgQ now Q) := by
  funext i
  unfold fgtTo
  by_cases e : i = 0
  · subst e
    rw [if_pos (by omega)]
    rfl
  · have h1 := oneC_no Q i (by omega)
    have h2 := oneC_no (forgQ now Q) i (by omega)
    rw [h1, h2]
    split <;> rfl
theorem bring_no (now : Int) (Q : QM) (i : Nat) (h : 1 ≤ i) : bringC now (oneC Q) i = oneC Q := by
  unfold bringC
  rw [oneC_no Q i h]
theorem time_one (now : Int) (Q : QM) (hu : Ups Q.ms) (hd : Q.c.d = 45) : ∃ rs', timeC now (oneC Q) = oneC { forgQ now Q with ms := Q.ms.map (zeroN (dueN now Q.ms)), rs := rs' } := by
  obtain ⟨rs', h⟩ := back_fold (dueN now Q.ms) (forgQ now Q) hu hd
  refine ⟨rs', ?_⟩
  unfold timeC
  rw [fgt_one]
  have h0 : bringC now (oneC (forgQ now Q)) 0 = oneC { forgQ now Q with ms := Q.ms.map (zeroN (dueN now Q.ms)), rs := rs' } := by
    unfold bringC
    rw [oneC_0]
    exact h
  show bringC now (bringC now (bringC now (bringC now (bringC now (bringC now (bringC now (bringC now (oneC (forgQ now Q)) 0) 1) 2) 3) 4) 5) 6) 7 = _
  rw [h0, bring_no _ _ 1 (by omega), bring_no _ _ 2 (by omega), bring_no _ _ 3 (by omega), bring_no _ _ 4 (by omega), bring_no _ _ 5 (by omega), bring_no _ _ 6 (by omega), bring_no _ _ 7 (by omega)]
theorem mem_dueN {now : Int} {l : List Ms} (hu : Ups l) {m : Ms} (hm : m ∈ l) : m.num ∈ dueN now l ↔ 0 < m.til ∧ m.til ≤ now := by
  unfold dueN dueS
  have hp : ((dueL now l).mergeSort leMs).Perm (dueL now l) := List.mergeSort_perm _ _
  rw [(hp.map Ms.num).mem_iff, List.mem_map]
  constructor
  · rintro ⟨a, ha, he⟩
    obtain ⟨h1, h2⟩ := List.mem_filter.1 ha
    rw [← num_inj hu h1 hm he]
    exact of_decide_eq_true h2
  · intro h
    exact ⟨m, List.mem_filter.2 ⟨hm, decide_eq_true h⟩, rfl⟩
structure PR (now : Int) (Q : QM) (ss : List Sn) (ps : List (Nat × Nat)) : Prop where
  up : ss.Pairwise (fun a b => a.num < b.num)
  sn : ∀ s ∈ ss, 1 ≤ s.num ∧ s.num < (Q.next : Int)
  ms : ∀ m ∈ Q.ms, ∃ s ∈ ss, s.num = m.num ∧ s.grp = m.grp ∧ s.bod = m.bod ∧ s.gone = false ∧ (s.fl = true ↔ 0 < m.til) ∧ (0 < m.til → s.til = m.til)
  sm : ∀ s ∈ ss, s.gone = false → ∃ m ∈ Q.ms, m.num = s.num
  gf : ∀ s ∈ ss, s.gone = true → s.fl = false
  tl : ∀ m ∈ Q.ms, 0 < m.til → now < m.til ∧ m.til ≤ now + 1000
  lst : ∀ m ∈ Q.ms, 0 < m.til → lastB ps m.num.toNat = hB (m.num.toNat, m.rcv.toNat)
  pok : ∀ p ∈ ps, (1 ≤ p.1 ∧ p.1 < Q.next) ∧ p.2 < 65536
  ats : Q.ats = []
  dd : Q.c.d = 45
  ds : ∀ d ∈ Q.ds, (∃ s ∈ ss, s.num = d.num) ∧ 0 < Q.c.win
theorem sn_inj {ss : List Sn} (hp : ss.Pairwise (fun a b => a.num < b.num)) : ∀ {a b : Sn}, a ∈ ss → b ∈ ss → a.num = b.num → a = b := by
  intro a b ha hb e
  obtain ⟨i, hi, rfl⟩ := List.mem_iff_getElem.1 ha
  obtain ⟨j, hj, rfl⟩ := List.mem_iff_getElem.1 hb
  have h1 := List.pairwise_iff_getElem.1 hp
  by_cases h2 : i < j
  · have := h1 i j hi hj h2; omega
  · by_cases h3 : j < i
    · have := h1 j i hj hi h3; omega
    · have : i = j := by omega
      subst this
      rfl
theorem tickS_num (t : Int) (s : Sn) : (tickS t s).num = s.num := by unfold tickS; split <;> rfl
theorem tickS_grp (t : Int) (s : Sn) : (tickS t s).grp = s.grp := by unfold tickS; split <;> rfl
theorem tickS_bod (t : Int) (s : Sn) : (tickS t s).bod = s.bod := by unfold tickS; split <;> rfl
theorem tickS_gone (t : Int) (s : Sn) : (tickS t s).gone = s.gone := by unfold tickS; split <;> rfl
theorem tickS_til (t : Int) (s : Sn) : (tickS t s).til = s.til := by unfold tickS; split <;> rfl
theorem tickS_fl (t : Int) (s : Sn) : (tickS t s).fl = (s.fl && !decide (s.til ≤ t)) := by
  unfold tickS
  split
  · rename_i h; simp [h]
  · rename_i h; simp [h]
theorem PR.len {now : Int} {Q : QM} {ss : List Sn} {ps : List (Nat × Nat)} (h : PR now Q ss ps) (hnx : Q.next ≤ 201) : ss.length ≤ 200 := by
  have h1 : ∀ (l : List Sn) (k : Int), l.Pairwise (fun a b => a.num < b.num) → (∀ s ∈ l, k ≤ s.num ∧ s.num ≤ 200) → k ≤ 201 → (l.length : Int) ≤ 201 - k := by
    intro l
    induction l with
    | nil => intro k _ _ hk; simp; omega
    | cons a r ih =>
      intro k hp hb hk
      obtain ⟨h2, h3⟩ := List.pairwise_cons.1 hp
      have ha := hb a List.mem_cons_self
      have h4 := ih (a.num + 1) h3 (fun s hs => ⟨by have := h2 s hs; omega, (hb s (List.mem_cons_of_mem _ hs)).2⟩) (by omega)
      rw [List.length_cons]
      omega
  have := h1 ss 1 h.up (fun s hs => by have := h.sn s hs; omega) (by omega)
  omega
theorem PR.tick {now t : Int} {Q : QM} {ss : List Sn} {ps : List (Nat × Nat)} (h : PR now Q ss ps) (hu : Ups Q.ms) (hnt : now ≤ t) {Q' : QM} (hm : Q'.ms = Q.ms.map (zeroN (dueN t Q.ms))) (hn : Q'.next = Q.next) (hc : Q'.c = Q.c) (ha : Q'.ats = []) (hds : ∀ d ∈ Q'.ds, d ∈ Q.ds) : PR t Q' (ss.map (tickS t)) ps where
  up := by
    rw [List.pairwise_map]
    exact h.up.imp (fun {a b} hab => by rw [tickS_num, tickS_num]; exact hab)
  sn := fun s hs => by
    obtain ⟨a, ha, rfl⟩ := List.mem_map.1 hs
    rw [tickS_num, hn]
    exact h.sn a ha
  ms := fun m hm' => by
    rw [hm] at hm'
    obtain ⟨a, ha, rfl⟩ := List.mem_map.1 hm'
    obtain ⟨s, hs, e1, e2, e3, e4, e5, e6⟩ := h.ms a ha
    have hd := mem_dueN (now := t) hu ha
    refine ⟨tickS t s, List.mem_map_of_mem hs, by rw [tickS_num, zeroN_num, e1], by rw [tickS_grp, zeroN_grp, e2], by rw [tickS_bod, zeroN_bod, e3], by rw [tickS_gone, e4], ?_, ?_⟩
    · rw [tickS_fl, zeroN_til]
      by_cases hp : a.num ∈ dueN t Q.ms
      · rw [if_pos hp]
        have h1 := hd.1 hp
        have h2 := e6 h1.1
        simp
        omega
      · rw [if_neg hp]
        have h1 : ¬ (0 < a.til ∧ a.til ≤ t) := fun e => hp (hd.2 e)
        by_cases hz : 0 < a.til
        · have h2 := e6 hz
          simp [e5.2 hz, hz]
          omega
        · have h3 : s.fl = false := by
            cases hfl : s.fl with
            | false => rfl
            | true => exact absurd (e5.1 hfl) hz
          simp [h3]
          omega
    · rw [tickS_til, zeroN_til]
      intro h0
      by_cases hp : a.num ∈ dueN t Q.ms
      · rw [if_pos hp] at h0
        omega
      · rw [if_neg hp] at h0 ⊢
        exact e6 h0
  sm := fun s hs hg => by
    obtain ⟨a, ha, rfl⟩ := List.mem_map.1 hs
    rw [tickS_gone] at hg
    obtain ⟨m, hm1, e⟩ := h.sm a ha hg
    exact ⟨zeroN (dueN t Q.ms) m, by rw [hm]; exact List.mem_map_of_mem hm1, by rw [zeroN_num, tickS_num, e]⟩
  gf := fun s hs hg => by
    obtain ⟨a, ha, rfl⟩ := List.mem_map.1 hs
    rw [tickS_gone] at hg
    rw [tickS_fl, h.gf a ha hg]
    rfl
  tl := fun m hm' h0 => by
    rw [hm] at hm'
    obtain ⟨a, ha, rfl⟩ := List.mem_map.1 hm'
    rw [zeroN_til] at h0 ⊢
    by_cases hp : a.num ∈ dueN t Q.ms
    · rw [if_pos hp] at h0
      omega
    · rw [if_neg hp] at h0 ⊢
      have h1 : ¬ (0 < a.til ∧ a.til ≤ t) := fun e => hp ((mem_dueN (now := t) hu ha).2 e)
      have h2 := h.tl a ha h0
      omega
  lst := fun m hm' h0 => by
    rw [hm] at hm'
    obtain ⟨a, ha, rfl⟩ := List.mem_map.1 hm'
    rw [zeroN_til] at h0
    by_cases hp : a.num ∈ dueN t Q.ms
    · rw [if_pos hp] at h0
      omega
    · rw [if_neg hp] at h0
      rw [zeroN_num, zeroN_rcv]
      exact h.lst a ha h0
  pok := fun p hp => by rw [hn]; exact h.pok p hp
  ats := ha
  dd := by rw [hc]; exact h.dd
  ds := fun d hd => by
    obtain ⟨⟨s, hs, e⟩, hw⟩ := h.ds d (hds d hd)
    rw [hc]
    exact ⟨⟨tickS t s, List.mem_map_of_mem hs, by rw [tickS_num, e]⟩, hw⟩
end Go.Proofs.YtbdobaapadlcjaaGreatDoor
