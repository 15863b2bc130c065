import Derived.Test.YtbdobaapadlcjaaGreatDoorOx29
import Derived.Deep.DeepCutAuto
import Derived.BigQuiet
import Derived.Test.YtbdobaapadlcjaaGreatDoorOx30
import Derived.Test.YtbdobaapadlcjaaGreatDoorOx37
namespace Go.Proofs.YtbdobaapadlcjaaGreatDoor
open Go.RowKit Keep
set_option linter.unusedVariables false
set_option linter.unusedSimpArgs false
theorem info53 : (Tryz.prog.info? 53).map (fun i => (i.zero, i.size, i.bytes)) = some (some (.agg #[.int .i64 0, .string ⟨#[]⟩, .string ⟨#[]⟩, .bool false, .int .i64 0, .bool false]), 6, 64) := by kernel_rfl
abbrev stepC (g b : ByteArray) : Array Value := #[.int .i64 0, .int .i64 0, .int .i64 0, .string g, .string ⟨#[]⟩, .string b]
abbrev sndRq (g b : ByteArray) : Wp.Rq := ⟨83, 97, 0, 0, 0, 0, 0, 0, 0, g, ⟨#[]⟩, b, ⟨#[]⟩, ⟨#[]⟩⟩
abbrev sndC (g b : ByteArray) : Array Value := #[.int .u8 83, .int .u8 97, .int .u8 0, .int .i64 0, .int .i64 0, .int .i64 0, .int .i64 0, .int .i64 0, .int .i64 0, .string g, .string ⟨#[]⟩, .string b, .string ⟨#[]⟩, .string ⟨#[]⟩, .slice none 0 0]
theorem okN_size (k : Nat) : (okN k).size = 5 := rfl
theorem fine_okN (k : Nat) (w : World) : Calls Tryz.prog 35 #[.string (okN k)] w fun e w' => e = .returned (.bool true) ∧ w' = w := fine_ok (lowB k 4) w (by rw [lowB_length]; decide)
abbrev TS : List TypeId := [234, 143, 110, 116, 156, 191, 226, 230, 9, 42, 53]
structure AI (B : Nat) (w wr : World) (lb x st b qb : Nat) (c : Wp.Rq) (k i : Nat) (V : QV) (Q : QM) (sv : Value) : Prop where
  gq : GQ B k wr x st b qb 0 V Q
  ln : Ln wr lb x c sv
  own : wr.ownsRow 0 53 6 sv Q.ms.length (Q.ms.flatMap snR)
  slo : ∀ j, sv.ownBlock = some j → B ≤ j
  llo : B ≤ lb
  si : SI Q
  qc : Q.c = c
  len : Q.ms.length ≤ i
  ne : 0 < i → Q.ms ≠ []
  fr : Fr B TS w wr
theorem small_R (r : Wp.Rq) (hright : rightW r nil0 (Wp.short []) = true) (hop : r.op = 82) (h1 : r.att.size ≤ 20) : (printS r nil0 []).size ≤ 300 := by
  rw [(print_bytes r nil0 [] hright).1, BA_size, List.append_nil, List.length_cons, show Wp.lay (r.op.toNat - 65) = [0, 12, 6] by rw [hop]; rfl]
  simp only [encL, List.flatMap_cons, List.flatMap_nil, List.length_append, List.length_nil]
  rw [encF_l0 _ _ 0 rfl, encF_l3 _ _ 12 rfl, encF_l1 _ _ 6 rfl]
  show 1 + (1 + r.att.size + (1 + 0)) + 1 ≤ 300
  omega
abbrev rcvRq (att : ByteArray) (mx : Int) : Wp.Rq := ⟨82, 97, 0, 0, 0, 0, 0, mx, 0, ⟨#[]⟩, ⟨#[]⟩, ⟨#[]⟩, att, ⟨#[]⟩⟩
abbrev rcvC (att : ByteArray) (mx : Int) : Array Value := #[.int .u8 82, .int .u8 97, .int .u8 0, .int .i64 0, .int .i64 0, .int .i64 0, .int .i64 0, .int .i64 mx, .int .i64 0, .string ⟨#[]⟩, .string ⟨#[]⟩, .string ⟨#[]⟩, .string att, .string ⟨#[]⟩, .slice none 0 0]
end Go.Proofs.YtbdobaapadlcjaaGreatDoor
namespace Go.Proofs.YtbdobaapadlcjaaGreatDoor
open Go.RowKit
set_option linter.unusedVariables false
set_option linter.unusedSimpArgs false
theorem Env.fq {B : Nat} {T : List TypeId} {c : Nat → Nat} {w w' : World} (h : Env B w) (hf : FqT T B c w w') : Env B w' :=
  have hz := hf.size
  h.fr (T := T ++ [9]) ⟨hf.os, hf.tape, hf.output, hf.size, hf.low, fun k C t hk ht => hf.keep k C t hk (fun hm => ht (List.mem_append.2 (.inl hm)))⟩
theorem Did.env {B x st b : Nat} {w w' : World} {col : Nat → Nat} {now : Int} {c : Nat → Option QM} (h : Did B x st b w col now c w') (hE : Env B w) : Env B w' := by
  obtain ⟨col', h1, h2, h3⟩ := h
  exact hE.fq h3
theorem do_g (K : ByteArray → World → Prop) (B : Nat) (r : Wp.Rq) (x st b : Nat) (now : Int) (c : Nat → Option QM) (col : Nat → Nat) (w : World) (hE : Env B w) (hb : Bk B w x st b now c col) (hw : Wf r) (hright : rightW r nil0 (Wp.short []) = true) (hsm : (printS r nil0 []).size ≤ 90000)
    (hP : ∀ Z o room, SG B w st b now Z col → ctZ Z = c → ∀ (W : World) (y : Sl), Tch [] w W → Calls Tryz.prog 62 #[.pointer (some ⟨st, 0, none⟩), .agg (cellsOf r y.v)] W fun e w' => Tch [] W w' ∧ PlG B (fun w => Jg B w x st o room) K e w') (W : World) (hbW : Below w.heap.size w W) :
    Calls Tryz.prog 34 #[.pointer (some ⟨x, 0, none⟩), .string (printS r nil0 [])] W fun e w' => ∃ t, e = .returned (.string t) ∧ K t w' := by
  obtain ⟨⟨Z, hs, hc⟩, hwf, hnw, o, room, hJ⟩ := hb
  obtain ⟨hg, hr, _⟩ := print_good r nil0 [] hw rfl hright
  have tb := Tch.of_below hbW
  have hsW := hs.tch tb
  have hEW := hE.tch tb (by simp)
  have hOk : ∀ i x, i < 8 → Z i = some x → QOk x.Q := fun i x hi hx => (hwf i x.Q hi (by rw [← hc]; exact ctZ_some hx)).ok
  refine bdo_g K B o room ⟨(wholeB now Z).toArray⟩ (printS r nil0 []) r x st _ W hsm hEW.lays hEW.tab hEW.size hEW.three hg hr (hJ.tch tb) (by rw [rec_sz]; have := wholeB_len (now := now) hOk; omega) hsW.stb (fun W1 hf1 => ?_) ?_
  · exact whole_any B st b now Z col W1 (hsW.fr hf1 (by decide) (by decide) (by decide)) ⟨hnw.1, by have := hnw.2; omega⟩ hOk
  · intro W1 y ht1
    exact hP Z _ _ hs hc W1 y (tb.trans ht1 (by simp))
structure Rok (r : Wp.Rq) : Prop where
  wf : Wf r
  right : rightW r nil0 (Wp.short []) = true
  small : (printS r nil0 []).size ≤ 90000
theorem ask_op {A : ByteArray} {Dd : World → Prop} (B : Nat) (r : Wp.Rq) (x st b : Nat) (now : Int) (c : Nat → Option QM) (col : Nat → Nat) (w : World) (hE : Env B w) (hb : Bk B w x st b now c col) (hr : Rok r)
    (hP : ∀ Z o room, SG B w st b now Z col → ctZ Z = c → ∀ (W : World) (y : Sl), Tch [] w W → Calls Tryz.prog 62 #[.pointer (some ⟨st, 0, none⟩), .agg (cellsOf r y.v)] W fun e w' => Tch [] W w' ∧ PlG B (fun w => Jg B w x st o room) (fun t w' => t = A ∧ Dd w') e w') :
    Calls Tryz.prog 18 #[.pointer (some ⟨x, 0, none⟩), .agg (cellsOf r nil0.v)] w fun e w' => e = .returned (.string A) ∧ Dd w' := by
  refine (ask_g (fun t w' => t = A ∧ Dd w') B r x st b now c col w hE hb hr.wf hr.right hr.small hP).mono ?_
  rintro e w' ⟨t, rfl, rfl, h⟩
  exact ⟨rfl, h⟩
theorem create_g (B : Nat) (r : Wp.Rq) (x st b i : Nat) (now : Int) (c : Nat → Option QM) (col : Nat → Nat) (w : World) (hE : Env B w) (hb : Bk B w x st b now c col) (hr : Rok r) (hop : r.op = 67) (hi : i < 8) (hq : r.q.toNat = 97 + i) (hcf : CfW i r) (hno : c i = none) :
    Calls Tryz.prog 25 #[.pointer (some ⟨x, 0, none⟩), .agg (cellsOf r nil0.v)] w fun e w' => e = .returned (.bool true) ∧ Did B x st b w col now (setC c i (some (newM r))) w' := by
  refine create_walk _ B r x w hr.right hE.lays hE.size (fun W hbW => ?_)
  refine (do_g (fun t w' => t = okL [] ∧ Did B x st b w col now (setC c i (some (newM r))) w') B r x st b now c col w hE hb hr.wf hr.right hr.small (fun Z o room hs hc W y ht => op_C B r x st b i now c col w hE hb hop hi hq hcf hno Z o room hs hc W y ht) W hbW).mono ?_
  rintro e w' ⟨t, rfl, rfl, h⟩
  exact ⟨rfl, h⟩
abbrev rcvQq (q : UInt8) (mx : Int) : Wp.Rq := ⟨82, q, 0, 0, 0, 0, 0, mx, 0, ⟨#[]⟩, ⟨#[]⟩, ⟨#[]⟩, ⟨#[]⟩, ⟨#[]⟩⟩
theorem rcvQ_ok (q : UInt8) (i mx : Nat) (hq : q.toNat = 97 + i) (hi : i < 8) (hm : 1 ≤ mx ∧ mx ≤ 10) : Rok (rcvQq q (mx : Int)) := by
  have hwf : Wf (rcvQq q (mx : Int)) := Keep.wf_small _ Keep.zz Keep.zz Keep.zz Keep.zz ⟨by show (0 : Int) ≤ (mx : Int); omega, by show (mx : Int) ≤ (1001 : Int); omega⟩ Keep.zz
  have hright : rightW (rcvQq q (mx : Int)) nil0 (Wp.short []) = true := by
    refine (right_iff _ _ _ hwf).2 ⟨17, by decide, rfl, ?_, rfl, rfl⟩
    show List.all [0, 12, 6] _ = true
    simp only [List.all_cons, List.all_nil, Bool.and_true, Bool.and_eq_true]
    exact ⟨Keep.fits_of _ _ _ 0 (by decide) (by decide) (by decide) (show (97 : Int) ≤ (q.toNat : Int) by omega) (show (q.toNat : Int) ≤ 104 by omega), Keep.fits_of _ _ _ 12 (by decide) (by decide) (by decide) (show (0 : Int) ≤ (0 : Int) by omega) (show (0 : Int) ≤ 8 by omega), Keep.fits_of _ _ _ 6 (by decide) (by decide) (by decide) (show (1 : Int) ≤ (mx : Int) by omega) (show (mx : Int) ≤ 10 by omega)⟩
  exact ⟨hwf, hright, by have := small_R _ hright rfl (by show 0 ≤ 20; omega); omega⟩
theorem isA_none {Q : QM} {i : Nat} (h : QW i Q) : idxL (isA ⟨#[]⟩) Q.ats < 0 := by
  rw [idxL_neg]
  intro a ha
  have h1 := (h.aok a ha).1.1
  show (a.id.toList == (⟨#[]⟩ : ByteArray).toList) = false
  rw [beq_eq_false_iff_ne]
  intro e
  have := str_inj e
  rw [this] at h1
  exact absurd h1 (by decide)
set_option maxRecDepth 8000 in
set_option maxHeartbeats 1000000 in
theorem receive_g (B : Nat) (q : UInt8) (x st b i mx cnt : Nat) (now : Int) (c : Nat → Option QM) (col : Nat → Nat) (w : World) (hE : Env B w) (hb : Bk B w x st b now c col) (hi : i < 8) (hq : q.toNat = 97 + i) (Q : QM) (hQ : c i = some Q) (hna : Q.ats.length < 20) (hm : 1 ≤ mx ∧ mx ≤ 10) (hcnt : cnt = if mx ≤ Q.rs.length then mx else Q.rs.length) :
    Calls Tryz.prog 22 #[.pointer (some ⟨x, 0, none⟩), .int .u8 (q.toNat : Int), .string ⟨#[]⟩, .int .i64 (mx : Int)] w fun e w' => ∃ v, e = .returned (.tuple #[v, .bool true]) ∧ w'.ownsRow 0 50 3 v (entL Q cnt).length ((entL Q cnt).flatMap Ge.row) ∧ Did B x st b w col now (recvC c i Q ⟨#[]⟩ cnt now) w' := by
  have hr := rcvQ_ok q i mx hq hi hm
  have hW := hb.wf i Q hi hQ
  have hcl : cnt ≤ Q.rs.length ∧ cnt ≤ 10 := by split at hcnt <;> omega
  have HA : Hid (Calls Tryz.prog 18 #[.pointer (some ⟨x, 0, none⟩), .agg #[.int .u8 82, .int .u8 (q.toNat : Int), .int .u8 0, .int .i64 0, .int .i64 0, .int .i64 0, .int .i64 0, .int .i64 (mx : Int), .int .i64 0, .string ⟨#[]⟩, .string ⟨#[]⟩, .string ⟨#[]⟩, .string ⟨#[]⟩, .string ⟨#[]⟩, .slice none 0 0]] w fun e w' => e = .returned (.string (recS (entL Q cnt))) ∧ Did B x st b w col now (recvC c i Q ⟨#[]⟩ cnt now) w') := by
    have h := ask_op (A := okL (ansL Q cnt cnt)) (Dd := Did B x st b w col now (recvC c i Q ⟨#[]⟩ cnt now)) B (rcvQq q (mx : Int)) x st b now c col w hE hb hr (fun Z o room hs hc W y ht => op_R B (rcvQq q (mx : Int)) x st b i mx cnt now c col w hE hb rfl hi hq Q hQ (isA_none hW) hna (by show 0 ≤ 8; omega) rfl hm hcnt Z o room hs hc W y ht)
    rw [ans_rec Q cnt hcl.1 (fun g hg => hW.hidx hg) hW.mso] at h
    exact h
  have HB : Hid (∀ W, Calls Tryz.prog 21 #[.string (recS (entL Q cnt))] W fun e w' => ∃ v, e = .returned (.tuple #[v, .bool true]) ∧ w'.ownsRow W.heap.size 50 3 v (entL Q cnt).length ((entL Q cnt).flatMap Ge.row) ∧ Tch [] W w') := fun W => received_any (entL Q cnt) W (entL_ok Q cnt (fun g hg => hW.hidx hg) hW.mso) (by rw [entL_len Q cnt hcl.1]; exact hcl.2)
  have HBw : Hid (B ≤ w.heap.size) := hE.size
  have hql := q.toNat_lt
  clear hr hcnt hcl hb hW hE hQ hq hm hql
  generalize ((q.toNat : Nat) : Int) = qn at *
  generalize ((mx : Nat) : Int) = mn at *
  generalize recvC c i Q ⟨#[]⟩ cnt now = c' at *
  generalize entL Q cnt = es at *
  generalize recS es = s at *
  go_enter Tryz.func22, Tryz.ntmps22
  go_wp2_with fail
  refine HA.out.mono ?_
  rintro e w1 ⟨rfl, hd1⟩
  go_wp2_with fail
  refine (HB.out _).mono ?_
  rintro e w2 ⟨v, rfl, ho2, ht2⟩
  have HF : Hid (w2.ownsRow 0 50 3 v es.length (es.flatMap Ge.row) ∧ Did B x st b w col now c' w2) := by
    obtain ⟨col', h1, h2, h3⟩ := hd1
    have hz := h3.size
    refine ⟨own_base ho2, col', h1.tch ht2, h2, h3.trans h2 (FqT.of_nil col' ht2 (by have := HBw.out; omega))⟩
  clear ho2 ht2 hd1
  go_wp2_with fail
  go_ret2
  exact ⟨v, rfl, HF.out.1, HF.out.2⟩
theorem Opn.bk {B : Nat} {w : World} {x st b j d : Nat} (h : Opn B w x st b j d (.slice none 0 0)) (hd : B ≤ d) (col : Nat → Nat) : Bk B w x st b 0 (fun _ => none) col := by
  refine ⟨⟨fun _ => none, ⟨h.brk.hst, h.brk.tb, fun i x _ hx => by simp at hx, fun i x _ hx => by simp at hx, fun i x _ hx => by simp at hx, h.lo.2.1⟩, rfl⟩, fun i Q _ hQ => by simp at hQ, ⟨by omega, by omega⟩, none, 0, j, d, .slice none 0 0, 0, 0, h.hx, h.jr, fun k hk => ?_, ?_⟩
  · simp [jbl, Dk.bl, Value.ownBlock] at hk
    rcases hk with rfl | rfl
    · exact h.lo.2.2.1
    · exact hd
  · show ((0 : Nat) : Int) + 0 ≤ 400000 ∧ _
    omega
abbrev gS : ByteArray := ⟨#[103]⟩
def mkF (k : Nat) : List ByteArray → List Ms
  | [] => []
  | t :: r => ⟨((k + 1 : Nat) : Int), gS, t, 0, 0⟩ :: mkF (k + 1) r
def hdF (k : Nat) (rc tl : Int) : List ByteArray → List Ms
  | [] => []
  | t :: r => ⟨((k + 1 : Nat) : Int), gS, t, rc, tl⟩ :: mkF (k + 1) r
def rsF (tl : Int) : List ByteArray → List ByteArray
  | [] => []
  | _ :: _ => if tl = 0 then [gS] else []
def gQ (c : Wp.Rq) (nx k : Nat) (ts : List ByteArray) (rc tl : Int) : QM := ⟨c, nx, hdF k rc tl ts, rsF tl ts, [], []⟩
def c2 (A Bq : QM) : Nat → Option QM := setC (setC (fun _ => none) 0 (some A)) 1 (some Bq)
theorem leN_low4 (n : Nat) : leN (lowB n 4) = n % 4294967296 := by
  have h : ∀ m : Nat, (UInt8.ofNat (m % 256)).toNat = m % 256 := fun m => UInt8.toNat_ofNat_of_lt' (by have := Nat.mod_lt m (show 0 < 256 by decide); simpa using this)
  have e : lowB n 4 = [UInt8.ofNat (n % 256), UInt8.ofNat (n / 256 % 256), UInt8.ofNat (n / 65536 % 256), UInt8.ofNat (n / 16777216 % 256)] := by simp [lowB, List.range_succ]
  rw [e]
  show (UInt8.ofNat (n % 256)).toNat + 256 * ((UInt8.ofNat (n / 256 % 256)).toNat + 256 * ((UInt8.ofNat (n / 65536 % 256)).toNat + 256 * ((UInt8.ofNat (n / 16777216 % 256)).toNat + 256 * 0))) = _
  rw [h, h, h, h]
  omega
theorem hanB_len (q : UInt8) (num rcv : Nat) : (hanB q num rcv).length = 8 := by simp [hanB, lowB_length]
theorem han_is (q : UInt8) (i num rcv : Nat) (hq : q.toNat = 97 + i) (hi : i < 8) (hn : num < 4294967296) (hr : rcv < 65536) : HanIs ⟨(hanB q num rcv).toArray⟩ i num rcv := by
  have h8 : (⟨(hanB q num rcv).toArray⟩ : ByteArray).size = 8 := by show (hanB q num rcv).toArray.size = 8; simp [hanB_len]
  have hex : (⟨(hanB q num rcv).toArray⟩ : ByteArray).extract 2 8 = BA (lowB num 4 ++ lowB rcv 2) := by
    have h1 := lf_app [72, q] (lowB num 4 ++ lowB rcv 2)
    have h2 : lf (BA ([72, q] ++ (lowB num 4 ++ lowB rcv 2))) [72, q].length = (⟨(hanB q num rcv).toArray⟩ : ByteArray).extract 2 8 := by
      show lf (⟨(hanB q num rcv).toArray⟩ : ByteArray) 2 = _
      unfold lf
      rw [if_pos (by rw [h8]; omega), h8]
    rw [← h2]
    exact h1
  refine ⟨h8, rfl, ?_, ?_, ?_, ?_⟩
  · show isLet q = true
    unfold isLet
    rw [hq]
    simp
    omega
  · exact hq
  · rw [hex]
    have h1 := tk_app (lowB num 4) (lowB rcv 2)
    rw [lowB_length] at h1
    rw [h1, BA_list, leN_low4]
    omega
  · rw [hex]
    have h1 := lf_app (lowB num 4) (lowB rcv 2)
    rw [lowB_length] at h1
    rw [h1]
    have h2 := tk_app (lowB rcv 2) []
    rw [lowB_length, List.append_nil] at h2
    rw [h2, BA_list, leN_low2]
    omega
theorem han_ext (q : UInt8) (num rcv : Nat) : (⟨(hanB q num rcv).toArray⟩ : ByteArray).extract 2 6 = ⟨(lowB num 4).toArray⟩ := by
  have e : (lowB num 4) = [UInt8.ofNat (num / 256 ^ 0 % 256), UInt8.ofNat (num / 256 ^ 1 % 256), UInt8.ofNat (num / 256 ^ 2 % 256), UInt8.ofNat (num / 256 ^ 3 % 256)] := rfl
  have e2 : (lowB rcv 2) = [UInt8.ofNat (rcv / 256 ^ 0 % 256), UInt8.ofNat (rcv / 256 ^ 1 % 256)] := rfl
  unfold hanB
  rw [e, e2]
  rfl
set_option maxHeartbeats 400000 in
theorem seq_any (q : UInt8) (num rcv : Nat) (hn : num < 4294967296) (w : World) : Calls Tryz.prog 26 #[.string ⟨(hanB q num rcv).toArray⟩] w fun e w' => e = .returned (.int .i64 (num : Int)) ∧ w' = w := by
  have h8 : (⟨(hanB q num rcv).toArray⟩ : ByteArray).size = 8 := by show (hanB q num rcv).toArray.size = 8; simp [hanB_len]
  have HN : Hid (Calls Tryz.prog 36 #[.string ((⟨(hanB q num rcv).toArray⟩ : ByteArray).extract 2 6)] w fun e w' => e = .returned (.int .i64 (num : Int)) ∧ w' = w) := by
    show Calls _ _ _ _ _
    rw [han_ext]
    have h := number_okN num hn w
    rw [okN_ext] at h
    exact h
  generalize (⟨(hanB q num rcv).toArray⟩ : ByteArray) = s at *
  go_enter Tryz.func26, Tryz.ntmps26
  go_wp2_with fail
  refine HN.out.mono ?_
  rintro e w' ⟨rfl, rfl⟩
  go_wp2_with fail
  go_ret
  exact ⟨rfl, rfl⟩
abbrev cfA (m : Int) : Wp.Rq := ⟨67, 97, 98, 5, 0, m, 20, 0, 0, ⟨#[]⟩, ⟨#[]⟩, ⟨#[]⟩, ⟨#[]⟩, ⟨#[]⟩⟩
abbrev cfB (u : Int) : Wp.Rq := ⟨67, 98, 45, 5, 0, 0, u, 0, 0, ⟨#[]⟩, ⟨#[]⟩, ⟨#[]⟩, ⟨#[]⟩, ⟨#[]⟩⟩
abbrev emp : ByteArray := ⟨#[]⟩
abbrev ackR (h : ByteArray) : Wp.Rq := ⟨65, 0, 0, 0, 0, 0, 0, 0, 0, ⟨#[]⟩, ⟨#[]⟩, ⟨#[]⟩, ⟨#[]⟩, h⟩
theorem ack_rok (h : ByteArray) (hs : h.size ≤ 255) : Rok (ackR h) := by
  have hwf : Wf (ackR h) := Keep.wf_small _ Keep.zz Keep.zz Keep.zz Keep.zz Keep.zz Keep.zz
  have hright : rightW (ackR h) nil0 (Wp.short []) = true := by
    refine (right_iff _ _ _ hwf).2 ⟨0, by decide, rfl, ?_, rfl, rfl⟩
    show List.all [13] _ = true
    simp only [List.all_cons, List.all_nil, Bool.and_true]
    exact Keep.fits_of _ _ _ 13 (by decide) (by decide) (by decide) (show (0 : Int) ≤ (h.size : Int) by omega) (show (h.size : Int) ≤ 255 by omega)
  refine ⟨hwf, hright, ?_⟩
  rw [(print_bytes _ nil0 [] hright).1, BA_size, List.append_nil, List.length_cons, show Wp.lay ((ackR h).op.toNat - 65) = [13] from rfl]
  simp only [encL, List.flatMap_cons, List.flatMap_nil, List.length_append, List.length_nil]
  rw [encF_l3 _ _ 13 rfl]
  show 1 + h.size + 0 + 1 ≤ 90000
  omega
theorem Snd.rok {r : Wp.Rq} (h : Snd r) : Rok r := ⟨h.wf, h.right, by have := h.small; omega⟩
theorem tick_rok (n : Int) (h1 : 1 ≤ n) (h2 : n ≤ 1000) : Rok ⟨84, 0, 0, 0, 0, 0, 0, 0, n, ⟨#[]⟩, ⟨#[]⟩, ⟨#[]⟩, ⟨#[]⟩, ⟨#[]⟩⟩ := by
  obtain ⟨a, b⟩ := tick_of n h1 h2
  exact ⟨a, b, by have := small_T _ b rfl; omega⟩
structure MV (B : Nat) (w0 w : World) (x st b : Nat) (now : Int) (c : Nat → Option QM) (ts : List ByteArray) (sv : Value) : Prop where
  bk : ∃ col, Bk B w x st b now c col ∧ ∀ k, sv.ownBlock = some k → col k = 9
  row : w.ownsRow 0 9 1 sv ts.length (ts.map Value.string)
  lo : ∀ k, sv.ownBlock = some k → B ≤ k
  env : Env B w
  bel : Below B w0 w
end Go.Proofs.YtbdobaapadlcjaaGreatDoor
