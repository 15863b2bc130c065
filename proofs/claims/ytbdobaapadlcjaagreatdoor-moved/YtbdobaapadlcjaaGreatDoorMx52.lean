/-
  Moved: handles; the requests that it asks; what is left behind each.
-/
import Derived.Test.YtbdobaapadlcjaaGreatDoorMx51
namespace Go.Proofs.YtbdobaapadlcjaaGreatDoor
open Go.RowKit
set_option linter.unusedVariables false
set_option linter.unusedSimpArgs false

theorem leN_low4 (n : Nat) : leN (lowB n 4) = n % 4294967296 := by
  have h : ∀ m : Nat, (UInt8.ofNat (m % 256)).toNat = m % 256 := fun m => UInt8.toNat_ofNat_of_lt' (by have := Nat.mod_lt m (show 0 < 256 by decide); simpa using this)
  have e : lowB n 4 = [UInt8.ofNat (n % 256), UInt8.ofNat (n / 256 % 256), UInt8.ofNat (n / 65536 % 256), UInt8.ofNat (n / 16777216 % 256)] := by simp [lowB, List.range_succ]
  rw [e]
  show (UInt8.ofNat (n % 256)).toNat + 256 * ((UInt8.ofNat (n / 256 % 256)).toNat + 256 * ((UInt8.ofNat (n / 65536 % 256)).toNat + 256 * ((UInt8.ofNat (n / 16777216 % 256)).toNat + 256 * 0))) = _
  rw [h, h, h, h]
  omega
theorem hanB_len (q : UInt8) (num rcv : Nat) : (hanB q num rcv).length = 8 := by simp [hanB, lowB_length]
theorem han_is (q : UInt8) (i num rcv : Nat) (hq : q.toNat = 97 + i) (hi : i < 8) (hn : num < 4294967296) (hr : rcv < 65536) : HanIs ⟨(hanB q num rcv).toArray⟩ i num rcv := by
  have h8 : (⟨(hanB q num rcv).toArray⟩ : ByteArray).size = 8 := by show (hanB q num rcv).toArray.size = 8; simp [hanB_len]
  have hex : (⟨(hanB q num rcv).toArray⟩ : ByteArray).extract 2 8 = BA (lowB num 4 ++ lowB rcv 2) := by
    have h1 := lf_app [72, q] (lowB num 4 ++ lowB rcv 2)
    have h2 : lf (BA ([72, q] ++ (lowB num 4 ++ lowB rcv 2))) [72, q].length = (⟨(hanB q num rcv).toArray⟩ : ByteArray).extract 2 8 := by
      show lf (⟨(hanB q num rcv).toArray⟩ : ByteArray) 2 = _
      unfold lf
      rw [if_pos (by rw [h8]; omega), h8]
    rw [← h2]
    exact h1
  refine ⟨h8, rfl, ?_, ?_, ?_, ?_⟩
  · show isLet q = true
    unfold isLet
    rw [hq]
    simp
    omega
  · exact hq
  · rw [hex]
    have h1 := tk_app (lowB num 4) (lowB rcv 2)
    rw [lowB_length] at h1
    rw [h1, BA_list, leN_low4]
    omega
  · rw [hex]
    have h1 := lf_app (lowB num 4) (lowB rcv 2)
    rw [lowB_length] at h1
    rw [h1]
    have h2 := tk_app (lowB rcv 2) []
    rw [lowB_length, List.append_nil] at h2
    rw [h2, BA_list, leN_low2]
    omega
theorem han_ext (q : UInt8) (num rcv : Nat) : (⟨(hanB q num rcv).toArray⟩ : ByteArray).extract 2 6 = ⟨(lowB num 4).toArray⟩ := by
  have e : (lowB num 4) = [UInt8.ofNat (num / 256 ^ 0 % 256), UInt8.ofNat (num / 256 ^ 1 % 256), UInt8.ofNat (num / 256 ^ 2 % 256), UInt8.ofNat (num / 256 ^ 3 % 256)] := rfl
  have e2 : (lowB rcv 2) = [UInt8.ofNat (rcv / 256 ^ 0 % 256), UInt8.ofNat (rcv / 256 ^ 1 % 256)] := rfl
  unfold hanB
  rw [e, e2]
  rfl
set_option maxHeartbeats 400000 in
theorem seq_any (q : UInt8) (num rcv : Nat) (hn : num < 4294967296) (w : World) : Calls Tryz.prog 26 #[.string ⟨(hanB q num rcv).toArray⟩] w fun e w' => e = .returned (.int .i64 (num : Int)) ∧ w' = w := by
  have h8 : (⟨(hanB q num rcv).toArray⟩ : ByteArray).size = 8 := by show (hanB q num rcv).toArray.size = 8; simp [hanB_len]
  have HN : Hid (Calls Tryz.prog 36 #[.string ((⟨(hanB q num rcv).toArray⟩ : ByteArray).extract 2 6)] w fun e w' => e = .returned (.int .i64 (num : Int)) ∧ w' = w) := by
    show Calls _ _ _ _ _
    rw [han_ext]
    have h := number_okN num hn w
    rw [okN_ext] at h
    exact h
  generalize (⟨(hanB q num rcv).toArray⟩ : ByteArray) = s at *
  go_enter Tryz.func26, Tryz.ntmps26
  go_wp2_with fail
  refine HN.out.mono ?_
  rintro e w' ⟨rfl, rfl⟩
  go_wp2_with fail
  go_ret
  exact ⟨rfl, rfl⟩

/-- The settings of the two queues. -/
abbrev cfA (m : Int) : Wp.Rq := ⟨67, 97, 98, 5, 0, m, 20, 0, 0, ⟨#[]⟩, ⟨#[]⟩, ⟨#[]⟩, ⟨#[]⟩, ⟨#[]⟩⟩
abbrev cfB (u : Int) : Wp.Rq := ⟨67, 98, 45, 5, 0, 0, u, 0, 0, ⟨#[]⟩, ⟨#[]⟩, ⟨#[]⟩, ⟨#[]⟩, ⟨#[]⟩⟩
abbrev emp : ByteArray := ⟨#[]⟩
theorem cfA_ok (m : Int) (h : 1 ≤ m ∧ m ≤ 9) : Rok (cfA m) ∧ CfW 0 (cfA m) := by
  have hwf : Wf (cfA m) := Keep.wf_small _ (by show (0 : Int) ≤ 5 ∧ (5 : Int) ≤ 1001; omega) Keep.zz ⟨by show (0 : Int) ≤ m; omega, by show m ≤ (1001 : Int); omega⟩ (by show (0 : Int) ≤ 20 ∧ (20 : Int) ≤ 1001; omega) Keep.zz Keep.zz
  have hright : rightW (cfA m) nil0 (Wp.short []) = true := by
    refine (right_iff _ _ _ hwf).2 ⟨2, by decide, rfl, ?_, rfl, rfl⟩
    show List.all [0, 2, 3, 4, 1, 5] _ = true
    simp only [List.all_cons, List.all_nil, Bool.and_true, Bool.and_eq_true]
    exact ⟨Keep.fits_of _ _ _ 0 (by decide) (by decide) (by decide) (show (97 : Int) ≤ 97 by omega) (show (97 : Int) ≤ 104 by omega), Keep.fits_of _ _ _ 2 (by decide) (by decide) (by decide) (show (1 : Int) ≤ 5 by omega) (show (5 : Int) ≤ 1000 by omega), Keep.fits_of _ _ _ 3 (by decide) (by decide) (by decide) (show (0 : Int) ≤ 0 by omega) (show (0 : Int) ≤ 1000 by omega), Keep.fits_of _ _ _ 4 (by decide) (by decide) (by decide) (show (0 : Int) ≤ m by omega) (show m ≤ (9 : Int) by omega), Keep.fits_dead _ _ _ (.inr ⟨show (97 : Nat) ≤ 98 by decide, show (98 : Nat) ≤ 104 by decide, show (98 : UInt8) ≠ 97 by decide⟩), Keep.fits_of _ _ _ 5 (by decide) (by decide) (by decide) (show (1 : Int) ≤ 20 by omega) (show (20 : Int) ≤ 50 by omega)⟩
  refine ⟨⟨hwf, hright, by have := small_C _ hright rfl; omega⟩, ⟨rfl, .inr ⟨1, by decide, by decide, rfl⟩, ?_, ?_, ?_, ?_⟩⟩
  · show (1 : Int) ≤ 5 ∧ (5 : Int) ≤ 1000; omega
  · show (0 : Int) ≤ 0 ∧ (0 : Int) ≤ 1000; omega
  · show (0 : Int) ≤ m ∧ m ≤ 9; omega
  · show (1 : Int) ≤ 20 ∧ (20 : Int) ≤ 50; omega
theorem cfB_ok (u : Int) (h : 1 ≤ u ∧ u ≤ 12) : Rok (cfB u) ∧ CfW 1 (cfB u) := by
  have hwf : Wf (cfB u) := Keep.wf_small _ (by show (0 : Int) ≤ 5 ∧ (5 : Int) ≤ 1001; omega) Keep.zz Keep.zz ⟨by show (0 : Int) ≤ u; omega, by show u ≤ (1001 : Int); omega⟩ Keep.zz Keep.zz
  have hright : rightW (cfB u) nil0 (Wp.short []) = true := by
    refine (right_iff _ _ _ hwf).2 ⟨2, by decide, rfl, ?_, rfl, rfl⟩
    show List.all [0, 2, 3, 4, 1, 5] _ = true
    simp only [List.all_cons, List.all_nil, Bool.and_true, Bool.and_eq_true]
    exact ⟨Keep.fits_of _ _ _ 0 (by decide) (by decide) (by decide) (show (97 : Int) ≤ 98 by omega) (show (98 : Int) ≤ 104 by omega), Keep.fits_of _ _ _ 2 (by decide) (by decide) (by decide) (show (1 : Int) ≤ 5 by omega) (show (5 : Int) ≤ 1000 by omega), Keep.fits_of _ _ _ 3 (by decide) (by decide) (by decide) (show (0 : Int) ≤ 0 by omega) (show (0 : Int) ≤ 1000 by omega), Keep.fits_of _ _ _ 4 (by decide) (by decide) (by decide) (show (0 : Int) ≤ 0 by omega) (show (0 : Int) ≤ (9 : Int) by omega), Keep.fits_dead _ _ _ (.inl rfl), Keep.fits_of _ _ _ 5 (by decide) (by decide) (by decide) (show (1 : Int) ≤ u by omega) (show u ≤ (50 : Int) by omega)⟩
  refine ⟨⟨hwf, hright, by have := small_C _ hright rfl; omega⟩, ⟨rfl, .inl rfl, ?_, ?_, ?_, ?_⟩⟩
  · show (1 : Int) ≤ 5 ∧ (5 : Int) ≤ 1000; omega
  · show (0 : Int) ≤ 0 ∧ (0 : Int) ≤ 1000; omega
  · show (0 : Int) ≤ 0 ∧ (0 : Int) ≤ 9; omega
  · show (1 : Int) ≤ u ∧ u ≤ 50; omega
abbrev ackR (h : ByteArray) : Wp.Rq := ⟨65, 0, 0, 0, 0, 0, 0, 0, 0, ⟨#[]⟩, ⟨#[]⟩, ⟨#[]⟩, ⟨#[]⟩, h⟩
theorem ack_rok (h : ByteArray) (hs : h.size ≤ 255) : Rok (ackR h) := by
  have hwf : Wf (ackR h) := Keep.wf_small _ Keep.zz Keep.zz Keep.zz Keep.zz Keep.zz Keep.zz
  have hright : rightW (ackR h) nil0 (Wp.short []) = true := by
    refine (right_iff _ _ _ hwf).2 ⟨0, by decide, rfl, ?_, rfl, rfl⟩
    show List.all [13] _ = true
    simp only [List.all_cons, List.all_nil, Bool.and_true]
    exact Keep.fits_of _ _ _ 13 (by decide) (by decide) (by decide) (show (0 : Int) ≤ (h.size : Int) by omega) (show (h.size : Int) ≤ 255 by omega)
  refine ⟨hwf, hright, ?_⟩
  rw [(print_bytes _ nil0 [] hright).1, BA_size, List.append_nil, List.length_cons, show Wp.lay ((ackR h).op.toNat - 65) = [13] from rfl]
  simp only [encL, List.flatMap_cons, List.flatMap_nil, List.length_append, List.length_nil]
  rw [encF_l3 _ _ 13 rfl]
  show 1 + h.size + 0 + 1 ≤ 90000
  omega
theorem Snd.rok {r : Wp.Rq} (h : Snd r) : Rok r := ⟨h.wf, h.right, by have := h.small; omega⟩
theorem tick_rok (n : Int) (h1 : 1 ≤ n) (h2 : n ≤ 1000) : Rok ⟨84, 0, 0, 0, 0, 0, 0, 0, n, ⟨#[]⟩, ⟨#[]⟩, ⟨#[]⟩, ⟨#[]⟩, ⟨#[]⟩⟩ := by
  obtain ⟨a, b⟩ := tick_of n h1 h2
  exact ⟨a, b, by have := small_T _ b rfl; omega⟩

/-- A broker, and the row of what was sent. -/
structure MV (B : Nat) (w0 w : World) (x st b : Nat) (now : Int) (c : Nat → Option QM) (ts : List ByteArray) (sv : Value) : Prop where
  bk : ∃ col, Bk B w x st b now c col ∧ ∀ k, sv.ownBlock = some k → col k = 9
  row : w.ownsRow 0 9 1 sv ts.length (ts.map Value.string)
  lo : ∀ k, sv.ownBlock = some k → B ≤ k
  env : Env B w
  bel : Below B w0 w
theorem MV.did {B : Nat} {w0 w w' : World} {x st b : Nat} {now now' : Int} {c c' : Nat → Option QM} {ts : List ByteArray} {sv : Value} (h : MV B w0 w x st b now c ts sv) {col : Nat → Nat} (hc : ∀ k, sv.ownBlock = some k → col k = 9) (hd : Did B x st b w col now' c' w') : MV B w0 w' x st b now' c' ts sv := by
  have hE := hd.env h.env
  obtain ⟨col', h1, h2, h3⟩ := hd
  exact ⟨⟨col', h1, fun k hk => (h2 k (own_lt h.row hk)).trans (hc k hk)⟩, h3.own9 h.row hc, h.lo, hE, h.bel.trans h3.below⟩
theorem MV.tch {B : Nat} {w0 w w' : World} {x st b : Nat} {now : Int} {c : Nat → Option QM} {ts : List ByteArray} {sv : Value} (h : MV B w0 w x st b now c ts sv) (ht : Tch [] w w') : MV B w0 w' x st b now c ts sv := by
  obtain ⟨col, h1, h2⟩ := h.bk
  exact h.did h2 (did_same h1 h.env.size ht)
theorem MV.drewN {B : Nat} {w0 w : World} {x st b : Nat} {now : Int} {c : Nat → Option QM} {ts : List ByteArray} {sv : Value} (h : MV B w0 w x st b now c ts sv) (n : Nat) : MV B w0 (w.drewN n) x st b now c ts sv := h.tch ((Tch.refl [] w).drewN n)
/-- The row was written: one's own block alone, or a new one. -/
theorem MV.put {B : Nat} {w0 w w' : World} {x st b : Nat} {now : Int} {c : Nat → Option QM} {ts ts' : List ByteArray} {sv sv' : Value} (h : MV B w0 w x st b now c ts sv) (ht : Tch (bl sv) w w') (ho : w'.ownsRow 0 9 1 sv' ts'.length (ts'.map Value.string)) (hn : ∀ k, sv'.ownBlock = some k → sv.ownBlock = some k ∨ w.heap.size ≤ k) : MV B w0 w' x st b now c ts' sv' := by
  obtain ⟨col, ⟨⟨Z, hs, hc⟩, hwf, hnw, o, room, hJ⟩, h9⟩ := h.bk
  have hty : ∀ {k : Nat} {C : Array Value} {t : TypeId}, w.heap[k]? = some (.cells C t (0, 0)) → t ≠ 9 → k ∉ bl sv := fun {k C t} hk hne hm => own_ne h.row hk (Ne.symm hne) (mem_bl.1 hm)
  have hlo : ∀ k ∈ bl sv, B ≤ k := fun k hk => h.lo k (mem_bl.1 hk)
  have hE := h.env.tch ht hlo
  have hz := ht.size
  have hBw := h.env.size
  have hfr : Fr B [9] w w' := Fr.of_tch ht hBw hlo (fun k hk C t hC => by
    by_cases e : t = 9
    · simp [e]
    · exact absurd hk (hty hC e))
  refine ⟨⟨fun k => if k < w.heap.size then col k else 9, ⟨⟨Z, ⟨hs.stb.fr hfr (by decide), fun i f hi => hfr.keep _ _ _ (hs.tb i f hi) (by decide), fun i y hi hy => (hs.qr i y hi hy).tch ht (fun k hk hm => ?_), fun i y hi hy k hk => ?_, hs.lo, hs.ls⟩, hc⟩, hwf, hnw, o, room, hJ.fr hfr (by decide) (by decide) (by decide) (by decide)⟩, fun k hk => ?_⟩, ho, fun k hk => ?_, hE, h.bel.trans hfr.below⟩
  · have h1 := hs.cl i y hi hy k hk
    have h2 := h9 k (mem_bl.1 hm)
    omega
  · show (if k < w.heap.size then col k else 9) = i
    rw [if_pos ((hs.qr i y hi hy).lt k hk)]
    exact hs.cl i y hi hy k hk
  · show (if k < w.heap.size then col k else 9) = 9
    rcases hn k hk with h1 | h1
    · rw [if_pos (own_lt h.row h1)]
      exact h9 k h1
    · rw [if_neg (by omega)]
  · rcases hn k hk with h1 | h1
    · exact h.lo k h1
    · omega
/-- A message is sent to a. -/
theorem mv_S (B : Nat) (w0 w : World) (x st b : Nat) (ca cb : Wp.Rq) (hwin : ca.win = 0) (hquo : ca.quo = 20) (Bq : QM) (ts : List ByteArray) (sv : Value) (t : ByteArray) (ht : t.size ≤ 40) (hl : ts.length < 20) (h : MV B w0 w x st b 0 (c2 (gQ ca (ts.length + 1) 0 ts 0 0) Bq) ts sv) :
    Calls Tryz.prog 18 #[.pointer (some ⟨x, 0, none⟩), .agg #[.int .u8 83, .int .u8 97, .int .u8 0, .int .i64 0, .int .i64 0, .int .i64 0, .int .i64 0, .int .i64 0, .int .i64 0, .string gS, .string ⟨#[]⟩, .string t, .string ⟨#[]⟩, .string ⟨#[]⟩, .slice none 0 0]] w fun e w' => e = .returned (.string (okL (lowB (ts.length + 1) 4))) ∧ MV B w0 w' x st b 0 (c2 (gQ ca ((ts ++ [t]).length + 1) 0 (ts ++ [t]) 0 0) Bq) ts sv := by
  obtain ⟨col, hb, h9⟩ := h.bk
  have hsn := snd_of gS ⟨#[]⟩ t (by decide) (by decide) (by decide) (by decide) ht
  have h1 := ask_op (A := okL (lowB (ts.length + 1) 4)) (Dd := Did B x st b w col 0 (setC (c2 (gQ ca (ts.length + 1) 0 ts 0 0) Bq) 0 (some (sendQ (gQ ca (ts.length + 1) 0 ts 0 0) ⟨83, 97, 0, 0, 0, 0, 0, 0, 0, gS, ⟨#[]⟩, t, ⟨#[]⟩, ⟨#[]⟩⟩ 0)))) B ⟨83, 97, 0, 0, 0, 0, 0, 0, 0, gS, ⟨#[]⟩, t, ⟨#[]⟩, ⟨#[]⟩⟩ x st b 0 _ col w h.env hb hsn.rok (fun Z o room hs hc W y htW => op_S B _ x st b 0 0 _ col w h.env hb rfl (by decide) rfl (gQ ca (ts.length + 1) 0 ts 0 0) (c2_0 _ _) (by show (-1 : Int) < 0; omega) ht ⟨by show 1 ≤ 1; omega, by show 1 ≤ 8; omega⟩ (by show 0 ≤ 8; omega) (by show ((hdF 0 0 0 ts).length : Int) < ca.quo; rw [hdF_len, hquo]; omega) (by show ts.length + 1 ≤ 200; omega) Z o room hs hc W y htW)
  refine h1.mono ?_
  rintro e w' ⟨rfl, hd⟩
  refine ⟨rfl, ?_⟩
  have h2 := h.did h9 hd
  rw [set_c2_0, send_gQ ca hwin ts _ rfl] at h2
  exact h2
/-- Nothing is received from a queue without ready groups. -/
theorem mv_R0 (B : Nat) (w0 w : World) (q : UInt8) (x st b i : Nat) (hi : i < 8) (hq : q.toNat = 97 + i) (now : Int) (c : Nat → Option QM) (cq : Wp.Rq) (nx k : Nat) (rc : Int) (ts : List ByteArray) (sv : Value) (hQ : c i = some (gQ cq nx k [] rc 0)) (h : MV B w0 w x st b now c ts sv) :
    Calls Tryz.prog 22 #[.pointer (some ⟨x, 0, none⟩), .int .u8 (q.toNat : Int), .string ⟨#[]⟩, .int .i64 1] w fun e w' => ∃ a cp, e = .returned (.tuple #[.slice a 0 cp, .bool true]) ∧ MV B w0 w' x st b now c ts sv := by
  obtain ⟨col, hb, h9⟩ := h.bk
  refine (receive_g B q x st b i 1 0 now c col w h.env hb hi hq _ hQ (by show 0 < 20; omega) ⟨by omega, by omega⟩ (by show 0 = if 1 ≤ 0 then 1 else 0; rfl)).mono ?_
  rintro e w' ⟨v, rfl, ho, hd⟩
  obtain ⟨a, cp, rfl⟩ := own_shape' ho
  exact ⟨a, cp, rfl, h.did h9 hd⟩
/-- The first message of a queue is received. -/
theorem mv_R (B : Nat) (w0 w : World) (q : UInt8) (x st b i : Nat) (hi : i < 8) (hq : q.toNat = 97 + i) (now : Int) (c : Nat → Option QM) (cq : Wp.Rq) (nx k rc : Nat) (hrc : rc < 1000) (hvis : cq.vis = 5) (t : ByteArray) (r : List ByteArray) (ts : List ByteArray) (sv : Value) (hQ : c i = some (gQ cq nx k (t :: r) rc 0)) (h : MV B w0 w x st b now c ts sv) :
    Calls Tryz.prog 22 #[.pointer (some ⟨x, 0, none⟩), .int .u8 (q.toNat : Int), .string ⟨#[]⟩, .int .i64 1] w fun e w' => ∃ g cp, e = .returned (.tuple #[.slice (some ⟨g, 0, none⟩) 1 cp, .bool true]) ∧ w'.cell? ⟨g, 0, none⟩ = some (.string ⟨(hanB cq.q (k + 1) (rc + 1)).toArray⟩) ∧ w'.cell? ⟨g, 1, none⟩ = some (.string gS) ∧ w'.cell? ⟨g, 2, none⟩ = some (.string t) ∧ MV B w0 w' x st b now (setC c i (some (gQ cq nx k (t :: r) ((rc + 1 : Nat) : Int) (now + 5)))) ts sv := by
  obtain ⟨col, hb, h9⟩ := h.bk
  have hnw := hb.nw
  refine (receive_g B q x st b i 1 1 now c col w h.env hb hi hq _ hQ (by show 0 < 20; omega) ⟨by omega, by omega⟩ (by show 1 = if 1 ≤ 1 then 1 else 1; rfl)).mono ?_
  rintro e w' ⟨v, rfl, ho, hd⟩
  rw [ent_gQ cq nx k rc hrc t r] at ho
  have ho' : w'.ownsRow 0 50 3 v 1 [.string ⟨(hanB cq.q (k + 1) (rc + 1)).toArray⟩, .string gS, .string t] := ho
  obtain ⟨g, cp, rfl⟩ : ∃ g cp, v = .slice (some ⟨g, 0, none⟩) 1 cp := by
    rcases ho'.2 with ⟨_, h0⟩ | ⟨g, cap, cur, h0, _⟩
    · omega
    · exact ⟨_, _, h0⟩
  have hcell : ∀ j u, [Value.string ⟨(hanB cq.q (k + 1) (rc + 1)).toArray⟩, .string gS, .string t][j]? = some u → w'.cell? ⟨g, j, none⟩ = some u := fun j u hj => by
    have h2 := World.ownsRow.cells ho' (g := g) rfl j u hj
    rw [add_zero_at] at h2
    exact h2
  refine ⟨g, cp, rfl, hcell 0 _ rfl, hcell 1 _ rfl, hcell 2 _ rfl, ?_⟩
  have h2 := h.did h9 hd
  have e : recvC c i (gQ cq nx k (t :: r) rc 0) ⟨#[]⟩ 1 now = setC c i (some (gQ cq nx k (t :: r) ((rc + 1 : Nat) : Int) (now + 5))) := by
    unfold recvC
    rw [if_neg (by omega), recv_gQ cq nx k rc hrc t r _ (by show now + cq.vis ≠ 0; rw [hvis]; omega)]
    show setC c i (some (gQ cq nx k (t :: r) ((rc + 1 : Nat) : Int) (now + cq.vis))) = _
    rw [hvis]
  rw [e] at h2
  exact h2
/-- The time goes on by five. -/
theorem mv_T (B : Nat) (w0 w : World) (x st b : Nat) (now : Int) (c : Nat → Option QM) (ts : List ByteArray) (sv : Value) (hn : now ≤ 50000) (h : MV B w0 w x st b now c ts sv) :
    Calls Tryz.prog 18 #[.pointer (some ⟨x, 0, none⟩), .agg #[.int .u8 84, .int .u8 0, .int .u8 0, .int .i64 0, .int .i64 0, .int .i64 0, .int .i64 0, .int .i64 0, .int .i64 5, .string ⟨#[]⟩, .string ⟨#[]⟩, .string ⟨#[]⟩, .string ⟨#[]⟩, .string ⟨#[]⟩, .slice none 0 0]] w fun e w' => e = .returned (.string ⟨#[0]⟩) ∧ MV B w0 w' x st b (now + 5) (timeC (now + 5) c) ts sv := by
  obtain ⟨col, hb, h9⟩ := h.bk
  have h1 := ask_op (A := okL []) (Dd := Did B x st b w col (now + 5) (timeC (now + 5) c)) B ⟨84, 0, 0, 0, 0, 0, 0, 0, 5, ⟨#[]⟩, ⟨#[]⟩, ⟨#[]⟩, ⟨#[]⟩, ⟨#[]⟩⟩ x st b now c col w h.env hb (tick_rok 5 (by decide) (by decide)) (fun Z o room hs hc W y htW => op_T B _ x st b now c col w h.env hb rfl ⟨by show (0 : Int) ≤ 5; omega, by show now + 5 ≤ 60000; omega⟩ Z o room hs hc W y htW)
  refine h1.mono ?_
  rintro e w' ⟨rfl, hd⟩
  exact ⟨rfl, h.did h9 hd⟩
/-- The first message is acknowledged. -/
theorem mv_A (B : Nat) (w0 w : World) (x st b i : Nat) (hi : i < 8) (now : Int) (c : Nat → Option QM) (cq : Wp.Rq) (hq : cq.q.toNat = 97 + i) (nx k rc : Nat) (hk : k < 1000) (hrc : rc < 1000) (tl : Int) (htl : 0 < tl) (t : ByteArray) (r : List ByteArray) (ts : List ByteArray) (sv : Value) (hQ : c i = some (gQ cq nx k (t :: r) (rc : Int) tl)) (h : MV B w0 w x st b now c ts sv) :
    Calls Tryz.prog 18 #[.pointer (some ⟨x, 0, none⟩), .agg #[.int .u8 65, .int .u8 0, .int .u8 0, .int .i64 0, .int .i64 0, .int .i64 0, .int .i64 0, .int .i64 0, .int .i64 0, .string ⟨#[]⟩, .string ⟨#[]⟩, .string ⟨#[]⟩, .string ⟨#[]⟩, .string ⟨(hanB cq.q (k + 1) rc).toArray⟩, .slice none 0 0]] w fun e w' => e = .returned (.string ⟨#[0]⟩) ∧ MV B w0 w' x st b now (setC c i (some (gQ cq nx (k + 1) r 0 0))) ts sv := by
  obtain ⟨col, hb, h9⟩ := h.bk
  have hfl : fliesQ (gQ cq nx k (t :: r) (rc : Int) tl) ((k + 1 : Nat) : Int) (rc : Int) = true := by
    unfold fliesQ
    have e1 : (gQ cq nx k (t :: r) (rc : Int) tl).ms.find? (isN ((k + 1 : Nat) : Int)) = some ⟨((k + 1 : Nat) : Int), gS, t, rc, tl⟩ := find_hd k rc tl t r
    rw [e1]
    simp [htl]
  have h1 := ask_op (A := okL []) (Dd := Did B x st b w col now (setC c i (some (dropQ (gQ cq nx k (t :: r) (rc : Int) tl) ((k + 1 : Nat) : Int))))) B (ackR ⟨(hanB cq.q (k + 1) rc).toArray⟩) x st b now c col w h.env hb (ack_rok _ (by show (hanB cq.q (k + 1) rc).toArray.size ≤ 255; simp [hanB_len])) (fun Z o room hs hc W y htW => op_A B _ x st b i (k + 1) rc now c col w h.env hb rfl hi (han_is cq.q i (k + 1) rc hq hi (by omega) (by omega)) _ hQ hfl Z o room hs hc W y htW)
  refine h1.mono ?_
  rintro e w' ⟨rfl, hd⟩
  refine ⟨rfl, ?_⟩
  have h2 := h.did h9 hd
  rw [drop_gQ cq nx k _ tl (by omega) t r] at h2
  exact h2
end Go.Proofs.YtbdobaapadlcjaaGreatDoor
