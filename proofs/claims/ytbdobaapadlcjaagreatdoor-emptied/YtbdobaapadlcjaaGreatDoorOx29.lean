import Derived.Test.YtbdobaapadlcjaaGreatDoorOx18
import Derived.Test.YtbdobaapadlcjaaGreatDoorOx12
import Derived.Test.YtbdobaapadlcjaaGreatDoorOx25
import Derived.Test.YtbdobaapadlcjaaGreatDoorOx28
import Derived.Test.YtbdobaapadlcjaaGreatDoorOx19
import Derived.Test.YtbdobaapadlcjaaGreatDoorOx08
namespace Go.Proofs.YtbdobaapadlcjaaGreatDoor
open Go.RowKit
set_option linter.unusedVariables false
set_option linter.unusedSimpArgs false
def Chg (B m xb st : Nat) (K : ByteArray → World → Prop) (t : ByteArray) (chg : Value) (w : World) : Prop :=
  (chg = .nilFunc ∧ ∀ w2, Tch [] w w2 → K t w2) ∨ ∃ f cap, chg = .func (.func f) #[] cap ∧ (∀ args w, (callFunc f args).run Tryz.prog w = .ok (.enter f args) w) ∧ ∀ w2 w3, Tch [] w w2 → Fr B TJ w2 w3 → Jn false B m w3 xb st → Calls Tryz.prog f cap w3 fun e w' => e = .returned (.tuple #[]) ∧ K t w'
abbrev okN (k : Nat) : ByteArray := ⟨(0 :: lowB k 4).toArray⟩
abbrev okL (l : List UInt8) : ByteArray := ⟨(0 :: l).toArray⟩
theorem eg158 : ∀ args w, (callFunc 218 args).run Tryz.prog w = .ok (.enter 218 args) w := enters_of Tryz.func218 (by kernel_rfl) rfl
theorem Tab.tch {w w' : World} (h : Tab w) {S : List Nat} (ht : Tch S w w') (hS : ∀ k ∈ S, 3 ≤ k) (h3 : 3 ≤ w.heap.size) : Tab w' := h.below (B := 3) (ht.below hS h3) (by decide)
theorem Lays.tch {B : Nat} {w w' : World} (h : Lays B w) {S : List Nat} (ht : Tch S w w') (hS : ∀ k ∈ S, B ≤ k) (hB : B ≤ w.heap.size) : Lays B w' := h.below (ht.below hS hB)
end Go.Proofs.YtbdobaapadlcjaaGreatDoor
namespace Go.Proofs.YtbdobaapadlcjaaGreatDoor
open Go.Shelf Go.RowKit Go.Lib
set_option linter.unusedVariables false
set_option linter.unusedSimpArgs false
end Go.Proofs.YtbdobaapadlcjaaGreatDoor
namespace Go.Proofs.YtbdobaapadlcjaaGreatDoor
open Go.RowKit
set_option linter.unusedVariables false
set_option linter.unusedSimpArgs false
set_option maxHeartbeats 400000 in
theorem went_walk (K : World → Prop) (gs gl st : Nat) (now : Int) (w : World) (hgs : w.heap[gs]? = some (.cells #[.pointer (some ⟨st, 0, none⟩)] 96 (0, 0))) (hgl : w.heap[gl]? = some (.cells #[.int .i64 now] 3 (0, 0)))
    (hS : Calls Tryz.prog 221 #[.pointer (some ⟨st, 0, none⟩), .int .i64 now] w fun e w' => e = .returned (.tuple #[]) ∧ K w') :
    Calls Tryz.prog 220 #[.pointer (some ⟨gs, 0, none⟩), .pointer (some ⟨gl, 0, none⟩)] w fun e w' => e = .returned (.tuple #[]) ∧ K w' := by
  have c1 := cell_of_one hgs
  have c2 := cell_of_one hgl
  have HS : Hid (Calls Tryz.prog 221 _ w _) := hS
  clear hS hgs hgl
  go_enter Tryz.func220, Tryz.ntmps220
  go_wp2_with (go_at_call 221; refine HS.out.mono ?_; rintro e w' ⟨rfl, hk⟩)
  go_end0
  exact ⟨rfl, by assumption⟩
abbrev TG : List TypeId := [234, 143, 110, 116, 156, 191, 226, 230, 9]
structure GQ (B m : Nat) (w : World) (x st b qb : Nat) (now : Int) (V : QV) (Q : QM) : Prop where
  brk : Brk w st b now (.pointer (some ⟨qb, 0, none⟩))
  qr : QR w qb V Q
  jn : Jn false B m w x st
  lo : ∀ k ∈ st :: qbl qb V, B ≤ k
theorem eg212 : ∀ args w, (callFunc 212 args).run Tryz.prog w = .ok (.enter 212 args) w := enters_of Tryz.func212 (by kernel_rfl) rfl
theorem ansL_pos (Q : QM) (cnt k : Nat) : 0 < (ansL Q cnt k).length := by
  unfold ansL
  rw [List.length_append, lowB_length]
  omega
theorem okL_size (l : List UInt8) : (okL l).size = l.length + 1 := by
  show (0 :: l).toArray.size = _
  simp
theorem okL_get (l : List UInt8) (i : Nat) (h : i < (okL l).size) : (okL l)[i] = (0 :: l)[i]'(by rw [okL_size] at h; simpa using h) := by
  show (0 :: l).toArray[i] = _
  simp
set_option maxHeartbeats 400000 in
theorem fine_ok (l : List UInt8) (w : World) (hl : l.length ≤ 10000) : Calls Tryz.prog 35 #[.string (okL l)] w fun e w' => e = .returned (.bool true) ∧ w' = w := by
  have hsz := okL_size l
  have hp : 0 < (okL l).size := by omega
  have hb : ((((okL l)[0].toNat : Nat) : Int) == 0) = true := by rw [okL_get]; rfl
  generalize okL l = s at *
  go_enter Tryz.func35, Tryz.ntmps35
  go_wp2
  go_ret
  exact ⟨rfl, rfl⟩
set_option maxHeartbeats 1000000 in
theorem number4_any (s : ByteArray) (w : World) (hs : s.size = 4) : Calls Tryz.prog 36 #[.string s] w fun e w' => e = .returned (.int .i64 ((s[0].toNat + 256 * (s[1].toNat + 256 * (s[2].toNat + 256 * s[3].toNat)) : Nat) : Int)) ∧ w' = w := by
  have b0 := s[0].toNat_lt
  have b1 := s[1].toNat_lt
  have b2 := s[2].toNat_lt
  have b3 := s[3].toNat_lt
  go_enter Tryz.func36, Tryz.ntmps36
  go_wp2
  refine wp_loop_rounds 5 ?_
  rw [rounds_succ]
  go_wp2
  rw [rounds_succ]
  go_wp2
  rw [rounds_succ]
  go_wp2
  rw [rounds_succ]
  go_wp2
  rw [rounds_succ]
  go_wp2
  go_ret
  exact ⟨ret_int (by omega), rfl⟩
set_option maxHeartbeats 1000000 in
theorem text_at (s : ByteArray) (a n : Nat) (w : World) (hs : s.size ≤ 100000) (ha : a < s.size) (hn : s[a].toNat = n) (he : a + 1 + n ≤ s.size) :
    Calls Tryz.prog 38 #[.string s, .int .i64 (a : Int)] w fun e w' => e = .returned (.tuple #[.string (s.extract (a + 1) (a + 1 + n)), .int .i64 ((a + 1 + n : Nat) : Int), .bool true]) ∧ w' = w := by
  have hb := s[a].toNat_lt
  go_enter Tryz.func38, Tryz.ntmps38
  go_wp2
  go_ret3
  exact ⟨rfl, rfl⟩
def snR (m : Ms) : List Value := [.int .i64 m.num, .string m.grp, .string m.bod, .bool false, .int .i64 0, .bool false]
def lnC (x : Nat) (c : Wp.Rq) (sv : Value) : Array Value := #[.pointer (some ⟨x, 0, none⟩), .int .u8 (c.op.toNat : Int), .int .u8 (c.q.toNat : Int), .int .u8 (c.d.toNat : Int), .int .i64 c.vis, .int .i64 c.win, .int .i64 c.rcv, .int .i64 c.quo, .int .i64 c.mx, .int .i64 c.tic, .string c.grp, .string c.ded, .string c.bod, .string c.att, .string c.han, .slice none 0 0, .int .i64 0, sv, .slice none 0 0]
def Ln (w : World) (lb x : Nat) (c : Wp.Rq) (sv : Value) : Prop := w.heap[lb]? = some (.cells (lnC x c sv) 42 (0, 0))
theorem idxL_hit {α : Type} (p : α → Bool) : ∀ (l : List α) (j : Nat) (hj : j < l.length), p l[j] = true → (∀ i (hi : i < j), p (l[i]'(by omega)) = false) → idxL p l = (j : Int)
  | x :: l, 0, hj, hp, hb => by
    have hp' : p x = true := hp
    simp [idxL, hp']
  | x :: l, j + 1, hj, hp, hb => by
    have h0 : p x = false := hb 0 (by omega)
    have ih := idxL_hit p l j (by simpa using hj) hp (fun i hi => hb (i + 1) (by omega))
    simp only [idxL, h0, Bool.false_eq_true, if_false, ih]
    rw [if_neg (by omega)]
    omega
end Go.Proofs.YtbdobaapadlcjaaGreatDoor
namespace Go.Proofs.YtbdobaapadlcjaaGreatDoor.Keep
open Go.RowKit
set_option linter.unusedVariables false
set_option linter.unusedSimpArgs false
set_option maxHeartbeats 1000000 in
theorem shaped_C (r : Wp.Rq) (x : Sl) (w : World) (hm : r.op.toNat % 10 = 0) (hw : Wf r) (hz : Szs r) :
    Calls Tryz.prog 30 #[.agg (cellsOf r x.v)] w fun e w' => (∃ q d : UInt8, e = .returned (.agg (cellsOf ⟨67, q, d, (1 + pk r.vis 1000), pk r.win 1001, pk r.rcv 10, (1 + pk r.quo 50), 0, 0, ⟨#[]⟩, ⟨#[]⟩, ⟨#[]⟩, ⟨#[]⟩, ⟨#[]⟩⟩ (Sl.v ⟨none, 0, 0⟩)))) ∧ Below w.heap.size w w' := by
  have hmi : ((r.op.toNat : Nat) : Int) % 10 = 0 := by omega
  have hch : (ByteArray.mk #[67, 88, 80, 83, 82, 65, 69, 84, 86, 66])[0].toNat = 67 := rfl
  have hpkV : Hid (∀ W, Calls Tryz.prog 14 #[.int .i64 r.vis, .int .i64 1000] W fun e w' => e = .returned (.int .i64 (pk r.vis 1000)) ∧ w' = W) := fun W => pick_any r.vis 1000 W hw.vis.1 hw.vis.2 (by decide) (by decide)
  have hp1V := pk_nonneg r.vis 1000 (by decide)
  have hp2V := pk_lt r.vis 1000 (by decide)
  generalize pk r.vis 1000 = V at hpkV hp1V hp2V ⊢
  have hpkW2 : Hid (∀ W, Calls Tryz.prog 14 #[.int .i64 r.win, .int .i64 1001] W fun e w' => e = .returned (.int .i64 (pk r.win 1001)) ∧ w' = W) := fun W => pick_any r.win 1001 W hw.win.1 hw.win.2 (by decide) (by decide)
  have hp1W2 := pk_nonneg r.win 1001 (by decide)
  have hp2W2 := pk_lt r.win 1001 (by decide)
  generalize pk r.win 1001 = W2 at hpkW2 hp1W2 hp2W2 ⊢
  have hpkR : Hid (∀ W, Calls Tryz.prog 14 #[.int .i64 r.rcv, .int .i64 10] W fun e w' => e = .returned (.int .i64 (pk r.rcv 10)) ∧ w' = W) := fun W => pick_any r.rcv 10 W hw.rcv.1 hw.rcv.2 (by decide) (by decide)
  have hp1R := pk_nonneg r.rcv 10 (by decide)
  have hp2R := pk_lt r.rcv 10 (by decide)
  generalize pk r.rcv 10 = R at hpkR hp1R hp2R ⊢
  have hpkU : Hid (∀ W, Calls Tryz.prog 14 #[.int .i64 r.quo, .int .i64 50] W fun e w' => e = .returned (.int .i64 (pk r.quo 50)) ∧ w' = W) := fun W => pick_any r.quo 50 W hw.quo.1 hw.quo.2 (by decide) (by decide)
  have hp1U := pk_nonneg r.quo 50 (by decide)
  have hp2U := pk_lt r.quo 50 (by decide)
  generalize pk r.quo 50 = U at hpkU hp1U hp2U ⊢
  have hinf := info37
  clear hw hz
  rw [show cellsOf r x.v = #[.int .u8 (r.op.toNat : Int), .int .u8 (r.q.toNat : Int), .int .u8 (r.d.toNat : Int), .int .i64 r.vis, .int .i64 r.win, .int .i64 r.rcv, .int .i64 r.quo, .int .i64 r.mx, .int .i64 r.tic, .string r.grp, .string r.ded, .string r.bod, .string r.att, .string r.han, .slice x.a x.n x.c] from rfl]
  go_enter Tryz.func30, Tryz.ntmps30
  go_wp2_with fail
  refine (letter_any r.q _).mono ?_
  rintro e w' ⟨⟨d, rfl, hd1, hd2⟩, rfl⟩
  go_wp2_with fail
  refine (hpkV.out _).mono ?_
  rintro e w' ⟨rfl, rfl⟩
  go_wp2_with fail
  refine (hpkW2.out _).mono ?_
  rintro e w' ⟨rfl, rfl⟩
  go_wp2_with fail
  refine (hpkR.out _).mono ?_
  rintro e w' ⟨rfl, rfl⟩
  go_wp2_with fail
  refine (hpkU.out _).mono ?_
  rintro e w' ⟨rfl, rfl⟩
  go_wp2_with fail
  refine (letter_any r.d _).mono ?_
  rintro e w' ⟨⟨d2, rfl, he1, he2⟩, rfl⟩
  by_cases hdd : d2 = d
  · have hdb : (((d2.toNat : Nat) : Int) == ((d.toNat : Nat) : Int)) = true := by rw [hdd]; simp
    clear hdd
    go_wp2_with fail
    refine bodyPost_ret (results_cell_row (p := 2) rfl _ _ (w.heap.size + 1) 27 (cellsOf ⟨67, d, 45, (1 + V), W2, R, (1 + U), 0, 0, ⟨#[]⟩, ⟨#[]⟩, ⟨#[]⟩, ⟨#[]⟩, ⟨#[]⟩⟩ (Sl.v ⟨none, 0, 0⟩)) (0, 0) _ rfl ?_ Tryz.underlying27 rfl hinf) rfl ⟨⟨_, _, rfl⟩, ?_⟩
    · exact heap3 _ _ _ _
    · exact below3 _ _ _ _
  · have hdb : (((d2.toNat : Nat) : Int) == ((d.toNat : Nat) : Int)) = false := by
      rw [beq_eq_false_iff_ne]
      intro e
      exact hdd (UInt8.toNat_inj.1 (by omega))
    have HDD : Hid (d2 ≠ d) := hdd
    clear hdd
    go_wp2_with fail
    refine bodyPost_ret (results_cell_row (p := 2) rfl _ _ (w.heap.size + 1) 27 (cellsOf ⟨67, d, d2, (1 + V), W2, R, (1 + U), 0, 0, ⟨#[]⟩, ⟨#[]⟩, ⟨#[]⟩, ⟨#[]⟩, ⟨#[]⟩⟩ (Sl.v ⟨none, 0, 0⟩)) (0, 0) _ rfl ?_ Tryz.underlying27 rfl hinf) rfl ⟨⟨_, _, rfl⟩, ?_⟩
    · exact heap3 _ _ _ _
    · exact below3 _ _ _ _
end Go.Proofs.YtbdobaapadlcjaaGreatDoor.Keep
namespace Go.Proofs.YtbdobaapadlcjaaGreatDoor
open Go.RowKit
set_option linter.unusedVariables false
set_option linter.unusedSimpArgs false
def cqN (V W2 R U : Int) : Wp.Rq := ⟨67, 97, 45, 1 + V, W2, R, 1 + U, 0, 0, ⟨#[]⟩, ⟨#[]⟩, ⟨#[]⟩, ⟨#[]⟩, ⟨#[]⟩⟩
theorem cqN_wf (V W2 R U : Int) (h1 : 0 ≤ V ∧ V < 1000) (h2 : 0 ≤ W2 ∧ W2 < 1001) (h3 : 0 ≤ R ∧ R < 10) (h4 : 0 ≤ U ∧ U < 50) : Wf (cqN V W2 R U) :=
  Keep.wf_small _ ⟨by show (0 : Int) ≤ 1 + V; omega, by show 1 + V ≤ (1001 : Int); omega⟩ ⟨by show (0 : Int) ≤ W2; omega, by show W2 ≤ (1001 : Int); omega⟩ ⟨by show (0 : Int) ≤ R; omega, by show R ≤ (1001 : Int); omega⟩ ⟨by show (0 : Int) ≤ 1 + U; omega, by show 1 + U ≤ (1001 : Int); omega⟩ Keep.zz Keep.zz
theorem cqN_right (V W2 R U : Int) (h1 : 0 ≤ V ∧ V < 1000) (h2 : 0 ≤ W2 ∧ W2 < 1001) (h3 : 0 ≤ R ∧ R < 10) (h4 : 0 ≤ U ∧ U < 50) : rightW (cqN V W2 R U) nil0 (Wp.short []) = true := by
  refine (right_iff _ _ _ (cqN_wf V W2 R U h1 h2 h3 h4)).2 ⟨2, by decide, rfl, ?_, rfl, rfl⟩
  show List.all [0, 2, 3, 4, 1, 5] _ = true
  simp only [List.all_cons, List.all_nil, Bool.and_true, Bool.and_eq_true]
  exact ⟨Keep.fits_of _ _ _ 0 (by decide) (by decide) (by decide) (show (97 : Int) ≤ 97 by omega) (show (97 : Int) ≤ 104 by omega), Keep.fits_of _ _ _ 2 (by decide) (by decide) (by decide) (show (1 : Int) ≤ 1 + V by omega) (show 1 + V ≤ (1000 : Int) by omega), Keep.fits_of _ _ _ 3 (by decide) (by decide) (by decide) (show (0 : Int) ≤ W2 by omega) (show W2 ≤ (1000 : Int) by omega), Keep.fits_of _ _ _ 4 (by decide) (by decide) (by decide) (show (0 : Int) ≤ R by omega) (show R ≤ (9 : Int) by omega), Keep.fits_dead _ _ _ (Or.inl rfl), Keep.fits_of _ _ _ 5 (by decide) (by decide) (by decide) (show (1 : Int) ≤ 1 + U by omega) (show 1 + U ≤ (50 : Int) by omega)⟩
structure Game (B m : Nat) (w : World) (lb x st b qb : Nat) (c : Wp.Rq) : Prop where
  line : w.heap[lb]? = some (.cells (#[.pointer (some ⟨x, 0, none⟩)] ++ cellsOf c nil0.v ++ #[.int .i64 0, .slice none 0 0, .slice none 0 0]) 42 (0, 0))
  brk : Brk w st b 0 (.pointer (some ⟨qb, 0, none⟩))
  que : Qb w qb c 1 (.slice none 0 0) (.slice none 0 0) (.slice none 0 0) (.slice none 0 0)
  jn : Jn false B m w x st
  lo : B ≤ st ∧ B ≤ qb
structure Env (B : Nat) (w : World) : Prop where
  lays : Lays B w
  tab : Tab w
  size : B ≤ w.heap.size
  three : 3 ≤ B
theorem Env.tch {B : Nat} {w w' : World} (h : Env B w) {S : List Nat} (ht : Tch S w w') (hS : ∀ k ∈ S, B ≤ k) : Env B w' := ⟨Lays.tch h.lays ht hS h.size, h.tab.tch ht (fun k hk => Nat.le_trans h.three (hS k hk)) (Nat.le_trans h.three h.size), Nat.le_trans h.size ht.size, h.three⟩
theorem Env.fr {B : Nat} {T : List TypeId} {w w' : World} (h : Env B w) (hf : Fr B T w w') : Env B w' := ⟨h.lays.fr hf, h.tab.fr hf h.three, Nat.le_trans h.size hf.size, h.three⟩
structure Snd (r : Wp.Rq) : Prop where
  wf : Wf r
  right : rightW r nil0 (Wp.short []) = true
  op : r.op = 83
  q : r.q = 97
  bod : r.bod.size ≤ 40
  small : (printS r nil0 []).size ≤ 300
theorem snd_of (g d b : ByteArray) (hg1 : 1 ≤ g.size) (hg8 : g.size ≤ 8) (hd8 : d.size ≤ 8) (hdo : Wp.dedOk d = true) (hb : b.size ≤ 40) : Snd ⟨83, 97, 0, 0, 0, 0, 0, 0, 0, g, d, b, ⟨#[]⟩, ⟨#[]⟩⟩ := by
  have hwf : Wf ⟨83, 97, 0, 0, 0, 0, 0, 0, 0, g, d, b, ⟨#[]⟩, ⟨#[]⟩⟩ := Keep.wf_small _ Keep.zz Keep.zz Keep.zz Keep.zz Keep.zz Keep.zz
  have hright : rightW ⟨83, 97, 0, 0, 0, 0, 0, 0, 0, g, d, b, ⟨#[]⟩, ⟨#[]⟩⟩ nil0 (Wp.short []) = true := by
    refine (right_iff _ _ _ hwf).2 ⟨18, by decide, rfl, ?_, rfl, rfl⟩
    show List.all [0, 9, 10, 11] _ = true
    simp only [List.all_cons, List.all_nil, Bool.and_true, Bool.and_eq_true]
    exact ⟨Keep.fits_of _ _ _ 0 (by decide) (by decide) (by decide) (show (97 : Int) ≤ 97 by omega) (show (97 : Int) ≤ 104 by omega), Keep.fits_of _ _ _ 9 (by decide) (by decide) (by decide) (show (1 : Int) ≤ (g.size : Int) by omega) (show (g.size : Int) ≤ 8 by omega), Keep.fits_dedup _ _ _ hd8 hdo, Keep.fits_of _ _ _ 11 (by decide) (by decide) (by decide) (show (0 : Int) ≤ (b.size : Int) by omega) (show (b.size : Int) ≤ 255 by omega)⟩
  exact ⟨hwf, hright, rfl, rfl, hb, small_S _ hright rfl (by show g.size ≤ 20; omega) (by show d.size ≤ 20; omega) (by show b.size ≤ 200; omega)⟩
theorem tick_of (n : Int) (h1 : 1 ≤ n) (h2 : n ≤ 1000) : Wf ⟨84, 0, 0, 0, 0, 0, 0, 0, n, ⟨#[]⟩, ⟨#[]⟩, ⟨#[]⟩, ⟨#[]⟩, ⟨#[]⟩⟩ ∧ rightW ⟨84, 0, 0, 0, 0, 0, 0, 0, n, ⟨#[]⟩, ⟨#[]⟩, ⟨#[]⟩, ⟨#[]⟩, ⟨#[]⟩⟩ nil0 (Wp.short []) = true := by
  have hwf : Wf ⟨84, 0, 0, 0, 0, 0, 0, 0, n, ⟨#[]⟩, ⟨#[]⟩, ⟨#[]⟩, ⟨#[]⟩, ⟨#[]⟩⟩ := Keep.wf_small _ Keep.zz Keep.zz Keep.zz Keep.zz Keep.zz ⟨by show (0 : Int) ≤ n; omega, by show n ≤ (1001 : Int); omega⟩
  refine ⟨hwf, ?_⟩
  refine (right_iff _ _ _ hwf).2 ⟨19, by decide, rfl, ?_, rfl, rfl⟩
  show List.all [8] _ = true
  simp only [List.all_cons, List.all_nil, Bool.and_true]
  exact Keep.fits_of _ _ _ 8 (by decide) (by decide) (by decide) (show (1 : Int) ≤ n by omega) (show n ≤ (1000 : Int) by omega)
structure Sent (B mm : Nat) (w : World) (x st b qb gm cm gd cd nd : Nat) (rs : Value) (c : Wp.Rq) (m : Ms) (d : Dd) (now : Int) : Prop where
  brk : Brk w st b now (.pointer (some ⟨qb, 0, none⟩))
  que : Qb w qb c 2 (.slice (some ⟨gm, 0, none⟩) 1 cm) rs (.slice (some ⟨gd, 0, none⟩) nd cd) (.slice none 0 0)
  ms : w.ownsRow 0 226 5 (.slice (some ⟨gm, 0, none⟩) 1 cm) 1 m.row
  dd : w.ownsRow 0 230 3 (.slice (some ⟨gd, 0, none⟩) nd cd) nd (if nd = 1 then d.row else [])
  rd : ∃ nr xr, w.ownsRow 0 9 1 rs nr xr ∧ nr ≤ 1
  jn : Jn false B mm w x st
  lo : B ≤ st ∧ B ≤ qb ∧ B ≤ gm ∧ B ≤ gd ∧ ∀ j, rs.ownBlock = some j → B ≤ j
end Go.Proofs.YtbdobaapadlcjaaGreatDoor
namespace Go.Proofs.YtbdobaapadlcjaaGreatDoor
open Go.RowKit Keep
set_option linter.unusedVariables false
set_option linter.unusedSimpArgs false
structure SI (Q : QM) : Prop where
  next : Q.next = Q.ms.length + 1
  num : ∀ j (h : j < Q.ms.length), Q.ms[j].num = ((j + 1 : Nat) : Int)
  ok : ∀ m ∈ Q.ms, m.rcv = 0 ∧ m.til = 0 ∧ m.grp.size ≤ 8 ∧ m.bod.size ≤ 40
  rs : Q.rs.length ≤ Q.ms.length
  rd : ∀ g ∈ Q.rs, 0 ≤ idxL (isG g) Q.ms
  nd : Q.rs.Nodup
  ds : Q.ds.length ≤ Q.ms.length
  dn : ∀ d ∈ Q.ds, ∃ n : Nat, d.num = (n : Int) ∧ 1 ≤ n ∧ n ≤ Q.ms.length
  dw : Q.ds ≠ [] → 0 < Q.c.win
  ats : Q.ats = []
  ne : Q.ms ≠ [] → Q.rs ≠ []
theorem idxL_ex {α : Type} (p : α → Bool) (l : List α) : 0 ≤ idxL p l ↔ ∃ x ∈ l, p x = true := by
  constructor
  · intro h
    by_cases hc : ∃ x ∈ l, p x = true
    · exact hc
    · have : idxL p l < 0 := (idxL_neg p l).2 (fun x hx => by
        cases hp : p x with
        | false => rfl
        | true => exact absurd ⟨x, hx, hp⟩ hc)
      omega
  · rintro ⟨x, hx, hp⟩
    by_cases hc : idxL p l < 0
    · have := (idxL_neg p l).1 hc x hx
      rw [hp] at this
      cases this
    · omega
def nmS (s : ByteArray) : ByteArray := if 0 < s.size then sh s 8 else ⟨#[103]⟩
theorem nmS_size (s : ByteArray) : 1 ≤ (nmS s).size ∧ (nmS s).size ≤ 8 := by
  unfold nmS
  split
  · rename_i h
    exact ⟨sh_pos s 8 h (by decide), sh_size s 8⟩
  · decide
set_option maxHeartbeats 400000 in
theorem named_d (s : ByteArray) (w : World) (hs : s.size ≤ maxLen) : Calls Tryz.prog 16 #[.string s] w fun e w' => e = .returned (.string (nmS s)) ∧ w' = w := by
  by_cases h : 0 < s.size
  · have he : s.toList.isEmpty = false := str_ne h
    have hv : Hid (nmS s = sh s 8) := by show _ = _; unfold nmS; rw [if_pos h]
    have hsh : Hid (Calls Tryz.prog 15 #[.string s, .int .i64 8] w fun e w' => e = .returned (.string (sh s 8)) ∧ w' = w) := short_any s 8 w hs (by decide)
    go_enter Tryz.func16, Tryz.ntmps16
    go_wp2_with (go_at_call 15; refine (hsh.out).mono ?_; rintro e w' ⟨rfl, rfl⟩)
    go_ret
    exact ⟨ret_str hv.out.symm, rfl⟩
  · have he : s.toList.isEmpty = true := str_em h
    have hv : Hid (nmS s = ⟨#[103]⟩) := by show _ = _; unfold nmS; rw [if_neg h]
    go_enter Tryz.func16, Tryz.ntmps16
    go_wp2
    go_ret
    exact ⟨ret_str hv.out.symm, rfl⟩
theorem okN_ext (k : Nat) : ((okN k).extract 1 5) = ⟨(lowB k 4).toArray⟩ := by
  have e : (lowB k 4) = [UInt8.ofNat (k / 256 ^ 0 % 256), UInt8.ofNat (k / 256 ^ 1 % 256), UInt8.ofNat (k / 256 ^ 2 % 256), UInt8.ofNat (k / 256 ^ 3 % 256)] := rfl
  unfold okN
  rw [e]
  rfl
theorem number_okN (k : Nat) (hk : k < 4294967296) (w : World) : Calls Tryz.prog 36 #[.string ((okN k).extract 1 5)] w fun e w' => e = .returned (.int .i64 (k : Int)) ∧ w' = w := by
  rw [okN_ext]
  have h := number4_any ⟨(lowB k 4).toArray⟩ w (by show (lowB k 4).toArray.size = 4; simp [lowB_length])
  have hb : ∀ n : Nat, n < 256 → (UInt8.ofNat n).toNat = n := fun n hn => UInt8.toNat_ofNat_of_lt' (by show _ < 256; omega)
  refine h.mono ?_
  rintro e w' ⟨rfl, rfl⟩
  refine ⟨ret_int ?_, rfl⟩
  have e0 : (⟨(lowB k 4).toArray⟩ : ByteArray)[0]'(by show 0 < (lowB k 4).toArray.size; simp [lowB_length]) = UInt8.ofNat (k / 256 ^ 0 % 256) := rfl
  have e1 : (⟨(lowB k 4).toArray⟩ : ByteArray)[1]'(by show 1 < (lowB k 4).toArray.size; simp [lowB_length]) = UInt8.ofNat (k / 256 ^ 1 % 256) := rfl
  have e2 : (⟨(lowB k 4).toArray⟩ : ByteArray)[2]'(by show 2 < (lowB k 4).toArray.size; simp [lowB_length]) = UInt8.ofNat (k / 256 ^ 2 % 256) := rfl
  have e3 : (⟨(lowB k 4).toArray⟩ : ByteArray)[3]'(by show 3 < (lowB k 4).toArray.size; simp [lowB_length]) = UInt8.ofNat (k / 256 ^ 3 % 256) := rfl
  rw [e0, e1, e2, e3, hb _ (by omega), hb _ (by omega), hb _ (by omega), hb _ (by omega)]
  omega
theorem ext_mid (pre mid post : List UInt8) : (⟨(pre ++ (mid ++ post)).toArray⟩ : ByteArray).extract pre.length (pre.length + mid.length) = ⟨mid.toArray⟩ := by
  apply ByteArray.ext
  rw [ByteArray.data_extract]
  show (pre ++ (mid ++ post)).toArray.extract _ _ = mid.toArray
  rw [List.extract_toArray]
  simp [List.extract]
theorem get_mid (pre : List UInt8) (x : UInt8) (post : List UInt8) (h : pre.length < (⟨(pre ++ (x :: post)).toArray⟩ : ByteArray).size) : (⟨(pre ++ (x :: post)).toArray⟩ : ByteArray)[pre.length] = x := by
  show (pre ++ (x :: post)).toArray[pre.length] = x
  simp
structure Ge where
  h : ByteArray
  g : ByteArray
  b : ByteArray
def Ge.row (x : Ge) : List Value := [.string x.h, .string x.g, .string x.b]
def Ge.bytes (x : Ge) : List UInt8 := x.h.data.toList ++ (txtB x.g ++ txtB x.b)
structure GeOk (x : Ge) : Prop where
  h : x.h.size = 8
  g : x.g.size ≤ 255
  b : x.b.size ≤ 255
def recS (es : List Ge) : ByteArray := okL (lowB es.length 1 ++ es.flatMap Ge.bytes)
def offE (es : List Ge) (i : Nat) : Nat := 2 + ((es.take i).flatMap Ge.bytes).length
theorem lowB1 (n : Nat) : lowB n 1 = [UInt8.ofNat (n % 256)] := by
  show [UInt8.ofNat (n / 256 ^ 0 % 256)] = _
  simp
theorem toNat1 (n : Nat) (h : n ≤ 255) : (UInt8.ofNat (n % 256)).toNat = n := by
  rw [UInt8.toNat_ofNat_of_lt' (by show n % 256 < 256; omega)]
  omega
theorem Ge.len (x : Ge) (h : GeOk x) : x.bytes.length = 10 + x.g.size + x.b.size := by
  have := h.h
  simp only [Ge.bytes, List.length_append, txtB_length]
  have e : x.h.data.toList.length = x.h.size := rfl
  omega
theorem take_drop_mid {α : Type} (l : List α) (i : Nat) (hi : i < l.length) : l = l.take i ++ (l[i] :: l.drop (i + 1)) := by
  rw [List.getElem_cons_drop, List.take_append_drop]
theorem offE_succ (es : List Ge) (i : Nat) (hi : i < es.length) (hok : ∀ x ∈ es, GeOk x) : offE es (i + 1) = offE es i + 8 + 1 + es[i].g.size + 1 + es[i].b.size := by
  unfold offE
  rw [List.take_succ_eq_append_getElem hi, List.flatMap_append, List.length_append]
  simp only [List.flatMap_cons, List.flatMap_nil, List.append_nil]
  rw [Ge.len _ (hok _ (List.getElem_mem _))]
  omega
theorem rec_size (es : List Ge) : (recS es).size = offE es es.length := by
  unfold recS offE
  rw [okL_size, List.length_append, lowB_length, List.take_length]
  omega
theorem flat_bound (es : List Ge) (hok : ∀ x ∈ es, GeOk x) : (es.flatMap Ge.bytes).length ≤ es.length * 520 := by
  induction es with
  | nil => simp
  | cons x es ih =>
    have h1 := ih (fun y hy => hok y (by simp [hy]))
    have h2 := hok x (by simp)
    have := h2.g
    have := h2.b
    rw [List.flatMap_cons, List.length_append, Ge.len _ h2, List.length_cons]
    omega
structure RcAt (s : ByteArray) (a : Nat) (x : Ge) : Prop where
  l1 : a + 8 < s.size
  h : s.extract a (a + 8) = x.h
  n1 : s[a + 8].toNat = x.g.size
  l2 : a + 8 + 1 + x.g.size < s.size
  g : s.extract (a + 8 + 1) (a + 8 + 1 + x.g.size) = x.g
  n2 : s[a + 8 + 1 + x.g.size].toNat = x.b.size
  l3 : a + 8 + 1 + x.g.size + 1 + x.b.size ≤ s.size
  b : s.extract (a + 8 + 1 + x.g.size + 1) (a + 8 + 1 + x.g.size + 1 + x.b.size) = x.b
theorem rcAt_of (pre post : List UInt8) (x : Ge) (hx : GeOk x) : RcAt ⟨(pre ++ (x.bytes ++ post)).toArray⟩ pre.length x := by
  have eh : x.h.data.toList.length = 8 := hx.h
  have eg : x.g.data.toList.length = x.g.size := rfl
  have eb : x.b.data.toList.length = x.b.size := rfl
  have hsz : (⟨(pre ++ (x.bytes ++ post)).toArray⟩ : ByteArray).size = pre.length + (10 + x.g.size + x.b.size + post.length) := by
    show (pre ++ (x.bytes ++ post)).toArray.size = _
    simp only [List.size_toArray, List.length_append, Ge.len x hx]
  have e1 : pre ++ (x.bytes ++ post) = pre ++ (x.h.data.toList ++ (txtB x.g ++ txtB x.b ++ post)) := by simp [Ge.bytes]
  have e2 : pre ++ (x.bytes ++ post) = (pre ++ x.h.data.toList) ++ (UInt8.ofNat (x.g.size % 256) :: (x.g.data.toList ++ (txtB x.b ++ post))) := by simp [Ge.bytes, txtB, lowB1]
  have e3 : pre ++ (x.bytes ++ post) = (pre ++ x.h.data.toList ++ [UInt8.ofNat (x.g.size % 256)]) ++ (x.g.data.toList ++ (txtB x.b ++ post)) := by simp [Ge.bytes, txtB, lowB1]
  have e4 : pre ++ (x.bytes ++ post) = (pre ++ x.h.data.toList ++ [UInt8.ofNat (x.g.size % 256)] ++ x.g.data.toList) ++ (UInt8.ofNat (x.b.size % 256) :: (x.b.data.toList ++ post)) := by simp [Ge.bytes, txtB, lowB1]
  have e5 : pre ++ (x.bytes ++ post) = (pre ++ x.h.data.toList ++ [UInt8.ofNat (x.g.size % 256)] ++ x.g.data.toList ++ [UInt8.ofNat (x.b.size % 256)]) ++ (x.b.data.toList ++ post) := by simp [Ge.bytes, txtB, lowB1]
  refine ⟨by rw [hsz]; omega, ?_, ?_, by rw [hsz]; omega, ?_, ?_, by rw [hsz]; omega, ?_⟩
  · have h := ext_mid pre x.h.data.toList (txtB x.g ++ txtB x.b ++ post)
    rw [eh] at h
    rw [e1, h]
  · have h := get_mid (pre ++ x.h.data.toList) (UInt8.ofNat (x.g.size % 256)) (x.g.data.toList ++ (txtB x.b ++ post)) (by rw [← e2, hsz, List.length_append, eh]; omega)
    have el : (pre ++ x.h.data.toList).length = pre.length + 8 := by rw [List.length_append, eh]
    simp only [el] at h
    have h2 : (⟨(pre ++ (x.bytes ++ post)).toArray⟩ : ByteArray)[pre.length + 8]'(by rw [hsz]; omega) = UInt8.ofNat (x.g.size % 256) := by
      rw [← h]
      simp only [e2]
    exact (congrArg UInt8.toNat h2).trans (toNat1 x.g.size hx.g)
  · have h := ext_mid (pre ++ x.h.data.toList ++ [UInt8.ofNat (x.g.size % 256)]) x.g.data.toList (txtB x.b ++ post)
    have el : (pre ++ x.h.data.toList ++ [UInt8.ofNat (x.g.size % 256)]).length = pre.length + 8 + 1 := by simp only [List.length_append, eh, List.length_singleton]
    rw [el, eg] at h
    rw [e3, h]
  · have h := get_mid (pre ++ x.h.data.toList ++ [UInt8.ofNat (x.g.size % 256)] ++ x.g.data.toList) (UInt8.ofNat (x.b.size % 256)) (x.b.data.toList ++ post) (by rw [← e4, hsz]; simp only [List.length_append, eh, eg, List.length_singleton]; omega)
    have el : (pre ++ x.h.data.toList ++ [UInt8.ofNat (x.g.size % 256)] ++ x.g.data.toList).length = pre.length + 8 + 1 + x.g.size := by simp only [List.length_append, eh, eg, List.length_singleton]
    simp only [el] at h
    have h2 : (⟨(pre ++ (x.bytes ++ post)).toArray⟩ : ByteArray)[pre.length + 8 + 1 + x.g.size]'(by rw [hsz]; omega) = UInt8.ofNat (x.b.size % 256) := by
      rw [← h]
      simp only [e4]
    exact (congrArg UInt8.toNat h2).trans (toNat1 x.b.size hx.b)
  · have h := ext_mid (pre ++ x.h.data.toList ++ [UInt8.ofNat (x.g.size % 256)] ++ x.g.data.toList ++ [UInt8.ofNat (x.b.size % 256)]) x.b.data.toList post
    have el : (pre ++ x.h.data.toList ++ [UInt8.ofNat (x.g.size % 256)] ++ x.g.data.toList ++ [UInt8.ofNat (x.b.size % 256)]).length = pre.length + 8 + 1 + x.g.size + 1 := by simp only [List.length_append, eh, eg, List.length_singleton]
    rw [el, eb] at h
    rw [e5, h]
theorem rec_at (es : List Ge) (hok : ∀ x ∈ es, GeOk x) (i : Nat) (hi : i < es.length) : RcAt (recS es) (offE es i) es[i] := by
  have e : recS es = ⟨((0 :: lowB es.length 1 ++ (es.take i).flatMap Ge.bytes) ++ (es[i].bytes ++ (es.drop (i + 1)).flatMap Ge.bytes)).toArray⟩ := by
    have h : es.flatMap Ge.bytes = (es.take i).flatMap Ge.bytes ++ (es[i].bytes ++ (es.drop (i + 1)).flatMap Ge.bytes) := by
      have h1 := congrArg (fun l => l.flatMap Ge.bytes) (take_drop_mid es i hi)
      simp only [List.flatMap_append, List.flatMap_cons] at h1
      exact h1
    unfold recS okL
    rw [h]
    simp
  have el : (0 :: lowB es.length 1 ++ (es.take i).flatMap Ge.bytes).length = offE es i := by
    unfold offE
    rw [List.length_append, List.length_cons, lowB_length]
  rw [e, ← el]
  exact rcAt_of _ _ _ (hok _ (List.getElem_mem _))
theorem rec_one (es : List Ge) (hl : es.length ≤ 255) (h : 1 < (recS es).size) : (recS es)[1].toNat = es.length := by
  have e : (recS es)[1] = UInt8.ofNat (es.length % 256) := (okL_get _ 1 h).trans (by simp [lowB1])
  rw [e, toNat1 _ hl]
theorem info50 : (Tryz.prog.info? 50).map (fun i => (i.zero, i.size, i.bytes)) = some (some (.agg #[.string ⟨#[]⟩, .string ⟨#[]⟩, .string ⟨#[]⟩]), 3, 48) := by kernel_rfl
theorem own_base {w : World} {base t size n : Nat} {v : Value} {xs : List Value} (h : w.ownsRow base t size v n xs) : w.ownsRow 0 t size v n xs := by
  refine ⟨h.1, ?_⟩
  rcases h.2 with hn | ⟨g, cap, cur, rfl, hb, hg, rest⟩
  · exact .inl hn
  · exact .inr ⟨g, cap, cur, rfl, Nat.zero_le _, hg, rest⟩
theorem own_ge {w : World} {base t size n : Nat} {v : Value} {xs : List Value} (h : w.ownsRow base t size v n xs) : ∀ k, v.ownBlock = some k → base ≤ k := fun k hk => by
  rcases h.2 with ⟨rfl, _⟩ | ⟨g, cap, cur, rfl, hb, hg, rest⟩
  · simp [Value.ownBlock] at hk
  · simp only [Value.ownBlock, Option.some.injEq] at hk
    omega
theorem wpList_valsB (base : Nat) (w : World) {ops : Array Oper} {rest : List Oper} {o : Oper} {a : Act} {Q : Exit → Act → World → Prop} (hgd : o.guard = none) (s x : Operand) (t te : TypeId)
    (ho : o.op = .call { callee := .builtin .append, args := #[s, x], argTypes := #[t, t] }) (ht : Tryz.prog.underlying t = some (.slice te)) (z : Value) (size bytes : Nat)
    (hinfo : (Tryz.prog.info? te).map (fun i => (i.zero, i.size, i.bytes)) = some (some z, size, bytes)) (hzs : z.cells.size = size) (hsz : 0 < size) (hby : bytes ≤ 100)
    (v : Value) (n : Nat) (xs : List Value) (hs : a.eval s = v) (hown : w.ownsRow base te size v n xs) (hbase : base ≤ w.heap.size) (g : Nat) (news : List Value) (m : Nat) (hx : a.eval x = .slice (some ⟨g, 0, none⟩) m m) (hm : news.length = m * size) (hm0 : 0 < m) (hg : w.heap[g]? = some (.cells news.toArray te (0, 0))) (hone : ∀ u ∈ news, u.oneCell' = true) (hn : n + m ≤ 1073741824)
    (h : ∀ v' w', w'.ownsRow base te size v' (n + m) (xs ++ news) → w.grownBy w' v.ownBlock → (v'.ownBlock = v.ownBlock ∨ v'.ownBlock = some w.heap.size) → wpList Tryz.prog ops Q rest (a.put o.dst v') w') : wpList Tryz.prog ops Q (o :: rest) a w := by
  obtain ⟨i0, hi, hz0, hz1, hz2⟩ := info_parts hinfo
  refine wpList_app w hgd s x t ho base te i0 _ size bytes ht hi hz0 hz1 hz2 hzs hsz v n xs hs hown ⟨g, 0, none⟩ m m news hx hm ?_ hone (by unfold maxLen; omega) ?_ hbase hm0 h
  · intro j u hj
    have e : (⟨g, 0, none⟩ : Addr).add j = ⟨g, j, none⟩ := by unfold Addr.add; split <;> simp_all
    rw [e, cell_of_row w g j _ te (0, 0) hg, ← hj]
    simp
  · have h1 : (n + m) * bytes ≤ 1073741824 * 100 := Nat.mul_le_mul hn hby
    omega
set_option maxRecDepth 8000 in
set_option maxHeartbeats 4000000 in
theorem received_any (es : List Ge) (w : World) (hok : ∀ x ∈ es, GeOk x) (hl : es.length ≤ 10) :
    Calls Tryz.prog 21 #[.string (recS es)] w fun e w' => ∃ v, e = .returned (.tuple #[v, .bool true]) ∧ w'.ownsRow w.heap.size 50 3 v es.length (es.flatMap Ge.row) ∧ Tch [] w w' := by
  have hfb := flat_bound es hok
  have hsz : (recS es).size ≤ 6000 ∧ 2 ≤ (recS es).size := by
    unfold recS
    rw [okL_size, List.length_append, lowB_length]
    omega
  have HF : Hid (∀ W, Calls Tryz.prog 35 #[.string (recS es)] W fun e w' => e = .returned (.bool true) ∧ w' = W) := fun W => fine_ok _ W (by rw [List.length_append, lowB_length]; omega)
  have HAT : Hid (∀ i (hi : i < es.length), RcAt (recS es) (offE es i) es[i]) := fun i hi => rec_at es hok i hi
  have HSU : Hid (∀ i (hi : i < es.length), offE es (i + 1) = offE es i + 8 + 1 + es[i].g.size + 1 + es[i].b.size) := fun i hi => offE_succ es i hi hok
  have HEN : Hid ((recS es).size = offE es es.length) := rec_size es
  have h1 : 1 < (recS es).size := by omega
  have hone : (recS es)[1].toNat = es.length := rec_one es (by omega) h1
  have HOF0 : Hid (offE es 0 = 2) := rfl
  generalize recS es = s at *
  go_enter Tryz.func21, Tryz.ntmps21
  go_wp2_with fail
  refine (HF.out _).mono ?_
  rintro e w' ⟨rfl, h'⟩
  have h'' := h'.symm
  subst h''
  go_wp2_with fail
  go_loopw [5, 6, 7] (fun v5 v6 v7 wr => ∃ (i : Nat) (ov : Value), i ≤ es.length ∧ v5 = ov ∧ v7 = .int .i64 (i : Int) ∧ v6 = .int .i64 (offE es i : Nat) ∧ wr.ownsRow w.heap.size 50 3 ov i ((es.take i).flatMap Ge.row) ∧ Tch [] w wr) (fun _ _ v _ => es.length - (intOf v).toNat)
  case atStart => exact ⟨0, _, Nat.zero_le _, rfl, rfl, by rw [HOF0.out]; rfl, by simpa using World.ownsRow_nil w _ _ _, Tch.refl _ _⟩
  case round =>
    obtain ⟨i, ov, hi, rfl, rfl, rfl, ho, ht⟩ := hrel
    have HO : Hid (wr.ownsRow w.heap.size 50 3 u5 i ((es.take i).flatMap Ge.row)) := ho
    have HT : Hid (Tch [] w wr) := ht
    clear ho ht
    by_cases hlt : i < es.length
    · have hat := HAT.out i hlt
      have hsu := HSU.out i hlt
      have l1 := hat.l1
      have l2 := hat.l2
      have l3 := hat.l3
      have hx8 := hat.h
      have HX1 : Hid (∀ W, Calls Tryz.prog 38 #[.string s, .int .i64 ((offE es i : Nat) + 8 : Int)] W fun e w' => e = .returned (.tuple #[.string es[i].g, .int .i64 ((offE es i + 8 + 1 + es[i].g.size : Nat) : Int), .bool true]) ∧ w' = W) := fun W => by
        have h := text_at s (offE es i + 8) es[i].g.size W (by omega) hat.l1 hat.n1 (by omega)
        rw [hat.g, show ((offE es i + 8 : Nat) : Int) = (offE es i : Nat) + 8 from by omega] at h
        exact h
      have HX2 : Hid (∀ W, Calls Tryz.prog 38 #[.string s, .int .i64 ((offE es i + 8 + 1 + es[i].g.size : Nat) : Int)] W fun e w' => e = .returned (.tuple #[.string es[i].b, .int .i64 ((offE es (i + 1) : Nat) : Int), .bool true]) ∧ w' = W) := fun W => by
        have h := text_at s (offE es i + 8 + 1 + es[i].g.size) es[i].b.size W (by omega) hat.l2 hat.n2 (by omega)
        rw [hat.b, ← hsu] at h
        exact h
      have HTK : Hid ((es.take (i + 1)).flatMap Ge.row = (es.take i).flatMap Ge.row ++ [.string es[i].h, .string es[i].g, .string es[i].b]) := by
        show _ = _
        rw [List.take_succ_eq_append_getElem hlt, List.flatMap_append]
        simp [Ge.row]
      clear hat hsu
      generalize es[i].h = xh at *
      generalize es[i].g = xg at *
      generalize es[i].b = xb at *
      generalize hat2 : offE es (i + 1) = at2 at *
      generalize offE es i = at1 at *
      clear HAT HSU HEN
      go_wp2_with fail
      refine (HX1.out _).mono ?_
      rintro e w' ⟨rfl, h'⟩
      have h'' := h'.symm
      subst h''
      go_wp2_with fail
      refine (HX2.out _).mono ?_
      rintro e w' ⟨rfl, h'⟩
      have h'' := h'.symm
      subst h''
      have zr := HT.out.size
      obtain ⟨oa, oc, hoe⟩ := own_shape HO.out
      subst hoe
      go_wp2_with (at_builtin; refine wpList_valsB w.heap.size _ rfl _ _ 45 50 rfl Tryz.underlying45 (.agg #[.string ⟨#[]⟩, .string ⟨#[]⟩, .string ⟨#[]⟩]) 3 48 info50 rfl (by decide) (by decide) (.slice oa i oc) i ((es.take i).flatMap Ge.row) ?hvs ?hvo ?hvb wr.heap.size [.string xh, .string xg, .string xb] 1 ?hvx rfl (by decide) ?hvg ?hv1 (by omega) ?hvk)
      case hvs => simp [Act.eval, Act.put]
      case hvo => exact own_tch HO.out ((Tch.refl [] _).alloc _) (fun _ _ => by simp)
      case hvb => rw [World.size_alloc]; omega
      case hvx => simp [Act.eval, Act.put]
      case hvg => exact heap_alloc_new _ _
      case hv1 => intro u hu; simp at hu; rcases hu with rfl | rfl | rfl <;> rfl
      intro v2 w2 ho2 hg2 hb2
      have HO2 : Hid (w2.ownsRow w.heap.size 50 3 v2 (i + 1) ((es.take (i + 1)).flatMap Ge.row) ∧ Tch [] w w2) := by
        refine ⟨by rw [HTK.out]; exact ho2, (HT.out.alloc _).grown hg2 (fun k hk hlt => ?_)⟩
        have := own_ge HO.out k hk
        omega
      clear ho2 hg2 hb2
      go_wp2_with fail
      go_roundw
      case rel => exact ⟨i + 1, v2, by omega, rfl, by go_num, by rw [hat2], HO2.out.1, HO2.out.2⟩
      case measure => simp [intOf]; omega
    · have hie : i = es.length := by omega
      subst hie
      have hen : ((offE es es.length : Nat) : Int) = (s.size : Int) := by rw [HEN.out]
      go_wp2_with fail
      go_ret2
      refine ⟨_, by simp [hen]; rfl, ?_, HT.out⟩
      have h9 := HO.out
      rw [List.take_length] at h9
      exact h9
end Go.Proofs.YtbdobaapadlcjaaGreatDoor
