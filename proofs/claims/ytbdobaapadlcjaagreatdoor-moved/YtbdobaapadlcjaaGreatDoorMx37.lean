/-
  THE WALK of state.Plan (81) at the Op S. within's closure (207) and state.Plan (62) at the Op R. asked (18) at the Op S: what is known is told again; what is not is put into the queue. THE WALKS of set (161), goOn (111), its closure (160). asked (18) at the Ops S, R, T, whatever the queue has. The keep-statements' small functions: low (19), fine (35), number (36), find (37), text (38). THE WALKS of the statements' own small functions: letter (38), named (39), dedup (40), short (41). THE WALK of the statements' shaped (11): whatever comes in, a right request comes out. (All Ops but B.) THE WALK of begun (12).   THE STEPS OF A GAME: what was sent, sent again, the time, sent late. What holds of a queue to which messages were sent alone; named (16), dedup (17) for good; number (36) of an answer.
-/
import Derived.Test.YtbdobaapadlcjaaGreatDoorMx21
import Derived.Test.YtbdobaapadlcjaaGreatDoorMx20
import Derived.Test.YtbdobaapadlcjaaGreatDoorMx22
import Derived.Test.YtbdobaapadlcjaaGreatDoorMx13
import Derived.Test.YtbdobaapadlcjaaGreatDoorMx31
import Derived.Test.YtbdobaapadlcjaaGreatDoorMx36
import Derived.Test.YtbdobaapadlcjaaGreatDoorMx23
import Derived.Test.YtbdobaapadlcjaaGreatDoorMx14
import Derived.Test.YtbdobaapadlcjaaGreatDoorMx11
namespace Go.Proofs.YtbdobaapadlcjaaGreatDoor
open Go.RowKit

/-- What is done with a closure when it is laid down, or with none. -/
def Chg (B m xb st : Nat) (K : ByteArray → World → Prop) (t : ByteArray) (chg : Value) (w : World) : Prop :=
  (chg = .nilFunc ∧ ∀ w2, Tch [] w w2 → K t w2) ∨ ∃ f cap, chg = .func (.func f) #[] cap ∧ (∀ args w, (callFunc f args).run Tryz.prog w = .ok (.enter f args) w) ∧ ∀ w2 w3, Tch [] w w2 → Fr B TJ w2 w3 → Jn false B m w3 xb st → Calls Tryz.prog f cap w3 fun e w' => e = .returned (.tuple #[]) ∧ K t w'

/-- A number as four bytes behind a zero. -/
abbrev okN (k : Nat) : ByteArray := ⟨(0 :: lowB k 4).toArray⟩

end Go.Proofs.YtbdobaapadlcjaaGreatDoor

namespace Go.Proofs.YtbdobaapadlcjaaGreatDoor
open Go.RowKit
set_option linter.unusedVariables false
set_option linter.unusedSimpArgs false

/-- An answer's bytes behind a zero. -/
abbrev okL (l : List UInt8) : ByteArray := ⟨(0 :: l).toArray⟩

end Go.Proofs.YtbdobaapadlcjaaGreatDoor

namespace Go.Proofs.YtbdobaapadlcjaaGreatDoor
open Go.RowKit
set_option linter.unusedVariables false

theorem eg158 : ∀ args w, (callFunc 218 args).run Tryz.prog w = .ok (.enter 218 args) w := enters_of Tryz.func218 (by kernel_rfl) rfl
theorem Tab.tch {w w' : World} (h : Tab w) {S : List Nat} (ht : Tch S w w') (hS : ∀ k ∈ S, 3 ≤ k) (h3 : 3 ≤ w.heap.size) : Tab w' := h.below (B := 3) (ht.below hS h3) (by decide)
theorem Lays.tch {B : Nat} {w w' : World} (h : Lays B w) {S : List Nat} (ht : Tch S w w') (hS : ∀ k ∈ S, B ≤ k) (hB : B ≤ w.heap.size) : Lays B w' := h.below (ht.below hS hB)

end Go.Proofs.YtbdobaapadlcjaaGreatDoor

namespace Go.Proofs.YtbdobaapadlcjaaGreatDoor
open Go.Shelf Go.RowKit Go.Lib
set_option linter.unusedVariables false

end Go.Proofs.YtbdobaapadlcjaaGreatDoor

namespace Go.Proofs.YtbdobaapadlcjaaGreatDoor
open Go.RowKit
set_option linter.unusedVariables false

set_option maxHeartbeats 400000 in
theorem went_walk (K : World → Prop) (gs gl st : Nat) (now : Int) (w : World) (hgs : w.heap[gs]? = some (.cells #[.pointer (some ⟨st, 0, none⟩)] 96 (0, 0))) (hgl : w.heap[gl]? = some (.cells #[.int .i64 now] 3 (0, 0)))
    (hS : Calls Tryz.prog 221 #[.pointer (some ⟨st, 0, none⟩), .int .i64 now] w fun e w' => e = .returned (.tuple #[]) ∧ K w') :
    Calls Tryz.prog 220 #[.pointer (some ⟨gs, 0, none⟩), .pointer (some ⟨gl, 0, none⟩)] w fun e w' => e = .returned (.tuple #[]) ∧ K w' := by
  have c1 := cell_of_one hgs
  have c2 := cell_of_one hgl
  have HS : Hid (Calls Tryz.prog 221 _ w _) := hS
  clear hS hgs hgl
  go_enter Tryz.func220, Tryz.ntmps220
  go_wp2_with (go_at_call 221; refine HS.out.mono ?_; rintro e w' ⟨rfl, hk⟩)
  go_end0
  exact ⟨rfl, by assumption⟩

end Go.Proofs.YtbdobaapadlcjaaGreatDoor

namespace Go.Proofs.YtbdobaapadlcjaaGreatDoor
open Go.RowKit
set_option linter.unusedVariables false
set_option linter.unusedSimpArgs false

/-- The types of what a broker writes. -/
abbrev TG : List TypeId := [234, 143, 110, 116, 156, 191, 226, 230, 9]
/-- A broker with a queue a that has whatever it has; good for m more requests. -/
structure GQ (B m : Nat) (w : World) (x st b qb : Nat) (now : Int) (V : QV) (Q : QM) : Prop where
  brk : Brk w st b now (.pointer (some ⟨qb, 0, none⟩))
  qr : QR w qb V Q
  jn : Jn false B m w x st
  lo : ∀ k ∈ st :: qbl qb V, B ≤ k
theorem eg212 : ∀ args w, (callFunc 212 args).run Tryz.prog w = .ok (.enter 212 args) w := enters_of Tryz.func212 (by kernel_rfl) rfl
theorem ansL_pos (Q : QM) (cnt k : Nat) : 0 < (ansL Q cnt k).length := by
  unfold ansL
  rw [List.length_append, lowB_length]
  omega

end Go.Proofs.YtbdobaapadlcjaaGreatDoor

namespace Go.Proofs.YtbdobaapadlcjaaGreatDoor
open Go.RowKit
set_option linter.unusedVariables false
set_option linter.unusedSimpArgs false

set_option maxHeartbeats 1000000 in
theorem low_any (n size : Nat) (w : World) (hn : n < 4294967296) (hs : size ≤ 8) (h0 : 0 < size) :
    Calls Tryz.prog 19 #[.int .i64 (n : Int), .int .i64 (size : Int)] w fun e w' => e = .returned (.string ⟨(lowB n size).toArray⟩) ∧ Below w.heap.size w w' := by
  obtain ⟨i0, hi, hz0, hz1, hz2⟩ := info_parts info5
  go_enter Tryz.func19, Tryz.ntmps19
  go_wp2
  go_loopw [0, 5, 6] (fun m o i wr => ∃ k : Nat, k ≤ size ∧ i = .int .i64 k ∧ m = .int .i64 ((n / 256 ^ k : Nat) : Int) ∧ OwnB wr w.heap.size o (lowB n k) ∧ Below w.heap.size w wr) (fun _ _ i _ => size - (intOf i).toNat)
  case atStart => exact ⟨0, Nat.zero_le _, rfl, by simp, World.ownsRow_nil _ _ _ _, Below.refl _ _⟩
  case round =>
    obtain ⟨k, hk, rfl, rfl, ho, hbr⟩ := hrel
    by_cases hlt : k < size
    · have hle : (lowB n k).length ≤ 1099511627800 := by rw [lowB_length]; omega
      have hm : n / 256 ^ k < 4294967296 := Nat.lt_of_le_of_lt (Nat.div_le_self _ _) hn
      have hdiv : Hid (n / 256 ^ (k + 1) = n / 256 ^ k / 256) := by
        show _ = _
        rw [Nat.pow_succ, Nat.div_div_eq_div_mul]
      have HSN : Hid (Value.int .u8 (((n / 256 ^ k : Nat) : Int) % 256) = .int .u8 ((UInt8.ofNat (n / 256 ^ k % 256)).toNat : Int)) := byte_cell (n / 256 ^ k)
      have hls : Hid (lowB n (k + 1) = (lowB n k) ++ [UInt8.ofNat (n / 256 ^ k % 256)]) := lowB_succ n k
      have HBR : Hid (Below w.heap.size w wr) := hbr
      have hsz := hbr.size
      clear hbr
      generalize n / 256 ^ k = m at hm hdiv HSN hls
      generalize lowB n k = L at ho hle hls
      have HO : Hid (OwnB wr w.heap.size u5 L) := ho
      clear ho
      go_wp2_with (at_builtin; refine wpList_append_own _ rfl _ _ 74 rfl w.heap.size 5 i0 (.int .u8 0) 1 1 Tryz.underlying74 hi hz0 hz1 hz2 rfl (by decide) _ _ _ rfl (World.ownsRow.alloc HO.out _) ⟨wr.heap.size, 0, none⟩ 1 1 [.int .u8 ((m : Int) % 256)] rfl rfl ?c1 ?c2 ?c3 ?c4 ?c5 ?_)
      case c1 => exact cell_one_new _ _ _
      case c2 => intro u hu; simp at hu; subst hu; rfl
      case c3 => unfold maxLen; omega
      case c4 => omega
      case c5 => simp; omega
      intro v' w1 hown' hgrow _
      have hr1 : OwnB w1 w.heap.size v' (lowB n (k + 1)) := by rw [hls.out]; exact OwnB.snoc HSN.out hown'
      have hr2 : Below w.heap.size w w1 := by
        refine Below.grown ((HBR.out).alloc (by omega) _) hgrow (by simp; omega) ?_
        intro k hk
        exact (World.ownsRow.lt HO.out k hk).1
      clear hown' hgrow
      go_wp2
      go_roundw
      case rel => exact ⟨k + 1, by omega, by go_num, by rw [hdiv.out]; go_num, hr1, hr2⟩
      case measure => simp [intOf]; omega
    · have he : k = size := by omega
      subst he
      have hstr : (convert 74 9 u5).run Tryz.prog wr = .ok (.string ⟨(lowB n k).toArray⟩) wr := OwnB.str ho (by rw [lowB_length]; exact h0)
      go_wp2
      go_ret
      exact ⟨rfl, hbr⟩

theorem okL_size (l : List UInt8) : (okL l).size = l.length + 1 := by
  show (0 :: l).toArray.size = _
  simp
theorem okL_get (l : List UInt8) (i : Nat) (h : i < (okL l).size) : (okL l)[i] = (0 :: l)[i]'(by rw [okL_size] at h; simpa using h) := by
  show (0 :: l).toArray[i] = _
  simp

set_option maxHeartbeats 400000 in
theorem fine_ok (l : List UInt8) (w : World) (hl : l.length ≤ 10000) : Calls Tryz.prog 35 #[.string (okL l)] w fun e w' => e = .returned (.bool true) ∧ w' = w := by
  have hsz := okL_size l
  have hp : 0 < (okL l).size := by omega
  have hb : ((((okL l)[0].toNat : Nat) : Int) == 0) = true := by rw [okL_get]; rfl
  generalize okL l = s at *
  go_enter Tryz.func35, Tryz.ntmps35
  go_wp2
  go_ret
  exact ⟨rfl, rfl⟩

set_option maxHeartbeats 1000000 in
theorem number4_any (s : ByteArray) (w : World) (hs : s.size = 4) : Calls Tryz.prog 36 #[.string s] w fun e w' => e = .returned (.int .i64 ((s[0].toNat + 256 * (s[1].toNat + 256 * (s[2].toNat + 256 * s[3].toNat)) : Nat) : Int)) ∧ w' = w := by
  have b0 := s[0].toNat_lt
  have b1 := s[1].toNat_lt
  have b2 := s[2].toNat_lt
  have b3 := s[3].toNat_lt
  go_enter Tryz.func36, Tryz.ntmps36
  go_wp2
  refine wp_loop_rounds 5 ?_
  rw [rounds_succ]
  go_wp2
  rw [rounds_succ]
  go_wp2
  rw [rounds_succ]
  go_wp2
  rw [rounds_succ]
  go_wp2
  rw [rounds_succ]
  go_wp2
  go_ret
  exact ⟨ret_int (by omega), rfl⟩

set_option maxHeartbeats 1000000 in
theorem text_at (s : ByteArray) (a n : Nat) (w : World) (hs : s.size ≤ 100000) (ha : a < s.size) (hn : s[a].toNat = n) (he : a + 1 + n ≤ s.size) :
    Calls Tryz.prog 38 #[.string s, .int .i64 (a : Int)] w fun e w' => e = .returned (.tuple #[.string (s.extract (a + 1) (a + 1 + n)), .int .i64 ((a + 1 + n : Nat) : Int), .bool true]) ∧ w' = w := by
  have hb := s[a].toNat_lt
  go_enter Tryz.func38, Tryz.ntmps38
  go_wp2
  go_ret3
  exact ⟨rfl, rfl⟩

/-- A message as its sender keeps it. -/
def snR (m : Ms) : List Value := [.int .i64 m.num, .string m.grp, .string m.bod, .bool false, .int .i64 0, .bool false]
/-- The line. -/
def lnC (x : Nat) (c : Wp.Rq) (sv : Value) : Array Value := #[.pointer (some ⟨x, 0, none⟩), .int .u8 (c.op.toNat : Int), .int .u8 (c.q.toNat : Int), .int .u8 (c.d.toNat : Int), .int .i64 c.vis, .int .i64 c.win, .int .i64 c.rcv, .int .i64 c.quo, .int .i64 c.mx, .int .i64 c.tic, .string c.grp, .string c.ded, .string c.bod, .string c.att, .string c.han, .slice none 0 0, .int .i64 0, sv, .slice none 0 0]
def Ln (w : World) (lb x : Nat) (c : Wp.Rq) (sv : Value) : Prop := w.heap[lb]? = some (.cells (lnC x c sv) 42 (0, 0))
end Go.Proofs.YtbdobaapadlcjaaGreatDoor

namespace Go.Proofs.YtbdobaapadlcjaaGreatDoor.Keep
open Go.RowKit
set_option linter.unusedVariables false

/-- At most n bytes of a string. -/
def sh (s : ByteArray) (n : Nat) : ByteArray := if n < s.size then s.extract 0 n else s
theorem sh_size (s : ByteArray) (n : Nat) : (sh s n).size ≤ n := by
  unfold sh
  split
  · simp; omega
  · omega
set_option maxHeartbeats 400000 in
theorem short_any (s : ByteArray) (n : Nat) (w : World) (hs : s.size ≤ maxLen) (hn : n ≤ 1000) :
    Calls Tryz.prog 15 #[.string s, .int .i64 (n : Int)] w fun e w' => e = .returned (.string (sh s n)) ∧ w' = w := by
  unfold maxLen at hs
  by_cases h : n < s.size
  · have hv : Hid (sh s n = s.extract 0 n) := by show _ = _; rw [sh, if_pos h]
    go_enter Tryz.func15, Tryz.ntmps15
    go_wp2
    go_ret
    exact ⟨ret_str hv.out.symm, rfl⟩
  · have hv : Hid (sh s n = s) := by show _ = _; rw [sh, if_neg h]
    go_enter Tryz.func15, Tryz.ntmps15
    go_wp2
    go_ret
    exact ⟨ret_str hv.out.symm, rfl⟩
end Go.Proofs.YtbdobaapadlcjaaGreatDoor.Keep

namespace Go.Proofs.YtbdobaapadlcjaaGreatDoor.Keep
open Go.RowKit
set_option linter.unusedVariables false

/-- The strings of a request can be counted. -/
structure Szs (r : Wp.Rq) : Prop where
  grp : r.grp.size ≤ maxLen
  ded : r.ded.size ≤ maxLen
  bod : r.bod.size ≤ maxLen
  att : r.att.size ≤ maxLen
  han : r.han.size ≤ maxLen
/-- What shaped answers: a right request. -/
def Shaped (w : World) (e : Ending) (w' : World) : Prop :=
  ∃ (r : Wp.Rq) (x : Sl) (bs : List ByteArray), e = .returned (.agg (cellsOf r x.v)) ∧ rightW r x (Wp.short bs) = true ∧ Wf r ∧ x.n = bs.length ∧ bs.length ≤ 10 ∧ FStrs w.heap.size w' x.a bs
theorem fits_of (r : Wp.Rq) (n : Nat) (b : Bool) (f : Nat) (h1 : f ≠ 1) (h10 : f ≠ 10) (h14 : f ≠ 14) (ha : Wp.least f ≤ r.measure n f) (hb : r.measure n f ≤ Wp.most f) : r.fits n b f = true := by
  unfold Wp.Rq.fits
  rw [if_neg (fun e => h1 e.1), if_neg (by omega), if_neg (by omega), if_neg h1, if_neg h10, if_neg h14]
theorem fits_dead (r : Wp.Rq) (n : Nat) (b : Bool) (h : r.d = 45 ∨ 97 ≤ r.d.toNat ∧ r.d.toNat ≤ 104 ∧ r.d ≠ r.q) : r.fits n b 1 = true := by
  unfold Wp.Rq.fits
  by_cases h0 : r.d = 45
  · rw [if_pos ⟨rfl, h0⟩]
  · rw [if_neg (fun e => h0 e.2)]
    obtain ⟨h1, h2, h3⟩ := h.resolve_left h0
    have e1 : r.measure n 1 = (r.d.toNat : Int) := rfl
    have e2 : Wp.least 1 = 97 := rfl
    have e3 : Wp.most 1 = 104 := rfl
    rw [e1, e2, e3, if_neg (by omega), if_neg (by omega), if_pos rfl]
    simpa using h3
theorem fits_dedup (r : Wp.Rq) (n : Nat) (b : Bool) (h : r.ded.size ≤ 8) (hd : Wp.dedOk r.ded = true) : r.fits n b 10 = true := by
  unfold Wp.Rq.fits
  have e1 : r.measure n 10 = (r.ded.size : Int) := rfl
  have e2 : Wp.least 10 = 0 := rfl
  have e3 : Wp.most 10 = 8 := rfl
  rw [if_neg (fun e => by cases e.1), e1, e2, e3, if_neg (by omega), if_neg (by omega), if_neg (by decide), if_pos rfl]
  exact hd
theorem wf_small (r : Wp.Rq) (h1 : 0 ≤ r.vis ∧ r.vis ≤ 1001) (h2 : 0 ≤ r.win ∧ r.win ≤ 1001) (h3 : 0 ≤ r.rcv ∧ r.rcv ≤ 1001) (h4 : 0 ≤ r.quo ∧ r.quo ≤ 1001) (h5 : 0 ≤ r.mx ∧ r.mx ≤ 1001) (h6 : 0 ≤ r.tic ∧ r.tic ≤ 1001) : Wf r := by
  constructor <;> unfold i64 <;> omega
theorem zz : (0 : Int) ≤ 0 ∧ (0 : Int) ≤ 1001 := by decide
end Go.Proofs.YtbdobaapadlcjaaGreatDoor.Keep

namespace Go.Proofs.YtbdobaapadlcjaaGreatDoor
open Go.RowKit
set_option linter.unusedVariables false

/-- What begun makes of a raw request. -/
def cqN (V W2 R U : Int) : Wp.Rq := ⟨67, 97, 45, 1 + V, W2, R, 1 + U, 0, 0, ⟨#[]⟩, ⟨#[]⟩, ⟨#[]⟩, ⟨#[]⟩, ⟨#[]⟩⟩
/-- What is there when a game begins. -/
structure Game (B m : Nat) (w : World) (lb x st b qb : Nat) (c : Wp.Rq) : Prop where
  line : w.heap[lb]? = some (.cells (#[.pointer (some ⟨x, 0, none⟩)] ++ cellsOf c nil0.v ++ #[.int .i64 0, .slice none 0 0, .slice none 0 0]) 42 (0, 0))
  brk : Brk w st b 0 (.pointer (some ⟨qb, 0, none⟩))
  que : Qb w qb c 1 (.slice none 0 0) (.slice none 0 0) (.slice none 0 0) (.slice none 0 0)
  jn : Jn false B m w x st
  lo : B ≤ st ∧ B ≤ qb
end Go.Proofs.YtbdobaapadlcjaaGreatDoor

namespace Go.Proofs.YtbdobaapadlcjaaGreatDoor
open Go.RowKit
set_option linter.unusedVariables false

/-- The tables. -/
structure Env (B : Nat) (w : World) : Prop where
  lays : Lays B w
  tab : Tab w
  size : B ≤ w.heap.size
  three : 3 ≤ B
theorem Env.tch {B : Nat} {w w' : World} (h : Env B w) {S : List Nat} (ht : Tch S w w') (hS : ∀ k ∈ S, B ≤ k) : Env B w' := ⟨Lays.tch h.lays ht hS h.size, h.tab.tch ht (fun k hk => Nat.le_trans h.three (hS k hk)) (Nat.le_trans h.three h.size), Nat.le_trans h.size ht.size, h.three⟩
theorem Env.fr {B : Nat} {T : List TypeId} {w w' : World} (h : Env B w) (hf : Fr B T w w') : Env B w' := ⟨h.lays.fr hf, h.tab.fr hf h.three, Nat.le_trans h.size hf.size, h.three⟩

/-- A request of the Op S that is right. -/
structure Snd (r : Wp.Rq) : Prop where
  wf : Wf r
  right : rightW r nil0 (Wp.short []) = true
  op : r.op = 83
  q : r.q = 97
  bod : r.bod.size ≤ 40
  small : (printS r nil0 []).size ≤ 300
theorem snd_of (g d b : ByteArray) (hg1 : 1 ≤ g.size) (hg8 : g.size ≤ 8) (hd8 : d.size ≤ 8) (hdo : Wp.dedOk d = true) (hb : b.size ≤ 40) : Snd ⟨83, 97, 0, 0, 0, 0, 0, 0, 0, g, d, b, ⟨#[]⟩, ⟨#[]⟩⟩ := by
  have hwf : Wf ⟨83, 97, 0, 0, 0, 0, 0, 0, 0, g, d, b, ⟨#[]⟩, ⟨#[]⟩⟩ := Keep.wf_small _ Keep.zz Keep.zz Keep.zz Keep.zz Keep.zz Keep.zz
  have hright : rightW ⟨83, 97, 0, 0, 0, 0, 0, 0, 0, g, d, b, ⟨#[]⟩, ⟨#[]⟩⟩ nil0 (Wp.short []) = true := by
    refine (right_iff _ _ _ hwf).2 ⟨18, by decide, rfl, ?_, rfl, rfl⟩
    show List.all [0, 9, 10, 11] _ = true
    simp only [List.all_cons, List.all_nil, Bool.and_true, Bool.and_eq_true]
    exact ⟨Keep.fits_of _ _ _ 0 (by decide) (by decide) (by decide) (show (97 : Int) ≤ 97 by omega) (show (97 : Int) ≤ 104 by omega), Keep.fits_of _ _ _ 9 (by decide) (by decide) (by decide) (show (1 : Int) ≤ (g.size : Int) by omega) (show (g.size : Int) ≤ 8 by omega), Keep.fits_dedup _ _ _ hd8 hdo, Keep.fits_of _ _ _ 11 (by decide) (by decide) (by decide) (show (0 : Int) ≤ (b.size : Int) by omega) (show (b.size : Int) ≤ 255 by omega)⟩
  exact ⟨hwf, hright, rfl, rfl, hb, small_S _ hright rfl (by show g.size ≤ 20; omega) (by show d.size ≤ 20; omega) (by show b.size ≤ 200; omega)⟩
theorem tick_of (n : Int) (h1 : 1 ≤ n) (h2 : n ≤ 1000) : Wf ⟨84, 0, 0, 0, 0, 0, 0, 0, n, ⟨#[]⟩, ⟨#[]⟩, ⟨#[]⟩, ⟨#[]⟩, ⟨#[]⟩⟩ ∧ rightW ⟨84, 0, 0, 0, 0, 0, 0, 0, n, ⟨#[]⟩, ⟨#[]⟩, ⟨#[]⟩, ⟨#[]⟩, ⟨#[]⟩⟩ nil0 (Wp.short []) = true := by
  have hwf : Wf ⟨84, 0, 0, 0, 0, 0, 0, 0, n, ⟨#[]⟩, ⟨#[]⟩, ⟨#[]⟩, ⟨#[]⟩, ⟨#[]⟩⟩ := Keep.wf_small _ Keep.zz Keep.zz Keep.zz Keep.zz Keep.zz ⟨by show (0 : Int) ≤ n; omega, by show n ≤ (1001 : Int); omega⟩
  refine ⟨hwf, ?_⟩
  refine (right_iff _ _ _ hwf).2 ⟨19, by decide, rfl, ?_, rfl, rfl⟩
  show List.all [8] _ = true
  simp only [List.all_cons, List.all_nil, Bool.and_true]
  exact Keep.fits_of _ _ _ 8 (by decide) (by decide) (by decide) (show (1 : Int) ≤ n by omega) (show n ≤ (1000 : Int) by omega)

/-- One message was sent; nd: is its dedup there. -/
structure Sent (B mm : Nat) (w : World) (x st b qb gm cm gd cd nd : Nat) (rs : Value) (c : Wp.Rq) (m : Ms) (d : Dd) (now : Int) : Prop where
  brk : Brk w st b now (.pointer (some ⟨qb, 0, none⟩))
  que : Qb w qb c 2 (.slice (some ⟨gm, 0, none⟩) 1 cm) rs (.slice (some ⟨gd, 0, none⟩) nd cd) (.slice none 0 0)
  ms : w.ownsRow 0 226 5 (.slice (some ⟨gm, 0, none⟩) 1 cm) 1 m.row
  dd : w.ownsRow 0 230 3 (.slice (some ⟨gd, 0, none⟩) nd cd) nd (if nd = 1 then d.row else [])
  rd : ∃ nr xr, w.ownsRow 0 9 1 rs nr xr ∧ nr ≤ 1
  jn : Jn false B mm w x st
  lo : B ≤ st ∧ B ≤ qb ∧ B ≤ gm ∧ B ≤ gd ∧ ∀ j, rs.ownBlock = some j → B ≤ j

end Go.Proofs.YtbdobaapadlcjaaGreatDoor

namespace Go.Proofs.YtbdobaapadlcjaaGreatDoor
open Go.RowKit Keep
set_option linter.unusedVariables false
set_option linter.unusedSimpArgs false

structure SI (Q : QM) : Prop where
  next : Q.next = Q.ms.length + 1
  num : ∀ j (h : j < Q.ms.length), Q.ms[j].num = ((j + 1 : Nat) : Int)
  ok : ∀ m ∈ Q.ms, m.rcv = 0 ∧ m.til = 0 ∧ m.grp.size ≤ 8 ∧ m.bod.size ≤ 40
  rs : Q.rs.length ≤ Q.ms.length
  rd : ∀ g ∈ Q.rs, 0 ≤ idxL (isG g) Q.ms
  nd : Q.rs.Nodup
  ds : Q.ds.length ≤ Q.ms.length
  dn : ∀ d ∈ Q.ds, ∃ n : Nat, d.num = (n : Int) ∧ 1 ≤ n ∧ n ≤ Q.ms.length
  dw : Q.ds ≠ [] → 0 < Q.c.win
  ats : Q.ats = []
  ne : Q.ms ≠ [] → Q.rs ≠ []

theorem idxL_ex {α : Type} (p : α → Bool) (l : List α) : 0 ≤ idxL p l ↔ ∃ x ∈ l, p x = true := by
  constructor
  · intro h
    by_cases hc : ∃ x ∈ l, p x = true
    · exact hc
    · have : idxL p l < 0 := (idxL_neg p l).2 (fun x hx => by
        cases hp : p x with
        | false => rfl
        | true => exact absurd ⟨x, hx, hp⟩ hc)
      omega
  · rintro ⟨x, hx, hp⟩
    by_cases hc : idxL p l < 0
    · have := (idxL_neg p l).1 hc x hx
      rw [hp] at this
      cases this
    · omega
/-- A name that may be a group's. -/
def nmS (s : ByteArray) : ByteArray := if 0 < s.size then sh s 8 else ⟨#[103]⟩
theorem okN_ext (k : Nat) : ((okN k).extract 1 5) = ⟨(lowB k 4).toArray⟩ := by
  have e : (lowB k 4) = [UInt8.ofNat (k / 256 ^ 0 % 256), UInt8.ofNat (k / 256 ^ 1 % 256), UInt8.ofNat (k / 256 ^ 2 % 256), UInt8.ofNat (k / 256 ^ 3 % 256)] := rfl
  unfold okN
  rw [e]
  rfl
theorem number_okN (k : Nat) (hk : k < 4294967296) (w : World) : Calls Tryz.prog 36 #[.string ((okN k).extract 1 5)] w fun e w' => e = .returned (.int .i64 (k : Int)) ∧ w' = w := by
  rw [okN_ext]
  have h := number4_any ⟨(lowB k 4).toArray⟩ w (by show (lowB k 4).toArray.size = 4; simp [lowB_length])
  have hb : ∀ n : Nat, n < 256 → (UInt8.ofNat n).toNat = n := fun n hn => UInt8.toNat_ofNat_of_lt' (by show _ < 256; omega)
  refine h.mono ?_
  rintro e w' ⟨rfl, rfl⟩
  refine ⟨ret_int ?_, rfl⟩
  have e0 : (⟨(lowB k 4).toArray⟩ : ByteArray)[0]'(by show 0 < (lowB k 4).toArray.size; simp [lowB_length]) = UInt8.ofNat (k / 256 ^ 0 % 256) := rfl
  have e1 : (⟨(lowB k 4).toArray⟩ : ByteArray)[1]'(by show 1 < (lowB k 4).toArray.size; simp [lowB_length]) = UInt8.ofNat (k / 256 ^ 1 % 256) := rfl
  have e2 : (⟨(lowB k 4).toArray⟩ : ByteArray)[2]'(by show 2 < (lowB k 4).toArray.size; simp [lowB_length]) = UInt8.ofNat (k / 256 ^ 2 % 256) := rfl
  have e3 : (⟨(lowB k 4).toArray⟩ : ByteArray)[3]'(by show 3 < (lowB k 4).toArray.size; simp [lowB_length]) = UInt8.ofNat (k / 256 ^ 3 % 256) := rfl
  rw [e0, e1, e2, e3, hb _ (by omega), hb _ (by omega), hb _ (by omega), hb _ (by omega)]
  omega
end Go.Proofs.YtbdobaapadlcjaaGreatDoor
