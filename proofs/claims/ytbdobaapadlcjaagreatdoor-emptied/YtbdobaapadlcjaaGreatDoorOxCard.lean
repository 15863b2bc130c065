import Derived.Test.YtbdobaapadlcjaaGreatDoorOx45
import Derived.Test.YtbdobaapadlcjaaGreatDoorOx46
import Derived.Test.YtbdobaapadlcjaaGreatDoorOx48
import Derived.Test.YtbdobaapadlcjaaGreatDoorOx09
import Derived.WalkKit
import Derived.Deep.Slices
import Derived.SizedLaws
namespace Go.Proofs.YtbdobaapadlcjaaGreatDoor
open Go.RowKit
set_option linter.unusedVariables false
set_option linter.unusedSimpArgs false
theorem ticks_p (B : Nat) (w0 w : World) (x st b lb : Nat) (now : Int) (cq : Wp.Rq) (Q : QM) (sv tv : Value) (ss : List Sn) (ps : List (Nat × Nat)) (kd a bb : Int) (s1 s2 s3 : ByteArray) (ha : i64 a) (h : OP B w0 w x st b lb now cq Q sv tv ss ps) :
    Calls Tryz.prog 23 #[.pointer (some ⟨lb, 0, none⟩), .agg #[.int .i64 kd, .int .i64 a, .int .i64 bb, .string s1, .string s2, .string s3]] w fun e w' => e = .returned (.bool true) ∧ ∃ now' Q' ss', OP B w0 w' x st b lb now' cq Q' sv tv ss' ps ∧ (now' = now ∧ Q' = Q ∨ now + 1 ≤ now') := by
  have hW := h.wf
  have hsl : ss.length ≤ 200 := h.pr.len hW.nx.2
  have hp1 := pk_nonneg a 1000 (by omega)
  refine (ticks_g B w0 w x st b lb now (oneC Q) cq sv tv ss (ps.map hB) kd a bb s1 s2 s3 (1 + pk a 1000) ha rfl (by omega) h.ol).mono ?_
  rintro e w' ⟨rfl, hor⟩
  refine ⟨rfl, ?_⟩
  rcases hor with ⟨_, ho⟩ | ⟨_, ho⟩
  · exact ⟨now, Q, ss, ⟨ho, h.pr, h.cc⟩, .inl ⟨rfl, rfl⟩⟩
  · obtain ⟨rs', ht⟩ := time_one (now + (1 + pk a 1000)) Q hW.nums h.pr.dd
    rw [ht] at ho
    refine ⟨_, _, _, ⟨ho, h.pr.tick hW.nums (by omega) rfl rfl rfl ?_ (fun d hd => (List.mem_filter.1 hd).1), h.cc⟩, .inr (by omega)⟩
    show Q.ats.filter _ = []
    rw [h.pr.ats]
    rfl
end Go.Proofs.YtbdobaapadlcjaaGreatDoor
namespace Go.Proofs.YtbdobaapadlcjaaGreatDoor
open Go.RowKit Keep
set_option linter.unusedVariables false
set_option linter.unusedSimpArgs false
def SP (B : Nat) (w0 : World) (x st b lb : Nat) (cq : Wp.Rq) (N : Int) (w : World) : Prop := ∃ now Q sv tv ss ps, OP B w0 w x st b lb now cq Q sv tv ss ps ∧ (ps.length : Int) ≤ N + 50 * now + (flyCnt Q : Int)
theorem SP.tch {B : Nat} {w0 w w' : World} {x st b lb : Nat} {cq : Wp.Rq} {N : Int} (h : SP B w0 x st b lb cq N w) (ht : Tch [] w w') : SP B w0 x st b lb cq N w' := by
  obtain ⟨now, Q, sv, tv, ss, ps, ho, hb⟩ := h
  exact ⟨now, Q, sv, tv, ss, ps, ho.tch ht, hb⟩
theorem SP.mono {B : Nat} {w0 w : World} {x st b lb : Nat} {cq : Wp.Rq} {N M : Int} (h : SP B w0 x st b lb cq N w) (hm : N ≤ M) : SP B w0 x st b lb cq M w := by
  obtain ⟨now, Q, sv, tv, ss, ps, ho, hb⟩ := h
  exact ⟨now, Q, sv, tv, ss, ps, ho, by omega⟩
theorem sp_send (B : Nat) (w0 w : World) (x st b lb : Nat) (cq : Wp.Rq) (N kd a bb : Int) (s1 s2 s3 : ByteArray) (h1 : s1.size ≤ maxLen) (h2 : s2.size ≤ maxLen) (h3 : s3.size ≤ maxLen) (h : SP B w0 x st b lb cq N w) :
    Calls Tryz.prog 20 #[.pointer (some ⟨lb, 0, none⟩), .agg (stepD kd a bb s1 s2 s3)] w fun e w' => e = .returned (.bool true) ∧ SP B w0 x st b lb cq (N + 1) w' := by
  obtain ⟨now, Q, sv, tv, ss, ps, ho, hb⟩ := h
  refine (send_p B w0 w x st b lb now cq Q sv tv ss ps kd a bb s1 s2 s3 h1 h2 h3 ho).mono ?_
  rintro e w' ⟨rfl, Q', sv', ss', ho', hf⟩
  exact ⟨rfl, now, Q', sv', tv, ss', ps, ho', by omega⟩
theorem sp_rcv (B : Nat) (w0 w : World) (x st b lb : Nat) (cq : Wp.Rq) (N kd a bb : Int) (s1 s2 s3 : ByteArray) (ha : i64 a) (hN : N ≤ 3000000000000) (h : SP B w0 x st b lb cq N w) :
    Calls Tryz.prog 31 #[.pointer (some ⟨lb, 0, none⟩), .agg (stepD kd a bb s1 s2 s3)] w fun e w' => e = .returned (.bool true) ∧ SP B w0 x st b lb cq (N + 1) w' := by
  obtain ⟨now, Q, sv, tv, ss, ps, ho, hb⟩ := h
  have hnw := ho.nw
  have hfl := flyCnt_le ho.wf
  refine (receives_g B w0 w x st b lb now cq Q sv tv ss ps kd a bb s1 s2 s3 ha (by omega) ho).mono ?_
  rintro e w' ⟨rfl, Q', tv', ss', ps', ho', hf⟩
  exact ⟨rfl, now, Q', sv, tv', ss', ps', ho', by omega⟩
theorem sp_A (B : Nat) (w0 w : World) (x st b lb : Nat) (cq : Wp.Rq) (N a bb : Int) (s1 s2 s3 : ByteArray) (hbb : i64 bb) (hN : N ≤ 3000000000000) (h : SP B w0 x st b lb cq N w) :
    Calls Tryz.prog 32 #[.pointer (some ⟨lb, 0, none⟩), .agg (stepD 3 a bb s1 s2 s3)] w fun e w' => e = .returned (.bool true) ∧ SP B w0 x st b lb cq (N + 1) w' := by
  obtain ⟨now, Q, sv, tv, ss, ps, ho, hb⟩ := h
  have hnw := ho.nw
  have hfl := flyCnt_le ho.wf
  refine (endsA_g B w0 w x st b lb now cq Q sv tv ss ps a bb s1 s2 s3 hbb (by omega) ho).mono ?_
  rintro e w' ⟨rfl, Q', ss', ho', hf⟩
  exact ⟨rfl, now, Q', sv, tv, ss', ps, ho', by omega⟩
theorem sp_E (B : Nat) (w0 w : World) (x st b lb : Nat) (cq : Wp.Rq) (N a bb : Int) (s1 s2 s3 : ByteArray) (ha : i64 a) (hbb : i64 bb) (hN : N ≤ 3000000000000) (h : SP B w0 x st b lb cq N w) :
    Calls Tryz.prog 32 #[.pointer (some ⟨lb, 0, none⟩), .agg (stepD 4 a bb s1 s2 s3)] w fun e w' => e = .returned (.bool true) ∧ SP B w0 x st b lb cq (N + 1) w' := by
  obtain ⟨now, Q, sv, tv, ss, ps, ho, hb⟩ := h
  have hnw := ho.nw
  have hfl := flyCnt_le ho.wf
  refine (endsE_g B w0 w x st b lb now cq Q sv tv ss ps a bb s1 s2 s3 ha hbb (by omega) ho).mono ?_
  rintro e w' ⟨rfl, Q', ss', ho', hf⟩
  exact ⟨rfl, now, Q', sv, tv, ss', ps, ho', by omega⟩
theorem sp_T (B : Nat) (w0 w : World) (x st b lb : Nat) (cq : Wp.Rq) (N kd a bb : Int) (s1 s2 s3 : ByteArray) (ha : i64 a) (h : SP B w0 x st b lb cq N w) :
    Calls Tryz.prog 23 #[.pointer (some ⟨lb, 0, none⟩), .agg (stepD kd a bb s1 s2 s3)] w fun e w' => e = .returned (.bool true) ∧ SP B w0 x st b lb cq (N + 1) w' := by
  obtain ⟨now, Q, sv, tv, ss, ps, ho, hb⟩ := h
  have hfl := flyCnt_le ho.wf
  refine (ticks_p B w0 w x st b lb now cq Q sv tv ss ps kd a bb s1 s2 s3 ha ho).mono ?_
  rintro e w' ⟨rfl, now', Q', ss', ho', hor⟩
  refine ⟨rfl, now', Q', sv, tv, ss', ps, ho', ?_⟩
  rcases hor with ⟨rfl, rfl⟩ | hn
  · omega
  · omega
set_option maxRecDepth 8000 in
set_option maxHeartbeats 2000000 in
theorem step_g (B : Nat) (w0 w : World) (x st b lb : Nat) (cq : Wp.Rq) (N kd a bb : Int) (s1 s2 s3 : ByteArray) (h1 : s1.size ≤ maxLen) (h2 : s2.size ≤ maxLen) (h3 : s3.size ≤ maxLen) (ha : i64 a) (hbb : i64 bb) (hN : N ≤ 3000000000000) (h : SP B w0 x st b lb cq N w) :
    Calls Tryz.prog 13 #[.pointer (some ⟨lb, 0, none⟩), .agg #[.int .i64 kd, .int .i64 a, .int .i64 bb, .string s1, .string s2, .string s3]] w fun e w' => e = .returned (.bool true) ∧ SP B w0 x st b lb cq (N + 1) w' := by
  have HW : Hid (∀ W, Tch [] w W → SP B w0 x st b lb cq N W) := fun W ht => h.tch ht
  have HT1 : Hid (∀ o, Tch [] w (w.alloc o)) := fun o => (Tch.refl [] w).alloc o
  have H1 : Hid (∀ W, Tch [] w W → Calls Tryz.prog 20 #[.pointer (some ⟨lb, 0, none⟩), .agg #[.int .i64 kd, .int .i64 a, .int .i64 bb, .string s1, .string s2, .string s3]] W fun e w' => e = .returned (.bool true) ∧ SP B w0 x st b lb cq (N + 1) w') := fun W ht => sp_send B w0 W x st b lb cq N kd a bb s1 s2 s3 h1 h2 h3 (HW.out W ht)
  have H2 : Hid (∀ W, Tch [] w W → Calls Tryz.prog 31 #[.pointer (some ⟨lb, 0, none⟩), .agg #[.int .i64 kd, .int .i64 a, .int .i64 bb, .string s1, .string s2, .string s3]] W fun e w' => e = .returned (.bool true) ∧ SP B w0 x st b lb cq (N + 1) w') := fun W ht => sp_rcv B w0 W x st b lb cq N kd a bb s1 s2 s3 ha hN (HW.out W ht)
  have H3 : Hid (kd = 3 ∨ kd = 4 → ∀ W, Tch [] w W → Calls Tryz.prog 32 #[.pointer (some ⟨lb, 0, none⟩), .agg #[.int .i64 kd, .int .i64 a, .int .i64 bb, .string s1, .string s2, .string s3]] W fun e w' => e = .returned (.bool true) ∧ SP B w0 x st b lb cq (N + 1) w') := fun hk W ht => by
    rcases hk with rfl | rfl
    · exact sp_A B w0 W x st b lb cq N a bb s1 s2 s3 hbb hN (HW.out W ht)
    · exact sp_E B w0 W x st b lb cq N a bb s1 s2 s3 ha hbb hN (HW.out W ht)
  have H5 : Hid (∀ W, Tch [] w W → Calls Tryz.prog 23 #[.pointer (some ⟨lb, 0, none⟩), .agg #[.int .i64 kd, .int .i64 a, .int .i64 bb, .string s1, .string s2, .string s3]] W fun e w' => e = .returned (.bool true) ∧ SP B w0 x st b lb cq (N + 1) w') := fun W ht => sp_T B w0 W x st b lb cq N kd a bb s1 s2 s3 ha (HW.out W ht)
  have HZ : Hid (∀ W, Tch [] w W → SP B w0 x st b lb cq (N + 1) W) := fun W ht => (HW.out W ht).mono (by omega)
  clear h ha hbb h1 h2 h3 HW
  by_cases k1 : kd = 1
  · subst k1
    go_enter Tryz.func13, Tryz.ntmps13
    go_wp2_with fail
    refine (H1.out _ (HT1.out _)).mono ?_
    rintro e w5 ⟨rfl, hs⟩
    have HS : Hid (SP B w0 x st b lb cq (N + 1) w5) := hs
    clear hs
    go_wp2_with fail
    go_ret
    exact ⟨rfl, HS.out⟩
  · have q1 : (kd == 1) = false := beq_eq_false_iff_ne.2 k1
    by_cases k2 : kd = 2
    · subst k2
      go_enter Tryz.func13, Tryz.ntmps13
      go_wp2_with fail
      refine (H2.out _ (HT1.out _)).mono ?_
      rintro e w5 ⟨rfl, hs⟩
      have HS : Hid (SP B w0 x st b lb cq (N + 1) w5) := hs
      clear hs
      go_wp2_with fail
      go_ret
      exact ⟨rfl, HS.out⟩
    · have q2 : (kd == 2) = false := beq_eq_false_iff_ne.2 k2
      by_cases k3 : kd = 3 ∨ kd = 4
      · have H3' : Hid (∀ W, Tch [] w W → _) := H3.out k3
        rcases k3 with rfl | rfl
        all_goals
          go_enter Tryz.func13, Tryz.ntmps13
          go_wp2_with fail
          refine (H3'.out _ (HT1.out _)).mono ?_
          rintro e w5 ⟨rfl, hs⟩
          have HS : Hid (SP B w0 x st b lb cq (N + 1) w5) := hs
          clear hs
          go_wp2_with fail
          go_ret
          exact ⟨rfl, HS.out⟩
      · have q3 : (kd == 3) = false := beq_eq_false_iff_ne.2 (fun e => k3 (.inl e))
        have q4 : (kd == 4) = false := beq_eq_false_iff_ne.2 (fun e => k3 (.inr e))
        by_cases k5 : kd = 5
        · subst k5
          go_enter Tryz.func13, Tryz.ntmps13
          go_wp2_with fail
          refine (H5.out _ (HT1.out _)).mono ?_
          rintro e w5 ⟨rfl, hs⟩
          have HS : Hid (SP B w0 x st b lb cq (N + 1) w5) := hs
          clear hs
          go_wp2_with fail
          go_ret
          exact ⟨rfl, HS.out⟩
        · have q5 : (kd == 5) = false := beq_eq_false_iff_ne.2 k5
          go_enter Tryz.func13, Tryz.ntmps13
          go_wp2_with fail
          go_ret
          exact ⟨rfl, HZ.out _ (HT1.out _)⟩
end Go.Proofs.YtbdobaapadlcjaaGreatDoor
namespace Go.Proofs.YtbdobaapadlcjaaGreatDoor
open Go.RowKit
set_option linter.unusedVariables false
set_option linter.unusedSimpArgs false
theorem cqN_cf (V W2 R U : Int) (h1 : 0 ≤ V ∧ V < 1000) (h2 : 0 ≤ W2 ∧ W2 < 1001) (h3 : 0 ≤ R ∧ R < 10) (h4 : 0 ≤ U ∧ U < 50) : Rok (cqN V W2 R U) ∧ CfW 0 (cqN V W2 R U) := by
  have hright := cqN_right V W2 R U h1 h2 h3 h4
  refine ⟨⟨cqN_wf V W2 R U h1 h2 h3 h4, hright, by have := small_C _ hright rfl; omega⟩, ⟨rfl, .inl rfl, ?_, ?_, ?_, ?_⟩⟩
  · show (1 : Int) ≤ 1 + V ∧ 1 + V ≤ 1000; omega
  · show (0 : Int) ≤ W2 ∧ W2 ≤ 1000; omega
  · show (0 : Int) ≤ R ∧ R ≤ 9; omega
  · show (1 : Int) ≤ 1 + U ∧ 1 + U ≤ 50; omega
set_option maxRecDepth 8000 in
set_option maxHeartbeats 4000000 in
theorem begun_g (B : Nat) (r : Wp.Rq) (x : Sl) (w : World) (hw : Wf r) (hz : Keep.Szs r) (hE : Env B w) :
    Calls Tryz.prog 12 #[.agg (cellsOf r x.v)] w fun e w' => ∃ lb xb st b, e = .returned (.pointer (some ⟨lb, 0, none⟩)) ∧ SP B w xb st b lb (cqN (pk r.vis 1000) (pk r.win 1001) (pk r.rcv 10) (pk r.quo 50)) 0 w' := by
  have hL := hE.lays
  have hT := hE.tab
  have hB3 := hE.three
  have h3 := hE.size
  have HSH : Hid (∀ W, Calls Tryz.prog 30 #[.agg (cellsOf { r with op := 0, q := 0 } x.v)] W fun e w' => (∃ q d : UInt8, e = .returned (.agg (cellsOf ⟨67, q, d, (1 + pk r.vis 1000), pk r.win 1001, pk r.rcv 10, (1 + pk r.quo 50), 0, 0, ⟨#[]⟩, ⟨#[]⟩, ⟨#[]⟩, ⟨#[]⟩, ⟨#[]⟩⟩ (Sl.v ⟨none, 0, 0⟩)))) ∧ Below W.heap.size W w') := fun W =>
    Keep.shaped_C { r with op := 0, q := 0 } x W rfl ⟨hw.vis, hw.win, hw.rcv, hw.quo, hw.mx, hw.tic⟩ ⟨hz.grp, hz.ded, hz.bod, hz.att, hz.han⟩
  have p1 : 0 ≤ pk r.vis 1000 ∧ pk r.vis 1000 < 1000 := ⟨pk_nonneg _ _ (by decide), pk_lt _ _ (by decide)⟩
  have p2 : 0 ≤ pk r.win 1001 ∧ pk r.win 1001 < 1001 := ⟨pk_nonneg _ _ (by decide), pk_lt _ _ (by decide)⟩
  have p3 : 0 ≤ pk r.rcv 10 ∧ pk r.rcv 10 < 10 := ⟨pk_nonneg _ _ (by decide), pk_lt _ _ (by decide)⟩
  have p4 : 0 ≤ pk r.quo 50 ∧ pk r.quo 50 < 50 := ⟨pk_nonneg _ _ (by decide), pk_lt _ _ (by decide)⟩
  generalize pk r.vis 1000 = V at *
  generalize pk r.win 1001 = W2 at *
  generalize pk r.rcv 10 = R at *
  generalize pk r.quo 50 = U at *
  rw [show cellsOf { r with op := 0, q := 0 } x.v = #[.int .u8 0, .int .u8 0, .int .u8 (r.d.toNat : Int), .int .i64 r.vis, .int .i64 r.win, .int .i64 r.rcv, .int .i64 r.quo, .int .i64 r.mx, .int .i64 r.tic, .string r.grp, .string r.ded, .string r.bod, .string r.att, .string r.han, .slice x.a x.n x.c] from rfl] at HSH
  have HCW : Hid (Rok (cqN V W2 R U) ∧ CfW 0 (cqN V W2 R U)) := cqN_cf V W2 R U p1 p2 p3 p4
  have HE : Hid (Env B w) := hE
  clear hw hz p1 p2 p3 p4 hL hT hE
  rw [show cellsOf r x.v = #[.int .u8 (r.op.toNat : Int), .int .u8 (r.q.toNat : Int), .int .u8 (r.d.toNat : Int), .int .i64 r.vis, .int .i64 r.win, .int .i64 r.rcv, .int .i64 r.quo, .int .i64 r.mx, .int .i64 r.tic, .string r.grp, .string r.ded, .string r.bod, .string r.att, .string r.han, .slice x.a x.n x.c] from rfl]
  go_enter Tryz.func12, Tryz.ntmps12
  go_wp2_with fail
  refine (opened_any _).mono ?_
  rintro e w1 ⟨xb, st, b, j, dk, rfl, hb1, hO, hdk⟩
  have t1 : Tch [] w w1 := ((Tch.refl [] w).alloc _).trans (Tch.of_below hb1) (by simp)
  rw [World.size_alloc] at hO hb1 hdk
  have hK1 : Bk B w1 xb st b 0 (fun _ => none) (fun _ => 9) := Opn.bk (⟨hO.hx, hO.jr, hO.brk, by have := hO.lo; omega⟩ : Opn B w1 xb st b j dk (.slice none 0 0)) (by omega) _
  have hrow : w1.heap[w.heap.size]? = some (.cells #[.int .u8 (r.op.toNat : Int), .int .u8 (r.q.toNat : Int), .int .u8 (r.d.toNat : Int), .int .i64 r.vis, .int .i64 r.win, .int .i64 r.rcv, .int .i64 r.quo, .int .i64 r.mx, .int .i64 r.tic, .string r.grp, .string r.ded, .string r.bod, .string r.att, .string r.han, .slice x.a x.n x.c] 27 (0, 0)) := (hb1.block _ (by omega)).trans (heap_alloc_new _ _)
  have e0 : w1.cell? ⟨w.heap.size, 0, none⟩ = some (.int .u8 (r.op.toNat : Int)) := cell_qC hrow 0 _ rfl
  have e1 : w1.cell? ⟨w.heap.size, 1, none⟩ = some (.int .u8 (r.q.toNat : Int)) := cell_qC hrow 1 _ rfl
  have e2 : w1.cell? ⟨w.heap.size, 2, none⟩ = some (.int .u8 (r.d.toNat : Int)) := cell_qC hrow 2 _ rfl
  have e3 : w1.cell? ⟨w.heap.size, 3, none⟩ = some (.int .i64 r.vis) := cell_qC hrow 3 _ rfl
  have e4 : w1.cell? ⟨w.heap.size, 4, none⟩ = some (.int .i64 r.win) := cell_qC hrow 4 _ rfl
  have e5 : w1.cell? ⟨w.heap.size, 5, none⟩ = some (.int .i64 r.rcv) := cell_qC hrow 5 _ rfl
  have e6 : w1.cell? ⟨w.heap.size, 6, none⟩ = some (.int .i64 r.quo) := cell_qC hrow 6 _ rfl
  have e7 : w1.cell? ⟨w.heap.size, 7, none⟩ = some (.int .i64 r.mx) := cell_qC hrow 7 _ rfl
  have e8 : w1.cell? ⟨w.heap.size, 8, none⟩ = some (.int .i64 r.tic) := cell_qC hrow 8 _ rfl
  have e9 : w1.cell? ⟨w.heap.size, 9, none⟩ = some (.string r.grp) := cell_qC hrow 9 _ rfl
  have e10 : w1.cell? ⟨w.heap.size, 10, none⟩ = some (.string r.ded) := cell_qC hrow 10 _ rfl
  have e11 : w1.cell? ⟨w.heap.size, 11, none⟩ = some (.string r.bod) := cell_qC hrow 11 _ rfl
  have e12 : w1.cell? ⟨w.heap.size, 12, none⟩ = some (.string r.att) := cell_qC hrow 12 _ rfl
  have e13 : w1.cell? ⟨w.heap.size, 13, none⟩ = some (.string r.han) := cell_qC hrow 13 _ rfl
  have e14 : w1.cell? ⟨w.heap.size, 14, none⟩ = some (.slice x.a x.n x.c) := cell_qC hrow 14 _ rfl
  have lt1 := lt_of_block hrow
  have fz0 : w1.frozen? ⟨w.heap.size, 0, none⟩ = false := frozen_of_row w1 _ 0 _ 27 hrow
  have fz1 : (w1.setCell ⟨w.heap.size, 0, none⟩ (.int .u8 0)).frozen? ⟨w.heap.size, 1, none⟩ = false := frozen_of_row _ _ 1 _ 27 (heap_setCell_same w1 _ 0 _ 27 _ hrow)
  have fz1' : w1.frozen? ⟨w.heap.size, 1, none⟩ = false := frozen_of_row w1 _ 1 _ 27 hrow
  have T1 : Hid (Tch [] w w1) := t1
  have HB1 : Hid (Bk B w1 xb st b 0 (fun _ => none) (fun _ => 9)) := hK1
  have HRW : Hid (w1.heap[w.heap.size]? = some (.cells #[.int .u8 (r.op.toNat : Int), .int .u8 (r.q.toNat : Int), .int .u8 (r.d.toNat : Int), .int .i64 r.vis, .int .i64 r.win, .int .i64 r.rcv, .int .i64 r.quo, .int .i64 r.mx, .int .i64 r.tic, .string r.grp, .string r.ded, .string r.bod, .string r.att, .string r.han, .slice x.a x.n x.c] 27 (0, 0))) := hrow
  clear hb1 hrow t1 hO hK1
  go_wp2_with fail
  refine (HSH.out _).mono ?_
  rintro e w2 ⟨⟨q, d, rfl⟩, hb2⟩
  have t2 : Tch [w.heap.size] w1 w2 := (((Tch.refl [w.heap.size] w1).setCell (fun _ => by simp) _).setCell (fun _ => by simp) _).trans (Tch.of_below hb2) (by simp)
  have T2 : Hid (Tch [w.heap.size] w1 w2) := t2
  clear hb2 t2
  rw [show cellsOf ⟨67, q, d, 1 + V, W2, R, 1 + U, 0, 0, ⟨#[]⟩, ⟨#[]⟩, ⟨#[]⟩, ⟨#[]⟩, ⟨#[]⟩⟩ (Sl.v ⟨none, 0, 0⟩) = #[.int .u8 67, .int .u8 (q.toNat : Int), .int .u8 (d.toNat : Int), .int .i64 (1 + V), .int .i64 W2, .int .i64 R, .int .i64 (1 + U), .int .i64 0, .int .i64 0, .string ⟨#[]⟩, .string ⟨#[]⟩, .string ⟨#[]⟩, .string ⟨#[]⟩, .string ⟨#[]⟩, .slice none 0 0] from rfl]
  go_wp2_with fail
  have z1 := T1.out.size
  have f2 : Fr B [27] w1 w2 := Fr.one T2.out (by omega) h3 HRW.out (by decide)
  have tw2 : Tch [] w w2 := T1.out.trans T2.out (by simp)
  have ta : Tch [] w2 (w2.alloc (.cells #[.int .u8 67, .int .u8 97, .int .u8 45, .int .i64 (1 + V), .int .i64 W2, .int .i64 R, .int .i64 (1 + U), .int .i64 0, .int .i64 0, .string ⟨#[]⟩, .string ⟨#[]⟩, .string ⟨#[]⟩, .string ⟨#[]⟩, .string ⟨#[]⟩, .slice none 0 0] 27)) := (Tch.refl [] w2).alloc _
  have hB2 : Bk B w2 xb st b 0 (fun _ => none) (fun _ => 9) := by
    obtain ⟨⟨Z, hs, hc⟩, hwf, hnw, o, room, hJ⟩ := HB1.out
    exact ⟨⟨Z, hs.fr f2 (by decide) (by decide) (by decide), hc⟩, hwf, hnw, o, room, hJ.fr f2 (by decide) (by decide) (by decide) (by decide)⟩
  have z2 := T2.out.size
  have HE2 : Hid (Env B (w2.alloc (.cells #[.int .u8 67, .int .u8 97, .int .u8 45, .int .i64 (1 + V), .int .i64 W2, .int .i64 R, .int .i64 (1 + U), .int .i64 0, .int .i64 0, .string ⟨#[]⟩, .string ⟨#[]⟩, .string ⟨#[]⟩, .string ⟨#[]⟩, .string ⟨#[]⟩, .slice none 0 0] 27))) := HE.out.tch (tw2.alloc _) (by simp)
  have hC := create_g B (cqN V W2 R U) xb st b 0 0 (fun _ => none) (fun _ => 9) (w2.alloc (.cells #[.int .u8 67, .int .u8 97, .int .u8 45, .int .i64 (1 + V), .int .i64 W2, .int .i64 R, .int .i64 (1 + U), .int .i64 0, .int .i64 0, .string ⟨#[]⟩, .string ⟨#[]⟩, .string ⟨#[]⟩, .string ⟨#[]⟩, .string ⟨#[]⟩, .slice none 0 0] 27)) HE2.out (hB2.tch ta) HCW.out.1 rfl (by decide) rfl HCW.out.2 rfl
  rw [show cellsOf (cqN V W2 R U) nil0.v = #[.int .u8 67, .int .u8 97, .int .u8 45, .int .i64 (1 + V), .int .i64 W2, .int .i64 R, .int .i64 (1 + U), .int .i64 0, .int .i64 0, .string ⟨#[]⟩, .string ⟨#[]⟩, .string ⟨#[]⟩, .string ⟨#[]⟩, .string ⟨#[]⟩, .slice none 0 0] from rfl] at hC
  refine hC.mono ?_
  rintro e w3 ⟨rfl, hd3⟩
  have HE3 : Hid (Env B w3) := hd3.env HE2.out
  obtain ⟨col3, hBk3, hag3, ht3⟩ := hd3
  have hrow3 : w3.heap[w2.heap.size]? = some (.cells #[.int .u8 67, .int .u8 97, .int .u8 45, .int .i64 (1 + V), .int .i64 W2, .int .i64 R, .int .i64 (1 + U), .int .i64 0, .int .i64 0, .string ⟨#[]⟩, .string ⟨#[]⟩, .string ⟨#[]⟩, .string ⟨#[]⟩, .string ⟨#[]⟩, .slice none 0 0] 27 (0, 0)) := ht3.keep _ _ _ (heap_alloc_new _ _) (by decide)
  have k0 : w3.cell? ⟨w2.heap.size, 0, none⟩ = some (.int .u8 67) := cell_qC hrow3 0 _ rfl
  have k1 : w3.cell? ⟨w2.heap.size, 1, none⟩ = some (.int .u8 97) := cell_qC hrow3 1 _ rfl
  have k2 : w3.cell? ⟨w2.heap.size, 2, none⟩ = some (.int .u8 45) := cell_qC hrow3 2 _ rfl
  have k3 : w3.cell? ⟨w2.heap.size, 3, none⟩ = some (.int .i64 (1 + V)) := cell_qC hrow3 3 _ rfl
  have k4 : w3.cell? ⟨w2.heap.size, 4, none⟩ = some (.int .i64 W2) := cell_qC hrow3 4 _ rfl
  have k5 : w3.cell? ⟨w2.heap.size, 5, none⟩ = some (.int .i64 R) := cell_qC hrow3 5 _ rfl
  have k6 : w3.cell? ⟨w2.heap.size, 6, none⟩ = some (.int .i64 (1 + U)) := cell_qC hrow3 6 _ rfl
  have k7 : w3.cell? ⟨w2.heap.size, 7, none⟩ = some (.int .i64 0) := cell_qC hrow3 7 _ rfl
  have k8 : w3.cell? ⟨w2.heap.size, 8, none⟩ = some (.int .i64 0) := cell_qC hrow3 8 _ rfl
  have k9 : w3.cell? ⟨w2.heap.size, 9, none⟩ = some (.string ⟨#[]⟩) := cell_qC hrow3 9 _ rfl
  have k10 : w3.cell? ⟨w2.heap.size, 10, none⟩ = some (.string ⟨#[]⟩) := cell_qC hrow3 10 _ rfl
  have k11 : w3.cell? ⟨w2.heap.size, 11, none⟩ = some (.string ⟨#[]⟩) := cell_qC hrow3 11 _ rfl
  have k12 : w3.cell? ⟨w2.heap.size, 12, none⟩ = some (.string ⟨#[]⟩) := cell_qC hrow3 12 _ rfl
  have k13 : w3.cell? ⟨w2.heap.size, 13, none⟩ = some (.string ⟨#[]⟩) := cell_qC hrow3 13 _ rfl
  have k14 : w3.cell? ⟨w2.heap.size, 14, none⟩ = some (.slice none 0 0) := cell_qC hrow3 14 _ rfl
  have TF : Hid (Below B w w3) := (Fr.of_nil TB (tw2.alloc _) h3).below.trans ht3.below
  have HB3 : Hid (Bk B w3 xb st b 0 (oneC (newM (cqN V W2 R U))) col3) := hBk3
  have lt3 := lt_of_block hrow3
  clear hC hrow3 ht3 hBk3 hag3 hB2 tw2 ta f2
  go_wp2_with fail
  go_ret
  have tz : ∀ o : Obj, Tch [] w3 (w3.alloc o) := fun o => (Tch.refl [] w3).alloc o
  have zz := HE3.out.size
  refine ⟨w3.heap.size, xb, st, b, rfl, 0, newM (cqN V W2 R U), .slice none 0 0, .slice none 0 0, [], [], ⟨⟨⟨col3, HB3.out.tch (tz _), fun k hk => by simp [Value.ownBlock] at hk⟩, ⟨heap_alloc_new _ _, World.ownsRow_nil _ _ _ _, World.ownsRow_nil _ _ _ _⟩, zz, fun k hk => by simp [Value.ownBlock] at hk, HE3.out.tch (tz _) (by simp), TF.out.trans (Tch.below (tz _) (by simp) zz)⟩, PR.new 0 _ rfl, rfl, rfl, rfl⟩, ?_⟩
  show (0 : Int) ≤ 0 + 50 * 0 + _
  omega
structure St6 where
  kd : Int
  a : Int
  bb : Int
  s1 : ByteArray
  s2 : ByteArray
  s3 : ByteArray
def St6.row (s : St6) : List Value := [.int .i64 s.kd, .int .i64 s.a, .int .i64 s.bb, .string s.s1, .string s.s2, .string s.s3]
structure St6.Ok (s : St6) : Prop where
  a : i64 s.a
  bb : i64 s.bb
  s1 : s.s1.size ≤ maxLen
  s2 : s.s2.size ≤ maxLen
  s3 : s.s3.size ≤ maxLen
theorem SP.bel {B : Nat} {w0 w : World} {x st b lb : Nat} {cq : Wp.Rq} {N : Int} (h : SP B w0 x st b lb cq N w) : Below B w0 w := by
  obtain ⟨now, Q, sv, tv, ss, ps, ho, hb⟩ := h
  exact ho.ol.bel
theorem SP.base {B : Nat} {w0 w1 w : World} {x st b lb : Nat} {cq : Wp.Rq} {N : Int} (h : SP B w1 x st b lb cq N w) (hb : Below B w0 w1) : SP B w0 x st b lb cq N w := by
  obtain ⟨now, Q, sv, tv, ss, ps, ho, hn⟩ := h
  exact ⟨now, Q, sv, tv, ss, ps, ⟨⟨ho.ol.bk, ho.ol.lr, ho.ol.lb, ho.ol.lo, ho.ol.env, hb.trans ho.ol.bel⟩, ho.pr, ho.cc⟩, hn⟩
def Scr (B : Nat) (w : World) (ga : Option Addr) (sc : List St6) : Prop := 0 < sc.length → ∃ g o, ga = some ⟨g, o, none⟩ ∧ g < B ∧ ∀ j (hj : j < sc.length) (i : Nat) (u : Value), (sc[j].row)[i]? = some u → w.cell? ⟨g, o + j * 6 + i, none⟩ = some u
set_option maxRecDepth 8000 in
set_option maxHeartbeats 4000000 in
theorem ordered_walk (B : Nat) (r : Wp.Rq) (x : Sl) (ga : Option Addr) (gc : Nat) (sc : List St6) (w : World) (hw : Wf r) (hz : Keep.Szs r) (hE : Env B w) (hok : ∀ s ∈ sc, s.Ok) (hln : sc.length ≤ 2000000000000) (hga : Scr B w ga sc) :
    Calls Tryz.prog 4 #[.agg (cellsOf r x.v), .slice ga sc.length gc] w fun e w' => e = .returned (.bool true) ∧ Below B w w' := by
  have HBG : Hid (∀ W, Tch [] w W → Calls Tryz.prog 12 #[.agg (cellsOf r x.v)] W fun e w' => ∃ lb xb st b, e = .returned (.pointer (some ⟨lb, 0, none⟩)) ∧ SP B w xb st b lb (cqN (pk r.vis 1000) (pk r.win 1001) (pk r.rcv 10) (pk r.quo 50)) 0 w') := fun W ht => by
    refine (begun_g B r x W hw hz (hE.tch ht (by simp))).mono ?_
    rintro e w' ⟨lb, xb, st, b, he, hs⟩
    exact ⟨lb, xb, st, b, he, hs.base (ht.below (by simp) hE.size)⟩
  have HTA : Hid (∀ o, Tch [] w (w.alloc o)) := fun o => (Tch.refl [] w).alloc o
  generalize cqN (pk r.vis 1000) (pk r.win 1001) (pk r.rcv 10) (pk r.quo 50) = cq at *
  have HST : Hid (∀ W xb st b lb (i : Nat) (hi : i < sc.length), SP B w xb st b lb cq (i : Int) W → Calls Tryz.prog 13 #[.pointer (some ⟨lb, 0, none⟩), .agg #[.int .i64 sc[i].kd, .int .i64 sc[i].a, .int .i64 sc[i].bb, .string sc[i].s1, .string sc[i].s2, .string sc[i].s3]] W fun e w' => e = .returned (.bool true) ∧ SP B w xb st b lb cq ((i + 1 : Nat) : Int) w') := fun W xb st b lb i hi h => by
    have ho := hok _ (List.getElem_mem hi)
    exact step_g B w W xb st b lb cq (i : Int) sc[i].kd sc[i].a sc[i].bb sc[i].s1 sc[i].s2 sc[i].s3 ho.s1 ho.s2 ho.s3 ho.a ho.bb (by omega) h
  have HGA : Hid (Scr B w ga sc) := hga
  have HBW : Hid (B ≤ w.heap.size) := hE.size
  rw [show cellsOf r x.v = #[.int .u8 (r.op.toNat : Int), .int .u8 (r.q.toNat : Int), .int .u8 (r.d.toNat : Int), .int .i64 r.vis, .int .i64 r.win, .int .i64 r.rcv, .int .i64 r.quo, .int .i64 r.mx, .int .i64 r.tic, .string r.grp, .string r.ded, .string r.bod, .string r.att, .string r.han, .slice x.a x.n x.c] from rfl] at HBG ⊢
  clear hw hz hE hok hga
  go_enter Tryz.func4, Tryz.ntmps4
  go_wp2_with fail
  refine (HBG.out _ (HTA.out _)).mono ?_
  rintro e w1 ⟨lb, xb, st, b, rfl, hs1⟩
  have HS1 : Hid (SP B w xb st b lb cq 0 w1) := hs1
  clear hs1 HBG HTA
  generalize (Value.agg #[.int .u8 (r.op.toNat : Int), .int .u8 (r.q.toNat : Int), .int .u8 (r.d.toNat : Int), .int .i64 r.vis, .int .i64 r.win, .int .i64 r.rcv, .int .i64 r.quo, .int .i64 r.mx, .int .i64 r.tic, .string r.grp, .string r.ded, .string r.bod, .string r.att, .string r.han, .slice x.a x.n x.c]) = A0
  go_wp2_with fail
  go_loopw [6] (fun v wr => ∃ i : Nat, v = .int .i64 (i : Int) ∧ i ≤ sc.length ∧ SP B w xb st b lb cq (i : Int) wr) (fun v _ => sc.length - (intOf v).toNat)
  case atStart => exact ⟨0, rfl, Nat.zero_le _, HS1.out⟩
  case round =>
    obtain ⟨i, rfl, hi, hs⟩ := hrel
    clear HS1
    by_cases hlt : i < sc.length
    · obtain ⟨g, o, rfl, hg, hcs⟩ := HGA.out (by omega)
      have hb := hs.bel
      have hc : ∀ (k : Nat) (u : Value), (sc[i].row)[k]? = some u → wr.cell? ⟨g, o + i * 6 + k, none⟩ = some u := fun k u hu => by
        rw [hb.cell (p := ⟨g, o + i * 6 + k, none⟩) hg]
        exact hcs i hlt k u hu
      have d0 : wr.cell? ⟨g, o + i * 6, none⟩ = some (.int .i64 sc[i].kd) := hc 0 _ rfl
      have d1 : wr.cell? ⟨g, o + i * 6 + 1, none⟩ = some (.int .i64 sc[i].a) := hc 1 _ rfl
      have d2 : wr.cell? ⟨g, o + i * 6 + 2, none⟩ = some (.int .i64 sc[i].bb) := hc 2 _ rfl
      have d3 : wr.cell? ⟨g, o + i * 6 + 3, none⟩ = some (.string sc[i].s1) := hc 3 _ rfl
      have d4 : wr.cell? ⟨g, o + i * 6 + 4, none⟩ = some (.string sc[i].s2) := hc 4 _ rfl
      have d5 : wr.cell? ⟨g, o + i * 6 + 5, none⟩ = some (.string sc[i].s3) := hc 5 _ rfl
      have gl : g < wr.heap.size := World.block_lt_of_cell? _ _ d0
      have HS : Hid (Calls Tryz.prog 13 _ wr _) := HST.out wr xb st b lb i hlt hs
      clear hc hcs hs hb
      generalize sc[i].kd = q0 at *
      generalize sc[i].a = q1 at *
      generalize sc[i].bb = q2 at *
      generalize sc[i].s1 = q3 at *
      generalize sc[i].s2 = q4 at *
      generalize sc[i].s3 = q5 at *
      go_wp2_with fail
      refine HS.out.mono ?_
      rintro e w2 ⟨rfl, hs2⟩
      have HS2 : Hid (SP B w xb st b lb cq ((i + 1 : Nat) : Int) w2) := hs2
      clear hs2 HS d0 d1 d2 d3 d4 d5
      go_wp2_with fail
      go_roundw
      case rel => exact ⟨i + 1, by go_num, by omega, HS2.out⟩
      case measure => simp [intOf]; omega
    · have HB : Hid (Below B w wr) := hs.bel
      clear hs
      go_wp2_with fail
      go_ret
      exact ⟨rfl, HB.out⟩
end Go.Proofs.YtbdobaapadlcjaaGreatDoor
namespace Go.Proofs.YtbdobaapadlcjaaGreatDoor.Keep
open Go.ChangeShapes Go.WideShapes Go.ChangeAt Go.RowKit Go.Deep
set_option linter.unusedVariables false
set_option linter.unusedSimpArgs false
theorem cells33 : Tryz.prog.cellsOf 33 = 6 := by kernel_rfl
theorem bytes33 : Tryz.prog.bytesOf 33 = 72 := by kernel_rfl
theorem list6 {α : Type} {cs : List α} (h : cs.length = 6) : ∃ c0 c1 c2 c3 c4 c5, cs = [c0, c1, c2, c3, c4, c5] := by
  match cs, h with
  | [c0, c1, c2, c3, c4, c5], _ => exact ⟨c0, c1, c2, c3, c4, c5, rfl⟩
set_option maxRecDepth 100000 in
set_option maxHeartbeats 1000000 in
theorem open_st {H : Type} {enc : TypeId × Value → H} {W : World} {n : Nat} {cs : List Value} {y : DataW H × List MemPlace} (hl : cs.length = 6) (h : DataW.trod enc Tryz.prog W 0 (fun _ => true) true n 33 cs = some y) : ∃ s : St6, cs = s.row ∧ s.Ok := by
  obtain ⟨c0, c1, c2, c3, c4, c5, rfl⟩ := list6 hl
  obtain ⟨xs, n, _, _, _, hlen, hfd⟩ := DataW.trod_struct Tryz.underlying33 h
  have hlen' : xs.length = 6 := hlen
  have h0 : DataW.trod enc Tryz.prog W 0 (fun _ => true) true n 3 [c0] = some (xs[0]'(by omega)) := by
    have := hfd 0 _ rfl
    rw [List.getElem?_eq_getElem (by omega)] at this
    rw [← this]
    show _ = DataW.trod enc Tryz.prog W 0 (fun _ => true) true n 3 (List.take (Tryz.prog.cellsOf 3) (List.drop 0 [c0, c1, c2, c3, c4, c5]))
    rw [cells3]
    rfl
  have h1 : DataW.trod enc Tryz.prog W 0 (fun _ => true) true n 3 [c1] = some (xs[1]'(by omega)) := by
    have := hfd 1 _ rfl
    rw [List.getElem?_eq_getElem (by omega)] at this
    rw [← this]
    show _ = DataW.trod enc Tryz.prog W 0 (fun _ => true) true n 3 (List.take (Tryz.prog.cellsOf 3) (List.drop 1 [c0, c1, c2, c3, c4, c5]))
    rw [cells3]
    rfl
  have h2 : DataW.trod enc Tryz.prog W 0 (fun _ => true) true n 3 [c2] = some (xs[2]'(by omega)) := by
    have := hfd 2 _ rfl
    rw [List.getElem?_eq_getElem (by omega)] at this
    rw [← this]
    show _ = DataW.trod enc Tryz.prog W 0 (fun _ => true) true n 3 (List.take (Tryz.prog.cellsOf 3) (List.drop 2 [c0, c1, c2, c3, c4, c5]))
    rw [cells3]
    rfl
  have h3 : DataW.trod enc Tryz.prog W 0 (fun _ => true) true n 9 [c3] = some (xs[3]'(by omega)) := by
    have := hfd 3 _ rfl
    rw [List.getElem?_eq_getElem (by omega)] at this
    rw [← this]
    show _ = DataW.trod enc Tryz.prog W 0 (fun _ => true) true n 9 (List.take (Tryz.prog.cellsOf 9) (List.drop 3 [c0, c1, c2, c3, c4, c5]))
    rw [cells9]
    rfl
  have h4 : DataW.trod enc Tryz.prog W 0 (fun _ => true) true n 9 [c4] = some (xs[4]'(by omega)) := by
    have := hfd 4 _ rfl
    rw [List.getElem?_eq_getElem (by omega)] at this
    rw [← this]
    show _ = DataW.trod enc Tryz.prog W 0 (fun _ => true) true n 9 (List.take (Tryz.prog.cellsOf 9) (List.drop 4 [c0, c1, c2, c3, c4, c5]))
    rw [cells9]
    rfl
  have h5 : DataW.trod enc Tryz.prog W 0 (fun _ => true) true n 9 [c5] = some (xs[5]'(by omega)) := by
    have := hfd 5 _ rfl
    rw [List.getElem?_eq_getElem (by omega)] at this
    rw [← this]
    show _ = DataW.trod enc Tryz.prog W 0 (fun _ => true) true n 9 (List.take (Tryz.prog.cellsOf 9) (List.drop 5 [c0, c1, c2, c3, c4, c5]))
    rw [cells9]
    rfl
  obtain ⟨z0, e0, _, w0⟩ := DataW.trod_int Tryz.underlying3 h0
  obtain ⟨z1, e1, _, w1⟩ := DataW.trod_int Tryz.underlying3 h1
  obtain ⟨z2, e2, _, w2⟩ := DataW.trod_int Tryz.underlying3 h2
  obtain ⟨s3, e3, _, w3⟩ := DataW.trod_string Tryz.underlying9 h3
  obtain ⟨s4, e4, _, w4⟩ := DataW.trod_string Tryz.underlying9 h4
  obtain ⟨s5, e5, _, w5⟩ := DataW.trod_string Tryz.underlying9 h5
  have f0 := List.singleton_inj.1 e0
  have f1 := List.singleton_inj.1 e1
  have f2 := List.singleton_inj.1 e2
  have f3 := List.singleton_inj.1 e3
  have f4 := List.singleton_inj.1 e4
  have f5 := List.singleton_inj.1 e5
  subst f0 f1 f2 f3 f4 f5
  exact ⟨⟨z0, z1, z2, s3, s4, s5⟩, rfl, bounds_i64 w1, bounds_i64 w2, w3, w4, w5⟩
set_option maxRecDepth 100000 in
theorem open_sc {H : Type} {enc : TypeId × Value → H} {W : World} {base : Nat} {v : Value} {d : DataW H} {p : List MemPlace} (hv : Value.okWide Tryz.prog W .any base 28 v) (h : DataW.Trod enc Tryz.prog W 0 (fun _ => true) true 28 v d p) :
    ∃ (ga : Option Addr) (gc : Nat) (sc : List St6), v = .slice ga sc.length gc ∧ (∀ s ∈ sc, s.Ok) ∧ Scr W.heap.size W ga sc ∧ (sc.length = 0 ∨ ∃ el sp, d = .slice el sp ∧ el.length = sc.length) := by
  obtain ⟨a0, l0, c0, rfl⟩ := okWide_slice Tryz.underlying28 hv
  obtain ⟨fuel, hf⟩ := h
  have hf' : DataW.trod enc Tryz.prog W 0 (fun _ => true) true fuel 28 [.slice a0 l0 c0] = some (d, p) := hf
  rcases open_slice Tryz.underlying28 hf' with ⟨hcs, _⟩ | ⟨a, len, cap, m, n, D, Pl, hcs, _, hl, hm, hmm, hx, hel⟩
  · rw [List.singleton_inj.1 hcs]
    exact ⟨none, 0, [], rfl, fun s hs => by simp at hs, fun h => absurd h (by simp), .inl rfl⟩
  · rw [List.singleton_inj.1 hcs]
    have hlm : len ≤ m := by rw [hmm]; split <;> omega
    rw [cells33] at hel
    have each : ∀ i, i < len → ∃ s : St6, s.Ok ∧ ∀ (k : Nat) (u : Value), s.row[k]? = some u → W.cell? ((a.add (i * 6)).add k) = some u := fun i hi => by
      obtain ⟨cs', h1, h2⟩ := hel i (by omega)
      obtain ⟨_, hlen, hcell⟩ := World.cells?_some h1
      obtain ⟨s, rfl, hs⟩ := open_st hlen h2
      refine ⟨s, hs, fun k u hu => ?_⟩
      have hk : k < 6 := by
        have := (List.getElem?_eq_some_iff.1 hu).1
        simpa [St6.row] using this
      rw [hcell k hk]
      exact hu
    obtain ⟨q, hq⟩ := @choose_lt St6 ⟨⟨0, 0, 0, ⟨#[]⟩, ⟨#[]⟩, ⟨#[]⟩⟩⟩ _ _ each
    have hlt : ((List.range len).map q).length = len := by simp
    refine ⟨some a, cap, (List.range len).map q, by rw [hlt], fun s hs => ?_, fun hp => ?_, .inr ⟨_, _, (Prod.mk.inj hx).1, by simp⟩⟩
    · obtain ⟨i, hi, rfl⟩ := List.mem_map.1 hs
      exact (hq i (List.mem_range.1 hi)).1
    · rw [hlt] at hp
      have h0 := (hq 0 hp).2 0 _ rfl
      have e0 : (a.add (0 * 6)).add 0 = a := by unfold Addr.add; simp
      rw [e0] at h0
      have hs := addr_spot h0
      have hb := World.block_lt_of_cell? _ _ h0
      obtain ⟨g, o, sp⟩ := a
      simp only at hs
      subst hs
      refine ⟨g, o, rfl, hb, fun j hj i u hu => ?_⟩
      rw [hlt] at hj
      rw [List.getElem_map, List.getElem_range] at hu
      have h2 := (hq j hj).2 i u hu
      rw [addr_at, addr_at] at h2
      exact h2
theorem sc_len {H : Type} {ts : List TypeId} {ds : List (DataW H)} {j : Nat} {d : DataW H} {k : Nat} (h : (DataW.weightsEach Tryz.prog ts ds).all (· ≤ reachBytes) = true) (ht : ts[j]? = some 28) (hd : ds[j]? = some d) (hor : k = 0 ∨ ∃ el sp, d = .slice el sp ∧ el.length = k) : k ≤ 2000000000000 := by
  rcases hor with rfl | ⟨el, sp, rfl, rfl⟩
  · omega
  · have h1 := sized_slice h ht hd Tryz.underlying28
    rw [bytes33] at h1
    have h2 := reachBytes_lt
    have h3 : (2 : Nat) ^ 47 = 140737488355328 := by decide
    omega
end Go.Proofs.YtbdobaapadlcjaaGreatDoor.Keep
