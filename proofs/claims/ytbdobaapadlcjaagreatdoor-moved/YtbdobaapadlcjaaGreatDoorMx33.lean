/-
  bringBack (271), whatever is due. set (221) of a state with whatever queues.
-/
import Derived.Test.YtbdobaapadlcjaaGreatDoorMx32
namespace Go.Proofs.YtbdobaapadlcjaaGreatDoor
open Go.RowKit
set_option linter.unusedVariables false
set_option linter.unusedSimpArgs false

theorem add_zero_at (g j : Nat) : (⟨g, 0, none⟩ : Addr).add j = ⟨g, j, none⟩ := by unfold Addr.add; split <;> simp_all
set_option maxRecDepth 8000 in
set_option maxHeartbeats 2000000 in
theorem bring_walk (I : Nat → List Int → World → Prop) (K : World → Prop) (st qb : Nat) (now : Int) (dv : Value) (w : World) (c0 : w.cell? ⟨st, 0, none⟩ = some (.int .i64 now))
    (hD : Calls Tryz.prog 204 #[.pointer (some ⟨st, 0, none⟩), .pointer (some ⟨qb, 0, none⟩)] w fun e w' => e = .returned dv ∧ w' = w)
    (hU : Calls Tryz.prog 297 #[.pointer (some ⟨qb, 0, none⟩), .int .i64 now] w fun e w' => ∃ v ns, e = .returned v ∧ w'.ownsRow w.heap.size 3 1 v ns.length (ns.map fun n => .int .i64 n) ∧ ns.length ≤ 1000 ∧ I w'.heap.size ns w')
    (hS : ∀ B n ns W, I B (n :: ns) W → Calls Tryz.prog 203 #[.pointer (some ⟨qb, 0, none⟩), .int .i64 n, dv] W fun e w' => e = .returned (.tuple #[]) ∧ I B ns w' ∧ ∃ S, Tch S W w' ∧ ∀ x ∈ S, x < w.heap.size ∨ B ≤ x)
    (hK : ∀ B W, I B [] W → K W) :
    Calls Tryz.prog 271 #[.pointer (some ⟨st, 0, none⟩), .pointer (some ⟨qb, 0, none⟩)] w fun e w' => e = .returned (.tuple #[]) ∧ K w' := by
  have HD : Hid (Calls Tryz.prog 204 #[.pointer (some ⟨st, 0, none⟩), .pointer (some ⟨qb, 0, none⟩)] w fun e w' => e = .returned dv ∧ w' = w) := hD
  have HU : Hid (Calls Tryz.prog 297 #[.pointer (some ⟨qb, 0, none⟩), .int .i64 now] w fun e w' => ∃ v ns, e = .returned v ∧ w'.ownsRow w.heap.size 3 1 v ns.length (ns.map fun n => .int .i64 n) ∧ ns.length ≤ 1000 ∧ I w'.heap.size ns w') := hU
  have HS : Hid (∀ B n ns W, I B (n :: ns) W → Calls Tryz.prog 203 #[.pointer (some ⟨qb, 0, none⟩), .int .i64 n, dv] W fun e w' => e = .returned (.tuple #[]) ∧ I B ns w' ∧ ∃ S, Tch S W w' ∧ ∀ x ∈ S, x < w.heap.size ∨ B ≤ x) := hS
  have HK : Hid (∀ B W, I B [] W → K W) := hK
  have hl := World.block_lt_of_cell? _ _ c0
  clear hD hU hS hK
  go_enter Tryz.func271, Tryz.ntmps271
  go_wp2_with fail
  refine HD.out.mono ?_
  rintro e w' ⟨rfl, h'⟩
  have h'' := h'.symm
  subst h''
  clear HD
  go_wp2_with fail
  refine HU.out.mono ?_
  rintro e w1 ⟨v, ns, rfl, ho, hn, hI⟩
  clear HU
  have HI : Hid (I w1.heap.size ns w1) := hI
  clear hI
  rcases ho.2 with ⟨rfl, h0⟩ | ⟨g, c, cur, rfl, hb, hg, _⟩
  · have hne : ns = [] := List.length_eq_zero_iff.1 h0
    subst hne
    have HK1 : Hid (K w1) := HK.out _ _ HI.out
    clear HI HK HS ho
    go_wp2_with fail
    refine wp_loop_rounds 1 ?_
    rw [rounds_succ]
    go_wp2_with fail
    go_end0
    exact ⟨rfl, HK1.out⟩
  · have hgl := lt_of_block hg
    have HO1 : Hid (w1.ownsRow w.heap.size 3 1 (.slice (some ⟨g, 0, none⟩) ns.length c) ns.length (ns.map fun n => .int .i64 n)) := ho
    clear ho hg
    obtain ⟨B, hB⟩ : ∃ B, B = w1.heap.size := ⟨_, rfl⟩
    rw [← hB] at HI hgl
    go_wp2_with fail
    go_loopw [17] (fun jv wr => ∃ j : Nat, j ≤ ns.length ∧ jv = .int .i64 (j : Int) ∧ wr.ownsRow w.heap.size 3 1 (.slice (some ⟨g, 0, none⟩) ns.length c) ns.length (ns.map fun n => .int .i64 n) ∧ I B (ns.drop j) wr) (fun jv _ => ns.length - (intOf jv).toNat)
    case atStart => exact ⟨0, Nat.zero_le _, rfl, HO1.out, HI.out⟩
    case round =>
      obtain ⟨j, hj, rfl, ho, hI⟩ := hrel
      have HO : Hid (wr.ownsRow w.heap.size 3 1 (.slice (some ⟨g, 0, none⟩) ns.length c) ns.length (ns.map fun n => .int .i64 n)) := ho
      by_cases hlt : j < ns.length
      · have hdrop : ns.drop j = ns[j] :: ns.drop (j + 1) := List.drop_eq_getElem_cons hlt
        have hgr := own_lt ho rfl
        have cj : wr.cell? ⟨g, j, none⟩ = some (.int .i64 ns[j]) := by
          have h1 := World.ownsRow.cells ho (g := g) rfl j (.int .i64 ns[j]) (by simp [hlt])
          rw [add_zero_at] at h1
          exact h1
        rw [hdrop] at hI
        have HC := HS.out _ _ _ _ hI
        generalize ns[j] = n at *
        have HC' : Hid (Calls Tryz.prog 203 #[.pointer (some ⟨qb, 0, none⟩), .int .i64 n, dv] wr fun e w' => e = .returned (.tuple #[]) ∧ I B (ns.drop (j + 1)) w' ∧ ∃ S, Tch S wr w' ∧ ∀ x ∈ S, x < w.heap.size ∨ B ≤ x) := HC
        clear HC hI hdrop ho
        go_wp2_with fail
        refine HC'.out.mono ?_
        rintro e w2 ⟨rfl, hI2, S, hT, hSx⟩
        have HN : Hid (w2.ownsRow w.heap.size 3 1 (.slice (some ⟨g, 0, none⟩) ns.length c) ns.length (ns.map fun n => .int .i64 n) ∧ I B (ns.drop (j + 1)) w2) := ⟨own_tch HO.out hT (fun k hk hm => by
          simp [Value.ownBlock] at hk
          subst hk
          rcases hSx g hm with h | h <;> omega), hI2⟩
        clear hI2 hT hSx HC'
        go_wp2_with fail
        go_roundw
        case rel => exact ⟨j + 1, by omega, by go_num, HN.out.1, HN.out.2⟩
        case measure => simp [intOf]; omega
      · have hje : j = ns.length := by omega
        subst hje
        have HK1 : Hid (K wr) := HK.out B wr (by rw [List.drop_length] at hI; exact hI)
        clear hI ho
        go_wp2_with fail
        go_end0
        exact ⟨rfl, HK1.out⟩
end Go.Proofs.YtbdobaapadlcjaaGreatDoor

namespace Go.Proofs.YtbdobaapadlcjaaGreatDoor
open Go.RowKit
set_option linter.unusedVariables false
set_option linter.unusedSimpArgs false

theorem qrow_cell {w : World} {base : Nat} {oa : Option Addr} {oc : Nat} {qs : List Nat} (h : w.ownsRow base 152 1 (.slice oa qs.length oc) qs.length (qs.map fun q => .pointer (some ⟨q, 0, none⟩))) (j : Nat) (hj : j < qs.length) :
    ∃ g, oa = some ⟨g, 0, none⟩ ∧ base ≤ g ∧ g < w.heap.size ∧ w.cell? ⟨g, j, none⟩ = some (.pointer (some ⟨qs[j], 0, none⟩)) := by
  rcases h.2 with ⟨h1, h0⟩ | ⟨g, c, cur, h1, hb, hg, _⟩
  · omega
  · simp only [Value.slice.injEq, true_and] at h1
    obtain ⟨rfl, rfl⟩ := h1
    have h2 := World.ownsRow.cells h (g := g) rfl j (.pointer (some ⟨qs[j], 0, none⟩)) (by simp [hj])
    rw [add_zero_at] at h2
    exact ⟨g, rfl, hb, lt_of_block hg, h2⟩
set_option maxRecDepth 8000 in
set_option maxHeartbeats 4000000 in
theorem setg_walk (I : Nat → List Nat → World → Prop) (J : Nat → Nat → List Nat → World → Prop) (K : World → Prop) (st b : Nat) (now0 now : Int) (Pq : Nat → Option Nat) (w : World) (h : Stb w st b now0 (fun i => ptrV (Pq i)))
    (hI0 : ∀ W, Tch [] (w.setCell ⟨st, 0, none⟩ (.int .i64 now)) W → I W.heap.size (qsL Pq 8) W)
    (hI : ∀ B q qs W, I B (q :: qs) W → Calls Tryz.prog 270 #[.pointer (some ⟨q, 0, none⟩), .int .i64 now] W fun e w' => e = .returned (.tuple #[]) ∧ I B qs w' ∧ ∃ S, Tch S W w' ∧ ∀ x ∈ S, x < w.heap.size ∨ B ≤ x)
    (hIJ : ∀ B W, I B [] W → Stb W st b now (fun i => ptrV (Pq i)) ∧ ∀ W', Tch [] W W' → J W.heap.size W'.heap.size (qsL Pq 8) W')
    (hJ : ∀ A B q qs W, J A B (q :: qs) W → Calls Tryz.prog 271 #[.pointer (some ⟨st, 0, none⟩), .pointer (some ⟨q, 0, none⟩)] W fun e w' => e = .returned (.tuple #[]) ∧ J A B qs w' ∧ ∃ S, Tch S W w' ∧ ∀ x ∈ S, x < A ∨ B ≤ x)
    (hK : ∀ A B W, J A B [] W → K W) :
    Calls Tryz.prog 221 #[.pointer (some ⟨st, 0, none⟩), .int .i64 now] w fun e w' => e = .returned (.tuple #[]) ∧ K w' := by
  have c0 := h.now
  have z0 := h.fz 0
  have hl := h.lt
  obtain ⟨ws, hws⟩ : ∃ ws, ws = w.setCell ⟨st, 0, none⟩ (.int .i64 now) := ⟨_, rfl⟩
  have hst : Stb ws st b now (fun i => ptrV (Pq i)) := by rw [hws]; exact h.set0 now
  have zs : ws.heap.size = w.heap.size := by rw [hws]; exact World.size_setCell _ _ _
  have HT := there_g st b now Pq ws hst
  rw [zs] at HT
  have HTH : Hid (Calls Tryz.prog 93 #[.pointer (some ⟨st, 0, none⟩)] ws fun e w' => ∃ v, e = .returned v ∧ w'.ownsRow w.heap.size 152 1 v (qsL Pq 8).length ((qsL Pq 8).map fun q => .pointer (some ⟨q, 0, none⟩)) ∧ Tch [] ws w') := HT
  rw [← hws] at hI0
  have HI0 : Hid (∀ W, Tch [] ws W → I W.heap.size (qsL Pq 8) W) := hI0
  have HI : Hid (∀ B q qs W, I B (q :: qs) W → Calls Tryz.prog 270 #[.pointer (some ⟨q, 0, none⟩), .int .i64 now] W fun e w' => e = .returned (.tuple #[]) ∧ I B qs w' ∧ ∃ S, Tch S W w' ∧ ∀ x ∈ S, x < w.heap.size ∨ B ≤ x) := hI
  have HIJ : Hid (∀ B W, I B [] W → Stb W st b now (fun i => ptrV (Pq i)) ∧ ∀ W', Tch [] W W' → J W.heap.size W'.heap.size (qsL Pq 8) W') := hIJ
  have HJ : Hid (∀ A B q qs W, J A B (q :: qs) W → Calls Tryz.prog 271 #[.pointer (some ⟨st, 0, none⟩), .pointer (some ⟨q, 0, none⟩)] W fun e w' => e = .returned (.tuple #[]) ∧ J A B qs w' ∧ ∃ S, Tch S W w' ∧ ∀ x ∈ S, x < A ∨ B ≤ x) := hJ
  have HK : Hid (∀ A B W, J A B [] W → K W) := hK
  have HTG : Hid (∀ W, Stb W st b now (fun i => ptrV (Pq i)) → Calls Tryz.prog 93 #[.pointer (some ⟨st, 0, none⟩)] W fun e w' => ∃ v, e = .returned v ∧ w'.ownsRow W.heap.size 152 1 v (qsL Pq 8).length ((qsL Pq 8).map fun q => .pointer (some ⟨q, 0, none⟩)) ∧ Tch [] W w') := fun W hW => there_g st b now Pq W hW
  have hq8 := qsL_len Pq 8
  clear h hst HT hI0 hI hIJ hJ hK zs
  generalize qsL Pq 8 = qs at *
  go_enter Tryz.func221, Tryz.ntmps221
  go_wp2_with fail
  rw [← hws]
  clear hws
  refine HTH.out.mono ?_
  rintro e w1 ⟨v, rfl, ho, ht⟩
  have HI1 : Hid (I w1.heap.size qs w1) := HI0.out w1 ht
  clear HTH HI0 ht
  obtain ⟨B, hB⟩ : ∃ B, B = w1.heap.size := ⟨_, rfl⟩
  rw [← hB] at HI1
  obtain ⟨oa, oc, hoe⟩ := own_shape' ho
  subst hoe
  have HO1 : Hid (w1.ownsRow w.heap.size 152 1 (.slice oa qs.length oc) qs.length (qs.map fun q => .pointer (some ⟨q, 0, none⟩))) := ho
  have HGB : Hid (∀ g, oa = some ⟨g, 0, none⟩ → 0 < qs.length → w.heap.size ≤ g ∧ g < B) := fun g hg h0 => by
    obtain ⟨g', hg', h1, h2, _⟩ := qrow_cell ho 0 h0
    rw [hg] at hg'
    simp only [Option.some.injEq, Addr.mk.injEq, and_true] at hg'
    subst hg'
    rw [hB]
    exact ⟨h1, h2⟩
  clear ho hB
  go_wp2_with fail
  go_loopw [15] (fun jv wr => ∃ j : Nat, j ≤ qs.length ∧ jv = .int .i64 (j : Int) ∧ wr.ownsRow w.heap.size 152 1 (.slice oa qs.length oc) qs.length (qs.map fun q => .pointer (some ⟨q, 0, none⟩)) ∧ I B (qs.drop j) wr) (fun jv _ => qs.length - (intOf jv).toNat)
  case atStart => exact ⟨0, Nat.zero_le _, rfl, HO1.out, HI1.out⟩
  case round =>
    obtain ⟨j, hj, rfl, ho, hIj⟩ := hrel
    have HO : Hid (wr.ownsRow w.heap.size 152 1 (.slice oa qs.length oc) qs.length (qs.map fun q => .pointer (some ⟨q, 0, none⟩))) := ho
    by_cases hlt : j < qs.length
    · have hdrop : qs.drop j = qs[j] :: qs.drop (j + 1) := List.drop_eq_getElem_cons hlt
      obtain ⟨g, hoa, hbg, hgr, cj⟩ := qrow_cell ho j hlt
      have hgB := HGB.out g hoa (by omega)
      subst hoa
      rw [hdrop] at hIj
      have HC := HI.out _ _ _ _ hIj
      generalize qs[j] = q at *
      have HC' : Hid (Calls Tryz.prog 270 #[.pointer (some ⟨q, 0, none⟩), .int .i64 now] wr fun e w' => e = .returned (.tuple #[]) ∧ I B (qs.drop (j + 1)) w' ∧ ∃ S, Tch S wr w' ∧ ∀ x ∈ S, x < w.heap.size ∨ B ≤ x) := HC
      clear HC hIj hdrop ho
      go_wp2_with fail
      refine HC'.out.mono ?_
      rintro e w2 ⟨rfl, hI2, S, hT, hSx⟩
      have HN : Hid (w2.ownsRow w.heap.size 152 1 (.slice (some ⟨g, 0, none⟩) qs.length oc) qs.length (qs.map fun q => .pointer (some ⟨q, 0, none⟩)) ∧ I B (qs.drop (j + 1)) w2) := ⟨own_tch HO.out hT (fun k hk hm => by
        simp [Value.ownBlock] at hk
        subst hk
        rcases hSx g hm with h | h <;> omega), hI2⟩
      clear hI2 hT hSx HC'
      go_wp2_with fail
      go_roundw
      case rel => exact ⟨j + 1, by omega, by go_num, HN.out.1, HN.out.2⟩
      case measure => simp [intOf]; omega
    · have hje : j = qs.length := by omega
      subst hje
      rw [List.drop_length] at hIj
      obtain ⟨hst2, hJ0⟩ := HIJ.out B wr hIj
      have HT2 : Hid (Calls Tryz.prog 93 #[.pointer (some ⟨st, 0, none⟩)] wr _) := HTG.out wr hst2
      have HJ0 : Hid (∀ W', Tch [] wr W' → J wr.heap.size W'.heap.size qs W') := hJ0
      clear hIj hst2 hJ0 ho HO HI HIJ HTG HO1 HI1 HGB
      go_wp2_with fail
      refine HT2.out.mono ?_
      rintro e w1 ⟨v, rfl, ho, ht⟩
      have HJ1 : Hid (J wr.heap.size w1.heap.size qs w1) := HJ0.out w1 ht
      obtain ⟨B2, hB⟩ : ∃ B2, B2 = w1.heap.size := ⟨_, rfl⟩
      obtain ⟨A, hA⟩ : ∃ A, A = wr.heap.size := ⟨_, rfl⟩
      rw [← hB, ← hA] at HJ1
      rw [← hA] at ho
      obtain ⟨oa2, oc2, hoe⟩ := own_shape' ho
      subst hoe
      have HO1 : Hid (w1.ownsRow A 152 1 (.slice oa2 qs.length oc2) qs.length (qs.map fun q => .pointer (some ⟨q, 0, none⟩))) := ho
      have HGB : Hid (∀ g, oa2 = some ⟨g, 0, none⟩ → 0 < qs.length → A ≤ g ∧ g < B2) := fun g hg h0 => by
        obtain ⟨g', hg', h1, h2, _⟩ := qrow_cell ho 0 h0
        rw [hg] at hg'
        simp only [Option.some.injEq, Addr.mk.injEq, and_true] at hg'
        subst hg'
        rw [hB]
        exact ⟨h1, h2⟩
      clear ho hB hA ht HT2 HJ0
      go_wp2_with fail
      go_loopw [26] (fun jv wq => ∃ j : Nat, j ≤ qs.length ∧ jv = .int .i64 (j : Int) ∧ wq.ownsRow A 152 1 (.slice oa2 qs.length oc2) qs.length (qs.map fun q => .pointer (some ⟨q, 0, none⟩)) ∧ J A B2 (qs.drop j) wq) (fun jv _ => qs.length - (intOf jv).toNat)
      case atStart => exact ⟨0, Nat.zero_le _, rfl, HO1.out, HJ1.out⟩
      case round =>
        obtain ⟨j, hj2, rfl, ho, hIj⟩ := hrel
        have HO : Hid (wr.ownsRow A 152 1 (.slice oa2 qs.length oc2) qs.length (qs.map fun q => .pointer (some ⟨q, 0, none⟩))) := ho
        by_cases hlt : j < qs.length
        · have hdrop : qs.drop j = qs[j] :: qs.drop (j + 1) := List.drop_eq_getElem_cons hlt
          obtain ⟨g, hoa, hbg, hgr, cj⟩ := qrow_cell ho j hlt
          have hgB := HGB.out g hoa (by omega)
          subst hoa
          rw [hdrop] at hIj
          have HC := HJ.out _ _ _ _ _ hIj
          generalize qs[j] = q at *
          have HC' : Hid (Calls Tryz.prog 271 #[.pointer (some ⟨st, 0, none⟩), .pointer (some ⟨q, 0, none⟩)] wr fun e w' => e = .returned (.tuple #[]) ∧ J A B2 (qs.drop (j + 1)) w' ∧ ∃ S, Tch S wr w' ∧ ∀ x ∈ S, x < A ∨ B2 ≤ x) := HC
          clear HC hIj hdrop ho
          go_wp2_with fail
          refine HC'.out.mono ?_
          rintro e w2 ⟨rfl, hI2, S, hT, hSx⟩
          have HN : Hid (w2.ownsRow A 152 1 (.slice (some ⟨g, 0, none⟩) qs.length oc2) qs.length (qs.map fun q => .pointer (some ⟨q, 0, none⟩)) ∧ J A B2 (qs.drop (j + 1)) w2) := ⟨own_tch HO.out hT (fun k hk hm => by
            simp [Value.ownBlock] at hk
            subst hk
            rcases hSx g hm with h | h <;> omega), hI2⟩
          clear hI2 hT hSx HC'
          go_wp2_with fail
          go_roundw
          case rel => exact ⟨j + 1, by omega, by go_num, HN.out.1, HN.out.2⟩
          case measure => simp [intOf]; omega
        · have hje : j = qs.length := by omega
          subst hje
          have HK1 : Hid (K wr) := HK.out A B2 wr (by rw [List.drop_length] at hIj; exact hIj)
          clear hIj ho
          go_wp2_with fail
          go_end0
          exact ⟨rfl, HK1.out⟩
end Go.Proofs.YtbdobaapadlcjaaGreatDoor
