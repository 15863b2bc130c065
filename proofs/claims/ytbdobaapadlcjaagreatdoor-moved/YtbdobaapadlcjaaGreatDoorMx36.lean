/-
  Receive's closure (212), whatever the queue has.
-/
import Derived.Test.YtbdobaapadlcjaaGreatDoorMx35
namespace Go.Proofs.YtbdobaapadlcjaaGreatDoor
open Go.RowKit
set_option linter.unusedVariables false
set_option linter.unusedSimpArgs false

/-- The queue behind messages that were received. -/
def recvQ (Q : QM) (att : ByteArray) (cnt : Nat) (til : Int) (ans : List UInt8) : QM := remQ { Q with ms := flyAll til Q.ms (hdsL Q cnt), rs := Q.rs.drop cnt } ⟨att, til, ⟨ans.toArray⟩⟩

theorem flyAll_snoc (til : Int) (ms : List Ms) (zs : List Int) (z : Int) : flyAll til ms (zs ++ [z]) = flyAt til (flyAll til ms zs) z := by
  simp [flyAll, List.foldl_append]

set_option maxRecDepth 8000 in
set_option maxHeartbeats 4000000 in
theorem recvd_any (Q : QM) (V : QV) (CC : Array Value) (att : ByteArray) (qb cnt g0 gc ga base : Nat) (til : Int) (av : Value) (ans : List UInt8) (w : World) (h : QR w qb V Q) (hcp : Cap w qb CC cnt g0 gc ga base til (hdsL Q cnt) av ans) (hatt : CC[12]? = some (.string att)) (hc1 : 0 < cnt ∧ cnt ≤ 1000) (hcl : cnt ≤ Q.rs.length) (hrd : ∀ g ∈ Q.rs, 0 ≤ idxL (isG g) Q.ms) (hms : ∀ m ∈ Q.ms, MsOk m) (hnm : Q.ms.length ≤ 1000) (hna : Q.ats.length < 20) (han : 0 < ans.length) :
    Calls Tryz.prog 212 #[.pointer (some ⟨ga + 1 + 1 + 1, 0, none⟩), .pointer (some ⟨g0, 0, none⟩), .pointer (some ⟨ga + 1, 0, none⟩), .pointer (some ⟨gc, 0, none⟩), .pointer (some ⟨g0 + 1, 0, none⟩), .pointer (some ⟨ga, 0, none⟩)] w fun e w' => e = .returned (.tuple #[]) ∧ QL w w' qb V (recvQ Q att cnt til ans) := by
  have HQ : Hid (QR w qb V Q) := h
  have HC : Hid (Cap w qb CC cnt g0 gc ga base til (hdsL Q cnt) av ans) := hcp
  have hhl : (hdsL Q cnt).length = cnt := by simp [hdsL]; omega
  obtain ⟨gr0, cr, hvr⟩ : ∃ g c, V.r = .slice (some ⟨g, 0, none⟩) Q.rs.length c := by
    rcases h.r.2 with ⟨h0, h1⟩ | ⟨g, cap, cur, h0, _⟩
    · omega
    · exact ⟨_, _, h0⟩
  have hml : 0 < Q.ms.length := by
    have hm0 : Q.rs[0]'(by omega) ∈ Q.rs := List.getElem_mem _
    have h1 := hrd _ hm0
    have h2 := idxL_lt (isG (Q.rs[0]'(by omega))) Q.ms
    omega
  obtain ⟨gm, cm, hvm⟩ : ∃ g c, V.m = .slice (some ⟨g, 0, none⟩) Q.ms.length c := by
    rcases h.m.2 with ⟨h0, h1⟩ | ⟨g, cap, cur, h0, _⟩
    · omega
    · exact ⟨_, _, h0⟩
  have y0 : g0 ≠ qb := fun e => by
    have h1 := hcp.hgq
    have h2 : w.heap[qb]? = _ := h.blk
    rw [e, h2] at h1
    simp at h1
  have y1 : gc ≠ qb := fun e => by
    have h1 := hcp.hgc
    have h2 : w.heap[qb]? = _ := h.blk
    rw [e, h2] at h1
    simp at h1
  have c0 : w.cell? ⟨ga + 1 + 1 + 1, 0, none⟩ = some (.slice (some ⟨ga + 1 + 1, 0, none⟩) cnt cnt) := cell_of_one hcp.hgh
  clear h hcp
  go_enter Tryz.func212, Tryz.ntmps212
  go_wp2_with fail
  go_loopw [11] (fun v wr => ∃ k : Nat, k ≤ cnt ∧ v = .int .i64 (k : Int) ∧ QR wr qb V { Q with ms := flyAll til Q.ms ((hdsL Q cnt).take k) } ∧ Cap wr qb CC cnt g0 gc ga base til (hdsL Q cnt) av ans ∧ Tch [gm] w wr) (fun v _ => cnt - (intOf v).toNat)
  case atStart => exact ⟨0, Nat.zero_le _, rfl, HQ.out, HC.out, Tch.refl _ _⟩
  case round =>
    obtain ⟨k, hk, rfl, hqr, hcp, htc⟩ := hrel
    have HCP : Hid (Cap wr qb CC cnt g0 gc ga base til (hdsL Q cnt) av ans) := hcp
    have HTC : Hid (Tch [gm] w wr) := htc
    by_cases hlt : k < cnt
    · have hkl : k < Q.rs.length := by omega
      have hz0 := hrd Q.rs[k] (List.getElem_mem _)
      have hzl := idxL_lt (isG Q.rs[k]) Q.ms
      obtain ⟨i, hi⟩ : ∃ i : Nat, idxL (isG Q.rs[k]) Q.ms = (i : Int) := ⟨_, (Int.toNat_of_nonneg hz0).symm⟩
      have hzk : (hdsL Q cnt)[k]'(by omega) = (i : Int) := by simp [hdsL, hi]
      have hmk : ∀ m ∈ flyAll til Q.ms ((hdsL Q cnt).take k), MsOk m := flyAll_ok til Q.ms _ hms
      have hmkl := flyAll_len til Q.ms ((hdsL Q cnt).take k)
      have hnext : Hid (flyAll til Q.ms ((hdsL Q cnt).take (k + 1)) = flyAt til (flyAll til Q.ms ((hdsL Q cnt).take k)) (i : Int)) := by
        show _ = _
        rw [List.take_succ_eq_append_getElem (by omega), hzk, flyAll_snoc]
      generalize flyAll til Q.ms ((hdsL Q cnt).take k) = mk at hqr hmk hmkl hnext
      have hil : i < mk.length := by omega
      obtain ⟨m, hm⟩ : ∃ m, mk[i]? = some m := ⟨_, List.getElem?_eq_getElem hil⟩
      have hmi : mk[i] = m := by rw [List.getElem?_eq_getElem hil] at hm; exact Option.some.inj hm
      have hok := hmk m (List.mem_of_getElem? hm)
      obtain ⟨rcv, hrcv⟩ : ∃ n : Nat, m.rcv = (n : Int) := ⟨_, (Int.toNat_of_nonneg hok.rcv.1).symm⟩
      have hvm' : V.m = .slice (some ⟨gm, 0, none⟩) mk.length cm := by rw [hvm, hmkl]
      obtain ⟨hq1, ht1, hf1⟩ := hqr.setM hvm' i 3 (.int .i64 (oft rcv : Nat)) { m with rcv := (oft rcv : Nat) } hil (by decide) (by rw [hmi]; rfl)
      have hset1 : (mk.set i { m with rcv := (oft rcv : Nat) })[i]'(by simpa using hil) = { m with rcv := (oft rcv : Nat) } := by simp
      obtain ⟨hq2, ht2, hf2⟩ := hq1.setM (Q := { Q with ms := mk.set i { m with rcv := (oft rcv : Nat) } }) (gm := gm) (cm := cm) (by rw [hvm']; simp) i 4 (.int .i64 til) (flyM til m) (by simpa using hil) (by decide) (by
        show (flyM til m).row = (Ms.row ((mk.set i { m with rcv := (oft rcv : Nat) })[i]'_)).set 4 _
        rw [hset1]
        simp [flyM, Ms.row, hrcv])
      have HN : Hid (QR ((wr.setCell ⟨gm, i * 5 + 3, none⟩ (.int .i64 (oft rcv : Nat))).setCell ⟨gm, i * 5 + 4, none⟩ (.int .i64 til)) qb V { Q with ms := flyAll til Q.ms ((hdsL Q cnt).take (k + 1)) } ∧ Cap ((wr.setCell ⟨gm, i * 5 + 3, none⟩ (.int .i64 (oft rcv : Nat))).setCell ⟨gm, i * 5 + 4, none⟩ (.int .i64 til)) qb CC cnt g0 gc ga base til (hdsL Q cnt) av ans ∧ Tch [gm] w ((wr.setCell ⟨gm, i * 5 + 3, none⟩ (.int .i64 (oft rcv : Nat))).setCell ⟨gm, i * 5 + 4, none⟩ (.int .i64 til))) := by
        refine ⟨?_, (hcp.keep hf1 (by decide)).keep hf2 (by decide), (htc.trans ht1 (fun _ h _ => h)).trans ht2 (fun _ h _ => h)⟩
        have e : flyAll til Q.ms ((hdsL Q cnt).take (k + 1)) = mk.set i (flyM til m) := by
          rw [hnext.out]
          unfold flyAt
          rw [Int.toNat_natCast, hm]
        rw [e]
        simpa using hq2
      have HOF : Hid (∀ W, Calls Tryz.prog 213 #[.int .i64 (rcv : Int)] W fun e w' => e = .returned (.int .i64 (oft rcv : Nat)) ∧ w' = W) := fun W => oftener_any rcv W (by have := hok.rcv; omega)
      have d1 : wr.cell? ⟨ga + 1 + 1, k, none⟩ = some (.int .i64 (i : Int)) := by
        refine cell_qC hcp.hhb k _ ?_
        rw [intRow_get _ _ k (by omega), hzk]
      have d2 : wr.cell? ⟨g0, 0, none⟩ = some (.pointer (some ⟨qb, 0, none⟩)) := cell_of_one hcp.hgq
      have d3 : wr.cell? ⟨qb, 7, none⟩ = some (.slice (some ⟨gm, 0, none⟩) mk.length cm) := by rw [← hvm']; exact cell_qC hqr.blk 7 _ rfl
      have hmrow := hqr.m
      rw [hvm'] at hmrow
      have d4 : wr.cell? ⟨gm, i * 5 + 3, none⟩ = some (.int .i64 (rcv : Int)) := by
        have inh : Inhabited Ms := ⟨⟨0, ⟨#[]⟩, ⟨#[]⟩, 0, 0⟩⟩
        have h1 := own_cells Ms.row 5 (fun _ => rfl) hmrow i hil 3 (.int .i64 (rcv : Int)) (by
          rw [List.getElem!_eq_getElem?_getD, hm]
          simp [Ms.row, hrcv])
        simpa using h1
      have d5 : (wr.setCell ⟨gm, i * 5 + 3, none⟩ (.int .i64 (oft rcv : Nat))).cell? ⟨gm, i * 5 + 4, none⟩ = some (.int .i64 m.til) := by
        have inh : Inhabited Ms := ⟨⟨0, ⟨#[]⟩, ⟨#[]⟩, 0, 0⟩⟩
        have hr2 := hq1.m
        rw [hvm'] at hr2
        have e0 : mk.length = (mk.set i { m with rcv := (oft rcv : Nat) }).length := by simp
        rw [e0] at hr2
        have h1 := own_cells Ms.row 5 (fun _ => rfl) hr2 i (by simpa using hil) 4 (.int .i64 m.til) (by
          show (Ms.row ((mk.set i { m with rcv := (oft rcv : Nat) })[i]!))[4]? = _
          rw [List.getElem!_eq_getElem?_getD, List.getElem?_set_self hil]
          rfl)
        simpa using h1
      have f3 : wr.frozen? ⟨gm, i * 5 + 3, none⟩ = false := World.ownsRow.frozenAt hmrow _
      have f4 : (wr.setCell ⟨gm, i * 5 + 3, none⟩ (.int .i64 (oft rcv : Nat))).frozen? ⟨gm, i * 5 + 4, none⟩ = false := by
        have hr2 := hq1.m
        rw [hvm'] at hr2
        have e0 : mk.length = (mk.set i { m with rcv := (oft rcv : Nat) }).length := by simp
        rw [e0] at hr2
        exact World.ownsRow.frozenAt hr2 _
      have d6 : (wr.setCell ⟨gm, i * 5 + 3, none⟩ (.int .i64 (oft rcv : Nat))).cell? ⟨ga + 1, 0, none⟩ = some (.int .i64 til) := cell_of_one (hf1.keep _ _ _ hcp.hgu (by decide))
      clear hqr hcp htc hq1 ht1 hf1 hq2 ht2 hf2 hmrow hmk hok
      go_wp2_with (go_at_call 213; refine (HOF.out _).mono ?_; rintro e w' ⟨rfl, h'⟩; have h'' := h'.symm; subst h'')
      go_roundw
      case rel => exact ⟨k + 1, by omega, by go_num, HN.out⟩
      case measure => simp [intOf]; omega
    · have hke : cnt = k := by omega
      subst hke
      have hmall : (hdsL Q cnt).take cnt = hdsL Q cnt := List.take_of_length_le (by omega)
      rw [hmall] at hqr
      generalize hMS : flyAll til Q.ms (hdsL Q cnt) = MS at hqr
      have HMS : Hid (flyAll til Q.ms (hdsL Q cnt) = MS) := hMS
      have HQR : Hid (QR wr qb V { Q with ms := MS }) := hqr
      have hrr := hqr.r
      rw [hvr] at hrr
      have HRB : Hid (∃ C, wr.heap[gr0]? = some (.cells C 9 (0, 0))) := by
        rcases hrr.2 with ⟨e, _⟩ | ⟨g', cap', cur, e, _, hr, _⟩
        · simp at e
        · simp at e
          obtain ⟨e1, _⟩ := e
          subst e1
          exact ⟨_, hr⟩
      have HDL : Hid (Calls Tryz.prog 214 #[.slice (some ⟨gr0, 0, none⟩) Q.rs.length cr, .int .i64 0, .int .i64 (cnt : Int)] wr.drew fun e w' => e = .returned (.slice (some ⟨gr0, 0, none⟩) (Q.rs.length - cnt) cr) ∧ w'.ownsRow 0 9 1 (.slice (some ⟨gr0, 0, none⟩) (Q.rs.length - cnt) cr) (Q.rs.length - cnt) ((Q.rs.drop cnt).map Value.string) ∧ Tch [gr0] wr.drew w') := delete_ready Q.rs gr0 cr cnt wr.drew hrr hcl
      have e0 : wr.cell? ⟨g0, 0, none⟩ = some (.pointer (some ⟨qb, 0, none⟩)) := cell_of_one hcp.hgq
      have ec : wr.cell? ⟨gc, 0, none⟩ = some (.int .i64 (cnt : Int)) := cell_of_one hcp.hgc
      have e8 : wr.cell? ⟨qb, 8, none⟩ = some (.slice (some ⟨gr0, 0, none⟩) Q.rs.length cr) := by rw [← hvr]; exact cell_qC hqr.blk 8 _ rfl
      have lq := hqr.blk.lt
      have lg := lt_of_block hcp.hgq
      have lc := lt_of_block hcp.hgc
      clear hqr hcp htc hrr hmall c0
      go_wp2_with fail
      refine wp_region_noPanic ?_
      refine wp_region_held_drew (S := (fun w' => w'.cell? ⟨g0, 0, none⟩ = some (.pointer (some ⟨qb, 0, none⟩)) ∧ w'.cell? ⟨gc, 0, none⟩ = some (.int .i64 (cnt : Int)))) (by kernel_rfl) (by go_keep) (fun hHeld => ?_)
      refine wpAnyH_take (i := 0) (v := ?_) rfl (by kernel_rfl) (by kernel_rfl) (by kernel_rfl) (fun _ _ _ h => h) (Or.inl ⟨by rfl, ?_⟩) (by assumption) ?_
      rotate_left
      · (intro w hSw; (try dsimp only at hSw); go_simp; try with_reducible rfl)
      try simp only [Act.put, List.setIfInBounds_toArray, List.set_cons_zero, List.set_cons_succ]
      refine wpAnyH_take (i := 1) (v := ?_) rfl (by kernel_rfl) (by kernel_rfl) (by kernel_rfl) (fun _ _ _ h => h) (Or.inl ⟨by rfl, ?_⟩) (by assumption) ?_
      rotate_left
      · (intro w hSw; (try dsimp only at hSw); go_simp; try with_reducible rfl)
      try simp only [Act.put, List.setIfInBounds_toArray, List.set_cons_zero, List.set_cons_succ]
      refine wpAnyH_take (i := 2) (v := ?_) rfl (by kernel_rfl) (by kernel_rfl) (by kernel_rfl) (fun _ _ _ h => h) (Or.inl ⟨by rfl, ?_⟩) (by assumption) ?_
      rotate_left
      · (intro w hSw; (try dsimp only at hSw); go_simp; try with_reducible rfl)
      try simp only [Act.put, List.setIfInBounds_toArray, List.set_cons_zero, List.set_cons_succ]
      refine wpAnyH_take (i := 3) (v := ?_) rfl (by kernel_rfl) (by kernel_rfl) (by kernel_rfl) (fun _ _ _ h => h) (Or.inl ⟨by rfl, ?_⟩) (by assumption) ?_
      rotate_left
      · (intro w hSw; (try dsimp only at hSw); go_simp; try with_reducible rfl)
      try simp only [Act.put, List.setIfInBounds_toArray, List.set_cons_zero, List.set_cons_succ]
      refine wpAnyH_take (i := 5) (v := ?_) rfl (by kernel_rfl) (by kernel_rfl) (by kernel_rfl) (fun _ _ _ h => h) (Or.inl ⟨by rfl, ?_⟩) (by assumption) ?_
      rotate_left
      · (intro w hSw; (try dsimp only at hSw); go_simp; try with_reducible rfl)
      try simp only [Act.put, List.setIfInBounds_toArray, List.set_cons_zero, List.set_cons_succ]
      refine wpAnyH_ready (rs := [4]) (by kernel_rfl) (by simp) ?_
      refine AllReadyH.cons rfl (fun K' hK' => ?_) AllReadyH.nil
      go_simp
      refine hK'.out _ _ (by go_keep) (fun hHeld => ?_)
      clear hK' K'
      try simp only [Act.put, List.setIfInBounds_toArray, List.set_cons_zero, List.set_cons_succ]
      refine wpAnyH_ready (rs := [6]) (by kernel_rfl) (by simp) ?_
      refine AllReadyH.cons rfl (fun K' hK' => ?_) AllReadyH.nil
      go_simp
      refine HDL.out.mono ?_
      rintro e w7 ⟨rfl, ho7, ht7⟩
      have hf7 : Fr 0 [9] wr w7 := (Fr.of_nil [9] (Tch.refl [] wr).drew (Nat.zero_le _)).trans (Fr.of_tch ht7 (Nat.zero_le _) (fun _ _ => Nat.zero_le _) (fun b hb C t hC => by
        simp at hb
        subst hb
        obtain ⟨C', hC'⟩ := HRB.out
        have hC2 : wr.heap[b]? = some (.cells C t (0, 0)) := hC
        rw [hC'] at hC2
        simp at hC2
        rw [← hC2.2]; decide))
      have hq7 : Qb w7 qb Q.c (Q.next : Int) V.m (.slice (some ⟨gr0, 0, none⟩) Q.rs.length cr) V.d V.a := hf7.keep _ _ _ (by rw [← hvr]; exact HQR.out.blk) (by decide)
      have s0 : w7.cell? ⟨g0, 0, none⟩ = some (.pointer (some ⟨qb, 0, none⟩)) := cell_of_one (hf7.keep _ _ _ HCP.out.hgq (by decide))
      have s1 : w7.cell? ⟨gc, 0, none⟩ = some (.int .i64 (cnt : Int)) := cell_of_one (hf7.keep _ _ _ HCP.out.hgc (by decide))
      have s8 : w7.cell? ⟨qb, 8, none⟩ = some (.slice (some ⟨gr0, 0, none⟩) Q.rs.length cr) := cell_qC hq7 8 _ rfl
      have z8 := hq7.fz 8
      have H7 : Hid (Fr 0 [9] wr w7 ∧ Qb w7 qb Q.c (Q.next : Int) V.m (.slice (some ⟨gr0, 0, none⟩) Q.rs.length cr) V.d V.a ∧ w7.ownsRow 0 9 1 (.slice (some ⟨gr0, 0, none⟩) (Q.rs.length - cnt) cr) (Q.rs.length - cnt) ((Q.rs.drop cnt).map Value.string) ∧ Tch [gr0] wr w7) := ⟨hf7, hq7, ho7, ((Tch.refl [gr0] wr).drew).trans ht7 (fun _ h _ => h)⟩
      clear ho7 ht7 hf7 hq7
      go_wp2_with fail
      refine hK'.out _ _ (by go_keep) (fun hHeld => ?_)
      clear hK' K'
      try simp only [Act.put, List.setIfInBounds_toArray, List.set_cons_zero, List.set_cons_succ]
      refine wpAnyH_take (i := 7) (v := ?_) rfl (by kernel_rfl) (by kernel_rfl) (by kernel_rfl) (fun _ _ _ h => h) (Or.inl ⟨by rfl, ?_⟩) (by assumption) ?_
      rotate_left
      · (intro w hSw; (try dsimp only at hSw); go_simp; try with_reducible rfl)
      try simp only [Act.put, List.setIfInBounds_toArray, List.set_cons_zero, List.set_cons_succ]
      refine wpAnyH_take (i := 8) (v := ?_) rfl (by kernel_rfl) (by kernel_rfl) (by kernel_rfl) (fun _ _ _ h => h) (Or.inl ⟨by rfl, ?_⟩) (by assumption) ?_
      rotate_left
      · (intro w hSw; (try dsimp only at hSw); go_simp; try with_reducible rfl)
      try simp only [Act.put, List.setIfInBounds_toArray, List.set_cons_zero, List.set_cons_succ]
      refine wpAnyH_ready (rs := [9]) (by kernel_rfl) (by simp) ?_
      refine AllReadyH.cons rfl (fun K' hK' => ?_) AllReadyH.nil
      go_simp
      have co : ∀ b o, b ≠ qb → (w7.setCell ⟨qb, 8, none⟩ (.slice (some ⟨gr0, 0, none⟩) (Q.rs.length - cnt) cr)).cell? ⟨b, o, none⟩ = w7.cell? ⟨b, o, none⟩ := fun b o hne => World.cell?_of_block (a := ⟨b, o, none⟩) (heap_setCell_other _ _ _ _ (show b ≠ qb from hne))
      refine hK'.out _ _ ⟨(co _ _ y0).trans s0, (co _ _ y1).trans s1⟩ (fun hHeld => ?_)
      clear hK' K'
      try simp only [Act.put, List.setIfInBounds_toArray, List.set_cons_zero, List.set_cons_succ]
      refine wpAnyH_done (by kernel_rfl) ?_ _
      refine NoPanic.normal ?_
      have H8 : Hid (QR (w7.setCell ⟨qb, 8, none⟩ (.slice (some ⟨gr0, 0, none⟩) (Q.rs.length - cnt) cr)) qb ⟨V.m, .slice (some ⟨gr0, 0, none⟩) (Q.rs.length - cnt) cr, V.d, V.a⟩ { Q with ms := MS, rs := Q.rs.drop cnt } ∧ Cap (w7.setCell ⟨qb, 8, none⟩ (.slice (some ⟨gr0, 0, none⟩) (Q.rs.length - cnt) cr)) qb CC cnt g0 gc ga base til (hdsL Q cnt) av ans ∧ Tch (qbl qb V) w (w7.setCell ⟨qb, 8, none⟩ (.slice (some ⟨gr0, 0, none⟩) (Q.rs.length - cnt) cr))) := by
        have hq7 := H7.out.2.1
        have t8 : Tch [qb] w7 (w7.setCell ⟨qb, 8, none⟩ (.slice (some ⟨gr0, 0, none⟩) (Q.rs.length - cnt) cr)) := (Tch.refl _ _).setCell (fun _ => by simp) _
        have f8 : Fr 0 [191] w7 (w7.setCell ⟨qb, 8, none⟩ (.slice (some ⟨gr0, 0, none⟩) (Q.rs.length - cnt) cr)) := Fr.one t8 (Nat.zero_le _) (Nat.zero_le _) hq7 (by decide)
        have h0 := HQR.out
        refine ⟨⟨hq7.set8 _, f8.own (H7.out.1.own h0.m (by decide)) (by decide), ?_, f8.own (H7.out.1.own h0.d (by decide)) (by decide), f8.own (H7.out.1.own h0.a (by decide)) (by decide)⟩, (HCP.out.keep H7.out.1 (by decide)).keep f8 (by decide), ?_⟩
        · have h5 := f8.own H7.out.2.2.1 (by decide)
          have e5 : (Q.rs.drop cnt).length = Q.rs.length - cnt := by simp
          show World.ownsRow _ 0 9 1 _ (Q.rs.drop cnt).length ((Q.rs.drop cnt).map Value.string)
          rw [e5]
          exact h5
        · refine (((HTC.out.sub (S' := qbl qb V) (fun x hx _ => ?_)).trans H7.out.2.2.2 (fun x hx _ => ?_))).trans t8 (fun x hx _ => ?_)
          · simp at hx; subst hx; exact mem_qbl.2 (.inr (.inl (by rw [hvm]; rfl)))
          · simp at hx; subst hx; exact mem_qbl.2 (.inr (.inr (.inl (by rw [hvr]; rfl))))
          · simp at hx; exact mem_qbl.2 (.inl hx)
      clear co s0 s1 s8 z8 e0 ec e8 HDL HRB H7
      generalize hw8 : w7.setCell ⟨qb, 8, none⟩ (.slice (some ⟨gr0, 0, none⟩) (Q.rs.length - cnt) cr) = w8 at *
      have r0 : w8.cell? ⟨g0, 0, none⟩ = some (.pointer (some ⟨qb, 0, none⟩)) := cell_of_one H8.out.2.1.hgq
      have r1 : w8.cell? ⟨g0 + 1, 12, none⟩ = some (.string att) := cell_qC H8.out.2.1.hgr 12 _ hatt
      have r2 : w8.cell? ⟨ga + 1, 0, none⟩ = some (.int .i64 til) := cell_of_one H8.out.2.1.hgu
      have r3 : w8.cell? ⟨ga, 0, none⟩ = some av := cell_of_one H8.out.2.1.hga
      have hstr : (convert 74 9 av).run Tryz.prog w8 = .ok (.string ⟨ans.toArray⟩) w8 := OwnB.str H8.out.2.1.own han
      have HRM : Hid (Calls Tryz.prog 215 #[.pointer (some ⟨qb, 0, none⟩), .agg #[.string att, .int .i64 til, .string ⟨ans.toArray⟩]] w8 fun e w' => e = .returned (.tuple #[]) ∧ QL w8 w' qb ⟨V.m, .slice (some ⟨gr0, 0, none⟩) (Q.rs.length - cnt) cr, V.d, V.a⟩ (remQ { Q with ms := MS, rs := Q.rs.drop cnt } ⟨att, til, ⟨ans.toArray⟩⟩)) := remember_any _ _ ⟨att, til, ⟨ans.toArray⟩⟩ qb w8 H8.out.1 hna
      clear hw8
      go_wp2_with fail
      refine HRM.out.mono ?_
      rintro e w9 ⟨rfl, V9, hq9, ht9, hn9⟩
      have HF : Hid (QL w w9 qb V (recvQ Q att cnt til ans)) := by
        have hsub : ∀ x, x ∈ qbl qb ⟨V.m, .slice (some ⟨gr0, 0, none⟩) (Q.rs.length - cnt) cr, V.d, V.a⟩ → x ∈ qbl qb V := fun x hx => by
          rcases mem_qbl.1 hx with e | e | e | e | e
          · exact mem_qbl.2 (.inl e)
          · exact mem_qbl.2 (.inr (.inl e))
          · exact mem_qbl.2 (.inr (.inr (.inl (by rw [hvr]; exact e))))
          · exact mem_qbl.2 (.inr (.inr (.inr (.inl e))))
          · exact mem_qbl.2 (.inr (.inr (.inr (.inr e))))
        refine ⟨V9, ?_, H8.out.2.2.trans ht9 (fun x hx _ => hsub x hx), fun b hb => ?_⟩
        · unfold recvQ
          rw [HMS.out]
          exact hq9
        · rcases hn9 b hb with h1 | h1
          · exact .inl (hsub b h1)
          · exact .inr (Nat.le_trans H8.out.2.2.size h1)
      clear hq9 ht9 hn9
      go_wp2_with fail
      go_end0
      exact ⟨rfl, HF.out⟩
end Go.Proofs.YtbdobaapadlcjaaGreatDoor
