/-
  A STATE WHOSE QUEUES CHANGE: what they have behind a coming back; ComeBack (203) of a state. remember (215).
-/
import Derived.Test.YtbdobaapadlcjaaGreatDoorMx34
import Derived.Test.YtbdobaapadlcjaaGreatDoorMx22
namespace Go.Proofs.YtbdobaapadlcjaaGreatDoor
open Go.RowKit
set_option linter.unusedVariables false
set_option linter.unusedSimpArgs false

/-- What the queues have. -/
def ctZ (Z : Nat → Option BQ) : Nat → Option QM := fun i => (Z i).map BQ.Q
def setC (c : Nat → Option QM) (i : Nat) (v : Option QM) : Nat → Option QM := fun j => if j = i then v else c j
theorem setC_same (c : Nat → Option QM) (i : Nat) (v : Option QM) : setC c i v i = v := by simp [setC]
theorem setC_ne (c : Nat → Option QM) {i j : Nat} (v : Option QM) (h : j ≠ i) : setC c i v j = c j := by simp [setC, h]
theorem ctZ_upd (Z : Nat → Option BQ) (i : Nat) (v : Option BQ) : ctZ (updZ Z i v) = setC (ctZ Z) i (v.map BQ.Q) := by
  funext j
  unfold ctZ updZ setC
  by_cases e : j = i
  · simp [e]
  · simp [e]
theorem ctZ_some {Z : Nat → Option BQ} {i : Nat} {x : BQ} (h : Z i = some x) : ctZ Z i = some x.Q := by unfold ctZ; rw [h]; rfl
theorem ctZ_get {Z : Nat → Option BQ} {i : Nat} {Q : QM} (h : ctZ Z i = some Q) : ∃ x, Z i = some x ∧ x.Q = Q := by
  unfold ctZ at h
  cases hz : Z i with
  | none => rw [hz] at h; simp at h
  | some x => rw [hz] at h; simp at h; exact ⟨x, rfl, h⟩
theorem ctZ_none {Z : Nat → Option BQ} {i : Nat} (h : ctZ Z i = none) : Z i = none := by
  unfold ctZ at h
  cases hz : Z i with
  | none => rfl
  | some x => rw [hz] at h; simp at h
/-- A block of some queue. -/
def allK (Z : Nat → Option BQ) (k : Nat) : Prop := ∃ j y, j < 8 ∧ Z j = some y ∧ k ∈ qbl y.qb y.V
theorem SG.allLt {B : Nat} {w : World} {st b : Nat} {now : Int} {Z : Nat → Option BQ} {col : Nat → Nat} (h : SG B w st b now Z col) {k : Nat} (hk : allK Z k) : k < w.heap.size := by
  obtain ⟨j, y, hj, hy, hk⟩ := hk
  exact (h.qr j y hj hy).lt k hk
/-- What a call leaves of a state whose queues stand where they stood. -/
def SGn (B st b : Nat) (now : Int) (w w' : World) (Z : Nat → Option BQ) (col : Nat → Nat) (c : Nat → Option QM) : Prop :=
  ∃ Z' col', SG B w' st b now Z' col' ∧ ctZ Z' = c ∧ ptZ Z' = ptZ Z ∧ Agr w col col' ∧ Fq B col w w' ∧ (∃ S, Tch S w w' ∧ ∀ k ∈ S, allK Z k) ∧ ∀ k, allK Z' k → allK Z k ∨ w.heap.size ≤ k
theorem SG.updn {B : Nat} {w w' : World} {st b : Nat} {now : Int} {Z : Nat → Option BQ} {col : Nat → Nat} (h : SG B w st b now Z col) (hB : B ≤ w.heap.size) {i : Nat} (hi : i < 8) {x : BQ} (hx : Z i = some x) {Q' : QM} (hq : QL w w' x.qb x.V Q') : SGn B st b now w w' Z col (setC (ctZ Z) i (some Q')) := by
  obtain ⟨V', col', h1, h2, h3, h4, h5⟩ := h.upd hB hi hx hq
  refine ⟨_, col', h1, ctZ_upd _ _ _, ptZ_upd _ _ _ (by rw [hx]; rfl), h2, h3, ⟨_, h5, fun k hk => ⟨i, x, hi, hx, hk⟩⟩, fun k hk => ?_⟩
  obtain ⟨j, y, hj, hy, hk⟩ := hk
  by_cases e : j = i
  · subst e
    rw [updZ_same] at hy
    injection hy with hy
    subst hy
    exact (h4 k hk).imp (fun h => ⟨j, x, hj, hx, h⟩) id
  · rw [updZ_ne _ _ e] at hy
    exact .inl ⟨j, y, hj, hy, hk⟩
theorem SG.upd2n {B : Nat} {w w' : World} {st b : Nat} {now : Int} {Z : Nat → Option BQ} {col : Nat → Nat} (h : SG B w st b now Z col) (hB : B ≤ w.heap.size) {i j : Nat} (hi : i < 8) (hj : j < 8) {x y : BQ} (hx : Z i = some x) (hy : Z j = some y) (hij : i ≠ j) {V' VT' : QV} {Q' T' : QM}
    (hQ : QR w' x.qb V' Q') (hT : QR w' y.qb VT' T') (ht : Tch (qbl x.qb x.V ++ qbl y.qb y.V) w w') (hN : ∀ k ∈ qbl x.qb V', k ∈ qbl x.qb x.V) (hM : ∀ k ∈ qbl y.qb VT', k ∈ qbl y.qb y.V ∨ w.heap.size ≤ k) :
    SGn B st b now w w' Z col (setC (setC (ctZ Z) i (some Q')) j (some T')) := by
  obtain ⟨col', h1, h2, h3⟩ := h.upd2 hB hi hj hx hy hij hQ hT ht hN hM
  refine ⟨_, col', h1, ?_, ?_, h2, h3, ⟨_, ht, fun k hk => ?_⟩, fun k hk => ?_⟩
  · rw [ctZ_upd, ctZ_upd]; rfl
  · rw [ptZ_upd _ _ _ (by rw [updZ_ne _ _ (Ne.symm hij), hy]; rfl), ptZ_upd _ _ _ (by rw [hx]; rfl)]
  · rcases List.mem_append.1 hk with hk | hk
    · exact ⟨i, x, hi, hx, hk⟩
    · exact ⟨j, y, hj, hy, hk⟩
  · obtain ⟨q, z, hq, hz, hk⟩ := hk
    by_cases e1 : q = j
    · subst e1
      rw [updZ_same] at hz
      injection hz with hz
      subst hz
      exact (hM k hk).imp (fun h => ⟨q, y, hj, hy, h⟩) id
    · rw [updZ_ne _ _ e1] at hz
      by_cases e2 : q = i
      · subst e2
        rw [updZ_same] at hz
        injection hz with hz
        subst hz
        exact .inl ⟨q, x, hi, hx, hN k hk⟩
      · rw [updZ_ne _ _ e2] at hz
        exact .inl ⟨q, z, hq, hz, hk⟩
/-- The letter's place of the dead queue. -/
def deadJ (c : Wp.Rq) : Option Nat := if c.d = 45 then none else some (c.d.toNat - 97)
/-- The dead queue, if it is there. -/
def deadC (c : Nat → Option QM) (q : Wp.Rq) : Option (Nat × QM) := (deadJ q).bind (fun j => (c j).map (fun T => (j, T)))
/-- What the queues have behind a coming back. -/
def backC (c : Nat → Option QM) (i : Nat) (num : Int) : Nat → Option QM :=
  match c i with
  | none => c
  | some Q => match Q.ms.find? (isN num) with
    | none => c
    | some m => match deadC c Q.c with
      | none => setC c i (some (readyQ (tilQ Q num 0) m.grp))
      | some (j, T) => if upQ Q.c m.rcv = true ∧ roomQ T (cntG m.grp (tilQ Q num 0).ms) = true then
          setC (setC c i (some { tilQ Q num 0 with ms := (tilQ Q num 0).ms.filter (fun x => !isG m.grp x) })) j (some (putL T ((tilQ Q num 0).ms.filter (isG m.grp))))
        else setC c i (some (readyQ (tilQ Q num 0) m.grp))
/-- A setting of a dead queue that can be. -/
def DeadOk (i : Nat) (c : Wp.Rq) : Prop := c.d = 45 ∨ ∃ j, j < 8 ∧ j ≠ i ∧ c.d.toNat = 97 + j
def dvZ (Z : Nat → Option BQ) (c : Wp.Rq) : Value := ptrV ((deadJ c).bind (ptZ Z))
theorem find_idx {num : Int} {l : List Ms} {m : Ms} (h : l.find? (isN num) = some m) : ∃ i : Nat, idxL (isN num) l = (i : Int) ∧ ∃ hi : i < l.length, l[i] = m := by
  have h0 : 0 ≤ idxL (isN num) l := by
    by_cases h1 : idxL (isN num) l < 0
    · rw [idxL_no _ _ h1] at h
      simp at h
    · omega
  refine ⟨(idxL (isN num) l).toNat, (Int.toNat_of_nonneg h0).symm, ?_⟩
  obtain ⟨hi, _, hf⟩ := idxL_fnd (isN num) l _ (Int.toNat_of_nonneg h0).symm
  rw [h] at hf
  exact ⟨hi, (Option.some.inj hf).symm⟩
theorem tilQ_len (Q : QM) (num til : Int) : (tilQ Q num til).ms.length = Q.ms.length := by unfold tilQ; split <;> simp
theorem tilQ_c (Q : QM) (num til : Int) : (tilQ Q num til).c = Q.c := by unfold tilQ; split <;> rfl
theorem back_sg (B st b i : Nat) (now : Int) (Z : Nat → Option BQ) (col : Nat → Nat) (w : World) (h : SG B w st b now Z col) (hB : B ≤ w.heap.size) (hi : i < 8) (x : BQ) (hx : Z i = some x) (num : Int) (m : Ms) (hm : x.Q.ms.find? (isN num) = some m)
    (hd : DeadOk i x.Q.c) (hb : ∀ j T, j < 8 → ctZ Z j = some T → T.ms.length ≤ 100 ∧ T.rs.length ≤ 100 ∧ T.next ≤ 201) :
    Calls Tryz.prog 203 #[.pointer (some ⟨x.qb, 0, none⟩), .int .i64 num, dvZ Z x.Q.c] w fun e w' => e = .returned (.tuple #[]) ∧ SGn B st b now w w' Z col (backC (ctZ Z) i num) := by
  obtain ⟨p, hp, hpl, hpm⟩ := find_idx hm
  have hqx := h.qr i x hi hx
  have hcx := ctZ_some hx
  have hbx := hb i x.Q hi hcx
  have hbk : backC (ctZ Z) i num = match deadC (ctZ Z) x.Q.c with
      | none => setC (ctZ Z) i (some (readyQ (tilQ x.Q num 0) m.grp))
      | some (j, T) => if upQ x.Q.c m.rcv = true ∧ roomQ T (cntG m.grp (tilQ x.Q num 0).ms) = true then
          setC (setC (ctZ Z) i (some { tilQ x.Q num 0 with ms := (tilQ x.Q num 0).ms.filter (fun x => !isG m.grp x) })) j (some (putL T ((tilQ x.Q num 0).ms.filter (isG m.grp))))
        else setC (ctZ Z) i (some (readyQ (tilQ x.Q num 0) m.grp)) := by
    unfold backC
    rw [hcx]
    simp only [hm]
  have hrdy : ∀ w', QL w w' x.qb x.V (readyQ (tilQ x.Q num 0) x.Q.ms[p].grp) → SGn B st b now w w' Z col (setC (ctZ Z) i (some (readyQ (tilQ x.Q num 0) m.grp))) := fun w' hq => by
    rw [hpm] at hq
    exact h.updn hB hi hx hq
  rw [hbk]
  have hstay : deadC (ctZ Z) x.Q.c = none → Calls Tryz.prog 203 #[.pointer (some ⟨x.qb, 0, none⟩), .int .i64 num, .pointer none] w fun e w' => e = .returned (.tuple #[]) ∧ SGn B st b now w w' Z col (setC (ctZ Z) i (some (readyQ (tilQ x.Q num 0) m.grp))) := fun _ =>
    back_walk _ x.Q x.V x.qb num (.pointer none) w hqx (by omega) (by omega) p hp hpl (.inl rfl) (.inl ⟨.inr rfl, hrdy⟩)
  rcases hd with hd | ⟨j, hj, hji, hd⟩
  · have e1 : deadJ x.Q.c = none := if_pos hd
    have e2 : deadC (ctZ Z) x.Q.c = none := by unfold deadC; rw [e1]; rfl
    have e3 : dvZ Z x.Q.c = .pointer none := by unfold dvZ; rw [e1]; rfl
    rw [e2, e3]
    exact hstay e2
  · have hne : x.Q.c.d ≠ 45 := fun e => by rw [e] at hd; simp at hd; omega
    have e1 : deadJ x.Q.c = some j := by unfold deadJ; rw [if_neg hne, hd]; congr 1; omega
    cases hz : Z j with
    | none =>
      have e2 : deadC (ctZ Z) x.Q.c = none := by unfold deadC ctZ; rw [e1]; simp [hz]
      have e3 : dvZ Z x.Q.c = .pointer none := by unfold dvZ ptZ; rw [e1]; simp [hz, ptrV]
      rw [e2, e3]
      exact hstay e2
    | some y =>
      have hcy := ctZ_some hz
      have e2 : deadC (ctZ Z) x.Q.c = some (j, y.Q) := by unfold deadC; rw [e1]; simp [hcy]
      have e3 : dvZ Z x.Q.c = .pointer (some ⟨y.qb, 0, none⟩) := by unfold dvZ ptZ; rw [e1]; simp [hz, ptrV]
      rw [e2, e3]
      have hqy := h.qr j y hj hz
      have hap := h.dis hi hj hx hz (Ne.symm hji)
      have hby := hb j y.Q hj hcy
      have hcl : cntG m.grp (tilQ x.Q num 0).ms ≤ 100 := by
        have h1 := cntG_le m.grp (tilQ x.Q num 0).ms
        rw [tilQ_len] at h1
        omega
      by_cases hu : upQ x.Q.c m.rcv = true
      · refine back_walk _ x.Q x.V x.qb num _ w hqx (by omega) (by omega) p hp hpl (.inr ⟨_, rfl⟩) (.inr ⟨y.qb, roomQ y.Q (cntG m.grp (tilQ x.Q num 0).ms), by rw [hpm]; exact hu, rfl, fun W hW => ?_, ?_⟩)
        · rw [hpm]
          have hqw : QR W y.qb y.V y.Q := hqy.tch hW.tch (fun k hk hm => hap k hm hk)
          exact hasRoom_any y.Q y.V y.qb _ W hqw (by omega) (by omega) (by omega)
        · by_cases hr : roomQ y.Q (cntG m.grp (tilQ x.Q num 0).ms) = true
          · rw [if_pos hr]
            intro W hW
            rw [hpm]
            have hqw : QR W y.qb y.V y.Q := hqy.tch hW.tch (fun k hk hm => hap k hm hk)
            have hroom : y.Q.next + cntG m.grp (tilQ x.Q num 0).ms ≤ 201 := by
              unfold roomQ at hr
              simp at hr
              omega
            refine (move_any (tilQ x.Q num 0) y.Q x.V y.V x.qb y.qb m.grp W hW.qr hqw hap (by rw [tilQ_len]; omega) (by omega) (by omega) hroom).mono ?_
            rintro e w' ⟨rfl, V', VT', h1, h2, h3, h4, h5⟩
            refine ⟨rfl, ?_⟩
            simp only [hu, hr, and_self, if_true]
            have hz0 := hW.tch.size
            refine h.upd2n hB hi hj hx hz (Ne.symm hji) h1 h2 ((hW.tch.sub (fun k hk _ => List.mem_append.2 (.inl hk))).trans h3 (fun k hk _ => hk)) h4 (fun k hk => ?_)
            rcases h5 k hk with h6 | h6
            · exact .inl h6
            · exact .inr (by omega)
          · rw [if_neg hr]
            have : ¬ (upQ x.Q.c m.rcv = true ∧ roomQ y.Q (cntG m.grp (tilQ x.Q num 0).ms) = true) := fun hh => hr hh.2
            simp only [this, if_false]
            exact hrdy
      · have : ¬ (upQ x.Q.c m.rcv = true ∧ roomQ y.Q (cntG m.grp (tilQ x.Q num 0).ms) = true) := fun hh => hu hh.1
        simp only [this, if_false]
        exact back_walk _ x.Q x.V x.qb num _ w hqx (by omega) (by omega) p hp hpl (.inr ⟨_, rfl⟩) (.inl ⟨.inl (by rw [hpm]; simpa using hu), hrdy⟩)
end Go.Proofs.YtbdobaapadlcjaaGreatDoor

namespace Go.Proofs.YtbdobaapadlcjaaGreatDoor
open Go.RowKit
set_option linter.unusedVariables false
set_option linter.unusedSimpArgs false

theorem info234 : (Tryz.prog.info? 234).map (fun i => (i.zero, i.size, i.bytes)) = some (some (.agg #[.string ⟨#[]⟩, .int .i64 0, .string ⟨#[]⟩]), 3, 40) := by kernel_rfl
/-- The queue behind an attempt that is kept. -/
def remQ (Q : QM) (a : At) : QM := if a.id.size = 0 then Q else { Q with ats := Q.ats ++ [a] }
abbrev atV (a : At) : List Value := [.string a.id, .int .i64 a.til, .string a.ans]

theorem rem_fin (Q : QM) (V : QV) (a : At) (qb : Nat) (w W : World) (ht : Tch [] w W) (h : QR W qb V Q)
    (v' : Value) (w' : World) (ho : w'.ownsRow 0 234 3 v' (Q.ats.length + 1) (Q.ats.flatMap At.row ++ atV a)) (hg : (W.drew.alloc (.cells (atV a).toArray 234)).grownBy w' V.a.ownBlock) (hb : v'.ownBlock = V.a.ownBlock ∨ v'.ownBlock = some (W.drew.alloc (.cells (atV a).toArray 234)).heap.size) :
    ∃ g4 cap4, v' = .slice (some ⟨g4, 0, none⟩) (Q.ats.length + 1) cap4 ∧ w'.cell? ⟨qb, 10, none⟩ = some V.a ∧ w'.frozen? ⟨qb, 10, none⟩ = false ∧ (w'.setCell ⟨qb, 10, none⟩ v').cell? ⟨qb, 10, none⟩ = some v' ∧ qb < w'.heap.size ∧
      QL w (w'.setCell ⟨qb, 10, none⟩ v') qb V { Q with ats := Q.ats ++ [a] } := by
  obtain ⟨g4, cap4, hv⟩ := own_some ho
  have t1 : Tch [] W (W.drew.alloc (.cells (atV a).toArray 234)) := (Tch.refl _ _).drew.alloc _
  have t2 : Tch (bl V.a) W w' := (t1.sub (by simp)).trans (grown_tch hg) (fun x hx _ => hx)
  have f2 : Fr 0 [234] W w' := Fr.of_tch t2 (Nat.zero_le _) (fun _ _ => Nat.zero_le _) (fun b hb' C t hC => by
    by_cases e : 234 = t
    · rw [← e]; decide
    · exact absurd (mem_bl.1 hb') (own_ne h.a hC e))
  have hq1 : Qb w' qb Q.c (Q.next : Int) V.m V.r V.d V.a := f2.keep _ _ _ h.blk (by decide)
  have hq2 := hq1.set10 v'
  have t3 : Tch [qb] w' (w'.setCell ⟨qb, 10, none⟩ v') := (Tch.refl _ _).setCell (fun _ => by simp) _
  have f3 : Fr 0 [191] w' (w'.setCell ⟨qb, 10, none⟩ v') := Fr.one t3 (Nat.zero_le _) (Nat.zero_le _) hq1 (by decide)
  refine ⟨g4, cap4, hv, cell_qC hq1 10 _ rfl, hq1.fz 10, cell_qC hq2 10 _ rfl, hq1.lt, ⟨V.m, V.r, V.d, v'⟩, ⟨hq2, f3.own (f2.own h.m (by decide)) (by decide), f3.own (f2.own h.r (by decide)) (by decide), f3.own (f2.own h.d (by decide)) (by decide), ?_⟩, ?_, fun b hb' => ?_⟩
  · have h5 := f3.own ho (by decide)
    simpa [At.row, atV] using h5
  · refine ((ht.sub (S' := qbl qb V) (by simp)).trans t2 (fun x hx _ => mem_qbl.2 (.inr (.inr (.inr (.inr (mem_bl.1 hx))))))).trans t3 (fun x hx _ => mem_qbl.2 (.inl (by simpa using hx)))
  · rcases mem_qbl.1 hb' with e | e | e | e | e
    · exact .inl (mem_qbl.2 (.inl e))
    · exact .inl (mem_qbl.2 (.inr (.inl e)))
    · exact .inl (mem_qbl.2 (.inr (.inr (.inl e))))
    · exact .inl (mem_qbl.2 (.inr (.inr (.inr (.inl e)))))
    · rcases hb with h0 | h0
      · exact .inl (mem_qbl.2 (.inr (.inr (.inr (.inr (h0.symm.trans e))))))
      · right
        have e' : v'.ownBlock = some b := e
        rw [e'] at h0
        injection h0 with h0
        have := ht.size
        have := t1.size
        omega

set_option maxRecDepth 8000 in
set_option maxHeartbeats 2000000 in
theorem remember_any (Q : QM) (V : QV) (a : At) (qb : Nat) (w : World) (h : QR w qb V Q) (hn : Q.ats.length < 20) :
    Calls Tryz.prog 215 #[.pointer (some ⟨qb, 0, none⟩), .agg #[.string a.id, .int .i64 a.til, .string a.ans]] w fun e w' => e = .returned (.tuple #[]) ∧ QL w w' qb V (remQ Q a) := by
  have HQ : Hid (QR w qb V Q) := h
  by_cases hz : a.id.size = 0
  · have e0 : a.id = ⟨#[]⟩ := toList_nil _ hz
    have hr : Hid (remQ Q a = Q) := by show _ = _; unfold remQ; rw [if_pos hz]
    rw [e0]
    clear h
    go_enter Tryz.func215, Tryz.ntmps215
    go_wp2_with fail
    refine bodyPost_ret (results_none rfl _ _ _) rfl ⟨rfl, ?_⟩
    rw [hr.out]
    exact ⟨V, HQ.out.tch ((Tch.refl [] w).alloc _) (by simp), ((Tch.refl [] w).alloc _).sub (by simp), fun _ h => .inl h⟩
  · have hne := ne_nil _ hz
    have hr : Hid (remQ Q a = { Q with ats := Q.ats ++ [a] }) := by show _ = _; unfold remQ; rw [if_neg hz]
    obtain ⟨wa, hwa⟩ : ∃ wa, wa = w.alloc (.cells #[.string a.id, .int .i64 a.til, .string a.ans] 234) := ⟨_, rfl⟩
    have ta : Tch [] w wa := by rw [hwa]; exact (Tch.refl [] w).alloc _
    have ha := h.tch ta (by simp)
    have HWA : Hid (QR wa qb V Q) := ha
    have HTA : Hid (Tch [] w wa) := ta
    have hbx : wa.heap[w.heap.size]? = some (.cells #[.string a.id, .int .i64 a.til, .string a.ans] 234 (0, 0)) := by rw [hwa]; exact heap_alloc_new _ _
    have b0 : wa.cell? ⟨w.heap.size, 0, none⟩ = some (.string a.id) := cell_qC hbx 0 _ rfl
    have b1 : wa.cell? ⟨w.heap.size, 1, none⟩ = some (.int .i64 a.til) := cell_qC hbx 1 _ rfl
    have b2 : wa.cell? ⟨w.heap.size, 2, none⟩ = some (.string a.ans) := cell_qC hbx 2 _ rfl
    have q10 : wa.cell? ⟨qb, 10, none⟩ = some V.a := cell_qC ha.blk 10 _ rfl
    have hlt := ha.blk.lt
    have hlb := lt_of_block hbx
    have HG : Hid (∀ v' w', w'.ownsRow 0 234 3 v' (Q.ats.length + 1) (Q.ats.flatMap At.row ++ atV a) → (wa.drew.alloc (.cells (atV a).toArray 234)).grownBy w' V.a.ownBlock → (v'.ownBlock = V.a.ownBlock ∨ v'.ownBlock = some (wa.drew.alloc (.cells (atV a).toArray 234)).heap.size) → _) := fun v' w' => rem_fin Q V a qb w wa ta ha v' w'
    clear h ha ta hbx hz
    go_enter Tryz.func215, Tryz.ntmps215
    go_wp2_with fail
    rw [← hwa]
    clear hwa
    go_region_law (refine step_vals rfl (.tmp 11) (.tmp 13) 189 234 rfl Tryz.underlying189 (.agg #[.string ⟨#[]⟩, .int .i64 0, .string ⟨#[]⟩]) 3 40 info234 rfl (by decide) (by decide) V.a Q.ats.length (Q.ats.flatMap At.row) (by simp [Act.eval, Act.put]) (own_tch HWA.out.a ((Tch.refl [] _).drew.alloc _) (fun _ _ => by simp)) wa.heap.size (atV a) 1 (by simp [Act.eval, Act.put]) rfl (by decide) (heap_alloc_new _ _) (by intro u hu; simp at hu; rcases hu with rfl | rfl | rfl <;> rfl) (by omega) ?_; intro v' w9 ho3 hg3 hb3; obtain ⟨g4, cap4, hv4, c9, z9, c10, l9, hfin⟩ := HG.out v' w9 ho3 hg3 hb3; subst hv4; clear ho3 hg3 hb3; have HFIN : Hid (QL _ _ _ _ _) := hfin; clear hfin)
    all_goals (go_wp2_with fail; go_end0; exact ⟨rfl, by rw [hr.out]; exact HFIN.out⟩)
end Go.Proofs.YtbdobaapadlcjaaGreatDoor
