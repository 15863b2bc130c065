import Derived.Test.YtbdobaapadlcjaaGreatDoorOx27
import Derived.Test.YtbdobaapadlcjaaGreatDoorOx18
namespace Go.Proofs.YtbdobaapadlcjaaGreatDoor
open Go.RowKit
set_option linter.unusedVariables false
set_option linter.unusedSimpArgs false
def ctZ (Z : Nat → Option BQ) : Nat → Option QM := fun i => (Z i).map BQ.Q
def setC (c : Nat → Option QM) (i : Nat) (v : Option QM) : Nat → Option QM := fun j => if j = i then v else c j
theorem setC_same (c : Nat → Option QM) (i : Nat) (v : Option QM) : setC c i v i = v := by simp [setC]
theorem setC_ne (c : Nat → Option QM) {i j : Nat} (v : Option QM) (h : j ≠ i) : setC c i v j = c j := by simp [setC, h]
theorem ctZ_upd (Z : Nat → Option BQ) (i : Nat) (v : Option BQ) : ctZ (updZ Z i v) = setC (ctZ Z) i (v.map BQ.Q) := by
  funext j
  unfold ctZ updZ setC
  by_cases e : j = i
  · simp [e]
  · simp [e]
theorem ctZ_some {Z : Nat → Option BQ} {i : Nat} {x : BQ} (h : Z i = some x) : ctZ Z i = some x.Q := by unfold ctZ; rw [h]; rfl
theorem ctZ_get {Z : Nat → Option BQ} {i : Nat} {Q : QM} (h : ctZ Z i = some Q) : ∃ x, Z i = some x ∧ x.Q = Q := by
  unfold ctZ at h
  cases hz : Z i with
  | none => rw [hz] at h; simp at h
  | some x => rw [hz] at h; simp at h; exact ⟨x, rfl, h⟩
theorem ctZ_none {Z : Nat → Option BQ} {i : Nat} (h : ctZ Z i = none) : Z i = none := by
  unfold ctZ at h
  cases hz : Z i with
  | none => rfl
  | some x => rw [hz] at h; simp at h
def allK (Z : Nat → Option BQ) (k : Nat) : Prop := ∃ j y, j < 8 ∧ Z j = some y ∧ k ∈ qbl y.qb y.V
theorem SG.allLt {B : Nat} {w : World} {st b : Nat} {now : Int} {Z : Nat → Option BQ} {col : Nat → Nat} (h : SG B w st b now Z col) {k : Nat} (hk : allK Z k) : k < w.heap.size := by
  obtain ⟨j, y, hj, hy, hk⟩ := hk
  exact (h.qr j y hj hy).lt k hk
def SGn (B st b : Nat) (now : Int) (w w' : World) (Z : Nat → Option BQ) (col : Nat → Nat) (c : Nat → Option QM) : Prop :=
  ∃ Z' col', SG B w' st b now Z' col' ∧ ctZ Z' = c ∧ ptZ Z' = ptZ Z ∧ Agr w col col' ∧ Fq B col w w' ∧ (∃ S, Tch S w w' ∧ ∀ k ∈ S, allK Z k) ∧ ∀ k, allK Z' k → allK Z k ∨ w.heap.size ≤ k
theorem SG.updn {B : Nat} {w w' : World} {st b : Nat} {now : Int} {Z : Nat → Option BQ} {col : Nat → Nat} (h : SG B w st b now Z col) (hB : B ≤ w.heap.size) {i : Nat} (hi : i < 8) {x : BQ} (hx : Z i = some x) {Q' : QM} (hq : QL w w' x.qb x.V Q') : SGn B st b now w w' Z col (setC (ctZ Z) i (some Q')) := by
  obtain ⟨V', col', h1, h2, h3, h4, h5⟩ := h.upd hB hi hx hq
  refine ⟨_, col', h1, ctZ_upd _ _ _, ptZ_upd _ _ _ (by rw [hx]; rfl), h2, h3, ⟨_, h5, fun k hk => ⟨i, x, hi, hx, hk⟩⟩, fun k hk => ?_⟩
  obtain ⟨j, y, hj, hy, hk⟩ := hk
  by_cases e : j = i
  · subst e
    rw [updZ_same] at hy
    injection hy with hy
    subst hy
    exact (h4 k hk).imp (fun h => ⟨j, x, hj, hx, h⟩) id
  · rw [updZ_ne _ _ e] at hy
    exact .inl ⟨j, y, hj, hy, hk⟩
theorem SG.upd2n {B : Nat} {w w' : World} {st b : Nat} {now : Int} {Z : Nat → Option BQ} {col : Nat → Nat} (h : SG B w st b now Z col) (hB : B ≤ w.heap.size) {i j : Nat} (hi : i < 8) (hj : j < 8) {x y : BQ} (hx : Z i = some x) (hy : Z j = some y) (hij : i ≠ j) {V' VT' : QV} {Q' T' : QM}
    (hQ : QR w' x.qb V' Q') (hT : QR w' y.qb VT' T') (ht : Tch (qbl x.qb x.V ++ qbl y.qb y.V) w w') (hN : ∀ k ∈ qbl x.qb V', k ∈ qbl x.qb x.V) (hM : ∀ k ∈ qbl y.qb VT', k ∈ qbl y.qb y.V ∨ w.heap.size ≤ k) :
    SGn B st b now w w' Z col (setC (setC (ctZ Z) i (some Q')) j (some T')) := by
  obtain ⟨col', h1, h2, h3⟩ := h.upd2 hB hi hj hx hy hij hQ hT ht hN hM
  refine ⟨_, col', h1, ?_, ?_, h2, h3, ⟨_, ht, fun k hk => ?_⟩, fun k hk => ?_⟩
  · rw [ctZ_upd, ctZ_upd]; rfl
  · rw [ptZ_upd _ _ _ (by rw [updZ_ne _ _ (Ne.symm hij), hy]; rfl), ptZ_upd _ _ _ (by rw [hx]; rfl)]
  · rcases List.mem_append.1 hk with hk | hk
    · exact ⟨i, x, hi, hx, hk⟩
    · exact ⟨j, y, hj, hy, hk⟩
  · obtain ⟨q, z, hq, hz, hk⟩ := hk
    by_cases e1 : q = j
    · subst e1
      rw [updZ_same] at hz
      injection hz with hz
      subst hz
      exact (hM k hk).imp (fun h => ⟨q, y, hj, hy, h⟩) id
    · rw [updZ_ne _ _ e1] at hz
      by_cases e2 : q = i
      · subst e2
        rw [updZ_same] at hz
        injection hz with hz
        subst hz
        exact .inl ⟨q, x, hi, hx, hN k hk⟩
      · rw [updZ_ne _ _ e2] at hz
        exact .inl ⟨q, z, hq, hz, hk⟩
def deadJ (c : Wp.Rq) : Option Nat := if c.d = 45 then none else some (c.d.toNat - 97)
def deadC (c : Nat → Option QM) (q : Wp.Rq) : Option (Nat × QM) := (deadJ q).bind (fun j => (c j).map (fun T => (j, T)))
def backC (c : Nat → Option QM) (i : Nat) (num : Int) : Nat → Option QM :=
  match c i with
  | none => c
  | some Q => match Q.ms.find? (isN num) with
    | none => c
    | some m => match deadC c Q.c with
      | none => setC c i (some (readyQ (tilQ Q num 0) m.grp))
      | some (j, T) => if upQ Q.c m.rcv = true ∧ roomQ T (cntG m.grp (tilQ Q num 0).ms) = true then
          setC (setC c i (some { tilQ Q num 0 with ms := (tilQ Q num 0).ms.filter (fun x => !isG m.grp x) })) j (some (putL T ((tilQ Q num 0).ms.filter (isG m.grp))))
        else setC c i (some (readyQ (tilQ Q num 0) m.grp))
def DeadOk (i : Nat) (c : Wp.Rq) : Prop := c.d = 45 ∨ ∃ j, j < 8 ∧ j ≠ i ∧ c.d.toNat = 97 + j
def dvZ (Z : Nat → Option BQ) (c : Wp.Rq) : Value := ptrV ((deadJ c).bind (ptZ Z))
theorem find_idx {num : Int} {l : List Ms} {m : Ms} (h : l.find? (isN num) = some m) : ∃ i : Nat, idxL (isN num) l = (i : Int) ∧ ∃ hi : i < l.length, l[i] = m := by
  have h0 : 0 ≤ idxL (isN num) l := by
    by_cases h1 : idxL (isN num) l < 0
    · rw [idxL_no _ _ h1] at h
      simp at h
    · omega
  refine ⟨(idxL (isN num) l).toNat, (Int.toNat_of_nonneg h0).symm, ?_⟩
  obtain ⟨hi, _, hf⟩ := idxL_fnd (isN num) l _ (Int.toNat_of_nonneg h0).symm
  rw [h] at hf
  exact ⟨hi, (Option.some.inj hf).symm⟩
theorem tilQ_len (Q : QM) (num til : Int) : (tilQ Q num til).ms.length = Q.ms.length := by unfold tilQ; split <;> simp
theorem tilQ_c (Q : QM) (num til : Int) : (tilQ Q num til).c = Q.c := by unfold tilQ; split <;> rfl
theorem back_sg (B st b i : Nat) (now : Int) (Z : Nat → Option BQ) (col : Nat → Nat) (w : World) (h : SG B w st b now Z col) (hB : B ≤ w.heap.size) (hi : i < 8) (x : BQ) (hx : Z i = some x) (num : Int) (m : Ms) (hm : x.Q.ms.find? (isN num) = some m)
    (hd : DeadOk i x.Q.c) (hb : ∀ j T, j < 8 → ctZ Z j = some T → T.ms.length ≤ 100 ∧ T.rs.length ≤ 100 ∧ T.next ≤ 201) :
    Calls Tryz.prog 203 #[.pointer (some ⟨x.qb, 0, none⟩), .int .i64 num, dvZ Z x.Q.c] w fun e w' => e = .returned (.tuple #[]) ∧ SGn B st b now w w' Z col (backC (ctZ Z) i num) := by
  obtain ⟨p, hp, hpl, hpm⟩ := find_idx hm
  have hqx := h.qr i x hi hx
  have hcx := ctZ_some hx
  have hbx := hb i x.Q hi hcx
  have hbk : backC (ctZ Z) i num = match deadC (ctZ Z) x.Q.c with
      | none => setC (ctZ Z) i (some (readyQ (tilQ x.Q num 0) m.grp))
      | some (j, T) => if upQ x.Q.c m.rcv = true ∧ roomQ T (cntG m.grp (tilQ x.Q num 0).ms) = true then
          setC (setC (ctZ Z) i (some { tilQ x.Q num 0 with ms := (tilQ x.Q num 0).ms.filter (fun x => !isG m.grp x) })) j (some (putL T ((tilQ x.Q num 0).ms.filter (isG m.grp))))
        else setC (ctZ Z) i (some (readyQ (tilQ x.Q num 0) m.grp)) := by
    unfold backC
    rw [hcx]
    simp only [hm]
  have hrdy : ∀ w', QL w w' x.qb x.V (readyQ (tilQ x.Q num 0) x.Q.ms[p].grp) → SGn B st b now w w' Z col (setC (ctZ Z) i (some (readyQ (tilQ x.Q num 0) m.grp))) := fun w' hq => by
    rw [hpm] at hq
    exact h.updn hB hi hx hq
  rw [hbk]
  have hstay : deadC (ctZ Z) x.Q.c = none → Calls Tryz.prog 203 #[.pointer (some ⟨x.qb, 0, none⟩), .int .i64 num, .pointer none] w fun e w' => e = .returned (.tuple #[]) ∧ SGn B st b now w w' Z col (setC (ctZ Z) i (some (readyQ (tilQ x.Q num 0) m.grp))) := fun _ =>
    back_walk _ x.Q x.V x.qb num (.pointer none) w hqx (by omega) (by omega) p hp hpl (.inl rfl) (.inl ⟨.inr rfl, hrdy⟩)
  rcases hd with hd | ⟨j, hj, hji, hd⟩
  · have e1 : deadJ x.Q.c = none := if_pos hd
    have e2 : deadC (ctZ Z) x.Q.c = none := by unfold deadC; rw [e1]; rfl
    have e3 : dvZ Z x.Q.c = .pointer none := by unfold dvZ; rw [e1]; rfl
    rw [e2, e3]
    exact hstay e2
  · have hne : x.Q.c.d ≠ 45 := fun e => by rw [e] at hd; simp at hd; omega
    have e1 : deadJ x.Q.c = some j := by unfold deadJ; rw [if_neg hne, hd]; congr 1; omega
    cases hz : Z j with
    | none =>
      have e2 : deadC (ctZ Z) x.Q.c = none := by unfold deadC ctZ; rw [e1]; simp [hz]
      have e3 : dvZ Z x.Q.c = .pointer none := by unfold dvZ ptZ; rw [e1]; simp [hz, ptrV]
      rw [e2, e3]
      exact hstay e2
    | some y =>
      have hcy := ctZ_some hz
      have e2 : deadC (ctZ Z) x.Q.c = some (j, y.Q) := by unfold deadC; rw [e1]; simp [hcy]
      have e3 : dvZ Z x.Q.c = .pointer (some ⟨y.qb, 0, none⟩) := by unfold dvZ ptZ; rw [e1]; simp [hz, ptrV]
      rw [e2, e3]
      have hqy := h.qr j y hj hz
      have hap := h.dis hi hj hx hz (Ne.symm hji)
      have hby := hb j y.Q hj hcy
      have hcl : cntG m.grp (tilQ x.Q num 0).ms ≤ 100 := by
        have h1 := cntG_le m.grp (tilQ x.Q num 0).ms
        rw [tilQ_len] at h1
        omega
      by_cases hu : upQ x.Q.c m.rcv = true
      · refine back_walk _ x.Q x.V x.qb num _ w hqx (by omega) (by omega) p hp hpl (.inr ⟨_, rfl⟩) (.inr ⟨y.qb, roomQ y.Q (cntG m.grp (tilQ x.Q num 0).ms), by rw [hpm]; exact hu, rfl, fun W hW => ?_, ?_⟩)
        · rw [hpm]
          have hqw : QR W y.qb y.V y.Q := hqy.tch hW.tch (fun k hk hm => hap k hm hk)
          exact hasRoom_any y.Q y.V y.qb _ W hqw (by omega) (by omega) (by omega)
        · by_cases hr : roomQ y.Q (cntG m.grp (tilQ x.Q num 0).ms) = true
          · rw [if_pos hr]
            intro W hW
            rw [hpm]
            have hqw : QR W y.qb y.V y.Q := hqy.tch hW.tch (fun k hk hm => hap k hm hk)
            have hroom : y.Q.next + cntG m.grp (tilQ x.Q num 0).ms ≤ 201 := by
              unfold roomQ at hr
              simp at hr
              omega
            refine (move_any (tilQ x.Q num 0) y.Q x.V y.V x.qb y.qb m.grp W hW.qr hqw hap (by rw [tilQ_len]; omega) (by omega) (by omega) hroom).mono ?_
            rintro e w' ⟨rfl, V', VT', h1, h2, h3, h4, h5⟩
            refine ⟨rfl, ?_⟩
            simp only [hu, hr, and_self, if_true]
            have hz0 := hW.tch.size
            refine h.upd2n hB hi hj hx hz (Ne.symm hji) h1 h2 ((hW.tch.sub (fun k hk _ => List.mem_append.2 (.inl hk))).trans h3 (fun k hk _ => hk)) h4 (fun k hk => ?_)
            rcases h5 k hk with h6 | h6
            · exact .inl h6
            · exact .inr (by omega)
          · rw [if_neg hr]
            have : ¬ (upQ x.Q.c m.rcv = true ∧ roomQ y.Q (cntG m.grp (tilQ x.Q num 0).ms) = true) := fun hh => hr hh.2
            simp only [this, if_false]
            exact hrdy
      · have : ¬ (upQ x.Q.c m.rcv = true ∧ roomQ y.Q (cntG m.grp (tilQ x.Q num 0).ms) = true) := fun hh => hu hh.1
        simp only [this, if_false]
        exact back_walk _ x.Q x.V x.qb num _ w hqx (by omega) (by omega) p hp hpl (.inr ⟨_, rfl⟩) (.inl ⟨.inl (by rw [hpm]; simpa using hu), hrdy⟩)
theorem info234 : (Tryz.prog.info? 234).map (fun i => (i.zero, i.size, i.bytes)) = some (some (.agg #[.string ⟨#[]⟩, .int .i64 0, .string ⟨#[]⟩]), 3, 40) := by kernel_rfl
def remQ (Q : QM) (a : At) : QM := if a.id.size = 0 then Q else { Q with ats := Q.ats ++ [a] }
abbrev atV (a : At) : List Value := [.string a.id, .int .i64 a.til, .string a.ans]
theorem rem_fin (Q : QM) (V : QV) (a : At) (qb : Nat) (w W : World) (ht : Tch [] w W) (h : QR W qb V Q)
    (v' : Value) (w' : World) (ho : w'.ownsRow 0 234 3 v' (Q.ats.length + 1) (Q.ats.flatMap At.row ++ atV a)) (hg : (W.drew.alloc (.cells (atV a).toArray 234)).grownBy w' V.a.ownBlock) (hb : v'.ownBlock = V.a.ownBlock ∨ v'.ownBlock = some (W.drew.alloc (.cells (atV a).toArray 234)).heap.size) :
    ∃ g4 cap4, v' = .slice (some ⟨g4, 0, none⟩) (Q.ats.length + 1) cap4 ∧ w'.cell? ⟨qb, 10, none⟩ = some V.a ∧ w'.frozen? ⟨qb, 10, none⟩ = false ∧ (w'.setCell ⟨qb, 10, none⟩ v').cell? ⟨qb, 10, none⟩ = some v' ∧ qb < w'.heap.size ∧
      QL w (w'.setCell ⟨qb, 10, none⟩ v') qb V { Q with ats := Q.ats ++ [a] } := by
  obtain ⟨g4, cap4, hv⟩ := own_some ho
  have t1 : Tch [] W (W.drew.alloc (.cells (atV a).toArray 234)) := (Tch.refl _ _).drew.alloc _
  have t2 : Tch (bl V.a) W w' := (t1.sub (by simp)).trans (grown_tch hg) (fun x hx _ => hx)
  have f2 : Fr 0 [234] W w' := Fr.of_tch t2 (Nat.zero_le _) (fun _ _ => Nat.zero_le _) (fun b hb' C t hC => by
    by_cases e : 234 = t
    · rw [← e]; decide
    · exact absurd (mem_bl.1 hb') (own_ne h.a hC e))
  have hq1 : Qb w' qb Q.c (Q.next : Int) V.m V.r V.d V.a := f2.keep _ _ _ h.blk (by decide)
  have hq2 := hq1.set10 v'
  have t3 : Tch [qb] w' (w'.setCell ⟨qb, 10, none⟩ v') := (Tch.refl _ _).setCell (fun _ => by simp) _
  have f3 : Fr 0 [191] w' (w'.setCell ⟨qb, 10, none⟩ v') := Fr.one t3 (Nat.zero_le _) (Nat.zero_le _) hq1 (by decide)
  refine ⟨g4, cap4, hv, cell_qC hq1 10 _ rfl, hq1.fz 10, cell_qC hq2 10 _ rfl, hq1.lt, ⟨V.m, V.r, V.d, v'⟩, ⟨hq2, f3.own (f2.own h.m (by decide)) (by decide), f3.own (f2.own h.r (by decide)) (by decide), f3.own (f2.own h.d (by decide)) (by decide), ?_⟩, ?_, fun b hb' => ?_⟩
  · have h5 := f3.own ho (by decide)
    simpa [At.row, atV] using h5
  · refine ((ht.sub (S' := qbl qb V) (by simp)).trans t2 (fun x hx _ => mem_qbl.2 (.inr (.inr (.inr (.inr (mem_bl.1 hx))))))).trans t3 (fun x hx _ => mem_qbl.2 (.inl (by simpa using hx)))
  · rcases mem_qbl.1 hb' with e | e | e | e | e
    · exact .inl (mem_qbl.2 (.inl e))
    · exact .inl (mem_qbl.2 (.inr (.inl e)))
    · exact .inl (mem_qbl.2 (.inr (.inr (.inl e))))
    · exact .inl (mem_qbl.2 (.inr (.inr (.inr (.inl e)))))
    · rcases hb with h0 | h0
      · exact .inl (mem_qbl.2 (.inr (.inr (.inr (.inr (h0.symm.trans e))))))
      · right
        have e' : v'.ownBlock = some b := e
        rw [e'] at h0
        injection h0 with h0
        have := ht.size
        have := t1.size
        omega
set_option maxRecDepth 8000 in
set_option maxHeartbeats 2000000 in
theorem remember_any (Q : QM) (V : QV) (a : At) (qb : Nat) (w : World) (h : QR w qb V Q) (hn : Q.ats.length < 20) :
    Calls Tryz.prog 215 #[.pointer (some ⟨qb, 0, none⟩), .agg #[.string a.id, .int .i64 a.til, .string a.ans]] w fun e w' => e = .returned (.tuple #[]) ∧ QL w w' qb V (remQ Q a) := by
  have HQ : Hid (QR w qb V Q) := h
  by_cases hz : a.id.size = 0
  · have e0 : a.id = ⟨#[]⟩ := toList_nil _ hz
    have hr : Hid (remQ Q a = Q) := by show _ = _; unfold remQ; rw [if_pos hz]
    rw [e0]
    clear h
    go_enter Tryz.func215, Tryz.ntmps215
    go_wp2_with fail
    refine bodyPost_ret (results_none rfl _ _ _) rfl ⟨rfl, ?_⟩
    rw [hr.out]
    exact ⟨V, HQ.out.tch ((Tch.refl [] w).alloc _) (by simp), ((Tch.refl [] w).alloc _).sub (by simp), fun _ h => .inl h⟩
  · have hne := ne_nil _ hz
    have hr : Hid (remQ Q a = { Q with ats := Q.ats ++ [a] }) := by show _ = _; unfold remQ; rw [if_neg hz]
    obtain ⟨wa, hwa⟩ : ∃ wa, wa = w.alloc (.cells #[.string a.id, .int .i64 a.til, .string a.ans] 234) := ⟨_, rfl⟩
    have ta : Tch [] w wa := by rw [hwa]; exact (Tch.refl [] w).alloc _
    have ha := h.tch ta (by simp)
    have HWA : Hid (QR wa qb V Q) := ha
    have HTA : Hid (Tch [] w wa) := ta
    have hbx : wa.heap[w.heap.size]? = some (.cells #[.string a.id, .int .i64 a.til, .string a.ans] 234 (0, 0)) := by rw [hwa]; exact heap_alloc_new _ _
    have b0 : wa.cell? ⟨w.heap.size, 0, none⟩ = some (.string a.id) := cell_qC hbx 0 _ rfl
    have b1 : wa.cell? ⟨w.heap.size, 1, none⟩ = some (.int .i64 a.til) := cell_qC hbx 1 _ rfl
    have b2 : wa.cell? ⟨w.heap.size, 2, none⟩ = some (.string a.ans) := cell_qC hbx 2 _ rfl
    have q10 : wa.cell? ⟨qb, 10, none⟩ = some V.a := cell_qC ha.blk 10 _ rfl
    have hlt := ha.blk.lt
    have hlb := lt_of_block hbx
    have HG : Hid (∀ v' w', w'.ownsRow 0 234 3 v' (Q.ats.length + 1) (Q.ats.flatMap At.row ++ atV a) → (wa.drew.alloc (.cells (atV a).toArray 234)).grownBy w' V.a.ownBlock → (v'.ownBlock = V.a.ownBlock ∨ v'.ownBlock = some (wa.drew.alloc (.cells (atV a).toArray 234)).heap.size) → _) := fun v' w' => rem_fin Q V a qb w wa ta ha v' w'
    clear h ha ta hbx hz
    go_enter Tryz.func215, Tryz.ntmps215
    go_wp2_with fail
    rw [← hwa]
    clear hwa
    go_region_law (refine step_vals rfl (.tmp 11) (.tmp 13) 189 234 rfl Tryz.underlying189 (.agg #[.string ⟨#[]⟩, .int .i64 0, .string ⟨#[]⟩]) 3 40 info234 rfl (by decide) (by decide) V.a Q.ats.length (Q.ats.flatMap At.row) (by simp [Act.eval, Act.put]) (own_tch HWA.out.a ((Tch.refl [] _).drew.alloc _) (fun _ _ => by simp)) wa.heap.size (atV a) 1 (by simp [Act.eval, Act.put]) rfl (by decide) (heap_alloc_new _ _) (by intro u hu; simp at hu; rcases hu with rfl | rfl | rfl <;> rfl) (by omega) ?_; intro v' w9 ho3 hg3 hb3; obtain ⟨g4, cap4, hv4, c9, z9, c10, l9, hfin⟩ := HG.out v' w9 ho3 hg3 hb3; subst hv4; clear ho3 hg3 hb3; have HFIN : Hid (QL _ _ _ _ _) := hfin; clear hfin)
    all_goals (go_wp2_with fail; go_end0; exact ⟨rfl, by rw [hr.out]; exact HFIN.out⟩)
def recvQ (Q : QM) (att : ByteArray) (cnt : Nat) (til : Int) (ans : List UInt8) : QM := remQ { Q with ms := flyAll til Q.ms (hdsL Q cnt), rs := Q.rs.drop cnt } ⟨att, til, ⟨ans.toArray⟩⟩
theorem flyAll_snoc (til : Int) (ms : List Ms) (zs : List Int) (z : Int) : flyAll til ms (zs ++ [z]) = flyAt til (flyAll til ms zs) z := by
  simp [flyAll, List.foldl_append]
set_option maxRecDepth 8000 in
set_option maxHeartbeats 4000000 in
theorem recvd_any (Q : QM) (V : QV) (CC : Array Value) (att : ByteArray) (qb cnt g0 gc ga base : Nat) (til : Int) (av : Value) (ans : List UInt8) (w : World) (h : QR w qb V Q) (hcp : Cap w qb CC cnt g0 gc ga base til (hdsL Q cnt) av ans) (hatt : CC[12]? = some (.string att)) (hc1 : 0 < cnt ∧ cnt ≤ 1000) (hcl : cnt ≤ Q.rs.length) (hrd : ∀ g ∈ Q.rs, 0 ≤ idxL (isG g) Q.ms) (hms : ∀ m ∈ Q.ms, MsOk m) (hnm : Q.ms.length ≤ 1000) (hna : Q.ats.length < 20) (han : 0 < ans.length) :
    Calls Tryz.prog 212 #[.pointer (some ⟨ga + 1 + 1 + 1, 0, none⟩), .pointer (some ⟨g0, 0, none⟩), .pointer (some ⟨ga + 1, 0, none⟩), .pointer (some ⟨gc, 0, none⟩), .pointer (some ⟨g0 + 1, 0, none⟩), .pointer (some ⟨ga, 0, none⟩)] w fun e w' => e = .returned (.tuple #[]) ∧ QL w w' qb V (recvQ Q att cnt til ans) := by
  have HQ : Hid (QR w qb V Q) := h
  have HC : Hid (Cap w qb CC cnt g0 gc ga base til (hdsL Q cnt) av ans) := hcp
  have hhl : (hdsL Q cnt).length = cnt := by simp [hdsL]; omega
  obtain ⟨gr0, cr, hvr⟩ : ∃ g c, V.r = .slice (some ⟨g, 0, none⟩) Q.rs.length c := by
    rcases h.r.2 with ⟨h0, h1⟩ | ⟨g, cap, cur, h0, _⟩
    · omega
    · exact ⟨_, _, h0⟩
  have hml : 0 < Q.ms.length := by
    have hm0 : Q.rs[0]'(by omega) ∈ Q.rs := List.getElem_mem _
    have h1 := hrd _ hm0
    have h2 := idxL_lt (isG (Q.rs[0]'(by omega))) Q.ms
    omega
  obtain ⟨gm, cm, hvm⟩ : ∃ g c, V.m = .slice (some ⟨g, 0, none⟩) Q.ms.length c := by
    rcases h.m.2 with ⟨h0, h1⟩ | ⟨g, cap, cur, h0, _⟩
    · omega
    · exact ⟨_, _, h0⟩
  have y0 : g0 ≠ qb := fun e => by
    have h1 := hcp.hgq
    have h2 : w.heap[qb]? = _ := h.blk
    rw [e, h2] at h1
    simp at h1
  have y1 : gc ≠ qb := fun e => by
    have h1 := hcp.hgc
    have h2 : w.heap[qb]? = _ := h.blk
    rw [e, h2] at h1
    simp at h1
  have c0 : w.cell? ⟨ga + 1 + 1 + 1, 0, none⟩ = some (.slice (some ⟨ga + 1 + 1, 0, none⟩) cnt cnt) := cell_of_one hcp.hgh
  clear h hcp
  go_enter Tryz.func212, Tryz.ntmps212
  go_wp2_with fail
  go_loopw [11] (fun v wr => ∃ k : Nat, k ≤ cnt ∧ v = .int .i64 (k : Int) ∧ QR wr qb V { Q with ms := flyAll til Q.ms ((hdsL Q cnt).take k) } ∧ Cap wr qb CC cnt g0 gc ga base til (hdsL Q cnt) av ans ∧ Tch [gm] w wr) (fun v _ => cnt - (intOf v).toNat)
  case atStart => exact ⟨0, Nat.zero_le _, rfl, HQ.out, HC.out, Tch.refl _ _⟩
  case round =>
    obtain ⟨k, hk, rfl, hqr, hcp, htc⟩ := hrel
    have HCP : Hid (Cap wr qb CC cnt g0 gc ga base til (hdsL Q cnt) av ans) := hcp
    have HTC : Hid (Tch [gm] w wr) := htc
    by_cases hlt : k < cnt
    · have hkl : k < Q.rs.length := by omega
      have hz0 := hrd Q.rs[k] (List.getElem_mem _)
      have hzl := idxL_lt (isG Q.rs[k]) Q.ms
      obtain ⟨i, hi⟩ : ∃ i : Nat, idxL (isG Q.rs[k]) Q.ms = (i : Int) := ⟨_, (Int.toNat_of_nonneg hz0).symm⟩
      have hzk : (hdsL Q cnt)[k]'(by omega) = (i : Int) := by simp [hdsL, hi]
      have hmk : ∀ m ∈ flyAll til Q.ms ((hdsL Q cnt).take k), MsOk m := flyAll_ok til Q.ms _ hms
      have hmkl := flyAll_len til Q.ms ((hdsL Q cnt).take k)
      have hnext : Hid (flyAll til Q.ms ((hdsL Q cnt).take (k + 1)) = flyAt til (flyAll til Q.ms ((hdsL Q cnt).take k)) (i : Int)) := by
        show _ = _
        rw [List.take_succ_eq_append_getElem (by omega), hzk, flyAll_snoc]
      generalize flyAll til Q.ms ((hdsL Q cnt).take k) = mk at hqr hmk hmkl hnext
      have hil : i < mk.length := by omega
      obtain ⟨m, hm⟩ : ∃ m, mk[i]? = some m := ⟨_, List.getElem?_eq_getElem hil⟩
      have hmi : mk[i] = m := by rw [List.getElem?_eq_getElem hil] at hm; exact Option.some.inj hm
      have hok := hmk m (List.mem_of_getElem? hm)
      obtain ⟨rcv, hrcv⟩ : ∃ n : Nat, m.rcv = (n : Int) := ⟨_, (Int.toNat_of_nonneg hok.rcv.1).symm⟩
      have hvm' : V.m = .slice (some ⟨gm, 0, none⟩) mk.length cm := by rw [hvm, hmkl]
      obtain ⟨hq1, ht1, hf1⟩ := hqr.setM hvm' i 3 (.int .i64 (oft rcv : Nat)) { m with rcv := (oft rcv : Nat) } hil (by decide) (by rw [hmi]; rfl)
      have hset1 : (mk.set i { m with rcv := (oft rcv : Nat) })[i]'(by simpa using hil) = { m with rcv := (oft rcv : Nat) } := by simp
      obtain ⟨hq2, ht2, hf2⟩ := hq1.setM (Q := { Q with ms := mk.set i { m with rcv := (oft rcv : Nat) } }) (gm := gm) (cm := cm) (by rw [hvm']; simp) i 4 (.int .i64 til) (flyM til m) (by simpa using hil) (by decide) (by
        show (flyM til m).row = (Ms.row ((mk.set i { m with rcv := (oft rcv : Nat) })[i]'_)).set 4 _
        rw [hset1]
        simp [flyM, Ms.row, hrcv])
      have HN : Hid (QR ((wr.setCell ⟨gm, i * 5 + 3, none⟩ (.int .i64 (oft rcv : Nat))).setCell ⟨gm, i * 5 + 4, none⟩ (.int .i64 til)) qb V { Q with ms := flyAll til Q.ms ((hdsL Q cnt).take (k + 1)) } ∧ Cap ((wr.setCell ⟨gm, i * 5 + 3, none⟩ (.int .i64 (oft rcv : Nat))).setCell ⟨gm, i * 5 + 4, none⟩ (.int .i64 til)) qb CC cnt g0 gc ga base til (hdsL Q cnt) av ans ∧ Tch [gm] w ((wr.setCell ⟨gm, i * 5 + 3, none⟩ (.int .i64 (oft rcv : Nat))).setCell ⟨gm, i * 5 + 4, none⟩ (.int .i64 til))) := by
        refine ⟨?_, (hcp.keep hf1 (by decide)).keep hf2 (by decide), (htc.trans ht1 (fun _ h _ => h)).trans ht2 (fun _ h _ => h)⟩
        have e : flyAll til Q.ms ((hdsL Q cnt).take (k + 1)) = mk.set i (flyM til m) := by
          rw [hnext.out]
          unfold flyAt
          rw [Int.toNat_natCast, hm]
        rw [e]
        simpa using hq2
      have HOF : Hid (∀ W, Calls Tryz.prog 213 #[.int .i64 (rcv : Int)] W fun e w' => e = .returned (.int .i64 (oft rcv : Nat)) ∧ w' = W) := fun W => oftener_any rcv W (by have := hok.rcv; omega)
      have d1 : wr.cell? ⟨ga + 1 + 1, k, none⟩ = some (.int .i64 (i : Int)) := by
        refine cell_qC hcp.hhb k _ ?_
        rw [intRow_get _ _ k (by omega), hzk]
      have d2 : wr.cell? ⟨g0, 0, none⟩ = some (.pointer (some ⟨qb, 0, none⟩)) := cell_of_one hcp.hgq
      have d3 : wr.cell? ⟨qb, 7, none⟩ = some (.slice (some ⟨gm, 0, none⟩) mk.length cm) := by rw [← hvm']; exact cell_qC hqr.blk 7 _ rfl
      have hmrow := hqr.m
      rw [hvm'] at hmrow
      have d4 : wr.cell? ⟨gm, i * 5 + 3, none⟩ = some (.int .i64 (rcv : Int)) := by
        have inh : Inhabited Ms := ⟨⟨0, ⟨#[]⟩, ⟨#[]⟩, 0, 0⟩⟩
        have h1 := own_cells Ms.row 5 (fun _ => rfl) hmrow i hil 3 (.int .i64 (rcv : Int)) (by
          rw [List.getElem!_eq_getElem?_getD, hm]
          simp [Ms.row, hrcv])
        simpa using h1
      have d5 : (wr.setCell ⟨gm, i * 5 + 3, none⟩ (.int .i64 (oft rcv : Nat))).cell? ⟨gm, i * 5 + 4, none⟩ = some (.int .i64 m.til) := by
        have inh : Inhabited Ms := ⟨⟨0, ⟨#[]⟩, ⟨#[]⟩, 0, 0⟩⟩
        have hr2 := hq1.m
        rw [hvm'] at hr2
        have e0 : mk.length = (mk.set i { m with rcv := (oft rcv : Nat) }).length := by simp
        rw [e0] at hr2
        have h1 := own_cells Ms.row 5 (fun _ => rfl) hr2 i (by simpa using hil) 4 (.int .i64 m.til) (by
          show (Ms.row ((mk.set i { m with rcv := (oft rcv : Nat) })[i]!))[4]? = _
          rw [List.getElem!_eq_getElem?_getD, List.getElem?_set_self hil]
          rfl)
        simpa using h1
      have f3 : wr.frozen? ⟨gm, i * 5 + 3, none⟩ = false := World.ownsRow.frozenAt hmrow _
      have f4 : (wr.setCell ⟨gm, i * 5 + 3, none⟩ (.int .i64 (oft rcv : Nat))).frozen? ⟨gm, i * 5 + 4, none⟩ = false := by
        have hr2 := hq1.m
        rw [hvm'] at hr2
        have e0 : mk.length = (mk.set i { m with rcv := (oft rcv : Nat) }).length := by simp
        rw [e0] at hr2
        exact World.ownsRow.frozenAt hr2 _
      have d6 : (wr.setCell ⟨gm, i * 5 + 3, none⟩ (.int .i64 (oft rcv : Nat))).cell? ⟨ga + 1, 0, none⟩ = some (.int .i64 til) := cell_of_one (hf1.keep _ _ _ hcp.hgu (by decide))
      clear hqr hcp htc hq1 ht1 hf1 hq2 ht2 hf2 hmrow hmk hok
      go_wp2_with (go_at_call 213; refine (HOF.out _).mono ?_; rintro e w' ⟨rfl, h'⟩; have h'' := h'.symm; subst h'')
      go_roundw
      case rel => exact ⟨k + 1, by omega, by go_num, HN.out⟩
      case measure => simp [intOf]; omega
    · have hke : cnt = k := by omega
      subst hke
      have hmall : (hdsL Q cnt).take cnt = hdsL Q cnt := List.take_of_length_le (by omega)
      rw [hmall] at hqr
      generalize hMS : flyAll til Q.ms (hdsL Q cnt) = MS at hqr
      have HMS : Hid (flyAll til Q.ms (hdsL Q cnt) = MS) := hMS
      have HQR : Hid (QR wr qb V { Q with ms := MS }) := hqr
      have hrr := hqr.r
      rw [hvr] at hrr
      have HRB : Hid (∃ C, wr.heap[gr0]? = some (.cells C 9 (0, 0))) := by
        rcases hrr.2 with ⟨e, _⟩ | ⟨g', cap', cur, e, _, hr, _⟩
        · simp at e
        · simp at e
          obtain ⟨e1, _⟩ := e
          subst e1
          exact ⟨_, hr⟩
      have HDL : Hid (Calls Tryz.prog 214 #[.slice (some ⟨gr0, 0, none⟩) Q.rs.length cr, .int .i64 0, .int .i64 (cnt : Int)] wr.drew fun e w' => e = .returned (.slice (some ⟨gr0, 0, none⟩) (Q.rs.length - cnt) cr) ∧ w'.ownsRow 0 9 1 (.slice (some ⟨gr0, 0, none⟩) (Q.rs.length - cnt) cr) (Q.rs.length - cnt) ((Q.rs.drop cnt).map Value.string) ∧ Tch [gr0] wr.drew w') := delete_ready Q.rs gr0 cr cnt wr.drew hrr hcl
      have e0 : wr.cell? ⟨g0, 0, none⟩ = some (.pointer (some ⟨qb, 0, none⟩)) := cell_of_one hcp.hgq
      have ec : wr.cell? ⟨gc, 0, none⟩ = some (.int .i64 (cnt : Int)) := cell_of_one hcp.hgc
      have e8 : wr.cell? ⟨qb, 8, none⟩ = some (.slice (some ⟨gr0, 0, none⟩) Q.rs.length cr) := by rw [← hvr]; exact cell_qC hqr.blk 8 _ rfl
      have lq := hqr.blk.lt
      have lg := lt_of_block hcp.hgq
      have lc := lt_of_block hcp.hgc
      clear hqr hcp htc hrr hmall c0
      go_wp2_with fail
      refine wp_region_noPanic ?_
      refine wp_region_held_drew (S := (fun w' => w'.cell? ⟨g0, 0, none⟩ = some (.pointer (some ⟨qb, 0, none⟩)) ∧ w'.cell? ⟨gc, 0, none⟩ = some (.int .i64 (cnt : Int)))) (by kernel_rfl) (by go_keep) (fun hHeld => ?_)
      refine wpAnyH_take (i := 0) (v := ?_) rfl (by kernel_rfl) (by kernel_rfl) (by kernel_rfl) (fun _ _ _ h => h) (Or.inl ⟨by rfl, ?_⟩) (by assumption) ?_
      rotate_left
      · (intro w hSw; (try dsimp only at hSw); go_simp; try with_reducible rfl)
      try simp only [Act.put, List.setIfInBounds_toArray, List.set_cons_zero, List.set_cons_succ]
      refine wpAnyH_take (i := 1) (v := ?_) rfl (by kernel_rfl) (by kernel_rfl) (by kernel_rfl) (fun _ _ _ h => h) (Or.inl ⟨by rfl, ?_⟩) (by assumption) ?_
      rotate_left
      · (intro w hSw; (try dsimp only at hSw); go_simp; try with_reducible rfl)
      try simp only [Act.put, List.setIfInBounds_toArray, List.set_cons_zero, List.set_cons_succ]
      refine wpAnyH_take (i := 2) (v := ?_) rfl (by kernel_rfl) (by kernel_rfl) (by kernel_rfl) (fun _ _ _ h => h) (Or.inl ⟨by rfl, ?_⟩) (by assumption) ?_
      rotate_left
      · (intro w hSw; (try dsimp only at hSw); go_simp; try with_reducible rfl)
      try simp only [Act.put, List.setIfInBounds_toArray, List.set_cons_zero, List.set_cons_succ]
      refine wpAnyH_take (i := 3) (v := ?_) rfl (by kernel_rfl) (by kernel_rfl) (by kernel_rfl) (fun _ _ _ h => h) (Or.inl ⟨by rfl, ?_⟩) (by assumption) ?_
      rotate_left
      · (intro w hSw; (try dsimp only at hSw); go_simp; try with_reducible rfl)
      try simp only [Act.put, List.setIfInBounds_toArray, List.set_cons_zero, List.set_cons_succ]
      refine wpAnyH_take (i := 5) (v := ?_) rfl (by kernel_rfl) (by kernel_rfl) (by kernel_rfl) (fun _ _ _ h => h) (Or.inl ⟨by rfl, ?_⟩) (by assumption) ?_
      rotate_left
      · (intro w hSw; (try dsimp only at hSw); go_simp; try with_reducible rfl)
      try simp only [Act.put, List.setIfInBounds_toArray, List.set_cons_zero, List.set_cons_succ]
      refine wpAnyH_ready (rs := [4]) (by kernel_rfl) (by simp) ?_
      refine AllReadyH.cons rfl (fun K' hK' => ?_) AllReadyH.nil
      go_simp
      refine hK'.out _ _ (by go_keep) (fun hHeld => ?_)
      clear hK' K'
      try simp only [Act.put, List.setIfInBounds_toArray, List.set_cons_zero, List.set_cons_succ]
      refine wpAnyH_ready (rs := [6]) (by kernel_rfl) (by simp) ?_
      refine AllReadyH.cons rfl (fun K' hK' => ?_) AllReadyH.nil
      go_simp
      refine HDL.out.mono ?_
      rintro e w7 ⟨rfl, ho7, ht7⟩
      have hf7 : Fr 0 [9] wr w7 := (Fr.of_nil [9] (Tch.refl [] wr).drew (Nat.zero_le _)).trans (Fr.of_tch ht7 (Nat.zero_le _) (fun _ _ => Nat.zero_le _) (fun b hb C t hC => by
        simp at hb
        subst hb
        obtain ⟨C', hC'⟩ := HRB.out
        have hC2 : wr.heap[b]? = some (.cells C t (0, 0)) := hC
        rw [hC'] at hC2
        simp at hC2
        rw [← hC2.2]; decide))
      have hq7 : Qb w7 qb Q.c (Q.next : Int) V.m (.slice (some ⟨gr0, 0, none⟩) Q.rs.length cr) V.d V.a := hf7.keep _ _ _ (by rw [← hvr]; exact HQR.out.blk) (by decide)
      have s0 : w7.cell? ⟨g0, 0, none⟩ = some (.pointer (some ⟨qb, 0, none⟩)) := cell_of_one (hf7.keep _ _ _ HCP.out.hgq (by decide))
      have s1 : w7.cell? ⟨gc, 0, none⟩ = some (.int .i64 (cnt : Int)) := cell_of_one (hf7.keep _ _ _ HCP.out.hgc (by decide))
      have s8 : w7.cell? ⟨qb, 8, none⟩ = some (.slice (some ⟨gr0, 0, none⟩) Q.rs.length cr) := cell_qC hq7 8 _ rfl
      have z8 := hq7.fz 8
      have H7 : Hid (Fr 0 [9] wr w7 ∧ Qb w7 qb Q.c (Q.next : Int) V.m (.slice (some ⟨gr0, 0, none⟩) Q.rs.length cr) V.d V.a ∧ w7.ownsRow 0 9 1 (.slice (some ⟨gr0, 0, none⟩) (Q.rs.length - cnt) cr) (Q.rs.length - cnt) ((Q.rs.drop cnt).map Value.string) ∧ Tch [gr0] wr w7) := ⟨hf7, hq7, ho7, ((Tch.refl [gr0] wr).drew).trans ht7 (fun _ h _ => h)⟩
      clear ho7 ht7 hf7 hq7
      go_wp2_with fail
      refine hK'.out _ _ (by go_keep) (fun hHeld => ?_)
      clear hK' K'
      try simp only [Act.put, List.setIfInBounds_toArray, List.set_cons_zero, List.set_cons_succ]
      refine wpAnyH_take (i := 7) (v := ?_) rfl (by kernel_rfl) (by kernel_rfl) (by kernel_rfl) (fun _ _ _ h => h) (Or.inl ⟨by rfl, ?_⟩) (by assumption) ?_
      rotate_left
      · (intro w hSw; (try dsimp only at hSw); go_simp; try with_reducible rfl)
      try simp only [Act.put, List.setIfInBounds_toArray, List.set_cons_zero, List.set_cons_succ]
      refine wpAnyH_take (i := 8) (v := ?_) rfl (by kernel_rfl) (by kernel_rfl) (by kernel_rfl) (fun _ _ _ h => h) (Or.inl ⟨by rfl, ?_⟩) (by assumption) ?_
      rotate_left
      · (intro w hSw; (try dsimp only at hSw); go_simp; try with_reducible rfl)
      try simp only [Act.put, List.setIfInBounds_toArray, List.set_cons_zero, List.set_cons_succ]
      refine wpAnyH_ready (rs := [9]) (by kernel_rfl) (by simp) ?_
      refine AllReadyH.cons rfl (fun K' hK' => ?_) AllReadyH.nil
      go_simp
      have co : ∀ b o, b ≠ qb → (w7.setCell ⟨qb, 8, none⟩ (.slice (some ⟨gr0, 0, none⟩) (Q.rs.length - cnt) cr)).cell? ⟨b, o, none⟩ = w7.cell? ⟨b, o, none⟩ := fun b o hne => World.cell?_of_block (a := ⟨b, o, none⟩) (heap_setCell_other _ _ _ _ (show b ≠ qb from hne))
      refine hK'.out _ _ ⟨(co _ _ y0).trans s0, (co _ _ y1).trans s1⟩ (fun hHeld => ?_)
      clear hK' K'
      try simp only [Act.put, List.setIfInBounds_toArray, List.set_cons_zero, List.set_cons_succ]
      refine wpAnyH_done (by kernel_rfl) ?_ _
      refine NoPanic.normal ?_
      have H8 : Hid (QR (w7.setCell ⟨qb, 8, none⟩ (.slice (some ⟨gr0, 0, none⟩) (Q.rs.length - cnt) cr)) qb ⟨V.m, .slice (some ⟨gr0, 0, none⟩) (Q.rs.length - cnt) cr, V.d, V.a⟩ { Q with ms := MS, rs := Q.rs.drop cnt } ∧ Cap (w7.setCell ⟨qb, 8, none⟩ (.slice (some ⟨gr0, 0, none⟩) (Q.rs.length - cnt) cr)) qb CC cnt g0 gc ga base til (hdsL Q cnt) av ans ∧ Tch (qbl qb V) w (w7.setCell ⟨qb, 8, none⟩ (.slice (some ⟨gr0, 0, none⟩) (Q.rs.length - cnt) cr))) := by
        have hq7 := H7.out.2.1
        have t8 : Tch [qb] w7 (w7.setCell ⟨qb, 8, none⟩ (.slice (some ⟨gr0, 0, none⟩) (Q.rs.length - cnt) cr)) := (Tch.refl _ _).setCell (fun _ => by simp) _
        have f8 : Fr 0 [191] w7 (w7.setCell ⟨qb, 8, none⟩ (.slice (some ⟨gr0, 0, none⟩) (Q.rs.length - cnt) cr)) := Fr.one t8 (Nat.zero_le _) (Nat.zero_le _) hq7 (by decide)
        have h0 := HQR.out
        refine ⟨⟨hq7.set8 _, f8.own (H7.out.1.own h0.m (by decide)) (by decide), ?_, f8.own (H7.out.1.own h0.d (by decide)) (by decide), f8.own (H7.out.1.own h0.a (by decide)) (by decide)⟩, (HCP.out.keep H7.out.1 (by decide)).keep f8 (by decide), ?_⟩
        · have h5 := f8.own H7.out.2.2.1 (by decide)
          have e5 : (Q.rs.drop cnt).length = Q.rs.length - cnt := by simp
          show World.ownsRow _ 0 9 1 _ (Q.rs.drop cnt).length ((Q.rs.drop cnt).map Value.string)
          rw [e5]
          exact h5
        · refine (((HTC.out.sub (S' := qbl qb V) (fun x hx _ => ?_)).trans H7.out.2.2.2 (fun x hx _ => ?_))).trans t8 (fun x hx _ => ?_)
          · simp at hx; subst hx; exact mem_qbl.2 (.inr (.inl (by rw [hvm]; rfl)))
          · simp at hx; subst hx; exact mem_qbl.2 (.inr (.inr (.inl (by rw [hvr]; rfl))))
          · simp at hx; exact mem_qbl.2 (.inl hx)
      clear co s0 s1 s8 z8 e0 ec e8 HDL HRB H7
      generalize hw8 : w7.setCell ⟨qb, 8, none⟩ (.slice (some ⟨gr0, 0, none⟩) (Q.rs.length - cnt) cr) = w8 at *
      have r0 : w8.cell? ⟨g0, 0, none⟩ = some (.pointer (some ⟨qb, 0, none⟩)) := cell_of_one H8.out.2.1.hgq
      have r1 : w8.cell? ⟨g0 + 1, 12, none⟩ = some (.string att) := cell_qC H8.out.2.1.hgr 12 _ hatt
      have r2 : w8.cell? ⟨ga + 1, 0, none⟩ = some (.int .i64 til) := cell_of_one H8.out.2.1.hgu
      have r3 : w8.cell? ⟨ga, 0, none⟩ = some av := cell_of_one H8.out.2.1.hga
      have hstr : (convert 74 9 av).run Tryz.prog w8 = .ok (.string ⟨ans.toArray⟩) w8 := OwnB.str H8.out.2.1.own han
      have HRM : Hid (Calls Tryz.prog 215 #[.pointer (some ⟨qb, 0, none⟩), .agg #[.string att, .int .i64 til, .string ⟨ans.toArray⟩]] w8 fun e w' => e = .returned (.tuple #[]) ∧ QL w8 w' qb ⟨V.m, .slice (some ⟨gr0, 0, none⟩) (Q.rs.length - cnt) cr, V.d, V.a⟩ (remQ { Q with ms := MS, rs := Q.rs.drop cnt } ⟨att, til, ⟨ans.toArray⟩⟩)) := remember_any _ _ ⟨att, til, ⟨ans.toArray⟩⟩ qb w8 H8.out.1 hna
      clear hw8
      go_wp2_with fail
      refine HRM.out.mono ?_
      rintro e w9 ⟨rfl, V9, hq9, ht9, hn9⟩
      have HF : Hid (QL w w9 qb V (recvQ Q att cnt til ans)) := by
        have hsub : ∀ x, x ∈ qbl qb ⟨V.m, .slice (some ⟨gr0, 0, none⟩) (Q.rs.length - cnt) cr, V.d, V.a⟩ → x ∈ qbl qb V := fun x hx => by
          rcases mem_qbl.1 hx with e | e | e | e | e
          · exact mem_qbl.2 (.inl e)
          · exact mem_qbl.2 (.inr (.inl e))
          · exact mem_qbl.2 (.inr (.inr (.inl (by rw [hvr]; exact e))))
          · exact mem_qbl.2 (.inr (.inr (.inr (.inl e))))
          · exact mem_qbl.2 (.inr (.inr (.inr (.inr e))))
        refine ⟨V9, ?_, H8.out.2.2.trans ht9 (fun x hx _ => hsub x hx), fun b hb => ?_⟩
        · unfold recvQ
          rw [HMS.out]
          exact hq9
        · rcases hn9 b hb with h1 | h1
          · exact .inl (hsub b h1)
          · exact .inr (Nat.le_trans H8.out.2.2.size h1)
      clear hq9 ht9 hn9
      go_wp2_with fail
      go_end0
      exact ⟨rfl, HF.out⟩
end Go.Proofs.YtbdobaapadlcjaaGreatDoor
