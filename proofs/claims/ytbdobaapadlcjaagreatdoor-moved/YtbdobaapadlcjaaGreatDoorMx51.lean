/-
  Moved, the pure part: a queue of one group whose first message alone may fly; two queues.
-/
import Derived.Test.YtbdobaapadlcjaaGreatDoorMx50
namespace Go.Proofs.YtbdobaapadlcjaaGreatDoor
open Go.RowKit
set_option linter.unusedVariables false
set_option linter.unusedSimpArgs false

abbrev gS : ByteArray := ⟨#[103]⟩
/-- Messages of the one group from the number k + 1 on. -/
def mkF (k : Nat) : List ByteArray → List Ms
  | [] => []
  | t :: r => ⟨((k + 1 : Nat) : Int), gS, t, 0, 0⟩ :: mkF (k + 1) r
def hdF (k : Nat) (rc tl : Int) : List ByteArray → List Ms
  | [] => []
  | t :: r => ⟨((k + 1 : Nat) : Int), gS, t, rc, tl⟩ :: mkF (k + 1) r
def rsF (tl : Int) : List ByteArray → List ByteArray
  | [] => []
  | _ :: _ => if tl = 0 then [gS] else []
def gQ (c : Wp.Rq) (nx k : Nat) (ts : List ByteArray) (rc tl : Int) : QM := ⟨c, nx, hdF k rc tl ts, rsF tl ts, [], []⟩
theorem mkF_len (k : Nat) (ts : List ByteArray) : (mkF k ts).length = ts.length := by
  induction ts generalizing k with
  | nil => rfl
  | cons t r ih => simp [mkF, ih]
theorem hdF_zero (k : Nat) (ts : List ByteArray) : hdF k 0 0 ts = mkF k ts := by cases ts <;> rfl
theorem hdF_len (k : Nat) (rc tl : Int) (ts : List ByteArray) : (hdF k rc tl ts).length = ts.length := by cases ts <;> simp [hdF, mkF_len]
theorem mkF_snoc (k : Nat) (ts : List ByteArray) (t : ByteArray) : mkF k (ts ++ [t]) = mkF k ts ++ [⟨((k + ts.length + 1 : Nat) : Int), gS, t, 0, 0⟩] := by
  induction ts generalizing k with
  | nil => simp [mkF]
  | cons x r ih =>
    simp only [List.cons_append, mkF, ih, List.length_cons]
    congr 4
    omega
theorem mkF_grp (k : Nat) (ts : List ByteArray) : ∀ m ∈ mkF k ts, m.grp = gS ∧ m.til = 0 := by
  induction ts generalizing k with
  | nil => simp [mkF]
  | cons t r ih =>
    intro m hm
    rcases List.mem_cons.1 hm with rfl | hm
    · exact ⟨rfl, rfl⟩
    · exact ih (k + 1) m hm
theorem hdF_grp (k : Nat) (rc tl : Int) (ts : List ByteArray) : ∀ m ∈ hdF k rc tl ts, m.grp = gS := by
  cases ts with
  | nil => simp [hdF]
  | cons t r =>
    intro m hm
    rcases List.mem_cons.1 hm with rfl | hm
    · rfl
    · exact (mkF_grp _ _ m hm).1
theorem isG_all {l : List Ms} (h : ∀ m ∈ l, m.grp = gS) : l.filter (isG gS) = l ∧ l.filter (fun x => !isG gS x) = [] := by
  constructor
  · rw [List.filter_eq_self]
    exact fun m hm => (isG_iff gS m).2 (h m hm)
  · rw [List.filter_eq_nil_iff]
    intro m hm
    rw [(isG_iff gS m).2 (h m hm)]
    simp
theorem idx_hd (k : Nat) (rc tl : Int) (ts : List ByteArray) : idxL (isG gS) (hdF k rc tl ts) = if ts = [] then -1 else 0 := by
  cases ts with
  | nil => rfl
  | cons t r =>
    rw [if_neg (by simp)]
    unfold hdF idxL
    rw [if_pos ((isG_iff gS _).2 rfl)]
theorem find_hd (k : Nat) (rc tl : Int) (t : ByteArray) (r : List ByteArray) : (hdF k rc tl (t :: r)).find? (isN ((k + 1 : Nat) : Int)) = some ⟨((k + 1 : Nat) : Int), gS, t, rc, tl⟩ := by
  unfold hdF
  rw [List.find?_cons, (isN_iff _ _).2 rfl]
theorem idxN_hd (k : Nat) (rc tl : Int) (t : ByteArray) (r : List ByteArray) : idxL (isN ((k + 1 : Nat) : Int)) (hdF k rc tl (t :: r)) = 0 := by
  unfold hdF idxL
  rw [if_pos ((isN_iff _ _).2 rfl)]
/-- One is put behind them. -/
theorem put_gQ (c : Wp.Rq) (ts : List ByteArray) (t : ByteArray) : putQ (gQ c (ts.length + 1) 0 ts 0 0) gS t = gQ c ((ts ++ [t]).length + 1) 0 (ts ++ [t]) 0 0 := by
  have e1 : hdF 0 0 0 (ts ++ [t]) = hdF 0 0 0 ts ++ [⟨((ts.length + 1 : Nat) : Int), gS, t, 0, 0⟩] := by rw [hdF_zero, hdF_zero, mkF_snoc, Nat.zero_add]
  have e2 : rsF 0 (ts ++ [t]) = if idxL (isG gS) (hdF 0 0 0 ts) < 0 then rsF 0 ts ++ [gS] else rsF 0 ts := by
    rw [idx_hd]
    cases ts with
    | nil => rfl
    | cons x r => rfl
  unfold putQ gQ
  simp only [e1, e2, List.length_append, List.length_singleton]
theorem send_gQ (c : Wp.Rq) (hw : c.win = 0) (ts : List ByteArray) (r : Wp.Rq) (hg : r.grp = gS) (now : Int) : sendQ (gQ c (ts.length + 1) 0 ts 0 0) r now = gQ c ((ts ++ [r.bod]).length + 1) 0 (ts ++ [r.bod]) 0 0 := by
  rw [← put_gQ]
  unfold sendQ putQ gQ
  simp [hg, hw]
theorem putL_gQ (c : Wp.Rq) : ∀ (l : List Ms) (ts : List ByteArray), (∀ m ∈ l, m.grp = gS) → putL (gQ c (ts.length + 1) 0 ts 0 0) l = gQ c ((ts ++ l.map Ms.bod).length + 1) 0 (ts ++ l.map Ms.bod) 0 0
  | [], ts, _ => by simp [putL]
  | m :: l, ts, h => by
    have e : putL (gQ c (ts.length + 1) 0 ts 0 0) (m :: l) = putL (putQ (gQ c (ts.length + 1) 0 ts 0 0) m.grp m.bod) l := rfl
    rw [e, h m List.mem_cons_self, put_gQ, putL_gQ c l _ (fun x hx => h x (List.mem_cons_of_mem _ hx))]
    simp
theorem mkF_bod (k : Nat) (ts : List ByteArray) : (mkF k ts).map Ms.bod = ts := by
  induction ts generalizing k with
  | nil => rfl
  | cons t r ih => simp [mkF, ih]
theorem hdF_bod (k : Nat) (rc tl : Int) (ts : List ByteArray) : (hdF k rc tl ts).map Ms.bod = ts := by cases ts <;> simp [hdF, mkF_bod]
/-- The first is given out. -/
theorem recv_gQ (c : Wp.Rq) (nx k rc : Nat) (hrc : rc < 1000) (t : ByteArray) (r : List ByteArray) (til : Int) (ht : til ≠ 0) (ans : List UInt8) : recvQ (gQ c nx k (t :: r) rc 0) ⟨#[]⟩ 1 til ans = gQ c nx k (t :: r) ((rc + 1 : Nat) : Int) til := by
  rw [recvQ_none]
  have e0 : rsF 0 (t :: r) = [gS] := rfl
  have e1 : hdsL (gQ c nx k (t :: r) rc 0) 1 = [0] := by
    unfold hdsL gQ
    rw [e0]
    show [idxL (isG gS) (hdF k rc 0 (t :: r))] = [0]
    rw [idx_hd, if_neg (by simp)]
  rw [e1]
  have e2 : oft rc = rc + 1 := by unfold oft; rw [if_pos (by omega)]
  have e3 : flyAll til (hdF k rc 0 (t :: r)) [0] = hdF k ((rc + 1 : Nat) : Int) til (t :: r) := by
    unfold flyAll flyAt hdF flyM
    simp [e2]
  have e4 : rsF til (t :: r) = [] := by unfold rsF; rw [if_neg ht]
  unfold gQ
  simp only [e3, e4, e0]
  rfl
theorem ent_gQ (c : Wp.Rq) (nx k rc : Nat) (hrc : rc < 1000) (t : ByteArray) (r : List ByteArray) : entL (gQ c nx k (t :: r) rc 0) 1 = [⟨⟨(hanB c.q (k + 1) (rc + 1)).toArray⟩, gS, t⟩] := by
  have e2 : oft rc = rc + 1 := by unfold oft; rw [if_pos (by omega)]
  unfold entL
  show [entG (gQ c nx k (t :: r) rc 0) gS] = _
  unfold entG
  have e1 : (gQ c nx k (t :: r) rc 0).ms[(idxL (isG gS) (gQ c nx k (t :: r) rc 0).ms).toNat]? = some ⟨((k + 1 : Nat) : Int), gS, t, rc, 0⟩ := by
    show (hdF k rc 0 (t :: r))[(idxL (isG gS) (hdF k rc 0 (t :: r))).toNat]? = _
    rw [idx_hd, if_neg (by simp)]
    rfl
  rw [e1]
  simp [e2, gQ]
/-- The first is let go. -/
theorem drop_gQ (c : Wp.Rq) (nx k : Nat) (rc tl : Int) (htl : tl ≠ 0) (t : ByteArray) (r : List ByteArray) : dropQ (gQ c nx k (t :: r) rc tl) ((k + 1 : Nat) : Int) = gQ c nx (k + 1) r 0 0 := by
  unfold dropQ
  have e1 : (gQ c nx k (t :: r) rc tl).ms.find? (isN ((k + 1 : Nat) : Int)) = some ⟨((k + 1 : Nat) : Int), gS, t, rc, tl⟩ := find_hd k rc tl t r
  rw [e1]
  have e2 : idxL (isN ((k + 1 : Nat) : Int)) (gQ c nx k (t :: r) rc tl).ms = 0 := idxN_hd k rc tl t r
  simp only [e2]
  have e3 : (gQ c nx k (t :: r) rc tl).ms.eraseIdx (0 : Int).toNat = hdF (k + 1) 0 0 r := by rw [hdF_zero]; rfl
  rw [e3, idx_hd]
  have e4 : rsF tl (t :: r) = [] := by unfold rsF; rw [if_neg htl]
  have e5 : (if (if r = [] then (-1 : Int) else 0) < 0 then (gQ c nx k (t :: r) rc tl).rs else (gQ c nx k (t :: r) rc tl).rs ++ [gS]) = rsF 0 r := by
    show (if (if r = [] then (-1 : Int) else 0) < 0 then rsF tl (t :: r) else rsF tl (t :: r) ++ [gS]) = rsF 0 r
    rw [e4]
    cases r with
    | nil => rfl
    | cons x r => rfl
  rw [e5]
  rfl
theorem til_gQ (c : Wp.Rq) (nx k : Nat) (rc tl : Int) (t : ByteArray) (r : List ByteArray) : tilQ (gQ c nx k (t :: r) rc tl) ((k + 1 : Nat) : Int) 0 = { gQ c nx k (t :: r) rc tl with ms := hdF k rc 0 (t :: r) } := by
  unfold tilQ
  have e1 : (gQ c nx k (t :: r) rc tl).ms.find? (isN ((k + 1 : Nat) : Int)) = some ⟨((k + 1 : Nat) : Int), gS, t, rc, tl⟩ := find_hd k rc tl t r
  rw [e1]
  have e2 : idxL (isN ((k + 1 : Nat) : Int)) (gQ c nx k (t :: r) rc tl).ms = 0 := idxN_hd k rc tl t r
  simp only [e2]
  rfl
theorem ready_gQ (c : Wp.Rq) (nx k : Nat) (rc tl : Int) (htl : tl ≠ 0) (t : ByteArray) (r : List ByteArray) : readyQ (tilQ (gQ c nx k (t :: r) rc tl) ((k + 1 : Nat) : Int) 0) gS = gQ c nx k (t :: r) rc 0 := by
  rw [til_gQ]
  have e4 : rsF tl (t :: r) = [] := by unfold rsF; rw [if_neg htl]
  unfold readyQ gQ
  simp only [e4]
  rfl

/-- Two queues. -/
def c2 (A Bq : QM) : Nat → Option QM := setC (setC (fun _ => none) 0 (some A)) 1 (some Bq)
theorem c2_0 (A Bq : QM) : c2 A Bq 0 = some A := rfl
theorem c2_1 (A Bq : QM) : c2 A Bq 1 = some Bq := rfl
theorem c2_no (A Bq : QM) (i : Nat) (h : 2 ≤ i) : c2 A Bq i = none := by
  unfold c2
  rw [setC_ne _ _ (by omega), setC_ne _ _ (by omega)]
theorem set_c2_0 (A Bq A' : QM) : setC (c2 A Bq) 0 (some A') = c2 A' Bq := by
  funext i
  unfold c2 setC
  by_cases e : i = 0
  · subst e; rfl
  · simp [e]
theorem set_c2_1 (A Bq B' : QM) : setC (c2 A Bq) 1 (some B') = c2 A B' := by
  funext i
  unfold c2 setC
  by_cases e : i = 1
  · subst e; rfl
  · simp [e]
theorem forg_gQ (c : Wp.Rq) (nx k : Nat) (ts : List ByteArray) (rc tl now : Int) : forgQ now (gQ c nx k ts rc tl) = gQ c nx k ts rc tl := rfl
theorem fgt_c2 (now : Int) (A Bq : QM) (ha : forgQ now A = A) (hb : forgQ now Bq = Bq) : fgtTo now 8 (c2 A Bq) = c2 A Bq := by
  funext i
  unfold fgtTo
  by_cases h0 : i = 0
  · subst h0; rw [if_pos (by omega), c2_0]; show some (forgQ now A) = _; rw [ha]
  · by_cases h1 : i = 1
    · subst h1; rw [if_pos (by omega), c2_1]; show some (forgQ now Bq) = _; rw [hb]
    · rw [c2_no _ _ _ (by omega)]
      split <;> rfl
theorem bring_none' {now : Int} {c : Nat → Option QM} {i : Nat} (h : c i = none) : bringC now c i = c := by unfold bringC; rw [h]
theorem bring_nodue {now : Int} {c : Nat → Option QM} {i : Nat} {Q : QM} (h : c i = some Q) (hd : dueN now Q.ms = []) : bringC now c i = c := by unfold bringC; rw [h]; simp [hd]
theorem time_c2 (now : Int) (A Bq A' B' : QM) (ha : forgQ now A = A) (hb : forgQ now Bq = Bq) (h0 : bringC now (c2 A Bq) 0 = c2 A' B') (h1 : dueN now B'.ms = []) : timeC now (c2 A Bq) = c2 A' B' := by
  unfold timeC
  rw [fgt_c2 now A Bq ha hb]
  show bringC now (bringC now (bringC now (bringC now (bringC now (bringC now (bringC now (bringC now (c2 A Bq) 0) 1) 2) 3) 4) 5) 6) 7 = _
  rw [h0, bring_nodue (c2_1 _ _) h1]
  rw [bring_none' (c2_no _ _ 2 (by omega)), bring_none' (c2_no _ _ 3 (by omega)), bring_none' (c2_no _ _ 4 (by omega)), bring_none' (c2_no _ _ 5 (by omega)), bring_none' (c2_no _ _ 6 (by omega)), bring_none' (c2_no _ _ 7 (by omega))]
theorem due_mkF (now : Int) (k : Nat) (ts : List ByteArray) : dueL now (mkF k ts) = [] := by
  unfold dueL
  rw [List.filter_eq_nil_iff]
  intro m hm
  rw [(mkF_grp k ts m hm).2]
  simp
theorem dueN_nil {now : Int} {l : List Ms} (h : dueL now l = []) : dueN now l = [] := by
  unfold dueN dueS
  rw [h]
  simp
theorem dueN_zero (now : Int) (c : Wp.Rq) (nx k : Nat) (ts : List ByteArray) (rc : Int) : dueN now (gQ c nx k ts rc 0).ms = [] := by
  refine dueN_nil ?_
  show dueL now (hdF k rc 0 ts) = []
  cases ts with
  | nil => rfl
  | cons t r =>
    have := due_mkF now (k + 1) r
    unfold dueL hdF
    unfold dueL at this
    rw [List.filter_cons, this]
    simp
theorem dueN_one (now : Int) (c : Wp.Rq) (nx k : Nat) (t : ByteArray) (r : List ByteArray) (rc tl : Int) (h : 0 < tl ∧ tl ≤ now) : dueN now (gQ c nx k (t :: r) rc tl).ms = [((k + 1 : Nat) : Int)] := by
  have e : dueL now (hdF k rc tl (t :: r)) = [⟨((k + 1 : Nat) : Int), gS, t, rc, tl⟩] := by
    have := due_mkF now (k + 1) r
    unfold dueL hdF
    unfold dueL at this
    rw [List.filter_cons, this]
    simp [h]
  show (List.mergeSort (dueL now (hdF k rc tl (t :: r))) leMs).map Ms.num = _
  rw [e]
  simp
/-- The time goes on by what the first was given for: it comes back, or all move. -/
theorem time_back (now : Int) (ca cb : Wp.Rq) (hd : ca.d = 98) (nb : Nat) (t : ByteArray) (r : List ByteArray) (rc tl : Int) (h : 0 < tl ∧ tl ≤ now) :
    timeC now (c2 (gQ ca ((t :: r).length + 1) 0 (t :: r) rc tl) (gQ cb 1 0 [] 0 0)) =
      if upQ ca rc = true ∧ (((t :: r).length : Nat) : Int) ≤ cb.quo ∧ (t :: r).length ≤ 200 then c2 (gQ ca ((t :: r).length + 1) 0 [] 0 0) (gQ cb ((t :: r).length + 1) 0 (t :: r) 0 0)
      else c2 (gQ ca ((t :: r).length + 1) 0 (t :: r) rc 0) (gQ cb 1 0 [] 0 0) := by
  have hall := isG_all (hdF_grp 0 rc 0 (t :: r))
  have hdj : deadJ ca = some 1 := by unfold deadJ; rw [hd]; rfl
  have hbr : bringC now (c2 (gQ ca ((t :: r).length + 1) 0 (t :: r) rc tl) (gQ cb 1 0 [] 0 0)) 0 = backC (c2 (gQ ca ((t :: r).length + 1) 0 (t :: r) rc tl) (gQ cb 1 0 [] 0 0)) 0 ((0 + 1 : Nat) : Int) := by
    unfold bringC
    rw [c2_0]
    show List.foldl _ _ (dueN now (gQ ca ((t :: r).length + 1) 0 (t :: r) rc tl).ms) = _
    rw [dueN_one now ca _ 0 t r rc tl h]
    rfl
  have hfind : (gQ ca ((t :: r).length + 1) 0 (t :: r) rc tl).ms.find? (isN ((0 + 1 : Nat) : Int)) = some ⟨((0 + 1 : Nat) : Int), gS, t, rc, tl⟩ := find_hd 0 rc tl t r
  have hdc : deadC (c2 (gQ ca ((t :: r).length + 1) 0 (t :: r) rc tl) (gQ cb 1 0 [] 0 0)) ca = some (1, gQ cb 1 0 [] 0 0) := by unfold deadC; rw [hdj]; rfl
  have hcnt : cntG gS (tilQ (gQ ca ((t :: r).length + 1) 0 (t :: r) rc tl) ((0 + 1 : Nat) : Int) 0).ms = (t :: r).length := by
    rw [til_gQ]
    unfold cntG
    show ((hdF 0 rc 0 (t :: r)).filter (isG gS)).length = _
    rw [hall.1, hdF_len]
  have hroom : roomQ (gQ cb 1 0 [] 0 0) (t :: r).length = true ↔ (((t :: r).length : Nat) : Int) ≤ cb.quo ∧ (t :: r).length ≤ 200 := by
    unfold roomQ
    rw [Bool.and_eq_true, decide_eq_true_eq, decide_eq_true_eq]
    show ((0 + (t :: r).length : Nat) : Int) ≤ cb.quo ∧ 1 + (t :: r).length ≤ 201 ↔ _
    rw [Nat.zero_add]
    constructor
    · rintro ⟨h1, h2⟩; exact ⟨h1, by omega⟩
    · rintro ⟨h1, h2⟩; exact ⟨h1, by omega⟩
  have hback : backC (c2 (gQ ca ((t :: r).length + 1) 0 (t :: r) rc tl) (gQ cb 1 0 [] 0 0)) 0 ((0 + 1 : Nat) : Int) =
      if upQ ca rc = true ∧ roomQ (gQ cb 1 0 [] 0 0) (t :: r).length = true then setC (setC (c2 (gQ ca ((t :: r).length + 1) 0 (t :: r) rc tl) (gQ cb 1 0 [] 0 0)) 0 (some { tilQ (gQ ca ((t :: r).length + 1) 0 (t :: r) rc tl) ((0 + 1 : Nat) : Int) 0 with ms := (tilQ (gQ ca ((t :: r).length + 1) 0 (t :: r) rc tl) ((0 + 1 : Nat) : Int) 0).ms.filter (fun x => !isG gS x) })) 1 (some (putL (gQ cb 1 0 [] 0 0) ((tilQ (gQ ca ((t :: r).length + 1) 0 (t :: r) rc tl) ((0 + 1 : Nat) : Int) 0).ms.filter (isG gS))))
      else setC (c2 (gQ ca ((t :: r).length + 1) 0 (t :: r) rc tl) (gQ cb 1 0 [] 0 0)) 0 (some (readyQ (tilQ (gQ ca ((t :: r).length + 1) 0 (t :: r) rc tl) ((0 + 1 : Nat) : Int) 0) gS)) := by
    unfold backC
    rw [c2_0]
    simp only [hfind]
    have e : (gQ ca ((t :: r).length + 1) 0 (t :: r) rc tl).c = ca := rfl
    simp only [e, hdc, hcnt]
  by_cases hc : upQ ca rc = true ∧ (((t :: r).length : Nat) : Int) ≤ cb.quo ∧ (t :: r).length ≤ 200
  · rw [if_pos hc]
    refine time_c2 now _ _ _ _ (forg_gQ _ _ _ _ _ _ _) (forg_gQ _ _ _ _ _ _ _) ?_ (dueN_zero _ _ _ _ _ _)
    rw [hbr, hback, if_pos ⟨hc.1, hroom.2 hc.2⟩, set_c2_0, set_c2_1]
    have e4 : rsF tl (t :: r) = [] := by unfold rsF; rw [if_neg (by omega)]
    congr 1
    · rw [til_gQ]
      simp only [hall.2]
      unfold gQ
      simp only [e4]
      rfl
    · rw [til_gQ]
      show putL (gQ cb (([] : List ByteArray).length + 1) 0 [] 0 0) ((hdF 0 rc 0 (t :: r)).filter (isG gS)) = _
      rw [hall.1, putL_gQ cb _ [] (hdF_grp 0 rc 0 (t :: r)), hdF_bod]
      rfl
  · rw [if_neg hc]
    refine time_c2 now _ _ _ _ (forg_gQ _ _ _ _ _ _ _) (forg_gQ _ _ _ _ _ _ _) ?_ (dueN_zero _ _ _ _ _ _)
    rw [hbr, hback, if_neg (fun hh => hc ⟨hh.1, hroom.1 hh.2⟩), set_c2_0, ready_gQ _ _ _ _ _ (by omega)]
theorem time_still (now : Int) (ca cb : Wp.Rq) (na ka nb kb : Nat) (ta tb : List ByteArray) (ra rb : Int) : timeC now (c2 (gQ ca na ka ta ra 0) (gQ cb nb kb tb rb 0)) = c2 (gQ ca na ka ta ra 0) (gQ cb nb kb tb rb 0) :=
  time_c2 now _ _ _ _ (forg_gQ _ _ _ _ _ _ _) (forg_gQ _ _ _ _ _ _ _) (bring_nodue (c2_0 _ _) (dueN_zero _ _ _ _ _ _)) (dueN_zero _ _ _ _ _ _)
end Go.Proofs.YtbdobaapadlcjaaGreatDoor
