/-
  Moved: the pure part, the requests, the walk.
-/
import Derived.Test.YtbdobaapadlcjaaGreatDoorMx50
import Derived.BigQuiet
import Derived.Laws.Concat
import Derived.Deep.CutBlock
namespace Go.Proofs.YtbdobaapadlcjaaGreatDoor
open Go.RowKit
set_option linter.unusedVariables false
set_option linter.unusedSimpArgs false

abbrev gS : ByteArray := ⟨#[103]⟩
/-- Messages of the one group from the number k + 1 on. -/
def mkF (k : Nat) : List ByteArray → List Ms
  | [] => []
  | t :: r => ⟨((k + 1 : Nat) : Int), gS, t, 0, 0⟩ :: mkF (k + 1) r
def hdF (k : Nat) (rc tl : Int) : List ByteArray → List Ms
  | [] => []
  | t :: r => ⟨((k + 1 : Nat) : Int), gS, t, rc, tl⟩ :: mkF (k + 1) r
def rsF (tl : Int) : List ByteArray → List ByteArray
  | [] => []
  | _ :: _ => if tl = 0 then [gS] else []
def gQ (c : Wp.Rq) (nx k : Nat) (ts : List ByteArray) (rc tl : Int) : QM := ⟨c, nx, hdF k rc tl ts, rsF tl ts, [], []⟩
theorem mkF_len (k : Nat) (ts : List ByteArray) : (mkF k ts).length = ts.length := by
  induction ts generalizing k with
  | nil => rfl
  | cons t r ih => simp [mkF, ih]
theorem hdF_zero (k : Nat) (ts : List ByteArray) : hdF k 0 0 ts = mkF k ts := by cases ts <;> rfl
theorem hdF_len (k : Nat) (rc tl : Int) (ts : List ByteArray) : (hdF k rc tl ts).length = ts.length := by cases ts <;> simp [hdF, mkF_len]
theorem mkF_snoc (k : Nat) (ts : List ByteArray) (t : ByteArray) : mkF k (ts ++ [t]) = mkF k ts ++ [⟨((k + ts.length + 1 : Nat) : Int), gS, t, 0, 0⟩] := by
  induction ts generalizing k with
  | nil => simp [mkF]
  | cons x r ih =>
    simp only [List.cons_append, mkF, ih, List.length_cons]
    congr 4
    omega
theorem mkF_grp (k : Nat) (ts : List ByteArray) : ∀ m ∈ mkF k ts, m.grp = gS ∧ m.til = 0 := by
  induction ts generalizing k with
  | nil => simp [mkF]
  | cons t r ih =>
    intro m hm
    rcases List.mem_cons.1 hm with rfl | hm
    · exact ⟨rfl, rfl⟩
    · exact ih (k + 1) m hm
theorem hdF_grp (k : Nat) (rc tl : Int) (ts : List ByteArray) : ∀ m ∈ hdF k rc tl ts, m.grp = gS := by
  cases ts with
  | nil => simp [hdF]
  | cons t r =>
    intro m hm
    rcases List.mem_cons.1 hm with rfl | hm
    · rfl
    · exact (mkF_grp _ _ m hm).1
theorem isG_all {l : List Ms} (h : ∀ m ∈ l, m.grp = gS) : l.filter (isG gS) = l ∧ l.filter (fun x => !isG gS x) = [] := by
  constructor
  · rw [List.filter_eq_self]
    exact fun m hm => (isG_iff gS m).2 (h m hm)
  · rw [List.filter_eq_nil_iff]
    intro m hm
    rw [(isG_iff gS m).2 (h m hm)]
    simp
theorem idx_hd (k : Nat) (rc tl : Int) (ts : List ByteArray) : idxL (isG gS) (hdF k rc tl ts) = if ts = [] then -1 else 0 := by
  cases ts with
  | nil => rfl
  | cons t r =>
    rw [if_neg (by simp)]
    unfold hdF idxL
    rw [if_pos ((isG_iff gS _).2 rfl)]
theorem find_hd (k : Nat) (rc tl : Int) (t : ByteArray) (r : List ByteArray) : (hdF k rc tl (t :: r)).find? (isN ((k + 1 : Nat) : Int)) = some ⟨((k + 1 : Nat) : Int), gS, t, rc, tl⟩ := by
  unfold hdF
  rw [List.find?_cons, (isN_iff _ _).2 rfl]
theorem idxN_hd (k : Nat) (rc tl : Int) (t : ByteArray) (r : List ByteArray) : idxL (isN ((k + 1 : Nat) : Int)) (hdF k rc tl (t :: r)) = 0 := by
  unfold hdF idxL
  rw [if_pos ((isN_iff _ _).2 rfl)]
/-- One is put behind them. -/
theorem put_gQ (c : Wp.Rq) (ts : List ByteArray) (t : ByteArray) : putQ (gQ c (ts.length + 1) 0 ts 0 0) gS t = gQ c ((ts ++ [t]).length + 1) 0 (ts ++ [t]) 0 0 := by
  have e1 : hdF 0 0 0 (ts ++ [t]) = hdF 0 0 0 ts ++ [⟨((ts.length + 1 : Nat) : Int), gS, t, 0, 0⟩] := by rw [hdF_zero, hdF_zero, mkF_snoc, Nat.zero_add]
  have e2 : rsF 0 (ts ++ [t]) = if idxL (isG gS) (hdF 0 0 0 ts) < 0 then rsF 0 ts ++ [gS] else rsF 0 ts := by
    rw [idx_hd]
    cases ts with
    | nil => rfl
    | cons x r => rfl
  unfold putQ gQ
  simp only [e1, e2, List.length_append, List.length_singleton]
theorem send_gQ (c : Wp.Rq) (hw : c.win = 0) (ts : List ByteArray) (r : Wp.Rq) (hg : r.grp = gS) (now : Int) : sendQ (gQ c (ts.length + 1) 0 ts 0 0) r now = gQ c ((ts ++ [r.bod]).length + 1) 0 (ts ++ [r.bod]) 0 0 := by
  rw [← put_gQ]
  unfold sendQ putQ gQ
  simp [hg, hw]
theorem putL_gQ (c : Wp.Rq) : ∀ (l : List Ms) (ts : List ByteArray), (∀ m ∈ l, m.grp = gS) → putL (gQ c (ts.length + 1) 0 ts 0 0) l = gQ c ((ts ++ l.map Ms.bod).length + 1) 0 (ts ++ l.map Ms.bod) 0 0
  | [], ts, _ => by simp [putL]
  | m :: l, ts, h => by
    have e : putL (gQ c (ts.length + 1) 0 ts 0 0) (m :: l) = putL (putQ (gQ c (ts.length + 1) 0 ts 0 0) m.grp m.bod) l := rfl
    rw [e, h m List.mem_cons_self, put_gQ, putL_gQ c l _ (fun x hx => h x (List.mem_cons_of_mem _ hx))]
    simp
theorem mkF_bod (k : Nat) (ts : List ByteArray) : (mkF k ts).map Ms.bod = ts := by
  induction ts generalizing k with
  | nil => rfl
  | cons t r ih => simp [mkF, ih]
theorem hdF_bod (k : Nat) (rc tl : Int) (ts : List ByteArray) : (hdF k rc tl ts).map Ms.bod = ts := by cases ts <;> simp [hdF, mkF_bod]
/-- The first is given out. -/
theorem recv_gQ (c : Wp.Rq) (nx k rc : Nat) (hrc : rc < 1000) (t : ByteArray) (r : List ByteArray) (til : Int) (ht : til ≠ 0) (ans : List UInt8) : recvQ (gQ c nx k (t :: r) rc 0) ⟨#[]⟩ 1 til ans = gQ c nx k (t :: r) ((rc + 1 : Nat) : Int) til := by
  rw [recvQ_none]
  have e0 : rsF 0 (t :: r) = [gS] := rfl
  have e1 : hdsL (gQ c nx k (t :: r) rc 0) 1 = [0] := by
    unfold hdsL gQ
    rw [e0]
    show [idxL (isG gS) (hdF k rc 0 (t :: r))] = [0]
    rw [idx_hd, if_neg (by simp)]
  rw [e1]
  have e2 : oft rc = rc + 1 := by unfold oft; rw [if_pos (by omega)]
  have e3 : flyAll til (hdF k rc 0 (t :: r)) [0] = hdF k ((rc + 1 : Nat) : Int) til (t :: r) := by
    unfold flyAll flyAt hdF flyM
    simp [e2]
  have e4 : rsF til (t :: r) = [] := by unfold rsF; rw [if_neg ht]
  unfold gQ
  simp only [e3, e4, e0]
  rfl
theorem ent_gQ (c : Wp.Rq) (nx k rc : Nat) (hrc : rc < 1000) (t : ByteArray) (r : List ByteArray) : entL (gQ c nx k (t :: r) rc 0) 1 = [⟨⟨(hanB c.q (k + 1) (rc + 1)).toArray⟩, gS, t⟩] := by
  have e2 : oft rc = rc + 1 := by unfold oft; rw [if_pos (by omega)]
  unfold entL
  show [entG (gQ c nx k (t :: r) rc 0) gS] = _
  unfold entG
  have e1 : (gQ c nx k (t :: r) rc 0).ms[(idxL (isG gS) (gQ c nx k (t :: r) rc 0).ms).toNat]? = some ⟨((k + 1 : Nat) : Int), gS, t, rc, 0⟩ := by
    show (hdF k rc 0 (t :: r))[(idxL (isG gS) (hdF k rc 0 (t :: r))).toNat]? = _
    rw [idx_hd, if_neg (by simp)]
    rfl
  rw [e1]
  simp [e2, gQ]
/-- The first is let go. -/
theorem drop_gQ (c : Wp.Rq) (nx k : Nat) (rc tl : Int) (htl : tl ≠ 0) (t : ByteArray) (r : List ByteArray) : dropQ (gQ c nx k (t :: r) rc tl) ((k + 1 : Nat) : Int) = gQ c nx (k + 1) r 0 0 := by
  unfold dropQ
  have e1 : (gQ c nx k (t :: r) rc tl).ms.find? (isN ((k + 1 : Nat) : Int)) = some ⟨((k + 1 : Nat) : Int), gS, t, rc, tl⟩ := find_hd k rc tl t r
  rw [e1]
  have e2 : idxL (isN ((k + 1 : Nat) : Int)) (gQ c nx k (t :: r) rc tl).ms = 0 := idxN_hd k rc tl t r
  simp only [e2]
  have e3 : (gQ c nx k (t :: r) rc tl).ms.eraseIdx (0 : Int).toNat = hdF (k + 1) 0 0 r := by rw [hdF_zero]; rfl
  rw [e3, idx_hd]
  have e4 : rsF tl (t :: r) = [] := by unfold rsF; rw [if_neg htl]
  have e5 : (if (if r = [] then (-1 : Int) else 0) < 0 then (gQ c nx k (t :: r) rc tl).rs else (gQ c nx k (t :: r) rc tl).rs ++ [gS]) = rsF 0 r := by
    show (if (if r = [] then (-1 : Int) else 0) < 0 then rsF tl (t :: r) else rsF tl (t :: r) ++ [gS]) = rsF 0 r
    rw [e4]
    cases r with
    | nil => rfl
    | cons x r => rfl
  rw [e5]
  rfl
theorem til_gQ (c : Wp.Rq) (nx k : Nat) (rc tl : Int) (t : ByteArray) (r : List ByteArray) : tilQ (gQ c nx k (t :: r) rc tl) ((k + 1 : Nat) : Int) 0 = { gQ c nx k (t :: r) rc tl with ms := hdF k rc 0 (t :: r) } := by
  unfold tilQ
  have e1 : (gQ c nx k (t :: r) rc tl).ms.find? (isN ((k + 1 : Nat) : Int)) = some ⟨((k + 1 : Nat) : Int), gS, t, rc, tl⟩ := find_hd k rc tl t r
  rw [e1]
  have e2 : idxL (isN ((k + 1 : Nat) : Int)) (gQ c nx k (t :: r) rc tl).ms = 0 := idxN_hd k rc tl t r
  simp only [e2]
  rfl
theorem ready_gQ (c : Wp.Rq) (nx k : Nat) (rc tl : Int) (htl : tl ≠ 0) (t : ByteArray) (r : List ByteArray) : readyQ (tilQ (gQ c nx k (t :: r) rc tl) ((k + 1 : Nat) : Int) 0) gS = gQ c nx k (t :: r) rc 0 := by
  rw [til_gQ]
  have e4 : rsF tl (t :: r) = [] := by unfold rsF; rw [if_neg htl]
  unfold readyQ gQ
  simp only [e4]
  rfl

/-- Two queues. -/
def c2 (A Bq : QM) : Nat → Option QM := setC (setC (fun _ => none) 0 (some A)) 1 (some Bq)
theorem c2_0 (A Bq : QM) : c2 A Bq 0 = some A := rfl
theorem c2_1 (A Bq : QM) : c2 A Bq 1 = some Bq := rfl
theorem c2_no (A Bq : QM) (i : Nat) (h : 2 ≤ i) : c2 A Bq i = none := by
  unfold c2
  rw [setC_ne _ _ (by omega), setC_ne _ _ (by omega)]
theorem set_c2_0 (A Bq A' : QM) : setC (c2 A Bq) 0 (some A') = c2 A' Bq := by
  funext i
  unfold c2 setC
  by_cases e : i = 0
  · subst e; rfl
  · simp [e]
theorem set_c2_1 (A Bq B' : QM) : setC (c2 A Bq) 1 (some B') = c2 A B' := by
  funext i
  unfold c2 setC
  by_cases e : i = 1
  · subst e; rfl
  · simp [e]
theorem forg_gQ (c : Wp.Rq) (nx k : Nat) (ts : List ByteArray) (rc tl now : Int) : forgQ now (gQ c nx k ts rc tl) = gQ c nx k ts rc tl := rfl
theorem fgt_c2 (now : Int) (A Bq : QM) (ha : forgQ now A = A) (hb : forgQ now Bq = Bq) : fgtTo now 8 (c2 A Bq) = c2 A Bq := by
  funext i
  unfold fgtTo
  by_cases h0 : i = 0
  · subst h0; rw [if_pos (by omega), c2_0]; show some (forgQ now A) = _; rw [ha]
  · by_cases h1 : i = 1
    · subst h1; rw [if_pos (by omega), c2_1]; show some (forgQ now Bq) = _; rw [hb]
    · rw [c2_no _ _ _ (by omega)]
      split <;> rfl
theorem bring_none' {now : Int} {c : Nat → Option QM} {i : Nat} (h : c i = none) : bringC now c i = c := by unfold bringC; rw [h]
theorem bring_nodue {now : Int} {c : Nat → Option QM} {i : Nat} {Q : QM} (h : c i = some Q) (hd : dueN now Q.ms = []) : bringC now c i = c := by unfold bringC; rw [h]; simp [hd]
theorem time_c2 (now : Int) (A Bq A' B' : QM) (ha : forgQ now A = A) (hb : forgQ now Bq = Bq) (h0 : bringC now (c2 A Bq) 0 = c2 A' B') (h1 : dueN now B'.ms = []) : timeC now (c2 A Bq) = c2 A' B' := by
  unfold timeC
  rw [fgt_c2 now A Bq ha hb]
  show bringC now (bringC now (bringC now (bringC now (bringC now (bringC now (bringC now (bringC now (c2 A Bq) 0) 1) 2) 3) 4) 5) 6) 7 = _
  rw [h0, bring_nodue (c2_1 _ _) h1]
  rw [bring_none' (c2_no _ _ 2 (by omega)), bring_none' (c2_no _ _ 3 (by omega)), bring_none' (c2_no _ _ 4 (by omega)), bring_none' (c2_no _ _ 5 (by omega)), bring_none' (c2_no _ _ 6 (by omega)), bring_none' (c2_no _ _ 7 (by omega))]
theorem due_mkF (now : Int) (k : Nat) (ts : List ByteArray) : dueL now (mkF k ts) = [] := by
  unfold dueL
  rw [List.filter_eq_nil_iff]
  intro m hm
  rw [(mkF_grp k ts m hm).2]
  simp
theorem dueN_nil {now : Int} {l : List Ms} (h : dueL now l = []) : dueN now l = [] := by
  unfold dueN dueS
  rw [h]
  simp
theorem dueN_zero (now : Int) (c : Wp.Rq) (nx k : Nat) (ts : List ByteArray) (rc : Int) : dueN now (gQ c nx k ts rc 0).ms = [] := by
  refine dueN_nil ?_
  show dueL now (hdF k rc 0 ts) = []
  cases ts with
  | nil => rfl
  | cons t r =>
    have := due_mkF now (k + 1) r
    unfold dueL hdF
    unfold dueL at this
    rw [List.filter_cons, this]
    simp
theorem dueN_one (now : Int) (c : Wp.Rq) (nx k : Nat) (t : ByteArray) (r : List ByteArray) (rc tl : Int) (h : 0 < tl ∧ tl ≤ now) : dueN now (gQ c nx k (t :: r) rc tl).ms = [((k + 1 : Nat) : Int)] := by
  have e : dueL now (hdF k rc tl (t :: r)) = [⟨((k + 1 : Nat) : Int), gS, t, rc, tl⟩] := by
    have := due_mkF now (k + 1) r
    unfold dueL hdF
    unfold dueL at this
    rw [List.filter_cons, this]
    simp [h]
  show (List.mergeSort (dueL now (hdF k rc tl (t :: r))) leMs).map Ms.num = _
  rw [e]
  simp
/-- The time goes on by what the first was given for: it comes back, or all move. -/
theorem time_back (now : Int) (ca cb : Wp.Rq) (hd : ca.d = 98) (nb : Nat) (t : ByteArray) (r : List ByteArray) (rc tl : Int) (h : 0 < tl ∧ tl ≤ now) :
    timeC now (c2 (gQ ca ((t :: r).length + 1) 0 (t :: r) rc tl) (gQ cb 1 0 [] 0 0)) =
      if upQ ca rc = true ∧ (((t :: r).length : Nat) : Int) ≤ cb.quo ∧ (t :: r).length ≤ 200 then c2 (gQ ca ((t :: r).length + 1) 0 [] 0 0) (gQ cb ((t :: r).length + 1) 0 (t :: r) 0 0)
      else c2 (gQ ca ((t :: r).length + 1) 0 (t :: r) rc 0) (gQ cb 1 0 [] 0 0) := by
  have hall := isG_all (hdF_grp 0 rc 0 (t :: r))
  have hdj : deadJ ca = some 1 := by unfold deadJ; rw [hd]; rfl
  have hbr : bringC now (c2 (gQ ca ((t :: r).length + 1) 0 (t :: r) rc tl) (gQ cb 1 0 [] 0 0)) 0 = backC (c2 (gQ ca ((t :: r).length + 1) 0 (t :: r) rc tl) (gQ cb 1 0 [] 0 0)) 0 ((0 + 1 : Nat) : Int) := by
    unfold bringC
    rw [c2_0]
    show List.foldl _ _ (dueN now (gQ ca ((t :: r).length + 1) 0 (t :: r) rc tl).ms) = _
    rw [dueN_one now ca _ 0 t r rc tl h]
    rfl
  have hfind : (gQ ca ((t :: r).length + 1) 0 (t :: r) rc tl).ms.find? (isN ((0 + 1 : Nat) : Int)) = some ⟨((0 + 1 : Nat) : Int), gS, t, rc, tl⟩ := find_hd 0 rc tl t r
  have hdc : deadC (c2 (gQ ca ((t :: r).length + 1) 0 (t :: r) rc tl) (gQ cb 1 0 [] 0 0)) ca = some (1, gQ cb 1 0 [] 0 0) := by unfold deadC; rw [hdj]; rfl
  have hcnt : cntG gS (tilQ (gQ ca ((t :: r).length + 1) 0 (t :: r) rc tl) ((0 + 1 : Nat) : Int) 0).ms = (t :: r).length := by
    rw [til_gQ]
    unfold cntG
    show ((hdF 0 rc 0 (t :: r)).filter (isG gS)).length = _
    rw [hall.1, hdF_len]
  have hroom : roomQ (gQ cb 1 0 [] 0 0) (t :: r).length = true ↔ (((t :: r).length : Nat) : Int) ≤ cb.quo ∧ (t :: r).length ≤ 200 := by
    unfold roomQ
    rw [Bool.and_eq_true, decide_eq_true_eq, decide_eq_true_eq]
    show ((0 + (t :: r).length : Nat) : Int) ≤ cb.quo ∧ 1 + (t :: r).length ≤ 201 ↔ _
    rw [Nat.zero_add]
    constructor
    · rintro ⟨h1, h2⟩; exact ⟨h1, by omega⟩
    · rintro ⟨h1, h2⟩; exact ⟨h1, by omega⟩
  have hback : backC (c2 (gQ ca ((t :: r).length + 1) 0 (t :: r) rc tl) (gQ cb 1 0 [] 0 0)) 0 ((0 + 1 : Nat) : Int) =
      if upQ ca rc = true ∧ roomQ (gQ cb 1 0 [] 0 0) (t :: r).length = true then setC (setC (c2 (gQ ca ((t :: r).length + 1) 0 (t :: r) rc tl) (gQ cb 1 0 [] 0 0)) 0 (some { tilQ (gQ ca ((t :: r).length + 1) 0 (t :: r) rc tl) ((0 + 1 : Nat) : Int) 0 with ms := (tilQ (gQ ca ((t :: r).length + 1) 0 (t :: r) rc tl) ((0 + 1 : Nat) : Int) 0).ms.filter (fun x => !isG gS x) })) 1 (some (putL (gQ cb 1 0 [] 0 0) ((tilQ (gQ ca ((t :: r).length + 1) 0 (t :: r) rc tl) ((0 + 1 : Nat) : Int) 0).ms.filter (isG gS))))
      else setC (c2 (gQ ca ((t :: r).length + 1) 0 (t :: r) rc tl) (gQ cb 1 0 [] 0 0)) 0 (some (readyQ (tilQ (gQ ca ((t :: r).length + 1) 0 (t :: r) rc tl) ((0 + 1 : Nat) : Int) 0) gS)) := by
    unfold backC
    rw [c2_0]
    simp only [hfind]
    have e : (gQ ca ((t :: r).length + 1) 0 (t :: r) rc tl).c = ca := rfl
    simp only [e, hdc, hcnt]
  by_cases hc : upQ ca rc = true ∧ (((t :: r).length : Nat) : Int) ≤ cb.quo ∧ (t :: r).length ≤ 200
  · rw [if_pos hc]
    refine time_c2 now _ _ _ _ (forg_gQ _ _ _ _ _ _ _) (forg_gQ _ _ _ _ _ _ _) ?_ (dueN_zero _ _ _ _ _ _)
    rw [hbr, hback, if_pos ⟨hc.1, hroom.2 hc.2⟩, set_c2_0, set_c2_1]
    have e4 : rsF tl (t :: r) = [] := by unfold rsF; rw [if_neg (by omega)]
    congr 1
    · rw [til_gQ]
      simp only [hall.2]
      unfold gQ
      simp only [e4]
      rfl
    · rw [til_gQ]
      show putL (gQ cb (([] : List ByteArray).length + 1) 0 [] 0 0) ((hdF 0 rc 0 (t :: r)).filter (isG gS)) = _
      rw [hall.1, putL_gQ cb _ [] (hdF_grp 0 rc 0 (t :: r)), hdF_bod]
      rfl
  · rw [if_neg hc]
    refine time_c2 now _ _ _ _ (forg_gQ _ _ _ _ _ _ _) (forg_gQ _ _ _ _ _ _ _) ?_ (dueN_zero _ _ _ _ _ _)
    rw [hbr, hback, if_neg (fun hh => hc ⟨hh.1, hroom.1 hh.2⟩), set_c2_0, ready_gQ _ _ _ _ _ (by omega)]
theorem time_still (now : Int) (ca cb : Wp.Rq) (na ka nb kb : Nat) (ta tb : List ByteArray) (ra rb : Int) : timeC now (c2 (gQ ca na ka ta ra 0) (gQ cb nb kb tb rb 0)) = c2 (gQ ca na ka ta ra 0) (gQ cb nb kb tb rb 0) :=
  time_c2 now _ _ _ _ (forg_gQ _ _ _ _ _ _ _) (forg_gQ _ _ _ _ _ _ _) (bring_nodue (c2_0 _ _) (dueN_zero _ _ _ _ _ _)) (dueN_zero _ _ _ _ _ _)
theorem leN_low4 (n : Nat) : leN (lowB n 4) = n % 4294967296 := by
  have h : ∀ m : Nat, (UInt8.ofNat (m % 256)).toNat = m % 256 := fun m => UInt8.toNat_ofNat_of_lt' (by have := Nat.mod_lt m (show 0 < 256 by decide); simpa using this)
  have e : lowB n 4 = [UInt8.ofNat (n % 256), UInt8.ofNat (n / 256 % 256), UInt8.ofNat (n / 65536 % 256), UInt8.ofNat (n / 16777216 % 256)] := by simp [lowB, List.range_succ]
  rw [e]
  show (UInt8.ofNat (n % 256)).toNat + 256 * ((UInt8.ofNat (n / 256 % 256)).toNat + 256 * ((UInt8.ofNat (n / 65536 % 256)).toNat + 256 * ((UInt8.ofNat (n / 16777216 % 256)).toNat + 256 * 0))) = _
  rw [h, h, h, h]
  omega
theorem hanB_len (q : UInt8) (num rcv : Nat) : (hanB q num rcv).length = 8 := by simp [hanB, lowB_length]
theorem han_is (q : UInt8) (i num rcv : Nat) (hq : q.toNat = 97 + i) (hi : i < 8) (hn : num < 4294967296) (hr : rcv < 65536) : HanIs ⟨(hanB q num rcv).toArray⟩ i num rcv := by
  have h8 : (⟨(hanB q num rcv).toArray⟩ : ByteArray).size = 8 := by show (hanB q num rcv).toArray.size = 8; simp [hanB_len]
  have hex : (⟨(hanB q num rcv).toArray⟩ : ByteArray).extract 2 8 = BA (lowB num 4 ++ lowB rcv 2) := by
    have h1 := lf_app [72, q] (lowB num 4 ++ lowB rcv 2)
    have h2 : lf (BA ([72, q] ++ (lowB num 4 ++ lowB rcv 2))) [72, q].length = (⟨(hanB q num rcv).toArray⟩ : ByteArray).extract 2 8 := by
      show lf (⟨(hanB q num rcv).toArray⟩ : ByteArray) 2 = _
      unfold lf
      rw [if_pos (by rw [h8]; omega), h8]
    rw [← h2]
    exact h1
  refine ⟨h8, rfl, ?_, ?_, ?_, ?_⟩
  · show isLet q = true
    unfold isLet
    rw [hq]
    simp
    omega
  · exact hq
  · rw [hex]
    have h1 := tk_app (lowB num 4) (lowB rcv 2)
    rw [lowB_length] at h1
    rw [h1, BA_list, leN_low4]
    omega
  · rw [hex]
    have h1 := lf_app (lowB num 4) (lowB rcv 2)
    rw [lowB_length] at h1
    rw [h1]
    have h2 := tk_app (lowB rcv 2) []
    rw [lowB_length, List.append_nil] at h2
    rw [h2, BA_list, leN_low2]
    omega
theorem han_ext (q : UInt8) (num rcv : Nat) : (⟨(hanB q num rcv).toArray⟩ : ByteArray).extract 2 6 = ⟨(lowB num 4).toArray⟩ := by
  have e : (lowB num 4) = [UInt8.ofNat (num / 256 ^ 0 % 256), UInt8.ofNat (num / 256 ^ 1 % 256), UInt8.ofNat (num / 256 ^ 2 % 256), UInt8.ofNat (num / 256 ^ 3 % 256)] := rfl
  have e2 : (lowB rcv 2) = [UInt8.ofNat (rcv / 256 ^ 0 % 256), UInt8.ofNat (rcv / 256 ^ 1 % 256)] := rfl
  unfold hanB
  rw [e, e2]
  rfl
set_option maxHeartbeats 400000 in
theorem seq_any (q : UInt8) (num rcv : Nat) (hn : num < 4294967296) (w : World) : Calls Tryz.prog 26 #[.string ⟨(hanB q num rcv).toArray⟩] w fun e w' => e = .returned (.int .i64 (num : Int)) ∧ w' = w := by
  have h8 : (⟨(hanB q num rcv).toArray⟩ : ByteArray).size = 8 := by show (hanB q num rcv).toArray.size = 8; simp [hanB_len]
  have HN : Hid (Calls Tryz.prog 36 #[.string ((⟨(hanB q num rcv).toArray⟩ : ByteArray).extract 2 6)] w fun e w' => e = .returned (.int .i64 (num : Int)) ∧ w' = w) := by
    show Calls _ _ _ _ _
    rw [han_ext]
    have h := number_okN num hn w
    rw [okN_ext] at h
    exact h
  generalize (⟨(hanB q num rcv).toArray⟩ : ByteArray) = s at *
  go_enter Tryz.func26, Tryz.ntmps26
  go_wp2_with fail
  refine HN.out.mono ?_
  rintro e w' ⟨rfl, rfl⟩
  go_wp2_with fail
  go_ret
  exact ⟨rfl, rfl⟩

/-- The settings of the two queues. -/
abbrev cfA (m : Int) : Wp.Rq := ⟨67, 97, 98, 5, 0, m, 20, 0, 0, ⟨#[]⟩, ⟨#[]⟩, ⟨#[]⟩, ⟨#[]⟩, ⟨#[]⟩⟩
abbrev cfB (u : Int) : Wp.Rq := ⟨67, 98, 45, 5, 0, 0, u, 0, 0, ⟨#[]⟩, ⟨#[]⟩, ⟨#[]⟩, ⟨#[]⟩, ⟨#[]⟩⟩
abbrev emp : ByteArray := ⟨#[]⟩
theorem cfA_ok (m : Int) (h : 1 ≤ m ∧ m ≤ 9) : Rok (cfA m) ∧ CfW 0 (cfA m) := by
  have hwf : Wf (cfA m) := Keep.wf_small _ (by show (0 : Int) ≤ 5 ∧ (5 : Int) ≤ 1001; omega) Keep.zz ⟨by show (0 : Int) ≤ m; omega, by show m ≤ (1001 : Int); omega⟩ (by show (0 : Int) ≤ 20 ∧ (20 : Int) ≤ 1001; omega) Keep.zz Keep.zz
  have hright : rightW (cfA m) nil0 (Wp.short []) = true := by
    refine (right_iff _ _ _ hwf).2 ⟨2, by decide, rfl, ?_, rfl, rfl⟩
    show List.all [0, 2, 3, 4, 1, 5] _ = true
    simp only [List.all_cons, List.all_nil, Bool.and_true, Bool.and_eq_true]
    exact ⟨Keep.fits_of _ _ _ 0 (by decide) (by decide) (by decide) (show (97 : Int) ≤ 97 by omega) (show (97 : Int) ≤ 104 by omega), Keep.fits_of _ _ _ 2 (by decide) (by decide) (by decide) (show (1 : Int) ≤ 5 by omega) (show (5 : Int) ≤ 1000 by omega), Keep.fits_of _ _ _ 3 (by decide) (by decide) (by decide) (show (0 : Int) ≤ 0 by omega) (show (0 : Int) ≤ 1000 by omega), Keep.fits_of _ _ _ 4 (by decide) (by decide) (by decide) (show (0 : Int) ≤ m by omega) (show m ≤ (9 : Int) by omega), Keep.fits_dead _ _ _ (.inr ⟨show (97 : Nat) ≤ 98 by decide, show (98 : Nat) ≤ 104 by decide, show (98 : UInt8) ≠ 97 by decide⟩), Keep.fits_of _ _ _ 5 (by decide) (by decide) (by decide) (show (1 : Int) ≤ 20 by omega) (show (20 : Int) ≤ 50 by omega)⟩
  refine ⟨⟨hwf, hright, by have := small_C _ hright rfl; omega⟩, ⟨rfl, .inr ⟨1, by decide, by decide, rfl⟩, ?_, ?_, ?_, ?_⟩⟩
  · show (1 : Int) ≤ 5 ∧ (5 : Int) ≤ 1000; omega
  · show (0 : Int) ≤ 0 ∧ (0 : Int) ≤ 1000; omega
  · show (0 : Int) ≤ m ∧ m ≤ 9; omega
  · show (1 : Int) ≤ 20 ∧ (20 : Int) ≤ 50; omega
theorem cfB_ok (u : Int) (h : 1 ≤ u ∧ u ≤ 12) : Rok (cfB u) ∧ CfW 1 (cfB u) := by
  have hwf : Wf (cfB u) := Keep.wf_small _ (by show (0 : Int) ≤ 5 ∧ (5 : Int) ≤ 1001; omega) Keep.zz Keep.zz ⟨by show (0 : Int) ≤ u; omega, by show u ≤ (1001 : Int); omega⟩ Keep.zz Keep.zz
  have hright : rightW (cfB u) nil0 (Wp.short []) = true := by
    refine (right_iff _ _ _ hwf).2 ⟨2, by decide, rfl, ?_, rfl, rfl⟩
    show List.all [0, 2, 3, 4, 1, 5] _ = true
    simp only [List.all_cons, List.all_nil, Bool.and_true, Bool.and_eq_true]
    exact ⟨Keep.fits_of _ _ _ 0 (by decide) (by decide) (by decide) (show (97 : Int) ≤ 98 by omega) (show (98 : Int) ≤ 104 by omega), Keep.fits_of _ _ _ 2 (by decide) (by decide) (by decide) (show (1 : Int) ≤ 5 by omega) (show (5 : Int) ≤ 1000 by omega), Keep.fits_of _ _ _ 3 (by decide) (by decide) (by decide) (show (0 : Int) ≤ 0 by omega) (show (0 : Int) ≤ 1000 by omega), Keep.fits_of _ _ _ 4 (by decide) (by decide) (by decide) (show (0 : Int) ≤ 0 by omega) (show (0 : Int) ≤ (9 : Int) by omega), Keep.fits_dead _ _ _ (.inl rfl), Keep.fits_of _ _ _ 5 (by decide) (by decide) (by decide) (show (1 : Int) ≤ u by omega) (show u ≤ (50 : Int) by omega)⟩
  refine ⟨⟨hwf, hright, by have := small_C _ hright rfl; omega⟩, ⟨rfl, .inl rfl, ?_, ?_, ?_, ?_⟩⟩
  · show (1 : Int) ≤ 5 ∧ (5 : Int) ≤ 1000; omega
  · show (0 : Int) ≤ 0 ∧ (0 : Int) ≤ 1000; omega
  · show (0 : Int) ≤ 0 ∧ (0 : Int) ≤ 9; omega
  · show (1 : Int) ≤ u ∧ u ≤ 50; omega
abbrev ackR (h : ByteArray) : Wp.Rq := ⟨65, 0, 0, 0, 0, 0, 0, 0, 0, ⟨#[]⟩, ⟨#[]⟩, ⟨#[]⟩, ⟨#[]⟩, h⟩
theorem ack_rok (h : ByteArray) (hs : h.size ≤ 255) : Rok (ackR h) := by
  have hwf : Wf (ackR h) := Keep.wf_small _ Keep.zz Keep.zz Keep.zz Keep.zz Keep.zz Keep.zz
  have hright : rightW (ackR h) nil0 (Wp.short []) = true := by
    refine (right_iff _ _ _ hwf).2 ⟨0, by decide, rfl, ?_, rfl, rfl⟩
    show List.all [13] _ = true
    simp only [List.all_cons, List.all_nil, Bool.and_true]
    exact Keep.fits_of _ _ _ 13 (by decide) (by decide) (by decide) (show (0 : Int) ≤ (h.size : Int) by omega) (show (h.size : Int) ≤ 255 by omega)
  refine ⟨hwf, hright, ?_⟩
  rw [(print_bytes _ nil0 [] hright).1, BA_size, List.append_nil, List.length_cons, show Wp.lay ((ackR h).op.toNat - 65) = [13] from rfl]
  simp only [encL, List.flatMap_cons, List.flatMap_nil, List.length_append, List.length_nil]
  rw [encF_l3 _ _ 13 rfl]
  show 1 + h.size + 0 + 1 ≤ 90000
  omega
theorem Snd.rok {r : Wp.Rq} (h : Snd r) : Rok r := ⟨h.wf, h.right, by have := h.small; omega⟩
theorem tick_rok (n : Int) (h1 : 1 ≤ n) (h2 : n ≤ 1000) : Rok ⟨84, 0, 0, 0, 0, 0, 0, 0, n, ⟨#[]⟩, ⟨#[]⟩, ⟨#[]⟩, ⟨#[]⟩, ⟨#[]⟩⟩ := by
  obtain ⟨a, b⟩ := tick_of n h1 h2
  exact ⟨a, b, by have := small_T _ b rfl; omega⟩

/-- A broker, and the row of what was sent. -/
structure MV (B : Nat) (w0 w : World) (x st b : Nat) (now : Int) (c : Nat → Option QM) (ts : List ByteArray) (sv : Value) : Prop where
  bk : ∃ col, Bk B w x st b now c col ∧ ∀ k, sv.ownBlock = some k → col k = 9
  row : w.ownsRow 0 9 1 sv ts.length (ts.map Value.string)
  lo : ∀ k, sv.ownBlock = some k → B ≤ k
  env : Env B w
  bel : Below B w0 w
theorem MV.did {B : Nat} {w0 w w' : World} {x st b : Nat} {now now' : Int} {c c' : Nat → Option QM} {ts : List ByteArray} {sv : Value} (h : MV B w0 w x st b now c ts sv) {col : Nat → Nat} (hc : ∀ k, sv.ownBlock = some k → col k = 9) (hd : Did B x st b w col now' c' w') : MV B w0 w' x st b now' c' ts sv := by
  have hE := hd.env h.env
  obtain ⟨col', h1, h2, h3⟩ := hd
  exact ⟨⟨col', h1, fun k hk => (h2 k (own_lt h.row hk)).trans (hc k hk)⟩, h3.own9 h.row hc, h.lo, hE, h.bel.trans h3.below⟩
theorem MV.tch {B : Nat} {w0 w w' : World} {x st b : Nat} {now : Int} {c : Nat → Option QM} {ts : List ByteArray} {sv : Value} (h : MV B w0 w x st b now c ts sv) (ht : Tch [] w w') : MV B w0 w' x st b now c ts sv := by
  obtain ⟨col, h1, h2⟩ := h.bk
  exact h.did h2 (did_same h1 h.env.size ht)
theorem MV.drewN {B : Nat} {w0 w : World} {x st b : Nat} {now : Int} {c : Nat → Option QM} {ts : List ByteArray} {sv : Value} (h : MV B w0 w x st b now c ts sv) (n : Nat) : MV B w0 (w.drewN n) x st b now c ts sv := h.tch ((Tch.refl [] w).drewN n)
/-- The row was written: one's own block alone, or a new one. -/
theorem MV.put {B : Nat} {w0 w w' : World} {x st b : Nat} {now : Int} {c : Nat → Option QM} {ts ts' : List ByteArray} {sv sv' : Value} (h : MV B w0 w x st b now c ts sv) (ht : Tch (bl sv) w w') (ho : w'.ownsRow 0 9 1 sv' ts'.length (ts'.map Value.string)) (hn : ∀ k, sv'.ownBlock = some k → sv.ownBlock = some k ∨ w.heap.size ≤ k) : MV B w0 w' x st b now c ts' sv' := by
  obtain ⟨col, ⟨⟨Z, hs, hc⟩, hwf, hnw, o, room, hJ⟩, h9⟩ := h.bk
  have hty : ∀ {k : Nat} {C : Array Value} {t : TypeId}, w.heap[k]? = some (.cells C t (0, 0)) → t ≠ 9 → k ∉ bl sv := fun {k C t} hk hne hm => own_ne h.row hk (Ne.symm hne) (mem_bl.1 hm)
  have hlo : ∀ k ∈ bl sv, B ≤ k := fun k hk => h.lo k (mem_bl.1 hk)
  have hE := h.env.tch ht hlo
  have hz := ht.size
  have hBw := h.env.size
  have hfr : Fr B [9] w w' := Fr.of_tch ht hBw hlo (fun k hk C t hC => by
    by_cases e : t = 9
    · simp [e]
    · exact absurd hk (hty hC e))
  refine ⟨⟨fun k => if k < w.heap.size then col k else 9, ⟨⟨Z, ⟨hs.stb.fr hfr (by decide), fun i f hi => hfr.keep _ _ _ (hs.tb i f hi) (by decide), fun i y hi hy => (hs.qr i y hi hy).tch ht (fun k hk hm => ?_), fun i y hi hy k hk => ?_, hs.lo, hs.ls⟩, hc⟩, hwf, hnw, o, room, hJ.fr hfr (by decide) (by decide) (by decide) (by decide)⟩, fun k hk => ?_⟩, ho, fun k hk => ?_, hE, h.bel.trans hfr.below⟩
  · have h1 := hs.cl i y hi hy k hk
    have h2 := h9 k (mem_bl.1 hm)
    omega
  · show (if k < w.heap.size then col k else 9) = i
    rw [if_pos ((hs.qr i y hi hy).lt k hk)]
    exact hs.cl i y hi hy k hk
  · show (if k < w.heap.size then col k else 9) = 9
    rcases hn k hk with h1 | h1
    · rw [if_pos (own_lt h.row h1)]
      exact h9 k h1
    · rw [if_neg (by omega)]
  · rcases hn k hk with h1 | h1
    · exact h.lo k h1
    · omega
/-- A message is sent to a. -/
theorem mv_S (B : Nat) (w0 w : World) (x st b : Nat) (ca cb : Wp.Rq) (hwin : ca.win = 0) (hquo : ca.quo = 20) (Bq : QM) (ts : List ByteArray) (sv : Value) (t : ByteArray) (ht : t.size ≤ 40) (hl : ts.length < 20) (h : MV B w0 w x st b 0 (c2 (gQ ca (ts.length + 1) 0 ts 0 0) Bq) ts sv) :
    Calls Tryz.prog 18 #[.pointer (some ⟨x, 0, none⟩), .agg #[.int .u8 83, .int .u8 97, .int .u8 0, .int .i64 0, .int .i64 0, .int .i64 0, .int .i64 0, .int .i64 0, .int .i64 0, .string gS, .string ⟨#[]⟩, .string t, .string ⟨#[]⟩, .string ⟨#[]⟩, .slice none 0 0]] w fun e w' => e = .returned (.string (okL (lowB (ts.length + 1) 4))) ∧ MV B w0 w' x st b 0 (c2 (gQ ca ((ts ++ [t]).length + 1) 0 (ts ++ [t]) 0 0) Bq) ts sv := by
  obtain ⟨col, hb, h9⟩ := h.bk
  have hsn := snd_of gS ⟨#[]⟩ t (by decide) (by decide) (by decide) (by decide) ht
  have h1 := ask_op (A := okL (lowB (ts.length + 1) 4)) (Dd := Did B x st b w col 0 (setC (c2 (gQ ca (ts.length + 1) 0 ts 0 0) Bq) 0 (some (sendQ (gQ ca (ts.length + 1) 0 ts 0 0) ⟨83, 97, 0, 0, 0, 0, 0, 0, 0, gS, ⟨#[]⟩, t, ⟨#[]⟩, ⟨#[]⟩⟩ 0)))) B ⟨83, 97, 0, 0, 0, 0, 0, 0, 0, gS, ⟨#[]⟩, t, ⟨#[]⟩, ⟨#[]⟩⟩ x st b 0 _ col w h.env hb hsn.rok (fun Z o room hs hc W y htW => op_S B _ x st b 0 0 _ col w h.env hb rfl (by decide) rfl (gQ ca (ts.length + 1) 0 ts 0 0) (c2_0 _ _) (by show (-1 : Int) < 0; omega) ht ⟨by show 1 ≤ 1; omega, by show 1 ≤ 8; omega⟩ (by show 0 ≤ 8; omega) (by show ((hdF 0 0 0 ts).length : Int) < ca.quo; rw [hdF_len, hquo]; omega) (by show ts.length + 1 ≤ 200; omega) Z o room hs hc W y htW)
  refine h1.mono ?_
  rintro e w' ⟨rfl, hd⟩
  refine ⟨rfl, ?_⟩
  have h2 := h.did h9 hd
  rw [set_c2_0, send_gQ ca hwin ts _ rfl] at h2
  exact h2
/-- Nothing is received from a queue without ready groups. -/
theorem mv_R0 (B : Nat) (w0 w : World) (q : UInt8) (x st b i : Nat) (hi : i < 8) (hq : q.toNat = 97 + i) (now : Int) (c : Nat → Option QM) (cq : Wp.Rq) (nx k : Nat) (rc : Int) (ts : List ByteArray) (sv : Value) (hQ : c i = some (gQ cq nx k [] rc 0)) (h : MV B w0 w x st b now c ts sv) :
    Calls Tryz.prog 22 #[.pointer (some ⟨x, 0, none⟩), .int .u8 (q.toNat : Int), .string ⟨#[]⟩, .int .i64 1] w fun e w' => ∃ a cp, e = .returned (.tuple #[.slice a 0 cp, .bool true]) ∧ MV B w0 w' x st b now c ts sv := by
  obtain ⟨col, hb, h9⟩ := h.bk
  refine (receive_g B q x st b i 1 0 now c col w h.env hb hi hq _ hQ (by show 0 < 20; omega) ⟨by omega, by omega⟩ (by show 0 = if 1 ≤ 0 then 1 else 0; rfl)).mono ?_
  rintro e w' ⟨v, rfl, ho, hd⟩
  obtain ⟨a, cp, rfl⟩ := own_shape' ho
  exact ⟨a, cp, rfl, h.did h9 hd⟩
/-- The first message of a queue is received. -/
theorem mv_R (B : Nat) (w0 w : World) (q : UInt8) (x st b i : Nat) (hi : i < 8) (hq : q.toNat = 97 + i) (now : Int) (c : Nat → Option QM) (cq : Wp.Rq) (nx k rc : Nat) (hrc : rc < 1000) (hvis : cq.vis = 5) (t : ByteArray) (r : List ByteArray) (ts : List ByteArray) (sv : Value) (hQ : c i = some (gQ cq nx k (t :: r) rc 0)) (h : MV B w0 w x st b now c ts sv) :
    Calls Tryz.prog 22 #[.pointer (some ⟨x, 0, none⟩), .int .u8 (q.toNat : Int), .string ⟨#[]⟩, .int .i64 1] w fun e w' => ∃ g cp, e = .returned (.tuple #[.slice (some ⟨g, 0, none⟩) 1 cp, .bool true]) ∧ w'.cell? ⟨g, 0, none⟩ = some (.string ⟨(hanB cq.q (k + 1) (rc + 1)).toArray⟩) ∧ w'.cell? ⟨g, 1, none⟩ = some (.string gS) ∧ w'.cell? ⟨g, 2, none⟩ = some (.string t) ∧ MV B w0 w' x st b now (setC c i (some (gQ cq nx k (t :: r) ((rc + 1 : Nat) : Int) (now + 5)))) ts sv := by
  obtain ⟨col, hb, h9⟩ := h.bk
  have hnw := hb.nw
  refine (receive_g B q x st b i 1 1 now c col w h.env hb hi hq _ hQ (by show 0 < 20; omega) ⟨by omega, by omega⟩ (by show 1 = if 1 ≤ 1 then 1 else 1; rfl)).mono ?_
  rintro e w' ⟨v, rfl, ho, hd⟩
  rw [ent_gQ cq nx k rc hrc t r] at ho
  have ho' : w'.ownsRow 0 50 3 v 1 [.string ⟨(hanB cq.q (k + 1) (rc + 1)).toArray⟩, .string gS, .string t] := ho
  obtain ⟨g, cp, rfl⟩ : ∃ g cp, v = .slice (some ⟨g, 0, none⟩) 1 cp := by
    rcases ho'.2 with ⟨_, h0⟩ | ⟨g, cap, cur, h0, _⟩
    · omega
    · exact ⟨_, _, h0⟩
  have hcell : ∀ j u, [Value.string ⟨(hanB cq.q (k + 1) (rc + 1)).toArray⟩, .string gS, .string t][j]? = some u → w'.cell? ⟨g, j, none⟩ = some u := fun j u hj => by
    have h2 := World.ownsRow.cells ho' (g := g) rfl j u hj
    rw [add_zero_at] at h2
    exact h2
  refine ⟨g, cp, rfl, hcell 0 _ rfl, hcell 1 _ rfl, hcell 2 _ rfl, ?_⟩
  have h2 := h.did h9 hd
  have e : recvC c i (gQ cq nx k (t :: r) rc 0) ⟨#[]⟩ 1 now = setC c i (some (gQ cq nx k (t :: r) ((rc + 1 : Nat) : Int) (now + 5))) := by
    unfold recvC
    rw [if_neg (by omega), recv_gQ cq nx k rc hrc t r _ (by show now + cq.vis ≠ 0; rw [hvis]; omega)]
    show setC c i (some (gQ cq nx k (t :: r) ((rc + 1 : Nat) : Int) (now + cq.vis))) = _
    rw [hvis]
  rw [e] at h2
  exact h2
/-- The time goes on by five. -/
theorem mv_T (B : Nat) (w0 w : World) (x st b : Nat) (now : Int) (c : Nat → Option QM) (ts : List ByteArray) (sv : Value) (hn : now ≤ 50000) (h : MV B w0 w x st b now c ts sv) :
    Calls Tryz.prog 18 #[.pointer (some ⟨x, 0, none⟩), .agg #[.int .u8 84, .int .u8 0, .int .u8 0, .int .i64 0, .int .i64 0, .int .i64 0, .int .i64 0, .int .i64 0, .int .i64 5, .string ⟨#[]⟩, .string ⟨#[]⟩, .string ⟨#[]⟩, .string ⟨#[]⟩, .string ⟨#[]⟩, .slice none 0 0]] w fun e w' => e = .returned (.string ⟨#[0]⟩) ∧ MV B w0 w' x st b (now + 5) (timeC (now + 5) c) ts sv := by
  obtain ⟨col, hb, h9⟩ := h.bk
  have h1 := ask_op (A := okL []) (Dd := Did B x st b w col (now + 5) (timeC (now + 5) c)) B ⟨84, 0, 0, 0, 0, 0, 0, 0, 5, ⟨#[]⟩, ⟨#[]⟩, ⟨#[]⟩, ⟨#[]⟩, ⟨#[]⟩⟩ x st b now c col w h.env hb (tick_rok 5 (by decide) (by decide)) (fun Z o room hs hc W y htW => op_T B _ x st b now c col w h.env hb rfl ⟨by show (0 : Int) ≤ 5; omega, by show now + 5 ≤ 60000; omega⟩ Z o room hs hc W y htW)
  refine h1.mono ?_
  rintro e w' ⟨rfl, hd⟩
  exact ⟨rfl, h.did h9 hd⟩
/-- The first message is acknowledged. -/
theorem mv_A (B : Nat) (w0 w : World) (x st b i : Nat) (hi : i < 8) (now : Int) (c : Nat → Option QM) (cq : Wp.Rq) (hq : cq.q.toNat = 97 + i) (nx k rc : Nat) (hk : k < 1000) (hrc : rc < 1000) (tl : Int) (htl : 0 < tl) (t : ByteArray) (r : List ByteArray) (ts : List ByteArray) (sv : Value) (hQ : c i = some (gQ cq nx k (t :: r) (rc : Int) tl)) (h : MV B w0 w x st b now c ts sv) :
    Calls Tryz.prog 18 #[.pointer (some ⟨x, 0, none⟩), .agg #[.int .u8 65, .int .u8 0, .int .u8 0, .int .i64 0, .int .i64 0, .int .i64 0, .int .i64 0, .int .i64 0, .int .i64 0, .string ⟨#[]⟩, .string ⟨#[]⟩, .string ⟨#[]⟩, .string ⟨#[]⟩, .string ⟨(hanB cq.q (k + 1) rc).toArray⟩, .slice none 0 0]] w fun e w' => e = .returned (.string ⟨#[0]⟩) ∧ MV B w0 w' x st b now (setC c i (some (gQ cq nx (k + 1) r 0 0))) ts sv := by
  obtain ⟨col, hb, h9⟩ := h.bk
  have hfl : fliesQ (gQ cq nx k (t :: r) (rc : Int) tl) ((k + 1 : Nat) : Int) (rc : Int) = true := by
    unfold fliesQ
    have e1 : (gQ cq nx k (t :: r) (rc : Int) tl).ms.find? (isN ((k + 1 : Nat) : Int)) = some ⟨((k + 1 : Nat) : Int), gS, t, rc, tl⟩ := find_hd k rc tl t r
    rw [e1]
    simp [htl]
  have h1 := ask_op (A := okL []) (Dd := Did B x st b w col now (setC c i (some (dropQ (gQ cq nx k (t :: r) (rc : Int) tl) ((k + 1 : Nat) : Int))))) B (ackR ⟨(hanB cq.q (k + 1) rc).toArray⟩) x st b now c col w h.env hb (ack_rok _ (by show (hanB cq.q (k + 1) rc).toArray.size ≤ 255; simp [hanB_len])) (fun Z o room hs hc W y htW => op_A B _ x st b i (k + 1) rc now c col w h.env hb rfl hi (han_is cq.q i (k + 1) rc hq hi (by omega) (by omega)) _ hQ hfl Z o room hs hc W y htW)
  refine h1.mono ?_
  rintro e w' ⟨rfl, hd⟩
  refine ⟨rfl, ?_⟩
  have h2 := h.did h9 hd
  rw [drop_gQ cq nx k _ tl (by omega) t r] at h2
  exact h2
/-- What the queues have behind i rounds. -/
def cAt (ma ro : Nat) (ts : List ByteArray) (i : Nat) : Nat → Option QM :=
  if i = ma + 1 ∧ ts.length ≤ ro + 1 then c2 (gQ (cfA (1 + (ma : Int))) (ts.length + 1) 0 [] 0 0) (gQ (cfB (1 + (ro : Int))) (ts.length + 1) 0 ts 0 0)
  else c2 (gQ (cfA (1 + (ma : Int))) (ts.length + 1) 0 ts (i : Int) 0) (gQ (cfB (1 + (ro : Int))) 1 0 [] 0 0)
theorem cAt_stay (ma ro : Nat) (ts : List ByteArray) (i : Nat) (h : i < ma + 1) : cAt ma ro ts i = c2 (gQ (cfA (1 + (ma : Int))) (ts.length + 1) 0 ts (i : Int) 0) (gQ (cfB (1 + (ro : Int))) 1 0 [] 0 0) := if_neg (by omega)
theorem cAt_next (ma ro : Nat) (hma : ma < 9) (ts : List ByteArray) (hne : 0 < ts.length) (hl : ts.length ≤ 20) (i : Nat) (h : i < ma + 1) (tl now : Int) (ht : 0 < tl ∧ tl ≤ now) :
    timeC now (c2 (gQ (cfA (1 + (ma : Int))) (ts.length + 1) 0 ts ((i + 1 : Nat) : Int) tl) (gQ (cfB (1 + (ro : Int))) 1 0 [] 0 0)) = cAt ma ro ts (i + 1) := by
  obtain ⟨t, r, rfl⟩ : ∃ t r, ts = t :: r := by
    cases ts with
    | nil => simp at hne
    | cons t r => exact ⟨t, r, rfl⟩
  rw [time_back now (cfA (1 + (ma : Int))) (cfB (1 + (ro : Int))) rfl 0 t r _ tl ht]
  have hup : upQ (cfA (1 + (ma : Int))) ((i + 1 : Nat) : Int) = true ↔ i + 1 = ma + 1 := by
    unfold upQ
    rw [Bool.and_eq_true, decide_eq_true_eq, decide_eq_true_eq]
    show (0 : Int) < 1 + (ma : Int) ∧ 1 + (ma : Int) ≤ ((i + 1 : Nat) : Int) ↔ _
    omega
  have hqu : (((t :: r).length : Nat) : Int) ≤ (cfB (1 + (ro : Int))).quo ↔ (t :: r).length ≤ ro + 1 := by
    show (((t :: r).length : Nat) : Int) ≤ 1 + (ro : Int) ↔ _
    omega
  unfold cAt
  by_cases hc : i + 1 = ma + 1 ∧ (t :: r).length ≤ ro + 1
  · rw [if_pos hc, if_pos ⟨hup.2 hc.1, hqu.2 hc.2, by omega⟩]
  · rw [if_neg hc, if_neg (fun hh => hc ⟨hup.1 hh.1, hqu.1 hh.2.1⟩)]

theorem mv_row {B : Nat} {w0 w : World} {x st b : Nat} {now : Int} {c : Nat → Option QM} {ts : List ByteArray} {sv : Value} (h : MV B w0 w x st b now c ts sv) (hp : 0 < ts.length) : ∃ g cp, sv = .slice (some ⟨g, 0, none⟩) ts.length cp ∧ g < w.heap.size := by
  rcases h.row.2 with ⟨_, h0⟩ | ⟨g, cap, cur, h0, _, hg, _⟩
  · omega
  · exact ⟨_, _, h0, lt_of_block hg⟩
theorem mv_cell {B : Nat} {w0 w : World} {x st b : Nat} {now : Int} {c : Nat → Option QM} {ts : List ByteArray} {g cp : Nat} (h : MV B w0 w x st b now c ts (.slice (some ⟨g, 0, none⟩) ts.length cp)) (j : Nat) (hj : j < ts.length) : w.cell? ⟨g, j, none⟩ = some (.string ts[j]) := by
  have h2 := World.ownsRow.cells h.row (g := g) rfl j (.string ts[j]) (by simp [hj])
  rw [add_zero_at] at h2
  exact h2

set_option maxRecDepth 8000 in
set_option maxHeartbeats 8000000 in
theorem moved_walk (B : Nat) (ga : Option Addr) (gc : Nat) (ss : List ByteArray) (rv qv : Int) (w : World) (hE : Env B w) (hBe : B = w.heap.size) (hrv : i64 rv) (hqv : i64 qv) (hsz : ∀ s ∈ ss, s.size ≤ maxLen) (hln : ss.length ≤ maxLen)
    (hga : 0 < ss.length → ∃ g o, ga = some ⟨g, o, none⟩ ∧ g < B ∧ ∀ j (hj : j < ss.length), w.cell? ⟨g, o + j, none⟩ = some (.string ss[j])) :
    Calls Tryz.prog 8 #[.slice ga ss.length gc, .int .i64 rv, .int .i64 qv] w fun e w' => e = .returned (.bool true) ∧ Below B w w' := by
  have HP1 : Hid (∀ W, Calls Tryz.prog 14 #[.int .i64 rv, .int .i64 9] W fun e w' => e = .returned (.int .i64 (pk rv 9)) ∧ w' = W) := fun W => pick_any rv 9 W hrv.1 hrv.2 (by decide) (by decide)
  have HP2 : Hid (∀ W, Calls Tryz.prog 14 #[.int .i64 qv, .int .i64 12] W fun e w' => e = .returned (.int .i64 (pk qv 12)) ∧ w' = W) := fun W => pick_any qv 12 W hqv.1 hqv.2 (by decide) (by decide)
  have h1 := pk_nonneg rv 9 (by decide)
  have h2 := pk_lt rv 9 (by decide)
  have h3 := pk_nonneg qv 12 (by decide)
  have h4 := pk_lt qv 12 (by decide)
  obtain ⟨ma, hma⟩ : ∃ m : Nat, pk rv 9 = (m : Int) := ⟨(pk rv 9).toNat, (Int.toNat_of_nonneg h1).symm⟩
  obtain ⟨ro, hro⟩ : ∃ m : Nat, pk qv 12 = (m : Int) := ⟨(pk qv 12).toNat, (Int.toNat_of_nonneg h3).symm⟩
  rw [hma] at h1 h2 HP1
  rw [hro] at h3 h4 HP2
  have HOP : Hid (Calls Tryz.prog 24 #[] w fun e w' => ∃ x st b, e = .returned (.tuple #[.pointer (some ⟨x, 0, none⟩), .pointer (some ⟨B, 0, none⟩)]) ∧ MV B w w' x st b 0 (fun _ => none) [] (.slice none 0 0)) := by
    refine (opened_any w).mono ?_
    rintro e w' ⟨x, st, b, j, d, rfl, hb, ho, rfl⟩
    rw [← hBe] at ho hb
    exact ⟨x, st, b, by rw [hBe], ⟨⟨fun _ => 9, ho.bk (by omega) _, fun k hk => rfl⟩, World.ownsRow_nil _ _ _ _, fun k hk => by simp [Value.ownBlock] at hk, hE.tch (Tch.of_below (by rw [← hBe]; exact hb)) (by simp), hb⟩⟩
  have HC1 : Hid (∀ W x st b, MV B w W x st b 0 (fun _ => none) [] (.slice none 0 0) → Calls Tryz.prog 25 #[.pointer (some ⟨x, 0, none⟩), .agg #[.int .u8 67, .int .u8 97, .int .u8 98, .int .i64 5, .int .i64 0, .int .i64 (1 + (ma : Int)), .int .i64 20, .int .i64 0, .int .i64 0, .string ⟨#[]⟩, .string ⟨#[]⟩, .string ⟨#[]⟩, .string ⟨#[]⟩, .string ⟨#[]⟩, .slice none 0 0]] W fun e w' => e = .returned (.bool true) ∧ MV B w w' x st b 0 (setC (fun _ => none) 0 (some (newM (cfA (1 + (ma : Int)))))) [] (.slice none 0 0)) := fun W x st b h => by
    obtain ⟨col, hb, h9⟩ := h.bk
    obtain ⟨hr, hcf⟩ := cfA_ok (1 + (ma : Int)) ⟨by omega, by omega⟩
    exact (create_g B (cfA (1 + (ma : Int))) x st b 0 0 _ col W h.env hb hr rfl (by decide) rfl hcf rfl).mono fun e w' ⟨he, hd⟩ => ⟨he, h.did h9 hd⟩
  have HC2 : Hid (∀ W x st b, MV B w W x st b 0 (setC (fun _ => none) 0 (some (newM (cfA (1 + (ma : Int)))))) [] (.slice none 0 0) → Calls Tryz.prog 25 #[.pointer (some ⟨x, 0, none⟩), .agg #[.int .u8 67, .int .u8 98, .int .u8 45, .int .i64 5, .int .i64 0, .int .i64 0, .int .i64 (1 + (ro : Int)), .int .i64 0, .int .i64 0, .string ⟨#[]⟩, .string ⟨#[]⟩, .string ⟨#[]⟩, .string ⟨#[]⟩, .string ⟨#[]⟩, .slice none 0 0]] W fun e w' => e = .returned (.bool true) ∧ MV B w w' x st b 0 (c2 (gQ (cfA (1 + (ma : Int))) 1 0 [] 0 0) (gQ (cfB (1 + (ro : Int))) 1 0 [] 0 0)) [] (.slice none 0 0)) := fun W x st b h => by
    obtain ⟨col, hb, h9⟩ := h.bk
    obtain ⟨hr, hcf⟩ := cfB_ok (1 + (ro : Int)) ⟨by omega, by omega⟩
    exact (create_g B (cfB (1 + (ro : Int))) x st b 1 0 _ col W h.env hb hr rfl (by decide) rfl hcf rfl).mono fun e w' ⟨he, hd⟩ => ⟨he, h.did h9 hd⟩
  have HGA : Hid (0 < ss.length → ∃ g o, ga = some ⟨g, o, none⟩ ∧ g < B ∧ ∀ j (hj : j < ss.length), w.cell? ⟨g, o + j, none⟩ = some (.string ss[j])) := hga
  have HSZ : Hid (∀ s ∈ ss, s.size ≤ maxLen) := hsz
  have hBB : B ≤ w.heap.size := by omega
  clear hrv hqv hma hro hE hga hsz hBe
  go_enter Tryz.func8, Tryz.ntmps8
  go_wp2_with fail
  refine HOP.out.mono ?_
  rintro e w1 ⟨x, st, b, rfl, hM1⟩
  have HM1 : Hid (MV B w w1 x st b 0 (fun _ => none) [] (.slice none 0 0)) := hM1
  clear hM1 HOP
  go_wp2_with fail
  refine (HP1.out _).mono ?_
  rintro e w' ⟨rfl, rfl⟩
  clear HP1
  go_wp2_with fail
  refine (HP2.out _).mono ?_
  rintro e w' ⟨rfl, rfl⟩
  clear HP2
  go_wp2_with fail
  refine (HC1.out _ x st b HM1.out).mono ?_
  rintro e w2 ⟨rfl, hM2⟩
  have HM2 : Hid (MV B w w2 x st b 0 (setC (fun _ => none) 0 (some (newM (cfA (1 + (ma : Int)))))) [] (.slice none 0 0)) := hM2
  clear hM2 HM1 HC1
  go_wp2_with fail
  refine (HC2.out _ x st b HM2.out).mono ?_
  rintro e w3 ⟨rfl, hM3⟩
  have HM3 : Hid (MV B w w3 x st b 0 (c2 (gQ (cfA (1 + (ma : Int))) 1 0 [] 0 0) (gQ (cfB (1 + (ro : Int))) 1 0 [] 0 0)) [] (.slice none 0 0)) := hM3
  clear hM3 HM2 HC2
  go_upto_block 0 with fail
  go_cut [13] (fun s wx => ∃ (ts : List ByteArray) (sa : Option Addr) (sc : Nat), ts.length ≤ 12 ∧ s = .slice sa ts.length sc ∧ MV B w wx x st b 0 (c2 (gQ (cfA (1 + (ma : Int))) (ts.length + 1) 0 ts 0 0) (gQ (cfB (1 + (ro : Int))) 1 0 [] 0 0)) ts s)
  case first =>
    go_wp2_with fail
    go_loopw [13, 14] (fun s v wr => ∃ (k : Nat) (ts : List ByteArray) (sa : Option Addr) (sc : Nat), v = .int .i64 (k : Int) ∧ k ≤ ss.length ∧ k ≤ 12 ∧ ts.length = k ∧ s = .slice sa ts.length sc ∧ MV B w wr x st b 0 (c2 (gQ (cfA (1 + (ma : Int))) (ts.length + 1) 0 ts 0 0) (gQ (cfB (1 + (ro : Int))) 1 0 [] 0 0)) ts s) (fun _ v _ => 12 - (intOf v).toNat)
    case atStart => exact ⟨0, [], none, 0, rfl, Nat.zero_le _, by decide, rfl, rfl, HM3.out⟩
    case round =>
      obtain ⟨k, ts, sa, sc, rfl, hk1, hk2, hkt, rfl, hM⟩ := hrel
      have HM : Hid (MV B w wr x st b 0 (c2 (gQ (cfA (1 + (ma : Int))) (ts.length + 1) 0 ts 0 0) (gQ (cfB (1 + (ro : Int))) 1 0 [] 0 0)) ts (.slice sa ts.length sc)) := hM
      clear hM HM3
      subst hkt
      by_cases hlt : ts.length < ss.length
      · by_cases hlt2 : ts.length < 12
        · have HLW : Hid (∀ W, Calls Tryz.prog 19 #[.int .i64 (ts.length : Int), .int .i64 1] W fun e w' => e = .returned (.string ⟨(lowB ts.length 1).toArray⟩) ∧ Below W.heap.size W w') := fun W => low_any ts.length 1 W (by omega) (by decide) (by decide)
          obtain ⟨g, o, rfl, hg, hcs⟩ := HGA.out (by omega)
          have zw := HM.out.bel.size
          have c0 : wr.cell? ⟨g, o + ts.length, none⟩ = some (.string ss[ts.length]) := by
            rw [HM.out.bel.cell (p := ⟨g, o + ts.length, none⟩) hg]
            exact hcs ts.length hlt
          have gl : g < wr.heap.size := by omega
          have HSH : Hid (∀ W, Calls Tryz.prog 15 #[.string ss[ts.length], .int .i64 39] W fun e w' => e = .returned (.string (Keep.sh ss[ts.length] 39)) ∧ w' = W) := fun W => Keep.short_any ss[ts.length] 39 W (HSZ.out _ (List.getElem_mem hlt)) (by decide)
          have hs1 : (⟨(lowB ts.length 1).toArray⟩ : ByteArray).size = 1 := by show (lowB ts.length 1).toArray.size = 1; simp [lowB_length]
          have hs2 := Keep.sh_size ss[ts.length] 39
          have hadd : ∀ W, (Op.stringOp .add ⟨(lowB ts.length 1).toArray⟩ (Keep.sh ss[ts.length] 39)).run Tryz.prog W = .ok (.string (⟨(lowB ts.length 1).toArray⟩ ++ Keep.sh ss[ts.length] 39)) W := fun W => run_string_add_sum W _ _ (by omega)
          clear hcs
          generalize (⟨(lowB ts.length 1).toArray⟩ : ByteArray) = lo at *
          generalize Keep.sh ss[ts.length] 39 = sb at *
          generalize ss[ts.length] = sk at *
          go_wp2_with fail
          go_region_held3 (fun w' => w'.cell? ⟨g, o + ts.length, none⟩ = some (.string sk)) (go_keep) (first | (go_at_call 19; refine (HLW.out _).mono ?_; rintro e w4 ⟨rfl, hb4⟩; have k0 : w4.cell? ⟨g, o + ts.length, none⟩ = some (.string sk) := (hb4.cell (p := ⟨g, o + ts.length, none⟩) gl).trans c0) | (go_at_call 15; refine (HSH.out _).mono ?_; rintro e w5 ⟨rfl, h5⟩; have h6 := h5.symm; subst h6))
          have hM4 : MV B w w4 x st b 0 (c2 (gQ (cfA (1 + (ma : Int))) (ts.length + 1) 0 ts 0 0) (gQ (cfB (1 + (ro : Int))) 1 0 [] 0 0)) ts (.slice sa ts.length sc) := HM.out.tch ((Tch.refl [] wr).drew.trans (Tch.of_below hb4) (by simp))
          have hsz4 : (lo ++ sb).size ≤ 40 := by rw [dat_app]; omega
          generalize lo ++ sb = tt at *
          have HS4 : Hid (Calls Tryz.prog 18 _ w4 _) := mv_S B w w4 x st b (cfA (1 + (ma : Int))) (cfB (1 + (ro : Int))) rfl rfl _ ts (.slice sa ts.length sc) tt hsz4 (by omega) hM4
          clear hM4 hb4 HM k0 c0 HLW HSH hadd
          go_wp2_with fail
          refine HS4.out.mono ?_
          rintro e w5 ⟨rfl, hM5⟩
          have HM5 : Hid (MV B w w5 x st b 0 (c2 (gQ (cfA (1 + (ma : Int))) ((ts ++ [tt]).length + 1) 0 (ts ++ [tt]) 0 0) (gQ (cfB (1 + (ro : Int))) 1 0 [] 0 0)) ts (.slice sa ts.length sc)) := hM5
          have hl5 : (okL (lowB (ts.length + 1) 4)).size = 5 := by show (0 :: lowB (ts.length + 1) 4).toArray.size = 5; simp [lowB_length]
          clear hM5 HS4
          generalize okL (lowB (ts.length + 1) 4) = an at *
          go_wp2_with (at_builtin; refine wpList_valsD 0 _ rfl _ _ 25 9 rfl Tryz.underlying25 (.string ⟨#[]⟩) 1 16 info9 rfl (by decide) (by decide) (.slice sa ts.length sc) ts.length (ts.map Value.string) ?hvs ?hvo ?hvb w5.heap.size [.string tt] 1 ?hvx rfl (by decide) ?hvg ?hv1 (by omega) ?hvk)
          case hvs => simp [Act.eval, Act.put]
          case hvo => exact own_tch HM5.out.row ((Tch.refl [] _).alloc _) (fun _ _ => by simp)
          case hvb => omega
          case hvx => simp [Act.eval, Act.put]
          case hvg => exact heap_alloc_new _ _
          case hv1 => intro u hu; simp at hu; subst hu; rfl
          intro v2 w6 ho6 hg6 hb6
          have HM6 : Hid (MV B w w6 x st b 0 (c2 (gQ (cfA (1 + (ma : Int))) ((ts ++ [tt]).length + 1) 0 (ts ++ [tt]) 0 0) (gQ (cfB (1 + (ro : Int))) 1 0 [] 0 0)) (ts ++ [tt]) v2) := by
            refine HM5.out.put ?_ ?_ (fun k hk => ?_)
            · have t1 : Tch [] w5 (w5.alloc (.cells #[.string tt] 9)) := (Tch.refl _ _).alloc _
              exact (t1.sub (by simp)).trans (grown_tch hg6) (fun x hx _ => hx)
            · simpa using ho6
            · rcases hb6 with h6 | h6
              · exact .inl (h6.symm.trans hk)
              · rw [hk] at h6
                injection h6 with h6
                exact .inr (by omega)
          obtain ⟨sa2, sc2, hv2⟩ := own_shape' HM6.out.row
          subst hv2
          clear ho6 hg6 hb6 HM5
          go_wp2_with fail
          go_roundw
          case rel => exact ⟨(ts ++ [tt]).length, ts ++ [tt], sa2, sc2, by simp, by simp; omega, by simp; omega, rfl, rfl, HM6.out⟩
          case measure => simp [intOf]; omega
        · go_wp2_with fail
          go_meet
          exact ⟨ts, sa, sc, by omega, rfl, HM.out⟩
      · go_wp2_with fail
        go_meet
        exact ⟨ts, sa, sc, by omega, rfl, HM.out⟩
  case rest =>
    obtain ⟨ts, sa, sc, hl12, rfl, hM⟩ := hcut
    generalize wc = w4 at *
    have HM4 : Hid (MV B w w4 x st b 0 (c2 (gQ (cfA (1 + (ma : Int))) (ts.length + 1) 0 ts 0 0) (gQ (cfB (1 + (ro : Int))) 1 0 [] 0 0)) ts (.slice sa ts.length sc)) := hM
    have hbo1 : (1 : Int) + (ma : Int) ≤ 9 := by omega
    clear hM HM3
    by_cases hts : ts.length = 0
    · have hte : ts = [] := List.length_eq_zero_iff.1 hts
      subst hte
      have hz : ([] : List ByteArray).length = 0 := rfl
      rw [hz] at HM4
      try rw [hz]
      clear hts hl12
      obtain ⟨C0, HC0⟩ : ∃ C0, Hid (C0 = c2 (gQ (cfA (1 + (ma : Int))) 1 0 [] 0 0) (gQ (cfB (1 + (ro : Int))) 1 0 [] 0 0)) := ⟨_, rfl⟩
      have HMV : Hid (MV B w w4 x st b (((5 * 0 : Nat)) : Int) C0 [] (.slice sa 0 sc)) := by
        rw [HC0.out]
        exact HM4.out
      have HR : Hid (∀ W (now : Int), MV B w W x st b now C0 [] (.slice sa 0 sc) → Calls Tryz.prog 22 #[.pointer (some ⟨x, 0, none⟩), .int .u8 97, .string ⟨#[]⟩, .int .i64 1] W fun e w' => ∃ a cp, e = .returned (.tuple #[.slice a 0 cp, .bool true]) ∧ MV B w w' x st b now C0 [] (.slice sa 0 sc)) := fun W now h => mv_R0 B w W 97 x st b 0 (by decide) rfl now C0 (cfA (1 + (ma : Int))) 1 0 0 [] (.slice sa 0 sc) (by rw [HC0.out]; rfl) h
      have HTT : Hid (∀ W (i : Nat), i ≤ 9 → MV B w W x st b (((5 * i : Nat)) : Int) C0 [] (.slice sa 0 sc) → Calls Tryz.prog 18 #[.pointer (some ⟨x, 0, none⟩), .agg #[.int .u8 84, .int .u8 0, .int .u8 0, .int .i64 0, .int .i64 0, .int .i64 0, .int .i64 0, .int .i64 0, .int .i64 5, .string ⟨#[]⟩, .string ⟨#[]⟩, .string ⟨#[]⟩, .string ⟨#[]⟩, .string ⟨#[]⟩, .slice none 0 0]] W fun e w' => e = .returned (.string ⟨#[0]⟩) ∧ MV B w w' x st b (((5 * (i + 1) : Nat)) : Int) C0 [] (.slice sa 0 sc)) := fun W i hi h => by
        have h1 := mv_T B w W x st b _ C0 [] (.slice sa 0 sc) (by omega) h
        have e1 : (((5 * i : Nat)) : Int) + 5 = (((5 * (i + 1) : Nat)) : Int) := by omega
        rw [e1, HC0.out, time_still, ← HC0.out] at h1
        exact h1
      clear HM4 HGA HSZ HC0
      go_wp2_with fail
      go_loopw [18] (fun v wr => ∃ i : Nat, v = .int .i64 (i : Int) ∧ i ≤ ma + 1 ∧ MV B w wr x st b (((5 * i : Nat)) : Int) C0 [] (.slice sa 0 sc)) (fun v _ => ma + 1 - (intOf v).toNat)
      case atStart => exact ⟨0, rfl, Nat.zero_le _, HMV.out⟩
      case round =>
        obtain ⟨i, rfl, hi, hM⟩ := hrel
        have HM : Hid (MV B w wr x st b (((5 * i : Nat)) : Int) C0 [] (.slice sa 0 sc)) := hM
        clear hM HMV
        by_cases hlt : i < ma + 1
        · have hlt' : (i : Int) < 1 + (ma : Int) := by omega
          have HR1 : Hid (Calls Tryz.prog 22 _ wr _) := HR.out wr _ HM.out
          go_wp2_with fail
          refine HR1.out.mono ?_
          rintro e w5 ⟨a5, cp5, rfl, hM5⟩
          have HT5 : Hid (Calls Tryz.prog 18 _ w5 _) := HTT.out w5 i (by omega) hM5
          clear hM5 HR1 HM
          go_wp2_with fail
          refine HT5.out.mono ?_
          rintro e w6 ⟨rfl, hM6⟩
          have HM6 : Hid (MV B w w6 x st b (((5 * (i + 1) : Nat)) : Int) C0 [] (.slice sa 0 sc)) := hM6
          clear hM6 HT5
          go_wp2_with fail
          go_roundw
          case rel => exact ⟨i + 1, by go_num, by omega, HM6.out⟩
          case measure => simp [intOf]; omega
        · have hlt' : ¬ (i : Int) < 1 + (ma : Int) := by omega
          have HR1 : Hid (Calls Tryz.prog 22 _ wr _) := HR.out wr _ HM.out
          clear HTT HR HM
          go_wp2_with fail
          refine HR1.out.mono ?_
          rintro e w5 ⟨a5, cp5, rfl, hM5⟩
          have HB5 : Hid (Below B w w5) := hM5.bel
          clear hM5 HR1
          go_wp2_with fail
          refine wp_loop_rounds 1 ?_
          rw [rounds_succ]
          go_wp2_with fail
          go_ret
          exact ⟨rfl, HB5.out⟩
    · have hpos : 0 < ts.length := by omega
      obtain ⟨gs, cps, hsv, lgs⟩ := mv_row HM4.out hpos
      simp only [Value.slice.injEq, true_and] at hsv
      obtain ⟨rfl, rfl⟩ := hsv
      clear hts
      obtain ⟨t0, r0, HTS⟩ : ∃ t r, Hid (ts = t :: r) := by
        cases ts with
        | nil => simp at hpos
        | cons t r => exact ⟨t, r, rfl⟩
      have HMV : Hid (MV B w w4 x st b (((5 * 0 : Nat)) : Int) (cAt ma ro ts 0) ts (.slice (some ⟨gs, 0, none⟩) ts.length sc)) := by
        rw [cAt_stay ma ro ts 0 (by omega)]
        exact HM4.out
      have HR : Hid (∀ W (now : Int) (i : Nat), i ≤ 9 → MV B w W x st b now (c2 (gQ (cfA (1 + (ma : Int))) (ts.length + 1) 0 ts (i : Int) 0) (gQ (cfB (1 + (ro : Int))) 1 0 [] 0 0)) ts (.slice (some ⟨gs, 0, none⟩) ts.length sc) → Calls Tryz.prog 22 #[.pointer (some ⟨x, 0, none⟩), .int .u8 97, .string ⟨#[]⟩, .int .i64 1] W fun e w' => ∃ g cp, e = .returned (.tuple #[.slice (some ⟨g, 0, none⟩) 1 cp, .bool true]) ∧ w'.cell? ⟨g, 2, none⟩ = some (.string t0) ∧ MV B w w' x st b now (c2 (gQ (cfA (1 + (ma : Int))) (ts.length + 1) 0 ts ((i + 1 : Nat) : Int) (now + 5)) (gQ (cfB (1 + (ro : Int))) 1 0 [] 0 0)) ts (.slice (some ⟨gs, 0, none⟩) ts.length sc)) := fun W now i hi h => by
        have h1 := mv_R B w W 97 x st b 0 (by decide) rfl now _ (cfA (1 + (ma : Int))) (ts.length + 1) 0 i (by omega) rfl t0 r0 ts _ (by rw [c2_0, ← HTS.out]) h
        refine h1.mono ?_
        rintro e w' ⟨g, cp, he, k0, k1, k2, hm⟩
        rw [set_c2_0, ← HTS.out] at hm
        exact ⟨g, cp, he, k2, hm⟩
      have HTT : Hid (∀ W (i : Nat), i < ma + 1 → MV B w W x st b (((5 * i : Nat)) : Int) (c2 (gQ (cfA (1 + (ma : Int))) (ts.length + 1) 0 ts ((i + 1 : Nat) : Int) ((((5 * i : Nat)) : Int) + 5)) (gQ (cfB (1 + (ro : Int))) 1 0 [] 0 0)) ts (.slice (some ⟨gs, 0, none⟩) ts.length sc) → Calls Tryz.prog 18 #[.pointer (some ⟨x, 0, none⟩), .agg #[.int .u8 84, .int .u8 0, .int .u8 0, .int .i64 0, .int .i64 0, .int .i64 0, .int .i64 0, .int .i64 0, .int .i64 5, .string ⟨#[]⟩, .string ⟨#[]⟩, .string ⟨#[]⟩, .string ⟨#[]⟩, .string ⟨#[]⟩, .slice none 0 0]] W fun e w' => e = .returned (.string ⟨#[0]⟩) ∧ MV B w w' x st b (((5 * (i + 1) : Nat)) : Int) (cAt ma ro ts (i + 1)) ts (.slice (some ⟨gs, 0, none⟩) ts.length sc)) := fun W i hi h => by
        have h1 := mv_T B w W x st b _ _ ts (.slice (some ⟨gs, 0, none⟩) ts.length sc) (by omega) h
        rw [cAt_next ma ro (by omega) ts hpos (by omega) i hi _ _ ⟨by omega, by omega⟩] at h1
        have e1 : (((5 * i : Nat)) : Int) + 5 = (((5 * (i + 1) : Nat)) : Int) := by omega
        rw [e1] at h1
        exact h1
      clear HM4 HGA HSZ
      go_wp2_with fail
      go_loopw [18] (fun v wr => ∃ i : Nat, v = .int .i64 (i : Int) ∧ i ≤ ma + 1 ∧ MV B w wr x st b (((5 * i : Nat)) : Int) (cAt ma ro ts i) ts (.slice (some ⟨gs, 0, none⟩) ts.length sc)) (fun v _ => ma + 1 - (intOf v).toNat)
      case atStart => exact ⟨0, rfl, Nat.zero_le _, HMV.out⟩
      case round =>
        obtain ⟨i, rfl, hi, hM⟩ := hrel
        clear HMV
        by_cases hlt : i < ma + 1
        · have hlt' : (i : Int) < 1 + (ma : Int) := by omega
          rw [cAt_stay ma ro ts i hlt] at hM
          have HR1 : Hid (Calls Tryz.prog 22 _ wr _) := HR.out wr _ i (by omega) hM
          clear hM
          go_wp2_with fail
          refine HR1.out.mono ?_
          rintro e w5 ⟨g5, cp5, rfl, _, hM5⟩
          have HT5 : Hid (Calls Tryz.prog 18 _ w5 _) := HTT.out w5 i hlt hM5
          clear hM5 HR1
          go_wp2_with fail
          refine HT5.out.mono ?_
          rintro e w6 ⟨rfl, hM6⟩
          have HM6 : Hid (MV B w w6 x st b (((5 * (i + 1) : Nat)) : Int) (cAt ma ro ts (i + 1)) ts (.slice (some ⟨gs, 0, none⟩) ts.length sc)) := hM6
          clear hM6 HT5
          go_wp2_with fail
          go_roundw
          case rel => exact ⟨i + 1, by go_num, by omega, HM6.out⟩
          case measure => simp [intOf]; omega
        · have hie : i = ma + 1 := by omega
          subst hie
          have hlt' : ¬ (((ma + 1 : Nat)) : Int) < 1 + (ma : Int) := by omega
          clear HTT
          by_cases hrm : ts.length ≤ ro + 1
          · have HMO : Hid (MV B w wr x st b (((5 * (ma + 1) : Nat)) : Int) (c2 (gQ (cfA (1 + (ma : Int))) (ts.length + 1) 0 [] 0 0) (gQ (cfB (1 + (ro : Int))) (ts.length + 1) 0 ts 0 0)) ts (.slice (some ⟨gs, 0, none⟩) ts.length sc)) := by
              have h := hM
              unfold cAt at h
              rw [if_pos ⟨rfl, hrm⟩] at h
              exact h
            have HR1 : Hid (Calls Tryz.prog 22 #[.pointer (some ⟨x, 0, none⟩), .int .u8 97, .string ⟨#[]⟩, .int .i64 1] wr fun e w' => ∃ a cp, e = .returned (.tuple #[.slice a 0 cp, .bool true]) ∧ MV B w w' x st b (((5 * (ma + 1) : Nat)) : Int) (c2 (gQ (cfA (1 + (ma : Int))) (ts.length + 1) 0 [] 0 0) (gQ (cfB (1 + (ro : Int))) (ts.length + 1) 0 ts 0 0)) ts (.slice (some ⟨gs, 0, none⟩) ts.length sc)) := mv_R0 B w wr 97 x st b 0 (by decide) rfl _ _ (cfA (1 + (ma : Int))) (ts.length + 1) 0 0 ts _ (c2_0 _ _) HMO.out
            have hnr : ¬ (1 : Int) + (ro : Int) < (ts.length : Int) := by omega
            obtain ⟨now, HNW⟩ : ∃ now : Int, Hid (now = (((5 * (ma + 1) : Nat)) : Int)) := ⟨_, rfl⟩
            rw [← HNW.out] at HR1
            have hnw : 0 ≤ now ∧ now ≤ 50000 := by have := HNW.out; omega
            clear hM HR HMO HTS HNW
            go_wp2_with fail
            refine HR1.out.mono ?_
            rintro e w5 ⟨a5, cp5, rfl, hM5⟩
            have HM5 : Hid (MV B w w5 x st b now (c2 (gQ (cfA (1 + (ma : Int))) (ts.length + 1) 0 [] 0 0) (gQ (cfB (1 + (ro : Int))) (ts.length + 1) 0 ts 0 0)) ts (.slice (some ⟨gs, 0, none⟩) ts.length sc)) := hM5
            clear hM5 HR1
            go_wp2_with fail
            have HRB : Hid (∀ W (k : Nat) (hk : k < ts.length), MV B w W x st b now (c2 (gQ (cfA (1 + (ma : Int))) (ts.length + 1) 0 [] 0 0) (gQ (cfB (1 + (ro : Int))) (ts.length + 1) k (ts.drop k) 0 0)) ts (.slice (some ⟨gs, 0, none⟩) ts.length sc) → Calls Tryz.prog 22 #[.pointer (some ⟨x, 0, none⟩), .int .u8 98, .string ⟨#[]⟩, .int .i64 1] W fun e w' => ∃ g cp, e = .returned (.tuple #[.slice (some ⟨g, 0, none⟩) 1 cp, .bool true]) ∧ w'.cell? ⟨g, 0, none⟩ = some (.string ⟨(hanB 98 (k + 1) 1).toArray⟩) ∧ w'.cell? ⟨g, 1, none⟩ = some (.string gS) ∧ w'.cell? ⟨g, 2, none⟩ = some (.string ts[k]) ∧ MV B w w' x st b now (c2 (gQ (cfA (1 + (ma : Int))) (ts.length + 1) 0 [] 0 0) (gQ (cfB (1 + (ro : Int))) (ts.length + 1) k (ts[k] :: ts.drop (k + 1)) ((1 : Nat) : Int) (now + 5))) ts (.slice (some ⟨gs, 0, none⟩) ts.length sc)) := fun W k hk h => by
              have hd : ts.drop k = ts[k] :: ts.drop (k + 1) := List.drop_eq_getElem_cons hk
              have h1 := mv_R B w W 98 x st b 1 (by decide) rfl now _ (cfB (1 + (ro : Int))) (ts.length + 1) k 0 (by omega) rfl ts[k] (ts.drop (k + 1)) ts _ (by rw [c2_1, hd]; rfl) h
              refine h1.mono ?_
              rintro e w' ⟨g, cp, he, k0, k1, k2, hm⟩
              rw [set_c2_1] at hm
              exact ⟨g, cp, he, k0, k1, k2, hm⟩
            have HAB : Hid (∀ W (k : Nat) (hk : k < ts.length), MV B w W x st b now (c2 (gQ (cfA (1 + (ma : Int))) (ts.length + 1) 0 [] 0 0) (gQ (cfB (1 + (ro : Int))) (ts.length + 1) k (ts[k] :: ts.drop (k + 1)) ((1 : Nat) : Int) (now + 5))) ts (.slice (some ⟨gs, 0, none⟩) ts.length sc) → Calls Tryz.prog 18 #[.pointer (some ⟨x, 0, none⟩), .agg #[.int .u8 65, .int .u8 0, .int .u8 0, .int .i64 0, .int .i64 0, .int .i64 0, .int .i64 0, .int .i64 0, .int .i64 0, .string ⟨#[]⟩, .string ⟨#[]⟩, .string ⟨#[]⟩, .string ⟨#[]⟩, .string ⟨(hanB 98 (k + 1) 1).toArray⟩, .slice none 0 0]] W fun e w' => e = .returned (.string ⟨#[0]⟩) ∧ MV B w w' x st b now (c2 (gQ (cfA (1 + (ma : Int))) (ts.length + 1) 0 [] 0 0) (gQ (cfB (1 + (ro : Int))) (ts.length + 1) (k + 1) (ts.drop (k + 1)) 0 0)) ts (.slice (some ⟨gs, 0, none⟩) ts.length sc)) := fun W k hk h => by
              have h1 := mv_A B w W x st b 1 (by decide) now _ (cfB (1 + (ro : Int))) rfl (ts.length + 1) k 1 (by omega) (by omega) (now + 5) (by omega) ts[k] (ts.drop (k + 1)) ts _ (c2_1 _ _) h
              refine h1.mono ?_
              rintro e w' ⟨he, hm⟩
              rw [set_c2_1] at hm
              exact ⟨he, hm⟩
            have HSQ : Hid (∀ W (k : Nat), k ≤ 12 → Calls Tryz.prog 26 #[.string ⟨(hanB 98 (k + 1) 1).toArray⟩] W fun e w' => e = .returned (.int .i64 (((k + 1 : Nat)) : Int)) ∧ w' = W) := fun W k hk => seq_any 98 (k + 1) 1 (by omega) W
            go_loopw [24] (fun v wr => ∃ k : Nat, v = .int .i64 (k : Int) ∧ k ≤ ts.length ∧ MV B w wr x st b now (c2 (gQ (cfA (1 + (ma : Int))) (ts.length + 1) 0 [] 0 0) (gQ (cfB (1 + (ro : Int))) (ts.length + 1) k (ts.drop k) 0 0)) ts (.slice (some ⟨gs, 0, none⟩) ts.length sc)) (fun v _ => ts.length - (intOf v).toNat)
            case atStart => exact ⟨0, rfl, Nat.zero_le _, HM5.out⟩
            case round =>
              obtain ⟨k, rfl, hk, hM⟩ := hrel
              clear HM5
              by_cases hkl : k < ts.length
              · have HR2 : Hid (Calls Tryz.prog 22 _ _ _) := HRB.out _ k hkl hM
                clear hM
                go_wp2_with fail
                refine HR2.out.mono ?_
                rintro e w6 ⟨g6, cp6, rfl, k0, k1, k2, hM6⟩
                have kc := mv_cell hM6 k hkl
                have HM6 : Hid (MV B w w6 x st b now (c2 (gQ (cfA (1 + (ma : Int))) (ts.length + 1) 0 [] 0 0) (gQ (cfB (1 + (ro : Int))) (ts.length + 1) k (ts[k] :: ts.drop (k + 1)) ((1 : Nat) : Int) (now + 5))) ts (.slice (some ⟨gs, 0, none⟩) ts.length sc)) := hM6
                have lg6 := World.block_lt_of_cell? _ _ k2
                have lgs6 := World.block_lt_of_cell? _ _ kc
                have HA6 : Hid (∀ n, Calls Tryz.prog 18 _ (w6.drewN n) _) := fun n => HAB.out (w6.drewN n) k hkl (HM6.out.drewN n)
                have HQ6 : Hid (∀ W, Calls Tryz.prog 26 #[.string ⟨(hanB 98 (k + 1) 1).toArray⟩] W fun e w' => e = .returned (.int .i64 (((k + 1 : Nat)) : Int)) ∧ w' = W) := fun W => HSQ.out W k (by omega)
                clear hM6 HR2 HM6
                generalize ts[k] = tk6 at *
                generalize (⟨(hanB 98 (k + 1) 1).toArray⟩ : ByteArray) = hn6 at *
                have heq : (tk6.toList == tk6.toList) = true := beq_self_eq_true _
                go_wp2_with fail
                go_quiet (fail)
                go_wp2_with fail
                refine (HQ6.out _).mono ?_
                rintro e w7 ⟨rfl, h7⟩
                subst h7
                go_wp2_with fail
                refine (HA6.out _).mono ?_
                rintro e w8 ⟨rfl, hM8⟩
                have HM8 : Hid (MV B w w8 x st b now (c2 (gQ (cfA (1 + (ma : Int))) (ts.length + 1) 0 [] 0 0) (gQ (cfB (1 + (ro : Int))) (ts.length + 1) (k + 1) (ts.drop (k + 1)) 0 0)) ts (.slice (some ⟨gs, 0, none⟩) ts.length sc)) := hM8
                clear hM8 HA6 HQ6 k0 k1 k2 kc
                go_wp2_with fail
                go_roundw
                case rel => exact ⟨k + 1, by go_num, by omega, HM8.out⟩
                case measure => simp [intOf]; omega
              · have HB6 : Hid (Below B w _) := hM.bel
                clear hM HRB HAB HSQ
                go_wp2_with fail
                go_ret
                exact ⟨rfl, HB6.out⟩
          · have HR1 : Hid (Calls Tryz.prog 22 _ wr _) := HR.out wr _ (ma + 1) (by omega) (by
              have h := hM
              unfold cAt at h
              rw [if_neg (fun hh => hrm hh.2)] at h
              exact h)
            have hnr : (1 : Int) + (ro : Int) < (ts.length : Int) := by omega
            clear hM HR
            go_wp2_with fail
            refine HR1.out.mono ?_
            rintro e w5 ⟨g5, cp5, rfl, k2, hM5⟩
            have kc := mv_cell hM5 0 hpos
            have ht0 : ts[0] = t0 := by simp [HTS.out]
            rw [ht0] at kc
            have HB5 : Hid (Below B w w5) := hM5.bel
            have lg5 := World.block_lt_of_cell? _ _ k2
            have lgs5 := World.block_lt_of_cell? _ _ kc
            have heq : (t0.toList == t0.toList) = true := beq_self_eq_true _
            clear hM5 HR1 HTS ht0
            go_wp2_with fail
            go_quiet (fail)
            go_wp2_with fail
            go_ret
            exact ⟨rfl, HB5.out.os, HB5.out.tape, HB5.out.output, HB5.out.size, HB5.out.block⟩
end Go.Proofs.YtbdobaapadlcjaaGreatDoor
