import Derived.Test.YtbdobaapadlcjaaGreatDoorOx05
import Derived.Test.YtbdobaapadlcjaaGreatDoorOx00
import Derived.Lib.Bytes
import Derived.Test.YtbdobaapadlcjaaGreatDoorOx10
import Derived.Shelf.Abstract
import Derived.Handy
namespace Go.Proofs.YtbdobaapadlcjaaGreatDoor
open Go.RowKit
set_option linter.unusedVariables false
set_option linter.unusedSimpArgs false
def didS (r : Wp.Rq) : ByteArray := if r.ded.size = 0 then ⟨(0 :: lowB (Crc.crc r.bod.data.toList) 4).toArray⟩ else r.ded
theorem toList_nil (s : ByteArray) (h : s.size = 0) : s = ⟨#[]⟩ := by
  have h1 : s.data.size = 0 := h
  have h2 : s.data = #[] := Array.eq_empty_of_size_eq_zero h1
  cases s
  simp at h2
  rw [h2]
theorem ne_nil (s : ByteArray) (h : s.size ≠ 0) : s.toList.isEmpty = false := by
  rw [Lib.toList_data]
  cases hl : s.data.toList with
  | nil => exact absurd (show s.size = 0 by rw [ByteArray.size, ← Array.length_toList, hl]; rfl) h
  | cons a l => rfl
theorem crc_lt (l : List UInt8) : Crc.crc l < 4294967296 := by
  show 4294967295 - _ < 4294967296
  omega
set_option maxHeartbeats 1000000 in
theorem dedupID_any (r : Wp.Rq) (y : Sl) (w : World) (hb : r.bod.size ≤ maxLen) (hT : Tab w) (h2 : 2 < w.heap.size) :
    Calls Tryz.prog 216 #[.agg (cellsOf r y.v)] w fun e w' => e = .returned (.string (didS r)) ∧ Below w.heap.size w w' := by
  rw [show cellsOf r y.v = #[.int .u8 (r.op.toNat : Int), .int .u8 (r.q.toNat : Int), .int .u8 (r.d.toNat : Int), .int .i64 r.vis, .int .i64 r.win, .int .i64 r.rcv, .int .i64 r.quo, .int .i64 r.mx, .int .i64 r.tic, .string r.grp, .string r.ded, .string r.bod, .string r.att, .string r.han, .slice y.a y.n y.c] from rfl]
  by_cases hd : r.ded.size = 0
  · have e0 : r.ded = ⟨#[]⟩ := toList_nil _ hd
    have hdid : Hid (didS r = ⟨(0 :: lowB (Crc.crc r.bod.data.toList) 4).toArray⟩) := by show _ = _; unfold didS; rw [if_pos hd]
    rw [e0]
    clear e0 hd
    have HD : Hid (∀ W : World, (W.alloc (.cells #[.int .u8 0] 5)).ownsRow W.heap.size 5 1 (.slice (some ⟨W.heap.size, 0, none⟩) 1 1) 1 [.int .u8 0]) := fun W => ⟨rfl, .inr ⟨W.heap.size, 1, #[.int .u8 0], rfl, Nat.le_refl _, heap_alloc_new _ _, by decide, by decide, rfl, rfl⟩⟩
    have HC : Hid (Crc.crc r.bod.data.toList < 4294967296) := crc_lt _
    have HCK : Hid (∀ W, Below w.heap.size w W → Calls Tryz.prog 92 #[.string r.bod] W fun e w' => e = .returned (.int .u32 (Crc.crc r.bod.data.toList : Nat)) ∧ w' = W) := fun W hbW => check_any _ W hb (hT.below hbW h2)
    clear hT h2 hb
    generalize Crc.crc r.bod.data.toList = N at *
    have hN := HC.out
    go_enter Tryz.func216, Tryz.ntmps216
    go_wp2_with (go_at_call 92; refine (HCK.out _ (((Below.refl _ _).alloc (Nat.le_refl _) _).alloc (by simp) _)).mono ?_; rintro e w' ⟨rfl, rfl⟩)
    have ha := HD.out (w.alloc (.cells #[.int .u8 (r.op.toNat : Int), .int .u8 (r.q.toNat : Int), .int .u8 (r.d.toNat : Int), .int .i64 r.vis, .int .i64 r.win, .int .i64 r.rcv, .int .i64 r.quo, .int .i64 r.mx, .int .i64 r.tic, .string r.grp, .string ⟨#[]⟩, .string r.bod, .string r.att, .string r.han, .slice y.a y.n y.c] 27))
    rw [World.size_alloc] at ha
    refine (appendNumber_any (w.heap.size + 1) _ [0] N 4 _ hN (by decide) (by decide) (by simp) ha).mono ?_
    rintro e w2 ⟨v', rfl, ho, hbel⟩
    have hstr : (convert 74 9 v').run Tryz.prog w2 = .ok (.string ⟨(0 :: lowB N 4).toArray⟩) w2 := OwnB.str ho (by simp)
    have HBE : Hid (Below w.heap.size w w2) := (((Below.refl _ _).alloc (Nat.le_refl _) _).alloc (by simp) _).trans (hbel.mono (by omega))
    clear ha ho hbel
    go_wp2_with fail
    go_ret
    exact ⟨by rw [hdid.out]; rfl, HBE.out⟩
  · have hne := ne_nil _ hd
    have hdid : Hid (didS r = r.ded) := by show _ = _; unfold didS; rw [if_neg hd]
    clear hd
    go_enter Tryz.func216, Tryz.ntmps216
    go_wp2_with fail
    go_ret
    exact ⟨by rw [hdid.out]; rfl, (Below.refl _ _).alloc (Nat.le_refl _) _⟩
def recB (s : ByteArray) : List UInt8 := (lowB s.size 4 ++ lowB (Crc.crc s.data.toList) 4) ++ s.data.toList
theorem recB_length (s : ByteArray) : (recB s).length = 8 + s.size := by
  rw [recB, List.length_append, List.length_append, lowB_length, lowB_length]; rfl
set_option maxHeartbeats 1000000 in
theorem record_any (s : ByteArray) (w : World) (hs : s.size ≤ 1048576) (hT : Tab w) (h2 : 2 < w.heap.size) :
    Calls Tryz.prog 64 #[.slice none 0 0, .string s] w fun e w' => ∃ v, e = .returned v ∧ OwnB w' w.heap.size v (recB s) ∧ Below w.heap.size w w' := by
  obtain ⟨i0, hi, hz0, hz1, hz2⟩ := info_parts info5
  have hnum : Hid (Calls Tryz.prog 91 #[.slice none 0 0, .int .i64 (s.size : Int), .int .i64 4] w fun e w' => ∃ v', e = .returned v' ∧ OwnB w' w.heap.size v' ([] ++ lowB s.size 4) ∧ Below w.heap.size w w') :=
    appendNumber_any w.heap.size _ [] s.size 4 w (by omega) (by decide) (by decide) (Nat.le_refl _) (World.ownsRow_nil _ _ _ _)
  have HC : Hid (Crc.crc s.data.toList < 4294967296) := crc_lt _
  have HCK : Hid (∀ W, Below w.heap.size w W → Calls Tryz.prog 92 #[.string s] W fun e w' => e = .returned (.int .u32 (Crc.crc s.data.toList : Nat)) ∧ w' = W) := fun W hbW => check_any _ W (by unfold maxLen; omega) (hT.below hbW h2)
  have hrec : Hid (recB s = (([] ++ lowB s.size 4) ++ lowB (Crc.crc s.data.toList) 4) ++ s.data.toList) := by show _ = _; simp [recB]
  clear hT h2
  generalize Crc.crc s.data.toList = N at *
  have hN := HC.out
  go_enter Tryz.func64, Tryz.ntmps64
  go_wp2_with fail
  refine (hnum.out).mono ?_
  rintro e w1 ⟨v1, rfl, ho1, hb1⟩
  have HO : Hid (OwnB w1 w.heap.size v1 ([] ++ lowB s.size 4)) := ho1
  have HB : Hid (Below w.heap.size w w1) := hb1
  clear ho1 hb1
  go_wp2_with (go_at_call 92; refine (HCK.out _ HB.out).mono ?_; rintro e w' ⟨rfl, rfl⟩)
  refine (appendNumber_any w.heap.size _ _ N 4 _ hN (by decide) (by simp [lowB_length]) HB.out.size HO.out).mono ?_
  rintro e w2 ⟨v2, rfl, ho2, hb2⟩
  have hle : (([] ++ lowB s.size 4) ++ lowB N 4).length ≤ 100 := by simp [lowB_length]
  generalize (([] ++ lowB s.size 4) ++ lowB N 4) = L at ho2 hle hrec
  have HO2 : Hid (OwnB w2 w.heap.size v2 L) := ho2
  have HB2 : Hid (Below w.heap.size w w2) := HB.out.trans hb2
  have hsz := HB2.out.size
  clear ho2 hb2
  go_wp2_with (at_builtin; refine Lib.wpList_append_own_string _ rfl _ _ 74 9 rfl w.heap.size 5 i0 Tryz.underlying74 Tryz.underlying9 hi hz0 hz1 hz2 _ _ _ rfl HO2.out s rfl ?c1 ?c2 ?c3 ?_)
  case c1 => unfold maxLen; omega
  case c2 => omega
  case c3 => omega
  intro v' w3 hown' hgrow _
  have hr1 : OwnB w3 w.heap.size v' (recB s) := by
    rw [hrec.out]
    unfold OwnB
    have e1 : bytesV (L ++ s.data.toList) = bytesV L ++ Lib.strCells s := by rw [← bytesV_str]; simp [bytesV]
    have e2 : (L ++ s.data.toList).length = L.length + s.size := by rw [List.length_append]; rfl
    rw [e1, e2]
    exact hown'
  have hr2 : Below w.heap.size w w3 := by
    refine Below.grown HB2.out hgrow (by omega) ?_
    intro k hk
    exact (World.ownsRow.lt HO2.out k hk).1
  clear hown' hgrow
  go_wp2
  go_ret
  exact ⟨_, rfl, hr1, hr2⟩
abbrev jn : ByteArray := ⟨#[106, 111, 117, 114, 110, 97, 108]⟩
abbrev jw : ByteArray := ⟨#[106, 111, 117, 114, 110, 97, 108, 46, 110, 101, 119]⟩
abbrev Dd0 (w : World) (d : Nat) (v : Value) (fs : List Dk.DF) : Prop := Dk.Dsk w 110 116 d v ⟨fs, -1, false⟩
abbrev Gd0 (fs : List Dk.DF) (n k : Nat) : Prop := Dk.Good ⟨fs, -1, false⟩ n k
def Stp (w w' : World) (d : Nat) (v : Value) (n k : Nat) : Prop := ∃ v' fs', Dd0 w' d v' fs' ∧ Gd0 fs' n k ∧ Tch (Dk.bl d v) w w' ∧ ∀ b, v'.ownBlock = some b → v.ownBlock = some b ∨ w.heap.size ≤ b
structure Jr (w : World) (j d : Nat) (room : Int) (v : Value) (fs : List Dk.DF) (n k : Nat) : Prop where
  hj : w.heap[j]? = some (.cells #[.pointer (some ⟨d, 0, none⟩), .int .i64 room, .bool false] 143 (0, 0))
  dsk : Dd0 w d v fs
  gd : Gd0 fs n k
def jbl (j d : Nat) (v : Value) : List Nat := j :: Dk.bl d v
theorem Jr.ne {w : World} {j d : Nat} {room : Int} {v : Value} {fs : List Dk.DF} {n k : Nat} (h : Jr w j d room v fs n k) : j ∉ Dk.bl d v := fun hm => by
  rcases List.mem_cons.1 hm with e | e
  · have h1 := h.hj
    have h2 : w.heap[d]? = _ := h.dsk.blk
    rw [← e, h1] at h2
    simp at h2
  · exact own_ne h.dsk.own h.hj (by decide) (by simpa [Option.mem_toList] using e)
theorem Jr.tch {w w' : World} {j d : Nat} {room : Int} {v : Value} {fs : List Dk.DF} {n k : Nat} (h : Jr w j d room v fs n k) {S : List Nat} (ht : Tch S w w') (hS : ∀ b ∈ jbl j d v, b ∉ S) : Jr w' j d room v fs n k :=
  ⟨(ht.block _ (lt_of_block h.hj) (hS _ (by simp [jbl]))).trans h.hj, h.dsk.tch ht (fun b hb => hS b (List.mem_cons_of_mem _ hb)), h.gd⟩
theorem Jr.apart {w : World} {j d : Nat} {room : Int} {v : Value} {fs : List Dk.DF} {n k : Nat} (h : Jr w j d room v fs n k) {b : Nat} {C : Array Value} {t : TypeId} (hb : w.heap[b]? = some (.cells C t (0, 0))) (h1 : 143 ≠ t) (h2 : 110 ≠ t) (h3 : 116 ≠ t) : b ∉ jbl j d v := fun hm => by
  rcases List.mem_cons.1 hm with e | e
  · have h0 := h.hj
    rw [← e, hb] at h0
    simp at h0
    exact h1 h0.2.symm
  · rcases List.mem_cons.1 e with e | e
    · have h0 : w.heap[d]? = _ := h.dsk.blk
      rw [← e, hb] at h0
      simp at h0
      exact h2 h0.2.symm
    · exact own_ne h.dsk.own hb h3 (by simpa [Option.mem_toList] using e)
def Jl (w w' : World) (j d : Nat) (v : Value) (room : Int) (n k : Nat) : Prop := ∃ v' fs', Jr w' j d room v' fs' n k ∧ Tch (jbl j d v) w w' ∧ ∀ b, v'.ownBlock = some b → v.ownBlock = some b ∨ w.heap.size ≤ b
theorem Jr.c0 {w : World} {j d : Nat} {room : Int} {v : Value} {fs : List Dk.DF} {n k : Nat} (h : Jr w j d room v fs n k) : w.cell? ⟨j, 0, none⟩ = some (.pointer (some ⟨d, 0, none⟩)) := (cell_of_row w j 0 _ 143 (0, 0) h.hj).trans rfl
theorem Jr.c1 {w : World} {j d : Nat} {room : Int} {v : Value} {fs : List Dk.DF} {n k : Nat} (h : Jr w j d room v fs n k) : w.cell? ⟨j, 1, none⟩ = some (.int .i64 room) := (cell_of_row w j 1 _ 143 (0, 0) h.hj).trans rfl
theorem Jr.c2 {w : World} {j d : Nat} {room : Int} {v : Value} {fs : List Dk.DF} {n k : Nat} (h : Jr w j d room v fs n k) : w.cell? ⟨j, 2, none⟩ = some (.bool false) := (cell_of_row w j 2 _ 143 (0, 0) h.hj).trans rfl
theorem Jr.fz {w : World} {j d : Nat} {room : Int} {v : Value} {fs : List Dk.DF} {n k : Nat} (h : Jr w j d room v fs n k) (o : Nat) : w.frozen? ⟨j, o, none⟩ = false := frozen_of_row w j o _ 143 h.hj
theorem Jr.tj {w : World} {j d : Nat} {room : Int} {v : Value} {fs : List Dk.DF} {n k : Nat} (h : Jr w j d room v fs n k) : ∀ b ∈ Dk.bl d v, b ∉ [j] := fun b hb hm => by
  simp at hm
  subst hm
  exact h.ne hb
theorem Jr.set1 {w : World} {j d : Nat} {room : Int} {v : Value} {fs : List Dk.DF} {n k : Nat} (h : Jr w j d room v fs n k) (r : Int) : Jr (w.setCell ⟨j, 1, none⟩ (.int .i64 r)) j d r v fs n k :=
  ⟨heap_setCell_same w j 1 _ 143 _ h.hj, h.dsk.tch ((Tch.refl [j] w).setCell (fun _ => by simp) _) h.tj, h.gd⟩
theorem Jr.set2 {w : World} {j d : Nat} {room : Int} {v : Value} {fs : List Dk.DF} {n k : Nat} (h : Jr w j d room v fs n k) : Jr (w.setCell ⟨j, 2, none⟩ (.bool false)) j d room v fs n k :=
  ⟨heap_setCell_same w j 2 _ 143 _ h.hj, h.dsk.tch ((Tch.refl [j] w).setCell (fun _ => by simp) _) h.tj, h.gd⟩
theorem OwnB.slc {w : World} {base : Nat} {v : Value} {l : List UInt8} (h : OwnB w base v l) (hl : 0 < l.length) : ∃ g cap, v = .slice (some ⟨g, 0, none⟩) l.length cap := by
  rcases h.2 with ⟨rfl, h0⟩ | ⟨g, cap, cur, rfl, _⟩
  · omega
  · exact ⟨g, cap, rfl⟩
def wit (b : Nat) : Value := .func (.func 207) #[] #[.pointer (some ⟨b, 0, none⟩)]
def fnv (k : Nat) : Value := .func (.func k) #[] #[]
def deedsC (b : Nat) : Array Value :=
  #[.func (.func 157) #[] #[], .func (.func 158) #[] #[], .func (.func 159) #[] #[], .nilFunc, .func (.func 160) #[] #[], .nilFunc, .nilFunc, .nilFunc, .nilFunc, .nilFunc, .nilFunc, .nilFunc, .nilFunc, .nilFunc, .nilFunc,
    .func (.func 207) #[] #[.pointer (some ⟨b + 1, 0, none⟩)], .nilFunc,
    .func (.func 207) #[] #[.pointer (some ⟨b + 1 + 1, 0, none⟩)],
    .func (.func 207) #[] #[.pointer (some ⟨b + 1 + 1 + 1, 0, none⟩)],
    .func (.func 165) #[] #[], .nilFunc,
    .func (.func 207) #[] #[.pointer (some ⟨b + 1 + 1 + 1 + 1, 0, none⟩)],
    .nilFunc, .func (.func 167) #[] #[], .nilFunc, .nilFunc]
def nils26 : Array Value := #[.nilFunc, .nilFunc, .nilFunc, .nilFunc, .nilFunc, .nilFunc, .nilFunc, .nilFunc, .nilFunc, .nilFunc, .nilFunc, .nilFunc, .nilFunc, .nilFunc, .nilFunc, .nilFunc, .nilFunc, .nilFunc, .nilFunc, .nilFunc, .nilFunc, .nilFunc, .nilFunc, .nilFunc, .nilFunc, .nilFunc]
theorem five (w : World) (A B C D E : Obj) : (((((w.alloc A).alloc B).alloc C).alloc D).alloc E).heap[w.heap.size]? = some A := by
  rw [Below.heap_alloc _ _ _ (by simp; omega), Below.heap_alloc _ _ _ (by simp; omega), Below.heap_alloc _ _ _ (by simp; omega), heap_alloc2_old]
theorem five3 (w : World) (A B C D E : Obj) : (((((w.alloc A).alloc B).alloc C).alloc D).alloc E).heap[w.heap.size + 3]? = some D := by
  have h := heap_alloc_new (((w.alloc A).alloc B).alloc C) D
  rw [World.size_alloc, World.size_alloc, World.size_alloc] at h
  rw [Below.heap_alloc _ _ _ (by simp)]
  exact h
theorem five_at (w : World) (A B C D E : Obj) : (((((w.alloc A).alloc B).alloc C).alloc D).alloc E).heap[w.heap.size + 1]? = some B ∧ (((((w.alloc A).alloc B).alloc C).alloc D).alloc E).heap[w.heap.size + 2]? = some C ∧ (((((w.alloc A).alloc B).alloc C).alloc D).alloc E).heap[w.heap.size + 3]? = some D ∧ (((((w.alloc A).alloc B).alloc C).alloc D).alloc E).heap[w.heap.size + 4]? = some E := by
  have h1 := heap_alloc_new (w.alloc A) B
  have h2 := heap_alloc_new ((w.alloc A).alloc B) C
  have h4 := heap_alloc_new ((((w.alloc A).alloc B).alloc C).alloc D) E
  rw [World.size_alloc] at h1
  rw [World.size_alloc, World.size_alloc] at h2
  rw [World.size_alloc, World.size_alloc, World.size_alloc, World.size_alloc] at h4
  refine ⟨?_, ?_, five3 w A B C D E, h4⟩
  · rw [Below.heap_alloc _ _ _ (by simp), Below.heap_alloc _ _ _ (by simp), Below.heap_alloc _ _ _ (by simp)]
    exact h1
  · rw [Below.heap_alloc _ _ _ (by simp), Below.heap_alloc _ _ _ (by simp)]
    exact h2
def Tbl (w : World) (b : Nat) : Prop := ∀ i f : Nat, (i, f) ∈ [(1, 162), (2, 163), (3, 164), (4, 166)] → w.heap[b + i]? = some (.cells #[.func (.func f) #[] #[]] 221 (0, 0))
theorem Tbl.tch {w w' : World} {b : Nat} (h : Tbl w b) {S : List Nat} (ht : Tch S w w') (hS : ∀ i, b + i ∉ S) : Tbl w' b := fun i f hi => (ht.block _ (lt_of_block (h i f hi)) (hS i)).trans (h i f hi)
theorem five_below (w : World) (A B C D E : Obj) : Below w.heap.size w (((((w.alloc A).alloc B).alloc C).alloc D).alloc E) :=
  (((((Below.refl _ _).alloc (Nat.le_refl _) _).alloc (by simp) _).alloc (by simp; omega) _).alloc (by simp; omega) _).alloc (by simp; omega) _
theorem deeds_one (b : Nat) : (deedsC b).all (·.oneCell') = true := by kernel_rfl
set_option maxHeartbeats 400000 in
theorem deeds_any (w : World) : Calls Tryz.prog 127 #[] w fun e w' => e = .returned (.agg (deedsC w.heap.size)) ∧ Below w.heap.size w w' ∧ w'.heap.size = w.heap.size + 5 ∧
    Tbl w' w.heap.size := by
  have hmf : ∀ (fn : Fn) (first cap : Array Value) (w : World), (Instr.makeFunc fn first cap).run Tryz.prog w = .ok (.func fn first cap) w := fun _ _ _ _ => rfl
  go_enter Tryz.func127, Tryz.ntmps127
  go_wp2_with (first | go_in | (refine wpList_store_row rfl 154 _ _ rfl w.heap.size (deedsC w.heap.size) ?hx ?hy 154 nils26 ?hg ?hi ?hs ?h1 ?k; (case hx => kernel_rfl); (case hy => kernel_rfl); (case hg => exact five _ _ _ _ _ _); (case hi => kernel_rfl); (case hs => kernel_rfl); (case h1 => exact deeds_one _)))
  refine bodyPost_ret (results_cell_row (p := 0) rfl _ _ w.heap.size 154 (deedsC w.heap.size) (0, 0) _ rfl (setRow_heap _ _ _ _ 154 (0, 0) (five _ _ _ _ _ _)) Tryz.underlying154 rfl (by kernel_rfl)) rfl ⟨rfl, ?_, ?_, ?_⟩
  · exact below_setRow (five_below _ _ _ _ _ _) (Nat.le_refl _) _
  · simp
  · intro i f hi
    simp only [List.mem_cons, Prod.mk.injEq, List.not_mem_nil, or_false] at hi
    rcases hi with ⟨rfl, rfl⟩ | ⟨rfl, rfl⟩ | ⟨rfl, rfl⟩ | ⟨rfl, rfl⟩
    · rw [setRow_other _ _ _ _ (by omega)]
      exact (five_at _ _ _ _ _ _).1
    · rw [setRow_other _ _ _ _ (by omega)]
      exact (five_at _ _ _ _ _ _).2.1
    · rw [setRow_other _ _ _ _ (by omega)]
      exact (five_at _ _ _ _ _ _).2.2.1
    · rw [setRow_other _ _ _ _ (by omega)]
      exact (five_at _ _ _ _ _ _).2.2.2
def stC (now : Int) (q : Value) (b : Nat) : Array Value := #[.int .i64 now, q, .pointer none, .pointer none, .pointer none, .pointer none, .pointer none, .pointer none, .pointer none] ++ deedsC b
set_option maxHeartbeats 400000 in
theorem new_any (w : World) : Calls Tryz.prog 98 #[] w fun e w' => e = .returned (.pointer (some ⟨w.heap.size + 5, 0, none⟩)) ∧ Below w.heap.size w w' ∧ w'.heap.size = w.heap.size + 6 ∧
    w'.heap[w.heap.size + 5]? = some (.cells (stC 0 (.pointer none) w.heap.size) 156 (0, 0)) ∧ Tbl w' w.heap.size := by
  have hsz : (deedsC w.heap.size).size = 26 := rfl
  go_enter Tryz.func98, Tryz.ntmps98
  go_wp2_with (go_at_call 127; refine (deeds_any _).mono ?_; rintro e w1 ⟨rfl, hb, hs, hc⟩)
  go_ret
  refine ⟨rfl, hb.alloc (by omega) _, by simp [hs], ?_, ?_⟩
  · rw [← hs, heap_alloc_new]
    exact congrArg (fun z => some (Obj.cells z 156 (0, 0))) (by kernel_rfl)
  · exact hc.tch ((Tch.refl [] _).alloc _) (by simp)
structure Brk (w : World) (st b : Nat) (now : Int) (q : Value) : Prop where
  hst : w.heap[st]? = some (.cells (stC now q b) 156 (0, 0))
  tb : Tbl w b
set_option maxHeartbeats 400000 in
theorem records_none (w : World) : Calls Tryz.prog 96 #[.string ⟨#[]⟩] w fun e w' => e = .returned (.tuple #[.slice none 0 0, .bool true]) ∧ Below w.heap.size w w' := by
  go_enter Tryz.func96, Tryz.ntmps96
  go_wp2_with (go_at_call 83; go_in)
  refine wp_loop_rounds 1 ?_
  rw [rounds_succ]
  go_wp2_with (go_at_call 88; go_in)
  go_ret2
  exact ⟨rfl, (Below.refl _ _).alloc (Nat.le_refl _) _⟩
set_option maxHeartbeats 400000 in
theorem jopen_none (d : Nat) (v : Value) (w : World) (h : Dd0 w d v []) :
    Calls Tryz.prog 66 #[.pointer (some ⟨d, 0, none⟩)] w fun e w' => e = .returned (.tuple #[.pointer (some ⟨w.heap.size, 0, none⟩), .string ⟨#[]⟩, .slice none 0 0]) ∧ Below w.heap.size w w' ∧ w.heap.size < w'.heap.size ∧
      w'.heap[w.heap.size]? = some (.cells #[.pointer (some ⟨d, 0, none⟩), .int .i64 0, .bool false] 143 (0, 0)) := by
  have HD : Hid (∀ W, Tch [] w W → Calls Tryz.prog 95 #[.pointer (some ⟨d, 0, none⟩), .string jn] W fun e w' => e = .returned (.string ⟨#[]⟩) ∧ w' = W) := fun W ht => by
    have h' : Dd0 W d v [] := h.tch ht (by simp)
    exact Dk.read_d d v (-1) false [] jn W h'.blk h'.own (by simp)
  clear h
  go_enter Tryz.func66, Tryz.ntmps66
  go_wp2_with (first | (go_at_call 95; refine (HD.out _ ((Tch.refl [] w).alloc _)).mono ?_; rintro e w' ⟨rfl, rfl⟩) | (go_at_call 96; refine (records_none _).mono ?_; rintro e w2 ⟨rfl, hb⟩))
  go_ret3
  rw [World.size_alloc] at hb
  exact ⟨rfl, ((Below.refl _ _).alloc (Nat.le_refl _) _).trans (hb.mono (by omega)), by have := hb.size; rw [World.size_alloc] at this; omega, (hb.block _ (by omega)).trans (heap_alloc_new _ _)⟩
set_option maxHeartbeats 400000 in
theorem restore_none (w : World) : Calls Tryz.prog 67 #[.string ⟨#[]⟩, .slice none 0 0] w fun e w' => e = .returned (.tuple #[.pointer (some ⟨w.heap.size + 5, 0, none⟩), .bool true]) ∧ Below w.heap.size w w' ∧ w'.heap.size = w.heap.size + 6 ∧
    w'.heap[w.heap.size + 5]? = some (.cells (stC 0 (.pointer none) w.heap.size) 156 (0, 0)) ∧ Tbl w' w.heap.size := by
  go_enter Tryz.func67, Tryz.ntmps67
  go_wp2_with (go_at_call 98; refine (new_any _).mono ?_; rintro e w1 ⟨rfl, hb, hs, hst, hc⟩)
  go_ret2
  exact ⟨rfl, hb, hs, hst, hc⟩
structure Opn (B : Nat) (w : World) (x st b j d : Nat) (v : Value) : Prop where
  hx : w.heap[x]? = some (.cells #[.pointer (some ⟨st, 0, none⟩), .pointer (some ⟨j, 0, none⟩)] 99 (0, 0))
  jr : Jr w j d 0 v [] 0 0
  brk : Brk w st b 0 (.pointer none)
  lo : B ≤ x ∧ B ≤ st ∧ B ≤ j ∧ B ≤ b
theorem good0 : Gd0 [] 0 0 := ⟨by decide, Nat.le_refl _, by simp⟩
set_option maxHeartbeats 400000 in
theorem open_any (d : Nat) (v : Value) (w : World) (h : Dd0 w d v []) : Calls Tryz.prog 40 #[.pointer (some ⟨d, 0, none⟩)] w fun e w' => ∃ x st b j, e = .returned (.tuple #[.pointer (some ⟨x, 0, none⟩), .int .i64 0]) ∧ Below w.heap.size w w' ∧ Opn w.heap.size w' x st b j d v := by
  have HS : Hid (Calls Tryz.prog 42 #[.pointer (some ⟨d, 0, none⟩)] w fun e w' => e = .returned (.bool false) ∧ w' = w) := Dk.stopped_d d v (-1) false w h.blk
  have HO : Hid (Calls Tryz.prog 66 #[.pointer (some ⟨d, 0, none⟩)] w _) := jopen_none d v w h
  have HD : Hid (Dd0 w d v []) := h
  clear h
  go_enter Tryz.func40, Tryz.ntmps40
  go_wp2_with (first | (go_at_call 42; refine HS.out.mono ?_; rintro e w' ⟨rfl, h'⟩; have h'' := h'.symm; subst h'') | (go_at_call 66; refine HO.out.mono ?_; rintro e w1 ⟨rfl, hb1, hz1, hj1⟩) | (go_at_call 67; refine (restore_none _).mono ?_; rintro e w2 ⟨rfl, hb2, hz2, hst2, hc2⟩))
  go_ret2
  have hz : w2.heap.size = w1.heap.size + 6 := hz2
  have t2 : Below w.heap.size w w2 := hb1.trans (hb2.mono (by omega))
  refine ⟨w1.heap.size + 6, w1.heap.size + 5, w1.heap.size, w.heap.size, rfl, t2.alloc (by omega) _, ⟨by rw [← hz]; exact heap_alloc_new _ _, ⟨?_, HD.out.tch (Tch.of_below (t2.alloc (by omega) _)) (by simp), good0⟩, ⟨?_, ?_⟩, by omega, by omega, by omega, by omega⟩⟩
  · rw [Below.heap_alloc _ _ _ (by omega), hb2.block _ hz1]
    exact hj1
  · rw [Below.heap_alloc _ _ _ (by omega)]
    exact hst2
  · exact hc2.tch ((Tch.refl [] _).alloc _) (by simp)
theorem dnew (w : World) : Dd0 (w.alloc (.cells (Dk.dcells (.slice none 0 0) (-1) false) 110)) w.heap.size (.slice none 0 0) [] :=
  ⟨heap_alloc_new _ _, Dk.Own.nil _ _, by simp [Value.ownBlock]⟩
set_option maxHeartbeats 400000 in
theorem opened_any (w : World) : Calls Tryz.prog 24 #[] w fun e w' => ∃ x st b j d, e = .returned (.tuple #[.pointer (some ⟨x, 0, none⟩), .pointer (some ⟨d, 0, none⟩)]) ∧ Below w.heap.size w w' ∧ Opn w.heap.size w' x st b j d (.slice none 0 0) ∧ d = w.heap.size := by
  go_enter Tryz.func24, Tryz.ntmps24
  go_wp2_with fail
  refine (Dk.new_d _).mono ?_
  rintro e w1 ⟨rfl, hw1⟩
  have hd1 := dnew w
  rw [← hw1] at hd1
  have hz : w1.heap.size = w.heap.size + 1 := by rw [hw1]; simp
  have HB1 : Hid (Below w.heap.size w w1) := by rw [hw1]; exact (Below.refl _ _).alloc (Nat.le_refl _) _
  clear hw1
  go_wp2_with fail
  refine (open_any _ _ _ hd1).mono ?_
  rintro e w2 ⟨x, st, b, j, rfl, hb, hB⟩
  go_wp2_with fail
  go_ret2
  have b1 := HB1.out
  exact ⟨x, st, b, j, _, rfl, b1.trans (hb.mono (by omega)), ⟨hB.hx, hB.jr, hB.brk, by have := hB.lo; omega⟩, rfl⟩
end Go.Proofs.YtbdobaapadlcjaaGreatDoor
