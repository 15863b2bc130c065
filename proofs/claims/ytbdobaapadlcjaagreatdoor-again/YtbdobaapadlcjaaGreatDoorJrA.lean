/-
  THE JOURNAL: AppendRecord (64), add (90), replace (121), sweep (120).
  THE JOURNAL: add (90), replace (121), sweep (120), makeRoom (89), Lay (63); there (93) and Whole (65) of a state without queues.
  THE JOURNAL: sweep (120), makeRoom (89), Lay (63).
-/
import Derived.Test.YtbdobaapadlcjaaGreatDoorDkA
import Derived.Test.YtbdobaapadlcjaaGreatDoorTkI
import Derived.Shelf.Abstract
namespace Go.Proofs.YtbdobaapadlcjaaGreatDoor
open Go.RowKit
set_option linter.unusedVariables false

/-- A record. -/
def recB (s : ByteArray) : List UInt8 := (lowB s.size 4 ++ lowB (Crc.crc s.data.toList) 4) ++ s.data.toList
theorem recB_length (s : ByteArray) : (recB s).length = 8 + s.size := by
  rw [recB, List.length_append, List.length_append, lowB_length, lowB_length]; rfl

set_option maxHeartbeats 1000000 in
theorem record_any (s : ByteArray) (w : World) (hs : s.size ≤ 1048576) (hT : Tab w) (h2 : 2 < w.heap.size) :
    Calls Tryz.prog 64 #[.slice none 0 0, .string s] w fun e w' => ∃ v, e = .returned v ∧ OwnB w' w.heap.size v (recB s) ∧ Below w.heap.size w w' := by
  obtain ⟨i0, hi, hz0, hz1, hz2⟩ := info_parts info5
  have hnum : Hid (Calls Tryz.prog 91 #[.slice none 0 0, .int .i64 (s.size : Int), .int .i64 4] w fun e w' => ∃ v', e = .returned v' ∧ OwnB w' w.heap.size v' ([] ++ lowB s.size 4) ∧ Below w.heap.size w w') :=
    appendNumber_any w.heap.size _ [] s.size 4 w (by omega) (by decide) (by decide) (Nat.le_refl _) (World.ownsRow_nil _ _ _ _)
  have HC : Hid (Crc.crc s.data.toList < 4294967296) := crc_lt _
  have HCK : Hid (∀ W, Below w.heap.size w W → Calls Tryz.prog 92 #[.string s] W fun e w' => e = .returned (.int .u32 (Crc.crc s.data.toList : Nat)) ∧ w' = W) := fun W hbW => check_any _ W (by unfold maxLen; omega) (hT.below hbW h2)
  have hrec : Hid (recB s = (([] ++ lowB s.size 4) ++ lowB (Crc.crc s.data.toList) 4) ++ s.data.toList) := by show _ = _; simp [recB]
  clear hT h2
  generalize Crc.crc s.data.toList = N at *
  have hN := HC.out
  go_enter Tryz.func64, Tryz.ntmps64
  go_wp2_with fail
  refine (hnum.out).mono ?_
  rintro e w1 ⟨v1, rfl, ho1, hb1⟩
  have HO : Hid (OwnB w1 w.heap.size v1 ([] ++ lowB s.size 4)) := ho1
  have HB : Hid (Below w.heap.size w w1) := hb1
  clear ho1 hb1
  go_wp2_with (go_at_call 92; refine (HCK.out _ HB.out).mono ?_; rintro e w' ⟨rfl, rfl⟩)
  refine (appendNumber_any w.heap.size _ _ N 4 _ hN (by decide) (by simp [lowB_length]) HB.out.size HO.out).mono ?_
  rintro e w2 ⟨v2, rfl, ho2, hb2⟩
  have hle : (([] ++ lowB s.size 4) ++ lowB N 4).length ≤ 100 := by simp [lowB_length]
  generalize (([] ++ lowB s.size 4) ++ lowB N 4) = L at ho2 hle hrec
  have HO2 : Hid (OwnB w2 w.heap.size v2 L) := ho2
  have HB2 : Hid (Below w.heap.size w w2) := HB.out.trans hb2
  have hsz := HB2.out.size
  clear ho2 hb2
  go_wp2_with (at_builtin; refine Lib.wpList_append_own_string _ rfl _ _ 74 9 rfl w.heap.size 5 i0 Tryz.underlying74 Tryz.underlying9 hi hz0 hz1 hz2 _ _ _ rfl HO2.out s rfl ?c1 ?c2 ?c3 ?_)
  case c1 => unfold maxLen; omega
  case c2 => omega
  case c3 => omega
  intro v' w3 hown' hgrow _
  have hr1 : OwnB w3 w.heap.size v' (recB s) := by
    rw [hrec.out]
    unfold OwnB
    have e1 : bytesV (L ++ s.data.toList) = bytesV L ++ Lib.strCells s := by rw [← bytesV_str]; simp [bytesV]
    have e2 : (L ++ s.data.toList).length = L.length + s.size := by rw [List.length_append]; rfl
    rw [e1, e2]
    exact hown'
  have hr2 : Below w.heap.size w w3 := by
    refine Below.grown HB2.out hgrow (by omega) ?_
    intro k hk
    exact (World.ownsRow.lt HO2.out k hk).1
  clear hown' hgrow
  go_wp2
  go_ret
  exact ⟨_, rfl, hr1, hr2⟩

abbrev jn : ByteArray := ⟨#[106, 111, 117, 114, 110, 97, 108]⟩
abbrev jw : ByteArray := ⟨#[106, 111, 117, 114, 110, 97, 108, 46, 110, 101, 119]⟩
/-- A disk that never stops. -/
abbrev Dd0 (w : World) (d : Nat) (v : Value) (fs : List Dk.DF) : Prop := Dk.Dsk w 110 116 d v ⟨fs, -1, false⟩
abbrev Gd0 (fs : List Dk.DF) (n k : Nat) : Prop := Dk.Good ⟨fs, -1, false⟩ n k
/-- What a step leaves. -/
def Stp (w w' : World) (d : Nat) (v : Value) (n k : Nat) : Prop := ∃ v' fs', Dd0 w' d v' fs' ∧ Gd0 fs' n k ∧ Tch (Dk.bl d v) w w' ∧ ∀ b, v'.ownBlock = some b → v.ownBlock = some b ∨ w.heap.size ≤ b

theorem app_j (d : Nat) (v : Value) (fs : List Dk.DF) (n k : Nat) (name data : ByteArray) (w : World) (h : Dd0 w d v fs) (hg : Gd0 fs n k) (hn : n ≤ 1000) (hk : k + data.size ≤ 1073741824) :
    Calls Tryz.prog 122 #[.pointer (some ⟨d, 0, none⟩), .string name, .string data] w fun e w' => e = .returned (.bool true) ∧ Stp w w' d v (n + 1) (k + data.size) := by
  refine (Dk.append_d d v ⟨fs, -1, false⟩ name data w h hg.left (by have := hg.fs; omega) (fun f hf => by have := (hg.sz f hf).2; omega) (by omega)).mono ?_
  rintro e w' ⟨rfl, v', hd, ht, hb⟩
  exact ⟨rfl, v', _, hd, Dk.good_app hg name data, ht, hb⟩
theorem sync_j (d : Nat) (v : Value) (fs : List Dk.DF) (n k : Nat) (name : ByteArray) (w : World) (h : Dd0 w d v fs) (hg : Gd0 fs n k) (hn : n ≤ 1001) (hk : k ≤ 1073741824) :
    Calls Tryz.prog 123 #[.pointer (some ⟨d, 0, none⟩), .string name] w fun e w' => e = .returned (.bool true) ∧ Stp w w' d v n k := by
  refine (Dk.sync_d d v ⟨fs, -1, false⟩ name w h hg.left (by have := hg.fs; omega) (fun f hf => by have := (hg.sz f hf).2; omega)).mono ?_
  rintro e w' ⟨rfl, v', hd, ht, hb⟩
  exact ⟨rfl, v', _, hd, Dk.good_sync hg name, ht, hb⟩
theorem ren_j (d : Nat) (v : Value) (fs : List Dk.DF) (n k : Nat) (frm to : ByteArray) (w : World) (h : Dd0 w d v fs) (hg : Gd0 fs n k) (hn : n ≤ 1001) :
    Calls Tryz.prog 151 #[.pointer (some ⟨d, 0, none⟩), .string frm, .string to] w fun e w' => e = .returned (.bool true) ∧ Stp w w' d v n k := by
  refine (Dk.rename_d d v ⟨fs, -1, false⟩ frm to w h hg.left (by have := hg.fs; omega)).mono ?_
  rintro e w' ⟨rfl, v', hd, ht, hb⟩
  exact ⟨rfl, v', _, hd, Dk.good_ren hg frm to, ht, hb⟩

/-- A journal in j over a disk in d. -/
structure Jr (w : World) (j d : Nat) (room : Int) (v : Value) (fs : List Dk.DF) (n k : Nat) : Prop where
  hj : w.heap[j]? = some (.cells #[.pointer (some ⟨d, 0, none⟩), .int .i64 room, .bool false] 143 (0, 0))
  dsk : Dd0 w d v fs
  gd : Gd0 fs n k
/-- The blocks that it lies in. -/
def jbl (j d : Nat) (v : Value) : List Nat := j :: Dk.bl d v
theorem Jr.ne {w : World} {j d : Nat} {room : Int} {v : Value} {fs : List Dk.DF} {n k : Nat} (h : Jr w j d room v fs n k) : j ∉ Dk.bl d v := fun hm => by
  rcases List.mem_cons.1 hm with e | e
  · have h1 := h.hj
    have h2 : w.heap[d]? = _ := h.dsk.blk
    rw [← e, h1] at h2
    simp at h2
  · exact own_ne h.dsk.own h.hj (by decide) (by simpa [Option.mem_toList] using e)
theorem Jr.tch {w w' : World} {j d : Nat} {room : Int} {v : Value} {fs : List Dk.DF} {n k : Nat} (h : Jr w j d room v fs n k) {S : List Nat} (ht : Tch S w w') (hS : ∀ b ∈ jbl j d v, b ∉ S) : Jr w' j d room v fs n k :=
  ⟨(ht.block _ (lt_of_block h.hj) (hS _ (by simp [jbl]))).trans h.hj, h.dsk.tch ht (fun b hb => hS b (List.mem_cons_of_mem _ hb)), h.gd⟩
theorem Jr.lt {w : World} {j d : Nat} {room : Int} {v : Value} {fs : List Dk.DF} {n k : Nat} (h : Jr w j d room v fs n k) : ∀ b ∈ jbl j d v, b < w.heap.size := fun b hb => by
  rcases List.mem_cons.1 hb with e | e
  · rw [e]; exact lt_of_block h.hj
  · rcases List.mem_cons.1 e with e | e
    · rw [e]; exact h.dsk.blk.lt
    · exact own_lt h.dsk.own (by simpa [Option.mem_toList] using e)
/-- A block of another type is none of these. -/
theorem Jr.apart {w : World} {j d : Nat} {room : Int} {v : Value} {fs : List Dk.DF} {n k : Nat} (h : Jr w j d room v fs n k) {b : Nat} {C : Array Value} {t : TypeId} (hb : w.heap[b]? = some (.cells C t (0, 0))) (h1 : 143 ≠ t) (h2 : 110 ≠ t) (h3 : 116 ≠ t) : b ∉ jbl j d v := fun hm => by
  rcases List.mem_cons.1 hm with e | e
  · have h0 := h.hj
    rw [← e, hb] at h0
    simp at h0
    exact h1 h0.2.symm
  · rcases List.mem_cons.1 e with e | e
    · have h0 : w.heap[d]? = _ := h.dsk.blk
      rw [← e, hb] at h0
      simp at h0
      exact h2 h0.2.symm
    · exact own_ne h.dsk.own hb h3 (by simpa [Option.mem_toList] using e)
/-- What a call leaves of the journal: its room, its bounds. -/
def Jl (w w' : World) (j d : Nat) (v : Value) (room : Int) (n k : Nat) : Prop := ∃ v' fs', Jr w' j d room v' fs' n k ∧ Tch (jbl j d v) w w' ∧ ∀ b, v'.ownBlock = some b → v.ownBlock = some b ∨ w.heap.size ≤ b

theorem Stp.jl {w w' : World} {j d : Nat} {room : Int} {v : Value} {fs : List Dk.DF} {n k n' k' : Nat} (h : Jr w j d room v fs n k) (hs : Stp w w' d v n' k') : Jl w w' j d v room n' k' := by
  obtain ⟨v', fs', hd, hg, ht, hb⟩ := hs
  exact ⟨v', fs', ⟨(ht.block _ (lt_of_block h.hj) h.ne).trans h.hj, hd, hg⟩, ht.sub (fun x hx _ => List.mem_cons_of_mem _ hx), hb⟩
theorem Jl.trans {a b c : World} {j d : Nat} {v v1 : Value} {r1 r2 : Int} {n1 k1 n2 k2 : Nat} {fs1 : List Dk.DF} (hd : Jr a j d r1 v fs1 n1 k1 ∨ (∀ x ∈ jbl j d v, x < a.heap.size)) (h1 : Tch (jbl j d v) a b) (hv : ∀ x, v1.ownBlock = some x → v.ownBlock = some x ∨ a.heap.size ≤ x) (h2 : Jl b c j d v1 r2 n2 k2) : Jl a c j d v r2 n2 k2 := by
  obtain ⟨v', fs', hj, ht, hb⟩ := h2
  refine ⟨v', fs', hj, h1.trans ht (fun x hx hlt => ?_), fun x hx => ?_⟩
  · rcases List.mem_cons.1 hx with e | e
    · rw [e]; simp [jbl]
    · rcases List.mem_cons.1 e with e | e
      · rw [e]; simp [jbl, Dk.bl]
      · rcases hv x (by simpa [Option.mem_toList] using e) with h | h
        · simp [jbl, Dk.bl, h]
        · omega
  · rcases hb x hx with h | h
    · exact hv x h
    · exact .inr (Nat.le_trans h1.size h)
end Go.Proofs.YtbdobaapadlcjaaGreatDoor

namespace Go.Proofs.YtbdobaapadlcjaaGreatDoor
open Go.RowKit
set_option linter.unusedVariables false

theorem Jr.c0 {w : World} {j d : Nat} {room : Int} {v : Value} {fs : List Dk.DF} {n k : Nat} (h : Jr w j d room v fs n k) : w.cell? ⟨j, 0, none⟩ = some (.pointer (some ⟨d, 0, none⟩)) := (cell_of_row w j 0 _ 143 (0, 0) h.hj).trans rfl
theorem Jr.c1 {w : World} {j d : Nat} {room : Int} {v : Value} {fs : List Dk.DF} {n k : Nat} (h : Jr w j d room v fs n k) : w.cell? ⟨j, 1, none⟩ = some (.int .i64 room) := (cell_of_row w j 1 _ 143 (0, 0) h.hj).trans rfl
theorem Jr.c2 {w : World} {j d : Nat} {room : Int} {v : Value} {fs : List Dk.DF} {n k : Nat} (h : Jr w j d room v fs n k) : w.cell? ⟨j, 2, none⟩ = some (.bool false) := (cell_of_row w j 2 _ 143 (0, 0) h.hj).trans rfl
theorem Jr.fz {w : World} {j d : Nat} {room : Int} {v : Value} {fs : List Dk.DF} {n k : Nat} (h : Jr w j d room v fs n k) (o : Nat) : w.frozen? ⟨j, o, none⟩ = false := frozen_of_row w j o _ 143 h.hj
theorem Jr.tj {w : World} {j d : Nat} {room : Int} {v : Value} {fs : List Dk.DF} {n k : Nat} (h : Jr w j d room v fs n k) : ∀ b ∈ Dk.bl d v, b ∉ [j] := fun b hb hm => by
  simp at hm
  subst hm
  exact h.ne hb
theorem Jr.set1 {w : World} {j d : Nat} {room : Int} {v : Value} {fs : List Dk.DF} {n k : Nat} (h : Jr w j d room v fs n k) (r : Int) : Jr (w.setCell ⟨j, 1, none⟩ (.int .i64 r)) j d r v fs n k :=
  ⟨heap_setCell_same w j 1 _ 143 _ h.hj, h.dsk.tch ((Tch.refl [j] w).setCell (fun _ => by simp) _) h.tj, h.gd⟩
theorem Jr.set2 {w : World} {j d : Nat} {room : Int} {v : Value} {fs : List Dk.DF} {n k : Nat} (h : Jr w j d room v fs n k) : Jr (w.setCell ⟨j, 2, none⟩ (.bool false)) j d room v fs n k :=
  ⟨heap_setCell_same w j 2 _ 143 _ h.hj, h.dsk.tch ((Tch.refl [j] w).setCell (fun _ => by simp) _) h.tj, h.gd⟩

set_option maxHeartbeats 1000000 in
theorem add_any (j d : Nat) (room : Int) (v : Value) (fs : List Dk.DF) (n k : Nat) (bytes : ByteArray) (w : World) (h : Jr w j d room v fs n k) (hn : n ≤ 900) (hk : k + bytes.size ≤ 1073741824) (hr : -1048576 ≤ room ∧ room ≤ 1048576) (hb : bytes.size ≤ 1048576) :
    Calls Tryz.prog 90 #[.pointer (some ⟨j, 0, none⟩), .string bytes] w fun e w' => e = .returned (.bool true) ∧ Jl w w' j d v (room - bytes.size) (n + 1) (k + bytes.size) := by
  have hJ1 := h.set1 (room - bytes.size)
  have HA : Hid (Calls Tryz.prog 122 #[.pointer (some ⟨d, 0, none⟩), .string jn, .string bytes] (w.setCell ⟨j, 1, none⟩ (.int .i64 (room - bytes.size))) fun e w' => e = .returned (.bool true) ∧ Stp (w.setCell ⟨j, 1, none⟩ (.int .i64 (room - bytes.size))) w' d v (n + 1) (k + bytes.size)) := app_j d v fs n k jn bytes _ hJ1.dsk hJ1.gd (by omega) hk
  have HJ : Hid (Jr w j d room v fs n k) := h
  have HJ1 : Hid (Jr _ j d (room - bytes.size) v fs n k) := hJ1
  have c0 := h.c0
  have c1 := h.c1
  have f1 := h.fz 1
  have hlt := lt_of_block h.hj
  clear h hJ1
  go_enter Tryz.func90, Tryz.ntmps90
  go_wp2_with fail
  refine HA.out.mono ?_
  rintro e w2 ⟨rfl, hs⟩
  obtain ⟨v2, fs2, hj2, ht2, hb2⟩ := hs.jl HJ1.out
  have HS : Hid (Calls Tryz.prog 123 #[.pointer (some ⟨d, 0, none⟩), .string jn] w2 fun e w' => e = .returned (.bool true) ∧ Stp w2 w' d v2 (n + 1) (k + bytes.size)) := sync_j d v2 fs2 _ _ jn w2 hj2.dsk hj2.gd (by omega) hk
  have HJ2 : Hid (Jr w2 j d (room - bytes.size) v2 fs2 (n + 1) (k + bytes.size)) := hj2
  have HT2 : Hid (Tch (jbl j d v) w w2 ∧ ∀ b, v2.ownBlock = some b → v.ownBlock = some b ∨ w.heap.size ≤ b) := by
    refine ⟨((Tch.refl _ _).setCell (fun _ => by simp [jbl]) _).trans ht2 (fun _ h _ => h), fun b hb => ?_⟩
    have := hb2 b hb
    simpa using this
  have d0 := hj2.c0
  clear hs hj2 ht2 hb2 c0 c1 f1
  go_wp2_with fail
  refine HS.out.mono ?_
  rintro e w3 ⟨rfl, hs⟩
  have HL : Hid (Jl w2 w3 j d v2 (room - bytes.size) (n + 1) (k + bytes.size)) := hs.jl HJ2.out
  clear hs d0
  go_wp2_with fail
  go_ret
  exact ⟨rfl, Jl.trans (.inl HJ.out) HT2.out.1 HT2.out.2 HL.out⟩

set_option maxHeartbeats 1000000 in
theorem replace_any (j d : Nat) (room : Int) (v : Value) (fs : List Dk.DF) (n k : Nat) (bytes : ByteArray) (w : World) (h : Jr w j d room v fs n k) (hn : n ≤ 900) (hk : k + bytes.size ≤ 1073741824) :
    Calls Tryz.prog 121 #[.pointer (some ⟨j, 0, none⟩), .string bytes] w fun e w' => e = .returned (.bool true) ∧ Jl w w' j d v room (n + 1) (k + bytes.size) := by
  have HA : Hid (Calls Tryz.prog 122 #[.pointer (some ⟨d, 0, none⟩), .string jw, .string bytes] w fun e w' => e = .returned (.bool true) ∧ Stp w w' d v (n + 1) (k + bytes.size)) := app_j d v fs n k jw bytes _ h.dsk h.gd (by omega) hk
  have HJ : Hid (Jr w j d room v fs n k) := h
  have c0 := h.c0
  clear h
  go_enter Tryz.func121, Tryz.ntmps121
  go_wp2_with fail
  refine HA.out.mono ?_
  rintro e w2 ⟨rfl, hs⟩
  obtain ⟨v2, fs2, hj2, ht2, hb2⟩ := hs.jl HJ.out
  have HS : Hid (Calls Tryz.prog 123 #[.pointer (some ⟨d, 0, none⟩), .string jw] w2 fun e w' => e = .returned (.bool true) ∧ Stp w2 w' d v2 (n + 1) (k + bytes.size)) := sync_j d v2 fs2 _ _ jw w2 hj2.dsk hj2.gd (by omega) hk
  have HJ2 : Hid (Jr w2 j d room v2 fs2 (n + 1) (k + bytes.size)) := hj2
  have HT2 : Hid (Tch (jbl j d v) w w2 ∧ ∀ b, v2.ownBlock = some b → v.ownBlock = some b ∨ w.heap.size ≤ b) := ⟨ht2, hb2⟩
  have d0 := hj2.c0
  clear hs hj2 ht2 hb2 c0
  go_wp2_with fail
  refine HS.out.mono ?_
  rintro e w3 ⟨rfl, hs⟩
  obtain ⟨v3, fs3, hj3, ht3, hb3⟩ := hs.jl HJ2.out
  have HR : Hid (Calls Tryz.prog 151 #[.pointer (some ⟨d, 0, none⟩), .string jw, .string jn] w3 fun e w' => e = .returned (.bool true) ∧ Stp w3 w' d v3 (n + 1) (k + bytes.size)) := ren_j d v3 fs3 _ _ jw jn w3 hj3.dsk hj3.gd (by omega)
  have HJ3 : Hid (Jr w3 j d room v3 fs3 (n + 1) (k + bytes.size)) := hj3
  have HT3 : Hid (Tch (jbl j d v2) w2 w3 ∧ ∀ b, v3.ownBlock = some b → v2.ownBlock = some b ∨ w2.heap.size ≤ b) := ⟨ht3, hb3⟩
  have e0 := hj3.c0
  clear hs hj3 ht3 hb3 d0
  go_wp2_with fail
  refine HR.out.mono ?_
  rintro e w4 ⟨rfl, hs⟩
  have HL : Hid (Jl w3 w4 j d v3 room (n + 1) (k + bytes.size)) := hs.jl HJ3.out
  clear hs e0
  go_wp2_with fail
  go_ret
  exact ⟨rfl, Jl.trans (.inl HJ.out) HT2.out.1 HT2.out.2 (Jl.trans (.inl HJ2.out) HT3.out.1 HT3.out.2 HL.out)⟩
end Go.Proofs.YtbdobaapadlcjaaGreatDoor

namespace Go.Proofs.YtbdobaapadlcjaaGreatDoor
open Go.RowKit
set_option linter.unusedVariables false

set_option maxHeartbeats 1000000 in
theorem sweep_none (j d : Nat) (room : Int) (v : Value) (n k : Nat) (w : World) (h : Jr w j d room v [] n k) :
    Calls Tryz.prog 120 #[.pointer (some ⟨j, 0, none⟩)] w fun e w' => e = .returned (.bool true) ∧ w' = w := by
  have HH : Hid (Calls Tryz.prog 97 #[.pointer (some ⟨d, 0, none⟩), .string jw] w fun e w' => e = .returned (.bool false) ∧ w' = w) := Dk.has_d d v (-1) false [] jw w h.dsk.blk h.dsk.own (by simp)
  have c0 := h.c0
  clear h
  go_enter Tryz.func120, Tryz.ntmps120
  go_wp2_with fail
  refine HH.out.mono ?_
  rintro e w2 ⟨rfl, rfl⟩
  go_wp2_with fail
  go_ret
  exact ⟨rfl, rfl⟩

set_option maxHeartbeats 1000000 in
/-- There is room. -/
theorem room_yes (j d : Nat) (room : Int) (v : Value) (fs : List Dk.DF) (n k : Nat) (size : Nat) (F : Value) (w : World) (h : Jr w j d room v fs n k) (hs : (size : Int) ≤ room) :
    Calls Tryz.prog 89 #[.pointer (some ⟨j, 0, none⟩), .int .i64 (size : Int), F] w fun e w' => e = .returned (.bool true) ∧ Jl w w' j d v room n k := by
  have HJ : Hid (Jr w j d room v fs n k) := h
  have c1 := h.c1
  clear h
  go_enter Tryz.func89, Tryz.ntmps89
  go_wp2_with fail
  go_ret
  exact ⟨rfl, v, fs, HJ.out, Tch.refl _ _, fun _ h => .inl h⟩

set_option maxHeartbeats 1000000 in
/-- There is none: a new file is made. -/
theorem room_no (j d st : Nat) (v : Value) (n k : Nat) (size : Nat) (w : World) (h : Jr w j d 0 v [] n k) (hs : 0 < size) (hsz : size ≤ 1048576) (hn : n ≤ 900) (hk : k ≤ 1048576) (hT : Tab w) (h3 : 3 ≤ w.heap.size) (hj3 : 3 ≤ j)
    (hW : ∀ W, Tch [j] w W → Calls Tryz.prog 65 #[.pointer (some ⟨st, 0, none⟩)] W fun e w' => ∃ t, e = .returned (.string t) ∧ t.size ≤ 1000 ∧ Tch [] W w') :
    Calls Tryz.prog 89 #[.pointer (some ⟨j, 0, none⟩), .int .i64 (size : Int), .func (.func 65) #[.pointer (some ⟨st, 0, none⟩)] #[]] w fun e w' => e = .returned (.bool true) ∧ Jl w w' j d v 16384 (n + 1) (k + 2000) := by
  have hJ1 := h.set1 16384
  have t1 : Tch [j] w (w.setCell ⟨j, 1, none⟩ (.int .i64 16384)) := (Tch.refl _ _).setCell (fun _ => by simp) _
  have HSW : Hid (Calls Tryz.prog 120 #[.pointer (some ⟨j, 0, none⟩)] (w.setCell ⟨j, 1, none⟩ (.int .i64 16384)) fun e w' => e = .returned (.bool true) ∧ w' = w.setCell ⟨j, 1, none⟩ (.int .i64 16384)) := sweep_none j d 16384 v n k _ hJ1
  have HWH : Hid (Calls Tryz.prog 65 #[.pointer (some ⟨st, 0, none⟩)] (w.setCell ⟨j, 1, none⟩ (.int .i64 16384)) fun e w' => ∃ t, e = .returned (.string t) ∧ t.size ≤ 1000 ∧ Tch [] (w.setCell ⟨j, 1, none⟩ (.int .i64 16384)) w') := hW _ t1
  have HJ : Hid (Jr w j d 0 v [] n k) := h
  have HJ1 : Hid (Jr (w.setCell ⟨j, 1, none⟩ (.int .i64 16384)) j d 16384 v [] n k) := hJ1
  have HT1 : Hid (Tch [j] w (w.setCell ⟨j, 1, none⟩ (.int .i64 16384))) := t1
  have HTB : Hid (Tab w) := hT
  have eg65 : ∀ args w, (callFunc 65 args).run Tryz.prog w = .ok (.enter 65 args) w := enters_of Tryz.func65 (by kernel_rfl) rfl
  have c1 := h.c1
  have f1 := h.fz 1
  have hlt := lt_of_block h.hj
  clear h hJ1 hT hW t1
  go_enter Tryz.func89, Tryz.ntmps89
  go_wp2_with fail
  refine HSW.out.mono ?_
  rintro e w2 ⟨rfl, hw2⟩
  rw [← hw2] at HWH HJ1 HT1
  clear hw2 c1 f1 HSW
  go_wp2_with fail
  refine HWH.out.mono ?_
  rintro e w3 ⟨t, rfl, ht, ht3⟩
  have hw3 : Tch [j] w w3 := HT1.out.trans ht3 (by simp)
  have hJ3 : Jr w3 j d 16384 v [] n k := HJ1.out.tch ht3 (by simp)
  have hz3 := hw3.size
  clear HWH
  go_wp2_with fail
  refine (record_any t w3 (by omega) (HTB.out.below (B := 3) (hw3.below (by simpa using hj3) h3) (by decide)) (by omega)).mono ?_
  rintro e w4 ⟨rv, rfl, ho, hb4⟩
  have hstr : (convert 74 9 rv).run Tryz.prog w4 = .ok (.string ⟨(recB t).toArray⟩) w4 := OwnB.str ho (by rw [recB_length]; omega)
  have hJ4 : Jr w4 j d 16384 v [] n k := hJ3.tch (Tch.of_below hb4) (by simp)
  have hrz : (⟨(recB t).toArray⟩ : ByteArray).size = 8 + t.size := by show (recB t).toArray.size = _; rw [List.size_toArray, recB_length]
  have HRP : Hid (Calls Tryz.prog 121 #[.pointer (some ⟨j, 0, none⟩), .string ⟨(recB t).toArray⟩] w4 fun e w' => e = .returned (.bool true) ∧ Jl w4 w' j d v 16384 (n + 1) (k + (⟨(recB t).toArray⟩ : ByteArray).size)) := replace_any j d 16384 v [] n k _ w4 hJ4 hn (by omega)
  have HT4 : Hid (Tch [j] w w4) := hw3.trans (Tch.of_below hb4) (by simp)
  have HRZ : Hid ((⟨(recB t).toArray⟩ : ByteArray).size = 8 + t.size) := hrz
  clear ho hb4 hJ4 hJ3 hw3 ht3 hrz
  generalize (⟨(recB t).toArray⟩ : ByteArray) = R at *
  go_wp2_with fail
  refine HRP.out.mono ?_
  rintro e w5 ⟨rfl, hl⟩
  have HL : Hid (Jl w4 w5 j d v 16384 (n + 1) (k + R.size)) := hl
  clear hl hstr
  go_wp2_with fail
  go_ret
  obtain ⟨v', fs', hj', ht', hb'⟩ := HL.out
  have hz := HT4.out.size
  refine ⟨rfl, v', fs', ⟨hj'.hj, hj'.dsk, hj'.gd.mono (Nat.le_refl _) (by have := HRZ.out; omega)⟩, (HT4.out.sub (by simp [jbl])).trans ht' (fun _ h _ => h), fun b hb => ?_⟩
  rcases hb' b hb with h | h
  · exact .inl h
  · exact .inr (by omega)

theorem OwnB.slc {w : World} {base : Nat} {v : Value} {l : List UInt8} (h : OwnB w base v l) (hl : 0 < l.length) : ∃ g cap, v = .slice (some ⟨g, 0, none⟩) l.length cap := by
  rcases h.2 with ⟨rfl, h0⟩ | ⟨g, cap, cur, rfl, _⟩
  · omega
  · exact ⟨g, cap, rfl⟩

set_option maxHeartbeats 1000000 in
theorem lay_walk (j d : Nat) (room room2 : Int) (v : Value) (fs : List Dk.DF) (n k n2 k2 base : Nat) (rv F : Value) (rec : List UInt8) (w : World) (h : Jr w j d room v fs n k) (ho : OwnB w base rv rec) (hpos : 0 < rec.length) (hrl : rec.length ≤ 1048576) (hn : n2 ≤ 900) (hk : k2 ≤ 1073000000) (hr : -10000 ≤ room2 ∧ room2 ≤ 1048576)
    (hM : Calls Tryz.prog 89 #[.pointer (some ⟨j, 0, none⟩), .int .i64 (rec.length : Int), F] w fun e w' => e = .returned (.bool true) ∧ Jl w w' j d v room2 n2 k2) (hk2 : k2 + rec.length ≤ 1073741824) :
    Calls Tryz.prog 63 #[.pointer (some ⟨j, 0, none⟩), rv, F] w fun e w' => e = .returned (.bool true) ∧ Jl w w' j d v (room2 - rec.length) (n2 + 1) (k2 + rec.length) := by
  have HJ : Hid (Jr w j d room v fs n k) := h
  have HM : Hid (Calls Tryz.prog 89 _ _ _) := hM
  have hne : rv.ownBlock ≠ some j := own_ne ho h.hj (by decide)
  have HAP : Hid (∀ b, rv.ownBlock = some b → b ∉ jbl j d v) := fun b hb hm => by
    rcases List.mem_cons.1 hm with e | e
    · exact hne (e ▸ hb)
    · rcases List.mem_cons.1 e with e | e
      · exact own_ne ho h.dsk.blk (by decide) (e ▸ hb)
      · rcases ho.2 with ⟨rfl, _⟩ | ⟨g, cap, cur, rfl, _, hg, _⟩
        · simp [Value.ownBlock] at hb
        · simp [Value.ownBlock] at hb
          subst hb
          exact own_ne h.dsk.own hg (by decide) (by simpa [Option.mem_toList] using e)
  obtain ⟨g, cap, hrv⟩ := OwnB.slc ho hpos
  have HO : Hid (OwnB w base rv rec) := ho
  have HRV : Hid (rv = .slice (some ⟨g, 0, none⟩) rec.length cap) := hrv
  subst hrv
  have c2 := h.c2
  have hlt := lt_of_block h.hj
  clear h hM ho hne
  generalize hL : rec.length = L at *
  go_enter Tryz.func63, Tryz.ntmps63
  go_wp2_with fail
  refine HM.out.mono ?_
  rintro e w1 ⟨rfl, v1, fs1, hj1, ht1, hb1⟩
  have ho1 : OwnB w1 base (.slice (some ⟨g, 0, none⟩) L cap) rec := own_tch HO.out ht1 HAP.out
  have hstr : (convert 74 9 (.slice (some ⟨g, 0, none⟩) L cap)).run Tryz.prog w1 = .ok (.string ⟨rec.toArray⟩) w1 := OwnB.str ho1 (by omega)
  have hrz : (⟨rec.toArray⟩ : ByteArray).size = L := by show rec.toArray.size = _; rw [List.size_toArray, hL]
  have HAD : Hid (Calls Tryz.prog 90 #[.pointer (some ⟨j, 0, none⟩), .string ⟨rec.toArray⟩] w1 fun e w' => e = .returned (.bool true) ∧ Jl w1 w' j d v1 (room2 - L) (n2 + 1) (k2 + L)) := by
    have h1 := add_any j d room2 v1 fs1 n2 k2 ⟨rec.toArray⟩ w1 hj1 hn (by omega) (by omega) (by omega)
    rw [hrz] at h1
    exact h1
  have HT1 : Hid (Tch (jbl j d v) w w1 ∧ ∀ b, v1.ownBlock = some b → v.ownBlock = some b ∨ w.heap.size ≤ b) := ⟨ht1, hb1⟩
  clear hj1 ht1 hb1 ho1 c2
  generalize (⟨rec.toArray⟩ : ByteArray) = R at *
  go_wp2_with fail
  refine HAD.out.mono ?_
  rintro e w2 ⟨rfl, hl⟩
  obtain ⟨v2, fs2, hj2, ht2, hb2⟩ := Jl.trans (.inl HJ.out) HT1.out.1 HT1.out.2 hl
  have HJ2 : Hid (Jr w2 j d (room2 - L) v2 fs2 (n2 + 1) (k2 + L)) := hj2
  have HT2 : Hid (Tch (jbl j d v) w w2 ∧ ∀ b, v2.ownBlock = some b → v.ownBlock = some b ∨ w.heap.size ≤ b) := ⟨ht2, hb2⟩
  have d2 := hj2.c2
  have f2 := hj2.fz 2
  have hlt2 := lt_of_block hj2.hj
  clear hl hj2 ht2 hb2 hstr
  go_wp2_with fail
  go_ret
  exact ⟨rfl, v2, fs2, HJ2.out.set2, HT2.out.1.setCell (fun _ => by simp [jbl]) _, HT2.out.2⟩
end Go.Proofs.YtbdobaapadlcjaaGreatDoor
