/-
  received (21): what was told is read.
  AGAIN: what holds behind the first R; what is told again; receive (22).
  AGAIN: one message more; the last receive (22).
  THE WALK of Again (6).
-/
import Derived.Test.YtbdobaapadlcjaaGreatDoorQm3
import Derived.Deep.CutBlock
namespace Go.Proofs.YtbdobaapadlcjaaGreatDoor
open Go.RowKit Keep
set_option linter.unusedVariables false
set_option linter.unusedSimpArgs false

theorem ext_mid (pre mid post : List UInt8) : (⟨(pre ++ (mid ++ post)).toArray⟩ : ByteArray).extract pre.length (pre.length + mid.length) = ⟨mid.toArray⟩ := by
  apply ByteArray.ext
  rw [ByteArray.data_extract]
  show (pre ++ (mid ++ post)).toArray.extract _ _ = mid.toArray
  rw [List.extract_toArray]
  simp [List.extract]
theorem get_mid (pre : List UInt8) (x : UInt8) (post : List UInt8) (h : pre.length < (⟨(pre ++ (x :: post)).toArray⟩ : ByteArray).size) : (⟨(pre ++ (x :: post)).toArray⟩ : ByteArray)[pre.length] = x := by
  show (pre ++ (x :: post)).toArray[pre.length] = x
  simp

/-- One message that was told. -/
structure Ge where
  h : ByteArray
  g : ByteArray
  b : ByteArray
def Ge.row (x : Ge) : List Value := [.string x.h, .string x.g, .string x.b]
def Ge.bytes (x : Ge) : List UInt8 := x.h.data.toList ++ (txtB x.g ++ txtB x.b)
structure GeOk (x : Ge) : Prop where
  h : x.h.size = 8
  g : x.g.size ≤ 255
  b : x.b.size ≤ 255
def recS (es : List Ge) : ByteArray := okL (lowB es.length 1 ++ es.flatMap Ge.bytes)
def offE (es : List Ge) (i : Nat) : Nat := 2 + ((es.take i).flatMap Ge.bytes).length
theorem lowB1 (n : Nat) : lowB n 1 = [UInt8.ofNat (n % 256)] := by
  show [UInt8.ofNat (n / 256 ^ 0 % 256)] = _
  simp
theorem toNat1 (n : Nat) (h : n ≤ 255) : (UInt8.ofNat (n % 256)).toNat = n := by
  rw [UInt8.toNat_ofNat_of_lt' (by show n % 256 < 256; omega)]
  omega
theorem Ge.len (x : Ge) (h : GeOk x) : x.bytes.length = 10 + x.g.size + x.b.size := by
  have := h.h
  simp only [Ge.bytes, List.length_append, txtB_length]
  have e : x.h.data.toList.length = x.h.size := rfl
  omega
theorem take_drop_mid {α : Type} (l : List α) (i : Nat) (hi : i < l.length) : l = l.take i ++ (l[i] :: l.drop (i + 1)) := by
  rw [List.getElem_cons_drop, List.take_append_drop]
theorem offE_succ (es : List Ge) (i : Nat) (hi : i < es.length) (hok : ∀ x ∈ es, GeOk x) : offE es (i + 1) = offE es i + 8 + 1 + es[i].g.size + 1 + es[i].b.size := by
  unfold offE
  rw [List.take_succ_eq_append_getElem hi, List.flatMap_append, List.length_append]
  simp only [List.flatMap_cons, List.flatMap_nil, List.append_nil]
  rw [Ge.len _ (hok _ (List.getElem_mem _))]
  omega
theorem rec_size (es : List Ge) : (recS es).size = offE es es.length := by
  unfold recS offE
  rw [okL_size, List.length_append, lowB_length, List.take_length]
  omega
theorem flat_bound (es : List Ge) (hok : ∀ x ∈ es, GeOk x) : (es.flatMap Ge.bytes).length ≤ es.length * 520 := by
  induction es with
  | nil => simp
  | cons x es ih =>
    have h1 := ih (fun y hy => hok y (by simp [hy]))
    have h2 := hok x (by simp)
    have := h2.g
    have := h2.b
    rw [List.flatMap_cons, List.length_append, Ge.len _ h2, List.length_cons]
    omega
/-- Where the parts of the i-th stand. -/
structure RcAt (s : ByteArray) (a : Nat) (x : Ge) : Prop where
  l1 : a + 8 < s.size
  h : s.extract a (a + 8) = x.h
  n1 : s[a + 8].toNat = x.g.size
  l2 : a + 8 + 1 + x.g.size < s.size
  g : s.extract (a + 8 + 1) (a + 8 + 1 + x.g.size) = x.g
  n2 : s[a + 8 + 1 + x.g.size].toNat = x.b.size
  l3 : a + 8 + 1 + x.g.size + 1 + x.b.size ≤ s.size
  b : s.extract (a + 8 + 1 + x.g.size + 1) (a + 8 + 1 + x.g.size + 1 + x.b.size) = x.b
theorem rcAt_of (pre post : List UInt8) (x : Ge) (hx : GeOk x) : RcAt ⟨(pre ++ (x.bytes ++ post)).toArray⟩ pre.length x := by
  have eh : x.h.data.toList.length = 8 := hx.h
  have eg : x.g.data.toList.length = x.g.size := rfl
  have eb : x.b.data.toList.length = x.b.size := rfl
  have hsz : (⟨(pre ++ (x.bytes ++ post)).toArray⟩ : ByteArray).size = pre.length + (10 + x.g.size + x.b.size + post.length) := by
    show (pre ++ (x.bytes ++ post)).toArray.size = _
    simp only [List.size_toArray, List.length_append, Ge.len x hx]
  have e1 : pre ++ (x.bytes ++ post) = pre ++ (x.h.data.toList ++ (txtB x.g ++ txtB x.b ++ post)) := by simp [Ge.bytes]
  have e2 : pre ++ (x.bytes ++ post) = (pre ++ x.h.data.toList) ++ (UInt8.ofNat (x.g.size % 256) :: (x.g.data.toList ++ (txtB x.b ++ post))) := by simp [Ge.bytes, txtB, lowB1]
  have e3 : pre ++ (x.bytes ++ post) = (pre ++ x.h.data.toList ++ [UInt8.ofNat (x.g.size % 256)]) ++ (x.g.data.toList ++ (txtB x.b ++ post)) := by simp [Ge.bytes, txtB, lowB1]
  have e4 : pre ++ (x.bytes ++ post) = (pre ++ x.h.data.toList ++ [UInt8.ofNat (x.g.size % 256)] ++ x.g.data.toList) ++ (UInt8.ofNat (x.b.size % 256) :: (x.b.data.toList ++ post)) := by simp [Ge.bytes, txtB, lowB1]
  have e5 : pre ++ (x.bytes ++ post) = (pre ++ x.h.data.toList ++ [UInt8.ofNat (x.g.size % 256)] ++ x.g.data.toList ++ [UInt8.ofNat (x.b.size % 256)]) ++ (x.b.data.toList ++ post) := by simp [Ge.bytes, txtB, lowB1]
  refine ⟨by rw [hsz]; omega, ?_, ?_, by rw [hsz]; omega, ?_, ?_, by rw [hsz]; omega, ?_⟩
  · have h := ext_mid pre x.h.data.toList (txtB x.g ++ txtB x.b ++ post)
    rw [eh] at h
    rw [e1, h]
  · have h := get_mid (pre ++ x.h.data.toList) (UInt8.ofNat (x.g.size % 256)) (x.g.data.toList ++ (txtB x.b ++ post)) (by rw [← e2, hsz, List.length_append, eh]; omega)
    have el : (pre ++ x.h.data.toList).length = pre.length + 8 := by rw [List.length_append, eh]
    simp only [el] at h
    have h2 : (⟨(pre ++ (x.bytes ++ post)).toArray⟩ : ByteArray)[pre.length + 8]'(by rw [hsz]; omega) = UInt8.ofNat (x.g.size % 256) := by
      rw [← h]
      simp only [e2]
    exact (congrArg UInt8.toNat h2).trans (toNat1 x.g.size hx.g)
  · have h := ext_mid (pre ++ x.h.data.toList ++ [UInt8.ofNat (x.g.size % 256)]) x.g.data.toList (txtB x.b ++ post)
    have el : (pre ++ x.h.data.toList ++ [UInt8.ofNat (x.g.size % 256)]).length = pre.length + 8 + 1 := by simp only [List.length_append, eh, List.length_singleton]
    rw [el, eg] at h
    rw [e3, h]
  · have h := get_mid (pre ++ x.h.data.toList ++ [UInt8.ofNat (x.g.size % 256)] ++ x.g.data.toList) (UInt8.ofNat (x.b.size % 256)) (x.b.data.toList ++ post) (by rw [← e4, hsz]; simp only [List.length_append, eh, eg, List.length_singleton]; omega)
    have el : (pre ++ x.h.data.toList ++ [UInt8.ofNat (x.g.size % 256)] ++ x.g.data.toList).length = pre.length + 8 + 1 + x.g.size := by simp only [List.length_append, eh, eg, List.length_singleton]
    simp only [el] at h
    have h2 : (⟨(pre ++ (x.bytes ++ post)).toArray⟩ : ByteArray)[pre.length + 8 + 1 + x.g.size]'(by rw [hsz]; omega) = UInt8.ofNat (x.b.size % 256) := by
      rw [← h]
      simp only [e4]
    exact (congrArg UInt8.toNat h2).trans (toNat1 x.b.size hx.b)
  · have h := ext_mid (pre ++ x.h.data.toList ++ [UInt8.ofNat (x.g.size % 256)] ++ x.g.data.toList ++ [UInt8.ofNat (x.b.size % 256)]) x.b.data.toList post
    have el : (pre ++ x.h.data.toList ++ [UInt8.ofNat (x.g.size % 256)] ++ x.g.data.toList ++ [UInt8.ofNat (x.b.size % 256)]).length = pre.length + 8 + 1 + x.g.size + 1 := by simp only [List.length_append, eh, eg, List.length_singleton]
    rw [el, eb] at h
    rw [e5, h]
theorem rec_at (es : List Ge) (hok : ∀ x ∈ es, GeOk x) (i : Nat) (hi : i < es.length) : RcAt (recS es) (offE es i) es[i] := by
  have e : recS es = ⟨((0 :: lowB es.length 1 ++ (es.take i).flatMap Ge.bytes) ++ (es[i].bytes ++ (es.drop (i + 1)).flatMap Ge.bytes)).toArray⟩ := by
    have h : es.flatMap Ge.bytes = (es.take i).flatMap Ge.bytes ++ (es[i].bytes ++ (es.drop (i + 1)).flatMap Ge.bytes) := by
      have h1 := congrArg (fun l => l.flatMap Ge.bytes) (take_drop_mid es i hi)
      simp only [List.flatMap_append, List.flatMap_cons] at h1
      exact h1
    unfold recS okL
    rw [h]
    simp
  have el : (0 :: lowB es.length 1 ++ (es.take i).flatMap Ge.bytes).length = offE es i := by
    unfold offE
    rw [List.length_append, List.length_cons, lowB_length]
  rw [e, ← el]
  exact rcAt_of _ _ _ (hok _ (List.getElem_mem _))
theorem rec_one (es : List Ge) (hl : es.length ≤ 255) (h : 1 < (recS es).size) : (recS es)[1].toNat = es.length := by
  have e : (recS es)[1] = UInt8.ofNat (es.length % 256) := (okL_get _ 1 h).trans (by simp [lowB1])
  rw [e, toNat1 _ hl]

theorem info50 : (Tryz.prog.info? 50).map (fun i => (i.zero, i.size, i.bytes)) = some (some (.agg #[.string ⟨#[]⟩, .string ⟨#[]⟩, .string ⟨#[]⟩]), 3, 48) := by kernel_rfl
theorem own_base {w : World} {base t size n : Nat} {v : Value} {xs : List Value} (h : w.ownsRow base t size v n xs) : w.ownsRow 0 t size v n xs := by
  refine ⟨h.1, ?_⟩
  rcases h.2 with hn | ⟨g, cap, cur, rfl, hb, hg, rest⟩
  · exact .inl hn
  · exact .inr ⟨g, cap, cur, rfl, Nat.zero_le _, hg, rest⟩
theorem own_ge {w : World} {base t size n : Nat} {v : Value} {xs : List Value} (h : w.ownsRow base t size v n xs) : ∀ k, v.ownBlock = some k → base ≤ k := fun k hk => by
  rcases h.2 with ⟨rfl, _⟩ | ⟨g, cap, cur, rfl, hb, hg, rest⟩
  · simp [Value.ownBlock] at hk
  · simp only [Value.ownBlock, Option.some.injEq] at hk
    omega
theorem wpList_valsB (base : Nat) (w : World) {ops : Array Oper} {rest : List Oper} {o : Oper} {a : Act} {Q : Exit → Act → World → Prop} (hgd : o.guard = none) (s x : Operand) (t te : TypeId)
    (ho : o.op = .call { callee := .builtin .append, args := #[s, x], argTypes := #[t, t] }) (ht : Tryz.prog.underlying t = some (.slice te)) (z : Value) (size bytes : Nat)
    (hinfo : (Tryz.prog.info? te).map (fun i => (i.zero, i.size, i.bytes)) = some (some z, size, bytes)) (hzs : z.cells.size = size) (hsz : 0 < size) (hby : bytes ≤ 100)
    (v : Value) (n : Nat) (xs : List Value) (hs : a.eval s = v) (hown : w.ownsRow base te size v n xs) (hbase : base ≤ w.heap.size) (g : Nat) (news : List Value) (m : Nat) (hx : a.eval x = .slice (some ⟨g, 0, none⟩) m m) (hm : news.length = m * size) (hm0 : 0 < m) (hg : w.heap[g]? = some (.cells news.toArray te (0, 0))) (hone : ∀ u ∈ news, u.oneCell' = true) (hn : n + m ≤ 1073741824)
    (h : ∀ v' w', w'.ownsRow base te size v' (n + m) (xs ++ news) → w.grownBy w' v.ownBlock → (v'.ownBlock = v.ownBlock ∨ v'.ownBlock = some w.heap.size) → wpList Tryz.prog ops Q rest (a.put o.dst v') w') : wpList Tryz.prog ops Q (o :: rest) a w := by
  obtain ⟨i0, hi, hz0, hz1, hz2⟩ := info_parts hinfo
  refine wpList_app w hgd s x t ho base te i0 _ size bytes ht hi hz0 hz1 hz2 hzs hsz v n xs hs hown ⟨g, 0, none⟩ m m news hx hm ?_ hone (by unfold maxLen; omega) ?_ hbase hm0 h
  · intro j u hj
    have e : (⟨g, 0, none⟩ : Addr).add j = ⟨g, j, none⟩ := by unfold Addr.add; split <;> simp_all
    rw [e, cell_of_row w g j _ te (0, 0) hg, ← hj]
    simp
  · have h1 : (n + m) * bytes ≤ 1073741824 * 100 := Nat.mul_le_mul hn hby
    omega

set_option maxRecDepth 8000 in
set_option maxHeartbeats 4000000 in
theorem received_any (es : List Ge) (w : World) (hok : ∀ x ∈ es, GeOk x) (hl : es.length ≤ 10) :
    Calls Tryz.prog 21 #[.string (recS es)] w fun e w' => ∃ v, e = .returned (.tuple #[v, .bool true]) ∧ w'.ownsRow w.heap.size 50 3 v es.length (es.flatMap Ge.row) ∧ Tch [] w w' := by
  have hfb := flat_bound es hok
  have hsz : (recS es).size ≤ 6000 ∧ 2 ≤ (recS es).size := by
    unfold recS
    rw [okL_size, List.length_append, lowB_length]
    omega
  have HF : Hid (∀ W, Calls Tryz.prog 35 #[.string (recS es)] W fun e w' => e = .returned (.bool true) ∧ w' = W) := fun W => fine_ok _ W (by rw [List.length_append, lowB_length]; omega)
  have HAT : Hid (∀ i (hi : i < es.length), RcAt (recS es) (offE es i) es[i]) := fun i hi => rec_at es hok i hi
  have HSU : Hid (∀ i (hi : i < es.length), offE es (i + 1) = offE es i + 8 + 1 + es[i].g.size + 1 + es[i].b.size) := fun i hi => offE_succ es i hi hok
  have HEN : Hid ((recS es).size = offE es es.length) := rec_size es
  have h1 : 1 < (recS es).size := by omega
  have hone : (recS es)[1].toNat = es.length := rec_one es (by omega) h1
  have HOF0 : Hid (offE es 0 = 2) := rfl
  generalize recS es = s at *
  go_enter Tryz.func21, Tryz.ntmps21
  go_wp2_with fail
  refine (HF.out _).mono ?_
  rintro e w' ⟨rfl, h'⟩
  have h'' := h'.symm
  subst h''
  go_wp2_with fail
  go_loopw [5, 6, 7] (fun v5 v6 v7 wr => ∃ (i : Nat) (ov : Value), i ≤ es.length ∧ v5 = ov ∧ v7 = .int .i64 (i : Int) ∧ v6 = .int .i64 (offE es i : Nat) ∧ wr.ownsRow w.heap.size 50 3 ov i ((es.take i).flatMap Ge.row) ∧ Tch [] w wr) (fun _ _ v _ => es.length - (intOf v).toNat)
  case atStart => exact ⟨0, _, Nat.zero_le _, rfl, rfl, by rw [HOF0.out]; rfl, by simpa using World.ownsRow_nil w _ _ _, Tch.refl _ _⟩
  case round =>
    obtain ⟨i, ov, hi, rfl, rfl, rfl, ho, ht⟩ := hrel
    have HO : Hid (wr.ownsRow w.heap.size 50 3 u5 i ((es.take i).flatMap Ge.row)) := ho
    have HT : Hid (Tch [] w wr) := ht
    clear ho ht
    by_cases hlt : i < es.length
    · have hat := HAT.out i hlt
      have hsu := HSU.out i hlt
      have l1 := hat.l1
      have l2 := hat.l2
      have l3 := hat.l3
      have hx8 := hat.h
      have HX1 : Hid (∀ W, Calls Tryz.prog 38 #[.string s, .int .i64 ((offE es i : Nat) + 8 : Int)] W fun e w' => e = .returned (.tuple #[.string es[i].g, .int .i64 ((offE es i + 8 + 1 + es[i].g.size : Nat) : Int), .bool true]) ∧ w' = W) := fun W => by
        have h := text_at s (offE es i + 8) es[i].g.size W (by omega) hat.l1 hat.n1 (by omega)
        rw [hat.g, show ((offE es i + 8 : Nat) : Int) = (offE es i : Nat) + 8 from by omega] at h
        exact h
      have HX2 : Hid (∀ W, Calls Tryz.prog 38 #[.string s, .int .i64 ((offE es i + 8 + 1 + es[i].g.size : Nat) : Int)] W fun e w' => e = .returned (.tuple #[.string es[i].b, .int .i64 ((offE es (i + 1) : Nat) : Int), .bool true]) ∧ w' = W) := fun W => by
        have h := text_at s (offE es i + 8 + 1 + es[i].g.size) es[i].b.size W (by omega) hat.l2 hat.n2 (by omega)
        rw [hat.b, ← hsu] at h
        exact h
      have HTK : Hid ((es.take (i + 1)).flatMap Ge.row = (es.take i).flatMap Ge.row ++ [.string es[i].h, .string es[i].g, .string es[i].b]) := by
        show _ = _
        rw [List.take_succ_eq_append_getElem hlt, List.flatMap_append]
        simp [Ge.row]
      clear hat hsu
      generalize es[i].h = xh at *
      generalize es[i].g = xg at *
      generalize es[i].b = xb at *
      generalize hat2 : offE es (i + 1) = at2 at *
      generalize offE es i = at1 at *
      clear HAT HSU HEN
      go_wp2_with fail
      refine (HX1.out _).mono ?_
      rintro e w' ⟨rfl, h'⟩
      have h'' := h'.symm
      subst h''
      go_wp2_with fail
      refine (HX2.out _).mono ?_
      rintro e w' ⟨rfl, h'⟩
      have h'' := h'.symm
      subst h''
      have zr := HT.out.size
      obtain ⟨oa, oc, hoe⟩ := own_shape HO.out
      subst hoe
      go_wp2_with (at_builtin; refine wpList_valsB w.heap.size _ rfl _ _ 45 50 rfl Tryz.underlying45 (.agg #[.string ⟨#[]⟩, .string ⟨#[]⟩, .string ⟨#[]⟩]) 3 48 info50 rfl (by decide) (by decide) (.slice oa i oc) i ((es.take i).flatMap Ge.row) ?hvs ?hvo ?hvb wr.heap.size [.string xh, .string xg, .string xb] 1 ?hvx rfl (by decide) ?hvg ?hv1 (by omega) ?hvk)
      case hvs => simp [Act.eval, Act.put]
      case hvo => exact own_tch HO.out ((Tch.refl [] _).alloc _) (fun _ _ => by simp)
      case hvb => rw [World.size_alloc]; omega
      case hvx => simp [Act.eval, Act.put]
      case hvg => exact heap_alloc_new _ _
      case hv1 => intro u hu; simp at hu; rcases hu with rfl | rfl | rfl <;> rfl
      intro v2 w2 ho2 hg2 hb2
      have HO2 : Hid (w2.ownsRow w.heap.size 50 3 v2 (i + 1) ((es.take (i + 1)).flatMap Ge.row) ∧ Tch [] w w2) := by
        refine ⟨by rw [HTK.out]; exact ho2, (HT.out.alloc _).grown hg2 (fun k hk hlt => ?_)⟩
        have := own_ge HO.out k hk
        omega
      clear ho2 hg2 hb2
      go_wp2_with fail
      go_roundw
      case rel => exact ⟨i + 1, v2, by omega, rfl, by go_num, by rw [hat2], HO2.out.1, HO2.out.2⟩
      case measure => simp [intOf]; omega
    · have hie : i = es.length := by omega
      subst hie
      have hen : ((offE es es.length : Nat) : Int) = (s.size : Int) := by rw [HEN.out]
      go_wp2_with fail
      go_ret2
      refine ⟨_, by simp [hen]; rfl, ?_, HT.out⟩
      have h9 := HO.out
      rw [List.take_length] at h9
      exact h9
end Go.Proofs.YtbdobaapadlcjaaGreatDoor

namespace Go.Proofs.YtbdobaapadlcjaaGreatDoor
open Go.RowKit Keep
set_option linter.unusedVariables false
set_option linter.unusedSimpArgs false

theorem str_inj {a b : ByteArray} (h : a.toList = b.toList) : a = b := ByteArray.ext (Array.toList_inj.1 (by rw [← ByteArray.toList_eq, ← ByteArray.toList_eq]; exact h))
theorem isG_iff (g : ByteArray) (m : Ms) : isG g m = true ↔ m.grp = g := by
  unfold isG
  rw [beq_iff_eq]
  exact ⟨str_inj, fun h => by rw [h]⟩
theorem idxL_map {α β : Type} (f : α → β) (p : β → Bool) (l : List α) : idxL (fun x => p (f x)) l = idxL p (l.map f) := by
  induction l with
  | nil => rfl
  | cons x l ih => simp only [idxL, List.map_cons, ih]
theorem idxL_grp (g : ByteArray) (l l' : List Ms) (h : l.map Ms.grp = l'.map Ms.grp) : idxL (isG g) l = idxL (isG g) l' := by
  have h1 := idxL_map Ms.grp (fun x : ByteArray => x.toList == g.toList) l
  have h2 := idxL_map Ms.grp (fun x : ByteArray => x.toList == g.toList) l'
  rw [← h] at h2
  exact h1.trans h2.symm
theorem flyAt_grp (til : Int) (ms : List Ms) (z : Int) : (flyAt til ms z).map Ms.grp = ms.map Ms.grp := by
  unfold flyAt
  split
  · rename_i m hm
    obtain ⟨hl, hm⟩ := List.getElem?_eq_some_iff.1 hm
    rw [List.map_set]
    apply List.ext_getElem (by simp)
    intro i h1 h2
    rw [List.getElem_set]
    split
    · rename_i e
      subst e
      simp [flyM, hm]
    · rfl
  · rfl
theorem flyAll_grp (til : Int) (ms : List Ms) (zs : List Int) : (flyAll til ms zs).map Ms.grp = ms.map Ms.grp := by
  unfold flyAll
  induction zs generalizing ms with
  | nil => rfl
  | cons z zs ih => rw [List.foldl_cons, ih, flyAt_grp]
theorem flyAt_til (til : Int) (ms : List Ms) (z : Int) (P : Int → Prop) (hP : P til) (h : ∀ m ∈ ms, P m.til) : ∀ m ∈ flyAt til ms z, P m.til := by
  unfold flyAt
  split
  · intro x hx
    rcases List.mem_or_eq_of_mem_set hx with hx | hx
    · exact h x hx
    · rw [hx]; exact hP
  · exact h
theorem flyAll_til (til : Int) (ms : List Ms) (zs : List Int) (P : Int → Prop) (hP : P til) (h : ∀ m ∈ ms, P m.til) : ∀ m ∈ flyAll til ms zs, P m.til := by
  unfold flyAll
  induction zs generalizing ms with
  | nil => exact h
  | cons z zs ih => rw [List.foldl_cons]; exact ih _ (flyAt_til til ms z P hP h)

/-- What is told of a ready group. -/
def entG (Q : QM) (g : ByteArray) : Ge := match Q.ms[(idxL (isG g) Q.ms).toNat]? with
  | some m => ⟨⟨(hanB 97 m.num.toNat (oft m.rcv.toNat)).toArray⟩, m.grp, m.bod⟩
  | none => ⟨⟨#[]⟩, g, ⟨#[]⟩⟩
theorem idxL_at {α : Type} (p : α → Bool) : ∀ (l : List α) (i : Nat), idxL p l = (i : Int) → ∃ h : i < l.length, p l[i] = true
  | [], i, h => by simp only [idxL] at h; omega
  | x :: l, i, h => by
    simp only [idxL] at h
    by_cases hx : p x = true
    · rw [if_pos hx] at h
      have : i = 0 := by omega
      subst this
      exact ⟨by simp, hx⟩
    · rw [if_neg hx] at h
      split at h
      · omega
      · obtain ⟨j, rfl⟩ : ∃ j, i = j + 1 := ⟨i - 1, by omega⟩
        obtain ⟨hl, hp⟩ := idxL_at p l j (by omega)
        exact ⟨by simp; omega, by simpa using hp⟩
theorem ent_of (Q : QM) (g : ByteArray) (h0 : 0 ≤ idxL (isG g) Q.ms) (hms : ∀ m ∈ Q.ms, MsOk m) : (entG Q g).g = g ∧ GeOk (entG Q g) ∧ givM Q g = (entG Q g).bytes := by
  obtain ⟨i, hi⟩ : ∃ i : Nat, idxL (isG g) Q.ms = (i : Int) := ⟨_, (Int.toNat_of_nonneg h0).symm⟩
  obtain ⟨hl, hp⟩ := idxL_at _ _ i hi
  have hg := (isG_iff g _).1 hp
  have hok := hms _ (List.getElem_mem hl)
  have e1 : Q.ms[(idxL (isG g) Q.ms).toNat]? = some Q.ms[i] := by rw [hi]; simp [hl]
  have e2 : entG Q g = ⟨⟨(hanB 97 Q.ms[i].num.toNat (oft Q.ms[i].rcv.toNat)).toArray⟩, Q.ms[i].grp, Q.ms[i].bod⟩ := by unfold entG; rw [e1]
  have e3 : givM Q g = givB 97 Q.ms[i].num.toNat Q.ms[i].rcv.toNat Q.ms[i].grp Q.ms[i].bod := by unfold givM; rw [e1]
  rw [e2, e3]
  refine ⟨hg, ⟨?_, hok.grp, hok.bod⟩, rfl⟩
  show (hanB 97 Q.ms[i].num.toNat (oft Q.ms[i].rcv.toNat)).toArray.size = 8
  simp [hanB, lowB_length]
/-- All that is told. -/
def entL (Q : QM) (cnt : Nat) : List Ge := (Q.rs.take cnt).map (entG Q)
theorem entL_len (Q : QM) (cnt : Nat) (h : cnt ≤ Q.rs.length) : (entL Q cnt).length = cnt := by simp [entL]; omega
theorem ans_rec (Q : QM) (cnt : Nat) (h : cnt ≤ Q.rs.length) (hrd : ∀ g ∈ Q.rs, 0 ≤ idxL (isG g) Q.ms) (hms : ∀ m ∈ Q.ms, MsOk m) : okL (ansL Q cnt cnt) = recS (entL Q cnt) := by
  have e : (Q.rs.take cnt).flatMap (givM Q) = (entL Q cnt).flatMap Ge.bytes := by
    unfold entL
    rw [List.flatMap_map]
    have h2 : ∀ l : List ByteArray, (∀ g ∈ l, 0 ≤ idxL (isG g) Q.ms) → l.flatMap (givM Q) = l.flatMap (fun g => (entG Q g).bytes) := fun l => by
      induction l with
      | nil => intro _; rfl
      | cons g l ih =>
        intro hl
        rw [List.flatMap_cons, List.flatMap_cons, ih (fun x hx => hl x (by simp [hx])), (ent_of Q g (hl g (by simp)) hms).2.2]
    exact h2 _ (fun g hg => hrd g (List.mem_of_mem_take hg))
  unfold recS ansL
  rw [entL_len Q cnt h, e]
theorem entL_ok (Q : QM) (cnt : Nat) (hrd : ∀ g ∈ Q.rs, 0 ≤ idxL (isG g) Q.ms) (hms : ∀ m ∈ Q.ms, MsOk m) : ∀ x ∈ entL Q cnt, GeOk x := fun x hx => by
  unfold entL at hx
  obtain ⟨g, hg, rfl⟩ := List.mem_map.1 hx
  exact (ent_of Q g (hrd g (List.mem_of_mem_take hg)) hms).2.1
theorem entL_grp (Q : QM) (cnt : Nat) (hrd : ∀ g ∈ Q.rs, 0 ≤ idxL (isG g) Q.ms) (hms : ∀ m ∈ Q.ms, MsOk m) : (entL Q cnt).map Ge.g = Q.rs.take cnt := by
  unfold entL
  rw [List.map_map]
  apply List.ext_getElem (by simp)
  intro i h1 h2
  simp only [List.getElem_map, Function.comp]
  exact (ent_of Q _ (hrd _ (List.mem_of_mem_take (List.getElem_mem _))) hms).1
theorem ans_len (Q : QM) (cnt : Nat) (h : cnt ≤ Q.rs.length) (hc : cnt ≤ 10) (hrd : ∀ g ∈ Q.rs, 0 ≤ idxL (isG g) Q.ms) (hms : ∀ m ∈ Q.ms, MsOk m) : (ansL Q cnt cnt).length ≤ 10000 := by
  have h1 := congrArg ByteArray.size (ans_rec Q cnt h hrd hms)
  have h2 := flat_bound (entL Q cnt) (entL_ok Q cnt hrd hms)
  rw [entL_len Q cnt h] at h2
  rw [okL_size] at h1
  have h3 : (recS (entL Q cnt)).size = (lowB (entL Q cnt).length 1 ++ (entL Q cnt).flatMap Ge.bytes).length + 1 := okL_size _
  rw [List.length_append, lowB_length] at h3
  omega

/-- What holds behind the first R. -/
structure SJ (Q0 Q : QM) (cnt : Nat) (att : ByteArray) (ans : List UInt8) : Prop where
  c : Q.c = Q0.c
  grp : Q.ms.map Ms.grp = Q0.ms.map Ms.grp
  len : Q.ms.length = Q0.ms.length
  ok : ∀ m ∈ Q.ms, MsOk m
  til : ∀ m ∈ Q.ms, m.til = 0 ∨ m.til = Q0.c.vis
  rs : Q.rs = Q0.rs.drop cnt
  ds : Q.ds.length ≤ Q0.ds.length
  rep : (cnt = 0 ∧ Q.rs = [] ∧ Q.ats = [] ∧ ans = lowB 0 1) ∨ (0 < cnt ∧ Q.ats = [⟨att, Q0.c.vis, ⟨ans.toArray⟩⟩])
theorem filter_len {α : Type} (p : α → Bool) (l : List α) : (l.filter p).length ≤ l.length := List.length_filter_le p l
theorem SJ.forg {Q0 Q : QM} {cnt : Nat} {att : ByteArray} {ans : List UInt8} (h : SJ Q0 Q cnt att ans) (n : Int) (hn : n < Q0.c.vis) : SJ Q0 (forgQ n Q) cnt att ans := by
  refine ⟨h.c, h.grp, h.len, h.ok, h.til, h.rs, Nat.le_trans (filter_len _ _) h.ds, ?_⟩
  rcases h.rep with ⟨h0, h1, h2, h3⟩ | ⟨h0, h1⟩
  · exact .inl ⟨h0, h1, by show Q.ats.filter _ = []; rw [h2]; rfl, h3⟩
  · refine .inr ⟨h0, ?_⟩
    show Q.ats.filter _ = _
    rw [h1]
    have : ¬ (Q0.c.vis ≤ n) := by omega
    simp [this]
theorem SJ.first {Q : QM} (hS : SI Q) (hl : Q.ms.length ≤ 1000) (att : ByteArray) (ha : 1 ≤ att.size) (cnt mx : Nat) (hm : 1 ≤ mx) (hcnt : cnt = if mx ≤ Q.rs.length then mx else Q.rs.length) : SJ Q (if cnt = 0 then Q else recvQ Q att cnt (0 + Q.c.vis) (ansL Q cnt cnt)) cnt att (ansL Q cnt cnt) := by
  have hok := hS.mok hl
  have hz : ∀ m ∈ Q.ms, m.til = 0 := fun m hm => (hS.ok m hm).2.1
  by_cases h0 : cnt = 0
  · rw [if_pos h0]
    have hr : Q.rs = [] := by
      have : Q.rs.length = 0 := by split at hcnt <;> omega
      exact List.length_eq_zero_iff.1 this
    refine ⟨rfl, rfl, rfl, hok, fun m hm => .inl (hz m hm), by rw [h0]; rfl, Nat.le_refl _, .inl ⟨h0, hr, hS.ats, ?_⟩⟩
    unfold ansL
    rw [h0]
    simp
  · rw [if_neg h0]
    have hs : ¬ att.size = 0 := by omega
    have e : recvQ Q att cnt (0 + Q.c.vis) (ansL Q cnt cnt) = { Q with ms := flyAll (0 + Q.c.vis) Q.ms (hdsL Q cnt), rs := Q.rs.drop cnt, ats := Q.ats ++ [⟨att, 0 + Q.c.vis, ⟨(ansL Q cnt cnt).toArray⟩⟩] } := by
      unfold recvQ remQ
      rw [if_neg hs]
    have ez : (0 : Int) + Q.c.vis = Q.c.vis := by omega
    rw [e, ez]
    refine ⟨rfl, flyAll_grp _ _ _, flyAll_len _ _ _, flyAll_ok _ _ _ hok, flyAll_til _ _ _ (fun t => t = 0 ∨ t = Q.c.vis) (.inr rfl) (fun m hm => .inl (hz m hm)), rfl, Nat.le_refl _, .inr ⟨by omega, ?_⟩⟩
    show Q.ats ++ _ = _
    rw [hS.ats]
    rfl

/-- Nothing is ready. -/
theorem recv_none (B m : Nat) (Q : QM) (V : QV) (r : Wp.Rq) (x st b qb mx : Nat) (now : Int) (w : World) (hw : Wf r) (hright : rightW r nil0 (Wp.short []) = true) (hop : r.op = 82) (hq : r.q = 97) (hsm : (printS r nil0 []).size ≤ 300) (hL : Lays B w) (hT : Tab w) (hBw : B ≤ w.heap.size) (h3 : 3 ≤ B) (hm : m ≤ 24)
    (hG : GQ B (m + 1) w x st b qb now V Q) (hna : Q.ats = []) (hnr : Q.rs = []) (hmx : r.mx = (mx : Nat)) (hm1 : 1 ≤ mx ∧ mx ≤ 10) (hnow : 0 ≤ now ∧ now ≤ 60000) (hvis : 0 ≤ Q.c.vis ∧ Q.c.vis ≤ 1001) (hnm : Q.ms.length ≤ 1000) (hms : ∀ m ∈ Q.ms, MsOk m) :
    Calls Tryz.prog 18 #[.pointer (some ⟨x, 0, none⟩), .agg (cellsOf r nil0.v)] w fun e w' => e = .returned (.string (okL (lowB 0 1))) ∧ Tch [] w w' := by
  have ea : ansL Q 0 0 = lowB 0 1 := by unfold ansL; simp
  have h := asked_R B m (fun t w' => t = okL (lowB 0 1) ∧ Tch [] w w') (lowB 0 1) (by decide) (by decide) r x st b qb now w hw hright hop hq hsm hL hT hBw h3 hm hG.jn hG.brk (fun W y ht => ?_)
  · exact h.mono fun e w' ⟨t, he, ht, h2⟩ => ⟨by rw [he, ht], h2⟩
  · refine (receive_some Q V r y qb now W (hG.qr.tch ht (by simp)) (by rw [hna]; decide) (by rw [hnr]; decide) (by rw [hna]; exact (by simp [idxL] : idxL (isA r.att) [] < 0)) mx 0 hmx hm1 (by rw [hnr]; rw [if_neg (by show ¬ mx ≤ 0; omega)]; rfl) hnow hvis hnm (by rw [hnr]; simp) hms).mono ?_
    rintro e w' ⟨gc, ga, base, av, ⟨h0, rfl, hown, ht'⟩ | ⟨h0, rfl, hrc, hg1, hg2, hg3⟩⟩
    · rw [ea] at hown
      exact ⟨av, .nilFunc, rfl, ht', Rdb.of_own hown (by decide), fun w2 ht2 => .inl ⟨rfl, fun w3 ht3 => ⟨rfl, ((ht.trans ht' (by simp)).trans ht2 (by simp)).trans ht3 (by simp)⟩⟩⟩
    · omega

/-- A request of the Op R that is right. -/
structure Rcv (r : Wp.Rq) (mx : Nat) : Prop where
  wf : Wf r
  right : rightW r nil0 (Wp.short []) = true
  op : r.op = 82
  q : r.q = 97
  small : (printS r nil0 []).size ≤ 300
  max : r.mx = (mx : Nat)
  m1 : 1 ≤ mx ∧ mx ≤ 10

/-- Who asks again is told the same. -/
theorem asked_rep (B m : Nat) (Q0 Q : QM) (V : QV) (r : Wp.Rq) (x st b qb mx cnt : Nat) (ans : List UInt8) (now : Int) (w : World) (hE : Env B w) (hr : Rcv r mx) (hm : m ≤ 24)
    (hG : GQ B (m + 1) w x st b qb now V Q) (hS : SJ Q0 Q cnt r.att ans) (hnm : Q.ms.length ≤ 1000) (hnow : 0 ≤ now ∧ now ≤ 60000) (hvis : 0 ≤ Q.c.vis ∧ Q.c.vis ≤ 1001) (ha0 : 0 < ans.length) (ha1 : ans.length ≤ 10000) :
    Calls Tryz.prog 18 #[.pointer (some ⟨x, 0, none⟩), .agg (cellsOf r nil0.v)] w fun e w' => e = .returned (.string (okL ans)) ∧ Tch [] w w' := by
  rcases hS.rep with ⟨h0, h1, h2, h3⟩ | ⟨h0, h1⟩
  · rw [h3]
    exact recv_none B m Q V r x st b qb mx now w hr.wf hr.right hr.op hr.q hr.small hE.lays hE.tab hE.size hE.three hm hG h2 h1 hr.max hr.m1 hnow hvis hnm hS.ok
  · have hi : idxL (isA r.att) Q.ats = ((0 : Nat) : Int) := by rw [h1]; simp [idxL, isA]
    exact recv_known B m Q V r x st b qb 0 now ⟨r.att, Q0.c.vis, ⟨ans.toArray⟩⟩ w hr.wf hr.right hr.op hr.q hr.small hE.lays hE.tab hE.size hE.three hm hG (by rw [h1]; exact (by simp : 1 ≤ 1000)) hi (by rw [h1]; rfl) (by show 0 < ans.toArray.size; simpa using ha0) (by show ans.toArray.size ≤ 10000; simpa using ha1)
end Go.Proofs.YtbdobaapadlcjaaGreatDoor

namespace Go.Proofs.YtbdobaapadlcjaaGreatDoor
open Go.RowKit Keep
set_option linter.unusedVariables false
set_option linter.unusedSimpArgs false

abbrev TS : List TypeId := [234, 143, 110, 116, 156, 191, 226, 230, 9, 42, 53]
/-- A game of which i messages were sent; good for k more requests. -/
structure AI (B : Nat) (w wr : World) (lb x st b qb : Nat) (c : Wp.Rq) (k i : Nat) (V : QV) (Q : QM) (sv : Value) : Prop where
  gq : GQ B k wr x st b qb 0 V Q
  ln : Ln wr lb x c sv
  own : wr.ownsRow 0 53 6 sv Q.ms.length (Q.ms.flatMap snR)
  slo : ∀ j, sv.ownBlock = some j → B ≤ j
  llo : B ≤ lb
  si : SI Q
  qc : Q.c = c
  len : Q.ms.length ≤ i
  ne : 0 < i → Q.ms ≠ []
  fr : Fr B TS w wr
theorem AI.tch {B : Nat} {w wr w' : World} {lb x st b qb : Nat} {c : Wp.Rq} {k i : Nat} {V : QV} {Q : QM} {sv : Value} (h : AI B w wr lb x st b qb c k i V Q sv) (hB : B ≤ w.heap.size) (ht : Tch [] wr w') : AI B w w' lb x st b qb c k i V Q sv :=
  ⟨h.gq.tch ht, h.ln.tch ht (by simp), own_tch h.own ht (by simp), h.slo, h.llo, h.si, h.qc, h.len, h.ne, h.fr.trans (Fr.of_nil TS ht (Nat.le_trans hB h.fr.size))⟩
theorem GQ.lessN {B m : Nat} {w : World} {x st b qb : Nat} {now : Int} {V : QV} {Q : QM} : ∀ j, GQ B (m + j) w x st b qb now V Q → GQ B m w x st b qb now V Q
  | 0, h => h
  | j + 1, h => GQ.lessN j (GQ.less h)

theorem send_step (B m i : Nat) (w wr : World) (lb x st b qb : Nat) (c : Wp.Rq) (V : QV) (Q : QM) (sv : Value) (grp bod : ByteArray) (hE : Env B w) (h : AI B w wr lb x st b qb c (m + 1) i V Q sv) (hm : m ≤ 24) (hi : i < 20) (hgs : grp.size ≤ maxLen) (hbs : bod.size ≤ 40) (hwin : 0 ≤ c.win ∧ c.win ≤ 1001) (hquo : c.quo = 50) :
    Calls Tryz.prog 20 #[.pointer (some ⟨lb, 0, none⟩), .agg (stepC grp bod)] wr fun e w' => e = .returned (.bool true) ∧ ∃ V' Q' sv', AI B w w' lb x st b qb c m (i + 1) V' Q' sv' := by
  have hE' := hE.fr h.fr
  have hgz := nmS_size grp
  have hS : Snd (sndRq (nmS grp) bod) := snd_of (nmS grp) ⟨#[]⟩ bod hgz.1 hgz.2 (by decide) (by decide) hbs
  have hlen := h.len
  have hnx := h.si.next
  have hds := h.si.ds
  have hrs := h.si.rs
  have hqc := h.qc
  by_cases hid : idxL (isI (didS (sndRq (nmS grp) bod))) Q.ds < 0
  · refine sendL_walk (fun w' => ∃ V' Q' sv', AI B w w' lb x st b qb c m (i + 1) V' Q' sv') (fun w1 => Fr B TG wr w1 ∧ Ln w1 lb x c sv ∧ w1.ownsRow 0 53 6 sv Q.ms.length (Q.ms.flatMap snR) ∧ ∃ V', GQ B m w1 x st b qb 0 V' (sendQ Q (sndRq (nmS grp) bod) 0)) c lb x Q.next sv Q.ms grp bod wr hgs hbs h.ln (by omega) (by omega) ?_ (.inr ⟨?_, ?_, ?_⟩)
    · intro W ht
      have hE2 := hE'.tch ht (by simp)
      refine (send_fresh B m Q V (sndRq (nmS grp) bod) x st b qb 0 W hS.wf hS.right hS.op hS.q hS.small hE2.lays hE2.tab hE2.size hE2.three hm (h.gq.tch ht) hS.bod (by omega) (by omega) (by omega) (by omega) (by rw [hqc]; exact hwin) ⟨by decide, by decide⟩ hid (by rw [hqc, hquo]; omega)).mono ?_
      rintro e w' ⟨rfl, hf, V', hG⟩
      have hl' := (h.ln.tch ht (by simp)).fr hf (by decide)
      have ho' := hf.own (own_tch h.own ht (by simp)) (by decide : (53 : TypeId) ∉ TG)
      exact ⟨rfl, hl', ho', fun k C hk => hf.keep k C 27 hk (by decide), (Fr.of_nil TG ht hE'.size).trans hf, hl', ho', V', hG⟩
    · rw [h.si.find_fresh]; decide
    · intro m' hm'
      obtain ⟨j, hj, rfl⟩ := List.mem_iff_getElem.1 hm'
      have := h.si.num j hj
      omega
    · rintro w1 w' sv' ⟨hf, hl1, ho1, V', hG⟩ hl ho hn ht
      have z1 := hf.size
      have hBr := hE'.size
      have f2 : Fr B [42, 53] w1 w' := Fr.of_tch ht (by omega) (fun k hk => by
        rcases List.mem_cons.1 hk with e | e
        · rw [e]; exact h.llo
        · exact h.slo k (mem_bl.1 e)) (fun k hk C t hC => by
        rcases List.mem_cons.1 hk with e | e
        · have h0 : w1.heap[lb]? = _ := hl1
          rw [← e, hC] at h0
          simp at h0
          rw [h0.2]; decide
        · by_cases e53 : 53 = t
          · rw [← e53]; decide
          · exact absurd (mem_bl.1 e) (own_ne ho1 hC e53))
      refine ⟨V', sendQ Q (sndRq (nmS grp) bod) 0, sv', hG.keep f2 (by decide), hl, ?_, fun j hj => ?_, h.llo, h.si.send hgz.2 hbs, hqc, ?_, fun _ => by simp [sendQ], h.fr.trans ((hf.mono (by decide)).trans (f2.mono (by decide)))⟩
      · have e1 : (sendQ Q (sndRq (nmS grp) bod) 0).ms = Q.ms ++ [⟨(Q.next : Nat), nmS grp, bod, 0, 0⟩] := rfl
        rw [e1, List.length_append, List.flatMap_append]
        simpa using ho
      · rcases hn j hj with h1 | h1
        · exact h.slo j h1
        · omega
      · show (Q.ms ++ _).length ≤ i + 1
        rw [List.length_append, List.length_singleton]
        omega
  · obtain ⟨j, hj⟩ : ∃ j : Nat, idxL (isI (didS (sndRq (nmS grp) bod))) Q.ds = (j : Int) := ⟨_, (Int.toNat_of_nonneg (by omega)).symm⟩
    have hjl : j < Q.ds.length := by have := idxL_lt (isI (didS (sndRq (nmS grp) bod))) Q.ds; omega
    obtain ⟨n, hn, hn1, hn2⟩ := h.si.dn _ (List.getElem_mem hjl)
    refine sendL_walk (fun w' => ∃ V' Q' sv', AI B w w' lb x st b qb c m (i + 1) V' Q' sv') (fun w1 => Tch [] wr w1) c lb x n sv Q.ms grp bod wr hgs hbs h.ln (by omega) (by omega) ?_ (.inl ⟨h.si.find_known n hn1 hn2, ?_, ?_⟩)
    · intro W ht
      have hE2 := hE'.tch ht (by simp)
      refine (send_known B m Q V (sndRq (nmS grp) bod) x st b qb j n 0 W hS.wf hS.right hS.op hS.q hS.small hE2.lays hE2.tab hE2.size hE2.three hm (h.gq.tch ht) hS.bod (by omega) hj hjl hn (by omega)).mono ?_
      rintro e w' ⟨rfl, ht2⟩
      have t3 : Tch [] wr w' := ht.trans ht2 (by simp)
      exact ⟨rfl, h.ln.tch t3 (by simp), own_tch h.own t3 (by simp), fun k C hk => (ht2.block k (lt_of_block hk) (by simp)).trans hk, t3⟩
    · rw [← hqc]
      exact h.si.dw (fun e => by rw [e] at hjl; simp at hjl)
    · intro w' ht
      have h' := h.tch hE.size ht
      exact ⟨V, Q, sv, h'.gq.less, h'.ln, h'.own, h'.slo, h'.llo, h'.si, h'.qc, by omega, fun _ e => by rw [e] at hn2; simp at hn2; omega, h'.fr⟩

theorem small_R (r : Wp.Rq) (hright : rightW r nil0 (Wp.short []) = true) (hop : r.op = 82) (h1 : r.att.size ≤ 20) : (printS r nil0 []).size ≤ 300 := by
  rw [(print_bytes r nil0 [] hright).1, BA_size, List.append_nil, List.length_cons, show Wp.lay (r.op.toNat - 65) = [0, 12, 6] by rw [hop]; rfl]
  simp only [encL, List.flatMap_cons, List.flatMap_nil, List.length_append, List.length_nil]
  rw [encF_l0 _ _ 0 rfl, encF_l3 _ _ 12 rfl, encF_l1 _ _ 6 rfl]
  show 1 + (1 + r.att.size + (1 + 0)) + 1 ≤ 300
  omega
abbrev rcvRq (att : ByteArray) (mx : Int) : Wp.Rq := ⟨82, 97, 0, 0, 0, 0, 0, mx, 0, ⟨#[]⟩, ⟨#[]⟩, ⟨#[]⟩, att, ⟨#[]⟩⟩
abbrev rcvC (att : ByteArray) (mx : Int) : Array Value := #[.int .u8 82, .int .u8 97, .int .u8 0, .int .i64 0, .int .i64 0, .int .i64 0, .int .i64 0, .int .i64 mx, .int .i64 0, .string ⟨#[]⟩, .string ⟨#[]⟩, .string ⟨#[]⟩, .string att, .string ⟨#[]⟩, .slice none 0 0]
/-- A right request of the Op R. -/
theorem rcv_of (att : ByteArray) (mx : Nat) (ha : att.size ≤ 8) (hm : 1 ≤ mx ∧ mx ≤ 10) : Rcv (rcvRq att (mx : Int)) mx := by
  have hwf : Wf (rcvRq att (mx : Int)) := Keep.wf_small _ Keep.zz Keep.zz Keep.zz Keep.zz ⟨by show (0 : Int) ≤ (mx : Int); omega, by show (mx : Int) ≤ (1001 : Int); omega⟩ Keep.zz
  have hright : rightW (rcvRq att (mx : Int)) nil0 (Wp.short []) = true := by
    refine (right_iff _ _ _ hwf).2 ⟨17, by decide, rfl, ?_, rfl, rfl⟩
    show List.all [0, 12, 6] _ = true
    simp only [List.all_cons, List.all_nil, Bool.and_true, Bool.and_eq_true]
    exact ⟨Keep.fits_of _ _ _ 0 (by decide) (by decide) (by decide) (show (97 : Int) ≤ 97 by omega) (show (97 : Int) ≤ 104 by omega), Keep.fits_of _ _ _ 12 (by decide) (by decide) (by decide) (show (0 : Int) ≤ (att.size : Int) by omega) (show (att.size : Int) ≤ 8 by omega), Keep.fits_of _ _ _ 6 (by decide) (by decide) (by decide) (show (1 : Int) ≤ (mx : Int) by omega) (show (mx : Int) ≤ 10 by omega)⟩
  exact ⟨hwf, hright, rfl, rfl, small_R _ hright rfl (by show att.size ≤ 20; omega), rfl, hm⟩

set_option maxHeartbeats 1000000 in
theorem receive_last (B m : Nat) (Q : QM) (V : QV) (x st b qb : Nat) (now : Int) (w : World) (hE : Env B w) (hG : GQ B (m + 1) w x st b qb now V Q) (hm : m ≤ 24) (hna : Q.ats.length < 20) (hnr : Q.rs.length ≤ 1000) (hid : idxL (isA ⟨#[]⟩) Q.ats < 0) (hnow : 0 ≤ now ∧ now ≤ 60000) (hvis : 0 ≤ Q.c.vis ∧ Q.c.vis ≤ 1001) (hnm : Q.ms.length ≤ 1000) (hrd : ∀ g ∈ Q.rs, 0 ≤ idxL (isG g) Q.ms) (hms : ∀ m ∈ Q.ms, MsOk m) :
    Calls Tryz.prog 22 #[.pointer (some ⟨x, 0, none⟩), .int .u8 97, .string ⟨#[]⟩, .int .i64 10] w fun e w' => ∃ (v : Value) (es : List Ge), e = .returned (.tuple #[v, .bool true]) ∧ es.map Ge.g = Q.rs.take 10 ∧ es.length ≤ 10 ∧ w'.ownsRow 0 50 3 v es.length (es.flatMap Ge.row) ∧ Fr B TG w w' := by
  have hr := rcv_of ⟨#[]⟩ 10 (by decide) ⟨by decide, by decide⟩
  obtain ⟨cnt, hcnt⟩ : ∃ cnt : Nat, cnt = if 10 ≤ Q.rs.length then 10 else Q.rs.length := ⟨_, rfl⟩
  have hcl : cnt ≤ Q.rs.length ∧ cnt ≤ 10 := by split at hcnt <;> omega
  have htk : Q.rs.take cnt = Q.rs.take 10 := by
    split at hcnt
    · rw [hcnt]
    · rw [hcnt, List.take_length, List.take_of_length_le (by omega)]
  have HA : Hid (Calls Tryz.prog 18 #[.pointer (some ⟨x, 0, none⟩), .agg (rcvC ⟨#[]⟩ 10)] w fun e w' => e = .returned (.string (recS (entL Q cnt))) ∧ Fr B TG w w') := by
    have h := recv_fresh B m Q V _ x st b qb 10 cnt now w hr.wf hr.right hr.op hr.q hr.small hE.lays hE.tab hE.size hE.three hm hG hna hnr hid hr.max hr.m1 hcnt hnow hvis hnm hrd hms (ans_len Q cnt hcl.1 hcl.2 hrd hms)
    rw [ans_rec Q cnt hcl.1 hrd hms] at h
    exact h.mono fun e w' ⟨he, hf, _⟩ => ⟨he, hf⟩
  have HB : Hid (∀ W, Calls Tryz.prog 21 #[.string (recS (entL Q cnt))] W fun e w' => ∃ v, e = .returned (.tuple #[v, .bool true]) ∧ w'.ownsRow W.heap.size 50 3 v (entL Q cnt).length ((entL Q cnt).flatMap Ge.row) ∧ Tch [] W w') := fun W => received_any (entL Q cnt) W (entL_ok Q cnt hrd hms) (by rw [entL_len Q cnt hcl.1]; exact hcl.2)
  have HG : Hid ((entL Q cnt).map Ge.g = Q.rs.take 10 ∧ (entL Q cnt).length ≤ 10) := ⟨by rw [entL_grp Q cnt hrd hms, htk], by rw [entL_len Q cnt hcl.1]; exact hcl.2⟩
  have HBw : Hid (B ≤ w.heap.size) := hE.size
  clear hr hcnt hcl htk hG hna hnr hid hnm hrd hms hE
  generalize entL Q cnt = es at *
  generalize recS es = s at *
  go_enter Tryz.func22, Tryz.ntmps22
  go_wp2_with fail
  refine HA.out.mono ?_
  rintro e w1 ⟨rfl, hf1⟩
  go_wp2_with fail
  refine (HB.out _).mono ?_
  rintro e w2 ⟨v, rfl, ho2, ht2⟩
  have HF : Hid (w2.ownsRow 0 50 3 v es.length (es.flatMap Ge.row) ∧ Fr B TG w w2) := ⟨own_base ho2, hf1.trans (Fr.of_nil TG ht2 (Nat.le_trans HBw.out hf1.size))⟩
  clear ho2 ht2 hf1
  go_wp2_with fail
  go_ret2
  exact ⟨v, es, rfl, HG.out.1, HG.out.2, HF.out.1, HF.out.2⟩
end Go.Proofs.YtbdobaapadlcjaaGreatDoor

namespace Go.Proofs.YtbdobaapadlcjaaGreatDoor
open Go.RowKit Keep
set_option linter.unusedVariables false
set_option linter.unusedSimpArgs false

theorem pk49 : pk 49 50 = 49 := by decide
theorem ai_of {B : Nat} {w w' : World} {lb x st b qb : Nat} {c : Wp.Rq} (h : Game B 24 w' lb x st b qb c) (hf : Fr B TB w w') (hlb : B ≤ lb) (hT : ∀ t ∈ TB, t ∈ TS) : AI B w w' lb x st b qb c 24 0 ⟨.slice none 0 0, .slice none 0 0, .slice none 0 0, .slice none 0 0⟩ ⟨c, 1, [], [], [], []⟩ (.slice none 0 0) := by
  refine ⟨⟨h.brk, ⟨h.que, World.ownsRow_nil _ _ _ _, World.ownsRow_nil _ _ _ _, World.ownsRow_nil _ _ _ _, World.ownsRow_nil _ _ _ _⟩, h.jn, fun k hk => ?_⟩, ?_, World.ownsRow_nil _ _ _ _, fun j hj => ?_, hlb, ⟨rfl, fun j hj => ?_, fun m hm => ?_, Nat.le_refl _, fun g hg => ?_, List.nodup_nil, Nat.le_refl _, fun d hd => ?_, fun e => absurd rfl e, rfl, fun e => absurd rfl e⟩, rfl, Nat.le_refl _, fun e => absurd e (by decide), hf.mono hT⟩
  · have hlo := h.lo
    rcases List.mem_cons.1 hk with e | e
    · omega
    · rcases mem_qbl.1 e with e | e | e | e | e
      · omega
      all_goals simp [Value.ownBlock] at e
  · exact h.line.trans (congrArg (fun z => some (Obj.cells z 42 (0, 0))) (lnC_eq x c (.slice none 0 0)))
  · simp [Value.ownBlock] at hj
  · simp at hj
  · simp at hm
  · simp at hg
  · simp at hd

set_option maxRecDepth 8000 in
set_option maxHeartbeats 8000000 in
theorem again_walk (B : Nat) (r : Wp.Rq) (x : Sl) (ga : Option Addr) (gc : Nat) (ss : List ByteArray) (att : ByteArray) (most wait : Int) (w : World) (hw : Wf r) (hz : Keep.Szs r) (hE : Env B w) (ha : att.size ≤ maxLen) (hmost : i64 most) (hwait : i64 wait) (hsz : ∀ s ∈ ss, s.size ≤ maxLen) (hln : ss.length ≤ maxLen)
    (hga : 0 < ss.length → ∃ g o, ga = some ⟨g, o, none⟩ ∧ g < B ∧ ∀ j (hj : j < ss.length), w.cell? ⟨g, o + j, none⟩ = some (.string ss[j])) :
    Calls Tryz.prog 6 #[.agg (cellsOf r x.v), .slice ga ss.length gc, .string att, .int .i64 most, .int .i64 wait] w fun e w' => e = .returned (.bool true) ∧ Below B w w' := by
  have HBG : Hid (∀ W, Below w.heap.size w W → Calls Tryz.prog 12 #[.agg (cellsOf { r with quo := 49 } x.v)] W fun e w' => ∃ lb xb st b qb, e = .returned (.pointer (some ⟨lb, 0, none⟩)) ∧ AI B w w' lb xb st b qb (cqN (pk r.vis 1000) (pk r.win 1001) (pk r.rcv 10) 49) 24 0 ⟨.slice none 0 0, .slice none 0 0, .slice none 0 0, .slice none 0 0⟩ ⟨cqN (pk r.vis 1000) (pk r.win 1001) (pk r.rcv 10) 49, 1, [], [], [], []⟩ (.slice none 0 0)) := fun W hb => by
    have hE1 : Env B W := hE.tch (Tch.of_below hb) (by simp)
    have h := begun_m 24 (by decide) B { r with quo := 49 } x W ⟨hw.vis, hw.win, hw.rcv, by unfold i64; show -9223372036854775808 ≤ (49 : Int) ∧ (49 : Int) ≤ 9223372036854775807; omega, hw.mx, hw.tic⟩ ⟨hz.grp, hz.ded, hz.bod, hz.att, hz.han⟩ hE1.lays hE1.tab hE1.three hE1.size
    rw [show pk ({ r with quo := 49 } : Wp.Rq).quo 50 = 49 from pk49] at h
    refine h.mono ?_
    rintro e w' ⟨lb, xb, st, b, qb, he, hg, hf, hlb⟩
    exact ⟨lb, xb, st, b, qb, he, ai_of hg ((Fr.of_nil TB (Tch.of_below hb) hE.size).trans hf) hlb (by decide)⟩
  rw [show cellsOf { r with quo := 49 } x.v = #[.int .u8 (r.op.toNat : Int), .int .u8 (r.q.toNat : Int), .int .u8 (r.d.toNat : Int), .int .i64 r.vis, .int .i64 r.win, .int .i64 r.rcv, .int .i64 49, .int .i64 r.mx, .int .i64 r.tic, .string r.grp, .string r.ded, .string r.bod, .string r.att, .string r.han, .slice x.a x.n x.c] from rfl] at HBG
  have HE : Hid (Env B w) := hE
  have HP1 : Hid (∀ W, Calls Tryz.prog 14 #[.int .i64 most, .int .i64 10] W fun e w' => e = .returned (.int .i64 (pk most 10)) ∧ w' = W) := fun W => pick_any most 10 W hmost.1 hmost.2 (by decide) (by decide)
  have HNA : Hid (∀ W, Calls Tryz.prog 16 #[.string att] W fun e w' => e = .returned (.string (nmS att)) ∧ w' = W) := fun W => named_d att W ha
  have hv1 := pk_nonneg r.vis 1000 (by decide)
  have hv2 := pk_lt r.vis 1000 (by decide)
  have hn1 := pk_nonneg r.win 1001 (by decide)
  have hn2 := pk_lt r.win 1001 (by decide)
  have hm1 := pk_nonneg most 10 (by decide)
  have hm2 := pk_lt most 10 (by decide)
  have HNS : Hid (1 ≤ (nmS att).size ∧ (nmS att).size ≤ 8) := nmS_size att
  generalize pk r.vis 1000 = PV at *
  generalize pk r.win 1001 = PW at *
  generalize pk r.rcv 10 = PR at *
  obtain ⟨mx, hmx⟩ : ∃ mx : Nat, pk most 10 = (mx : Int) := ⟨(pk most 10).toNat, (Int.toNat_of_nonneg hm1).symm⟩
  rw [hmx] at hm1 hm2 HP1
  generalize nmS att = id at *
  have HGA : Hid (0 < ss.length → _) := hga
  have HSZ : Hid (∀ s ∈ ss, s.size ≤ maxLen) := hsz
  clear hw hz hE hga hsz ha hmost hmx
  rw [show cellsOf r x.v = #[.int .u8 (r.op.toNat : Int), .int .u8 (r.q.toNat : Int), .int .u8 (r.d.toNat : Int), .int .i64 r.vis, .int .i64 r.win, .int .i64 r.rcv, .int .i64 r.quo, .int .i64 r.mx, .int .i64 r.tic, .string r.grp, .string r.ded, .string r.bod, .string r.att, .string r.han, .slice x.a x.n x.c] from rfl]
  go_enter Tryz.func6, Tryz.ntmps6
  go_wp2_with fail
  refine (HBG.out _ ((Below.refl _ _).alloc (Nat.le_refl _) _)).mono ?_
  rintro e w1 ⟨lb, xb, st, b, qb, rfl, hA⟩
  have HA0 : Hid (AI B w w1 lb xb st b qb (cqN PV PW PR 49) 24 0 _ _ _) := hA
  clear hA HBG
  generalize (Value.agg #[.int .u8 (r.op.toNat : Int), .int .u8 (r.q.toNat : Int), .int .u8 (r.d.toNat : Int), .int .i64 r.vis, .int .i64 r.win, .int .i64 r.rcv, .int .i64 r.quo, .int .i64 r.mx, .int .i64 r.tic, .string r.grp, .string r.ded, .string r.bod, .string r.att, .string r.han, .slice x.a x.n x.c]) = A0
  go_upto_block 0 with fail
  generalize (Value.agg #[.int .u8 (r.op.toNat : Int), .int .u8 (r.q.toNat : Int), .int .u8 (r.d.toNat : Int), .int .i64 r.vis, .int .i64 r.win, .int .i64 r.rcv, .int .i64 49, .int .i64 r.mx, .int .i64 r.tic, .string r.grp, .string r.ded, .string r.bod, .string r.att, .string r.han, .slice x.a x.n x.c]) = A1
  go_cut [] (fun wx => ∃ (i : Nat) (V : QV) (Q : QM) (sv : Value), i ≤ 20 ∧ (0 < ss.length → 0 < i) ∧ AI B w wx lb xb st b qb (cqN PV PW PR 49) (24 - i) i V Q sv)
  case first =>
    go_wp2_with fail
    go_loopw [12] (fun v wr => ∃ (i : Nat) (V : QV) (Q : QM) (sv : Value), v = .int .i64 (i : Int) ∧ i ≤ ss.length ∧ i ≤ 20 ∧ AI B w wr lb xb st b qb (cqN PV PW PR 49) (24 - i) i V Q sv) (fun v _ => 20 - (intOf v).toNat)
    case atStart => exact ⟨0, _, _, _, rfl, Nat.zero_le _, by decide, HA0.out⟩
    case round =>
      obtain ⟨i, V, Q, sv, rfl, hi, hi2, hA⟩ := hrel
      have HAI : Hid (AI B w wr lb xb st b qb (cqN PV PW PR 49) (24 - i) i V Q sv) := hA
      clear hA HA0
      by_cases hlt : i < ss.length
      · by_cases hlt2 : i < 20
        · have HLW : Hid (Calls Tryz.prog 19 #[.int .i64 (i : Int), .int .i64 2] wr fun e w' => e = .returned (.string ⟨(lowB i 2).toArray⟩) ∧ Below wr.heap.size wr w') := low_any i 2 wr (by omega) (by decide) (by decide)
          obtain ⟨g, o, rfl, hg, hcs⟩ := HGA.out (by omega)
          have c0 : wr.cell? ⟨g, o + i, none⟩ = some (.string ss[i]) := by
            rw [HAI.out.fr.below.cell (p := ⟨g, o + i, none⟩) hg]
            exact hcs i hlt
          have gl : g < wr.heap.size := by have := HE.out.size; have := HAI.out.fr.size; omega
          have HSN : Hid (∀ W, Tch [] wr W → Calls Tryz.prog 20 #[.pointer (some ⟨lb, 0, none⟩), .agg (stepC ss[i] ⟨(lowB i 2).toArray⟩)] W fun e w' => e = .returned (.bool true) ∧ ∃ V' Q' sv', AI B w w' lb xb st b qb (cqN PV PW PR 49) (24 - (i + 1)) (i + 1) V' Q' sv') := fun W ht => by
            have h2 := HAI.out.tch HE.out.size ht
            rw [show 24 - i = (24 - (i + 1)) + 1 by omega] at h2
            exact send_step B (24 - (i + 1)) i w W lb xb st b qb _ V Q sv ss[i] ⟨(lowB i 2).toArray⟩ HE.out h2 (by omega) hlt2 (HSZ.out _ (List.getElem_mem hlt)) (by show (lowB i 2).toArray.size ≤ 40; simp [lowB_length]) ⟨hn1, by show PW ≤ 1001; omega⟩ rfl
          clear hcs
          generalize (⟨(lowB i 2).toArray⟩ : ByteArray) = bod at *
          generalize ss[i] = grp at *
          go_wp2_with fail
          refine HLW.out.mono ?_
          rintro e w2 ⟨rfl, hb2⟩
          have c1 : w2.cell? ⟨g, o + i, none⟩ = some (.string grp) := by rw [hb2.cell (p := ⟨g, o + i, none⟩) gl]; exact c0
          have gl2 : g < w2.heap.size := by have := hb2.size; omega
          have HS2 : Hid (Calls Tryz.prog 20 _ w2 _) := HSN.out w2 (Tch.of_below hb2)
          clear hb2 c0 gl HLW
          go_wp2_with fail
          refine HS2.out.mono ?_
          rintro e w3 ⟨rfl, V', Q', sv', hA'⟩
          have HA' : Hid (AI B w w3 lb xb st b qb (cqN PV PW PR 49) (24 - (i + 1)) (i + 1) V' Q' sv') := hA'
          clear hA' HS2 HSN HAI c1
          go_wp2_with fail
          go_roundw
          case rel => exact ⟨i + 1, V', Q', sv', by go_num, by omega, by omega, HA'.out⟩
          case measure => simp [intOf]; omega
        · go_wp2_with fail
          go_meet
          exact ⟨i, V, Q, sv, hi2, fun h => by omega, HAI.out⟩
      · go_wp2_with fail
        go_meet
        exact ⟨i, V, Q, sv, hi2, fun h => by omega, HAI.out⟩
  case rest =>
    obtain ⟨i, V, Q, sv, hi20, hipos, hA⟩ := hcut
    generalize wc = w2 at *
    have hG4 : GQ B 4 w2 xb st b qb 0 V Q := GQ.lessN (20 - i) (by rw [show 4 + (20 - i) = 24 - i by omega]; exact hA.gq)
    have hml : Q.ms.length ≤ 1000 := by have := hA.len; omega
    have hrl : Q.rs.length ≤ 1000 := by have := hA.si.rs; omega
    have hok := hA.si.mok hml
    obtain ⟨cnt, hcnt⟩ : ∃ cnt : Nat, cnt = if mx + 1 ≤ Q.rs.length then mx + 1 else Q.rs.length := ⟨_, rfl⟩
    have hcl : cnt ≤ Q.rs.length ∧ cnt ≤ 10 ∧ cnt ≤ mx + 1 := by split at hcnt <;> omega
    have hcp : 0 < ss.length → 0 < cnt := fun h => by
      have h1 := hA.si.ne (hA.ne (hipos h))
      have h2 : 0 < Q.rs.length := List.length_pos_iff.2 h1
      split at hcnt <;> omega
    have hvis : Q.c.vis = 1 + PV := by rw [hA.qc]; rfl
    have hal := ans_len Q cnt hcl.1 hcl.2.1 hA.si.rd hok
    have hrec := ans_rec Q cnt hcl.1 hA.si.rd hok
    have hap := ansL_pos Q cnt cnt
    have hr := rcv_of id (mx + 1) HNS.out.2 ⟨by omega, by omega⟩
    have hmx1 : ((mx + 1 : Nat) : Int) = 1 + (mx : Int) := by omega
    rw [hmx1] at hr
    have hSJ0 := SJ.first hA.si hml id HNS.out.1 cnt (mx + 1) (by omega) hcnt
    have HSJ : Hid (∀ Q2, SJ Q Q2 cnt id (ansL Q cnt cnt) → Q2.ms.length ≤ 1000 ∧ Q2.c.vis = 1 + PV) := fun Q2 h2 => ⟨by rw [h2.len]; exact hml, by rw [h2.c]; exact hvis⟩
    have HA1 : Hid (∀ W, Tch [] w2 W → Calls Tryz.prog 18 #[.pointer (some ⟨xb, 0, none⟩), .agg (rcvC id (1 + (mx : Int)))] W fun e w' => e = .returned (.string (recS (entL Q cnt))) ∧ Fr B TG W w' ∧ ∃ V1 Q1, GQ B 3 w' xb st b qb 0 V1 Q1 ∧ SJ Q Q1 cnt id (ansL Q cnt cnt)) := fun W ht => by
      have hE2 : Env B W := (HE.out.fr hA.fr).tch ht (by simp)
      have h := recv_fresh B 3 Q V _ xb st b qb (mx + 1) cnt 0 W hr.wf hr.right hr.op hr.q hr.small hE2.lays hE2.tab hE2.size hE2.three (by decide) (hG4.tch ht) (by rw [hA.si.ats]; decide) hrl (by rw [hA.si.ats]; exact (by simp [idxL] : idxL (isA id) [] < 0)) hr.max hr.m1 hcnt ⟨by decide, by decide⟩ (by omega) hml hA.si.rd hok hal
      rw [hrec] at h
      refine h.mono ?_
      rintro e w' ⟨he, hf, V', hG⟩
      exact ⟨he, hf, V', _, hG, hSJ0⟩
    have HA2 : Hid (∀ (W : World) (m : Nat) (now : Int) (V2 : QV) (Q2 : QM), Env B W → m ≤ 24 → 0 ≤ now ∧ now ≤ 60000 → GQ B (m + 1) W xb st b qb now V2 Q2 → SJ Q Q2 cnt id (ansL Q cnt cnt) → Calls Tryz.prog 18 #[.pointer (some ⟨xb, 0, none⟩), .agg (rcvC id (1 + (mx : Int)))] W fun e w' => e = .returned (.string (recS (entL Q cnt))) ∧ Tch [] W w') := fun W m now V2 Q2 hE2 hm hnow hG2 hS2 => by
      have hx := HSJ.out Q2 hS2
      have h := asked_rep B m Q Q2 V2 (rcvRq id (1 + (mx : Int))) xb st b qb (mx + 1) cnt (ansL Q cnt cnt) now W hE2 hr hm hG2 hS2 hx.1 hnow (by omega) hap hal
      rw [hrec] at h
      exact h
    have HRC : Hid (∀ W, Calls Tryz.prog 21 #[.string (recS (entL Q cnt))] W fun e w' => ∃ v, e = .returned (.tuple #[v, .bool true]) ∧ w'.ownsRow W.heap.size 50 3 v cnt ((entL Q cnt).flatMap Ge.row) ∧ Tch [] W w') := fun W => by
      have h := received_any (entL Q cnt) W (entL_ok Q cnt hA.si.rd hok) (by rw [entL_len Q cnt hcl.1]; exact hcl.2.1)
      rw [entL_len Q cnt hcl.1] at h
      exact h
    have HLS : Hid (∀ (W : World) (m : Nat) (now : Int) (V2 : QV) (Q2 : QM), Env B W → m ≤ 24 → 0 ≤ now ∧ now ≤ 60000 → GQ B (m + 1) W xb st b qb now V2 Q2 → SJ Q Q2 cnt id (ansL Q cnt cnt) → Calls Tryz.prog 22 #[.pointer (some ⟨xb, 0, none⟩), .int .u8 97, .string ⟨#[]⟩, .int .i64 10] W fun e w' => ∃ (v : Value) (es : List Ge), e = .returned (.tuple #[v, .bool true]) ∧ (∀ (a b : Ge), a ∈ es → b ∈ entL Q cnt → (a.g.toList == b.g.toList) = false) ∧ es.length ≤ 10 ∧ w'.ownsRow 0 50 3 v es.length (es.flatMap Ge.row) ∧ Fr B TG W w') := fun W m now V2 Q2 hE2 hm hnow hG2 hS2 => by
      have hx := HSJ.out Q2 hS2
      have hrd2 : ∀ g ∈ Q2.rs, 0 ≤ idxL (isG g) Q2.ms := fun g hg => by
        rw [idxL_grp g Q2.ms Q.ms hS2.grp]
        rw [hS2.rs] at hg
        exact hA.si.rd g (List.mem_of_mem_drop hg)
      have hne : idxL (isA ⟨#[]⟩) Q2.ats < 0 := by
        rcases hS2.rep with ⟨_, _, h2, _⟩ | ⟨_, h2⟩
        · rw [h2]; exact (by simp [idxL] : idxL (isA ⟨#[]⟩) [] < 0)
        · rw [h2, idxL_neg]
          intro a ha
          simp at ha
          subst ha
          show (id.toList == (⟨#[]⟩ : ByteArray).toList) = false
          rw [beq_eq_false_iff_ne]
          intro e
          have := congrArg ByteArray.size (str_inj e)
          have h9 := HNS.out.1
          rw [this] at h9
          exact absurd h9 (by decide)
      have hat : Q2.ats.length < 20 := by
        rcases hS2.rep with ⟨_, _, h2, _⟩ | ⟨_, h2⟩
        · rw [h2]; decide
        · rw [h2]; exact (by simp : 1 < 20)
      refine (receive_last B m Q2 V2 xb st b qb now W hE2 hG2 hm hat (by rw [hS2.rs, List.length_drop]; omega) hne hnow (by omega) hx.1 hrd2 hS2.ok).mono ?_
      rintro e w' ⟨v, es, he, hg, hl, ho, hf⟩
      refine ⟨v, es, he, fun a b ha hb => ?_, hl, ho, hf⟩
      rw [beq_eq_false_iff_ne]
      intro heq
      have h1 : a.g ∈ Q2.rs.take 10 := by rw [← hg]; exact List.mem_map_of_mem ha
      have h2 : b.g ∈ Q.rs.take cnt := by rw [← entL_grp Q cnt hA.si.rd hok]; exact List.mem_map_of_mem hb
      have h3 := List.mem_of_mem_take h1
      rw [hS2.rs, str_inj heq] at h3
      have h4 := hA.si.nd
      rw [← List.take_append_drop cnt Q.rs, List.nodup_append] at h4
      exact h4.2.2 _ h2 _ h3 rfl
    have HTM : Hid (∀ (W : World) (n : Int) (V2 : QV) (Q2 : QM), Env B W → 0 < n → n < 1 + PV → GQ B 3 W xb st b qb 0 V2 Q2 → SJ Q Q2 cnt id (ansL Q cnt cnt) → Calls Tryz.prog 18 #[.pointer (some ⟨xb, 0, none⟩), .agg (cellsOf ⟨84, 0, 0, 0, 0, 0, 0, 0, n, ⟨#[]⟩, ⟨#[]⟩, ⟨#[]⟩, ⟨#[]⟩, ⟨#[]⟩⟩ nil0.v)] W fun e w' => e = .returned (.string ⟨#[0]⟩) ∧ Fr B TG W w' ∧ ∃ V3 Q3, GQ B 2 w' xb st b qb n V3 Q3 ∧ SJ Q Q3 cnt id (ansL Q cnt cnt)) := fun W n V2 Q2 hE2 hn0 hnv hG2 hS2 => by
      have hx := HSJ.out Q2 hS2
      have ht := tick_of n (by omega) (by omega)
      have hna : Q2.ats.length ≤ 1000 := by
        rcases hS2.rep with ⟨_, _, h2, _⟩ | ⟨_, h2⟩
        · rw [h2]; decide
        · rw [h2]; exact (by simp : 1 ≤ 1000)
      have hds : Q2.ds.length ≤ 1000 := by have := hS2.ds; have := hA.si.ds; omega
      have h := time_step B 2 Q2 V2 ⟨84, 0, 0, 0, 0, 0, 0, 0, n, ⟨#[]⟩, ⟨#[]⟩, ⟨#[]⟩, ⟨#[]⟩, ⟨#[]⟩⟩ xb st b qb 0 W ht.1 ht.2 rfl (small_T _ ht.2 rfl) hE2.lays hE2.tab hE2.size hE2.three (by decide) hG2 (by rw [hS2.c, hA.qc]; rfl) hx.1 hds hna (fun m hm => by
        rintro ⟨h1, h2⟩
        have h2' : m.til ≤ 0 + n := h2
        rcases hS2.til m hm with h3 | h3 <;> omega) ⟨by decide, by show (0 : Int) ≤ n; omega, by show 0 + n ≤ (60000 : Int); omega⟩
      refine h.mono ?_
      rintro e w' ⟨he, hf, V3, hG3⟩
      have e0 : (0 : Int) + n = n := by omega
      rw [show ((0 : Int) + (⟨84, 0, 0, 0, 0, 0, 0, 0, n, ⟨#[]⟩, ⟨#[]⟩, ⟨#[]⟩, ⟨#[]⟩, ⟨#[]⟩⟩ : Wp.Rq).tic) = n from e0] at hG3
      exact ⟨he, hf, V3, _, hG3, hS2.forg n (by omega)⟩
    have HLN2 : Hid (Ln w2 lb xb (cqN PV PW PR 49) sv ∧ Fr B TS w w2 ∧ (entL Q cnt).length = cnt) := ⟨hA.ln, hA.fr, entL_len Q cnt hcl.1⟩
    generalize recS (entL Q cnt) = so at *
    generalize entL Q cnt = es at *
    generalize ansL Q cnt cnt = ans at *
    clear hA hG4 hml hrl hok hcnt hal hrec hap hr hmx1 hSJ0 hvis HSJ
    go_wp2_with fail
    refine (HNA.out _).mono ?_
    rintro e w' ⟨rfl, h'⟩
    have h'' := h'.symm
    subst h''
    have hw1 : IntKind.i64.wrap (1 + (mx : Int)) = 1 + (mx : Int) := by rw [IntKind.wrap_i64]; omega
    go_wp2_with fail
    refine (HP1.out _).mono ?_
    rintro e w' ⟨rfl, h'⟩
    have h'' := h'.symm
    subst h''
    go_wp2_with fail
    obtain ⟨wb, hwb⟩ : ∃ wb, wb = w2.alloc (.cells (rcvC id (1 + (mx : Int))) 27) := ⟨_, rfl⟩
    rw [← hwb]
    have TWB : Hid (Tch [] w2 wb) := by rw [hwb]; exact (Tch.refl _ _).alloc _
    have HROW : Hid (wb.heap[w2.heap.size]? = some (.cells (rcvC id (1 + (mx : Int))) 27 (0, 0))) := by rw [hwb]; exact heap_alloc_new _ _
    have HLB : Hid (Ln wb lb xb (cqN PV PW PR 49) sv) := HLN2.out.1.tch TWB.out (by simp)
    clear hwb HNA HP1 HNS
    have HC1 : Hid (Calls Tryz.prog 18 #[.pointer (some ⟨xb, 0, none⟩), .agg (rcvC id (1 + (mx : Int)))] wb.drew fun e w' => e = .returned (.string so) ∧ Ln w' lb xb (cqN PV PW PR 49) sv ∧ w'.heap[w2.heap.size]? = some (.cells (rcvC id (1 + (mx : Int))) 27 (0, 0)) ∧ Fr B TS w w' ∧ ∃ V1 Q1, GQ B 3 w' xb st b qb 0 V1 Q1 ∧ SJ Q Q1 cnt id ans) := by
      refine (HA1.out wb.drew TWB.out.drew).mono ?_
      rintro e w' ⟨he, hf, h3⟩
      exact ⟨he, HLB.out.fr (w := wb.drew) hf (by decide), hf.keep _ _ _ (show wb.drew.heap[w2.heap.size]? = _ from HROW.out) (by decide), HLN2.out.2.1.trans ((Fr.of_nil TS TWB.out.drew (Nat.le_trans HE.out.size HLN2.out.2.1.size)).trans (hf.mono (by decide))), h3⟩
    have el : wb.cell? ⟨lb, 0, none⟩ = some (.pointer (some ⟨xb, 0, none⟩)) := HLB.out.c0
    have e0 : wb.cell? ⟨w2.heap.size, 0, none⟩ = some (.int .u8 82) := cell_qC HROW.out 0 _ rfl
    have e1 : wb.cell? ⟨w2.heap.size, 1, none⟩ = some (.int .u8 97) := cell_qC HROW.out 1 _ rfl
    have e2 : wb.cell? ⟨w2.heap.size, 2, none⟩ = some (.int .u8 0) := cell_qC HROW.out 2 _ rfl
    have e3 : wb.cell? ⟨w2.heap.size, 3, none⟩ = some (.int .i64 0) := cell_qC HROW.out 3 _ rfl
    have e4 : wb.cell? ⟨w2.heap.size, 4, none⟩ = some (.int .i64 0) := cell_qC HROW.out 4 _ rfl
    have e5 : wb.cell? ⟨w2.heap.size, 5, none⟩ = some (.int .i64 0) := cell_qC HROW.out 5 _ rfl
    have e6 : wb.cell? ⟨w2.heap.size, 6, none⟩ = some (.int .i64 0) := cell_qC HROW.out 6 _ rfl
    have e7 : wb.cell? ⟨w2.heap.size, 7, none⟩ = some (.int .i64 (1 + (mx : Int))) := cell_qC HROW.out 7 _ rfl
    have e8 : wb.cell? ⟨w2.heap.size, 8, none⟩ = some (.int .i64 0) := cell_qC HROW.out 8 _ rfl
    have e9 : wb.cell? ⟨w2.heap.size, 9, none⟩ = some (.string ⟨#[]⟩) := cell_qC HROW.out 9 _ rfl
    have e10 : wb.cell? ⟨w2.heap.size, 10, none⟩ = some (.string ⟨#[]⟩) := cell_qC HROW.out 10 _ rfl
    have e11 : wb.cell? ⟨w2.heap.size, 11, none⟩ = some (.string ⟨#[]⟩) := cell_qC HROW.out 11 _ rfl
    have e12 : wb.cell? ⟨w2.heap.size, 12, none⟩ = some (.string id) := cell_qC HROW.out 12 _ rfl
    have e13 : wb.cell? ⟨w2.heap.size, 13, none⟩ = some (.string ⟨#[]⟩) := cell_qC HROW.out 13 _ rfl
    have e14 : wb.cell? ⟨w2.heap.size, 14, none⟩ = some (.slice none 0 0) := cell_qC HROW.out 14 _ rfl
    have ltl := lt_of_block HLB.out
    have ltb := lt_of_block HROW.out
    go_region_held3 (fun w' => w'.cell? ⟨lb, 0, none⟩ = some (.pointer (some ⟨xb, 0, none⟩)) ∧ w'.cell? ⟨w2.heap.size, 0, none⟩ = some (.int .u8 82) ∧ w'.cell? ⟨w2.heap.size, 1, none⟩ = some (.int .u8 97) ∧ w'.cell? ⟨w2.heap.size, 2, none⟩ = some (.int .u8 0) ∧ w'.cell? ⟨w2.heap.size, 3, none⟩ = some (.int .i64 0) ∧ w'.cell? ⟨w2.heap.size, 4, none⟩ = some (.int .i64 0) ∧ w'.cell? ⟨w2.heap.size, 5, none⟩ = some (.int .i64 0) ∧ w'.cell? ⟨w2.heap.size, 6, none⟩ = some (.int .i64 0) ∧ w'.cell? ⟨w2.heap.size, 7, none⟩ = some (.int .i64 (1 + (mx : Int))) ∧ w'.cell? ⟨w2.heap.size, 8, none⟩ = some (.int .i64 0) ∧ w'.cell? ⟨w2.heap.size, 9, none⟩ = some (.string ⟨#[]⟩) ∧ w'.cell? ⟨w2.heap.size, 10, none⟩ = some (.string ⟨#[]⟩) ∧ w'.cell? ⟨w2.heap.size, 11, none⟩ = some (.string ⟨#[]⟩) ∧ w'.cell? ⟨w2.heap.size, 12, none⟩ = some (.string id) ∧ w'.cell? ⟨w2.heap.size, 13, none⟩ = some (.string ⟨#[]⟩) ∧ w'.cell? ⟨w2.heap.size, 14, none⟩ = some (.slice none 0 0)) (go_keep) (first | (go_at_call 18; refine HC1.out.mono ?_; rintro e w3 ⟨rfl, hl3, hbx, hf3, V1, Q1, hG1, hS1⟩; have kl := hl3.c0; have k0 := cell_qC hbx 0 (.int .u8 82) rfl; have k1 := cell_qC hbx 1 (.int .u8 97) rfl; have k2 := cell_qC hbx 2 (.int .u8 0) rfl; have k3 := cell_qC hbx 3 (.int .i64 0) rfl; have k4 := cell_qC hbx 4 (.int .i64 0) rfl; have k5 := cell_qC hbx 5 (.int .i64 0) rfl; have k6 := cell_qC hbx 6 (.int .i64 0) rfl; have k7 := cell_qC hbx 7 (.int .i64 (1 + (mx : Int))) rfl; have k8 := cell_qC hbx 8 (.int .i64 0) rfl; have k9 := cell_qC hbx 9 (.string ⟨#[]⟩) rfl; have k10 := cell_qC hbx 10 (.string ⟨#[]⟩) rfl; have k11 := cell_qC hbx 11 (.string ⟨#[]⟩) rfl; have k12 := cell_qC hbx 12 (.string id) rfl; have k13 := cell_qC hbx 13 (.string ⟨#[]⟩) rfl; have k14 := cell_qC hbx 14 (.slice none 0 0) rfl))
    have HL3 : Hid (Ln w3 lb xb (cqN PV PW PR 49) sv) := hl3
    have HB3 : Hid (w3.heap[w2.heap.size]? = some (.cells (rcvC id (1 + (mx : Int))) 27 (0, 0))) := hbx
    have HF3 : Hid (Fr B TS w w3) := hf3
    have HG3 : Hid (GQ B 3 w3 xb st b qb 0 V1 Q1 ∧ SJ Q Q1 cnt id ans) := ⟨hG1, hS1⟩
    clear hl3 hbx hf3 hG1 hS1 el kl ltl ltb e0 k0 e1 k1 e2 k2 e3 k3 e4 k4 e5 k5 e6 k6 e7 k7 e8 k8 e9 k9 e10 k10 e11 k11 e12 k12 e13 k13 e14 k14 HC1 HA1 HLB HROW TWB
    go_wp2_with fail
    refine (HRC.out _).mono ?_
    rintro e w4 ⟨v19, rfl, ho4, ht4⟩
    have HL4 : Hid (Ln w4 lb xb (cqN PV PW PR 49) sv) := HL3.out.tch ht4 (by simp)
    have HB4 : Hid (w4.heap[w2.heap.size]? = some (.cells (rcvC id (1 + (mx : Int))) 27 (0, 0))) := (ht4.block _ (lt_of_block HB3.out) (by simp)).trans HB3.out
    have HF4 : Hid (Fr B TS w w4) := HF3.out.trans (Fr.of_nil TS ht4 (Nat.le_trans HE.out.size HF3.out.size))
    have HG4 : Hid (GQ B 3 w4 xb st b qb 0 V1 Q1 ∧ SJ Q Q1 cnt id ans) := ⟨HG3.out.1.tch ht4, HG3.out.2⟩
    have HO4 : Hid (w4.ownsRow 0 50 3 v19 cnt (es.flatMap Ge.row)) := own_base ho4
    obtain ⟨ga4, gc4, hv19⟩ := own_shape ho4
    subst hv19
    clear ho4 ht4 HRC HL3 HB3 HF3 HG3
    have HC2 : Hid (Calls Tryz.prog 18 #[.pointer (some ⟨xb, 0, none⟩), .agg (rcvC id (1 + (mx : Int)))] w4.drew fun e w' => e = .returned (.string so) ∧ Ln w' lb xb (cqN PV PW PR 49) sv ∧ w'.heap[w2.heap.size]? = some (.cells (rcvC id (1 + (mx : Int))) 27 (0, 0)) ∧ Tch [] w4 w') := by
      refine (HA2.out w4.drew 2 0 V1 Q1 ((HE.out.fr HF4.out).tch (Tch.refl [] w4).drew (by simp)) (by decide) ⟨by decide, by decide⟩ (HG4.out.1.tch (Tch.refl [] w4).drew) HG4.out.2).mono ?_
      rintro e w' ⟨he, ht⟩
      have t' : Tch [] w4 w' := (Tch.refl [] w4).drew.trans ht (by simp)
      exact ⟨he, HL4.out.tch t' (by simp), (t'.block _ (lt_of_block HB4.out) (by simp)).trans HB4.out, t'⟩
    go_wp2_with fail
    have el : w4.cell? ⟨lb, 0, none⟩ = some (.pointer (some ⟨xb, 0, none⟩)) := HL4.out.c0
    have e0 : w4.cell? ⟨w2.heap.size, 0, none⟩ = some (.int .u8 82) := cell_qC HB4.out 0 _ rfl
    have e1 : w4.cell? ⟨w2.heap.size, 1, none⟩ = some (.int .u8 97) := cell_qC HB4.out 1 _ rfl
    have e2 : w4.cell? ⟨w2.heap.size, 2, none⟩ = some (.int .u8 0) := cell_qC HB4.out 2 _ rfl
    have e3 : w4.cell? ⟨w2.heap.size, 3, none⟩ = some (.int .i64 0) := cell_qC HB4.out 3 _ rfl
    have e4 : w4.cell? ⟨w2.heap.size, 4, none⟩ = some (.int .i64 0) := cell_qC HB4.out 4 _ rfl
    have e5 : w4.cell? ⟨w2.heap.size, 5, none⟩ = some (.int .i64 0) := cell_qC HB4.out 5 _ rfl
    have e6 : w4.cell? ⟨w2.heap.size, 6, none⟩ = some (.int .i64 0) := cell_qC HB4.out 6 _ rfl
    have e7 : w4.cell? ⟨w2.heap.size, 7, none⟩ = some (.int .i64 (1 + (mx : Int))) := cell_qC HB4.out 7 _ rfl
    have e8 : w4.cell? ⟨w2.heap.size, 8, none⟩ = some (.int .i64 0) := cell_qC HB4.out 8 _ rfl
    have e9 : w4.cell? ⟨w2.heap.size, 9, none⟩ = some (.string ⟨#[]⟩) := cell_qC HB4.out 9 _ rfl
    have e10 : w4.cell? ⟨w2.heap.size, 10, none⟩ = some (.string ⟨#[]⟩) := cell_qC HB4.out 10 _ rfl
    have e11 : w4.cell? ⟨w2.heap.size, 11, none⟩ = some (.string ⟨#[]⟩) := cell_qC HB4.out 11 _ rfl
    have e12 : w4.cell? ⟨w2.heap.size, 12, none⟩ = some (.string id) := cell_qC HB4.out 12 _ rfl
    have e13 : w4.cell? ⟨w2.heap.size, 13, none⟩ = some (.string ⟨#[]⟩) := cell_qC HB4.out 13 _ rfl
    have e14 : w4.cell? ⟨w2.heap.size, 14, none⟩ = some (.slice none 0 0) := cell_qC HB4.out 14 _ rfl
    have ltl := lt_of_block HL4.out
    have ltb := lt_of_block HB4.out
    go_region_held3 (fun w' => w'.cell? ⟨lb, 0, none⟩ = some (.pointer (some ⟨xb, 0, none⟩)) ∧ w'.cell? ⟨w2.heap.size, 0, none⟩ = some (.int .u8 82) ∧ w'.cell? ⟨w2.heap.size, 1, none⟩ = some (.int .u8 97) ∧ w'.cell? ⟨w2.heap.size, 2, none⟩ = some (.int .u8 0) ∧ w'.cell? ⟨w2.heap.size, 3, none⟩ = some (.int .i64 0) ∧ w'.cell? ⟨w2.heap.size, 4, none⟩ = some (.int .i64 0) ∧ w'.cell? ⟨w2.heap.size, 5, none⟩ = some (.int .i64 0) ∧ w'.cell? ⟨w2.heap.size, 6, none⟩ = some (.int .i64 0) ∧ w'.cell? ⟨w2.heap.size, 7, none⟩ = some (.int .i64 (1 + (mx : Int))) ∧ w'.cell? ⟨w2.heap.size, 8, none⟩ = some (.int .i64 0) ∧ w'.cell? ⟨w2.heap.size, 9, none⟩ = some (.string ⟨#[]⟩) ∧ w'.cell? ⟨w2.heap.size, 10, none⟩ = some (.string ⟨#[]⟩) ∧ w'.cell? ⟨w2.heap.size, 11, none⟩ = some (.string ⟨#[]⟩) ∧ w'.cell? ⟨w2.heap.size, 12, none⟩ = some (.string id) ∧ w'.cell? ⟨w2.heap.size, 13, none⟩ = some (.string ⟨#[]⟩) ∧ w'.cell? ⟨w2.heap.size, 14, none⟩ = some (.slice none 0 0)) (go_keep) (first | (go_at_call 18; refine HC2.out.mono ?_; rintro e w5 ⟨rfl, hl5, hbx, ht5⟩; have kl := hl5.c0; have k0 := cell_qC hbx 0 (.int .u8 82) rfl; have k1 := cell_qC hbx 1 (.int .u8 97) rfl; have k2 := cell_qC hbx 2 (.int .u8 0) rfl; have k3 := cell_qC hbx 3 (.int .i64 0) rfl; have k4 := cell_qC hbx 4 (.int .i64 0) rfl; have k5 := cell_qC hbx 5 (.int .i64 0) rfl; have k6 := cell_qC hbx 6 (.int .i64 0) rfl; have k7 := cell_qC hbx 7 (.int .i64 (1 + (mx : Int))) rfl; have k8 := cell_qC hbx 8 (.int .i64 0) rfl; have k9 := cell_qC hbx 9 (.string ⟨#[]⟩) rfl; have k10 := cell_qC hbx 10 (.string ⟨#[]⟩) rfl; have k11 := cell_qC hbx 11 (.string ⟨#[]⟩) rfl; have k12 := cell_qC hbx 12 (.string id) rfl; have k13 := cell_qC hbx 13 (.string ⟨#[]⟩) rfl; have k14 := cell_qC hbx 14 (.slice none 0 0) rfl))
    have HL5 : Hid (Ln w5 lb xb (cqN PV PW PR 49) sv) := hl5
    have HB5 : Hid (w5.heap[w2.heap.size]? = some (.cells (rcvC id (1 + (mx : Int))) 27 (0, 0))) := hbx
    have HF5 : Hid (Fr B TS w w5) := HF4.out.trans (Fr.of_nil TS ht5 (Nat.le_trans HE.out.size HF4.out.size))
    have HG5 : Hid (GQ B 3 w5 xb st b qb 0 V1 Q1 ∧ SJ Q Q1 cnt id ans) := ⟨HG4.out.1.tch ht5, HG4.out.2⟩
    have HO5 : Hid (w5.ownsRow 0 50 3 (.slice ga4 cnt gc4) cnt (es.flatMap Ge.row)) := own_tch HO4.out ht5 (by simp)
    clear hl5 hbx ht5 el kl ltl ltb e0 k0 e1 k1 e2 k2 e3 k3 e4 k4 e5 k5 e6 k6 e7 k7 e8 k8 e9 k9 e10 k10 e11 k11 e12 k12 e13 k13 e14 k14 HC2 HL4 HB4 HF4 HG4 HO4
    go_upto_region 18 with fail
    go_cut [102] (fun s wx => s = .bool false ∧ wx = w5)
    case first =>
      have hne : (so.toList != so.toList) = false := by simp
      by_cases h0 : 0 < ss.length
      · have hc0 := hcp h0
        go_wp2_with fail
        go_meet
        exact ⟨congrArg Value.bool (by rw [Bool.or_eq_false_iff, decide_eq_false_iff_not, beq_eq_false_iff_ne]; omega), rfl⟩
      · go_wp2_with fail
        go_meet
        exact ⟨congrArg Value.bool (decide_eq_false (by omega)), rfl⟩
    case rest =>
    obtain ⟨rfl, hwc⟩ := hcut
    subst hwc
    have c4 : wc.cell? ⟨lb, 4, none⟩ = some (.int .i64 (1 + PV)) := HL5.out.c4
    have ll := lt_of_block HL5.out
    have HPK : Hid (∀ W, Calls Tryz.prog 14 #[.int .i64 wait, .int .i64 (1 + PV)] W fun e w' => e = .returned (.int .i64 (pk wait (1 + PV))) ∧ w' = W) := fun W => pick_any wait (1 + PV) W hwait.1 hwait.2 (by omega) (by omega)
    have hp0 := pk_nonneg wait (1 + PV) (by omega)
    have hp1 := pk_lt wait (1 + PV) (by omega)
    generalize pk wait (1 + PV) = n at *
    go_wp2_with fail
    refine (HPK.out _).mono ?_
    rintro e w' ⟨rfl, h'⟩
    have h'' := h'.symm
    subst h''
    go_upto_if 111 with fail
    go_cut [] (fun wx => ∃ (now : Int) (V2 : QV) (Q2 : QM), GQ B 2 wx xb st b qb now V2 Q2 ∧ SJ Q Q2 cnt id ans ∧ (0 ≤ now ∧ now ≤ 60000) ∧ Ln wx lb xb (cqN PV PW PR 49) sv ∧ wx.heap[w2.heap.size]? = some (.cells (rcvC id (1 + (mx : Int))) 27 (0, 0)) ∧ wx.ownsRow 0 50 3 (.slice ga4 cnt gc4) cnt (es.flatMap Ge.row) ∧ Fr B TS w wx)
    case first =>
      by_cases hn0 : 0 < n
      · have HT5 : Hid (Calls Tryz.prog 18 #[.pointer (some ⟨xb, 0, none⟩), .agg #[.int .u8 84, .int .u8 0, .int .u8 0, .int .i64 0, .int .i64 0, .int .i64 0, .int .i64 0, .int .i64 0, .int .i64 n, .string ⟨#[]⟩, .string ⟨#[]⟩, .string ⟨#[]⟩, .string ⟨#[]⟩, .string ⟨#[]⟩, .slice none 0 0]] wc _) := HTM.out wc n V1 Q1 (HE.out.fr HF5.out) hn0 hp1 HG5.out.1 HG5.out.2
        have c0 : wc.cell? ⟨lb, 0, none⟩ = some (.pointer (some ⟨xb, 0, none⟩)) := HL5.out.c0
        have hnz : ((⟨#[0]⟩ : ByteArray).toList != (⟨#[0]⟩ : ByteArray).toList) = false := by simp
        go_wp2_with fail
        refine HT5.out.mono ?_
        rintro e w6 ⟨rfl, hf6, V3, Q3, hG3, hS3⟩
        have HM : Hid (GQ B 2 w6 xb st b qb n V3 Q3 ∧ SJ Q Q3 cnt id ans ∧ (0 ≤ n ∧ n ≤ 60000) ∧ Ln w6 lb xb (cqN PV PW PR 49) sv ∧ w6.heap[w2.heap.size]? = some (.cells (rcvC id (1 + (mx : Int))) 27 (0, 0)) ∧ w6.ownsRow 0 50 3 (.slice ga4 cnt gc4) cnt (es.flatMap Ge.row) ∧ Fr B TS w w6) := ⟨hG3, hS3, ⟨by omega, by omega⟩, HL5.out.fr hf6 (by decide), hf6.keep _ _ _ HB5.out (by decide), hf6.own HO5.out (by decide), HF5.out.trans (hf6.mono (by decide))⟩
        clear hf6 hG3 hS3 HT5 c0 c4
        go_wp2_with fail
        go_meet
        exact ⟨n, V3, Q3, HM.out⟩
      · go_wp2_with fail
        go_meet
        exact ⟨0, V1, Q1, HG5.out.1.less, HG5.out.2, ⟨by decide, by decide⟩, HL5.out, HB5.out, HO5.out, HF5.out⟩
    case rest =>
    clear HTM HG5 HL5 HB5 HO5 HF5 c4 ll HPK hp0 hp1
    obtain ⟨now, V2, Q2, hG6, hS6, hnow, hl6, hb6, ho6, hf6⟩ := hcut
    generalize wc = w6 at *
    have HL6 : Hid (Ln w6 lb xb (cqN PV PW PR 49) sv) := hl6
    have HB6 : Hid (w6.heap[w2.heap.size]? = some (.cells (rcvC id (1 + (mx : Int))) 27 (0, 0))) := hb6
    have HF6 : Hid (Fr B TS w w6) := hf6
    have HG6 : Hid (GQ B 2 w6 xb st b qb now V2 Q2 ∧ SJ Q Q2 cnt id ans) := ⟨hG6, hS6⟩
    have HO6 : Hid (w6.ownsRow 0 50 3 (.slice ga4 cnt gc4) cnt (es.flatMap Ge.row)) := ho6
    clear hl6 hb6 hf6 hG6 hS6 ho6
    have HC3 : Hid (Calls Tryz.prog 18 #[.pointer (some ⟨xb, 0, none⟩), .agg (rcvC id (1 + (mx : Int)))] w6.drew fun e w' => e = .returned (.string so) ∧ Ln w' lb xb (cqN PV PW PR 49) sv ∧ w'.heap[w2.heap.size]? = some (.cells (rcvC id (1 + (mx : Int))) 27 (0, 0)) ∧ Tch [] w6 w') := by
      refine (HA2.out w6.drew 1 now V2 Q2 ((HE.out.fr HF6.out).tch (Tch.refl [] w6).drew (by simp)) (by decide) hnow (HG6.out.1.tch (Tch.refl [] w6).drew) HG6.out.2).mono ?_
      rintro e w' ⟨he, ht⟩
      have t' : Tch [] w6 w' := (Tch.refl [] w6).drew.trans ht (by simp)
      exact ⟨he, HL6.out.tch t' (by simp), (t'.block _ (lt_of_block HB6.out) (by simp)).trans HB6.out, t'⟩
    go_wp2_with fail
    have el : w6.cell? ⟨lb, 0, none⟩ = some (.pointer (some ⟨xb, 0, none⟩)) := HL6.out.c0
    have e0 : w6.cell? ⟨w2.heap.size, 0, none⟩ = some (.int .u8 82) := cell_qC HB6.out 0 _ rfl
    have e1 : w6.cell? ⟨w2.heap.size, 1, none⟩ = some (.int .u8 97) := cell_qC HB6.out 1 _ rfl
    have e2 : w6.cell? ⟨w2.heap.size, 2, none⟩ = some (.int .u8 0) := cell_qC HB6.out 2 _ rfl
    have e3 : w6.cell? ⟨w2.heap.size, 3, none⟩ = some (.int .i64 0) := cell_qC HB6.out 3 _ rfl
    have e4 : w6.cell? ⟨w2.heap.size, 4, none⟩ = some (.int .i64 0) := cell_qC HB6.out 4 _ rfl
    have e5 : w6.cell? ⟨w2.heap.size, 5, none⟩ = some (.int .i64 0) := cell_qC HB6.out 5 _ rfl
    have e6 : w6.cell? ⟨w2.heap.size, 6, none⟩ = some (.int .i64 0) := cell_qC HB6.out 6 _ rfl
    have e7 : w6.cell? ⟨w2.heap.size, 7, none⟩ = some (.int .i64 (1 + (mx : Int))) := cell_qC HB6.out 7 _ rfl
    have e8 : w6.cell? ⟨w2.heap.size, 8, none⟩ = some (.int .i64 0) := cell_qC HB6.out 8 _ rfl
    have e9 : w6.cell? ⟨w2.heap.size, 9, none⟩ = some (.string ⟨#[]⟩) := cell_qC HB6.out 9 _ rfl
    have e10 : w6.cell? ⟨w2.heap.size, 10, none⟩ = some (.string ⟨#[]⟩) := cell_qC HB6.out 10 _ rfl
    have e11 : w6.cell? ⟨w2.heap.size, 11, none⟩ = some (.string ⟨#[]⟩) := cell_qC HB6.out 11 _ rfl
    have e12 : w6.cell? ⟨w2.heap.size, 12, none⟩ = some (.string id) := cell_qC HB6.out 12 _ rfl
    have e13 : w6.cell? ⟨w2.heap.size, 13, none⟩ = some (.string ⟨#[]⟩) := cell_qC HB6.out 13 _ rfl
    have e14 : w6.cell? ⟨w2.heap.size, 14, none⟩ = some (.slice none 0 0) := cell_qC HB6.out 14 _ rfl
    have ltl := lt_of_block HL6.out
    have ltb := lt_of_block HB6.out
    go_region_held3 (fun w' => w'.cell? ⟨lb, 0, none⟩ = some (.pointer (some ⟨xb, 0, none⟩)) ∧ w'.cell? ⟨w2.heap.size, 0, none⟩ = some (.int .u8 82) ∧ w'.cell? ⟨w2.heap.size, 1, none⟩ = some (.int .u8 97) ∧ w'.cell? ⟨w2.heap.size, 2, none⟩ = some (.int .u8 0) ∧ w'.cell? ⟨w2.heap.size, 3, none⟩ = some (.int .i64 0) ∧ w'.cell? ⟨w2.heap.size, 4, none⟩ = some (.int .i64 0) ∧ w'.cell? ⟨w2.heap.size, 5, none⟩ = some (.int .i64 0) ∧ w'.cell? ⟨w2.heap.size, 6, none⟩ = some (.int .i64 0) ∧ w'.cell? ⟨w2.heap.size, 7, none⟩ = some (.int .i64 (1 + (mx : Int))) ∧ w'.cell? ⟨w2.heap.size, 8, none⟩ = some (.int .i64 0) ∧ w'.cell? ⟨w2.heap.size, 9, none⟩ = some (.string ⟨#[]⟩) ∧ w'.cell? ⟨w2.heap.size, 10, none⟩ = some (.string ⟨#[]⟩) ∧ w'.cell? ⟨w2.heap.size, 11, none⟩ = some (.string ⟨#[]⟩) ∧ w'.cell? ⟨w2.heap.size, 12, none⟩ = some (.string id) ∧ w'.cell? ⟨w2.heap.size, 13, none⟩ = some (.string ⟨#[]⟩) ∧ w'.cell? ⟨w2.heap.size, 14, none⟩ = some (.slice none 0 0)) (go_keep) (first | (go_at_call 18; refine HC3.out.mono ?_; rintro e w7 ⟨rfl, hl7, hbx, ht7⟩; have kl := hl7.c0; have k0 := cell_qC hbx 0 (.int .u8 82) rfl; have k1 := cell_qC hbx 1 (.int .u8 97) rfl; have k2 := cell_qC hbx 2 (.int .u8 0) rfl; have k3 := cell_qC hbx 3 (.int .i64 0) rfl; have k4 := cell_qC hbx 4 (.int .i64 0) rfl; have k5 := cell_qC hbx 5 (.int .i64 0) rfl; have k6 := cell_qC hbx 6 (.int .i64 0) rfl; have k7 := cell_qC hbx 7 (.int .i64 (1 + (mx : Int))) rfl; have k8 := cell_qC hbx 8 (.int .i64 0) rfl; have k9 := cell_qC hbx 9 (.string ⟨#[]⟩) rfl; have k10 := cell_qC hbx 10 (.string ⟨#[]⟩) rfl; have k11 := cell_qC hbx 11 (.string ⟨#[]⟩) rfl; have k12 := cell_qC hbx 12 (.string id) rfl; have k13 := cell_qC hbx 13 (.string ⟨#[]⟩) rfl; have k14 := cell_qC hbx 14 (.slice none 0 0) rfl))
    have HL7 : Hid (Ln w7 lb xb (cqN PV PW PR 49) sv) := hl7
    have HF7 : Hid (Fr B TS w w7) := HF6.out.trans (Fr.of_nil TS ht7 (Nat.le_trans HE.out.size HF6.out.size))
    have HC4 : Hid (Calls Tryz.prog 22 _ w7 _) := HLS.out w7 1 now V2 Q2 (HE.out.fr HF7.out) (by decide) hnow (HG6.out.1.tch ht7) HG6.out.2
    have HO7 : Hid (w7.ownsRow 0 50 3 (.slice ga4 cnt gc4) cnt (es.flatMap Ge.row)) := own_tch HO6.out ht7 (by simp)
    clear hl7 hbx ht7 el kl ltl ltb e0 k0 e1 k1 e2 k2 e3 k3 e4 k4 e5 k5 e6 k6 e7 k7 e8 k8 e9 k9 e10 k10 e11 k11 e12 k12 e13 k13 e14 k14 HC3 HL6 HB6 HF6 HG6 HO6 HLS HA2
    have hne : (so.toList != so.toList) = false := by simp
    have c0 : w7.cell? ⟨lb, 0, none⟩ = some (.pointer (some ⟨xb, 0, none⟩)) := HL7.out.c0
    have ll := lt_of_block HL7.out
    go_wp2_with fail
    refine HC4.out.mono ?_
    rintro e w8 ⟨v25, es2, rfl, hdis, hle2, ho8, hf8⟩
    have HO8 : Hid (w8.ownsRow 0 50 3 (.slice ga4 cnt gc4) cnt (es.flatMap Ge.row)) := hf8.own HO7.out (by decide)
    have HF8 : Hid (Fr B TS w w8) := HF7.out.trans (hf8.mono (by decide))
    have HV8 : Hid (w8.ownsRow 0 50 3 v25 es2.length (es2.flatMap Ge.row)) := ho8
    have HDS : Hid (∀ (a b : Ge), a ∈ es2 → b ∈ es → (a.g.toList == b.g.toList) = false) := hdis
    have hel := HLN2.out.2.2
    obtain ⟨ga8, gc8, hv25⟩ := own_shape ho8
    subst hv25
    clear ho8 hf8 hdis HC4 HO7 HF7 HL7 c0 ll HLN2
    go_wp2_with fail
    have inh : Inhabited Ge := ⟨⟨⟨#[]⟩, ⟨#[]⟩, ⟨#[]⟩⟩⟩
    go_loopw [26] (fun v wr => ∃ i : Nat, v = .int .i64 (i : Int) ∧ i ≤ es2.length ∧ Tch [] w8 wr) (fun v _ => es2.length - (intOf v).toNat)
    case atStart => exact ⟨0, rfl, Nat.zero_le _, Tch.refl _ _⟩
    case round =>
      obtain ⟨i, rfl, hi, htr⟩ := hrel
      have HTR : Hid (Tch [] w8 wr) := htr
      clear htr
      by_cases hlt : i < es2.length
      · obtain ⟨g8, rfl⟩ : ∃ g, ga8 = some ⟨g, 0, none⟩ := by
          rcases HV8.out.2 with ⟨_, h1⟩ | ⟨g, cap, cur, h0, _⟩
          · omega
          · simp at h0
            exact ⟨g, h0.1⟩
        go_wp2_with fail
        go_loopw [27] (fun v wr2 => ∃ k : Nat, v = .int .i64 (k : Int) ∧ k ≤ cnt ∧ Tch [] w8 wr2) (fun v _ => cnt - (intOf v).toNat)
        case atStart => exact ⟨0, rfl, Nat.zero_le _, HTR.out⟩
        case round =>
          obtain ⟨k, rfl, hk, htr2⟩ := hrel
          have HT2 : Hid (Tch [] w8 wr) := htr2
          by_cases hlt2 : k < cnt
          · obtain ⟨g4, rfl⟩ : ∃ g, ga4 = some ⟨g, 0, none⟩ := by
              rcases HO8.out.2 with ⟨_, h1⟩ | ⟨g, cap, cur, h0, _⟩
              · omega
              · simp at h0
                exact ⟨g, h0.1⟩
            have hk2 : k < es.length := by omega
            have ha := own_tch HV8.out htr2 (by simp)
            have hb := own_tch HO8.out htr2 (by simp)
            rw [← hel] at hb
            have d1 : wr.cell? ⟨g8, i * 3 + 1, none⟩ = some (.string es2[i].g) := by
              have h1 := own_cells Ge.row 3 (fun _ => rfl) ha i hlt 1 (.string es2[i].g) (by
                rw [List.getElem!_eq_getElem?_getD, List.getElem?_eq_getElem hlt]
                rfl)
              simpa using h1
            have d2 : wr.cell? ⟨g4, k * 3 + 1, none⟩ = some (.string es[k].g) := by
              have h1 := own_cells Ge.row 3 (fun _ => rfl) hb k hk2 1 (.string es[k].g) (by
                rw [List.getElem!_eq_getElem?_getD, List.getElem?_eq_getElem hk2]
                rfl)
              simpa using h1
            have hq := HDS.out _ _ (List.getElem_mem hlt) (List.getElem_mem hk2)
            have b1 : g8 < wr.heap.size := World.block_lt_of_cell? _ _ d1
            have b2 : g4 < wr.heap.size := World.block_lt_of_cell? _ _ d2
            generalize es2[i].g = s1 at *
            generalize es[k].g = s2 at *
            clear ha hb htr2
            go_wp2_with fail
            go_quiet (fail)
            go_wp2_with fail
            go_roundw
            case rel => exact ⟨k + 1, by go_num, by omega, HT2.out.drewN _⟩
            case measure => simp [intOf]; omega
          · go_wp2_with fail
            go_roundw
            case rel => exact ⟨i + 1, by go_num, by omega, HT2.out⟩
            case measure => simp [intOf]; omega
      · go_wp2_with fail
        go_ret
        exact ⟨rfl, (HF8.out.trans (Fr.of_nil TS HTR.out (Nat.le_trans HE.out.size HF8.out.size))).below⟩
end Go.Proofs.YtbdobaapadlcjaaGreatDoor
