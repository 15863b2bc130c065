/-
  received (21): what was told is read.
-/
import Derived.Test.YtbdobaapadlcjaaGreatDoorMx37
namespace Go.Proofs.YtbdobaapadlcjaaGreatDoor
open Go.RowKit Keep
set_option linter.unusedVariables false
set_option linter.unusedSimpArgs false

theorem ext_mid (pre mid post : List UInt8) : (⟨(pre ++ (mid ++ post)).toArray⟩ : ByteArray).extract pre.length (pre.length + mid.length) = ⟨mid.toArray⟩ := by
  apply ByteArray.ext
  rw [ByteArray.data_extract]
  show (pre ++ (mid ++ post)).toArray.extract _ _ = mid.toArray
  rw [List.extract_toArray]
  simp [List.extract]
theorem get_mid (pre : List UInt8) (x : UInt8) (post : List UInt8) (h : pre.length < (⟨(pre ++ (x :: post)).toArray⟩ : ByteArray).size) : (⟨(pre ++ (x :: post)).toArray⟩ : ByteArray)[pre.length] = x := by
  show (pre ++ (x :: post)).toArray[pre.length] = x
  simp

/-- One message that was told. -/
structure Ge where
  h : ByteArray
  g : ByteArray
  b : ByteArray
def Ge.row (x : Ge) : List Value := [.string x.h, .string x.g, .string x.b]
def Ge.bytes (x : Ge) : List UInt8 := x.h.data.toList ++ (txtB x.g ++ txtB x.b)
structure GeOk (x : Ge) : Prop where
  h : x.h.size = 8
  g : x.g.size ≤ 255
  b : x.b.size ≤ 255
def recS (es : List Ge) : ByteArray := okL (lowB es.length 1 ++ es.flatMap Ge.bytes)
def offE (es : List Ge) (i : Nat) : Nat := 2 + ((es.take i).flatMap Ge.bytes).length
theorem lowB1 (n : Nat) : lowB n 1 = [UInt8.ofNat (n % 256)] := by
  show [UInt8.ofNat (n / 256 ^ 0 % 256)] = _
  simp
theorem toNat1 (n : Nat) (h : n ≤ 255) : (UInt8.ofNat (n % 256)).toNat = n := by
  rw [UInt8.toNat_ofNat_of_lt' (by show n % 256 < 256; omega)]
  omega
theorem Ge.len (x : Ge) (h : GeOk x) : x.bytes.length = 10 + x.g.size + x.b.size := by
  have := h.h
  simp only [Ge.bytes, List.length_append, txtB_length]
  have e : x.h.data.toList.length = x.h.size := rfl
  omega
theorem take_drop_mid {α : Type} (l : List α) (i : Nat) (hi : i < l.length) : l = l.take i ++ (l[i] :: l.drop (i + 1)) := by
  rw [List.getElem_cons_drop, List.take_append_drop]
theorem offE_succ (es : List Ge) (i : Nat) (hi : i < es.length) (hok : ∀ x ∈ es, GeOk x) : offE es (i + 1) = offE es i + 8 + 1 + es[i].g.size + 1 + es[i].b.size := by
  unfold offE
  rw [List.take_succ_eq_append_getElem hi, List.flatMap_append, List.length_append]
  simp only [List.flatMap_cons, List.flatMap_nil, List.append_nil]
  rw [Ge.len _ (hok _ (List.getElem_mem _))]
  omega
theorem rec_size (es : List Ge) : (recS es).size = offE es es.length := by
  unfold recS offE
  rw [okL_size, List.length_append, lowB_length, List.take_length]
  omega
theorem flat_bound (es : List Ge) (hok : ∀ x ∈ es, GeOk x) : (es.flatMap Ge.bytes).length ≤ es.length * 520 := by
  induction es with
  | nil => simp
  | cons x es ih =>
    have h1 := ih (fun y hy => hok y (by simp [hy]))
    have h2 := hok x (by simp)
    have := h2.g
    have := h2.b
    rw [List.flatMap_cons, List.length_append, Ge.len _ h2, List.length_cons]
    omega
/-- Where the parts of the i-th stand. -/
structure RcAt (s : ByteArray) (a : Nat) (x : Ge) : Prop where
  l1 : a + 8 < s.size
  h : s.extract a (a + 8) = x.h
  n1 : s[a + 8].toNat = x.g.size
  l2 : a + 8 + 1 + x.g.size < s.size
  g : s.extract (a + 8 + 1) (a + 8 + 1 + x.g.size) = x.g
  n2 : s[a + 8 + 1 + x.g.size].toNat = x.b.size
  l3 : a + 8 + 1 + x.g.size + 1 + x.b.size ≤ s.size
  b : s.extract (a + 8 + 1 + x.g.size + 1) (a + 8 + 1 + x.g.size + 1 + x.b.size) = x.b
theorem rcAt_of (pre post : List UInt8) (x : Ge) (hx : GeOk x) : RcAt ⟨(pre ++ (x.bytes ++ post)).toArray⟩ pre.length x := by
  have eh : x.h.data.toList.length = 8 := hx.h
  have eg : x.g.data.toList.length = x.g.size := rfl
  have eb : x.b.data.toList.length = x.b.size := rfl
  have hsz : (⟨(pre ++ (x.bytes ++ post)).toArray⟩ : ByteArray).size = pre.length + (10 + x.g.size + x.b.size + post.length) := by
    show (pre ++ (x.bytes ++ post)).toArray.size = _
    simp only [List.size_toArray, List.length_append, Ge.len x hx]
  have e1 : pre ++ (x.bytes ++ post) = pre ++ (x.h.data.toList ++ (txtB x.g ++ txtB x.b ++ post)) := by simp [Ge.bytes]
  have e2 : pre ++ (x.bytes ++ post) = (pre ++ x.h.data.toList) ++ (UInt8.ofNat (x.g.size % 256) :: (x.g.data.toList ++ (txtB x.b ++ post))) := by simp [Ge.bytes, txtB, lowB1]
  have e3 : pre ++ (x.bytes ++ post) = (pre ++ x.h.data.toList ++ [UInt8.ofNat (x.g.size % 256)]) ++ (x.g.data.toList ++ (txtB x.b ++ post)) := by simp [Ge.bytes, txtB, lowB1]
  have e4 : pre ++ (x.bytes ++ post) = (pre ++ x.h.data.toList ++ [UInt8.ofNat (x.g.size % 256)] ++ x.g.data.toList) ++ (UInt8.ofNat (x.b.size % 256) :: (x.b.data.toList ++ post)) := by simp [Ge.bytes, txtB, lowB1]
  have e5 : pre ++ (x.bytes ++ post) = (pre ++ x.h.data.toList ++ [UInt8.ofNat (x.g.size % 256)] ++ x.g.data.toList ++ [UInt8.ofNat (x.b.size % 256)]) ++ (x.b.data.toList ++ post) := by simp [Ge.bytes, txtB, lowB1]
  refine ⟨by rw [hsz]; omega, ?_, ?_, by rw [hsz]; omega, ?_, ?_, by rw [hsz]; omega, ?_⟩
  · have h := ext_mid pre x.h.data.toList (txtB x.g ++ txtB x.b ++ post)
    rw [eh] at h
    rw [e1, h]
  · have h := get_mid (pre ++ x.h.data.toList) (UInt8.ofNat (x.g.size % 256)) (x.g.data.toList ++ (txtB x.b ++ post)) (by rw [← e2, hsz, List.length_append, eh]; omega)
    have el : (pre ++ x.h.data.toList).length = pre.length + 8 := by rw [List.length_append, eh]
    simp only [el] at h
    have h2 : (⟨(pre ++ (x.bytes ++ post)).toArray⟩ : ByteArray)[pre.length + 8]'(by rw [hsz]; omega) = UInt8.ofNat (x.g.size % 256) := by
      rw [← h]
      simp only [e2]
    exact (congrArg UInt8.toNat h2).trans (toNat1 x.g.size hx.g)
  · have h := ext_mid (pre ++ x.h.data.toList ++ [UInt8.ofNat (x.g.size % 256)]) x.g.data.toList (txtB x.b ++ post)
    have el : (pre ++ x.h.data.toList ++ [UInt8.ofNat (x.g.size % 256)]).length = pre.length + 8 + 1 := by simp only [List.length_append, eh, List.length_singleton]
    rw [el, eg] at h
    rw [e3, h]
  · have h := get_mid (pre ++ x.h.data.toList ++ [UInt8.ofNat (x.g.size % 256)] ++ x.g.data.toList) (UInt8.ofNat (x.b.size % 256)) (x.b.data.toList ++ post) (by rw [← e4, hsz]; simp only [List.length_append, eh, eg, List.length_singleton]; omega)
    have el : (pre ++ x.h.data.toList ++ [UInt8.ofNat (x.g.size % 256)] ++ x.g.data.toList).length = pre.length + 8 + 1 + x.g.size := by simp only [List.length_append, eh, eg, List.length_singleton]
    simp only [el] at h
    have h2 : (⟨(pre ++ (x.bytes ++ post)).toArray⟩ : ByteArray)[pre.length + 8 + 1 + x.g.size]'(by rw [hsz]; omega) = UInt8.ofNat (x.b.size % 256) := by
      rw [← h]
      simp only [e4]
    exact (congrArg UInt8.toNat h2).trans (toNat1 x.b.size hx.b)
  · have h := ext_mid (pre ++ x.h.data.toList ++ [UInt8.ofNat (x.g.size % 256)] ++ x.g.data.toList ++ [UInt8.ofNat (x.b.size % 256)]) x.b.data.toList post
    have el : (pre ++ x.h.data.toList ++ [UInt8.ofNat (x.g.size % 256)] ++ x.g.data.toList ++ [UInt8.ofNat (x.b.size % 256)]).length = pre.length + 8 + 1 + x.g.size + 1 := by simp only [List.length_append, eh, eg, List.length_singleton]
    rw [el, eb] at h
    rw [e5, h]
theorem rec_at (es : List Ge) (hok : ∀ x ∈ es, GeOk x) (i : Nat) (hi : i < es.length) : RcAt (recS es) (offE es i) es[i] := by
  have e : recS es = ⟨((0 :: lowB es.length 1 ++ (es.take i).flatMap Ge.bytes) ++ (es[i].bytes ++ (es.drop (i + 1)).flatMap Ge.bytes)).toArray⟩ := by
    have h : es.flatMap Ge.bytes = (es.take i).flatMap Ge.bytes ++ (es[i].bytes ++ (es.drop (i + 1)).flatMap Ge.bytes) := by
      have h1 := congrArg (fun l => l.flatMap Ge.bytes) (take_drop_mid es i hi)
      simp only [List.flatMap_append, List.flatMap_cons] at h1
      exact h1
    unfold recS okL
    rw [h]
    simp
  have el : (0 :: lowB es.length 1 ++ (es.take i).flatMap Ge.bytes).length = offE es i := by
    unfold offE
    rw [List.length_append, List.length_cons, lowB_length]
  rw [e, ← el]
  exact rcAt_of _ _ _ (hok _ (List.getElem_mem _))
theorem rec_one (es : List Ge) (hl : es.length ≤ 255) (h : 1 < (recS es).size) : (recS es)[1].toNat = es.length := by
  have e : (recS es)[1] = UInt8.ofNat (es.length % 256) := (okL_get _ 1 h).trans (by simp [lowB1])
  rw [e, toNat1 _ hl]

theorem info50 : (Tryz.prog.info? 50).map (fun i => (i.zero, i.size, i.bytes)) = some (some (.agg #[.string ⟨#[]⟩, .string ⟨#[]⟩, .string ⟨#[]⟩]), 3, 48) := by kernel_rfl
theorem own_base {w : World} {base t size n : Nat} {v : Value} {xs : List Value} (h : w.ownsRow base t size v n xs) : w.ownsRow 0 t size v n xs := by
  refine ⟨h.1, ?_⟩
  rcases h.2 with hn | ⟨g, cap, cur, rfl, hb, hg, rest⟩
  · exact .inl hn
  · exact .inr ⟨g, cap, cur, rfl, Nat.zero_le _, hg, rest⟩
theorem own_ge {w : World} {base t size n : Nat} {v : Value} {xs : List Value} (h : w.ownsRow base t size v n xs) : ∀ k, v.ownBlock = some k → base ≤ k := fun k hk => by
  rcases h.2 with ⟨rfl, _⟩ | ⟨g, cap, cur, rfl, hb, hg, rest⟩
  · simp [Value.ownBlock] at hk
  · simp only [Value.ownBlock, Option.some.injEq] at hk
    omega
theorem wpList_valsB (base : Nat) (w : World) {ops : Array Oper} {rest : List Oper} {o : Oper} {a : Act} {Q : Exit → Act → World → Prop} (hgd : o.guard = none) (s x : Operand) (t te : TypeId)
    (ho : o.op = .call { callee := .builtin .append, args := #[s, x], argTypes := #[t, t] }) (ht : Tryz.prog.underlying t = some (.slice te)) (z : Value) (size bytes : Nat)
    (hinfo : (Tryz.prog.info? te).map (fun i => (i.zero, i.size, i.bytes)) = some (some z, size, bytes)) (hzs : z.cells.size = size) (hsz : 0 < size) (hby : bytes ≤ 100)
    (v : Value) (n : Nat) (xs : List Value) (hs : a.eval s = v) (hown : w.ownsRow base te size v n xs) (hbase : base ≤ w.heap.size) (g : Nat) (news : List Value) (m : Nat) (hx : a.eval x = .slice (some ⟨g, 0, none⟩) m m) (hm : news.length = m * size) (hm0 : 0 < m) (hg : w.heap[g]? = some (.cells news.toArray te (0, 0))) (hone : ∀ u ∈ news, u.oneCell' = true) (hn : n + m ≤ 1073741824)
    (h : ∀ v' w', w'.ownsRow base te size v' (n + m) (xs ++ news) → w.grownBy w' v.ownBlock → (v'.ownBlock = v.ownBlock ∨ v'.ownBlock = some w.heap.size) → wpList Tryz.prog ops Q rest (a.put o.dst v') w') : wpList Tryz.prog ops Q (o :: rest) a w := by
  obtain ⟨i0, hi, hz0, hz1, hz2⟩ := info_parts hinfo
  refine wpList_app w hgd s x t ho base te i0 _ size bytes ht hi hz0 hz1 hz2 hzs hsz v n xs hs hown ⟨g, 0, none⟩ m m news hx hm ?_ hone (by unfold maxLen; omega) ?_ hbase hm0 h
  · intro j u hj
    have e : (⟨g, 0, none⟩ : Addr).add j = ⟨g, j, none⟩ := by unfold Addr.add; split <;> simp_all
    rw [e, cell_of_row w g j _ te (0, 0) hg, ← hj]
    simp
  · have h1 : (n + m) * bytes ≤ 1073741824 * 100 := Nat.mul_le_mul hn hby
    omega

set_option maxRecDepth 8000 in
set_option maxHeartbeats 4000000 in
theorem received_any (es : List Ge) (w : World) (hok : ∀ x ∈ es, GeOk x) (hl : es.length ≤ 10) :
    Calls Tryz.prog 21 #[.string (recS es)] w fun e w' => ∃ v, e = .returned (.tuple #[v, .bool true]) ∧ w'.ownsRow w.heap.size 50 3 v es.length (es.flatMap Ge.row) ∧ Tch [] w w' := by
  have hfb := flat_bound es hok
  have hsz : (recS es).size ≤ 6000 ∧ 2 ≤ (recS es).size := by
    unfold recS
    rw [okL_size, List.length_append, lowB_length]
    omega
  have HF : Hid (∀ W, Calls Tryz.prog 35 #[.string (recS es)] W fun e w' => e = .returned (.bool true) ∧ w' = W) := fun W => fine_ok _ W (by rw [List.length_append, lowB_length]; omega)
  have HAT : Hid (∀ i (hi : i < es.length), RcAt (recS es) (offE es i) es[i]) := fun i hi => rec_at es hok i hi
  have HSU : Hid (∀ i (hi : i < es.length), offE es (i + 1) = offE es i + 8 + 1 + es[i].g.size + 1 + es[i].b.size) := fun i hi => offE_succ es i hi hok
  have HEN : Hid ((recS es).size = offE es es.length) := rec_size es
  have h1 : 1 < (recS es).size := by omega
  have hone : (recS es)[1].toNat = es.length := rec_one es (by omega) h1
  have HOF0 : Hid (offE es 0 = 2) := rfl
  generalize recS es = s at *
  go_enter Tryz.func21, Tryz.ntmps21
  go_wp2_with fail
  refine (HF.out _).mono ?_
  rintro e w' ⟨rfl, h'⟩
  have h'' := h'.symm
  subst h''
  go_wp2_with fail
  go_loopw [5, 6, 7] (fun v5 v6 v7 wr => ∃ (i : Nat) (ov : Value), i ≤ es.length ∧ v5 = ov ∧ v7 = .int .i64 (i : Int) ∧ v6 = .int .i64 (offE es i : Nat) ∧ wr.ownsRow w.heap.size 50 3 ov i ((es.take i).flatMap Ge.row) ∧ Tch [] w wr) (fun _ _ v _ => es.length - (intOf v).toNat)
  case atStart => exact ⟨0, _, Nat.zero_le _, rfl, rfl, by rw [HOF0.out]; rfl, by simpa using World.ownsRow_nil w _ _ _, Tch.refl _ _⟩
  case round =>
    obtain ⟨i, ov, hi, rfl, rfl, rfl, ho, ht⟩ := hrel
    have HO : Hid (wr.ownsRow w.heap.size 50 3 u5 i ((es.take i).flatMap Ge.row)) := ho
    have HT : Hid (Tch [] w wr) := ht
    clear ho ht
    by_cases hlt : i < es.length
    · have hat := HAT.out i hlt
      have hsu := HSU.out i hlt
      have l1 := hat.l1
      have l2 := hat.l2
      have l3 := hat.l3
      have hx8 := hat.h
      have HX1 : Hid (∀ W, Calls Tryz.prog 38 #[.string s, .int .i64 ((offE es i : Nat) + 8 : Int)] W fun e w' => e = .returned (.tuple #[.string es[i].g, .int .i64 ((offE es i + 8 + 1 + es[i].g.size : Nat) : Int), .bool true]) ∧ w' = W) := fun W => by
        have h := text_at s (offE es i + 8) es[i].g.size W (by omega) hat.l1 hat.n1 (by omega)
        rw [hat.g, show ((offE es i + 8 : Nat) : Int) = (offE es i : Nat) + 8 from by omega] at h
        exact h
      have HX2 : Hid (∀ W, Calls Tryz.prog 38 #[.string s, .int .i64 ((offE es i + 8 + 1 + es[i].g.size : Nat) : Int)] W fun e w' => e = .returned (.tuple #[.string es[i].b, .int .i64 ((offE es (i + 1) : Nat) : Int), .bool true]) ∧ w' = W) := fun W => by
        have h := text_at s (offE es i + 8 + 1 + es[i].g.size) es[i].b.size W (by omega) hat.l2 hat.n2 (by omega)
        rw [hat.b, ← hsu] at h
        exact h
      have HTK : Hid ((es.take (i + 1)).flatMap Ge.row = (es.take i).flatMap Ge.row ++ [.string es[i].h, .string es[i].g, .string es[i].b]) := by
        show _ = _
        rw [List.take_succ_eq_append_getElem hlt, List.flatMap_append]
        simp [Ge.row]
      clear hat hsu
      generalize es[i].h = xh at *
      generalize es[i].g = xg at *
      generalize es[i].b = xb at *
      generalize hat2 : offE es (i + 1) = at2 at *
      generalize offE es i = at1 at *
      clear HAT HSU HEN
      go_wp2_with fail
      refine (HX1.out _).mono ?_
      rintro e w' ⟨rfl, h'⟩
      have h'' := h'.symm
      subst h''
      go_wp2_with fail
      refine (HX2.out _).mono ?_
      rintro e w' ⟨rfl, h'⟩
      have h'' := h'.symm
      subst h''
      have zr := HT.out.size
      obtain ⟨oa, oc, hoe⟩ := own_shape HO.out
      subst hoe
      go_wp2_with (at_builtin; refine wpList_valsB w.heap.size _ rfl _ _ 45 50 rfl Tryz.underlying45 (.agg #[.string ⟨#[]⟩, .string ⟨#[]⟩, .string ⟨#[]⟩]) 3 48 info50 rfl (by decide) (by decide) (.slice oa i oc) i ((es.take i).flatMap Ge.row) ?hvs ?hvo ?hvb wr.heap.size [.string xh, .string xg, .string xb] 1 ?hvx rfl (by decide) ?hvg ?hv1 (by omega) ?hvk)
      case hvs => simp [Act.eval, Act.put]
      case hvo => exact own_tch HO.out ((Tch.refl [] _).alloc _) (fun _ _ => by simp)
      case hvb => rw [World.size_alloc]; omega
      case hvx => simp [Act.eval, Act.put]
      case hvg => exact heap_alloc_new _ _
      case hv1 => intro u hu; simp at hu; rcases hu with rfl | rfl | rfl <;> rfl
      intro v2 w2 ho2 hg2 hb2
      have HO2 : Hid (w2.ownsRow w.heap.size 50 3 v2 (i + 1) ((es.take (i + 1)).flatMap Ge.row) ∧ Tch [] w w2) := by
        refine ⟨by rw [HTK.out]; exact ho2, (HT.out.alloc _).grown hg2 (fun k hk hlt => ?_)⟩
        have := own_ge HO.out k hk
        omega
      clear ho2 hg2 hb2
      go_wp2_with fail
      go_roundw
      case rel => exact ⟨i + 1, v2, by omega, rfl, by go_num, by rw [hat2], HO2.out.1, HO2.out.2⟩
      case measure => simp [intOf]; omega
    · have hie : i = es.length := by omega
      subst hie
      have hen : ((offE es es.length : Nat) : Int) = (s.size : Int) := by rw [HEN.out]
      go_wp2_with fail
      go_ret2
      refine ⟨_, by simp [hen]; rfl, ?_, HT.out⟩
      have h9 := HO.out
      rw [List.take_length] at h9
      exact h9
end Go.Proofs.YtbdobaapadlcjaaGreatDoor
