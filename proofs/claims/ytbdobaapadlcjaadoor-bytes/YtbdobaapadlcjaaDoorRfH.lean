/-
  WHAT IS RIGHT, by package wharfref's words: the same as by package wire's.
-/
import Derived.Test.YtbdobaapadlcjaaDoorRfG
import Derived.Test.YtbdobaapadlcjaaDoorBackG
namespace Go.Proofs.YtbdobaapadlcjaaDoor.Ref
set_option linter.unusedSimpArgs false
set_option linter.unusedVariables false

theorem str_eq {s t : ByteArray} : (s.toList == t.toList) = true ↔ s = t := by
  rw [beq_iff_eq, ByteArray.toList_eq, ByteArray.toList_eq]
  exact ⟨fun h => ext_list h, fun h => by rw [h]⟩
theorem byte_eq {a b : UInt8} : (((a.toNat : Nat) : Int) == ((b.toNat : Nat) : Int)) = true ↔ a = b := by
  rw [beq_iff_eq]
  exact ⟨fun h => UInt8.toNat_inj.1 (by omega), fun h => by rw [h]⟩
theorem int_eq {a b : Int} : (a == b) = true ↔ a = b := beq_iff_eq
theorem fieldsEq_iff (a b : Wp.Rq) : fieldsEq a b = true ↔ a = b := by
  unfold fieldsEq
  simp only [Bool.and_eq_true, str_eq, byte_eq, int_eq]
  cases a
  cases b
  simp only [Wp.Rq.mk.injEq]
  constructor
  · rintro ⟨⟨⟨⟨⟨⟨⟨⟨⟨⟨h1, h2⟩, h3⟩, h4⟩, h5⟩, ⟨⟨h6, h7⟩, h8⟩, h9⟩, h10⟩, h11⟩, h12⟩, h13⟩, h14⟩
    exact ⟨UInt8.toNat_inj.1 (by omega), UInt8.toNat_inj.1 (by omega), UInt8.toNat_inj.1 (by omega), h4, h5, h6, h7, h8, h9, h10, h11, h12, h13, h14⟩
  · rintro ⟨h1, h2, h3, h4, h5, h6, h7, h8, h9, h10, h11, h12, h13, h14⟩
    exact ⟨⟨⟨⟨⟨⟨⟨⟨⟨⟨by rw [h1], by rw [h2]⟩, by rw [h3]⟩, h4⟩, h5⟩, ⟨⟨h6, h7⟩, h8⟩, h9⟩, h10⟩, h11⟩, h12⟩, h13⟩, h14⟩
theorem fits_num (r : Wp.Rq) (n : Nat) (b : Bool) (f : Nat) (h1 : f ≠ 1) (h10 : f ≠ 10) (h14 : f ≠ 14) : r.fits n b f = true ↔ Wp.least f ≤ r.measure n f ∧ r.measure n f ≤ Wp.most f := by
  unfold Wp.Rq.fits
  rw [if_neg (fun e => h1 e.1), if_neg h1, if_neg h10, if_neg h14]
  constructor
  · intro h
    split at h
    · cases h
    · split at h
      · cases h
      · omega
  · intro h
    rw [if_neg (by omega), if_neg (by omega)]
theorem fits_d (r : Wp.Rq) (n : Nat) (b : Bool) : r.fits n b 1 = true ↔ r.d.toNat = 45 ∨ (97 ≤ r.d.toNat ∧ r.d.toNat ≤ 104) ∧ r.d.toNat ≠ r.q.toNat := by
  have e1 : r.measure n 1 = (r.d.toNat : Int) := rfl
  have e2 : Wp.least 1 = 97 := rfl
  have e3 : Wp.most 1 = 104 := rfl
  unfold Wp.Rq.fits
  rw [e1, e2, e3]
  by_cases h0 : r.d = 45
  · rw [if_pos ⟨rfl, h0⟩, h0]
    exact ⟨fun _ => Or.inl rfl, fun _ => rfl⟩
  · rw [if_neg (fun e => h0 e.2)]
    have h0' : r.d.toNat ≠ 45 := fun e => h0 (UInt8.toNat_inj.1 e)
    have hq : (r.d != r.q) = true ↔ r.d.toNat ≠ r.q.toNat := by
      rw [bne_iff_ne]
      exact not_congr ⟨fun h => by rw [h], fun h => UInt8.toNat_inj.1 h⟩
    constructor
    · intro h
      split at h
      · cases h
      · split at h
        · cases h
        · rw [if_pos rfl] at h
          exact Or.inr ⟨by omega, hq.1 h⟩
    · rintro (h | ⟨h1, h2⟩)
      · exact absurd h h0'
      · rw [if_neg (by omega), if_neg (by omega), if_pos rfl]
        exact hq.2 h2
theorem fits_ded (r : Wp.Rq) (n : Nat) (b : Bool) : r.fits n b 10 = true ↔ r.ded.size ≤ 8 ∧ Wp.dedOk r.ded = true := by
  have e1 : r.measure n 10 = (r.ded.size : Int) := rfl
  have e2 : Wp.least 10 = 0 := rfl
  have e3 : Wp.most 10 = 8 := rfl
  unfold Wp.Rq.fits
  rw [if_neg (fun e => by cases e.1), e1, e2, e3, if_neg (show ¬ ((r.ded.size : Nat) : Int) < 0 by omega), if_neg (show ¬ 10 = 1 by decide), if_pos rfl]
  constructor
  · intro h
    split at h
    · cases h
    · exact ⟨by omega, h⟩
  · rintro ⟨h1, h2⟩
    rw [if_neg (by omega)]
    exact h2
theorem fits_bat (r : Wp.Rq) (n : Nat) (b : Bool) : r.fits n b 14 = true ↔ (1 ≤ n ∧ n ≤ 10) ∧ b = true := by
  have e1 : r.measure n 14 = (n : Int) := rfl
  have e2 : Wp.least 14 = 1 := rfl
  have e3 : Wp.most 14 = 10 := rfl
  unfold Wp.Rq.fits
  rw [if_neg (fun e => by cases e.1), e1, e2, e3, if_neg (show ¬ 14 = 1 by decide), if_neg (show ¬ 14 = 10 by decide), if_pos rfl]
  constructor
  · intro h
    split at h
    · cases h
    · split at h
      · cases h
      · exact ⟨by omega, h⟩
  · rintro ⟨h1, h2⟩
    rw [if_neg (by omega), if_neg (by omega)]
    exact h2
theorem right_at (r : Wp.Rq) (x : Sl) (b : Bool) (h : Wf r) (i : Nat) (hi : i ∈ opsAt) (hop : r.op.toNat = 65 + i) :
    rightW r x b = true ↔ (∀ f ∈ Wp.lay i, r.fits x.n b f = true) ∧ erAll { r with op := 0 } (Wp.lay i) = opR 0 ∧ (ebAll x (Wp.lay i)).n = 0 := by
  rw [right_iff r x b h]
  constructor
  · rintro ⟨j, hj, he, h1, h2, h3⟩
    obtain rfl : j = i := by omega
    exact ⟨List.all_eq_true.1 h1, h2, h3⟩
  · rintro ⟨h1, h2, h3⟩
    exact ⟨i, hi, hop, List.all_eq_true.2 h1, h2, h3⟩
theorem ltq_iff (r : Wp.Rq) (n : Nat) (b : Bool) : r.fits n b 0 = true ↔ ltq r = true := by
  rw [fits_num r n b 0 (by decide) (by decide) (by decide)]
  have e1 : r.measure n 0 = (r.q.toNat : Int) := rfl
  have e2 : Wp.least 0 = 97 := rfl
  have e3 : Wp.most 0 = 104 := rfl
  rw [e1, e2, e3, ltq, Bool.and_eq_true, decide_eq_true_eq, decide_eq_true_eq]
  omega

theorem er_67 (r : Wp.Rq) : erAll { r with op := 0 } (Wp.lay 2) = opR 0 ↔ (⟨r.op, r.q, r.d, r.vis, r.win, r.rcv, r.quo, 0, 0, ⟨#[]⟩, ⟨#[]⟩, ⟨#[]⟩, ⟨#[]⟩, ⟨#[]⟩⟩ : Wp.Rq) = r := by
  cases r
  simp [erAll, er, opR, Wp.lay, Wp.layTab, Wp.shape, Wp.rowTab, eq_comm]
theorem eb_67 (x : Sl) : (ebAll x (Wp.lay 2)).n = x.n := rfl

theorem er_88 (r : Wp.Rq) : erAll { r with op := 0 } (Wp.lay 23) = opR 0 ↔ (⟨r.op, r.q, 0, 0, 0, 0, 0, 0, 0, ⟨#[]⟩, ⟨#[]⟩, ⟨#[]⟩, ⟨#[]⟩, ⟨#[]⟩⟩ : Wp.Rq) = r := by
  cases r
  simp [erAll, er, opR, Wp.lay, Wp.layTab, Wp.shape, Wp.rowTab, eq_comm]
theorem eb_88 (x : Sl) : (ebAll x (Wp.lay 23)).n = x.n := rfl

theorem er_80 (r : Wp.Rq) : erAll { r with op := 0 } (Wp.lay 15) = opR 0 ↔ (⟨r.op, r.q, 0, 0, 0, 0, 0, 0, 0, ⟨#[]⟩, ⟨#[]⟩, ⟨#[]⟩, ⟨#[]⟩, ⟨#[]⟩⟩ : Wp.Rq) = r := by
  cases r
  simp [erAll, er, opR, Wp.lay, Wp.layTab, Wp.shape, Wp.rowTab, eq_comm]
theorem eb_80 (x : Sl) : (ebAll x (Wp.lay 15)).n = x.n := rfl

theorem er_86 (r : Wp.Rq) : erAll { r with op := 0 } (Wp.lay 21) = opR 0 ↔ (⟨r.op, r.q, 0, 0, 0, 0, 0, 0, 0, ⟨#[]⟩, ⟨#[]⟩, ⟨#[]⟩, ⟨#[]⟩, ⟨#[]⟩⟩ : Wp.Rq) = r := by
  cases r
  simp [erAll, er, opR, Wp.lay, Wp.layTab, Wp.shape, Wp.rowTab, eq_comm]
theorem eb_86 (x : Sl) : (ebAll x (Wp.lay 21)).n = x.n := rfl

theorem er_83 (r : Wp.Rq) : erAll { r with op := 0 } (Wp.lay 18) = opR 0 ↔ (⟨r.op, r.q, 0, 0, 0, 0, 0, 0, 0, r.grp, r.ded, r.bod, ⟨#[]⟩, ⟨#[]⟩⟩ : Wp.Rq) = r := by
  cases r
  simp [erAll, er, opR, Wp.lay, Wp.layTab, Wp.shape, Wp.rowTab, eq_comm]
theorem eb_83 (x : Sl) : (ebAll x (Wp.lay 18)).n = x.n := rfl

theorem er_82 (r : Wp.Rq) : erAll { r with op := 0 } (Wp.lay 17) = opR 0 ↔ (⟨r.op, r.q, 0, 0, 0, 0, 0, r.mx, 0, ⟨#[]⟩, ⟨#[]⟩, ⟨#[]⟩, r.att, ⟨#[]⟩⟩ : Wp.Rq) = r := by
  cases r
  simp [erAll, er, opR, Wp.lay, Wp.layTab, Wp.shape, Wp.rowTab, eq_comm]
theorem eb_82 (x : Sl) : (ebAll x (Wp.lay 17)).n = x.n := rfl

theorem er_65 (r : Wp.Rq) : erAll { r with op := 0 } (Wp.lay 0) = opR 0 ↔ (⟨r.op, 0, 0, 0, 0, 0, 0, 0, 0, ⟨#[]⟩, ⟨#[]⟩, ⟨#[]⟩, ⟨#[]⟩, r.han⟩ : Wp.Rq) = r := by
  cases r
  simp [erAll, er, opR, Wp.lay, Wp.layTab, Wp.shape, Wp.rowTab, eq_comm]
theorem eb_65 (x : Sl) : (ebAll x (Wp.lay 0)).n = x.n := rfl

theorem er_69 (r : Wp.Rq) : erAll { r with op := 0 } (Wp.lay 4) = opR 0 ↔ (⟨r.op, 0, 0, 0, 0, 0, 0, 0, r.tic, ⟨#[]⟩, ⟨#[]⟩, ⟨#[]⟩, ⟨#[]⟩, r.han⟩ : Wp.Rq) = r := by
  cases r
  simp [erAll, er, opR, Wp.lay, Wp.layTab, Wp.shape, Wp.rowTab, eq_comm]
theorem eb_69 (x : Sl) : (ebAll x (Wp.lay 4)).n = x.n := rfl

theorem er_84 (r : Wp.Rq) : erAll { r with op := 0 } (Wp.lay 19) = opR 0 ↔ (⟨r.op, 0, 0, 0, 0, 0, 0, 0, r.tic, ⟨#[]⟩, ⟨#[]⟩, ⟨#[]⟩, ⟨#[]⟩, ⟨#[]⟩⟩ : Wp.Rq) = r := by
  cases r
  simp [erAll, er, opR, Wp.lay, Wp.layTab, Wp.shape, Wp.rowTab, eq_comm]
theorem eb_84 (x : Sl) : (ebAll x (Wp.lay 19)).n = x.n := rfl

theorem er_66 (r : Wp.Rq) : erAll { r with op := 0 } (Wp.lay 1) = opR 0 ↔ (⟨r.op, 0, 0, 0, 0, 0, 0, 0, 0, ⟨#[]⟩, ⟨#[]⟩, ⟨#[]⟩, ⟨#[]⟩, ⟨#[]⟩⟩ : Wp.Rq) = r := by
  cases r
  simp [erAll, er, opR, Wp.lay, Wp.layTab, Wp.shape, Wp.rowTab, eq_comm]
theorem eb_66 (x : Sl) : (ebAll x (Wp.lay 1)).n = 0 := rfl

end Go.Proofs.YtbdobaapadlcjaaDoor.Ref
