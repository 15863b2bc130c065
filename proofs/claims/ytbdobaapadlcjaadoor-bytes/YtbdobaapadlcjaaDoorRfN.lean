/-
  WHAT package wharfref's guessed (61) answers: some request; where the bytes are a right one's, that.
-/
import Derived.Test.YtbdobaapadlcjaaDoorRfL1
import Derived.Test.YtbdobaapadlcjaaDoorRfM
namespace Go.Proofs.YtbdobaapadlcjaaDoor.Ref
open Go.RowKit
set_option linter.unusedVariables false

theorem i64_n (n : Nat) (h : n < 65536) : i64 ((n : Nat) : Int) := by unfold i64; omega
theorem i64_0 : i64 0 := by unfold i64; omega
/-- What guessed answers. -/
def Guess (s : ByteArray) (w : World) (e : Ending) (w' : World) : Prop :=
  ∃ (r : Wp.Rq) (x : Sl) (bs : List ByteArray), e = .returned (.agg (cellsOf r x.v)) ∧ Wf r ∧ x.n = bs.length ∧ bs.length ≤ 255 ∧ (∀ t ∈ bs, t.size ≤ 255) ∧ FStrs w.heap.size w' x.a bs ∧ (parseGood s = true → r = (endSt s).r ∧ bs = (endSt s).bs)
theorem guess_nil {s : ByteArray} {w w' : World} {r : Wp.Rq} (hw : Wf r) (hr : parseGood s = true → (endSt s).r = r ∧ (endSt s).bs = []) : Guess s w (.returned (.agg (cellsOf r nilS.v))) w' :=
  ⟨r, nilS, [], rfl, hw, rfl, by decide, fun t ht => absurd ht (by simp), fun j hj => absurd hj (by simp), fun hg => ⟨(hr hg).1.symm, (hr hg).2.symm⟩⟩
theorem bt_small (s : ByteArray) (k p : Nat) : ∀ t ∈ bt s k p, t.size ≤ 255 := by
  induction k with
  | zero => intro t ht; exact absurd ht (by simp [bt])
  | succ k ih =>
    intro t ht
    rw [bt, List.mem_append] at ht
    rcases ht with ht | ht
    · exact ih t ht
    · rw [List.mem_singleton.1 ht]; exact rx_size _ _
theorem guessed_any (s : ByteArray) (w : World) (hs : s.size ≤ maxLen) :
    Calls Tryd.prog 61 #[.string s] w fun e w' => Guess s w e w' ∧ Below w.heap.size w w' := by
  by_cases h67 : (at0 s 0).toNat = 67
  · refine (guessed_67 s w hs h67).mono fun e w' ⟨he, hb⟩ => ⟨?_, hb⟩
    rw [he]
    refine guess_nil (by constructor <;> first | exact i64_0 | exact i64_n _ (rn2 s _) | exact i64_n _ (Nat.lt_trans (rn1 s _) (by decide))) fun hg => ?_
    have ho : at0 s 0 = 67 := UInt8.toNat_inj.1 h67
    have hr := end_rel s hg
    rw [ho] at hr
    exact ⟨hr.1, hr.2.1⟩
  by_cases h88 : (at0 s 0).toNat = 88
  · refine (guessed_88 s w hs h88).mono fun e w' ⟨he, hb⟩ => ⟨?_, hb⟩
    rw [he]
    refine guess_nil (by constructor <;> first | exact i64_0 | exact i64_n _ (rn2 s _) | exact i64_n _ (Nat.lt_trans (rn1 s _) (by decide))) fun hg => ?_
    have ho : at0 s 0 = 88 := UInt8.toNat_inj.1 h88
    have hr := end_rel s hg
    rw [ho] at hr
    exact ⟨hr.1, hr.2.1⟩
  by_cases h80 : (at0 s 0).toNat = 80
  · refine (guessed_80 s w hs h80).mono fun e w' ⟨he, hb⟩ => ⟨?_, hb⟩
    rw [he]
    refine guess_nil (by constructor <;> first | exact i64_0 | exact i64_n _ (rn2 s _) | exact i64_n _ (Nat.lt_trans (rn1 s _) (by decide))) fun hg => ?_
    have ho : at0 s 0 = 80 := UInt8.toNat_inj.1 h80
    have hr := end_rel s hg
    rw [ho] at hr
    exact ⟨hr.1, hr.2.1⟩
  by_cases h86 : (at0 s 0).toNat = 86
  · refine (guessed_86 s w hs h86).mono fun e w' ⟨he, hb⟩ => ⟨?_, hb⟩
    rw [he]
    refine guess_nil (by constructor <;> first | exact i64_0 | exact i64_n _ (rn2 s _) | exact i64_n _ (Nat.lt_trans (rn1 s _) (by decide))) fun hg => ?_
    have ho : at0 s 0 = 86 := UInt8.toNat_inj.1 h86
    have hr := end_rel s hg
    rw [ho] at hr
    exact ⟨hr.1, hr.2.1⟩
  by_cases h83 : (at0 s 0).toNat = 83
  · refine (guessed_83 s w hs h83).mono fun e w' ⟨he, hb⟩ => ⟨?_, hb⟩
    rw [he]
    refine guess_nil (by constructor <;> first | exact i64_0 | exact i64_n _ (rn2 s _) | exact i64_n _ (Nat.lt_trans (rn1 s _) (by decide))) fun hg => ?_
    have ho : at0 s 0 = 83 := UInt8.toNat_inj.1 h83
    have hr := end_rel s hg
    rw [ho] at hr
    exact ⟨hr.1, hr.2.1⟩
  by_cases h82 : (at0 s 0).toNat = 82
  · refine (guessed_82 s w hs h82).mono fun e w' ⟨he, hb⟩ => ⟨?_, hb⟩
    rw [he]
    refine guess_nil (by constructor <;> first | exact i64_0 | exact i64_n _ (rn2 s _) | exact i64_n _ (Nat.lt_trans (rn1 s _) (by decide))) fun hg => ?_
    have ho : at0 s 0 = 82 := UInt8.toNat_inj.1 h82
    have hr := end_rel s hg
    rw [ho] at hr
    exact ⟨hr.1, hr.2.1⟩
  by_cases h65 : (at0 s 0).toNat = 65
  · refine (guessed_65 s w hs h65).mono fun e w' ⟨he, hb⟩ => ⟨?_, hb⟩
    rw [he]
    refine guess_nil (by constructor <;> first | exact i64_0 | exact i64_n _ (rn2 s _) | exact i64_n _ (Nat.lt_trans (rn1 s _) (by decide))) fun hg => ?_
    have ho : at0 s 0 = 65 := UInt8.toNat_inj.1 h65
    have hr := end_rel s hg
    rw [ho] at hr
    exact ⟨hr.1, hr.2.1⟩
  by_cases h69 : (at0 s 0).toNat = 69
  · refine (guessed_69 s w hs h69).mono fun e w' ⟨he, hb⟩ => ⟨?_, hb⟩
    rw [he]
    refine guess_nil (by constructor <;> first | exact i64_0 | exact i64_n _ (rn2 s _) | exact i64_n _ (Nat.lt_trans (rn1 s _) (by decide))) fun hg => ?_
    have ho : at0 s 0 = 69 := UInt8.toNat_inj.1 h69
    have hr := end_rel s hg
    rw [ho] at hr
    exact ⟨hr.1, hr.2.1⟩
  by_cases h84 : (at0 s 0).toNat = 84
  · refine (guessed_84 s w hs h84).mono fun e w' ⟨he, hb⟩ => ⟨?_, hb⟩
    rw [he]
    refine guess_nil (by constructor <;> first | exact i64_0 | exact i64_n _ (rn2 s _) | exact i64_n _ (Nat.lt_trans (rn1 s _) (by decide))) fun hg => ?_
    have ho : at0 s 0 = 84 := UInt8.toNat_inj.1 h84
    have hr := end_rel s hg
    rw [ho] at hr
    exact ⟨hr.1, hr.2.1⟩
  by_cases h66 : (at0 s 0).toNat = 66
  · refine (guessed_66 s w hs h66).mono fun e w' ⟨⟨a, c, he, hf⟩, hb⟩ => ⟨?_, hb⟩
    have ho : at0 s 0 = 66 := UInt8.toNat_inj.1 h66
    refine ⟨opR 66, ⟨a, rn s 1 1, c⟩, bt s (rn s 1 1) 2, he, ⟨i64_0, i64_0, i64_0, i64_0, i64_0, i64_0⟩, (bt_length _ _ _).symm, ?_, bt_small _ _ _, hf, fun hg => ?_⟩
    · rw [bt_length]; have := rn1 s 1; omega
    · have hr := end_rel s hg
      rw [ho] at hr
      exact ⟨hr.1.symm, hr.2.1.symm⟩
  · refine (guessed_none s w hs _ rfl ⟨h67, h88, h80, h86, h83, h82, h65, h69, h84, h66⟩).mono fun e w' ⟨he, hb⟩ => ⟨?_, hb⟩
    rw [he]
    refine guess_nil ⟨i64_0, i64_0, i64_0, i64_0, i64_0, i64_0⟩ fun hg => ?_
    obtain ⟨i, hi, hop⟩ := (isOp_at _).1 (end_rel s hg).2.2
    simp only [opsAt, List.mem_cons, List.not_mem_nil, or_false] at hi
    omega
end Go.Proofs.YtbdobaapadlcjaaDoor.Ref
