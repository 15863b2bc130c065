/-
  READING, by package wharfref's reader and by package wire's: where nothing fails they read the same.
-/
import Derived.Test.YtbdobaapadlcjaaDoorRfL1
import Derived.Test.YtbdobaapadlcjaaDoorBackK
namespace Go.Proofs.YtbdobaapadlcjaaDoor.Ref
set_option linter.unusedVariables false

/-- What is left from a place on. -/
def ext (s : ByteArray) (p : Nat) : ByteArray := s.extract p s.size
theorem ext_size (s : ByteArray) (p : Nat) (hp : p ≤ s.size) : (ext s p).size = s.size - p := by simp [ext]
theorem ext_list' (s : ByteArray) (p : Nat) : (ext s p).data.toList = s.data.toList.drop p := by
  rw [ext, Lib.extract_data]
  exact List.take_of_length_le (by simp)
theorem rt_list (s : ByteArray) (p n : Nat) (h : p + n ≤ s.size) : rt s p n = (s.data.toList.drop p).take n := by
  have hl : s.data.toList.length = s.size := rfl
  apply List.ext_getElem
  · rw [rt_length, List.length_take, List.length_drop]; omega
  · intro j h1 h2
    rw [rt_length] at h1
    rw [List.getElem_take, List.getElem_drop]
    simp only [rt, List.getElem_map, List.getElem_range, at0]
    rw [List.getD_eq_getElem?_getD, List.getElem?_eq_getElem (by omega)]
    rfl
theorem bad_no {s : ByteArray} {f : Bool} {n : Nat} (h : bad s f n = false) : f = false ∧ n ≤ s.size := by
  unfold bad at h
  split at h
  · exact ⟨h, by assumption⟩
  · cases h
theorem rd_num (s : ByteArray) (p n : Nat) (f : Bool) (hp : p ≤ s.size) (h : bad (ext s p) f n = false) : f = false ∧ tk (ext s p) n = ⟨(rt s p n).toArray⟩ ∧ nmN (ext s p) n = rn s p n ∧ lf (ext s p) n = ext s (p + n) ∧ p + n ≤ s.size := by
  obtain ⟨h1, h2⟩ := bad_no h
  rw [ext_size s p hp] at h2
  have hle : p + n ≤ s.size := by omega
  have ht : tk (ext s p) n = ⟨(rt s p n).toArray⟩ := by
    apply ext_list
    rw [tk, if_pos (by rw [ext_size s p hp]; exact h2), Lib.extract_data, ext_list', List.drop_zero, Nat.sub_zero, rt_list s p n hle]
  refine ⟨h1, ht, ?_, ?_, hle⟩
  · rw [nmN, ht, rn]
  · apply ext_list
    rw [lf, if_pos (by rw [ext_size s p hp]; exact h2), Lib.extract_data, ext_list', ext_list', List.drop_drop]
    rw [List.take_of_length_le (by rw [List.length_drop, ext_size s p hp]; show s.data.toList.length - _ ≤ _; have : s.data.toList.length = s.size := rfl; omega)]
theorem rd_txt (s : ByteArray) (p : Nat) (f : Bool) (hp : p ≤ s.size) (h : txF (ext s p) f = false) : f = false ∧ txS (ext s p) = rx s p ∧ txL (ext s p) = ext s (nx s p) ∧ nx s p ≤ s.size := by
  unfold txF at h
  have hb := (bad_no h).1
  obtain ⟨h1, _, h3, h4, h5⟩ := rd_num s p 1 f hp hb
  rw [h3, h4] at h
  obtain ⟨_, g2, _, g4, g5⟩ := rd_num s (p + 1) (rn s p 1) _ h5 h
  refine ⟨h1, ?_, ?_, g5⟩
  · rw [txS, h3, h4, g2]; rfl
  · rw [txL, h3, h4, g4]; rfl
theorem rdF_mono (k : Nat) (s : ByteArray) (f : Bool) (h : rdF (k + 1) s f = false) : rdF k s f = false := by
  rw [rdF] at h
  unfold txF at h
  exact (bad_no (bad_no h).1).1
theorem rd_txts (s : ByteArray) (p k : Nat) (f : Bool) (hp : p ≤ s.size) (h : rdF k (ext s p) f = false) : f = false ∧ rdT k (ext s p) = bt s k p ∧ rdS k (ext s p) = ext s (bp s k p) ∧ bp s k p ≤ s.size := by
  induction k with
  | zero => exact ⟨h, rfl, rfl, hp⟩
  | succ k ih =>
    obtain ⟨h1, h2, h3, h4⟩ := ih (rdF_mono k _ f h)
    rw [rdF, h3] at h
    obtain ⟨_, g2, g3, g4⟩ := rd_txt s (bp s k p) _ h4 h
    refine ⟨h1, ?_, ?_, g4⟩
    · rw [rdT, bt, h2, h3, g2]
    · rw [rdS, bp, h3, g3]
theorem at0_num (s : ByteArray) (p : Nat) : UInt8.ofNat (rn s p 1 % 256) = at0 s p := by
  have h : rn s p 1 = (at0 s p).toNat := by show leN [at0 s (p + 0)] = _; simp [leN]
  rw [h, Nat.mod_eq_of_lt (at0 s p).toNat_lt]
  exact UInt8.toNat_inj.1 (by simp)
def setP (r : Wp.Rq) (s : ByteArray) (p : Nat) (f : Nat) : Wp.Rq :=
  if f = 0 then { r with q := at0 s p } else if f = 1 then { r with d := at0 s p } else if f = 2 then { r with vis := (rn s p 2 : Nat) } else if f = 3 then { r with win := (rn s p 2 : Nat) } else if f = 4 then { r with rcv := (rn s p 1 : Nat) } else if f = 5 then { r with quo := (rn s p 1 : Nat) } else if f = 6 then { r with mx := (rn s p 1 : Nat) } else if f = 7 then { r with tic := (rn s p 2 : Nat) } else if f = 8 then { r with tic := (rn s p 2 : Nat) } else if f = 9 then { r with grp := rx s p } else if f = 10 then { r with ded := rx s p } else if f = 11 then { r with bod := rx s p } else if f = 12 then { r with att := rx s p } else if f = 13 then { r with han := rx s p } else r
def posP (s : ByteArray) (p : Nat) (f : Nat) : Nat := if Wp.shape f = 0 then p + 1 else if Wp.shape f = 1 then p + 1 else if Wp.shape f = 2 then p + 2 else if Wp.shape f = 3 then nx s p else bp s (rn s p 1) (p + 1)
theorem shapes (f : Nat) (hf : f < 15) : (Wp.shape f = 0 ∧ f < 2) ∨ (Wp.shape f = 1 ∧ (f = 4 ∨ f = 5 ∨ f = 6)) ∨ (Wp.shape f = 2 ∧ (f = 2 ∨ f = 3 ∨ f = 7 ∨ f = 8)) ∨ (Wp.shape f = 3 ∧ 9 ≤ f ∧ f < 14) ∨ (Wp.shape f = 4 ∧ f = 14) := by
  have : ∀ a : Fin 15, (Wp.shape a.val = 0 ∧ a.val < 2) ∨ (Wp.shape a.val = 1 ∧ (a.val = 4 ∨ a.val = 5 ∨ a.val = 6)) ∨ (Wp.shape a.val = 2 ∧ (a.val = 2 ∨ a.val = 3 ∨ a.val = 7 ∨ a.val = 8)) ∨ (Wp.shape a.val = 3 ∧ 9 ≤ a.val ∧ a.val < 14) ∨ (Wp.shape a.val = 4 ∧ a.val = 14) := by decide
  exact this ⟨f, hf⟩
theorem rdF_no (k : Nat) (s : ByteArray) (f : Bool) (h : rdF k s f = false) : f = false := by
  induction k with
  | zero => exact h
  | succ k ih => exact ih (rdF_mono k s f h)
theorem stF_no (s : ByteArray) (fl : Bool) (f : Nat) (h : stF s fl f = false) : fl = false := by
  unfold stF at h
  split at h
  · exact (bad_no h).1
  · split at h
    · exact (bad_no h).1
    · split at h
      · exact (bad_no h).1
      · split at h
        · unfold txF at h
          exact (bad_no (bad_no h).1).1
        · exact (bad_no (rdF_no _ _ _ h)).1
theorem run_no (L : List Nat) (t : St) (h : (L.foldl stepSt t).fl = false) : t.fl = false := by
  induction L generalizing t with
  | nil => exact h
  | cons f L ih => exact stF_no _ _ _ (ih _ h)
theorem step_rel (s : ByteArray) (t : St) (f : Nat) (hf : f < 15) (p : Nat) (hp : p ≤ s.size) (hs : t.s = ext s p) (h : (stepSt t f).fl = false) :
    (stepSt t f).r = setP t.r s p f ∧ (stepSt t f).s = ext s (posP s p f) ∧ posP s p f ≤ s.size ∧ (stepSt t f).bs = (if f = 14 then bt s (rn s p 1) (p + 1) else t.bs) := by
  have h' : stF t.s t.fl f = false := h
  show setR t.r t.s f = _ ∧ stS t.s f = _ ∧ _ ∧ (if f = 14 then rdT (nmN t.s 1) (lf t.s 1) else t.bs) = _
  rw [hs] at h' ⊢
  unfold stF at h'
  rcases shapes f hf with ⟨hsh, hr⟩ | ⟨hsh, hr⟩ | ⟨hsh, hr⟩ | ⟨hsh, hr⟩ | ⟨hsh, hr⟩
  · rw [if_pos hsh] at h'
    obtain ⟨_, _, h3, h4, h5⟩ := rd_num s p 1 _ hp h'
    refine ⟨?_, ?_, ?_, ?_⟩
    · have hx : f = 0 ∨ f = 1 := by omega
      rcases hx with rfl | rfl
      · simp [setR, setP, h3, at0_num]
      · simp [setR, setP, h3, at0_num]
    · rw [stS, if_pos hsh, posP, if_pos hsh]; exact h4
    · rw [posP, if_pos hsh]; exact h5
    · rw [if_neg (by omega), if_neg (by omega)]
  · have n0 : ¬ Wp.shape f = 0 := by omega
    rw [if_neg n0, if_pos hsh] at h'
    obtain ⟨_, _, h3, h4, h5⟩ := rd_num s p 1 _ hp h'
    refine ⟨?_, ?_, ?_, ?_⟩
    · rcases hr with rfl | rfl | rfl
      · simp [setR, setP, h3]
      · simp [setR, setP, h3]
      · simp [setR, setP, h3]
    · rw [stS, if_neg n0, if_pos hsh, posP, if_neg n0, if_pos hsh]; exact h4
    · rw [posP, if_neg n0, if_pos hsh]; exact h5
    · rw [if_neg (by omega), if_neg (by omega)]
  · have n0 : ¬ Wp.shape f = 0 := by omega
    have n1 : ¬ Wp.shape f = 1 := by omega
    rw [if_neg n0, if_neg n1, if_pos hsh] at h'
    obtain ⟨_, _, h3, h4, h5⟩ := rd_num s p 2 _ hp h'
    refine ⟨?_, ?_, ?_, ?_⟩
    · rcases hr with rfl | rfl | rfl | rfl
      · simp [setR, setP, h3]
      · simp [setR, setP, h3]
      · simp [setR, setP, h3]
      · simp [setR, setP, h3]
    · rw [stS, if_neg n0, if_neg n1, if_pos hsh, posP, if_neg n0, if_neg n1, if_pos hsh]; exact h4
    · rw [posP, if_neg n0, if_neg n1, if_pos hsh]; exact h5
    · rw [if_neg (by omega), if_neg (by omega)]
  · have n0 : ¬ Wp.shape f = 0 := by omega
    have n1 : ¬ Wp.shape f = 1 := by omega
    have n2 : ¬ Wp.shape f = 2 := by omega
    rw [if_neg n0, if_neg n1, if_neg n2, if_pos hsh] at h'
    obtain ⟨_, h3, h4, h5⟩ := rd_txt s p _ hp h'
    refine ⟨?_, ?_, ?_, ?_⟩
    · have hx : f = 9 ∨ f = 10 ∨ f = 11 ∨ f = 12 ∨ f = 13 := by omega
      rcases hx with rfl | rfl | rfl | rfl | rfl
      · simp [setR, setP, h3]
      · simp [setR, setP, h3]
      · simp [setR, setP, h3]
      · simp [setR, setP, h3]
      · simp [setR, setP, h3]
    · rw [stS, if_neg n0, if_neg n1, if_neg n2, if_pos hsh, posP, if_neg n0, if_neg n1, if_neg n2, if_pos hsh]; exact h4
    · rw [posP, if_neg n0, if_neg n1, if_neg n2, if_pos hsh]; exact h5
    · rw [if_neg (by omega), if_neg (by omega)]
  · obtain rfl := hr
    have n0 : ¬ Wp.shape 14 = 0 := by decide
    have n1 : ¬ Wp.shape 14 = 1 := by decide
    have n2 : ¬ Wp.shape 14 = 2 := by decide
    have n3 : ¬ Wp.shape 14 = 3 := by decide
    rw [if_neg n0, if_neg n1, if_neg n2, if_neg n3] at h'
    have hb := rdF_no _ _ _ h'
    obtain ⟨_, _, h3, h4, h5⟩ := rd_num s p 1 _ hp hb
    rw [h3, h4] at h'
    obtain ⟨_, g2, g3, g4⟩ := rd_txts s (p + 1) (rn s p 1) _ h5 h'
    refine ⟨by simp [setR, setP], ?_, ?_, ?_⟩
    · rw [stS, if_neg n0, if_neg n1, if_neg n2, if_neg n3, posP, if_neg n0, if_neg n1, if_neg n2, if_neg n3, h3, h4]; exact g3
    · rw [posP, if_neg n0, if_neg n1, if_neg n2, if_neg n3]; exact g4
    · rw [if_pos rfl, if_pos rfl, h3, h4]; exact g2
def runP (s : ByteArray) : List Nat → Wp.Rq → Nat → List ByteArray → Wp.Rq × List ByteArray
  | [], r, _, bs => (r, bs)
  | f :: L, r, p, bs => runP s L (setP r s p f) (posP s p f) (if f = 14 then bt s (rn s p 1) (p + 1) else bs)
theorem run_rel (s : ByteArray) (L : List Nat) (t : St) (p : Nat) (hL : ∀ f ∈ L, f < 15) (hp : p ≤ s.size) (hs : t.s = ext s p) (h : (L.foldl stepSt t).fl = false) :
    (L.foldl stepSt t).r = (runP s L t.r p t.bs).1 ∧ (L.foldl stepSt t).bs = (runP s L t.r p t.bs).2 := by
  induction L generalizing t p with
  | nil => exact ⟨rfl, rfl⟩
  | cons f L ih =>
    obtain ⟨h1, h2, h3, h4⟩ := step_rel s t f (hL f List.mem_cons_self) p hp hs (run_no L _ h)
    have := ih (stepSt t f) (posP s p f) (fun g hg => hL g (List.mem_cons_of_mem _ hg)) h3 h2 h
    rw [h1, h4] at this
    exact this
theorem end_rel (s : ByteArray) (hg : parseGood s = true) : (endSt s).r = (runP s (Wp.lay ((at0 s 0).toNat - 65)) (opR (at0 s 0)) 1 []).1 ∧ (endSt s).bs = (runP s (Wp.lay ((at0 s 0).toNat - 65)) (opR (at0 s 0)) 1 []).2 ∧ Wp.isOp (at0 s 0) = true := by
  unfold parseGood at hg
  simp only [Bool.and_eq_true, Bool.not_eq_true'] at hg
  obtain ⟨hop, hfl, _, _⟩ := hg
  have h0 : bad s false 1 = false := run_no _ _ hfl
  have hs : s = ext s 0 := ext_list (by rw [ext_list', List.drop_zero])
  have h0' : bad (ext s 0) false 1 = false := by rw [← hs]; exact h0
  obtain ⟨_, _, h3, h4, h5⟩ := rd_num s 0 1 false (Nat.zero_le _) h0'
  rw [← hs] at h3 h4
  have ho : opOf s = at0 s 0 := by rw [opOf, h3, at0_num]
  have hlay : ∀ f ∈ Wp.lay ((opOf s).toNat - 65), f < 15 := by
    obtain ⟨i, hi, he⟩ := (isOp_at _).1 hop
    rw [he, Nat.add_sub_cancel_left]
    exact lay_fields i hi
  have := run_rel s (Wp.lay ((opOf s).toNat - 65)) ⟨opR (opOf s), lf s 1, bad s false 1, []⟩ 1 hlay (by omega) h4 hfl
  rw [ho] at this hop
  exact ⟨by rw [endSt, runSt, ho]; exact this.1, by rw [endSt, runSt, ho]; exact this.2, hop⟩
end Go.Proofs.YtbdobaapadlcjaaDoor.Ref
