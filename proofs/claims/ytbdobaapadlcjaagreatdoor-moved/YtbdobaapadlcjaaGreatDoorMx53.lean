/-
  THE WALK of Moved (8).
-/
import Derived.Test.YtbdobaapadlcjaaGreatDoorMx52
import Derived.BigQuiet
import Derived.Laws.Concat
import Derived.Deep.CutBlock
namespace Go.Proofs.YtbdobaapadlcjaaGreatDoor
open Go.RowKit
set_option linter.unusedVariables false
set_option linter.unusedSimpArgs false

/-- What the queues have behind i rounds. -/
def cAt (ma ro : Nat) (ts : List ByteArray) (i : Nat) : Nat → Option QM :=
  if i = ma + 1 ∧ ts.length ≤ ro + 1 then c2 (gQ (cfA (1 + (ma : Int))) (ts.length + 1) 0 [] 0 0) (gQ (cfB (1 + (ro : Int))) (ts.length + 1) 0 ts 0 0)
  else c2 (gQ (cfA (1 + (ma : Int))) (ts.length + 1) 0 ts (i : Int) 0) (gQ (cfB (1 + (ro : Int))) 1 0 [] 0 0)
theorem cAt_stay (ma ro : Nat) (ts : List ByteArray) (i : Nat) (h : i < ma + 1) : cAt ma ro ts i = c2 (gQ (cfA (1 + (ma : Int))) (ts.length + 1) 0 ts (i : Int) 0) (gQ (cfB (1 + (ro : Int))) 1 0 [] 0 0) := if_neg (by omega)
theorem cAt_next (ma ro : Nat) (hma : ma < 9) (ts : List ByteArray) (hne : 0 < ts.length) (hl : ts.length ≤ 20) (i : Nat) (h : i < ma + 1) (tl now : Int) (ht : 0 < tl ∧ tl ≤ now) :
    timeC now (c2 (gQ (cfA (1 + (ma : Int))) (ts.length + 1) 0 ts ((i + 1 : Nat) : Int) tl) (gQ (cfB (1 + (ro : Int))) 1 0 [] 0 0)) = cAt ma ro ts (i + 1) := by
  obtain ⟨t, r, rfl⟩ : ∃ t r, ts = t :: r := by
    cases ts with
    | nil => simp at hne
    | cons t r => exact ⟨t, r, rfl⟩
  rw [time_back now (cfA (1 + (ma : Int))) (cfB (1 + (ro : Int))) rfl 0 t r _ tl ht]
  have hup : upQ (cfA (1 + (ma : Int))) ((i + 1 : Nat) : Int) = true ↔ i + 1 = ma + 1 := by
    unfold upQ
    rw [Bool.and_eq_true, decide_eq_true_eq, decide_eq_true_eq]
    show (0 : Int) < 1 + (ma : Int) ∧ 1 + (ma : Int) ≤ ((i + 1 : Nat) : Int) ↔ _
    omega
  have hqu : (((t :: r).length : Nat) : Int) ≤ (cfB (1 + (ro : Int))).quo ↔ (t :: r).length ≤ ro + 1 := by
    show (((t :: r).length : Nat) : Int) ≤ 1 + (ro : Int) ↔ _
    omega
  unfold cAt
  by_cases hc : i + 1 = ma + 1 ∧ (t :: r).length ≤ ro + 1
  · rw [if_pos hc, if_pos ⟨hup.2 hc.1, hqu.2 hc.2, by omega⟩]
  · rw [if_neg hc, if_neg (fun hh => hc ⟨hup.1 hh.1, hqu.1 hh.2.1⟩)]

theorem mv_row {B : Nat} {w0 w : World} {x st b : Nat} {now : Int} {c : Nat → Option QM} {ts : List ByteArray} {sv : Value} (h : MV B w0 w x st b now c ts sv) (hp : 0 < ts.length) : ∃ g cp, sv = .slice (some ⟨g, 0, none⟩) ts.length cp ∧ g < w.heap.size := by
  rcases h.row.2 with ⟨_, h0⟩ | ⟨g, cap, cur, h0, _, hg, _⟩
  · omega
  · exact ⟨_, _, h0, lt_of_block hg⟩
theorem mv_cell {B : Nat} {w0 w : World} {x st b : Nat} {now : Int} {c : Nat → Option QM} {ts : List ByteArray} {g cp : Nat} (h : MV B w0 w x st b now c ts (.slice (some ⟨g, 0, none⟩) ts.length cp)) (j : Nat) (hj : j < ts.length) : w.cell? ⟨g, j, none⟩ = some (.string ts[j]) := by
  have h2 := World.ownsRow.cells h.row (g := g) rfl j (.string ts[j]) (by simp [hj])
  rw [add_zero_at] at h2
  exact h2

set_option maxRecDepth 8000 in
set_option maxHeartbeats 8000000 in
theorem moved_walk (B : Nat) (ga : Option Addr) (gc : Nat) (ss : List ByteArray) (rv qv : Int) (w : World) (hE : Env B w) (hBe : B = w.heap.size) (hrv : i64 rv) (hqv : i64 qv) (hsz : ∀ s ∈ ss, s.size ≤ maxLen) (hln : ss.length ≤ maxLen)
    (hga : 0 < ss.length → ∃ g o, ga = some ⟨g, o, none⟩ ∧ g < B ∧ ∀ j (hj : j < ss.length), w.cell? ⟨g, o + j, none⟩ = some (.string ss[j])) :
    Calls Tryz.prog 8 #[.slice ga ss.length gc, .int .i64 rv, .int .i64 qv] w fun e w' => e = .returned (.bool true) ∧ Below B w w' := by
  have HP1 : Hid (∀ W, Calls Tryz.prog 14 #[.int .i64 rv, .int .i64 9] W fun e w' => e = .returned (.int .i64 (pk rv 9)) ∧ w' = W) := fun W => pick_any rv 9 W hrv.1 hrv.2 (by decide) (by decide)
  have HP2 : Hid (∀ W, Calls Tryz.prog 14 #[.int .i64 qv, .int .i64 12] W fun e w' => e = .returned (.int .i64 (pk qv 12)) ∧ w' = W) := fun W => pick_any qv 12 W hqv.1 hqv.2 (by decide) (by decide)
  have h1 := pk_nonneg rv 9 (by decide)
  have h2 := pk_lt rv 9 (by decide)
  have h3 := pk_nonneg qv 12 (by decide)
  have h4 := pk_lt qv 12 (by decide)
  obtain ⟨ma, hma⟩ : ∃ m : Nat, pk rv 9 = (m : Int) := ⟨(pk rv 9).toNat, (Int.toNat_of_nonneg h1).symm⟩
  obtain ⟨ro, hro⟩ : ∃ m : Nat, pk qv 12 = (m : Int) := ⟨(pk qv 12).toNat, (Int.toNat_of_nonneg h3).symm⟩
  rw [hma] at h1 h2 HP1
  rw [hro] at h3 h4 HP2
  have HOP : Hid (Calls Tryz.prog 24 #[] w fun e w' => ∃ x st b, e = .returned (.tuple #[.pointer (some ⟨x, 0, none⟩), .pointer (some ⟨B, 0, none⟩)]) ∧ MV B w w' x st b 0 (fun _ => none) [] (.slice none 0 0)) := by
    refine (opened_any w).mono ?_
    rintro e w' ⟨x, st, b, j, d, rfl, hb, ho, rfl⟩
    rw [← hBe] at ho hb
    exact ⟨x, st, b, by rw [hBe], ⟨⟨fun _ => 9, ho.bk (by omega) _, fun k hk => rfl⟩, World.ownsRow_nil _ _ _ _, fun k hk => by simp [Value.ownBlock] at hk, hE.tch (Tch.of_below (by rw [← hBe]; exact hb)) (by simp), hb⟩⟩
  have HC1 : Hid (∀ W x st b, MV B w W x st b 0 (fun _ => none) [] (.slice none 0 0) → Calls Tryz.prog 25 #[.pointer (some ⟨x, 0, none⟩), .agg #[.int .u8 67, .int .u8 97, .int .u8 98, .int .i64 5, .int .i64 0, .int .i64 (1 + (ma : Int)), .int .i64 20, .int .i64 0, .int .i64 0, .string ⟨#[]⟩, .string ⟨#[]⟩, .string ⟨#[]⟩, .string ⟨#[]⟩, .string ⟨#[]⟩, .slice none 0 0]] W fun e w' => e = .returned (.bool true) ∧ MV B w w' x st b 0 (setC (fun _ => none) 0 (some (newM (cfA (1 + (ma : Int)))))) [] (.slice none 0 0)) := fun W x st b h => by
    obtain ⟨col, hb, h9⟩ := h.bk
    obtain ⟨hr, hcf⟩ := cfA_ok (1 + (ma : Int)) ⟨by omega, by omega⟩
    exact (create_g B (cfA (1 + (ma : Int))) x st b 0 0 _ col W h.env hb hr rfl (by decide) rfl hcf rfl).mono fun e w' ⟨he, hd⟩ => ⟨he, h.did h9 hd⟩
  have HC2 : Hid (∀ W x st b, MV B w W x st b 0 (setC (fun _ => none) 0 (some (newM (cfA (1 + (ma : Int)))))) [] (.slice none 0 0) → Calls Tryz.prog 25 #[.pointer (some ⟨x, 0, none⟩), .agg #[.int .u8 67, .int .u8 98, .int .u8 45, .int .i64 5, .int .i64 0, .int .i64 0, .int .i64 (1 + (ro : Int)), .int .i64 0, .int .i64 0, .string ⟨#[]⟩, .string ⟨#[]⟩, .string ⟨#[]⟩, .string ⟨#[]⟩, .string ⟨#[]⟩, .slice none 0 0]] W fun e w' => e = .returned (.bool true) ∧ MV B w w' x st b 0 (c2 (gQ (cfA (1 + (ma : Int))) 1 0 [] 0 0) (gQ (cfB (1 + (ro : Int))) 1 0 [] 0 0)) [] (.slice none 0 0)) := fun W x st b h => by
    obtain ⟨col, hb, h9⟩ := h.bk
    obtain ⟨hr, hcf⟩ := cfB_ok (1 + (ro : Int)) ⟨by omega, by omega⟩
    exact (create_g B (cfB (1 + (ro : Int))) x st b 1 0 _ col W h.env hb hr rfl (by decide) rfl hcf rfl).mono fun e w' ⟨he, hd⟩ => ⟨he, h.did h9 hd⟩
  have HGA : Hid (0 < ss.length → ∃ g o, ga = some ⟨g, o, none⟩ ∧ g < B ∧ ∀ j (hj : j < ss.length), w.cell? ⟨g, o + j, none⟩ = some (.string ss[j])) := hga
  have HSZ : Hid (∀ s ∈ ss, s.size ≤ maxLen) := hsz
  have hBB : B ≤ w.heap.size := by omega
  clear hrv hqv hma hro hE hga hsz hBe
  go_enter Tryz.func8, Tryz.ntmps8
  go_wp2_with fail
  refine HOP.out.mono ?_
  rintro e w1 ⟨x, st, b, rfl, hM1⟩
  have HM1 : Hid (MV B w w1 x st b 0 (fun _ => none) [] (.slice none 0 0)) := hM1
  clear hM1 HOP
  go_wp2_with fail
  refine (HP1.out _).mono ?_
  rintro e w' ⟨rfl, rfl⟩
  clear HP1
  go_wp2_with fail
  refine (HP2.out _).mono ?_
  rintro e w' ⟨rfl, rfl⟩
  clear HP2
  go_wp2_with fail
  refine (HC1.out _ x st b HM1.out).mono ?_
  rintro e w2 ⟨rfl, hM2⟩
  have HM2 : Hid (MV B w w2 x st b 0 (setC (fun _ => none) 0 (some (newM (cfA (1 + (ma : Int)))))) [] (.slice none 0 0)) := hM2
  clear hM2 HM1 HC1
  go_wp2_with fail
  refine (HC2.out _ x st b HM2.out).mono ?_
  rintro e w3 ⟨rfl, hM3⟩
  have HM3 : Hid (MV B w w3 x st b 0 (c2 (gQ (cfA (1 + (ma : Int))) 1 0 [] 0 0) (gQ (cfB (1 + (ro : Int))) 1 0 [] 0 0)) [] (.slice none 0 0)) := hM3
  clear hM3 HM2 HC2
  go_upto_block 0 with fail
  go_cut [13] (fun s wx => ∃ (ts : List ByteArray) (sa : Option Addr) (sc : Nat), ts.length ≤ 12 ∧ s = .slice sa ts.length sc ∧ MV B w wx x st b 0 (c2 (gQ (cfA (1 + (ma : Int))) (ts.length + 1) 0 ts 0 0) (gQ (cfB (1 + (ro : Int))) 1 0 [] 0 0)) ts s)
  case first =>
    go_wp2_with fail
    go_loopw [13, 14] (fun s v wr => ∃ (k : Nat) (ts : List ByteArray) (sa : Option Addr) (sc : Nat), v = .int .i64 (k : Int) ∧ k ≤ ss.length ∧ k ≤ 12 ∧ ts.length = k ∧ s = .slice sa ts.length sc ∧ MV B w wr x st b 0 (c2 (gQ (cfA (1 + (ma : Int))) (ts.length + 1) 0 ts 0 0) (gQ (cfB (1 + (ro : Int))) 1 0 [] 0 0)) ts s) (fun _ v _ => 12 - (intOf v).toNat)
    case atStart => exact ⟨0, [], none, 0, rfl, Nat.zero_le _, by decide, rfl, rfl, HM3.out⟩
    case round =>
      obtain ⟨k, ts, sa, sc, rfl, hk1, hk2, hkt, rfl, hM⟩ := hrel
      have HM : Hid (MV B w wr x st b 0 (c2 (gQ (cfA (1 + (ma : Int))) (ts.length + 1) 0 ts 0 0) (gQ (cfB (1 + (ro : Int))) 1 0 [] 0 0)) ts (.slice sa ts.length sc)) := hM
      clear hM HM3
      subst hkt
      by_cases hlt : ts.length < ss.length
      · by_cases hlt2 : ts.length < 12
        · have HLW : Hid (∀ W, Calls Tryz.prog 19 #[.int .i64 (ts.length : Int), .int .i64 1] W fun e w' => e = .returned (.string ⟨(lowB ts.length 1).toArray⟩) ∧ Below W.heap.size W w') := fun W => low_any ts.length 1 W (by omega) (by decide) (by decide)
          obtain ⟨g, o, rfl, hg, hcs⟩ := HGA.out (by omega)
          have zw := HM.out.bel.size
          have c0 : wr.cell? ⟨g, o + ts.length, none⟩ = some (.string ss[ts.length]) := by
            rw [HM.out.bel.cell (p := ⟨g, o + ts.length, none⟩) hg]
            exact hcs ts.length hlt
          have gl : g < wr.heap.size := by omega
          have HSH : Hid (∀ W, Calls Tryz.prog 15 #[.string ss[ts.length], .int .i64 39] W fun e w' => e = .returned (.string (Keep.sh ss[ts.length] 39)) ∧ w' = W) := fun W => Keep.short_any ss[ts.length] 39 W (HSZ.out _ (List.getElem_mem hlt)) (by decide)
          have hs1 : (⟨(lowB ts.length 1).toArray⟩ : ByteArray).size = 1 := by show (lowB ts.length 1).toArray.size = 1; simp [lowB_length]
          have hs2 := Keep.sh_size ss[ts.length] 39
          have hadd : ∀ W, (Op.stringOp .add ⟨(lowB ts.length 1).toArray⟩ (Keep.sh ss[ts.length] 39)).run Tryz.prog W = .ok (.string (⟨(lowB ts.length 1).toArray⟩ ++ Keep.sh ss[ts.length] 39)) W := fun W => run_string_add_sum W _ _ (by omega)
          clear hcs
          generalize (⟨(lowB ts.length 1).toArray⟩ : ByteArray) = lo at *
          generalize Keep.sh ss[ts.length] 39 = sb at *
          generalize ss[ts.length] = sk at *
          go_wp2_with fail
          go_region_held3 (fun w' => w'.cell? ⟨g, o + ts.length, none⟩ = some (.string sk)) (go_keep) (first | (go_at_call 19; refine (HLW.out _).mono ?_; rintro e w4 ⟨rfl, hb4⟩; have k0 : w4.cell? ⟨g, o + ts.length, none⟩ = some (.string sk) := (hb4.cell (p := ⟨g, o + ts.length, none⟩) gl).trans c0) | (go_at_call 15; refine (HSH.out _).mono ?_; rintro e w5 ⟨rfl, h5⟩; have h6 := h5.symm; subst h6))
          have hM4 : MV B w w4 x st b 0 (c2 (gQ (cfA (1 + (ma : Int))) (ts.length + 1) 0 ts 0 0) (gQ (cfB (1 + (ro : Int))) 1 0 [] 0 0)) ts (.slice sa ts.length sc) := HM.out.tch ((Tch.refl [] wr).drew.trans (Tch.of_below hb4) (by simp))
          have hsz4 : (lo ++ sb).size ≤ 40 := by rw [dat_app]; omega
          generalize lo ++ sb = tt at *
          have HS4 : Hid (Calls Tryz.prog 18 _ w4 _) := mv_S B w w4 x st b (cfA (1 + (ma : Int))) (cfB (1 + (ro : Int))) rfl rfl _ ts (.slice sa ts.length sc) tt hsz4 (by omega) hM4
          clear hM4 hb4 HM k0 c0 HLW HSH hadd
          go_wp2_with fail
          refine HS4.out.mono ?_
          rintro e w5 ⟨rfl, hM5⟩
          have HM5 : Hid (MV B w w5 x st b 0 (c2 (gQ (cfA (1 + (ma : Int))) ((ts ++ [tt]).length + 1) 0 (ts ++ [tt]) 0 0) (gQ (cfB (1 + (ro : Int))) 1 0 [] 0 0)) ts (.slice sa ts.length sc)) := hM5
          have hl5 : (okL (lowB (ts.length + 1) 4)).size = 5 := by show (0 :: lowB (ts.length + 1) 4).toArray.size = 5; simp [lowB_length]
          clear hM5 HS4
          generalize okL (lowB (ts.length + 1) 4) = an at *
          go_wp2_with (at_builtin; refine wpList_valsD 0 _ rfl _ _ 25 9 rfl Tryz.underlying25 (.string ⟨#[]⟩) 1 16 info9 rfl (by decide) (by decide) (.slice sa ts.length sc) ts.length (ts.map Value.string) ?hvs ?hvo ?hvb w5.heap.size [.string tt] 1 ?hvx rfl (by decide) ?hvg ?hv1 (by omega) ?hvk)
          case hvs => simp [Act.eval, Act.put]
          case hvo => exact own_tch HM5.out.row ((Tch.refl [] _).alloc _) (fun _ _ => by simp)
          case hvb => omega
          case hvx => simp [Act.eval, Act.put]
          case hvg => exact heap_alloc_new _ _
          case hv1 => intro u hu; simp at hu; subst hu; rfl
          intro v2 w6 ho6 hg6 hb6
          have HM6 : Hid (MV B w w6 x st b 0 (c2 (gQ (cfA (1 + (ma : Int))) ((ts ++ [tt]).length + 1) 0 (ts ++ [tt]) 0 0) (gQ (cfB (1 + (ro : Int))) 1 0 [] 0 0)) (ts ++ [tt]) v2) := by
            refine HM5.out.put ?_ ?_ (fun k hk => ?_)
            · have t1 : Tch [] w5 (w5.alloc (.cells #[.string tt] 9)) := (Tch.refl _ _).alloc _
              exact (t1.sub (by simp)).trans (grown_tch hg6) (fun x hx _ => hx)
            · simpa using ho6
            · rcases hb6 with h6 | h6
              · exact .inl (h6.symm.trans hk)
              · rw [hk] at h6
                injection h6 with h6
                exact .inr (by omega)
          obtain ⟨sa2, sc2, hv2⟩ := own_shape' HM6.out.row
          subst hv2
          clear ho6 hg6 hb6 HM5
          go_wp2_with fail
          go_roundw
          case rel => exact ⟨(ts ++ [tt]).length, ts ++ [tt], sa2, sc2, by simp, by simp; omega, by simp; omega, rfl, rfl, HM6.out⟩
          case measure => simp [intOf]; omega
        · go_wp2_with fail
          go_meet
          exact ⟨ts, sa, sc, by omega, rfl, HM.out⟩
      · go_wp2_with fail
        go_meet
        exact ⟨ts, sa, sc, by omega, rfl, HM.out⟩
  case rest =>
    obtain ⟨ts, sa, sc, hl12, rfl, hM⟩ := hcut
    generalize wc = w4 at *
    have HM4 : Hid (MV B w w4 x st b 0 (c2 (gQ (cfA (1 + (ma : Int))) (ts.length + 1) 0 ts 0 0) (gQ (cfB (1 + (ro : Int))) 1 0 [] 0 0)) ts (.slice sa ts.length sc)) := hM
    have hbo1 : (1 : Int) + (ma : Int) ≤ 9 := by omega
    clear hM HM3
    by_cases hts : ts.length = 0
    · have hte : ts = [] := List.length_eq_zero_iff.1 hts
      subst hte
      have hz : ([] : List ByteArray).length = 0 := rfl
      rw [hz] at HM4
      try rw [hz]
      clear hts hl12
      obtain ⟨C0, HC0⟩ : ∃ C0, Hid (C0 = c2 (gQ (cfA (1 + (ma : Int))) 1 0 [] 0 0) (gQ (cfB (1 + (ro : Int))) 1 0 [] 0 0)) := ⟨_, rfl⟩
      have HMV : Hid (MV B w w4 x st b (((5 * 0 : Nat)) : Int) C0 [] (.slice sa 0 sc)) := by
        rw [HC0.out]
        exact HM4.out
      have HR : Hid (∀ W (now : Int), MV B w W x st b now C0 [] (.slice sa 0 sc) → Calls Tryz.prog 22 #[.pointer (some ⟨x, 0, none⟩), .int .u8 97, .string ⟨#[]⟩, .int .i64 1] W fun e w' => ∃ a cp, e = .returned (.tuple #[.slice a 0 cp, .bool true]) ∧ MV B w w' x st b now C0 [] (.slice sa 0 sc)) := fun W now h => mv_R0 B w W 97 x st b 0 (by decide) rfl now C0 (cfA (1 + (ma : Int))) 1 0 0 [] (.slice sa 0 sc) (by rw [HC0.out]; rfl) h
      have HTT : Hid (∀ W (i : Nat), i ≤ 9 → MV B w W x st b (((5 * i : Nat)) : Int) C0 [] (.slice sa 0 sc) → Calls Tryz.prog 18 #[.pointer (some ⟨x, 0, none⟩), .agg #[.int .u8 84, .int .u8 0, .int .u8 0, .int .i64 0, .int .i64 0, .int .i64 0, .int .i64 0, .int .i64 0, .int .i64 5, .string ⟨#[]⟩, .string ⟨#[]⟩, .string ⟨#[]⟩, .string ⟨#[]⟩, .string ⟨#[]⟩, .slice none 0 0]] W fun e w' => e = .returned (.string ⟨#[0]⟩) ∧ MV B w w' x st b (((5 * (i + 1) : Nat)) : Int) C0 [] (.slice sa 0 sc)) := fun W i hi h => by
        have h1 := mv_T B w W x st b _ C0 [] (.slice sa 0 sc) (by omega) h
        have e1 : (((5 * i : Nat)) : Int) + 5 = (((5 * (i + 1) : Nat)) : Int) := by omega
        rw [e1, HC0.out, time_still, ← HC0.out] at h1
        exact h1
      clear HM4 HGA HSZ HC0
      go_wp2_with fail
      go_loopw [18] (fun v wr => ∃ i : Nat, v = .int .i64 (i : Int) ∧ i ≤ ma + 1 ∧ MV B w wr x st b (((5 * i : Nat)) : Int) C0 [] (.slice sa 0 sc)) (fun v _ => ma + 1 - (intOf v).toNat)
      case atStart => exact ⟨0, rfl, Nat.zero_le _, HMV.out⟩
      case round =>
        obtain ⟨i, rfl, hi, hM⟩ := hrel
        have HM : Hid (MV B w wr x st b (((5 * i : Nat)) : Int) C0 [] (.slice sa 0 sc)) := hM
        clear hM HMV
        by_cases hlt : i < ma + 1
        · have hlt' : (i : Int) < 1 + (ma : Int) := by omega
          have HR1 : Hid (Calls Tryz.prog 22 _ wr _) := HR.out wr _ HM.out
          go_wp2_with fail
          refine HR1.out.mono ?_
          rintro e w5 ⟨a5, cp5, rfl, hM5⟩
          have HT5 : Hid (Calls Tryz.prog 18 _ w5 _) := HTT.out w5 i (by omega) hM5
          clear hM5 HR1 HM
          go_wp2_with fail
          refine HT5.out.mono ?_
          rintro e w6 ⟨rfl, hM6⟩
          have HM6 : Hid (MV B w w6 x st b (((5 * (i + 1) : Nat)) : Int) C0 [] (.slice sa 0 sc)) := hM6
          clear hM6 HT5
          go_wp2_with fail
          go_roundw
          case rel => exact ⟨i + 1, by go_num, by omega, HM6.out⟩
          case measure => simp [intOf]; omega
        · have hlt' : ¬ (i : Int) < 1 + (ma : Int) := by omega
          have HR1 : Hid (Calls Tryz.prog 22 _ wr _) := HR.out wr _ HM.out
          clear HTT HR HM
          go_wp2_with fail
          refine HR1.out.mono ?_
          rintro e w5 ⟨a5, cp5, rfl, hM5⟩
          have HB5 : Hid (Below B w w5) := hM5.bel
          clear hM5 HR1
          go_wp2_with fail
          refine wp_loop_rounds 1 ?_
          rw [rounds_succ]
          go_wp2_with fail
          go_ret
          exact ⟨rfl, HB5.out⟩
    · have hpos : 0 < ts.length := by omega
      obtain ⟨gs, cps, hsv, lgs⟩ := mv_row HM4.out hpos
      simp only [Value.slice.injEq, true_and] at hsv
      obtain ⟨rfl, rfl⟩ := hsv
      clear hts
      obtain ⟨t0, r0, HTS⟩ : ∃ t r, Hid (ts = t :: r) := by
        cases ts with
        | nil => simp at hpos
        | cons t r => exact ⟨t, r, rfl⟩
      have HMV : Hid (MV B w w4 x st b (((5 * 0 : Nat)) : Int) (cAt ma ro ts 0) ts (.slice (some ⟨gs, 0, none⟩) ts.length sc)) := by
        rw [cAt_stay ma ro ts 0 (by omega)]
        exact HM4.out
      have HR : Hid (∀ W (now : Int) (i : Nat), i ≤ 9 → MV B w W x st b now (c2 (gQ (cfA (1 + (ma : Int))) (ts.length + 1) 0 ts (i : Int) 0) (gQ (cfB (1 + (ro : Int))) 1 0 [] 0 0)) ts (.slice (some ⟨gs, 0, none⟩) ts.length sc) → Calls Tryz.prog 22 #[.pointer (some ⟨x, 0, none⟩), .int .u8 97, .string ⟨#[]⟩, .int .i64 1] W fun e w' => ∃ g cp, e = .returned (.tuple #[.slice (some ⟨g, 0, none⟩) 1 cp, .bool true]) ∧ w'.cell? ⟨g, 2, none⟩ = some (.string t0) ∧ MV B w w' x st b now (c2 (gQ (cfA (1 + (ma : Int))) (ts.length + 1) 0 ts ((i + 1 : Nat) : Int) (now + 5)) (gQ (cfB (1 + (ro : Int))) 1 0 [] 0 0)) ts (.slice (some ⟨gs, 0, none⟩) ts.length sc)) := fun W now i hi h => by
        have h1 := mv_R B w W 97 x st b 0 (by decide) rfl now _ (cfA (1 + (ma : Int))) (ts.length + 1) 0 i (by omega) rfl t0 r0 ts _ (by rw [c2_0, ← HTS.out]) h
        refine h1.mono ?_
        rintro e w' ⟨g, cp, he, k0, k1, k2, hm⟩
        rw [set_c2_0, ← HTS.out] at hm
        exact ⟨g, cp, he, k2, hm⟩
      have HTT : Hid (∀ W (i : Nat), i < ma + 1 → MV B w W x st b (((5 * i : Nat)) : Int) (c2 (gQ (cfA (1 + (ma : Int))) (ts.length + 1) 0 ts ((i + 1 : Nat) : Int) ((((5 * i : Nat)) : Int) + 5)) (gQ (cfB (1 + (ro : Int))) 1 0 [] 0 0)) ts (.slice (some ⟨gs, 0, none⟩) ts.length sc) → Calls Tryz.prog 18 #[.pointer (some ⟨x, 0, none⟩), .agg #[.int .u8 84, .int .u8 0, .int .u8 0, .int .i64 0, .int .i64 0, .int .i64 0, .int .i64 0, .int .i64 0, .int .i64 5, .string ⟨#[]⟩, .string ⟨#[]⟩, .string ⟨#[]⟩, .string ⟨#[]⟩, .string ⟨#[]⟩, .slice none 0 0]] W fun e w' => e = .returned (.string ⟨#[0]⟩) ∧ MV B w w' x st b (((5 * (i + 1) : Nat)) : Int) (cAt ma ro ts (i + 1)) ts (.slice (some ⟨gs, 0, none⟩) ts.length sc)) := fun W i hi h => by
        have h1 := mv_T B w W x st b _ _ ts (.slice (some ⟨gs, 0, none⟩) ts.length sc) (by omega) h
        rw [cAt_next ma ro (by omega) ts hpos (by omega) i hi _ _ ⟨by omega, by omega⟩] at h1
        have e1 : (((5 * i : Nat)) : Int) + 5 = (((5 * (i + 1) : Nat)) : Int) := by omega
        rw [e1] at h1
        exact h1
      clear HM4 HGA HSZ
      go_wp2_with fail
      go_loopw [18] (fun v wr => ∃ i : Nat, v = .int .i64 (i : Int) ∧ i ≤ ma + 1 ∧ MV B w wr x st b (((5 * i : Nat)) : Int) (cAt ma ro ts i) ts (.slice (some ⟨gs, 0, none⟩) ts.length sc)) (fun v _ => ma + 1 - (intOf v).toNat)
      case atStart => exact ⟨0, rfl, Nat.zero_le _, HMV.out⟩
      case round =>
        obtain ⟨i, rfl, hi, hM⟩ := hrel
        clear HMV
        by_cases hlt : i < ma + 1
        · have hlt' : (i : Int) < 1 + (ma : Int) := by omega
          rw [cAt_stay ma ro ts i hlt] at hM
          have HR1 : Hid (Calls Tryz.prog 22 _ wr _) := HR.out wr _ i (by omega) hM
          clear hM
          go_wp2_with fail
          refine HR1.out.mono ?_
          rintro e w5 ⟨g5, cp5, rfl, _, hM5⟩
          have HT5 : Hid (Calls Tryz.prog 18 _ w5 _) := HTT.out w5 i hlt hM5
          clear hM5 HR1
          go_wp2_with fail
          refine HT5.out.mono ?_
          rintro e w6 ⟨rfl, hM6⟩
          have HM6 : Hid (MV B w w6 x st b (((5 * (i + 1) : Nat)) : Int) (cAt ma ro ts (i + 1)) ts (.slice (some ⟨gs, 0, none⟩) ts.length sc)) := hM6
          clear hM6 HT5
          go_wp2_with fail
          go_roundw
          case rel => exact ⟨i + 1, by go_num, by omega, HM6.out⟩
          case measure => simp [intOf]; omega
        · have hie : i = ma + 1 := by omega
          subst hie
          have hlt' : ¬ (((ma + 1 : Nat)) : Int) < 1 + (ma : Int) := by omega
          clear HTT
          by_cases hrm : ts.length ≤ ro + 1
          · have HMO : Hid (MV B w wr x st b (((5 * (ma + 1) : Nat)) : Int) (c2 (gQ (cfA (1 + (ma : Int))) (ts.length + 1) 0 [] 0 0) (gQ (cfB (1 + (ro : Int))) (ts.length + 1) 0 ts 0 0)) ts (.slice (some ⟨gs, 0, none⟩) ts.length sc)) := by
              have h := hM
              unfold cAt at h
              rw [if_pos ⟨rfl, hrm⟩] at h
              exact h
            have HR1 : Hid (Calls Tryz.prog 22 #[.pointer (some ⟨x, 0, none⟩), .int .u8 97, .string ⟨#[]⟩, .int .i64 1] wr fun e w' => ∃ a cp, e = .returned (.tuple #[.slice a 0 cp, .bool true]) ∧ MV B w w' x st b (((5 * (ma + 1) : Nat)) : Int) (c2 (gQ (cfA (1 + (ma : Int))) (ts.length + 1) 0 [] 0 0) (gQ (cfB (1 + (ro : Int))) (ts.length + 1) 0 ts 0 0)) ts (.slice (some ⟨gs, 0, none⟩) ts.length sc)) := mv_R0 B w wr 97 x st b 0 (by decide) rfl _ _ (cfA (1 + (ma : Int))) (ts.length + 1) 0 0 ts _ (c2_0 _ _) HMO.out
            have hnr : ¬ (1 : Int) + (ro : Int) < (ts.length : Int) := by omega
            obtain ⟨now, HNW⟩ : ∃ now : Int, Hid (now = (((5 * (ma + 1) : Nat)) : Int)) := ⟨_, rfl⟩
            rw [← HNW.out] at HR1
            have hnw : 0 ≤ now ∧ now ≤ 50000 := by have := HNW.out; omega
            clear hM HR HMO HTS HNW
            go_wp2_with fail
            refine HR1.out.mono ?_
            rintro e w5 ⟨a5, cp5, rfl, hM5⟩
            have HM5 : Hid (MV B w w5 x st b now (c2 (gQ (cfA (1 + (ma : Int))) (ts.length + 1) 0 [] 0 0) (gQ (cfB (1 + (ro : Int))) (ts.length + 1) 0 ts 0 0)) ts (.slice (some ⟨gs, 0, none⟩) ts.length sc)) := hM5
            clear hM5 HR1
            go_wp2_with fail
            have HRB : Hid (∀ W (k : Nat) (hk : k < ts.length), MV B w W x st b now (c2 (gQ (cfA (1 + (ma : Int))) (ts.length + 1) 0 [] 0 0) (gQ (cfB (1 + (ro : Int))) (ts.length + 1) k (ts.drop k) 0 0)) ts (.slice (some ⟨gs, 0, none⟩) ts.length sc) → Calls Tryz.prog 22 #[.pointer (some ⟨x, 0, none⟩), .int .u8 98, .string ⟨#[]⟩, .int .i64 1] W fun e w' => ∃ g cp, e = .returned (.tuple #[.slice (some ⟨g, 0, none⟩) 1 cp, .bool true]) ∧ w'.cell? ⟨g, 0, none⟩ = some (.string ⟨(hanB 98 (k + 1) 1).toArray⟩) ∧ w'.cell? ⟨g, 1, none⟩ = some (.string gS) ∧ w'.cell? ⟨g, 2, none⟩ = some (.string ts[k]) ∧ MV B w w' x st b now (c2 (gQ (cfA (1 + (ma : Int))) (ts.length + 1) 0 [] 0 0) (gQ (cfB (1 + (ro : Int))) (ts.length + 1) k (ts[k] :: ts.drop (k + 1)) ((1 : Nat) : Int) (now + 5))) ts (.slice (some ⟨gs, 0, none⟩) ts.length sc)) := fun W k hk h => by
              have hd : ts.drop k = ts[k] :: ts.drop (k + 1) := List.drop_eq_getElem_cons hk
              have h1 := mv_R B w W 98 x st b 1 (by decide) rfl now _ (cfB (1 + (ro : Int))) (ts.length + 1) k 0 (by omega) rfl ts[k] (ts.drop (k + 1)) ts _ (by rw [c2_1, hd]; rfl) h
              refine h1.mono ?_
              rintro e w' ⟨g, cp, he, k0, k1, k2, hm⟩
              rw [set_c2_1] at hm
              exact ⟨g, cp, he, k0, k1, k2, hm⟩
            have HAB : Hid (∀ W (k : Nat) (hk : k < ts.length), MV B w W x st b now (c2 (gQ (cfA (1 + (ma : Int))) (ts.length + 1) 0 [] 0 0) (gQ (cfB (1 + (ro : Int))) (ts.length + 1) k (ts[k] :: ts.drop (k + 1)) ((1 : Nat) : Int) (now + 5))) ts (.slice (some ⟨gs, 0, none⟩) ts.length sc) → Calls Tryz.prog 18 #[.pointer (some ⟨x, 0, none⟩), .agg #[.int .u8 65, .int .u8 0, .int .u8 0, .int .i64 0, .int .i64 0, .int .i64 0, .int .i64 0, .int .i64 0, .int .i64 0, .string ⟨#[]⟩, .string ⟨#[]⟩, .string ⟨#[]⟩, .string ⟨#[]⟩, .string ⟨(hanB 98 (k + 1) 1).toArray⟩, .slice none 0 0]] W fun e w' => e = .returned (.string ⟨#[0]⟩) ∧ MV B w w' x st b now (c2 (gQ (cfA (1 + (ma : Int))) (ts.length + 1) 0 [] 0 0) (gQ (cfB (1 + (ro : Int))) (ts.length + 1) (k + 1) (ts.drop (k + 1)) 0 0)) ts (.slice (some ⟨gs, 0, none⟩) ts.length sc)) := fun W k hk h => by
              have h1 := mv_A B w W x st b 1 (by decide) now _ (cfB (1 + (ro : Int))) rfl (ts.length + 1) k 1 (by omega) (by omega) (now + 5) (by omega) ts[k] (ts.drop (k + 1)) ts _ (c2_1 _ _) h
              refine h1.mono ?_
              rintro e w' ⟨he, hm⟩
              rw [set_c2_1] at hm
              exact ⟨he, hm⟩
            have HSQ : Hid (∀ W (k : Nat), k ≤ 12 → Calls Tryz.prog 26 #[.string ⟨(hanB 98 (k + 1) 1).toArray⟩] W fun e w' => e = .returned (.int .i64 (((k + 1 : Nat)) : Int)) ∧ w' = W) := fun W k hk => seq_any 98 (k + 1) 1 (by omega) W
            go_loopw [24] (fun v wr => ∃ k : Nat, v = .int .i64 (k : Int) ∧ k ≤ ts.length ∧ MV B w wr x st b now (c2 (gQ (cfA (1 + (ma : Int))) (ts.length + 1) 0 [] 0 0) (gQ (cfB (1 + (ro : Int))) (ts.length + 1) k (ts.drop k) 0 0)) ts (.slice (some ⟨gs, 0, none⟩) ts.length sc)) (fun v _ => ts.length - (intOf v).toNat)
            case atStart => exact ⟨0, rfl, Nat.zero_le _, HM5.out⟩
            case round =>
              obtain ⟨k, rfl, hk, hM⟩ := hrel
              clear HM5
              by_cases hkl : k < ts.length
              · have HR2 : Hid (Calls Tryz.prog 22 _ _ _) := HRB.out _ k hkl hM
                clear hM
                go_wp2_with fail
                refine HR2.out.mono ?_
                rintro e w6 ⟨g6, cp6, rfl, k0, k1, k2, hM6⟩
                have kc := mv_cell hM6 k hkl
                have HM6 : Hid (MV B w w6 x st b now (c2 (gQ (cfA (1 + (ma : Int))) (ts.length + 1) 0 [] 0 0) (gQ (cfB (1 + (ro : Int))) (ts.length + 1) k (ts[k] :: ts.drop (k + 1)) ((1 : Nat) : Int) (now + 5))) ts (.slice (some ⟨gs, 0, none⟩) ts.length sc)) := hM6
                have lg6 := World.block_lt_of_cell? _ _ k2
                have lgs6 := World.block_lt_of_cell? _ _ kc
                have HA6 : Hid (∀ n, Calls Tryz.prog 18 _ (w6.drewN n) _) := fun n => HAB.out (w6.drewN n) k hkl (HM6.out.drewN n)
                have HQ6 : Hid (∀ W, Calls Tryz.prog 26 #[.string ⟨(hanB 98 (k + 1) 1).toArray⟩] W fun e w' => e = .returned (.int .i64 (((k + 1 : Nat)) : Int)) ∧ w' = W) := fun W => HSQ.out W k (by omega)
                clear hM6 HR2 HM6
                generalize ts[k] = tk6 at *
                generalize (⟨(hanB 98 (k + 1) 1).toArray⟩ : ByteArray) = hn6 at *
                have heq : (tk6.toList == tk6.toList) = true := beq_self_eq_true _
                go_wp2_with fail
                go_quiet (fail)
                go_wp2_with fail
                refine (HQ6.out _).mono ?_
                rintro e w7 ⟨rfl, h7⟩
                subst h7
                go_wp2_with fail
                refine (HA6.out _).mono ?_
                rintro e w8 ⟨rfl, hM8⟩
                have HM8 : Hid (MV B w w8 x st b now (c2 (gQ (cfA (1 + (ma : Int))) (ts.length + 1) 0 [] 0 0) (gQ (cfB (1 + (ro : Int))) (ts.length + 1) (k + 1) (ts.drop (k + 1)) 0 0)) ts (.slice (some ⟨gs, 0, none⟩) ts.length sc)) := hM8
                clear hM8 HA6 HQ6 k0 k1 k2 kc
                go_wp2_with fail
                go_roundw
                case rel => exact ⟨k + 1, by go_num, by omega, HM8.out⟩
                case measure => simp [intOf]; omega
              · have HB6 : Hid (Below B w _) := hM.bel
                clear hM HRB HAB HSQ
                go_wp2_with fail
                go_ret
                exact ⟨rfl, HB6.out⟩
          · have HR1 : Hid (Calls Tryz.prog 22 _ wr _) := HR.out wr _ (ma + 1) (by omega) (by
              have h := hM
              unfold cAt at h
              rw [if_neg (fun hh => hrm hh.2)] at h
              exact h)
            have hnr : (1 : Int) + (ro : Int) < (ts.length : Int) := by omega
            clear hM HR
            go_wp2_with fail
            refine HR1.out.mono ?_
            rintro e w5 ⟨g5, cp5, rfl, k2, hM5⟩
            have kc := mv_cell hM5 0 hpos
            have ht0 : ts[0] = t0 := by simp [HTS.out]
            rw [ht0] at kc
            have HB5 : Hid (Below B w w5) := hM5.bel
            have lg5 := World.block_lt_of_cell? _ _ k2
            have lgs5 := World.block_lt_of_cell? _ _ kc
            have heq : (t0.toList == t0.toList) = true := beq_self_eq_true _
            clear hM5 HR1 HTS ht0
            go_wp2_with fail
            go_quiet (fail)
            go_wp2_with fail
            go_ret
            exact ⟨rfl, HB5.out.os, HB5.out.tape, HB5.out.output, HB5.out.size, HB5.out.block⟩
end Go.Proofs.YtbdobaapadlcjaaGreatDoor
