/-
  DISKS: the walk of keeps (54).
-/
import Derived.Test.YtbdobaapadlcjaaDoorDkN
namespace Go.Proofs.YtbdobaapadlcjaaDoor.Dk
open Go.RowKit
set_option linter.unusedVariables false
set_option linter.unusedSimpArgs false

set_option maxRecDepth 10000 in
set_option maxHeartbeats 4000000 in
theorem keeps_any (w : World) (s : Nat) (lv nv mv : Value) (c : Nat → Tag) (ps : List Pr) (ns : List Nm) (h : Shelf w s lv nv mv c ps ns (ns.map (·.m))) (al : Option Addr) (nl cl : Nat) (L : List ByteArray) (hL : L.length = nl) (ho : OwnS w (.slice al nl cl) L) (hY : ∀ b, (Value.slice al nl cl).ownBlock = some b → c b = .Y)
    (hn : ns.length ≤ 16777216) (hnl : nl ≤ 8388608) :
    Calls Tryd.prog 54 #[.pointer (some ⟨s, 0, none⟩), .slice al nl cl] w fun e w' => e = .returned (.tuple #[]) ∧ ∃ nv' mv' c' xs, Shelf w' s lv nv' mv' c' ps (ns ++ xs) ((ns ++ xs).map (·.m)) ∧ xs.length = 4 ∧ (∀ x ∈ xs, x.n ≤ nl + 3) ∧ (∀ b, b < w.heap.size → c b ≠ .Y → c' b = c b) ∧
      Tch (s :: nv.ownBlock.toList ++ mv.ownBlock.toList ++ (Value.slice al nl cl).ownBlock.toList) w w' := by
  obtain ⟨_, hs1, hs2, hsf⟩ := h.sblk
  obtain ⟨an, cn, rfl⟩ : ∃ an cn, nv = .slice an ns.length cn := by
    rcases h.n.2 with ⟨rfl, h0⟩ | ⟨g, cap, cur, rfl, _⟩
    · exact ⟨none, 0, by rw [h0]⟩
    · exact ⟨_, _, rfl⟩
  obtain ⟨am, cm, hmv, _⟩ := h.m.at
  rw [List.length_map] at hmv
  subst hmv
  have H : Hid (Shelf w s lv (.slice an ns.length cn) (.slice am ns.length cm) c ps ns (ns.map (·.m))) := h
  have HO : Hid (OwnS w (.slice al nl cl) L) := ho
  clear h ho
  go_enter Tryd.func54, Tryd.ntmps54
  go_wp2_with fail
  go_loop [4, 5] (fun m i => ∃ (k : Nat) (M : ByteArray), k ≤ ns.length ∧ m = .string M ∧ M.size = 4 + k ∧ i = .int .i64 k) (fun _ i => ns.length - (intOf i).toNat)
  case atStart => exact ⟨0, _, Nat.zero_le _, rfl, rfl, rfl⟩
  case round =>
    obtain ⟨k, M, hk, rfl, hM, rfl⟩ := hrel
    by_cases hkn : k < ns.length
    · have hkl : ((k : Int) < (ns.length : Int)) := by omega
      have hcat : ¬ 9223372036854775807 < M.size + 1 := by omega
      go_wp2_with fail
      go_round
      case rel => exact ⟨k + 1, _, by omega, rfl, by rw [ByteArray.size_append, hM]; show 4 + k + 1 = _; omega, by go_num⟩
      case measure => simp [intOf]; omega
    · have hkl : ¬ ((k : Int) < (ns.length : Int)) := by omega
      go_wp2_with fail
      go_loopw [6] (fun i wq => ∃ j : Nat, j ≤ nl ∧ i = .int .i64 j ∧ OwnS wq (.slice al nl cl) (List.replicate j M ++ L.drop j) ∧ Tch (Value.slice al nl cl).ownBlock.toList w wq) (fun i _ => nl - (intOf i).toNat)
      case atStart => exact ⟨0, Nat.zero_le _, rfl, HO.out, Tch.refl _ _⟩
      case round =>
        obtain ⟨j, hj, rfl, hoq, htq⟩ := hrel
        have HQ : Hid (OwnS wr (.slice al nl cl) (List.replicate j M ++ L.drop j) ∧ Tch (Value.slice al nl cl).ownBlock.toList w wr) := ⟨hoq, htq⟩
        by_cases hjn : j < nl
        · have hjl : ((j : Int) < (nl : Int)) := by omega
          have hlen : (List.replicate j M ++ L.drop j).length = nl := by rw [List.length_append, List.length_replicate, List.length_drop]; omega
          obtain ⟨a2, c2, e2, hc2⟩ := hoq.at
          rw [hlen] at e2
          injection e2 with e3 _ e4
          subst e3 e4
          obtain ⟨g, hga, q1, z1⟩ := hc2 j (by omega)
          subst hga
          clear hoq htq hc2
          have HST : Hid (OwnS (wr.setCell ⟨g, j, none⟩ (.string M)) (.slice (some ⟨g, 0, none⟩) nl cl) (List.replicate (j + 1) M ++ L.drop (j + 1)) ∧ Tch (Value.slice (some ⟨g, 0, none⟩) nl cl).ownBlock.toList w (wr.setCell ⟨g, j, none⟩ (.string M))) := by
            refine ⟨?_, HQ.out.2.setCell (fun _ => by simp [Value.ownBlock]) _⟩
            have h1 := HQ.out.1
            rw [← hlen] at h1 ⊢
            have h2 := h1.set j M
            have e5 : (List.replicate j M ++ L.drop j).set j M = List.replicate (j + 1) M ++ L.drop (j + 1) := by
              rw [List.set_append_right _ _ (by simp), List.length_replicate, Nat.sub_self, ← List.getElem_cons_drop (show j < L.length by omega), List.set_cons_zero, List.replicate_succ', List.append_assoc]
              rfl
            rw [e5] at h2
            exact h2
          generalize (List.replicate j M ++ L.drop j)[j] = y at q1
          go_wp2_with fail
          go_roundw
          case rel => exact ⟨j + 1, by omega, by go_num, HST.out.1, HST.out.2⟩
          case measure => simp [intOf]; omega
        · have hjl : ¬ ((j : Int) < (nl : Int)) := by omega
          have HQ2 : Hid (OwnS wr (.slice al nl cl) (List.replicate nl M) ∧ Tch (Value.slice al nl cl).ownBlock.toList w wr) := by
            refine ⟨?_, htq⟩
            have e : j = nl := by omega
            rw [e, List.drop_of_length_le (by omega), List.append_nil] at hoq
            exact hoq
          clear hoq htq HQ
          go_wp2_with (at_builtin; refine wpList_strs2 _ rfl _ _ rfl (.slice al nl cl) (List.replicate nl M) rfl (HQ2.out.1.tch ((Tch.refl [] _).alloc _) (fun _ _ => by simp)) wr.heap.size (List.replicate 1 M) 1 rfl rfl (by decide) (heap_alloc_new _ _) (by simp; omega) ?_)
          intro va w1 ha
          have ha' : Apnd (wr.alloc (.cells #[.string M] 9)) w1 0 9 1 (.slice al nl cl) nl 1 ((List.replicate nl M ++ List.replicate 1 M).map Value.string) va := by simpa using ha
          obtain ⟨hl1, hoa, ht1, hba⟩ := OwnS.apnd ((Tch.refl [] wr).alloc _) HQ2.out.1 ha'
          obtain ⟨aa, ca, hva, _⟩ := hoa.at
          rw [List.length_replicate] at hva
          subst hva
          have hka1 : Mk w1 ⟨aa, nl + 1, ca, M⟩ := Mk.of hoa
          have HA : Hid (OwnS w1 (.slice al nl cl) (List.replicate nl M) ∧ Mk w1 ⟨aa, nl + 1, ca, M⟩ ∧ Tch (Value.slice al nl cl).ownBlock.toList wr w1 ∧ (∀ b, (Value.slice aa (nl + 1) ca).ownBlock = some b → (Value.slice al nl cl).ownBlock = some b ∨ wr.heap.size ≤ b)) := ⟨hl1, hka1, ht1, hba⟩
          clear ha ha' hl1 hoa ht1 hba hka1
          go_wp2_with (at_builtin; refine wpList_strs2 _ rfl _ _ rfl (.slice al nl cl) (List.replicate nl M) rfl (HA.out.1.tch ((Tch.refl [] _).alloc _) (fun _ _ => by simp)) w1.heap.size (List.replicate 2 M) 2 rfl rfl (by decide) (heap_alloc_new _ _) (by simp; omega) ?_)
          intro vb w2 hb
          have hb' : Apnd (w1.alloc (.cells #[.string M, .string M] 9)) w2 0 9 1 (.slice al nl cl) nl 2 ((List.replicate nl M ++ List.replicate 2 M).map Value.string) vb := by simpa using hb
          obtain ⟨hl2, hob, ht2, hbb⟩ := OwnS.apnd ((Tch.refl [] w1).alloc _) HA.out.1 hb'
          have hka2 := HA.out.2.1.apnd ((Tch.refl [] w1).alloc _) hb' rfl (fun _ _ _ _ => by show nl + 1 ≤ _; omega)
          obtain ⟨ab, cb, hvb, _⟩ := hob.at
          rw [List.length_replicate] at hvb
          subst hvb
          have hkb2 : Mk w2 ⟨ab, nl + 2, cb, M⟩ := Mk.of hob
          have HB : Hid (OwnS w2 (.slice al nl cl) (List.replicate nl M) ∧ Mk w2 ⟨aa, nl + 1, ca, M⟩ ∧ Mk w2 ⟨ab, nl + 2, cb, M⟩ ∧ Tch (Value.slice al nl cl).ownBlock.toList w1 w2 ∧ (∀ b, (Value.slice ab (nl + 2) cb).ownBlock = some b → (Value.slice al nl cl).ownBlock = some b ∨ w1.heap.size ≤ b)) := ⟨hl2, hka2, hkb2, ht2, hbb⟩
          clear hb hb' hl2 hob ht2 hbb hka2 hkb2
          go_wp2_with (at_builtin; refine wpList_strs2 _ rfl _ _ rfl (.slice al nl cl) (List.replicate nl M) rfl (HB.out.1.tch ((Tch.refl [] _).alloc _) (fun _ _ => by simp)) w2.heap.size (List.replicate 3 M) 3 rfl rfl (by decide) (heap_alloc_new _ _) (by simp; omega) ?_)
          intro vc w3 hc
          have hc' : Apnd (w2.alloc (.cells #[.string M, .string M, .string M] 9)) w3 0 9 1 (.slice al nl cl) nl 3 ((List.replicate nl M ++ List.replicate 3 M).map Value.string) vc := by simpa using hc
          obtain ⟨hl3, hoc, ht3, hbc⟩ := OwnS.apnd ((Tch.refl [] w2).alloc _) HB.out.1 hc'
          have hka3 := HB.out.2.1.apnd ((Tch.refl [] w2).alloc _) hc' rfl (fun _ _ _ _ => by show nl + 1 ≤ _; omega)
          have hkb3 := HB.out.2.2.1.apnd ((Tch.refl [] w2).alloc _) hc' rfl (fun _ _ _ _ => by show nl + 2 ≤ _; omega)
          obtain ⟨ac, cc, hvc, _⟩ := hoc.at
          rw [List.length_replicate] at hvc
          subst hvc
          have hkc3 : Mk w3 ⟨ac, nl + 3, cc, M⟩ := Mk.of hoc
          have hkl3 : Mk w3 ⟨al, nl, cl, M⟩ := Mk.of hl3
          have htw : Tch (Value.slice al nl cl).ownBlock.toList w w3 := ((HQ2.out.2.trans HA.out.2.2.1 (fun x hx _ => hx)).trans HB.out.2.2.2.1 (fun x hx _ => hx)).trans ht3 (fun x hx _ => hx)
          have hSh := (H.out.touchY htw (fun b hb => hY b (by simpa using hb))).recol
          have hzr := HQ2.out.2.size
          have hz1 := HA.out.2.2.1.size
          have hz2 := HB.out.2.2.2.1.size
          have hcol : ∀ b, ((Value.slice al nl cl).ownBlock = some b ∨ w.heap.size ≤ b) → recol (paint c w.heap.size .Y) b = .X := fun b hb => by
            by_cases hlt : b < w.heap.size
            · rcases hb with hb | hb
              · exact recol_Y ((paint_old hlt).trans (hY b hb))
              · omega
            · exact recol_Y (paint_new (by omega))
          have hMkX : ∀ x : Nm, Mk w3 x → (∀ b, x.v.ownBlock = some b → (Value.slice al nl cl).ownBlock = some b ∨ w.heap.size ≤ b) → ∀ j, j < x.n → ∃ g, x.a = some ⟨g, 0, none⟩ ∧ w3.cell? ⟨g, j, none⟩ = some (.string x.m) ∧ recol (paint c w.heap.size .Y) g = .X := fun x hx hb j hj => by
            obtain ⟨g, h1, h2⟩ := hx j hj
            exact ⟨g, h1, h2, hcol g (hb g (by show (Value.slice x.a x.n x.c).ownBlock = _; rw [h1]; rfl))⟩
          have HXS : Hid (∀ x ∈ [(⟨al, nl, cl, M⟩ : Nm), ⟨aa, nl + 1, ca, M⟩, ⟨ab, nl + 2, cb, M⟩, ⟨ac, nl + 3, cc, M⟩], ∀ j, j < x.n → ∃ g, x.a = some ⟨g, 0, none⟩ ∧ w3.cell? ⟨g, j, none⟩ = some (.string x.m) ∧ recol (paint c w.heap.size .Y) g = .X) := by
            intro x hx
            simp only [List.mem_cons, List.not_mem_nil, or_false] at hx
            rcases hx with rfl | rfl | rfl | rfl
            · exact hMkX _ hkl3 (fun b hb => .inl hb)
            · exact hMkX _ hka3 (fun b hb => (HA.out.2.2.2 b hb).imp_right (by omega))
            · exact hMkX _ hkb3 (fun b hb => (HB.out.2.2.2.2 b hb).imp_right (by omega))
            · exact hMkX _ hkc3 (fun b hb => (hbc b hb).imp_right (by omega))
          have HSH : Hid (Shelf w3 s lv (.slice an ns.length cn) (.slice am ns.length cm) (recol (paint c w.heap.size .Y)) ps ns (ns.map (·.m)) ∧ Tch (Value.slice al nl cl).ownBlock.toList w w3) := ⟨hSh, htw⟩
          obtain ⟨_, q1, _, _⟩ := hSh.sblk
          have q1a : ∀ o, (w3.alloc o).cell? ⟨s, 1, none⟩ = some (.slice an ns.length cn) := fun o => (World.cell?_of_block (Below.heap_alloc _ _ _ hSh.lt)).trans q1
          clear hc hc' hl3 hoc ht3 hbc hka3 hkb3 hkc3 hkl3 htw hSh hcol hMkX hzr hz1 hz2 hs1 hs2 hsf
          go_wp2_with (at_builtin; refine wpList_vals _ rfl _ _ 27 28 rfl Tryd.underlying27 _ 1 24 info28 rfl (by decide) (by decide) (.slice an ns.length cn) ns.length (ns.map Nm.v) rfl (owns_tch HSH.out.1.n ((Tch.refl [] _).alloc _) (fun _ _ => by simp)) w3.heap.size [.slice al nl cl, .slice aa (nl + 1) ca, .slice ab (nl + 2) cb, .slice ac (nl + 3) cc] 4 rfl rfl (by decide) (heap_alloc_new _ _) (fun u hu => by
            simp only [List.mem_cons, List.not_mem_nil, or_false] at hu
            rcases hu with rfl | rfl | rfl | rfl <;> rfl) (by omega) ?_)
          intro nv' w4 ho4 hg4 hb4
          obtain ⟨q4, z4, hS5, hT5⟩ := HSH.out.1.pushN [⟨al, nl, cl, M⟩, ⟨aa, nl + 1, ca, M⟩, ⟨ab, nl + 2, cb, M⟩, ⟨ac, nl + 3, cc, M⟩] HXS.out ((Tch.refl [] _).alloc _) hg4 (by
            rw [List.length_append, List.map_append]
            exact ho4) (by simpa using hb4)
          obtain ⟨g4, cap4, hv4⟩ : ∃ g cap, nv' = .slice (some ⟨g, 0, none⟩) (ns.length + 4) cap := by
            rcases ho4.2 with ⟨_, h0⟩ | ⟨g, cap, cur, hv, _⟩
            · omega
            · exact ⟨g, cap, hv⟩
          subst hv4
          have HS5 : Hid (Shelf (w4.setCell ⟨s, 1, none⟩ (.slice (some ⟨g4, 0, none⟩) (ns.length + 4) cap4)) s lv (.slice (some ⟨g4, 0, none⟩) (ns.length + 4) cap4) (.slice am ns.length cm) (paint (recol (paint c w.heap.size .Y)) w3.heap.size .N) ps (ns ++ [⟨al, nl, cl, M⟩, ⟨aa, nl + 1, ca, M⟩, ⟨ab, nl + 2, cb, M⟩, ⟨ac, nl + 3, cc, M⟩]) (ns.map (·.m)) ∧
            Tch (s :: (Value.slice an ns.length cn).ownBlock.toList) w3 (w4.setCell ⟨s, 1, none⟩ (.slice (some ⟨g4, 0, none⟩) (ns.length + 4) cap4))) := ⟨hS5, hT5⟩
          obtain ⟨_, _, q5, _⟩ := hS5.sblk
          have q5a : ∀ o, ((w4.setCell ⟨s, 1, none⟩ (.slice (some ⟨g4, 0, none⟩) (ns.length + 4) cap4)).alloc o).cell? ⟨s, 2, none⟩ = some (.slice am ns.length cm) := fun o => (World.cell?_of_block (Below.heap_alloc _ _ _ hS5.lt)).trans q5
          clear ho4 hg4 hb4 hS5 hT5 q1 q1a
          go_wp2_with (at_builtin; refine wpList_strs _ rfl _ _ rfl (.slice am ns.length cm) (ns.map (·.m)) rfl (HS5.out.1.m.tch ((Tch.refl [] _).alloc _) (fun _ _ => by simp)) w4.heap.size [M, M, M, M] 4 rfl rfl (by decide) (by rw [← World.size_setCell w4 ⟨s, 1, none⟩ (.slice (some ⟨g4, 0, none⟩) (ns.length + 4) cap4)]; exact heap_alloc_new _ _) (by simp; omega) ?_)
          intro mv' w6 ho6 hg6 hb6
          obtain ⟨q6, z6, hS7, hT7⟩ := HS5.out.1.pushM [M, M, M, M] ((Tch.refl [] _).alloc _) hg6 ho6 (by simpa using hb6)
          obtain ⟨g6, cap6, hv6⟩ := ho6.slc (by simp)
          subst hv6
          have hlm : (ns.map (·.m) ++ [M, M, M, M]).length = ns.length + 4 := by simp
          rw [hlm] at hS7 hT7 ⊢
          have HFIN : Hid (∃ nv' mv' c' xs, Shelf (w6.setCell ⟨s, 2, none⟩ (.slice (some ⟨g6, 0, none⟩) (ns.length + 4) cap6)) s lv nv' mv' c' ps (ns ++ xs) ((ns ++ xs).map (·.m)) ∧ xs.length = 4 ∧ (∀ x ∈ xs, x.n ≤ nl + 3) ∧ (∀ b, b < w.heap.size → c b ≠ .Y → c' b = c b) ∧
              Tch (s :: (Value.slice an ns.length cn).ownBlock.toList ++ (Value.slice am ns.length cm).ownBlock.toList ++ (Value.slice al nl cl).ownBlock.toList) w (w6.setCell ⟨s, 2, none⟩ (.slice (some ⟨g6, 0, none⟩) (ns.length + 4) cap6))) := by
            refine ⟨.slice (some ⟨g4, 0, none⟩) (ns.length + 4) cap4, .slice (some ⟨g6, 0, none⟩) (ns.length + 4) cap6, paint (paint (recol (paint c w.heap.size .Y)) w3.heap.size .N) (w4.setCell ⟨s, 1, none⟩ (.slice (some ⟨g4, 0, none⟩) (ns.length + 4) cap4)).heap.size .M, [⟨al, nl, cl, M⟩, ⟨aa, nl + 1, ca, M⟩, ⟨ab, nl + 2, cb, M⟩, ⟨ac, nl + 3, cc, M⟩], ?_, rfl, ?_, ?_, ?_⟩
            · rw [List.map_append]
              exact hS7
            · intro x hx
              simp only [List.mem_cons, List.not_mem_nil, or_false] at hx
              rcases hx with rfl | rfl | rfl | rfl <;> simp
            · intro b hb hne
              have h1 := HSH.out.2.size
              have h2 := HS5.out.2.size
              rw [paint_old (by omega), paint_old (by omega)]
              exact recol_of (paint_old hb) hne
            · refine ((HSH.out.2.sub (fun x hx _ => by simp only [List.mem_append, List.mem_cons]; exact .inr hx)).trans (HS5.out.2.sub (fun x hx _ => hx)) (fun x hx _ => ?_)).trans hT7 (fun x hx _ => ?_)
              · simp only [List.mem_append, List.mem_cons] at hx ⊢
                rcases hx with hx | hx
                · exact .inl (.inl (.inl hx))
                · exact .inl (.inl (.inr hx))
              · simp only [List.mem_append, List.mem_cons] at hx ⊢
                rcases hx with hx | hx
                · exact .inl (.inl (.inl hx))
                · exact .inl (.inr hx)
          clear ho6 hg6 hb6 hS7 hT7 q5 q5a
          go_wp2_with fail
          go_end0
          exact ⟨rfl, HFIN.out⟩
end Go.Proofs.YtbdobaapadlcjaaDoor.Dk
