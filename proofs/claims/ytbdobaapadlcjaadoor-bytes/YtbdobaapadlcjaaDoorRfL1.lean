/-
  THE WALKS of package wharfref's guessed (61), some of the Ops.
  THE WALK of package wharfref's guessed (61), the Op B.
  THE WALK of package wharfref's guessed (61), a letter that is no Op's.
-/
import Derived.Test.YtbdobaapadlcjaaDoorRfL
import Derived.Test.YtbdobaapadlcjaaDoorBackG6
import Derived.Test.YtbdobaapadlcjaaDoorRfE2
namespace Go.Proofs.YtbdobaapadlcjaaDoor.Ref
open Go.RowKit
set_option linter.unusedVariables false

set_option maxRecDepth 100000 in
set_option maxHeartbeats 2000000 in
theorem guessed_67 (s : ByteArray) (w : World) (hs : s.size ≤ maxLen) (h : (at0 s 0).toNat = 67) :
    Calls Tryd.prog 61 #[.string s] w fun e w' => e = .returned (.agg (cellsOf { opR 67 with q := at0 s (1), vis := (rn s (2) 2 : Nat), win := (rn s (4) 2 : Nat), rcv := (rn s (6) 1 : Nat), d := at0 s (7), quo := (rn s (8) 1 : Nat) } nilS.v)) ∧ Below w.heap.size w w' := by
  have hinf := info37
  have HC : Hid (∀ W r, Gs w W s r 0 → Calls Tryd.prog 72 #[.pointer (some ⟨w.heap.size + 1, 0, none⟩)] W fun e w' => e = .returned (.int .u8 67) ∧ Gs w w' s r 1) := fun W r hG => by
    have hc := gs_let w s 0 hs (by decide) W r hG
    rw [h] at hc
    exact hc
  obtain ⟨c0, V0⟩ : ∃ c, Hid (at0 s (1) = c) := ⟨_, rfl⟩
  have HC0 : Hid (∀ W r, Gs w W s r (1) → Calls Tryd.prog 72 #[.pointer (some ⟨w.heap.size + 1, 0, none⟩)] W fun e w' => e = .returned (.int .u8 (c0.toNat : Int)) ∧ Gs w w' s r (2)) := fun W r hG => by rw [← V0.out]; exact gs_let w s (1) hs (by decide) W r hG
  obtain ⟨c1, V1⟩ : ∃ c, Hid (rn s (2) 2 = c) := ⟨_, rfl⟩
  have HC1 : Hid (∀ W r, Gs w W s r (2) → Calls Tryd.prog 73 #[.pointer (some ⟨w.heap.size + 1, 0, none⟩), .int .i64 2] W fun e w' => e = .returned (.int .i64 (c1 : Int)) ∧ Gs w w' s r (4)) := fun W r hG => by rw [← V1.out]; exact gs_num w s (2) 2 hs (by decide) (by decide) W r hG
  obtain ⟨c2, V2⟩ : ∃ c, Hid (rn s (4) 2 = c) := ⟨_, rfl⟩
  have HC2 : Hid (∀ W r, Gs w W s r (4) → Calls Tryd.prog 73 #[.pointer (some ⟨w.heap.size + 1, 0, none⟩), .int .i64 2] W fun e w' => e = .returned (.int .i64 (c2 : Int)) ∧ Gs w w' s r (6)) := fun W r hG => by rw [← V2.out]; exact gs_num w s (4) 2 hs (by decide) (by decide) W r hG
  obtain ⟨c3, V3⟩ : ∃ c, Hid (rn s (6) 1 = c) := ⟨_, rfl⟩
  have HC3 : Hid (∀ W r, Gs w W s r (6) → Calls Tryd.prog 73 #[.pointer (some ⟨w.heap.size + 1, 0, none⟩), .int .i64 1] W fun e w' => e = .returned (.int .i64 (c3 : Int)) ∧ Gs w w' s r (7)) := fun W r hG => by rw [← V3.out]; exact gs_num w s (6) 1 hs (by decide) (by decide) W r hG
  obtain ⟨c4, V4⟩ : ∃ c, Hid (at0 s (7) = c) := ⟨_, rfl⟩
  have HC4 : Hid (∀ W r, Gs w W s r (7) → Calls Tryd.prog 72 #[.pointer (some ⟨w.heap.size + 1, 0, none⟩)] W fun e w' => e = .returned (.int .u8 (c4.toNat : Int)) ∧ Gs w w' s r (8)) := fun W r hG => by rw [← V4.out]; exact gs_let w s (7) hs (by decide) W r hG
  obtain ⟨c5, V5⟩ : ∃ c, Hid (rn s (8) 1 = c) := ⟨_, rfl⟩
  have HC5 : Hid (∀ W r, Gs w W s r (8) → Calls Tryd.prog 73 #[.pointer (some ⟨w.heap.size + 1, 0, none⟩), .int .i64 1] W fun e w' => e = .returned (.int .i64 (c5 : Int)) ∧ Gs w w' s r (9)) := fun W r hG => by rw [← V5.out]; exact gs_num w s (8) 1 hs (by decide) (by decide) W r hG
  have HOP : Hid (at0 s 0 = 67) := UInt8.toNat_inj.1 h
  clear h
  go_enter Tryd.func61, Tryd.ntmps61
  go_wp2_with fail
  refine (HC.out _ _ (Gs.start w s _ rfl)).mono ?_
  rintro e w0 ⟨rfl, hg⟩
  have f0 := hg.cell 0 (.int .u8 0) rfl
  have z0 := hg.fz 0
  have G0 : Hid (Gs w (w0.setCell ⟨w.heap.size + 1 + 1, 0, none⟩ (.int .u8 67)) s (opR 67) 1) := hg.set 0 _ rfl
  clear hg
  go_wp2_with fail
  refine (HC0.out _ _ G0.out).mono ?_
  rintro e w1 ⟨rfl, hg⟩
  have f1 := hg.cell 1 (.int .u8 0) rfl
  have z1 := hg.fz 1
  have G1 : Hid (Gs w (w1.setCell ⟨w.heap.size + 1 + 1, 1, none⟩ (.int .u8 (c0.toNat : Int))) s { opR 67 with q := c0 } (2)) := hg.set 1 _ rfl
  clear hg
  go_wp2_with fail
  refine (HC1.out _ _ G1.out).mono ?_
  rintro e w2 ⟨rfl, hg⟩
  have f2 := hg.cell 3 (.int .i64 0) rfl
  have z2 := hg.fz 3
  have G2 : Hid (Gs w (w2.setCell ⟨w.heap.size + 1 + 1, 3, none⟩ (.int .i64 (c1 : Int))) s { opR 67 with q := c0, vis := (c1 : Int) } (4)) := hg.set 3 _ rfl
  clear hg
  go_wp2_with fail
  refine (HC2.out _ _ G2.out).mono ?_
  rintro e w3 ⟨rfl, hg⟩
  have f3 := hg.cell 4 (.int .i64 0) rfl
  have z3 := hg.fz 4
  have G3 : Hid (Gs w (w3.setCell ⟨w.heap.size + 1 + 1, 4, none⟩ (.int .i64 (c2 : Int))) s { opR 67 with q := c0, vis := (c1 : Int), win := (c2 : Int) } (6)) := hg.set 4 _ rfl
  clear hg
  go_wp2_with fail
  refine (HC3.out _ _ G3.out).mono ?_
  rintro e w4 ⟨rfl, hg⟩
  have f4 := hg.cell 5 (.int .i64 0) rfl
  have z4 := hg.fz 5
  have G4 : Hid (Gs w (w4.setCell ⟨w.heap.size + 1 + 1, 5, none⟩ (.int .i64 (c3 : Int))) s { opR 67 with q := c0, vis := (c1 : Int), win := (c2 : Int), rcv := (c3 : Int) } (7)) := hg.set 5 _ rfl
  clear hg
  go_wp2_with fail
  refine (HC4.out _ _ G4.out).mono ?_
  rintro e w5 ⟨rfl, hg⟩
  have f5 := hg.cell 2 (.int .u8 0) rfl
  have z5 := hg.fz 2
  have G5 : Hid (Gs w (w5.setCell ⟨w.heap.size + 1 + 1, 2, none⟩ (.int .u8 (c4.toNat : Int))) s { opR 67 with q := c0, vis := (c1 : Int), win := (c2 : Int), rcv := (c3 : Int), d := c4 } (8)) := hg.set 2 _ rfl
  clear hg
  go_wp2_with fail
  refine (HC5.out _ _ G5.out).mono ?_
  rintro e w6 ⟨rfl, hg⟩
  have f6 := hg.cell 6 (.int .i64 0) rfl
  have z6 := hg.fz 6
  have G6 : Hid (Gs w (w6.setCell ⟨w.heap.size + 1 + 1, 6, none⟩ (.int .i64 (c5 : Int))) s { opR 67 with q := c0, vis := (c1 : Int), win := (c2 : Int), rcv := (c3 : Int), d := c4, quo := (c5 : Int) } (9)) := hg.set 6 _ rfl
  clear hg
  go_wp2_with (first | (refine wpList_load_row rfl 37 _ rfl (w.heap.size + 1 + 1) rfl 37 _ (0, 0) _ G6.out.x Tryd.underlying37 rfl hinf ?_) | (refine wpList_store_row rfl 37 _ _ rfl w.heap.size _ rfl rfl 37 _ G6.out.res hinf rfl (cells_one _ _) ?_))
  rw [V0.out, V1.out, V2.out, V3.out, V4.out, V5.out]
  refine bodyPost_ret (results_cell_row (p := 2) rfl _ _ w.heap.size 37 (cellsOf { opR 67 with q := c0, vis := (c1 : Int), win := (c2 : Int), rcv := (c3 : Int), d := c4, quo := (c5 : Int) } nilS.v) (0, 0) _ rfl (setRow_heap _ _ _ _ 37 (0, 0) G6.out.res) Tryd.underlying37 rfl hinf) rfl ⟨rfl, ?_⟩
  exact Go.Proofs.YtbdobaapadlcjaaDoor.below_setRow G6.out.below (Nat.le_refl _) _
end Go.Proofs.YtbdobaapadlcjaaDoor.Ref

namespace Go.Proofs.YtbdobaapadlcjaaDoor.Ref
open Go.RowKit
set_option linter.unusedVariables false

set_option maxRecDepth 100000 in
set_option maxHeartbeats 2000000 in
theorem guessed_83 (s : ByteArray) (w : World) (hs : s.size ≤ maxLen) (h : (at0 s 0).toNat = 83) :
    Calls Tryd.prog 61 #[.string s] w fun e w' => e = .returned (.agg (cellsOf { opR 83 with q := at0 s (1), grp := rx s (2), ded := rx s (nx s (2)), bod := rx s (nx s (nx s (2))) } nilS.v)) ∧ Below w.heap.size w w' := by
  have hinf := info37
  have HC : Hid (∀ W r, Gs w W s r 0 → Calls Tryd.prog 72 #[.pointer (some ⟨w.heap.size + 1, 0, none⟩)] W fun e w' => e = .returned (.int .u8 83) ∧ Gs w w' s r 1) := fun W r hG => by
    have hc := gs_let w s 0 hs (by decide) W r hG
    rw [h] at hc
    exact hc
  obtain ⟨c0, V0⟩ : ∃ c, Hid (at0 s (1) = c) := ⟨_, rfl⟩
  have HC0 : Hid (∀ W r, Gs w W s r (1) → Calls Tryd.prog 72 #[.pointer (some ⟨w.heap.size + 1, 0, none⟩)] W fun e w' => e = .returned (.int .u8 (c0.toNat : Int)) ∧ Gs w w' s r (2)) := fun W r hG => by rw [← V0.out]; exact gs_let w s (1) hs (by decide) W r hG
  obtain ⟨c1, V1⟩ : ∃ c, Hid (rx s (2) = c) := ⟨_, rfl⟩
  have HC1 : Hid (∀ W r, Gs w W s r (2) → Calls Tryd.prog 74 #[.pointer (some ⟨w.heap.size + 1, 0, none⟩)] W fun e w' => e = .returned (.string c1) ∧ Gs w w' s r (nx s (2))) := fun W r hG => by rw [← V1.out]; exact gs_txt w s (2) hs (by decide) W r hG
  obtain ⟨c2, V2⟩ : ∃ c, Hid (rx s (nx s (2)) = c) := ⟨_, rfl⟩
  have HC2 : Hid (∀ W r, Gs w W s r (nx s (2)) → Calls Tryd.prog 74 #[.pointer (some ⟨w.heap.size + 1, 0, none⟩)] W fun e w' => e = .returned (.string c2) ∧ Gs w w' s r (nx s (nx s (2)))) := fun W r hG => by rw [← V2.out]; exact gs_txt w s (nx s (2)) hs (by have b0 := nx_le s (2); have b1 := nx_le s (nx s (2)); omega) W r hG
  obtain ⟨c3, V3⟩ : ∃ c, Hid (rx s (nx s (nx s (2))) = c) := ⟨_, rfl⟩
  have HC3 : Hid (∀ W r, Gs w W s r (nx s (nx s (2))) → Calls Tryd.prog 74 #[.pointer (some ⟨w.heap.size + 1, 0, none⟩)] W fun e w' => e = .returned (.string c3) ∧ Gs w w' s r (nx s (nx s (nx s (2))))) := fun W r hG => by rw [← V3.out]; exact gs_txt w s (nx s (nx s (2))) hs (by have b0 := nx_le s (2); have b1 := nx_le s (nx s (2)); omega) W r hG
  have HOP : Hid (at0 s 0 = 83) := UInt8.toNat_inj.1 h
  clear h
  go_enter Tryd.func61, Tryd.ntmps61
  go_wp2_with fail
  refine (HC.out _ _ (Gs.start w s _ rfl)).mono ?_
  rintro e w0 ⟨rfl, hg⟩
  have f0 := hg.cell 0 (.int .u8 0) rfl
  have z0 := hg.fz 0
  have G0 : Hid (Gs w (w0.setCell ⟨w.heap.size + 1 + 1, 0, none⟩ (.int .u8 83)) s (opR 83) 1) := hg.set 0 _ rfl
  clear hg
  go_wp2_with fail
  refine (HC0.out _ _ G0.out).mono ?_
  rintro e w1 ⟨rfl, hg⟩
  have f1 := hg.cell 1 (.int .u8 0) rfl
  have z1 := hg.fz 1
  have G1 : Hid (Gs w (w1.setCell ⟨w.heap.size + 1 + 1, 1, none⟩ (.int .u8 (c0.toNat : Int))) s { opR 83 with q := c0 } (2)) := hg.set 1 _ rfl
  clear hg
  go_wp2_with fail
  refine (HC1.out _ _ G1.out).mono ?_
  rintro e w2 ⟨rfl, hg⟩
  have f2 := hg.cell 9 (.string ⟨#[]⟩) rfl
  have z2 := hg.fz 9
  have G2 : Hid (Gs w (w2.setCell ⟨w.heap.size + 1 + 1, 9, none⟩ (.string c1)) s { opR 83 with q := c0, grp := c1 } (nx s (2))) := hg.set 9 _ rfl
  clear hg
  go_wp2_with fail
  refine (HC2.out _ _ G2.out).mono ?_
  rintro e w3 ⟨rfl, hg⟩
  have f3 := hg.cell 10 (.string ⟨#[]⟩) rfl
  have z3 := hg.fz 10
  have G3 : Hid (Gs w (w3.setCell ⟨w.heap.size + 1 + 1, 10, none⟩ (.string c2)) s { opR 83 with q := c0, grp := c1, ded := c2 } (nx s (nx s (2)))) := hg.set 10 _ rfl
  clear hg
  go_wp2_with fail
  refine (HC3.out _ _ G3.out).mono ?_
  rintro e w4 ⟨rfl, hg⟩
  have f4 := hg.cell 11 (.string ⟨#[]⟩) rfl
  have z4 := hg.fz 11
  have G4 : Hid (Gs w (w4.setCell ⟨w.heap.size + 1 + 1, 11, none⟩ (.string c3)) s { opR 83 with q := c0, grp := c1, ded := c2, bod := c3 } (nx s (nx s (nx s (2))))) := hg.set 11 _ rfl
  clear hg
  go_wp2_with (first | (refine wpList_load_row rfl 37 _ rfl (w.heap.size + 1 + 1) rfl 37 _ (0, 0) _ G4.out.x Tryd.underlying37 rfl hinf ?_) | (refine wpList_store_row rfl 37 _ _ rfl w.heap.size _ rfl rfl 37 _ G4.out.res hinf rfl (cells_one _ _) ?_))
  rw [V0.out, V1.out, V2.out, V3.out]
  refine bodyPost_ret (results_cell_row (p := 2) rfl _ _ w.heap.size 37 (cellsOf { opR 83 with q := c0, grp := c1, ded := c2, bod := c3 } nilS.v) (0, 0) _ rfl (setRow_heap _ _ _ _ 37 (0, 0) G4.out.res) Tryd.underlying37 rfl hinf) rfl ⟨rfl, ?_⟩
  exact Go.Proofs.YtbdobaapadlcjaaDoor.below_setRow G4.out.below (Nat.le_refl _) _

set_option maxRecDepth 100000 in
set_option maxHeartbeats 2000000 in
theorem guessed_82 (s : ByteArray) (w : World) (hs : s.size ≤ maxLen) (h : (at0 s 0).toNat = 82) :
    Calls Tryd.prog 61 #[.string s] w fun e w' => e = .returned (.agg (cellsOf { opR 82 with q := at0 s (1), att := rx s (2), mx := (rn s (nx s (2)) 1 : Nat) } nilS.v)) ∧ Below w.heap.size w w' := by
  have hinf := info37
  have HC : Hid (∀ W r, Gs w W s r 0 → Calls Tryd.prog 72 #[.pointer (some ⟨w.heap.size + 1, 0, none⟩)] W fun e w' => e = .returned (.int .u8 82) ∧ Gs w w' s r 1) := fun W r hG => by
    have hc := gs_let w s 0 hs (by decide) W r hG
    rw [h] at hc
    exact hc
  obtain ⟨c0, V0⟩ : ∃ c, Hid (at0 s (1) = c) := ⟨_, rfl⟩
  have HC0 : Hid (∀ W r, Gs w W s r (1) → Calls Tryd.prog 72 #[.pointer (some ⟨w.heap.size + 1, 0, none⟩)] W fun e w' => e = .returned (.int .u8 (c0.toNat : Int)) ∧ Gs w w' s r (2)) := fun W r hG => by rw [← V0.out]; exact gs_let w s (1) hs (by decide) W r hG
  obtain ⟨c1, V1⟩ : ∃ c, Hid (rx s (2) = c) := ⟨_, rfl⟩
  have HC1 : Hid (∀ W r, Gs w W s r (2) → Calls Tryd.prog 74 #[.pointer (some ⟨w.heap.size + 1, 0, none⟩)] W fun e w' => e = .returned (.string c1) ∧ Gs w w' s r (nx s (2))) := fun W r hG => by rw [← V1.out]; exact gs_txt w s (2) hs (by decide) W r hG
  obtain ⟨c2, V2⟩ : ∃ c, Hid (rn s (nx s (2)) 1 = c) := ⟨_, rfl⟩
  have HC2 : Hid (∀ W r, Gs w W s r (nx s (2)) → Calls Tryd.prog 73 #[.pointer (some ⟨w.heap.size + 1, 0, none⟩), .int .i64 1] W fun e w' => e = .returned (.int .i64 (c2 : Int)) ∧ Gs w w' s r (nx s (2) + 1)) := fun W r hG => by rw [← V2.out]; exact gs_num w s (nx s (2)) 1 hs (by have b0 := nx_le s (2); omega) (by decide) W r hG
  have HOP : Hid (at0 s 0 = 82) := UInt8.toNat_inj.1 h
  clear h
  go_enter Tryd.func61, Tryd.ntmps61
  go_wp2_with fail
  refine (HC.out _ _ (Gs.start w s _ rfl)).mono ?_
  rintro e w0 ⟨rfl, hg⟩
  have f0 := hg.cell 0 (.int .u8 0) rfl
  have z0 := hg.fz 0
  have G0 : Hid (Gs w (w0.setCell ⟨w.heap.size + 1 + 1, 0, none⟩ (.int .u8 82)) s (opR 82) 1) := hg.set 0 _ rfl
  clear hg
  go_wp2_with fail
  refine (HC0.out _ _ G0.out).mono ?_
  rintro e w1 ⟨rfl, hg⟩
  have f1 := hg.cell 1 (.int .u8 0) rfl
  have z1 := hg.fz 1
  have G1 : Hid (Gs w (w1.setCell ⟨w.heap.size + 1 + 1, 1, none⟩ (.int .u8 (c0.toNat : Int))) s { opR 82 with q := c0 } (2)) := hg.set 1 _ rfl
  clear hg
  go_wp2_with fail
  refine (HC1.out _ _ G1.out).mono ?_
  rintro e w2 ⟨rfl, hg⟩
  have f2 := hg.cell 12 (.string ⟨#[]⟩) rfl
  have z2 := hg.fz 12
  have G2 : Hid (Gs w (w2.setCell ⟨w.heap.size + 1 + 1, 12, none⟩ (.string c1)) s { opR 82 with q := c0, att := c1 } (nx s (2))) := hg.set 12 _ rfl
  clear hg
  go_wp2_with fail
  refine (HC2.out _ _ G2.out).mono ?_
  rintro e w3 ⟨rfl, hg⟩
  have f3 := hg.cell 7 (.int .i64 0) rfl
  have z3 := hg.fz 7
  have G3 : Hid (Gs w (w3.setCell ⟨w.heap.size + 1 + 1, 7, none⟩ (.int .i64 (c2 : Int))) s { opR 82 with q := c0, att := c1, mx := (c2 : Int) } (nx s (2) + 1)) := hg.set 7 _ rfl
  clear hg
  go_wp2_with (first | (refine wpList_load_row rfl 37 _ rfl (w.heap.size + 1 + 1) rfl 37 _ (0, 0) _ G3.out.x Tryd.underlying37 rfl hinf ?_) | (refine wpList_store_row rfl 37 _ _ rfl w.heap.size _ rfl rfl 37 _ G3.out.res hinf rfl (cells_one _ _) ?_))
  rw [V0.out, V1.out, V2.out]
  refine bodyPost_ret (results_cell_row (p := 2) rfl _ _ w.heap.size 37 (cellsOf { opR 82 with q := c0, att := c1, mx := (c2 : Int) } nilS.v) (0, 0) _ rfl (setRow_heap _ _ _ _ 37 (0, 0) G3.out.res) Tryd.underlying37 rfl hinf) rfl ⟨rfl, ?_⟩
  exact Go.Proofs.YtbdobaapadlcjaaDoor.below_setRow G3.out.below (Nat.le_refl _) _
end Go.Proofs.YtbdobaapadlcjaaDoor.Ref

namespace Go.Proofs.YtbdobaapadlcjaaDoor.Ref
open Go.RowKit
set_option linter.unusedVariables false

set_option maxRecDepth 100000 in
set_option maxHeartbeats 2000000 in
theorem guessed_65 (s : ByteArray) (w : World) (hs : s.size ≤ maxLen) (h : (at0 s 0).toNat = 65) :
    Calls Tryd.prog 61 #[.string s] w fun e w' => e = .returned (.agg (cellsOf { opR 65 with han := rx s (1) } nilS.v)) ∧ Below w.heap.size w w' := by
  have hinf := info37
  have HC : Hid (∀ W r, Gs w W s r 0 → Calls Tryd.prog 72 #[.pointer (some ⟨w.heap.size + 1, 0, none⟩)] W fun e w' => e = .returned (.int .u8 65) ∧ Gs w w' s r 1) := fun W r hG => by
    have hc := gs_let w s 0 hs (by decide) W r hG
    rw [h] at hc
    exact hc
  obtain ⟨c0, V0⟩ : ∃ c, Hid (rx s (1) = c) := ⟨_, rfl⟩
  have HC0 : Hid (∀ W r, Gs w W s r (1) → Calls Tryd.prog 74 #[.pointer (some ⟨w.heap.size + 1, 0, none⟩)] W fun e w' => e = .returned (.string c0) ∧ Gs w w' s r (nx s (1))) := fun W r hG => by rw [← V0.out]; exact gs_txt w s (1) hs (by decide) W r hG
  have HOP : Hid (at0 s 0 = 65) := UInt8.toNat_inj.1 h
  clear h
  go_enter Tryd.func61, Tryd.ntmps61
  go_wp2_with fail
  refine (HC.out _ _ (Gs.start w s _ rfl)).mono ?_
  rintro e w0 ⟨rfl, hg⟩
  have f0 := hg.cell 0 (.int .u8 0) rfl
  have z0 := hg.fz 0
  have G0 : Hid (Gs w (w0.setCell ⟨w.heap.size + 1 + 1, 0, none⟩ (.int .u8 65)) s (opR 65) 1) := hg.set 0 _ rfl
  clear hg
  go_wp2_with fail
  refine (HC0.out _ _ G0.out).mono ?_
  rintro e w1 ⟨rfl, hg⟩
  have f1 := hg.cell 13 (.string ⟨#[]⟩) rfl
  have z1 := hg.fz 13
  have G1 : Hid (Gs w (w1.setCell ⟨w.heap.size + 1 + 1, 13, none⟩ (.string c0)) s { opR 65 with han := c0 } (nx s (1))) := hg.set 13 _ rfl
  clear hg
  go_wp2_with (first | (refine wpList_load_row rfl 37 _ rfl (w.heap.size + 1 + 1) rfl 37 _ (0, 0) _ G1.out.x Tryd.underlying37 rfl hinf ?_) | (refine wpList_store_row rfl 37 _ _ rfl w.heap.size _ rfl rfl 37 _ G1.out.res hinf rfl (cells_one _ _) ?_))
  rw [V0.out]
  refine bodyPost_ret (results_cell_row (p := 2) rfl _ _ w.heap.size 37 (cellsOf { opR 65 with han := c0 } nilS.v) (0, 0) _ rfl (setRow_heap _ _ _ _ 37 (0, 0) G1.out.res) Tryd.underlying37 rfl hinf) rfl ⟨rfl, ?_⟩
  exact Go.Proofs.YtbdobaapadlcjaaDoor.below_setRow G1.out.below (Nat.le_refl _) _

set_option maxRecDepth 100000 in
set_option maxHeartbeats 2000000 in
theorem guessed_69 (s : ByteArray) (w : World) (hs : s.size ≤ maxLen) (h : (at0 s 0).toNat = 69) :
    Calls Tryd.prog 61 #[.string s] w fun e w' => e = .returned (.agg (cellsOf { opR 69 with han := rx s (1), tic := (rn s (nx s (1)) 2 : Nat) } nilS.v)) ∧ Below w.heap.size w w' := by
  have hinf := info37
  have HC : Hid (∀ W r, Gs w W s r 0 → Calls Tryd.prog 72 #[.pointer (some ⟨w.heap.size + 1, 0, none⟩)] W fun e w' => e = .returned (.int .u8 69) ∧ Gs w w' s r 1) := fun W r hG => by
    have hc := gs_let w s 0 hs (by decide) W r hG
    rw [h] at hc
    exact hc
  obtain ⟨c0, V0⟩ : ∃ c, Hid (rx s (1) = c) := ⟨_, rfl⟩
  have HC0 : Hid (∀ W r, Gs w W s r (1) → Calls Tryd.prog 74 #[.pointer (some ⟨w.heap.size + 1, 0, none⟩)] W fun e w' => e = .returned (.string c0) ∧ Gs w w' s r (nx s (1))) := fun W r hG => by rw [← V0.out]; exact gs_txt w s (1) hs (by decide) W r hG
  obtain ⟨c1, V1⟩ : ∃ c, Hid (rn s (nx s (1)) 2 = c) := ⟨_, rfl⟩
  have HC1 : Hid (∀ W r, Gs w W s r (nx s (1)) → Calls Tryd.prog 73 #[.pointer (some ⟨w.heap.size + 1, 0, none⟩), .int .i64 2] W fun e w' => e = .returned (.int .i64 (c1 : Int)) ∧ Gs w w' s r (nx s (1) + 2)) := fun W r hG => by rw [← V1.out]; exact gs_num w s (nx s (1)) 2 hs (by have b0 := nx_le s (1); omega) (by decide) W r hG
  have HOP : Hid (at0 s 0 = 69) := UInt8.toNat_inj.1 h
  clear h
  go_enter Tryd.func61, Tryd.ntmps61
  go_wp2_with fail
  refine (HC.out _ _ (Gs.start w s _ rfl)).mono ?_
  rintro e w0 ⟨rfl, hg⟩
  have f0 := hg.cell 0 (.int .u8 0) rfl
  have z0 := hg.fz 0
  have G0 : Hid (Gs w (w0.setCell ⟨w.heap.size + 1 + 1, 0, none⟩ (.int .u8 69)) s (opR 69) 1) := hg.set 0 _ rfl
  clear hg
  go_wp2_with fail
  refine (HC0.out _ _ G0.out).mono ?_
  rintro e w1 ⟨rfl, hg⟩
  have f1 := hg.cell 13 (.string ⟨#[]⟩) rfl
  have z1 := hg.fz 13
  have G1 : Hid (Gs w (w1.setCell ⟨w.heap.size + 1 + 1, 13, none⟩ (.string c0)) s { opR 69 with han := c0 } (nx s (1))) := hg.set 13 _ rfl
  clear hg
  go_wp2_with fail
  refine (HC1.out _ _ G1.out).mono ?_
  rintro e w2 ⟨rfl, hg⟩
  have f2 := hg.cell 8 (.int .i64 0) rfl
  have z2 := hg.fz 8
  have G2 : Hid (Gs w (w2.setCell ⟨w.heap.size + 1 + 1, 8, none⟩ (.int .i64 (c1 : Int))) s { opR 69 with han := c0, tic := (c1 : Int) } (nx s (1) + 2)) := hg.set 8 _ rfl
  clear hg
  go_wp2_with (first | (refine wpList_load_row rfl 37 _ rfl (w.heap.size + 1 + 1) rfl 37 _ (0, 0) _ G2.out.x Tryd.underlying37 rfl hinf ?_) | (refine wpList_store_row rfl 37 _ _ rfl w.heap.size _ rfl rfl 37 _ G2.out.res hinf rfl (cells_one _ _) ?_))
  rw [V0.out, V1.out]
  refine bodyPost_ret (results_cell_row (p := 2) rfl _ _ w.heap.size 37 (cellsOf { opR 69 with han := c0, tic := (c1 : Int) } nilS.v) (0, 0) _ rfl (setRow_heap _ _ _ _ 37 (0, 0) G2.out.res) Tryd.underlying37 rfl hinf) rfl ⟨rfl, ?_⟩
  exact Go.Proofs.YtbdobaapadlcjaaDoor.below_setRow G2.out.below (Nat.le_refl _) _

set_option maxRecDepth 100000 in
set_option maxHeartbeats 2000000 in
theorem guessed_84 (s : ByteArray) (w : World) (hs : s.size ≤ maxLen) (h : (at0 s 0).toNat = 84) :
    Calls Tryd.prog 61 #[.string s] w fun e w' => e = .returned (.agg (cellsOf { opR 84 with tic := (rn s (1) 2 : Nat) } nilS.v)) ∧ Below w.heap.size w w' := by
  have hinf := info37
  have HC : Hid (∀ W r, Gs w W s r 0 → Calls Tryd.prog 72 #[.pointer (some ⟨w.heap.size + 1, 0, none⟩)] W fun e w' => e = .returned (.int .u8 84) ∧ Gs w w' s r 1) := fun W r hG => by
    have hc := gs_let w s 0 hs (by decide) W r hG
    rw [h] at hc
    exact hc
  obtain ⟨c0, V0⟩ : ∃ c, Hid (rn s (1) 2 = c) := ⟨_, rfl⟩
  have HC0 : Hid (∀ W r, Gs w W s r (1) → Calls Tryd.prog 73 #[.pointer (some ⟨w.heap.size + 1, 0, none⟩), .int .i64 2] W fun e w' => e = .returned (.int .i64 (c0 : Int)) ∧ Gs w w' s r (3)) := fun W r hG => by rw [← V0.out]; exact gs_num w s (1) 2 hs (by decide) (by decide) W r hG
  have HOP : Hid (at0 s 0 = 84) := UInt8.toNat_inj.1 h
  clear h
  go_enter Tryd.func61, Tryd.ntmps61
  go_wp2_with fail
  refine (HC.out _ _ (Gs.start w s _ rfl)).mono ?_
  rintro e w0 ⟨rfl, hg⟩
  have f0 := hg.cell 0 (.int .u8 0) rfl
  have z0 := hg.fz 0
  have G0 : Hid (Gs w (w0.setCell ⟨w.heap.size + 1 + 1, 0, none⟩ (.int .u8 84)) s (opR 84) 1) := hg.set 0 _ rfl
  clear hg
  go_wp2_with fail
  refine (HC0.out _ _ G0.out).mono ?_
  rintro e w1 ⟨rfl, hg⟩
  have f1 := hg.cell 8 (.int .i64 0) rfl
  have z1 := hg.fz 8
  have G1 : Hid (Gs w (w1.setCell ⟨w.heap.size + 1 + 1, 8, none⟩ (.int .i64 (c0 : Int))) s { opR 84 with tic := (c0 : Int) } (3)) := hg.set 8 _ rfl
  clear hg
  go_wp2_with (first | (refine wpList_load_row rfl 37 _ rfl (w.heap.size + 1 + 1) rfl 37 _ (0, 0) _ G1.out.x Tryd.underlying37 rfl hinf ?_) | (refine wpList_store_row rfl 37 _ _ rfl w.heap.size _ rfl rfl 37 _ G1.out.res hinf rfl (cells_one _ _) ?_))
  rw [V0.out]
  refine bodyPost_ret (results_cell_row (p := 2) rfl _ _ w.heap.size 37 (cellsOf { opR 84 with tic := (c0 : Int) } nilS.v) (0, 0) _ rfl (setRow_heap _ _ _ _ 37 (0, 0) G1.out.res) Tryd.underlying37 rfl hinf) rfl ⟨rfl, ?_⟩
  exact Go.Proofs.YtbdobaapadlcjaaDoor.below_setRow G1.out.below (Nat.le_refl _) _
end Go.Proofs.YtbdobaapadlcjaaDoor.Ref

namespace Go.Proofs.YtbdobaapadlcjaaDoor.Ref
open Go.RowKit
set_option linter.unusedVariables false

set_option maxRecDepth 100000 in
set_option maxHeartbeats 2000000 in
theorem guessed_88 (s : ByteArray) (w : World) (hs : s.size ≤ maxLen) (h : (at0 s 0).toNat = 88) :
    Calls Tryd.prog 61 #[.string s] w fun e w' => e = .returned (.agg (cellsOf { opR 88 with q := at0 s (1) } nilS.v)) ∧ Below w.heap.size w w' := by
  have hinf := info37
  have HC : Hid (∀ W r, Gs w W s r 0 → Calls Tryd.prog 72 #[.pointer (some ⟨w.heap.size + 1, 0, none⟩)] W fun e w' => e = .returned (.int .u8 88) ∧ Gs w w' s r 1) := fun W r hG => by
    have hc := gs_let w s 0 hs (by decide) W r hG
    rw [h] at hc
    exact hc
  obtain ⟨c0, V0⟩ : ∃ c, Hid (at0 s (1) = c) := ⟨_, rfl⟩
  have HC0 : Hid (∀ W r, Gs w W s r (1) → Calls Tryd.prog 72 #[.pointer (some ⟨w.heap.size + 1, 0, none⟩)] W fun e w' => e = .returned (.int .u8 (c0.toNat : Int)) ∧ Gs w w' s r (2)) := fun W r hG => by rw [← V0.out]; exact gs_let w s (1) hs (by decide) W r hG
  have HOP : Hid (at0 s 0 = 88) := UInt8.toNat_inj.1 h
  clear h
  go_enter Tryd.func61, Tryd.ntmps61
  go_wp2_with fail
  refine (HC.out _ _ (Gs.start w s _ rfl)).mono ?_
  rintro e w0 ⟨rfl, hg⟩
  have f0 := hg.cell 0 (.int .u8 0) rfl
  have z0 := hg.fz 0
  have G0 : Hid (Gs w (w0.setCell ⟨w.heap.size + 1 + 1, 0, none⟩ (.int .u8 88)) s (opR 88) 1) := hg.set 0 _ rfl
  clear hg
  go_wp2_with fail
  refine (HC0.out _ _ G0.out).mono ?_
  rintro e w1 ⟨rfl, hg⟩
  have f1 := hg.cell 1 (.int .u8 0) rfl
  have z1 := hg.fz 1
  have G1 : Hid (Gs w (w1.setCell ⟨w.heap.size + 1 + 1, 1, none⟩ (.int .u8 (c0.toNat : Int))) s { opR 88 with q := c0 } (2)) := hg.set 1 _ rfl
  clear hg
  go_wp2_with (first | (refine wpList_load_row rfl 37 _ rfl (w.heap.size + 1 + 1) rfl 37 _ (0, 0) _ G1.out.x Tryd.underlying37 rfl hinf ?_) | (refine wpList_store_row rfl 37 _ _ rfl w.heap.size _ rfl rfl 37 _ G1.out.res hinf rfl (cells_one _ _) ?_))
  rw [V0.out]
  refine bodyPost_ret (results_cell_row (p := 2) rfl _ _ w.heap.size 37 (cellsOf { opR 88 with q := c0 } nilS.v) (0, 0) _ rfl (setRow_heap _ _ _ _ 37 (0, 0) G1.out.res) Tryd.underlying37 rfl hinf) rfl ⟨rfl, ?_⟩
  exact Go.Proofs.YtbdobaapadlcjaaDoor.below_setRow G1.out.below (Nat.le_refl _) _

set_option maxRecDepth 100000 in
set_option maxHeartbeats 2000000 in
theorem guessed_80 (s : ByteArray) (w : World) (hs : s.size ≤ maxLen) (h : (at0 s 0).toNat = 80) :
    Calls Tryd.prog 61 #[.string s] w fun e w' => e = .returned (.agg (cellsOf { opR 80 with q := at0 s (1) } nilS.v)) ∧ Below w.heap.size w w' := by
  have hinf := info37
  have HC : Hid (∀ W r, Gs w W s r 0 → Calls Tryd.prog 72 #[.pointer (some ⟨w.heap.size + 1, 0, none⟩)] W fun e w' => e = .returned (.int .u8 80) ∧ Gs w w' s r 1) := fun W r hG => by
    have hc := gs_let w s 0 hs (by decide) W r hG
    rw [h] at hc
    exact hc
  obtain ⟨c0, V0⟩ : ∃ c, Hid (at0 s (1) = c) := ⟨_, rfl⟩
  have HC0 : Hid (∀ W r, Gs w W s r (1) → Calls Tryd.prog 72 #[.pointer (some ⟨w.heap.size + 1, 0, none⟩)] W fun e w' => e = .returned (.int .u8 (c0.toNat : Int)) ∧ Gs w w' s r (2)) := fun W r hG => by rw [← V0.out]; exact gs_let w s (1) hs (by decide) W r hG
  have HOP : Hid (at0 s 0 = 80) := UInt8.toNat_inj.1 h
  clear h
  go_enter Tryd.func61, Tryd.ntmps61
  go_wp2_with fail
  refine (HC.out _ _ (Gs.start w s _ rfl)).mono ?_
  rintro e w0 ⟨rfl, hg⟩
  have f0 := hg.cell 0 (.int .u8 0) rfl
  have z0 := hg.fz 0
  have G0 : Hid (Gs w (w0.setCell ⟨w.heap.size + 1 + 1, 0, none⟩ (.int .u8 80)) s (opR 80) 1) := hg.set 0 _ rfl
  clear hg
  go_wp2_with fail
  refine (HC0.out _ _ G0.out).mono ?_
  rintro e w1 ⟨rfl, hg⟩
  have f1 := hg.cell 1 (.int .u8 0) rfl
  have z1 := hg.fz 1
  have G1 : Hid (Gs w (w1.setCell ⟨w.heap.size + 1 + 1, 1, none⟩ (.int .u8 (c0.toNat : Int))) s { opR 80 with q := c0 } (2)) := hg.set 1 _ rfl
  clear hg
  go_wp2_with (first | (refine wpList_load_row rfl 37 _ rfl (w.heap.size + 1 + 1) rfl 37 _ (0, 0) _ G1.out.x Tryd.underlying37 rfl hinf ?_) | (refine wpList_store_row rfl 37 _ _ rfl w.heap.size _ rfl rfl 37 _ G1.out.res hinf rfl (cells_one _ _) ?_))
  rw [V0.out]
  refine bodyPost_ret (results_cell_row (p := 2) rfl _ _ w.heap.size 37 (cellsOf { opR 80 with q := c0 } nilS.v) (0, 0) _ rfl (setRow_heap _ _ _ _ 37 (0, 0) G1.out.res) Tryd.underlying37 rfl hinf) rfl ⟨rfl, ?_⟩
  exact Go.Proofs.YtbdobaapadlcjaaDoor.below_setRow G1.out.below (Nat.le_refl _) _

set_option maxRecDepth 100000 in
set_option maxHeartbeats 2000000 in
theorem guessed_86 (s : ByteArray) (w : World) (hs : s.size ≤ maxLen) (h : (at0 s 0).toNat = 86) :
    Calls Tryd.prog 61 #[.string s] w fun e w' => e = .returned (.agg (cellsOf { opR 86 with q := at0 s (1) } nilS.v)) ∧ Below w.heap.size w w' := by
  have hinf := info37
  have HC : Hid (∀ W r, Gs w W s r 0 → Calls Tryd.prog 72 #[.pointer (some ⟨w.heap.size + 1, 0, none⟩)] W fun e w' => e = .returned (.int .u8 86) ∧ Gs w w' s r 1) := fun W r hG => by
    have hc := gs_let w s 0 hs (by decide) W r hG
    rw [h] at hc
    exact hc
  obtain ⟨c0, V0⟩ : ∃ c, Hid (at0 s (1) = c) := ⟨_, rfl⟩
  have HC0 : Hid (∀ W r, Gs w W s r (1) → Calls Tryd.prog 72 #[.pointer (some ⟨w.heap.size + 1, 0, none⟩)] W fun e w' => e = .returned (.int .u8 (c0.toNat : Int)) ∧ Gs w w' s r (2)) := fun W r hG => by rw [← V0.out]; exact gs_let w s (1) hs (by decide) W r hG
  have HOP : Hid (at0 s 0 = 86) := UInt8.toNat_inj.1 h
  clear h
  go_enter Tryd.func61, Tryd.ntmps61
  go_wp2_with fail
  refine (HC.out _ _ (Gs.start w s _ rfl)).mono ?_
  rintro e w0 ⟨rfl, hg⟩
  have f0 := hg.cell 0 (.int .u8 0) rfl
  have z0 := hg.fz 0
  have G0 : Hid (Gs w (w0.setCell ⟨w.heap.size + 1 + 1, 0, none⟩ (.int .u8 86)) s (opR 86) 1) := hg.set 0 _ rfl
  clear hg
  go_wp2_with fail
  refine (HC0.out _ _ G0.out).mono ?_
  rintro e w1 ⟨rfl, hg⟩
  have f1 := hg.cell 1 (.int .u8 0) rfl
  have z1 := hg.fz 1
  have G1 : Hid (Gs w (w1.setCell ⟨w.heap.size + 1 + 1, 1, none⟩ (.int .u8 (c0.toNat : Int))) s { opR 86 with q := c0 } (2)) := hg.set 1 _ rfl
  clear hg
  go_wp2_with (first | (refine wpList_load_row rfl 37 _ rfl (w.heap.size + 1 + 1) rfl 37 _ (0, 0) _ G1.out.x Tryd.underlying37 rfl hinf ?_) | (refine wpList_store_row rfl 37 _ _ rfl w.heap.size _ rfl rfl 37 _ G1.out.res hinf rfl (cells_one _ _) ?_))
  rw [V0.out]
  refine bodyPost_ret (results_cell_row (p := 2) rfl _ _ w.heap.size 37 (cellsOf { opR 86 with q := c0 } nilS.v) (0, 0) _ rfl (setRow_heap _ _ _ _ 37 (0, 0) G1.out.res) Tryd.underlying37 rfl hinf) rfl ⟨rfl, ?_⟩
  exact Go.Proofs.YtbdobaapadlcjaaDoor.below_setRow G1.out.below (Nat.le_refl _) _
end Go.Proofs.YtbdobaapadlcjaaDoor.Ref

namespace Go.Proofs.YtbdobaapadlcjaaDoor.Ref
open Go.RowKit
open Go.Proofs.YtbdobaapadlcjaaDoor.Keep (OwnS OwnS.form OwnS.strs OwnS.snoc)
set_option linter.unusedVariables false

/-- k texts from a place on: where they end, and they. -/
def bp (s : ByteArray) : Nat → Nat → Nat
  | 0, p => p
  | k + 1, p => nx s (bp s k p)
def bt (s : ByteArray) : Nat → Nat → List ByteArray
  | 0, _ => []
  | k + 1, p => bt s k p ++ [rx s (bp s k p)]
theorem bt_length (s : ByteArray) (k p : Nat) : (bt s k p).length = k := by
  induction k with
  | zero => rfl
  | succ k ih => rw [bt, List.length_append, ih]; rfl
theorem bp_le (s : ByteArray) (k p : Nat) : bp s k p ≤ p + k * 256 := by
  induction k with
  | zero => exact Nat.le_add_right _ _
  | succ k ih => exact Nat.le_trans (nx_le s (bp s k p)) (by rw [Nat.succ_mul]; exact Nat.le_trans (Nat.add_le_add_right ih 256) (by rw [Nat.add_assoc]; exact Nat.le_refl _))
theorem rx_size (s : ByteArray) (p : Nat) : (rx s p).size ≤ 255 := by
  have := rn1 s p
  show (rt s (p + 1) (rn s p 1)).toArray.size ≤ 255
  simp [rt_length]; omega
/-- Where guessed stands in the loop of a B. -/
structure Gb (w W : World) (s : ByteArray) (a : Option Addr) (k c p : Nat) (l : List ByteArray) : Prop where
  below : Below w.heap.size w W
  res : Blk W w.heap.size (opR 0) nilS
  rd : Rr W (w.heap.size + 1) s p
  x : Blk W (w.heap.size + 1 + 1) (opR 66) ⟨a, k, c⟩
  own : OwnS W (w.heap.size + 1 + 1 + 1) (.slice a k c) l
theorem Gb.call {w W W' : World} {s : ByteArray} {a : Option Addr} {k c p q : Nat} {l : List ByteArray} (h : Gb w W s a k c p l) (g : W.grownBy W' (some (w.heap.size + 1))) (hr : Rr W' (w.heap.size + 1) s q) : Gb w W' s a k c q l := by
  refine ⟨Below.grown h.below g h.below.size (fun k hk => by have := Option.some.inj hk; omega),
   (g.block _ (Array.getElem?_eq_some_iff.1 h.res).1 (fun e => by have := Option.some.inj e; omega)).trans h.res, hr,
   (g.block _ (Array.getElem?_eq_some_iff.1 h.x).1 (fun e => by have := Option.some.inj e; omega)).trans h.x, ?_⟩
  refine World.ownsRow.kept h.own g ?_
  by_cases hb : (Value.slice a k c).ownBlock = none
  · exact Or.inl hb
  · right
    intro e
    have := (World.ownsRow.lt h.own _ e).1
    omega
set_option maxRecDepth 100000 in
set_option maxHeartbeats 2000000 in
theorem guessed_66 (s : ByteArray) (w : World) (hs : s.size ≤ maxLen) (h : (at0 s 0).toNat = 66) :
    Calls Tryd.prog 61 #[.string s] w fun e w' => (∃ a c, e = .returned (.agg (cellsOf (opR 66) (Sl.v ⟨a, rn s 1 1, c⟩))) ∧ FStrs w.heap.size w' a (bt s (rn s 1 1) 2)) ∧ Below w.heap.size w w' := by
  have hinf := info37
  obtain ⟨i0, hi, hz0, hz1, hz2⟩ := info_parts info9
  have HC : Hid (∀ W r, Gs w W s r 0 → Calls Tryd.prog 72 #[.pointer (some ⟨w.heap.size + 1, 0, none⟩)] W fun e w' => e = .returned (.int .u8 66) ∧ Gs w w' s r 1) := fun W r hG => by
    have hc := gs_let w s 0 hs (by decide) W r hG
    rw [h] at hc
    exact hc
  obtain ⟨n, V⟩ : ∃ c, Hid (rn s 1 1 = c) := ⟨_, rfl⟩
  have hn : n < 256 := by rw [← V.out]; exact rn1 s 1
  have HN : Hid (∀ W r, Gs w W s r 1 → Calls Tryd.prog 73 #[.pointer (some ⟨w.heap.size + 1, 0, none⟩), .int .i64 1] W fun e w' => e = .returned (.int .i64 (n : Int)) ∧ Gs w w' s r 2) := fun W r hG => by rw [← V.out]; exact gs_num w s 1 1 hs (by decide) (by decide) W r hG
  rw [V.out]
  clear h
  go_enter Tryd.func61, Tryd.ntmps61
  go_wp2_with fail
  refine (HC.out _ _ (Gs.start w s _ rfl)).mono ?_
  rintro e w0 ⟨rfl, hg⟩
  have f0 := hg.cell 0 (.int .u8 0) rfl
  have z0 := hg.fz 0
  have G0 : Hid (Gs w (w0.setCell ⟨w.heap.size + 1 + 1, 0, none⟩ (.int .u8 66)) s (opR 66) 1) := hg.set 0 _ rfl
  clear hg
  go_wp2_with fail
  refine (HN.out _ _ G0.out).mono ?_
  rintro e w1 ⟨rfl, hg⟩
  have G1 : Hid (Gs w w1 s (opR 66) 2) := hg
  clear hg
  go_wp2_with fail
  go_loopw [6] (fun v wr => ∃ (k : Nat) (a : Option Addr) (c : Nat), k ≤ n ∧ v = .int .i64 k ∧ Gb w wr s a k c (bp s k 2) (bt s k 2)) (fun v _ => n - (intOf v).toNat)
  case atStart => exact ⟨0, none, 0, Nat.zero_le _, rfl, G1.out.below, G1.out.res, G1.out.rd, G1.out.x, World.ownsRow_nil _ _ _ _⟩
  case round =>
    obtain ⟨k, a, c, hk, rfl, hg⟩ := hrel
    by_cases hlt : k < n
    · have hble := bp_le s k 2
      have HT : Hid (Calls Tryd.prog 74 #[.pointer (some ⟨w.heap.size + 1, 0, none⟩)] wr fun e w' => e = .returned (.string (rx s (bp s k 2))) ∧ Gb w w' s a k c (bp s (k + 1) 2) (bt s k 2)) :=
        (txt_any (w.heap.size + 1) s (bp s k 2) wr hs (by omega) hg.rd).mono fun e w' ⟨he, h1, h2⟩ => ⟨he, hg.call h2 h1⟩
      have HBT : Hid (bt s (k + 1) 2 = bt s k 2 ++ [rx s (bp s k 2)]) := rfl
      have HLK : Hid ((bt s k 2).length = k) := bt_length s k 2
      generalize rx s (bp s k 2) = T at HT HBT
      obtain ⟨Q, HQ⟩ : ∃ Q, Hid (bp s (k + 1) 2 = Q) := ⟨_, rfl⟩
      rw [HQ.out] at HT
      generalize bt s k 2 = L at HT HBT HLK
      have hltI : (k : Int) < (n : Int) := by omega
      clear hg hble
      go_wp2_with fail
      refine (HT.out).mono ?_
      rintro e w2 ⟨rfl, hg⟩
      have G2 : Hid (Gb w w2 s a k c Q L) := hg
      have hLle : L.length ≤ 256 := by rw [HLK.out]; omega
      have c14 : w2.cell? ⟨w.heap.size + 1 + 1, 14, none⟩ = some (.slice a k c) := hg.x.box 14 _ rfl
      have hsw : w.heap.size + 1 + 1 < w2.heap.size := (Array.getElem?_eq_some_iff.1 hg.x).1
      clear hg
      go_wp2_with (at_builtin; refine wpList_append_own _ rfl _ _ 28 rfl (w.heap.size + 1 + 1 + 1) 9 i0 (.string ⟨#[]⟩) 1 16 Tryd.underlying28 hi hz0 hz1 hz2 rfl (by decide) _ _ _ rfl (World.ownsRow.alloc G2.out.own _) ⟨w2.heap.size, 0, none⟩ 1 1 [.string T] rfl rfl ?c1 ?c2 ?c3 ?c4 ?c5 ?_)
      case c1 => exact cell_one_new _ _ _
      case c2 => intro u hu; simp at hu; subst hu; rfl
      case c3 => unfold maxLen; omega
      case c4 => omega
      case c5 => simp; omega
      intro v' w3 hown' hgrow _
      have hown3 : OwnS w3 (w.heap.size + 1 + 1 + 1) v' (L ++ [T]) := OwnS.snoc hown'
      obtain ⟨a', c', hv'⟩ := hown3.form
      have hL1 : (L ++ [T]).length = k + 1 := by rw [List.length_append, HLK.out]; rfl
      rw [hL1] at hv'
      have hb3 : Below (w.heap.size + 1 + 1 + 1) w2 w3 := by
        refine Below.grown ((Below.refl _ _).alloc (by omega) _) hgrow (by simp; omega) ?_
        intro q hq
        exact (World.ownsRow.lt G2.out.own q hq).1
      rw [hv'] at hown3 ⊢
      rw [← HBT.out] at hown3
      have hb2 : Blk w3 (w.heap.size + 1 + 1) (opR 66) ⟨a, k, c⟩ := by
        unfold Blk; rw [hb3.block _ (by omega)]; exact G2.out.x
      have c3 : w3.cell? ⟨w.heap.size + 1 + 1, 14, none⟩ = some (.slice a k c) := hb2.box 14 _ rfl
      have f3 := hb2.frozen 14
      have HF : Hid (Gb w (w3.setCell ⟨w.heap.size + 1 + 1, 14, none⟩ (.slice a' (k + 1) c')) s a' (k + 1) c' Q (bt s (k + 1) 2)) := by
        refine ⟨(G2.out.below.trans (hb3.mono (by omega))).setCell (by show _ ≤ w.heap.size + 1 + 1; omega) _, ?_, ?_, heap_setCell_same w3 (w.heap.size + 1 + 1) 14 _ 37 _ hb2, ownsRow_setCell_below hown3 (by show w.heap.size + 1 + 1 < _; omega) _⟩
        · unfold Blk
          rw [heap_setCell_other _ _ _ _ (by show w.heap.size ≠ w.heap.size + 1 + 1; omega), hb3.block _ (by omega)]; exact G2.out.res
        · unfold Rr
          rw [heap_setCell_other _ _ _ _ (by show w.heap.size + 1 ≠ w.heap.size + 1 + 1; omega), hb3.block _ (by omega)]; exact G2.out.rd
      clear hown' hgrow hown3 hb3 hb2 hL1 hv'
      go_wp2_with fail
      go_roundw
      case rel => exact ⟨k + 1, a', c', by omega, by go_num, by rw [HQ.out]; exact HF.out⟩
      case measure => simp [intOf]; omega
    · obtain rfl : k = n := by omega
      have HG : Hid (Gb w wr s a k c (bp s k 2) (bt s k 2)) := hg
      clear hg
      go_wp2_with (first | (refine wpList_load_row rfl 37 _ rfl (w.heap.size + 1 + 1) rfl 37 _ (0, 0) _ HG.out.x Tryd.underlying37 rfl hinf ?_) | (refine wpList_store_row rfl 37 _ _ rfl w.heap.size _ rfl rfl 37 _ HG.out.res hinf rfl (cells_one _ _) ?_))
      refine bodyPost_ret (results_cell_row (p := 2) rfl _ _ w.heap.size 37 (cellsOf (opR 66) (Sl.v ⟨a, k, c⟩)) (0, 0) _ rfl (setRow_heap _ _ _ _ 37 (0, 0) HG.out.res) Tryd.underlying37 rfl hinf) rfl ⟨⟨a, c, rfl, ?_⟩, Go.Proofs.YtbdobaapadlcjaaDoor.below_setRow HG.out.below (Nat.le_refl _) _⟩
      intro j hj
      obtain ⟨g, o, ha, hgl, hc⟩ := HG.out.own.strs j hj
      have e1 : (wr.setRow w.heap.size (cellsOf (opR 66) (Sl.v ⟨a, k, c⟩))).heap[g]? = wr.heap[g]? := setRow_other _ _ g _ (by omega)
      exact ⟨g, o, ha, by omega, (World.cell?_of_block (a := ⟨g, o + j, none⟩) e1).trans hc⟩
end Go.Proofs.YtbdobaapadlcjaaDoor.Ref

namespace Go.Proofs.YtbdobaapadlcjaaDoor.Ref
open Go.RowKit
set_option linter.unusedVariables false
set_option maxRecDepth 100000 in
set_option maxHeartbeats 2000000 in
theorem guessed_none (s : ByteArray) (w : World) (hs : s.size ≤ maxLen) (c : UInt8) (hcc : at0 s 0 = c) (h : c.toNat ≠ 67 ∧ c.toNat ≠ 88 ∧ c.toNat ≠ 80 ∧ c.toNat ≠ 86 ∧ c.toNat ≠ 83 ∧ c.toNat ≠ 82 ∧ c.toNat ≠ 65 ∧ c.toNat ≠ 69 ∧ c.toNat ≠ 84 ∧ c.toNat ≠ 66) :
    Calls Tryd.prog 61 #[.string s] w fun e w' => e = .returned (.agg (cellsOf (opR c) nilS.v)) ∧ Below w.heap.size w w' := by
  have hinf := info37
  have HC : Hid (∀ W r, Gs w W s r 0 → Calls Tryd.prog 72 #[.pointer (some ⟨w.heap.size + 1, 0, none⟩)] W fun e w' => e = .returned (.int .u8 (c.toNat : Int)) ∧ Gs w w' s r 1) := fun W r hG => by
    have hc := gs_let w s 0 hs (by decide) W r hG
    rw [hcc] at hc
    exact hc
  clear hcc
  obtain ⟨h67, h88, h80, h86, h83, h82, h65, h69, h84, h66⟩ := h
  have g67 : (((c.toNat : Nat) : Int) == 67) = false := hne _ 67 h67
  have g88 : (((c.toNat : Nat) : Int) == 88) = false := hne _ 88 h88
  have g80 : (((c.toNat : Nat) : Int) == 80) = false := hne _ 80 h80
  have g86 : (((c.toNat : Nat) : Int) == 86) = false := hne _ 86 h86
  have g83 : (((c.toNat : Nat) : Int) == 83) = false := hne _ 83 h83
  have g82 : (((c.toNat : Nat) : Int) == 82) = false := hne _ 82 h82
  have g65 : (((c.toNat : Nat) : Int) == 65) = false := hne _ 65 h65
  have g69 : (((c.toNat : Nat) : Int) == 69) = false := hne _ 69 h69
  have g84 : (((c.toNat : Nat) : Int) == 84) = false := hne _ 84 h84
  have g66 : (((c.toNat : Nat) : Int) == 66) = false := hne _ 66 h66
  clear h67 h88 h80 h86 h83 h82 h65 h69 h84 h66
  go_enter Tryd.func61, Tryd.ntmps61
  go_wp2_with fail
  refine (HC.out _ _ (Gs.start w s _ rfl)).mono ?_
  rintro e w0 ⟨rfl, hg⟩
  have f0 := hg.cell 0 (.int .u8 0) rfl
  have z0 := hg.fz 0
  have G0 : Hid (Gs w (w0.setCell ⟨w.heap.size + 1 + 1, 0, none⟩ (.int .u8 (c.toNat : Int))) s (opR c) 1) := hg.set 0 _ rfl
  clear hg
  go_wp2_with (first | (refine wpList_load_row rfl 37 _ rfl (w.heap.size + 1 + 1) rfl 37 _ (0, 0) _ G0.out.x Tryd.underlying37 rfl hinf ?_) | (refine wpList_store_row rfl 37 _ _ rfl w.heap.size _ rfl rfl 37 _ G0.out.res hinf rfl (cells_one _ _) ?_))
  refine bodyPost_ret (results_cell_row (p := 2) rfl _ _ w.heap.size 37 (cellsOf (opR c) nilS.v) (0, 0) _ rfl (setRow_heap _ _ _ _ 37 (0, 0) G0.out.res) Tryd.underlying37 rfl hinf) rfl ⟨rfl, ?_⟩
  exact Go.Proofs.YtbdobaapadlcjaaDoor.below_setRow G0.out.below (Nat.le_refl _) _
end Go.Proofs.YtbdobaapadlcjaaDoor.Ref
