/-
  THE WALKS of package wharfref's written (63), some of the Ops.
  THE WALK of package wharfref's written (63), the Op B.
-/
import Derived.Test.YtbdobaapadlcjaaDoorRfJ
namespace Go.Proofs.YtbdobaapadlcjaaDoor.Ref
open Go.RowKit
set_option linter.unusedSimpArgs false
set_option linter.unusedVariables false

set_option maxRecDepth 100000 in
set_option maxHeartbeats 2000000 in
theorem written_67 (r : Wp.Rq) (x : Sl) (bs : List ByteArray) (w : World) (h : r.op.toNat = 67) (h_vis : 0 ≤ r.vis ∧ r.vis ≤ 1000) (h_win : 0 ≤ r.win ∧ r.win ≤ 1000) (h_rcv : 0 ≤ r.rcv ∧ r.rcv ≤ 1000) (h_quo : 0 ≤ r.quo ∧ r.quo ≤ 1000) :
    Calls Tryd.prog 63 #[.agg (cellsOf r x.v)] w fun e w' => e = .returned (.string ⟨(r.op :: encL r bs (Wp.lay 2)).toArray⟩) ∧ Below w.heap.size w w' := by
  have hI : ((r.op.toNat : Nat) : Int) = 67 := by omega
  have HOP : Hid (r.op = 67) := UInt8.toNat_inj.1 h
  obtain ⟨n_vis, e_vis⟩ : ∃ v : Nat, r.vis = (v : Int) := ⟨r.vis.toNat, by omega⟩
  obtain ⟨n_win, e_win⟩ : ∃ v : Nat, r.win = (v : Int) := ⟨r.win.toNat, by omega⟩
  obtain ⟨n_rcv, e_rcv⟩ : ∃ v : Nat, r.rcv = (v : Int) := ⟨r.rcv.toNat, by omega⟩
  obtain ⟨n_quo, e_quo⟩ : ∃ v : Nat, r.quo = (v : Int) := ⟨r.quo.toNat, by omega⟩
  obtain ⟨A0, HA0⟩ : ∃ A, Hid (A = (⟨(lowB n_vis 2).toArray⟩ : ByteArray)) := ⟨_, rfl⟩
  have z0 : A0.size = 2 := by rw [HA0.out]; exact lowS_size _ _
  have HC0 : Hid (∀ W : World, Calls Tryd.prog 80 #[.int .i64 (n_vis : Int), .int .i64 2] W fun e w' => e = .returned (.string A0) ∧ Below W.heap.size W w') := fun W => by rw [HA0.out]; exact low_any n_vis 2 W (by omega) (by decide) (by decide)
  obtain ⟨A1, HA1⟩ : ∃ A, Hid (A = (⟨(lowB n_win 2).toArray⟩ : ByteArray)) := ⟨_, rfl⟩
  have z1 : A1.size = 2 := by rw [HA1.out]; exact lowS_size _ _
  have HC1 : Hid (∀ W : World, Calls Tryd.prog 80 #[.int .i64 (n_win : Int), .int .i64 2] W fun e w' => e = .returned (.string A1) ∧ Below W.heap.size W w') := fun W => by rw [HA1.out]; exact low_any n_win 2 W (by omega) (by decide) (by decide)
  obtain ⟨A2, HA2⟩ : ∃ A, Hid (A = (⟨(lowB n_rcv 1).toArray⟩ : ByteArray)) := ⟨_, rfl⟩
  have z2 : A2.size = 1 := by rw [HA2.out]; exact lowS_size _ _
  have HC2 : Hid (∀ W : World, Calls Tryd.prog 80 #[.int .i64 (n_rcv : Int), .int .i64 1] W fun e w' => e = .returned (.string A2) ∧ Below W.heap.size W w') := fun W => by rw [HA2.out]; exact low_any n_rcv 1 W (by omega) (by decide) (by decide)
  obtain ⟨A3, HA3⟩ : ∃ A, Hid (A = (⟨(lowB n_quo 1).toArray⟩ : ByteArray)) := ⟨_, rfl⟩
  have z3 : A3.size = 1 := by rw [HA3.out]; exact lowS_size _ _
  have HC3 : Hid (∀ W : World, Calls Tryd.prog 80 #[.int .i64 (n_quo : Int), .int .i64 1] W fun e w' => e = .returned (.string A3) ∧ Below W.heap.size W w') := fun W => by rw [HA3.out]; exact low_any n_quo 1 W (by omega) (by decide) (by decide)
  have E_vis : Hid (r.vis = (n_vis : Int)) := e_vis
  have E_win : Hid (r.win = (n_win : Int)) := e_win
  have E_rcv : Hid (r.rcv = (n_rcv : Int)) := e_rcv
  have E_quo : Hid (r.quo = (n_quo : Int)) := e_quo
  have hcone := conv_one
  have hcop : ∀ (W : World) (g : Nat), g = W.heap.size → (convert 48 9 (.slice (some ⟨g, 0, none⟩) 1 1)).run Tryd.prog (W.alloc (.cells #[.int .u8 67] 5)) = .ok (.string (b1 67)) (W.alloc (.cells #[.int .u8 67] 5)) := fun W g hg => conv_one W g 67 hg
  have hz1 : ∀ c, (b1 c).size = 1 := fun _ => rfl
  have HCL : Hid (cellsOf r x.v = #[.int .u8 67, .int .u8 (r.q.toNat : Int), .int .u8 (r.d.toNat : Int), .int .i64 (n_vis : Int), .int .i64 (n_win : Int), .int .i64 (n_rcv : Int), .int .i64 (n_quo : Int), .int .i64 r.mx, .int .i64 r.tic, .string r.grp, .string r.ded, .string r.bod, .string r.att, .string r.han, .slice x.a x.n x.c]) := by
    show _ = _
    unfold cellsOf Sl.v
    rw [hI, e_vis, e_win, e_rcv, e_quo]
  rw [HCL.out]
  clear h hI e_vis e_win e_rcv e_quo
  go_enter Tryd.func63, Tryd.ntmps63
  go_wp2_with fail
  refine (HC0.out _).mono ?_
  rintro e w1 ⟨rfl, hb⟩
  have HB1 : Hid (Below w.heap.size w w1) := (belowJ3 _ _ _ _).trans (hb.mono (by simp; omega))
  have HK1 : Hid (Blk w1 w.heap.size r x) := by
    show Blk _ _ _ _
    unfold Blk
    rw [hb.block w.heap.size (by simp; omega), heap3a, HCL.out]
  clear hb
  have c0_win : w1.cell? ⟨w.heap.size, 4, none⟩ = some (.int .i64 (n_win : Int)) := by rw [← E_win.out]; exact HK1.out.box 4 _ rfl
  go_wp2_with fail
  refine (HC1.out _).mono ?_
  rintro e w2 ⟨rfl, hb⟩
  have HB2 : Hid (Below w.heap.size w w2) := HB1.out.trans (hb.mono HB1.out.size)
  have HK2 : Hid (Blk w2 w.heap.size r x) := (hb.block w.heap.size (Array.getElem?_eq_some_iff.1 HK1.out).1).trans HK1.out
  clear hb
  have c1_rcv : w2.cell? ⟨w.heap.size, 5, none⟩ = some (.int .i64 (n_rcv : Int)) := by rw [← E_rcv.out]; exact HK2.out.box 5 _ rfl
  go_wp2_with fail
  refine (HC2.out _).mono ?_
  rintro e w3 ⟨rfl, hb⟩
  have HB3 : Hid (Below w.heap.size w w3) := HB2.out.trans (hb.mono HB2.out.size)
  have HK3 : Hid (Blk w3 w.heap.size r x) := (hb.block w.heap.size (Array.getElem?_eq_some_iff.1 HK2.out).1).trans HK2.out
  clear hb
  have c2_quo : w3.cell? ⟨w.heap.size, 6, none⟩ = some (.int .i64 (n_quo : Int)) := by rw [← E_quo.out]; exact HK3.out.box 6 _ rfl
  go_wp2_with fail
  refine (HC3.out _).mono ?_
  rintro e w4 ⟨rfl, hb⟩
  have HB4 : Hid (Below w.heap.size w w4) := HB3.out.trans (hb.mono HB3.out.size)
  have HK4 : Hid (Blk w4 w.heap.size r x) := (hb.block w.heap.size (Array.getElem?_eq_some_iff.1 HK3.out).1).trans HK3.out
  clear hb
  have cd : w4.cell? ⟨w.heap.size, 2, none⟩ = some (.int .u8 (r.d.toNat : Int)) := HK4.out.box 2 _ rfl
  go_wp2_with fail
  go_ret
  refine ⟨ret_str (ext_list ?_), HB4.out.alloc HB4.out.size _⟩
  rw [HA0.out, HA1.out, HA2.out, HA3.out, HOP.out]
  simp [ByteArray.data_append, b1, encL, encF, Wp.lay, Wp.layTab, Wp.shape, Wp.rowTab, Wp.Rq.let, Wp.Rq.num, Wp.Rq.txt, E_vis.out, E_win.out, E_rcv.out, E_quo.out, Int.toNat_natCast]
end Go.Proofs.YtbdobaapadlcjaaDoor.Ref

namespace Go.Proofs.YtbdobaapadlcjaaDoor.Ref
open Go.RowKit
set_option linter.unusedSimpArgs false
set_option linter.unusedVariables false

set_option maxRecDepth 100000 in
set_option maxHeartbeats 2000000 in
theorem written_83 (r : Wp.Rq) (x : Sl) (bs : List ByteArray) (w : World) (h : r.op.toNat = 83) (h_grp : r.grp.size ≤ 255) (h_ded : r.ded.size ≤ 255) (h_bod : r.bod.size ≤ 255) :
    Calls Tryd.prog 63 #[.agg (cellsOf r x.v)] w fun e w' => e = .returned (.string ⟨(r.op :: encL r bs (Wp.lay 18)).toArray⟩) ∧ Below w.heap.size w w' := by
  have hI : ((r.op.toNat : Nat) : Int) = 83 := by omega
  have HOP : Hid (r.op = 83) := UInt8.toNat_inj.1 h
  obtain ⟨A0, HA0⟩ : ∃ A, Hid (A = (⟨(txtB r.grp).toArray⟩ : ByteArray)) := ⟨_, rfl⟩
  have z0 : A0.size = 1 + r.grp.size := by rw [HA0.out]; show (txtB r.grp).toArray.size = _; simp [txtB_length]
  have HC0 : Hid (∀ W : World, Calls Tryd.prog 81 #[.string r.grp] W fun e w' => e = .returned (.string A0) ∧ Below W.heap.size W w') := fun W => by rw [HA0.out]; exact text_any r.grp W h_grp
  obtain ⟨A1, HA1⟩ : ∃ A, Hid (A = (⟨(txtB r.ded).toArray⟩ : ByteArray)) := ⟨_, rfl⟩
  have z1 : A1.size = 1 + r.ded.size := by rw [HA1.out]; show (txtB r.ded).toArray.size = _; simp [txtB_length]
  have HC1 : Hid (∀ W : World, Calls Tryd.prog 81 #[.string r.ded] W fun e w' => e = .returned (.string A1) ∧ Below W.heap.size W w') := fun W => by rw [HA1.out]; exact text_any r.ded W h_ded
  obtain ⟨A2, HA2⟩ : ∃ A, Hid (A = (⟨(txtB r.bod).toArray⟩ : ByteArray)) := ⟨_, rfl⟩
  have z2 : A2.size = 1 + r.bod.size := by rw [HA2.out]; show (txtB r.bod).toArray.size = _; simp [txtB_length]
  have HC2 : Hid (∀ W : World, Calls Tryd.prog 81 #[.string r.bod] W fun e w' => e = .returned (.string A2) ∧ Below W.heap.size W w') := fun W => by rw [HA2.out]; exact text_any r.bod W h_bod
  have hcone := conv_one
  have hcop : ∀ (W : World) (g : Nat), g = W.heap.size → (convert 48 9 (.slice (some ⟨g, 0, none⟩) 1 1)).run Tryd.prog (W.alloc (.cells #[.int .u8 83] 5)) = .ok (.string (b1 83)) (W.alloc (.cells #[.int .u8 83] 5)) := fun W g hg => conv_one W g 83 hg
  have hz1 : ∀ c, (b1 c).size = 1 := fun _ => rfl
  have HCL : Hid (cellsOf r x.v = #[.int .u8 83, .int .u8 (r.q.toNat : Int), .int .u8 (r.d.toNat : Int), .int .i64 r.vis, .int .i64 r.win, .int .i64 r.rcv, .int .i64 r.quo, .int .i64 r.mx, .int .i64 r.tic, .string r.grp, .string r.ded, .string r.bod, .string r.att, .string r.han, .slice x.a x.n x.c]) := by
    show _ = _
    unfold cellsOf Sl.v
    rw [hI]
  rw [HCL.out]
  clear h hI
  go_enter Tryd.func63, Tryd.ntmps63
  go_wp2_with fail
  refine (HC0.out _).mono ?_
  rintro e w1 ⟨rfl, hb⟩
  have HB1 : Hid (Below w.heap.size w w1) := (belowJ3 _ _ _ _).trans (hb.mono (by simp; omega))
  have HK1 : Hid (Blk w1 w.heap.size r x) := by
    show Blk _ _ _ _
    unfold Blk
    rw [hb.block w.heap.size (by simp; omega), heap3a, HCL.out]
  clear hb
  have c0_ded : w1.cell? ⟨w.heap.size, 10, none⟩ = some (.string r.ded) := HK1.out.box 10 _ rfl
  go_wp2_with fail
  refine (HC1.out _).mono ?_
  rintro e w2 ⟨rfl, hb⟩
  have HB2 : Hid (Below w.heap.size w w2) := HB1.out.trans (hb.mono HB1.out.size)
  have HK2 : Hid (Blk w2 w.heap.size r x) := (hb.block w.heap.size (Array.getElem?_eq_some_iff.1 HK1.out).1).trans HK1.out
  clear hb
  have c1_bod : w2.cell? ⟨w.heap.size, 11, none⟩ = some (.string r.bod) := HK2.out.box 11 _ rfl
  go_wp2_with fail
  refine (HC2.out _).mono ?_
  rintro e w3 ⟨rfl, hb⟩
  have HB3 : Hid (Below w.heap.size w w3) := HB2.out.trans (hb.mono HB2.out.size)
  have HK3 : Hid (Blk w3 w.heap.size r x) := (hb.block w.heap.size (Array.getElem?_eq_some_iff.1 HK2.out).1).trans HK2.out
  clear hb
  go_wp2_with fail
  go_ret
  refine ⟨ret_str (ext_list ?_), HB3.out⟩
  rw [HA0.out, HA1.out, HA2.out, HOP.out]
  simp [ByteArray.data_append, b1, encL, encF, Wp.lay, Wp.layTab, Wp.shape, Wp.rowTab, Wp.Rq.let, Wp.Rq.num, Wp.Rq.txt, Int.toNat_natCast]

set_option maxRecDepth 100000 in
set_option maxHeartbeats 2000000 in
theorem written_82 (r : Wp.Rq) (x : Sl) (bs : List ByteArray) (w : World) (h : r.op.toNat = 82) (h_mx : 0 ≤ r.mx ∧ r.mx ≤ 1000) (h_att : r.att.size ≤ 255) :
    Calls Tryd.prog 63 #[.agg (cellsOf r x.v)] w fun e w' => e = .returned (.string ⟨(r.op :: encL r bs (Wp.lay 17)).toArray⟩) ∧ Below w.heap.size w w' := by
  have hI : ((r.op.toNat : Nat) : Int) = 82 := by omega
  have HOP : Hid (r.op = 82) := UInt8.toNat_inj.1 h
  obtain ⟨n_mx, e_mx⟩ : ∃ v : Nat, r.mx = (v : Int) := ⟨r.mx.toNat, by omega⟩
  obtain ⟨A0, HA0⟩ : ∃ A, Hid (A = (⟨(txtB r.att).toArray⟩ : ByteArray)) := ⟨_, rfl⟩
  have z0 : A0.size = 1 + r.att.size := by rw [HA0.out]; show (txtB r.att).toArray.size = _; simp [txtB_length]
  have HC0 : Hid (∀ W : World, Calls Tryd.prog 81 #[.string r.att] W fun e w' => e = .returned (.string A0) ∧ Below W.heap.size W w') := fun W => by rw [HA0.out]; exact text_any r.att W h_att
  obtain ⟨A1, HA1⟩ : ∃ A, Hid (A = (⟨(lowB n_mx 1).toArray⟩ : ByteArray)) := ⟨_, rfl⟩
  have z1 : A1.size = 1 := by rw [HA1.out]; exact lowS_size _ _
  have HC1 : Hid (∀ W : World, Calls Tryd.prog 80 #[.int .i64 (n_mx : Int), .int .i64 1] W fun e w' => e = .returned (.string A1) ∧ Below W.heap.size W w') := fun W => by rw [HA1.out]; exact low_any n_mx 1 W (by omega) (by decide) (by decide)
  have E_mx : Hid (r.mx = (n_mx : Int)) := e_mx
  have hcone := conv_one
  have hcop : ∀ (W : World) (g : Nat), g = W.heap.size → (convert 48 9 (.slice (some ⟨g, 0, none⟩) 1 1)).run Tryd.prog (W.alloc (.cells #[.int .u8 82] 5)) = .ok (.string (b1 82)) (W.alloc (.cells #[.int .u8 82] 5)) := fun W g hg => conv_one W g 82 hg
  have hz1 : ∀ c, (b1 c).size = 1 := fun _ => rfl
  have HCL : Hid (cellsOf r x.v = #[.int .u8 82, .int .u8 (r.q.toNat : Int), .int .u8 (r.d.toNat : Int), .int .i64 r.vis, .int .i64 r.win, .int .i64 r.rcv, .int .i64 r.quo, .int .i64 (n_mx : Int), .int .i64 r.tic, .string r.grp, .string r.ded, .string r.bod, .string r.att, .string r.han, .slice x.a x.n x.c]) := by
    show _ = _
    unfold cellsOf Sl.v
    rw [hI, e_mx]
  rw [HCL.out]
  clear h hI e_mx
  go_enter Tryd.func63, Tryd.ntmps63
  go_wp2_with fail
  refine (HC0.out _).mono ?_
  rintro e w1 ⟨rfl, hb⟩
  have HB1 : Hid (Below w.heap.size w w1) := (belowJ3 _ _ _ _).trans (hb.mono (by simp; omega))
  have HK1 : Hid (Blk w1 w.heap.size r x) := by
    show Blk _ _ _ _
    unfold Blk
    rw [hb.block w.heap.size (by simp; omega), heap3a, HCL.out]
  clear hb
  have c0_mx : w1.cell? ⟨w.heap.size, 7, none⟩ = some (.int .i64 (n_mx : Int)) := by rw [← E_mx.out]; exact HK1.out.box 7 _ rfl
  go_wp2_with fail
  refine (HC1.out _).mono ?_
  rintro e w2 ⟨rfl, hb⟩
  have HB2 : Hid (Below w.heap.size w w2) := HB1.out.trans (hb.mono HB1.out.size)
  have HK2 : Hid (Blk w2 w.heap.size r x) := (hb.block w.heap.size (Array.getElem?_eq_some_iff.1 HK1.out).1).trans HK1.out
  clear hb
  go_wp2_with fail
  go_ret
  refine ⟨ret_str (ext_list ?_), HB2.out⟩
  rw [HA0.out, HA1.out, HOP.out]
  simp [ByteArray.data_append, b1, encL, encF, Wp.lay, Wp.layTab, Wp.shape, Wp.rowTab, Wp.Rq.let, Wp.Rq.num, Wp.Rq.txt, E_mx.out, Int.toNat_natCast]
end Go.Proofs.YtbdobaapadlcjaaDoor.Ref

namespace Go.Proofs.YtbdobaapadlcjaaDoor.Ref
open Go.RowKit
set_option linter.unusedSimpArgs false
set_option linter.unusedVariables false

set_option maxRecDepth 100000 in
set_option maxHeartbeats 2000000 in
theorem written_65 (r : Wp.Rq) (x : Sl) (bs : List ByteArray) (w : World) (h : r.op.toNat = 65) (h_han : r.han.size ≤ 255) :
    Calls Tryd.prog 63 #[.agg (cellsOf r x.v)] w fun e w' => e = .returned (.string ⟨(r.op :: encL r bs (Wp.lay 0)).toArray⟩) ∧ Below w.heap.size w w' := by
  have hI : ((r.op.toNat : Nat) : Int) = 65 := by omega
  have HOP : Hid (r.op = 65) := UInt8.toNat_inj.1 h
  obtain ⟨A0, HA0⟩ : ∃ A, Hid (A = (⟨(txtB r.han).toArray⟩ : ByteArray)) := ⟨_, rfl⟩
  have z0 : A0.size = 1 + r.han.size := by rw [HA0.out]; show (txtB r.han).toArray.size = _; simp [txtB_length]
  have HC0 : Hid (∀ W : World, Calls Tryd.prog 81 #[.string r.han] W fun e w' => e = .returned (.string A0) ∧ Below W.heap.size W w') := fun W => by rw [HA0.out]; exact text_any r.han W h_han
  have hcone := conv_one
  have hcop : ∀ (W : World) (g : Nat), g = W.heap.size → (convert 48 9 (.slice (some ⟨g, 0, none⟩) 1 1)).run Tryd.prog (W.alloc (.cells #[.int .u8 65] 5)) = .ok (.string (b1 65)) (W.alloc (.cells #[.int .u8 65] 5)) := fun W g hg => conv_one W g 65 hg
  have hz1 : ∀ c, (b1 c).size = 1 := fun _ => rfl
  have HCL : Hid (cellsOf r x.v = #[.int .u8 65, .int .u8 (r.q.toNat : Int), .int .u8 (r.d.toNat : Int), .int .i64 r.vis, .int .i64 r.win, .int .i64 r.rcv, .int .i64 r.quo, .int .i64 r.mx, .int .i64 r.tic, .string r.grp, .string r.ded, .string r.bod, .string r.att, .string r.han, .slice x.a x.n x.c]) := by
    show _ = _
    unfold cellsOf Sl.v
    rw [hI]
  rw [HCL.out]
  clear h hI
  go_enter Tryd.func63, Tryd.ntmps63
  go_wp2_with fail
  refine (HC0.out _).mono ?_
  rintro e w1 ⟨rfl, hb⟩
  have HB1 : Hid (Below w.heap.size w w1) := (belowJ3 _ _ _ _).trans (hb.mono (by simp; omega))
  have HK1 : Hid (Blk w1 w.heap.size r x) := by
    show Blk _ _ _ _
    unfold Blk
    rw [hb.block w.heap.size (by simp; omega), heap3a, HCL.out]
  clear hb
  go_wp2_with fail
  go_ret
  refine ⟨ret_str (ext_list ?_), HB1.out⟩
  rw [HA0.out, HOP.out]
  simp [ByteArray.data_append, b1, encL, encF, Wp.lay, Wp.layTab, Wp.shape, Wp.rowTab, Wp.Rq.let, Wp.Rq.num, Wp.Rq.txt, Int.toNat_natCast]

set_option maxRecDepth 100000 in
set_option maxHeartbeats 2000000 in
theorem written_69 (r : Wp.Rq) (x : Sl) (bs : List ByteArray) (w : World) (h : r.op.toNat = 69) (h_tic : 0 ≤ r.tic ∧ r.tic ≤ 1000) (h_han : r.han.size ≤ 255) :
    Calls Tryd.prog 63 #[.agg (cellsOf r x.v)] w fun e w' => e = .returned (.string ⟨(r.op :: encL r bs (Wp.lay 4)).toArray⟩) ∧ Below w.heap.size w w' := by
  have hI : ((r.op.toNat : Nat) : Int) = 69 := by omega
  have HOP : Hid (r.op = 69) := UInt8.toNat_inj.1 h
  obtain ⟨n_tic, e_tic⟩ : ∃ v : Nat, r.tic = (v : Int) := ⟨r.tic.toNat, by omega⟩
  obtain ⟨A0, HA0⟩ : ∃ A, Hid (A = (⟨(txtB r.han).toArray⟩ : ByteArray)) := ⟨_, rfl⟩
  have z0 : A0.size = 1 + r.han.size := by rw [HA0.out]; show (txtB r.han).toArray.size = _; simp [txtB_length]
  have HC0 : Hid (∀ W : World, Calls Tryd.prog 81 #[.string r.han] W fun e w' => e = .returned (.string A0) ∧ Below W.heap.size W w') := fun W => by rw [HA0.out]; exact text_any r.han W h_han
  obtain ⟨A1, HA1⟩ : ∃ A, Hid (A = (⟨(lowB n_tic 2).toArray⟩ : ByteArray)) := ⟨_, rfl⟩
  have z1 : A1.size = 2 := by rw [HA1.out]; exact lowS_size _ _
  have HC1 : Hid (∀ W : World, Calls Tryd.prog 80 #[.int .i64 (n_tic : Int), .int .i64 2] W fun e w' => e = .returned (.string A1) ∧ Below W.heap.size W w') := fun W => by rw [HA1.out]; exact low_any n_tic 2 W (by omega) (by decide) (by decide)
  have E_tic : Hid (r.tic = (n_tic : Int)) := e_tic
  have hcone := conv_one
  have hcop : ∀ (W : World) (g : Nat), g = W.heap.size → (convert 48 9 (.slice (some ⟨g, 0, none⟩) 1 1)).run Tryd.prog (W.alloc (.cells #[.int .u8 69] 5)) = .ok (.string (b1 69)) (W.alloc (.cells #[.int .u8 69] 5)) := fun W g hg => conv_one W g 69 hg
  have hz1 : ∀ c, (b1 c).size = 1 := fun _ => rfl
  have HCL : Hid (cellsOf r x.v = #[.int .u8 69, .int .u8 (r.q.toNat : Int), .int .u8 (r.d.toNat : Int), .int .i64 r.vis, .int .i64 r.win, .int .i64 r.rcv, .int .i64 r.quo, .int .i64 r.mx, .int .i64 (n_tic : Int), .string r.grp, .string r.ded, .string r.bod, .string r.att, .string r.han, .slice x.a x.n x.c]) := by
    show _ = _
    unfold cellsOf Sl.v
    rw [hI, e_tic]
  rw [HCL.out]
  clear h hI e_tic
  go_enter Tryd.func63, Tryd.ntmps63
  go_wp2_with fail
  refine (HC0.out _).mono ?_
  rintro e w1 ⟨rfl, hb⟩
  have HB1 : Hid (Below w.heap.size w w1) := (belowJ3 _ _ _ _).trans (hb.mono (by simp; omega))
  have HK1 : Hid (Blk w1 w.heap.size r x) := by
    show Blk _ _ _ _
    unfold Blk
    rw [hb.block w.heap.size (by simp; omega), heap3a, HCL.out]
  clear hb
  have c0_tic : w1.cell? ⟨w.heap.size, 8, none⟩ = some (.int .i64 (n_tic : Int)) := by rw [← E_tic.out]; exact HK1.out.box 8 _ rfl
  go_wp2_with fail
  refine (HC1.out _).mono ?_
  rintro e w2 ⟨rfl, hb⟩
  have HB2 : Hid (Below w.heap.size w w2) := HB1.out.trans (hb.mono HB1.out.size)
  have HK2 : Hid (Blk w2 w.heap.size r x) := (hb.block w.heap.size (Array.getElem?_eq_some_iff.1 HK1.out).1).trans HK1.out
  clear hb
  go_wp2_with fail
  go_ret
  refine ⟨ret_str (ext_list ?_), HB2.out⟩
  rw [HA0.out, HA1.out, HOP.out]
  simp [ByteArray.data_append, b1, encL, encF, Wp.lay, Wp.layTab, Wp.shape, Wp.rowTab, Wp.Rq.let, Wp.Rq.num, Wp.Rq.txt, E_tic.out, Int.toNat_natCast]

set_option maxRecDepth 100000 in
set_option maxHeartbeats 2000000 in
theorem written_84 (r : Wp.Rq) (x : Sl) (bs : List ByteArray) (w : World) (h : r.op.toNat = 84) (h_tic : 0 ≤ r.tic ∧ r.tic ≤ 1000) :
    Calls Tryd.prog 63 #[.agg (cellsOf r x.v)] w fun e w' => e = .returned (.string ⟨(r.op :: encL r bs (Wp.lay 19)).toArray⟩) ∧ Below w.heap.size w w' := by
  have hI : ((r.op.toNat : Nat) : Int) = 84 := by omega
  have HOP : Hid (r.op = 84) := UInt8.toNat_inj.1 h
  obtain ⟨n_tic, e_tic⟩ : ∃ v : Nat, r.tic = (v : Int) := ⟨r.tic.toNat, by omega⟩
  obtain ⟨A0, HA0⟩ : ∃ A, Hid (A = (⟨(lowB n_tic 2).toArray⟩ : ByteArray)) := ⟨_, rfl⟩
  have z0 : A0.size = 2 := by rw [HA0.out]; exact lowS_size _ _
  have HC0 : Hid (∀ W : World, Calls Tryd.prog 80 #[.int .i64 (n_tic : Int), .int .i64 2] W fun e w' => e = .returned (.string A0) ∧ Below W.heap.size W w') := fun W => by rw [HA0.out]; exact low_any n_tic 2 W (by omega) (by decide) (by decide)
  have E_tic : Hid (r.tic = (n_tic : Int)) := e_tic
  have hcone := conv_one
  have hcop : ∀ (W : World) (g : Nat), g = W.heap.size → (convert 48 9 (.slice (some ⟨g, 0, none⟩) 1 1)).run Tryd.prog (W.alloc (.cells #[.int .u8 84] 5)) = .ok (.string (b1 84)) (W.alloc (.cells #[.int .u8 84] 5)) := fun W g hg => conv_one W g 84 hg
  have hz1 : ∀ c, (b1 c).size = 1 := fun _ => rfl
  have HCL : Hid (cellsOf r x.v = #[.int .u8 84, .int .u8 (r.q.toNat : Int), .int .u8 (r.d.toNat : Int), .int .i64 r.vis, .int .i64 r.win, .int .i64 r.rcv, .int .i64 r.quo, .int .i64 r.mx, .int .i64 (n_tic : Int), .string r.grp, .string r.ded, .string r.bod, .string r.att, .string r.han, .slice x.a x.n x.c]) := by
    show _ = _
    unfold cellsOf Sl.v
    rw [hI, e_tic]
  rw [HCL.out]
  clear h hI e_tic
  go_enter Tryd.func63, Tryd.ntmps63
  go_wp2_with fail
  refine (HC0.out _).mono ?_
  rintro e w1 ⟨rfl, hb⟩
  have HB1 : Hid (Below w.heap.size w w1) := (belowJ3 _ _ _ _).trans (hb.mono (by simp; omega))
  have HK1 : Hid (Blk w1 w.heap.size r x) := by
    show Blk _ _ _ _
    unfold Blk
    rw [hb.block w.heap.size (by simp; omega), heap3a, HCL.out]
  clear hb
  go_wp2_with fail
  go_ret
  refine ⟨ret_str (ext_list ?_), HB1.out⟩
  rw [HA0.out, HOP.out]
  simp [ByteArray.data_append, b1, encL, encF, Wp.lay, Wp.layTab, Wp.shape, Wp.rowTab, Wp.Rq.let, Wp.Rq.num, Wp.Rq.txt, E_tic.out, Int.toNat_natCast]
end Go.Proofs.YtbdobaapadlcjaaDoor.Ref

namespace Go.Proofs.YtbdobaapadlcjaaDoor.Ref
open Go.RowKit
set_option linter.unusedSimpArgs false
set_option linter.unusedVariables false

set_option maxRecDepth 100000 in
set_option maxHeartbeats 2000000 in
theorem written_88 (r : Wp.Rq) (x : Sl) (bs : List ByteArray) (w : World) (h : r.op.toNat = 88) :
    Calls Tryd.prog 63 #[.agg (cellsOf r x.v)] w fun e w' => e = .returned (.string ⟨(r.op :: encL r bs (Wp.lay 23)).toArray⟩) ∧ Below w.heap.size w w' := by
  have hI : ((r.op.toNat : Nat) : Int) = 88 := by omega
  have HOP : Hid (r.op = 88) := UInt8.toNat_inj.1 h
  have hcone := conv_one
  have hcop : ∀ (W : World) (g : Nat), g = W.heap.size → (convert 48 9 (.slice (some ⟨g, 0, none⟩) 1 1)).run Tryd.prog (W.alloc (.cells #[.int .u8 88] 5)) = .ok (.string (b1 88)) (W.alloc (.cells #[.int .u8 88] 5)) := fun W g hg => conv_one W g 88 hg
  have hz1 : ∀ c, (b1 c).size = 1 := fun _ => rfl
  have HCL : Hid (cellsOf r x.v = #[.int .u8 88, .int .u8 (r.q.toNat : Int), .int .u8 (r.d.toNat : Int), .int .i64 r.vis, .int .i64 r.win, .int .i64 r.rcv, .int .i64 r.quo, .int .i64 r.mx, .int .i64 r.tic, .string r.grp, .string r.ded, .string r.bod, .string r.att, .string r.han, .slice x.a x.n x.c]) := by
    show _ = _
    unfold cellsOf Sl.v
    rw [hI]
  rw [HCL.out]
  clear h hI
  go_enter Tryd.func63, Tryd.ntmps63
  go_wp2_with fail
  go_ret
  refine ⟨ret_str (ext_list ?_), belowJ3 _ _ _ _⟩
  rw [HOP.out]
  simp [ByteArray.data_append, b1, encL, encF, Wp.lay, Wp.layTab, Wp.shape, Wp.rowTab, Wp.Rq.let, Wp.Rq.num, Wp.Rq.txt, Int.toNat_natCast]

set_option maxRecDepth 100000 in
set_option maxHeartbeats 2000000 in
theorem written_80 (r : Wp.Rq) (x : Sl) (bs : List ByteArray) (w : World) (h : r.op.toNat = 80) :
    Calls Tryd.prog 63 #[.agg (cellsOf r x.v)] w fun e w' => e = .returned (.string ⟨(r.op :: encL r bs (Wp.lay 15)).toArray⟩) ∧ Below w.heap.size w w' := by
  have hI : ((r.op.toNat : Nat) : Int) = 80 := by omega
  have HOP : Hid (r.op = 80) := UInt8.toNat_inj.1 h
  have hcone := conv_one
  have hcop : ∀ (W : World) (g : Nat), g = W.heap.size → (convert 48 9 (.slice (some ⟨g, 0, none⟩) 1 1)).run Tryd.prog (W.alloc (.cells #[.int .u8 80] 5)) = .ok (.string (b1 80)) (W.alloc (.cells #[.int .u8 80] 5)) := fun W g hg => conv_one W g 80 hg
  have hz1 : ∀ c, (b1 c).size = 1 := fun _ => rfl
  have HCL : Hid (cellsOf r x.v = #[.int .u8 80, .int .u8 (r.q.toNat : Int), .int .u8 (r.d.toNat : Int), .int .i64 r.vis, .int .i64 r.win, .int .i64 r.rcv, .int .i64 r.quo, .int .i64 r.mx, .int .i64 r.tic, .string r.grp, .string r.ded, .string r.bod, .string r.att, .string r.han, .slice x.a x.n x.c]) := by
    show _ = _
    unfold cellsOf Sl.v
    rw [hI]
  rw [HCL.out]
  clear h hI
  go_enter Tryd.func63, Tryd.ntmps63
  go_wp2_with fail
  go_ret
  refine ⟨ret_str (ext_list ?_), belowJ3 _ _ _ _⟩
  rw [HOP.out]
  simp [ByteArray.data_append, b1, encL, encF, Wp.lay, Wp.layTab, Wp.shape, Wp.rowTab, Wp.Rq.let, Wp.Rq.num, Wp.Rq.txt, Int.toNat_natCast]

set_option maxRecDepth 100000 in
set_option maxHeartbeats 2000000 in
theorem written_86 (r : Wp.Rq) (x : Sl) (bs : List ByteArray) (w : World) (h : r.op.toNat = 86) :
    Calls Tryd.prog 63 #[.agg (cellsOf r x.v)] w fun e w' => e = .returned (.string ⟨(r.op :: encL r bs (Wp.lay 21)).toArray⟩) ∧ Below w.heap.size w w' := by
  have hI : ((r.op.toNat : Nat) : Int) = 86 := by omega
  have HOP : Hid (r.op = 86) := UInt8.toNat_inj.1 h
  have hcone := conv_one
  have hcop : ∀ (W : World) (g : Nat), g = W.heap.size → (convert 48 9 (.slice (some ⟨g, 0, none⟩) 1 1)).run Tryd.prog (W.alloc (.cells #[.int .u8 86] 5)) = .ok (.string (b1 86)) (W.alloc (.cells #[.int .u8 86] 5)) := fun W g hg => conv_one W g 86 hg
  have hz1 : ∀ c, (b1 c).size = 1 := fun _ => rfl
  have HCL : Hid (cellsOf r x.v = #[.int .u8 86, .int .u8 (r.q.toNat : Int), .int .u8 (r.d.toNat : Int), .int .i64 r.vis, .int .i64 r.win, .int .i64 r.rcv, .int .i64 r.quo, .int .i64 r.mx, .int .i64 r.tic, .string r.grp, .string r.ded, .string r.bod, .string r.att, .string r.han, .slice x.a x.n x.c]) := by
    show _ = _
    unfold cellsOf Sl.v
    rw [hI]
  rw [HCL.out]
  clear h hI
  go_enter Tryd.func63, Tryd.ntmps63
  go_wp2_with fail
  go_ret
  refine ⟨ret_str (ext_list ?_), belowJ3 _ _ _ _⟩
  rw [HOP.out]
  simp [ByteArray.data_append, b1, encL, encF, Wp.lay, Wp.layTab, Wp.shape, Wp.rowTab, Wp.Rq.let, Wp.Rq.num, Wp.Rq.txt, Int.toNat_natCast]
end Go.Proofs.YtbdobaapadlcjaaDoor.Ref

namespace Go.Proofs.YtbdobaapadlcjaaDoor.Ref
open Go.RowKit
set_option linter.unusedSimpArgs false
set_option linter.unusedVariables false

set_option maxRecDepth 100000 in
set_option maxHeartbeats 2000000 in
theorem written_66 (r : Wp.Rq) (xa : Option Addr) (xc : Nat) (bs : List ByteArray) (w : World) (h : r.op.toNat = 66) (hn : bs.length ≤ 10) (hbs : ∀ s ∈ bs, s.size ≤ 255) (hS : Strs w xa bs) :
    Calls Tryd.prog 63 #[.agg (cellsOf r (.slice xa bs.length xc))] w fun e w' => e = .returned (.string ⟨(r.op :: encL r bs (Wp.lay 1)).toArray⟩) ∧ Below w.heap.size w w' := by
  have hI : ((r.op.toNat : Nat) : Int) = 66 := by omega
  have HOP : Hid (r.op = 66) := UInt8.toNat_inj.1 h
  have HS : Hid (Strs w xa bs) := hS
  have HBS : Hid (∀ s ∈ bs, s.size ≤ 255) := hbs
  obtain ⟨A, HA⟩ : ∃ A, Hid (A = (⟨(lowB bs.length 1).toArray⟩ : ByteArray)) := ⟨_, rfl⟩
  have zA : A.size = 1 := by rw [HA.out]; exact lowS_size _ _
  have HC : Hid (∀ W : World, Calls Tryd.prog 80 #[.int .i64 (bs.length : Int), .int .i64 1] W fun e w' => e = .returned (.string A) ∧ Below W.heap.size W w') := fun W => by rw [HA.out]; exact low_any bs.length 1 W (by omega) (by decide) (by decide)
  have hcone := conv_one
  have hcop : ∀ (W : World) (g : Nat), g = W.heap.size → (convert 48 9 (.slice (some ⟨g, 0, none⟩) 1 1)).run Tryd.prog (W.alloc (.cells #[.int .u8 66] 5)) = .ok (.string (b1 66)) (W.alloc (.cells #[.int .u8 66] 5)) := fun W g hg => conv_one W g 66 hg
  have hz1 : ∀ c, (b1 c).size = 1 := fun _ => rfl
  have HCL : Hid (cellsOf r (Sl.v ⟨xa, bs.length, xc⟩) = #[.int .u8 66, .int .u8 (r.q.toNat : Int), .int .u8 (r.d.toNat : Int), .int .i64 r.vis, .int .i64 r.win, .int .i64 r.rcv, .int .i64 r.quo, .int .i64 r.mx, .int .i64 r.tic, .string r.grp, .string r.ded, .string r.bod, .string r.att, .string r.han, .slice xa bs.length xc]) := by
    show _ = _
    unfold cellsOf Sl.v
    rw [hI]
  rw [show cellsOf r (.slice xa bs.length xc) = cellsOf r (Sl.v ⟨xa, bs.length, xc⟩) from rfl, HCL.out]
  clear h hI hS hbs
  go_enter Tryd.func63, Tryd.ntmps63
  go_wp2_with fail
  refine (HC.out _).mono ?_
  rintro e w1 ⟨rfl, hb⟩
  have HB1 : Hid (Below w.heap.size w w1) := (belowJ3 _ _ _ _).trans (hb.mono (by simp; omega))
  have HK1 : Hid (Blk w1 w.heap.size r ⟨xa, bs.length, xc⟩) := by
    show Blk _ _ _ _
    unfold Blk
    rw [hb.block w.heap.size (by simp; omega), heap3a, HCL.out]
  clear hb
  have hsz : (b1 66 ++ A).size = 2 := by rw [ByteArray.size_append, zA]; rfl
  go_wp2_with fail
  go_loopw [18, 19] (fun v i wr => ∃ k : Nat, k ≤ bs.length ∧ i = .int .i64 k ∧ v = .string ⟨(66 :: (lowB bs.length 1 ++ txtsB (bs.take k))).toArray⟩ ∧ Below w.heap.size w wr ∧ Blk wr w.heap.size r ⟨xa, bs.length, xc⟩) (fun _ i _ => bs.length - (intOf i).toNat)
  case atStart =>
    refine ⟨0, Nat.zero_le _, rfl, congrArg Value.string (ext_list ?_), HB1.out, HK1.out⟩
    rw [HA.out]
    simp [ByteArray.data_append, b1, txtsB]
  case round =>
    obtain ⟨k, hk, rfl, rfl, hbw, hkb⟩ := hrel
    have HBW : Hid (Below w.heap.size w wr) := hbw
    have HK : Hid (Blk wr w.heap.size r ⟨xa, bs.length, xc⟩) := hkb
    have c14 : wr.cell? ⟨w.heap.size, 14, none⟩ = some (.slice xa bs.length xc) := hkb.box 14 _ rfl
    obtain ⟨T, HT⟩ : ∃ T, Hid (T = (⟨(66 :: (lowB bs.length 1 ++ txtsB (bs.take k))).toArray⟩ : ByteArray)) := ⟨_, rfl⟩
    have hTs : T.size ≤ 3000 := by
      rw [HT.out]
      show (66 :: (lowB bs.length 1 ++ txtsB (bs.take k))).toArray.size ≤ 3000
      have h1 := txtsB_short (bs.take k) (fun s hs => HBS.out s (List.mem_of_mem_take hs))
      have h2 : (bs.take k).length ≤ 10 := by rw [List.length_take]; omega
      simp [lowB_length]
      omega
    rw [← HT.out]
    by_cases hlt : k < bs.length
    · obtain ⟨g, o, rfl, hc⟩ := HS.out k hlt
      have hg : g < w.heap.size := World.block_lt_of_cell? _ _ hc
      have hd := (hbw.cell (p := ⟨g, o + k, none⟩) hg).trans hc
      have htk : Hid (txtsB (bs.take (k + 1)) = txtsB (bs.take k) ++ txtB bs[k]) := by
        show _ = _
        rw [List.take_succ_eq_append_getElem hlt, txtsB, List.flatMap_append, List.flatMap_singleton]
        rfl
      have hx := HBS.out bs[k] (List.getElem_mem hlt)
      have hltI : (k : Int) < (bs.length : Int) := by omega
      generalize bs[k] = X at hc hd htk hx
      obtain ⟨A2, HA2⟩ : ∃ A, Hid (A = (⟨(txtB X).toArray⟩ : ByteArray)) := ⟨_, rfl⟩
      have z2 : A2.size = 1 + X.size := by rw [HA2.out]; show (txtB X).toArray.size = _; simp [txtB_length]
      have HC2 : Hid (∀ W : World, Calls Tryd.prog 81 #[.string X] W fun e w' => e = .returned (.string A2) ∧ Below W.heap.size W w') := fun W => by rw [HA2.out]; exact text_any X W hx
      clear hbw hkb hc
      go_wp2_with fail
      refine (HC2.out _).mono ?_
      rintro e w2 ⟨rfl, hb⟩
      have HB2 : Hid (Below w.heap.size w w2) := HBW.out.trans (hb.mono HBW.out.size)
      have HK2 : Hid (Blk w2 w.heap.size r ⟨some ⟨g, o, none⟩, bs.length, xc⟩) := (hb.block w.heap.size (Array.getElem?_eq_some_iff.1 HK.out).1).trans HK.out
      clear hb
      go_wp2_with fail
      go_roundw
      case rel =>
        refine ⟨k + 1, by omega, by go_num, congrArg Value.string (ext_list ?_), HB2.out, HK2.out⟩
        rw [HT.out, HA2.out, htk.out]
        simp [ByteArray.data_append]
      case measure => simp [intOf]; omega
    · have he : bs.take k = bs := List.take_of_length_le (by omega)
      rw [he] at HT
      have hltI : ¬ (k : Int) < (bs.length : Int) := by omega
      clear hbw hkb
      go_wp2_with fail
      go_ret
      refine ⟨ret_str (ext_list ?_), HBW.out⟩
      rw [HT.out, HOP.out]
      simp [encL, encF, Wp.lay, Wp.layTab, Wp.shape, Wp.rowTab]
end Go.Proofs.YtbdobaapadlcjaaDoor.Ref
