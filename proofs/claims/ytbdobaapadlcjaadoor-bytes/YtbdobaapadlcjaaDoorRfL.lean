/-
  WHAT the walks of package wharfref's guessed (61) share.
-/
import Derived.Test.YtbdobaapadlcjaaDoorRfC
import Derived.Test.YtbdobaapadlcjaaDoorBackE
namespace Go.Proofs.YtbdobaapadlcjaaDoor.Ref
open Go.RowKit
set_option linter.unusedVariables false
def nx (s : ByteArray) (p : Nat) : Nat := p + 1 + rn s p 1
theorem nx_le (s : ByteArray) (p : Nat) : nx s p ≤ p + 256 := by have := rn1 s p; unfold nx; omega
def nilS : Sl := ⟨none, 0, 0⟩
/-- Where guessed stands: the result's block, the reader's, the request's. -/
structure Gs (w W : World) (s : ByteArray) (r : Wp.Rq) (p : Nat) : Prop where
  below : Below w.heap.size w W
  res : Blk W w.heap.size (opR 0) nilS
  rd : Rr W (w.heap.size + 1) s p
  x : Blk W (w.heap.size + 1 + 1) r nilS
theorem Gs.call {w W W' : World} {s : ByteArray} {r : Wp.Rq} {p q : Nat} (h : Gs w W s r p) (g : W.grownBy W' (some (w.heap.size + 1))) (hr : Rr W' (w.heap.size + 1) s q) : Gs w W' s r q :=
  ⟨Below.grown h.below g h.below.size (fun k hk => by have := Option.some.inj hk; omega),
   (g.block _ (Array.getElem?_eq_some_iff.1 h.res).1 (fun e => by have := Option.some.inj e; omega)).trans h.res, hr,
   (g.block _ (Array.getElem?_eq_some_iff.1 h.x).1 (fun e => by have := Option.some.inj e; omega)).trans h.x⟩
theorem Gs.set {w W : World} {s : ByteArray} {r r' : Wp.Rq} {p : Nat} (h : Gs w W s r p) (o : Nat) (v : Value) (hc : (cellsOf r nilS.v).setIfInBounds o v = cellsOf r' nilS.v) : Gs w (W.setCell ⟨w.heap.size + 1 + 1, o, none⟩ v) s r' p := by
  refine ⟨h.below.setCell (by show w.heap.size ≤ w.heap.size + 1 + 1; omega) _, ?_, ?_, ?_⟩
  · exact (heap_setCell_other _ _ _ _ (by show w.heap.size ≠ w.heap.size + 1 + 1; omega)).trans h.res
  · exact (heap_setCell_other _ _ _ _ (by show w.heap.size + 1 ≠ w.heap.size + 1 + 1; omega)).trans h.rd
  · have e := heap_setCell_same W (w.heap.size + 1 + 1) o _ 37 v h.x
    rw [hc] at e
    exact e
theorem Gs.start (w : World) (s : ByteArray) (C : Array Value) (hC : C = cellsOf (opR 0) nilS.v) : Gs w (((w.alloc (.cells C 37)).alloc (.cells #[.string s, .int .i64 0] 108)).alloc (.cells C 37)) s (opR 0) 0 := by
  subst hC
  refine ⟨(((Below.refl _ _).alloc (Nat.le_refl _) _).alloc (by simp) _).alloc (by simp; omega) _, ?_, ?_, ?_⟩
  · show _ = _
    rw [Below.heap_alloc _ _ _ (by simp; omega), heap_alloc2_old]
  · show _ = _
    rw [Below.heap_alloc _ _ _ (by simp), heap_alloc2_new]; rfl
  · have h := heap_alloc_new ((w.alloc (.cells (cellsOf (opR 0) nilS.v) 37)).alloc (.cells #[.string s, .int .i64 0] 108)) (.cells (cellsOf (opR 0) nilS.v) 37)
    rw [World.size_alloc, World.size_alloc] at h
    exact h
theorem gs_let (w : World) (s : ByteArray) (p : Nat) (hs : s.size ≤ maxLen) (hp : p ≤ 900000) (W : World) (r : Wp.Rq) (h : Gs w W s r p) :
    Calls Tryd.prog 72 #[.pointer (some ⟨w.heap.size + 1, 0, none⟩)] W fun e w' => e = .returned (.int .u8 ((at0 s p).toNat : Int)) ∧ Gs w w' s r (p + 1) :=
  (lett_any (w.heap.size + 1) s p W hs (by omega) h.rd).mono fun e w' ⟨he, h1, h2⟩ => ⟨he, h.call h2 h1⟩
theorem gs_num (w : World) (s : ByteArray) (p n : Nat) (hs : s.size ≤ maxLen) (hp : p ≤ 900000) (hn : n ≤ 2) (W : World) (r : Wp.Rq) (h : Gs w W s r p) :
    Calls Tryd.prog 73 #[.pointer (some ⟨w.heap.size + 1, 0, none⟩), .int .i64 (n : Int)] W fun e w' => e = .returned (.int .i64 (rn s p n : Nat)) ∧ Gs w w' s r (p + n) :=
  (num_any (w.heap.size + 1) s p n W hs (by omega) hn h.rd).mono fun e w' ⟨he, h1, h2⟩ => ⟨he, h.call h2 h1⟩
theorem gs_txt (w : World) (s : ByteArray) (p : Nat) (hs : s.size ≤ maxLen) (hp : p ≤ 900000) (W : World) (r : Wp.Rq) (h : Gs w W s r p) :
    Calls Tryd.prog 74 #[.pointer (some ⟨w.heap.size + 1, 0, none⟩)] W fun e w' => e = .returned (.string (rx s p)) ∧ Gs w w' s r (nx s p) :=
  (txt_any (w.heap.size + 1) s p W hs (by omega) h.rd).mono fun e w' ⟨he, h1, h2⟩ => ⟨he, h.call h2 h1⟩
theorem Gs.cell {w W : World} {s : ByteArray} {r : Wp.Rq} {p : Nat} (h : Gs w W s r p) (o : Nat) (v : Value) (hv : (cellsOf r nilS.v)[o]? = some v) : W.cell? ⟨w.heap.size + 1 + 1, o, none⟩ = some v := h.x.box o v hv
theorem Gs.fz {w W : World} {s : ByteArray} {r : Wp.Rq} {p : Nat} (h : Gs w W s r p) (o : Nat) : W.frozen? ⟨w.heap.size + 1 + 1, o, none⟩ = false := h.x.frozen o
end Go.Proofs.YtbdobaapadlcjaaDoor.Ref
