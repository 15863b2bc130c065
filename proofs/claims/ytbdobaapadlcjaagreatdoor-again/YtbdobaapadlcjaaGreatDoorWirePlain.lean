/-
  PACKAGE wire IN PLAIN MATHEMATICS: a request, its fields, its bytes. Nothing of the program is imported.
-/
import Derived.Laws.BitsAllLaws
namespace Go.Proofs.YtbdobaapadlcjaaGreatDoor.Wp

/-- The fields of each Op, by its letter's place from A on. -/
def layTab : List (List Nat) := [[13], [14], [0, 2, 3, 4, 1, 5], [], [13, 7], [], [], [], [], [], [], [], [], [], [], [0], [], [0, 12, 6], [0, 9, 10, 11], [8], [], [0], [], [0], [], []]
def lay (i : Nat) : List Nat := layTab.getD i []
/-- Of each field its shape and its bounds. -/
def rowTab : List Int := [0, 97, 104, 0, 97, 104, 2, 1, 1000, 2, 0, 1000, 1, 0, 9, 1, 1, 50, 1, 1, 10, 2, 0, 1000, 2, 1, 1000, 3, 1, 8, 3, 0, 8, 3, 0, 255, 3, 0, 8, 3, 0, 255, 4, 1, 10]
def shape (f : Nat) : Int := rowTab.getD (3 * f) 0
def least (f : Nat) : Int := rowTab.getD (3 * f + 1) 0
def most (f : Nat) : Int := rowTab.getD (3 * f + 2) 0

/-- A request: what its cells hold (strings as their bytes; the list of a batch as its strings' bytes). -/
structure Rq where
  op : UInt8
  q : UInt8
  d : UInt8
  vis : Int
  win : Int
  rcv : Int
  quo : Int
  mx : Int
  tic : Int
  grp : ByteArray
  ded : ByteArray
  bod : ByteArray
  att : ByteArray
  han : ByteArray

def isOp (op : UInt8) : Bool := decide (65 ≤ op.toNat) && decide (op.toNat ≤ 90) && decide (0 < (lay (op.toNat - 65)).length)
def Rq.let (r : Rq) (f : Nat) : UInt8 := if f = 1 then r.d else r.q
def Rq.num (r : Rq) (f : Nat) : Int := if f = 2 then r.vis else if f = 3 then r.win else if f = 4 then r.rcv else if f = 5 then r.quo else if f = 6 then r.mx else r.tic
def Rq.txt (r : Rq) (f : Nat) : ByteArray := if f = 9 then r.grp else if f = 10 then r.ded else if f = 11 then r.bod else if f = 12 then r.att else r.han
/-- The place of a field among the cells. -/
def letOff (f : Nat) : Nat := if f = 1 then 2 else 1
def numOff (f : Nat) : Nat := if f = 2 then 3 else if f = 3 then 4 else if f = 4 then 5 else if f = 5 then 6 else if f = 6 then 7 else 8
def txtOff (f : Nat) : Nat := if f = 9 then 9 else if f = 10 then 10 else if f = 11 then 11 else if f = 12 then 12 else 13
def Rq.measure (r : Rq) (n : Nat) (f : Nat) : Int :=
  if shape f = 0 then (r.let f).toNat else if shape f = 3 then (r.txt f).size else if shape f = 4 then n else r.num f
/-- Is the dedup id empty, or is its first byte another than 0? -/
def dedOk (s : ByteArray) : Bool := if h : 0 < s.size then s[0] != 0 else true
/-- A field within its bounds: n strings in the batch; short: each is short. -/
def Rq.fits (r : Rq) (n : Nat) (short : Bool) (f : Nat) : Bool :=
  if f = 1 ∧ r.d = 45 then true
  else if r.measure n f < least f then false
  else if most f < r.measure n f then false
  else if f = 1 then r.d != r.q
  else if f = 10 then dedOk r.ded
  else if f = 14 then short
  else true
def short (bs : List ByteArray) : Bool := bs.all fun s => decide (s.size ≤ 255)
end Go.Proofs.YtbdobaapadlcjaaGreatDoor.Wp
