import Derived.Test.YtbdobaapadlcjabGreatDoorChecked
import Derived.WalkSpells
import Derived.WalkLawsBesides
import Derived.Lib.BufferWrite
import Derived.Handy
import Derived.BigQuiet
set_option maxRecDepth 100000
set_option maxHeartbeats 12000000
set_option linter.unusedVariables false
set_option linter.unusedSimpArgs false
namespace Go.Proofs.YtbdobaapadlcjabGreatDoor
theorem zH {p:Prop}(h:p):RowKit.Hid p:=h
abbrev zE (n:Nat)(a:Array Value)(W:World)(v:Value):Prop:=Calls Tryz.prog n a W fun e w'=>e=.returned v/\w'=W
abbrev zB (n:Nat)(a:Array Value)(W:World)(v:Value):Prop:=Calls Tryz.prog n a W fun e w'=>e=.returned v/\RowKit.Below W.heap.size W w'
end Go.Proofs.YtbdobaapadlcjabGreatDoor
namespace Go.Proofs.YtbdobaapadlcjabGreatDoor.Wp
def layTab:List (List Nat):=[[13],[14],[0,2,3,4,1,5],[],[13,7],[],[],[],[],[],[],[],[],[],[],[0],[],[0,12,6],[0,9,10,11],[8],[],[0],[],[0],[],[]]
def lay (i:Nat):List Nat:=layTab.getD i []
def rowTab:List Int:=[0,97,104,0,97,104,2,1,1000,2,0,1000,1,0,9,1,1,50,1,1,10,2,0,1000,2,1,1000,3,1,8,3,0,8,3,0,255,3,0,8,3,0,255,4,1,10]
def shape (f:Nat):Int:=rowTab.getD (3*f) 0
def least (f:Nat):Int:=rowTab.getD (3*f+1) 0
def most (f:Nat):Int:=rowTab.getD (3*f+2) 0
structure Rq where
 op:UInt8
 q:UInt8
 d:UInt8
 vis:Int
 win:Int
 rcv:Int
 quo:Int
 mx:Int
 tic:Int
 grp:ByteArray
 ded:ByteArray
 bod:ByteArray
 att:ByteArray
 han:ByteArray
def isOp (op:UInt8):Bool:=decide (65<=op.toNat)&&decide (op.toNat<=90)&&decide (0<(lay (op.toNat-65)).length)
def Rq.let (r:Rq)(f:Nat):UInt8:=if f=1 then r.d else r.q
def Rq.num (r:Rq)(f:Nat):Int:=if f=2 then r.vis else if f=3 then r.win else if f=4 then r.rcv else if f=5 then r.quo else if f=6 then r.mx else r.tic
def Rq.txt (r:Rq)(f:Nat):ByteArray:=if f=9 then r.grp else if f=10 then r.ded else if f=11 then r.bod else if f=12 then r.att else r.han
def numOff (f:Nat):Nat:=if f=2 then 3 else if f=3 then 4 else if f=4 then 5 else if f=5 then 6 else if f=6 then 7 else 8
def Rq.measure (r:Rq)(n:Nat)(f:Nat):Int:=
 if shape f=0 then (r.let f).toNat else if shape f=3 then (r.txt f).size else if shape f=4 then n else r.num f
def dedOk (s:ByteArray):Bool:=if h:0<s.size then s[0] != 0 else true
def Rq.fits (r:Rq)(n:Nat)(short:Bool)(f:Nat):Bool:=
 if f=1/\r.d=45 then true
 else if r.measure n f<least f then false
 else if most f<r.measure n f then false
 else if f=1 then r.d != r.q
 else if f=10 then dedOk r.ded
 else if f=14 then short
 else true
def short (bs:List ByteArray):Bool:=bs.all fun s=>decide (s.size<=255)
end Go.Proofs.YtbdobaapadlcjabGreatDoor.Wp
namespace Go.Proofs.YtbdobaapadlcjabGreatDoor
open Go.RowKit
variable {w w':World}{s:ByteArray}{f:Bool}{row:Option Nat}
def Lays (B:Nat)(w:World):Prop:=
 2<B/\(∀i,i<45->w.cell? ⟨1,i,none⟩=some (.int .i64 (Wp.rowTab.getD i 0)))/\
 (∀i,i<26->∃a cap,w.cell? ⟨0,i,none⟩=some (.slice a (Wp.lay i).length cap)/\
  ∀j,j<(Wp.lay i).length->∃b o,a=some ⟨b,o,none⟩/\b<B/\w.cell? ⟨b,o+j,none⟩=some (.int .i64 ((Wp.lay i).getD j 0:Nat)))
theorem Lays.below {B:Nat}(h:Lays B w)(hb:Below B w w'):Lays B w':=by
 obtain⟨h2,hr,hl⟩:=h;refine⟨h2,fun i hi=>(hb.cell (p:=⟨1,i,none⟩) (show 1<B by omega)).trans (hr i hi),fun i hi=>?_⟩
 obtain⟨a,cap,hc,hj⟩:=hl i hi;refine⟨a,cap,(hb.cell (p:=⟨0,i,none⟩) (show 0<B by omega)).trans hc,fun j hjl=>?_⟩
 obtain⟨b,o,ha,hbB,hcj⟩:=hj j hjl;exact⟨b,o,ha,hbB,(hb.cell (p:=⟨b,o+j,none⟩) hbB).trans hcj⟩
theorem ret_bool {a b:Bool}(h:a=b):Ending.returned (.bool a)=.returned (.bool b):=by rw[h]
theorem ret_int {k:IntKind}{a b:Int}(h:a=b):Ending.returned (.int k a)=.returned (.int k b):=by rw[h]
theorem isOp_any (B:Nat)(op:UInt8)(w:World)(hL:Lays B w):
  zE 54 #[.int .u8 (op.toNat:Int)] w (.bool (Wp.isOp op)):=by
 have hop:=op.toNat_lt;generalize hn:op.toNat=n at hop
 by_cases h1:65<=n
 ·by_cases h2:n<=90
  ·obtain⟨i,rfl⟩:∃i,n=65+i:=⟨n-65,by omega⟩;obtain⟨a,cap,hc,_⟩:=hL.2.2 i (by omega);have hf:Hid (Wp.isOp op=decide (0<(Wp.lay i).length)):=by
    show Wp.isOp op=_
    simp[Wp.isOp,hn,h2]
   generalize (Wp.lay i).length=len at hc hf;clear hn hL;go_enter Tryz.func54,Tryz.ntmps54
   go_wp2
   go_ret;exact⟨ret_bool hf.out.symm,rfl⟩
  ·have hf:Hid (Wp.isOp op=false):=by
    show Wp.isOp op=_
    simp[Wp.isOp,hn,h2]
   clear hn hL;go_enter Tryz.func54,Tryz.ntmps54
   go_wp2
   go_ret;exact⟨ret_bool hf.out.symm,rfl⟩
 ·have hf:Hid (Wp.isOp op=false):=by
   show Wp.isOp op=_
   simp[Wp.isOp,hn,h1]
  clear hn hL;go_enter Tryz.func54,Tryz.ntmps54
  go_wp2
  go_ret;exact⟨ret_bool hf.out.symm,rfl⟩
theorem numberOf_any (b f:Nat)(w:World)(hf:f<15):
  zE 79 #[.pointer (some ⟨b,0,none⟩),.int .i64 (f:Int)] w (.pointer (some ⟨b,Wp.numOff f,none⟩)):=by
 have hx:f=0\/f=1\/f=2\/f=3\/f=4\/f=5\/f=6\/f=7\/f=8\/f=9\/f=10\/f=11\/f=12\/f=13\/f=14:=by omega
 rcases hx with rfl|rfl|rfl|rfl|rfl|rfl|rfl|rfl|rfl|rfl|rfl|rfl|rfl|rfl|rfl
 all_goals
  go_enter Tryz.func79,Tryz.ntmps79
  go_wp2
  go_ret;exact⟨rfl,rfl⟩
def cellsOf (r:Wp.Rq)(bv:Value):Array Value:=#[.int .u8 (r.op.toNat:Int),.int .u8 (r.q.toNat:Int),.int .u8 (r.d.toNat:Int),.int .i64 r.vis,.int .i64 r.win,.int .i64 r.rcv,.int .i64 r.quo,.int .i64 r.mx,.int .i64 r.tic,.string r.grp,.string r.ded,.string r.bod,.string r.att,.string r.han,bv]
def Box (w:World)(b:Nat)(r:Wp.Rq)(bv:Value):Prop:=∀i v,(cellsOf r bv)[i]?=some v->w.cell? ⟨b,i,none⟩=some v
theorem measure_any (B b f:Nat)(r:Wp.Rq)(a:Option Addr)(n cap:Nat)(w:World)(hf:f<15)(hL:Lays B w)(hB:Box w b r (.slice a n cap)):
  zE 115 #[.pointer (some ⟨b,0,none⟩),.int .i64 (f:Int)] w (.int .i64 (r.measure n f)):=by
 have hx:f=0\/f=1\/f=2\/f=3\/f=4\/f=5\/f=6\/f=7\/f=8\/f=9\/f=10\/f=11\/f=12\/f=13\/f=14:=by omega
 have hr:=hL.2.1;rcases hx with rfl|rfl|rfl|rfl|rfl|rfl|rfl|rfl|rfl|rfl|rfl|rfl|rfl|rfl|rfl
 ·have t0:w.cell? ⟨1,0,none⟩=some (.int .i64 0):=hr 0 (by decide);have c1:w.cell? ⟨b,1,none⟩=some (.int .u8 (r.q.toNat:Int)):=hB 1 _ rfl;have hl:=r.q.toNat_lt;clear hB hr hL;go_enter Tryz.func115,Tryz.ntmps115
  go_wp2
  go_ret;exact⟨rfl,rfl⟩
 ·have t3:w.cell? ⟨1,3,none⟩=some (.int .i64 0):=hr 3 (by decide);have c2:w.cell? ⟨b,2,none⟩=some (.int .u8 (r.d.toNat:Int)):=hB 2 _ rfl;have hl:=r.d.toNat_lt;clear hB hr hL;go_enter Tryz.func115,Tryz.ntmps115
  go_wp2
  go_ret;exact⟨rfl,rfl⟩
 ·have t6:w.cell? ⟨1,6,none⟩=some (.int .i64 2):=hr 6 (by decide);have c3:w.cell? ⟨b,3,none⟩=some (.int .i64 r.vis):=hB 3 _ rfl;clear hB hr hL;go_enter Tryz.func115,Tryz.ntmps115
  go_wp2
  go_ret;exact⟨rfl,rfl⟩
 ·have t9:w.cell? ⟨1,9,none⟩=some (.int .i64 2):=hr 9 (by decide);have c4:w.cell? ⟨b,4,none⟩=some (.int .i64 r.win):=hB 4 _ rfl;clear hB hr hL;go_enter Tryz.func115,Tryz.ntmps115
  go_wp2
  go_ret;exact⟨rfl,rfl⟩
 ·have t12:w.cell? ⟨1,12,none⟩=some (.int .i64 1):=hr 12 (by decide);have c5:w.cell? ⟨b,5,none⟩=some (.int .i64 r.rcv):=hB 5 _ rfl;clear hB hr hL;go_enter Tryz.func115,Tryz.ntmps115
  go_wp2
  go_ret;exact⟨rfl,rfl⟩
 ·have t15:w.cell? ⟨1,15,none⟩=some (.int .i64 1):=hr 15 (by decide);have c6:w.cell? ⟨b,6,none⟩=some (.int .i64 r.quo):=hB 6 _ rfl;clear hB hr hL;go_enter Tryz.func115,Tryz.ntmps115
  go_wp2
  go_ret;exact⟨rfl,rfl⟩
 ·have t18:w.cell? ⟨1,18,none⟩=some (.int .i64 1):=hr 18 (by decide);have c7:w.cell? ⟨b,7,none⟩=some (.int .i64 r.mx):=hB 7 _ rfl;clear hB hr hL;go_enter Tryz.func115,Tryz.ntmps115
  go_wp2
  go_ret;exact⟨rfl,rfl⟩
 ·have t21:w.cell? ⟨1,21,none⟩=some (.int .i64 2):=hr 21 (by decide);have c8:w.cell? ⟨b,8,none⟩=some (.int .i64 r.tic):=hB 8 _ rfl;clear hB hr hL;go_enter Tryz.func115,Tryz.ntmps115
  go_wp2
  go_ret;exact⟨rfl,rfl⟩
 ·have t24:w.cell? ⟨1,24,none⟩=some (.int .i64 2):=hr 24 (by decide);have c8:w.cell? ⟨b,8,none⟩=some (.int .i64 r.tic):=hB 8 _ rfl;clear hB hr hL;go_enter Tryz.func115,Tryz.ntmps115
  go_wp2
  go_ret;exact⟨rfl,rfl⟩
 ·have t27:w.cell? ⟨1,27,none⟩=some (.int .i64 3):=hr 27 (by decide);have c9:w.cell? ⟨b,9,none⟩=some (.string r.grp):=hB 9 _ rfl;clear hB hr hL;go_enter Tryz.func115,Tryz.ntmps115
  go_wp2
  go_ret;exact⟨rfl,rfl⟩
 ·have t30:w.cell? ⟨1,30,none⟩=some (.int .i64 3):=hr 30 (by decide);have c10:w.cell? ⟨b,10,none⟩=some (.string r.ded):=hB 10 _ rfl;clear hB hr hL;go_enter Tryz.func115,Tryz.ntmps115
  go_wp2
  go_ret;exact⟨rfl,rfl⟩
 ·have t33:w.cell? ⟨1,33,none⟩=some (.int .i64 3):=hr 33 (by decide);have c11:w.cell? ⟨b,11,none⟩=some (.string r.bod):=hB 11 _ rfl;clear hB hr hL;go_enter Tryz.func115,Tryz.ntmps115
  go_wp2
  go_ret;exact⟨rfl,rfl⟩
 ·have t36:w.cell? ⟨1,36,none⟩=some (.int .i64 3):=hr 36 (by decide);have c12:w.cell? ⟨b,12,none⟩=some (.string r.att):=hB 12 _ rfl;clear hB hr hL;go_enter Tryz.func115,Tryz.ntmps115
  go_wp2
  go_ret;exact⟨rfl,rfl⟩
 ·have t39:w.cell? ⟨1,39,none⟩=some (.int .i64 3):=hr 39 (by decide);have c13:w.cell? ⟨b,13,none⟩=some (.string r.han):=hB 13 _ rfl;clear hB hr hL;go_enter Tryz.func115,Tryz.ntmps115
  go_wp2
  go_ret;exact⟨rfl,rfl⟩
 ·have t42:w.cell? ⟨1,42,none⟩=some (.int .i64 4):=hr 42 (by decide);have c14:w.cell? ⟨b,14,none⟩=some (.slice a n cap):=hB 14 _ rfl;clear hB hr hL;go_enter Tryz.func115,Tryz.ntmps115
  go_wp2
  go_ret;exact⟨rfl,rfl⟩
theorem infoByte:(Tryz.prog.info? 5).map (fun i=>(i.zero,i.size,i.bytes))=some (some (.int .u8 0),1,1):=by kernel_rfl
theorem cellsByte:Tryz.prog.cellsOf 5=1:=by kernel_rfl
theorem clone_in (s:ByteArray)(w:World)(hl:s.size<=281474976710656):
  zB 180 #[.string s] w (.string s):=by
 by_cases h0:s.size=0
 ·have hs:s=⟨#[]⟩:=ByteArray.ext (Array.eq_empty_of_size_eq_zero h0);subst hs;go_enter Tryz.func180,Tryz.ntmps180
  go_wp2
  go_ret;exact⟨rfl,Below.refl _ _⟩
 ·obtain⟨i0,hi,hz0,hz1,hz2⟩:=info_parts infoByte;have hone:(Tryz.prog.info? 5).map (·.size)=some 1:=by rw[hi];simp[hz1]
  obtain⟨M,hM⟩:∃M,M=madeCells (Value.int .u8 0).cells (((s.size:Nat):Int).toNat*i0.size):=⟨_,rfl⟩;have hMs:M.size=s.size:=by rw[hM,size_madeCells,hz1];simp
  have hmake:∀W:World,(Instr.makeSlice 54 (.int .i64 (s.size:Int)) (.int .i64 (s.size:Int))).run Tryz.prog W=.ok (.slice (some ⟨W.heap.size,0,none⟩) s.size s.size) (W.alloc (.cells M 5)):=fun W=>by
   have h:=run_make (P:=Tryz.prog) W 54 5 i0 (.int .u8 0) Tryz.underlying54 hi hz0 .i64 .i64 (s.size:Int) (s.size:Int) (by omega) (by omega) (by rw[hz2];omega) (by omega);rw[<-hM]at h;simpa using h
  clear hM;have hcopy:=Lib.run_copy_row_string (P:=Tryz.prog) (w.alloc (.cells M 5)) 54 9 3 5 w.heap.size 0 s.size s.size s M 5 Tryz.underlying54 hone (heap_alloc_new w _) (Nat.le_refl _) (by omega);obtain⟨Y,hY⟩:∃Y,Y=(M.toList.take 0++Lib.byteCells s.data.toList++M.toList.drop (0+s.size)).toArray:=⟨_,rfl⟩;rw[<-hY]at hcopy;have hYl:Y.toList=Lib.byteCells s.data.toList:=by
   rw[hY,List.toList_toArray,List.take_zero,List.nil_append,List.drop_of_length_le (by rw[Array.length_toList];omega),List.append_nil]
  have hYs:Y.size=s.size:=by rw[<-Array.length_toList,hYl,Lib.byteCells_length,<-Lib.size_eq]
  have hrow:((w.alloc (.cells M 5)).setRow w.heap.size Y).heap[w.heap.size]?=some (.cells Y 5 (0,0)):=setRow_heap _ _ M _ 5 (0,0) (heap_alloc_new w _);have hne:s.data.toList≠[]:=fun e=>h0 (by rw[Lib.size_eq,e];rfl)
  have hstr:=Lib.run_unsafeString_row (P:=Tryz.prog) ((w.alloc (.cells M 5)).setRow w.heap.size Y) 159 3 9 5 Tryz.underlying159 cellsByte w.heap.size Y.size (by unfold World.shape?;rw[hrow]) s.data.toList hne (by rw[<-Lib.size_eq];omega) (by rw[<-Lib.size_eq];omega)
   (fun j x hx=>Lib.cells_of_row hrow Y.size j _ (by rw[List.take_of_length_le (by rw[Array.length_toList];exact Nat.le_refl _),hYl];simp[Lib.byteCells,hx]))
  rw[<-Lib.size_eq]at hstr;clear hY;go_enter Tryz.func180,Tryz.ntmps180
  go_wp2
  go_ret;have hb1:Below w.heap.size w (w.alloc (.cells M 5)):=(Below.refl _ w).alloc (Nat.le_refl _) _;have hb2:Below w.heap.size (w.alloc (.cells M 5)) ((w.alloc (.cells M 5)).setRow w.heap.size Y):=⟨rfl,rfl,rfl,by simp,fun k hk=>setRow_other _ _ _ _ (by omega)⟩
  exact⟨rfl,Lib.below_freeze (hb1.trans hb2) (p:=⟨w.heap.size,0,none⟩) (Nat.le_refl _) _⟩
theorem clone_any (s:ByteArray)(w:World)(hl:s.size<=281474976710656):
  zB 146 #[.string s] w (.string s):=by
 go_enter Tryz.func146,Tryz.ntmps146;go_wp2_with fail;refine(clone_in s w hl).mono ?_;rintro e w1 ⟨rfl,hb⟩;go_wp2_with fail;go_ret;exact⟨rfl,hb⟩
def Rd (w:World)(b:Nat)(s:ByteArray)(f:Bool):Prop:=w.heap[b]?=some (.cells #[.string s,.bool f] 154 (0,0))
theorem Rd.c0 {b:Nat}(h:Rd w b s f):w.cell? ⟨b,0,none⟩=some (.string s):=cell_of_row w b 0 _ 154 (0,0) h
theorem Rd.c1 {b:Nat}(h:Rd w b s f):w.cell? ⟨b,1,none⟩=some (.bool f):=cell_of_row w b 1 _ 154 (0,0) h
theorem Rd.fz {b:Nat}(h:Rd w b s f)(j:Nat):w.frozen? ⟨b,j,none⟩=false:=frozen_of_row w b j _ 154 h
theorem Rd.set0 {b:Nat}(h:Rd w b s f)(t:ByteArray):Rd (w.setCell ⟨b,0,none⟩ (.string t)) b t f:=heap_setCell_same w b 0 _ 154 _ h
theorem Rd.set1 {b:Nat}(h:Rd w b s f)(g:Bool):Rd (w.setCell ⟨b,1,none⟩ (.bool g)) b s g:=heap_setCell_same w b 1 _ 154 _ h
theorem grown_set (w:World)(b o:Nat)(v:Value):w.grownBy (w.setCell ⟨b,o,none⟩ v) (some b):=
 ⟨rfl,rfl,rfl,by simp,fun k _ hk=>heap_setCell_other w ⟨b,o,none⟩ k v (fun e=>hk (by rw[e]))⟩
theorem grown_trans {a b c:World}(h:a.grownBy b row)(k:b.grownBy c row):a.grownBy c row:=
 ⟨k.os.trans h.os,k.tape.trans h.tape,k.output.trans h.output,Nat.le_trans h.size k.size,fun i hi hr=>(k.block i (Nat.lt_of_lt_of_le hi h.size) hr).trans (h.block i hi hr)⟩
theorem grown_below (h:Below w.heap.size w w')(row:Option Nat):w.grownBy w' row:=⟨h.os,h.tape,h.output,h.size,fun k hk _=>h.block k hk⟩
theorem ret_str {t:ByteArray}(h:s=t):Ending.returned (.string s)=.returned (.string t):=by rw[h]
def tk (s:ByteArray)(n:Nat):ByteArray:=if n<=s.size then s.extract 0 n else ⟨#[]⟩
def lf (s:ByteArray)(n:Nat):ByteArray:=if n<=s.size then s.extract n s.size else ⟨#[]⟩
def bad (s:ByteArray)(f:Bool)(n:Nat):Bool:=if n<=s.size then f else true
theorem take_any (b:Nat)(s:ByteArray)(f:Bool)(n:Nat)(w:World)(hn:n<=1048576)(hs:s.size<=maxLen)(hR:Rd w b s f):
  Calls Tryz.prog 77 #[.pointer (some ⟨b,0,none⟩),.int .i64 (n:Int)] w fun e w'=>e=.returned (.string (tk s n))/\Rd w' b (lf s n) (bad s f n)/\w.grownBy w' (some b)/\w'.heap.size=w.heap.size:=by
 unfold maxLen at hs;have c0:=hR.c0;have f0:=hR.fz 0;have c1:=hR.c1;have f1:=hR.fz 1;have HR:=zH hR;clear hR
 by_cases h:n<=s.size
 ·have e1:Hid (tk s n=s.extract 0 n):=by show _=_;rw[tk,if_pos h]
  have e2:Hid (lf s n=s.extract n s.size):=by show _=_;rw[lf,if_pos h]
  have e3:Hid (bad s f n=f):=by show _=_;rw[bad,if_pos h]
  go_enter Tryz.func77,Tryz.ntmps77
  go_wp2
  go_ret;refine⟨ret_str e1.out.symm,?_,grown_set _ _ _ _,by simp⟩;rw[e2.out,e3.out];exact HR.out.set0 _
 ·have e1:Hid (tk s n=⟨#[]⟩):=by show _=_;rw[tk,if_neg h]
  have e2:Hid (lf s n=⟨#[]⟩):=by show _=_;rw[lf,if_neg h]
  have e3:Hid (bad s f n=true):=by show _=_;rw[bad,if_neg h]
  go_enter Tryz.func77,Tryz.ntmps77
  go_wp2
  go_ret;refine⟨ret_str e1.out.symm,?_,grown_trans (grown_set _ _ _ _) (grown_set _ _ _ _),by simp⟩;rw[e2.out,e3.out];exact(HR.out.set0 _).set1 _
def leN:List UInt8->Nat
 | []=>0
 | c::r=>c.toNat+256*leN r
theorem tk_size (s:ByteArray)(n:Nat):(tk s n).size=0\/(tk s n).size=n:=by
 unfold tk
 split
 ·right;simp;omega
 ·left;rfl
theorem or_i64 (a b:Nat)(ha:a<65536)(hb:b<65536):bits .or .i64 (a:Int) (b:Int)=((a ||| b:Nat):Int):=by
 have hx:a ||| b<2^16:=Nat.or_lt_two_pow (by omega) (by omega)
 show IntKind.i64.wrap ((BitVec.ofInt 64 (a:Int) ||| BitVec.ofInt 64 (b:Int)).toNat:Int)=_
 rw[BitVec.toNat_or,ofInt_u64 a (by omega),ofInt_u64 b (by omega)];simp[IntKind.wrap,IntKind.bits,IntKind.signed];omega
theorem wrap_small (n:Nat)(h:n<65536):wrap64 (n:Int)=n:=by
 simp[wrap64];omega
theorem or_one (a:Nat)(ha:a<256):bits .or .i64 0 (wrap64 (wrap64 (a:Int)))=(a:Int):=by
 rw[wrap_small a (by omega),wrap_small a (by omega)];have:=or_i64 0 a (by omega) (by omega);rw[Nat.zero_or]at this;exact this
theorem or_two (a b:Nat)(ha:a<256)(hb:b<256):bits .or .i64 (a:Int) (wrap64 (wrap64 (b:Int)*256))=((a+256*b:Nat):Int):=by
 rw[wrap_small b (by omega),show ((b:Int)*256)=((b*256:Nat):Int) by omega,wrap_small (b*256) (by omega),or_i64 a (b*256) (by omega) (by omega)]
 have h:=Nat.two_pow_add_eq_or_of_lt (i:=8) (b:=a) (by omega) b;rw[Nat.or_comm];have e:b*256=2^8*b:=by omega
 rw[e,<-h];omega
theorem list_one (T:ByteArray)(h:T.size=1):T.data.toList=[T[0]]:=by
 have hl:T.data.toList.length=1:=h
 match hm:T.data.toList,hl with
 | [x],_=>
  have:T[0]=T.data.toList[0]'(by rw[hm];simp):=rfl;rw[this];simp[hm]
theorem list_two (T:ByteArray)(h:T.size=2):T.data.toList=[T[0],T[1]]:=by
 have hl:T.data.toList.length=2:=h
 match hm:T.data.toList,hl with
 | [x,y],_=>
  have h0:T[0]=T.data.toList[0]'(by rw[hm];simp):=rfl;have h1:T[1]=T.data.toList[1]'(by rw[hm];simp):=rfl;rw[h0,h1];simp[hm]
theorem list_none (T:ByteArray)(h:T.size=0):T.data.toList=[]:=by
 have hl:=h;exact List.length_eq_zero_iff.1 hl
theorem number_any (b:Nat)(s:ByteArray)(f:Bool)(n:Nat)(w:World)(hn:n=1\/n=2)(hs:s.size<=maxLen)(hR:Rd w b s f):
  Calls Tryz.prog 53 #[.pointer (some ⟨b,0,none⟩),.int .i64 (n:Int)] w fun e w'=>e=.returned (.int .i64 (leN (tk s n).data.toList:Nat))/\Rd w' b (lf s n) (bad s f n)/\w.grownBy w' (some b)/\w'.heap.size=w.heap.size:=by
 have htk:=take_any b s f n w (by omega) hs hR;have hsz:=tk_size s n;generalize tk s n=T at htk hsz;generalize lf s n=S1 at htk;generalize bad s f n=F1 at htk;have HT:=zH htk;clear htk hR;go_enter Tryz.func53,Tryz.ntmps53;go_wp2_with fail;refine(HT.out).mono ?_;rintro e w1 ⟨rfl,h1,h2,h3⟩;have H1:Hid (Rd w1 b S1 F1/\w.grownBy w1 (some b)/\w1.heap.size=w.heap.size):=⟨h1,h2,h3⟩;clear h1 h2 h3
 by_cases h2:T.size=2
 ·have e1:=or_one T[0].toNat T[0].toNat_lt;have e2:=or_two T[0].toNat T[1].toNat T[0].toNat_lt T[1].toNat_lt;have hv:Hid (leN T.data.toList=T[0].toNat+256*T[1].toNat):=by show _=_;rw[list_two T h2];simp[leN]
  clear hsz
  go_wp2
  refine wp_loop_rounds 3 ?_;rw[rounds_succ]
  go_wp2
  rw[rounds_succ]
  go_wp2
  rw[rounds_succ]
  go_wp2
  go_ret;exact⟨ret_int (by rw[hv.out];omega),H1.out⟩
 ·by_cases h1:T.size=1
  ·have e1:=or_one T[0].toNat T[0].toNat_lt;have hv:Hid (leN T.data.toList=T[0].toNat):=by show _=_;rw[list_one T h1];simp[leN]
   clear hsz
   go_wp2
   refine wp_loop_rounds 3 ?_;rw[rounds_succ]
   go_wp2
   rw[rounds_succ]
   go_wp2
   go_ret;exact⟨ret_int (by rw[hv.out]),H1.out⟩
  ·have h0:T.size=0:=by omega
   have hv:Hid (leN T.data.toList=0):=by show _=_;rw[list_none T h0];rfl
   clear hsz h1 h2
   go_wp2
   refine wp_loop_rounds 3 ?_;rw[rounds_succ]
   go_wp2
   go_ret;exact⟨ret_int (by rw[hv.out];rfl),H1.out⟩
theorem tk_le (s:ByteArray)(n:Nat):(tk s n).size<=n:=by have:=tk_size s n;omega
theorem lf_le (s:ByteArray)(n:Nat):(lf s n).size<=s.size:=by
 unfold lf
 split
 ·simp
 ·show 0<=_;omega
theorem leN_lt (l:List UInt8):leN l<256^l.length:=by
 induction l with
 | nil=>decide
 | cons c r ih=>
  have:=c.toNat_lt;rw[List.length_cons,Nat.pow_succ,leN];omega
def nmN (s:ByteArray)(n:Nat):Nat:=leN (tk s n).data.toList
theorem nm1 (s:ByteArray):nmN s 1<256:=by
 have h:=leN_lt (tk s 1).data.toList;have h2:=tk_le s 1;have h3:256^(tk s 1).data.toList.length<=256^1:=Nat.pow_le_pow_right (by decide) h2;unfold nmN;omega
theorem nm2 (s:ByteArray):nmN s 2<65536:=by
 have h:=leN_lt (tk s 2).data.toList;have h2:=tk_le s 2;have h3:256^(tk s 2).data.toList.length<=256^2:=Nat.pow_le_pow_right (by decide) h2;unfold nmN;omega
def txS (s:ByteArray):ByteArray:=tk (lf s 1) (nmN s 1)
def txL (s:ByteArray):ByteArray:=lf (lf s 1) (nmN s 1)
def txF (s:ByteArray)(f:Bool):Bool:=bad (lf s 1) (bad s f 1) (nmN s 1)
theorem txL_le (s:ByteArray):(txL s).size<=s.size:=Nat.le_trans (lf_le _ _) (lf_le _ _)
theorem nm12 (s:ByteArray)(n:Nat)(h:n=1\/n=2):nmN s n<65536:=by
 rcases h with rfl|rfl
 ·have:=nm1 s;omega
 ·exact nm2 s
theorem long_any (b:Nat)(s:ByteArray)(f:Bool)(k:Nat)(w:World)(hk:k=1\/k=2)(hs:s.size<=maxLen)(hb:b<w.heap.size)(hR:Rd w b s f):
  Calls Tryz.prog 114 #[.pointer (some ⟨b,0,none⟩),.int .i64 (k:Int)] w fun e w'=>e=.returned (.string (tk (lf s k) (nmN s k)))/\Rd w' b (lf (lf s k) (nmN s k)) (bad (lf s k) (bad s f k) (nmN s k))/\w.grownBy w' (some b):=by
 have hnum:Hid (Calls Tryz.prog 53 #[.pointer (some ⟨b,0,none⟩),.int .i64 (k:Int)] w fun e w'=>e=.returned (.int .i64 (nmN s k:Nat))/\Rd w' b (lf s k) (bad s f k)/\w.grownBy w' (some b)/\w'.heap.size=w.heap.size):=number_any b s f k w hk hs hR;have hn:=nm12 s k hk;have hl1:(lf s k).size<=maxLen:=Nat.le_trans (lf_le _ _) hs;generalize nmN s k=n at hnum hn ⊢;generalize lf s k=s1 at hnum hl1 ⊢;generalize bad s f k=f1 at hnum ⊢;have hts:=tk_le s1 n;clear hR hk;go_enter Tryz.func114,Tryz.ntmps114;go_wp2_with fail;refine(hnum.out).mono ?_;rintro e w1 ⟨rfl,h1,h2,h3⟩;have H1:Hid (w.grownBy w1 (some b)/\w1.heap.size=w.heap.size):=⟨h2,h3⟩;have htk:Hid (Calls Tryz.prog 77 #[.pointer (some ⟨b,0,none⟩),.int .i64 (n:Int)] w1 fun e w'=>e=.returned (.string (tk s1 n))/\Rd w' b (lf s1 n) (bad s1 f1 n)/\w1.grownBy w' (some b)/\w'.heap.size=w1.heap.size):=take_any b s1 f1 n w1 (by omega) hl1 h1;clear h1 h2 h3;go_wp2_with fail;refine(htk.out).mono ?_;rintro e w2 ⟨rfl,h1,h2,h3⟩;have H2:Hid (Rd w2 b (lf s1 n) (bad s1 f1 n)/\w1.grownBy w2 (some b)/\w2.heap.size=w1.heap.size):=⟨h1,h2,h3⟩;clear h1 h2 h3;go_wp2_with fail;refine(clone_any (tk s1 n) w2 (by omega)).mono ?_;rintro e w3 ⟨rfl,hb3⟩;have H3:=zH hb3;clear hb3;go_wp2_with fail;go_ret;refine⟨rfl,?_,grown_trans (grown_trans H1.out.1 H2.out.2.1) (grown_below H3.out _)⟩;unfold Rd;rw[H3.out.block b (by rw[H2.out.2.2,H1.out.2];exact hb)];exact H2.out.1
theorem text_any (b:Nat)(s:ByteArray)(f:Bool)(w:World)(hs:s.size<=maxLen)(hb:b<w.heap.size)(hR:Rd w b s f):
  Calls Tryz.prog 80 #[.pointer (some ⟨b,0,none⟩)] w fun e w'=>e=.returned (.string (txS s))/\Rd w' b (txL s) (txF s f)/\w.grownBy w' (some b):=by
 have hlg:Hid (Calls Tryz.prog 114 #[.pointer (some ⟨b,0,none⟩),.int .i64 1] w fun e w'=>e=.returned (.string (txS s))/\Rd w' b (txL s) (txF s f)/\w.grownBy w' (some b)):=long_any b s f 1 w (Or.inl rfl) hs hb hR;clear hR;go_enter Tryz.func80,Tryz.ntmps80;go_wp2_with fail;refine(hlg.out).mono ?_;rintro e w1 ⟨rfl,h1,h2⟩;have H1:Hid (Rd w1 b (txL s) (txF s f)/\w.grownBy w1 (some b)):=⟨h1,h2⟩;clear h1 h2;go_wp2_with fail;go_ret;exact⟨rfl,H1.out.1,H1.out.2⟩
theorem grown_new {w1:World}(h:w.grownBy w1 row){g o:Nat}{v:Value}(hg:w.heap.size<=g):w.grownBy (w1.setCell ⟨g,o,none⟩ v) row:=
 ⟨h.os,h.tape,h.output,by simp;exact h.size,fun k hk hr=>(heap_setCell_other w1 ⟨g,o,none⟩ k v (by show k≠g;omega)).trans (h.block k hk hr)⟩
def rdS:Nat->ByteArray->ByteArray
 | 0,s=>s
 | k+1,s=>txL (rdS k s)
def rdF:Nat->ByteArray->Bool->Bool
 | 0,_,f=>f
 | k+1,s,f=>txF (rdS k s) (rdF k s f)
def rdT:Nat->ByteArray->List ByteArray
 | 0,_=>[]
 | k+1,s=>rdT k s++[txS (rdS k s)]
theorem rdT_length (k:Nat)(s:ByteArray):(rdT k s).length=k:=by
 induction k with
 | zero=>rfl
 | succ k ih=>rw[rdT,List.length_append,ih];rfl
theorem rdS_le (k:Nat)(s:ByteArray):(rdS k s).size<=s.size:=by
 induction k with
 | zero=>exact Nat.le_refl _
 | succ k ih=>exact Nat.le_trans (txL_le _) ih
def strRow (l:List ByteArray)(n:Nat):Array Value:=(l.map Value.string++List.replicate (n-l.length) (Value.string ⟨#[]⟩)).toArray
theorem strRow_size (l:List ByteArray)(n:Nat)(h:l.length<=n):(strRow l n).size=n:=by simp[strRow];omega
theorem strRow_set (l:List ByteArray)(n:Nat)(x:ByteArray)(h:l.length<n):(strRow l n).setIfInBounds l.length (.string x)=strRow (l++[x]) n:=by
 unfold strRow;apply Array.toList_inj.1;rw[Array.toList_setIfInBounds,List.toList_toArray,List.toList_toArray];obtain⟨m,hm⟩:∃m,n-l.length=m+1:=⟨n-l.length-1,by omega⟩;have hm':n-(l++[x]).length=m:=by rw[List.length_append,List.length_singleton];omega
 rw[hm,hm',List.replicate_succ,List.set_append_right _ _ (by simp),List.map_append];simp
theorem info9:(Tryz.prog.info? 9).map (fun i=>(i.zero,i.size,i.bytes))=some (some (Value.string ⟨#[]⟩),1,16):=by kernel_rfl
theorem texts_any (b:Nat)(s:ByteArray)(f:Bool)(w:World)(hs:s.size<=maxLen)(hb:b<w.heap.size)(hR:Rd w b s f):
  Calls Tryz.prog 82 #[.pointer (some ⟨b,0,none⟩)] w fun e w'=>∃g,w.heap.size<=g/\e=.returned (.slice (some ⟨g,0,none⟩) (nmN s 1) (nmN s 1))/\w'.heap[g]?=some (.cells (strRow (rdT (nmN s 1) (lf s 1)) (nmN s 1)) 9 (0,0))/\
   Rd w' b (rdS (nmN s 1) (lf s 1)) (rdF (nmN s 1) (lf s 1) (bad s f 1))/\w.grownBy w' (some b):=by
 obtain⟨i0,hi,hz0,hz1,hz2⟩:=info_parts info9;have hnum:Hid (Calls Tryz.prog 53 #[.pointer (some ⟨b,0,none⟩),.int .i64 1] w fun e w'=>e=.returned (.int .i64 (nmN s 1:Nat))/\Rd w' b (lf s 1) (bad s f 1)/\w.grownBy w' (some b)/\w'.heap.size=w.heap.size):=number_any b s f 1 w (Or.inl rfl) hs hR;have hn:=nm1 s;have hl1:(lf s 1).size<=maxLen:=Nat.le_trans (lf_le _ _) hs;generalize nmN s 1=n at*
 generalize lf s 1=s1 at*
 generalize bad s f 1=f1 at*
 have hmake:∀W:World,(Instr.makeSlice 22 (.int .i64 (n:Int)) (.int .i64 (n:Int))).run Tryz.prog W=.ok (.slice (some ⟨W.heap.size,0,none⟩) n n) (W.alloc (.cells (strRow [] n) 9)):=fun W=>by
  have h:=run_make (P:=Tryz.prog) W 22 9 i0 (.string ⟨#[]⟩) Tryz.underlying22 hi hz0 .i64 .i64 (n:Int) (n:Int) (by omega) (by omega) (by rw[hz2];omega) (by omega);have hm:madeCells (Value.string ⟨#[]⟩).cells ((n:Int).toNat*i0.size)=strRow [] n:=by
   apply Array.toList_inj.1;rw[hz1,Nat.mul_one,Int.toNat_natCast]
   show (madeCells #[Value.string ⟨#[]⟩] n).toList=_
   rw[toList_madeCells_one];simp[strRow]
  rw[hm]at h;simpa using h
 clear hR;go_enter Tryz.func82,Tryz.ntmps82;go_wp2_with fail;refine(hnum.out).mono ?_;rintro e w1 ⟨rfl,h1,h2,h3⟩;have H1:Hid (Rd w1 b s1 f1/\w.grownBy w1 (some b)/\w1.heap.size=w.heap.size):=⟨h1,h2,h3⟩;clear h1 h2 h3;go_wp2_with fail
 go_loopw [10] (fun v wr=>∃k:Nat,k<=n/\v=.int .i64 k/\wr.heap[w1.heap.size]?=some (.cells (strRow (rdT k s1) n) 9 (0,0))/\Rd wr b (rdS k s1) (rdF k s1 f1)/\w.grownBy wr (some b)) (fun v _=>n-(intOf v).toNat)
 case atStart=>
  refine⟨0,Nat.zero_le _,rfl,heap_alloc_new _ _,?_,grown_trans H1.out.2.1 (World.grownBy_alloc _ _ _)⟩
  show Rd _ _ _ _
  unfold Rd;rw[Below.heap_alloc _ _ _ (by rw[H1.out.2.2];exact hb)];exact H1.out.1
 case round=>
  obtain⟨k,hk,rfl,hrow,hrd,hg⟩:=hrel;have HROW:=zH hrow;have HG:=zH hg;have hbr:b<wr.heap.size:=Nat.lt_of_lt_of_le hb hg.size
  by_cases hlt:k<n
  ·have ht:Hid (Calls Tryz.prog 80 #[.pointer (some ⟨b,0,none⟩)] wr fun e w'=>e=.returned (.string (txS (rdS k s1)))/\Rd w' b (rdS (k+1) s1) (rdF (k+1) s1 f1)/\wr.grownBy w' (some b)):=
    text_any b (rdS k s1) (rdF k s1 f1) wr (Nat.le_trans (rdS_le _ _) hl1) hbr hrd
   have hkl:=rdT_length k s1;clear hrow hrd hg;go_wp2_with fail;refine(ht.out).mono ?_;rintro e w2 ⟨rfl,h1,h2⟩;have H2:Hid (Rd w2 b (rdS (k+1) s1) (rdF (k+1) s1 f1)/\wr.grownBy w2 (some b)):=⟨h1,h2⟩;have hrow2:w2.heap[w1.heap.size]?=some (.cells (strRow (rdT k s1) n) 9 (0,0)):=by
    rw[h2.block w1.heap.size (Array.getElem?_eq_some_iff.1 HROW.out).1 (by rw[H1.out.2.2];intro e;have:=Option.some.inj e;omega)];exact HROW.out
   have hcell:∃v,w2.cell? ⟨w1.heap.size,k,none⟩=some v:=⟨_,(cell_of_row w2 w1.heap.size k _ 9 (0,0) hrow2).trans (Array.getElem?_eq_getElem (by rw[strRow_size _ _ (by omega)];exact hlt))⟩;obtain⟨ov,hov⟩:=hcell;have hfz:=frozen_of_row w2 w1.heap.size k _ 9 hrow2;have HROW2:=zH hrow2;clear h1 h2 hrow2 hkl;go_wp2_with fail;go_roundw
   case rel=>
    refine⟨k+1,by omega,by go_num,?_,?_,?_⟩
    ·have h:=heap_setCell_same w2 w1.heap.size k _ 9 (.string (txS (rdS k s1))) HROW2.out;rw[h];have e:=strRow_set (rdT k s1) n (txS (rdS k s1)) (by rw[rdT_length];exact hlt);rw[rdT_length]at e;rw[e];rfl
    ·unfold Rd;rw[heap_setCell_other _ _ _ _ (by show b≠w1.heap.size;rw[H1.out.2.2];omega)];exact H2.out.1
    ·exact grown_new (grown_trans HG.out H2.out.2) (by show w.heap.size<=w1.heap.size;rw[H1.out.2.2];exact Nat.le_refl _)
   case measure=>simp[intOf];omega
  ·have he:k=n:=by omega
   subst he;have H3:=zH hrd;clear hrow hrd hg;go_wp2_with fail;go_ret;exact⟨w1.heap.size,by rw[H1.out.2.2];exact Nat.le_refl _,rfl,HROW.out,H3.out,HG.out⟩
def Strs (w:World)(a:Option Addr)(bs:List ByteArray):Prop:=
 ∀j (h:j<bs.length),∃b o,a=some ⟨b,o,none⟩/\w.cell? ⟨b,o+j,none⟩=some (.string bs[j])
theorem allShort_any (a:Option Addr)(cap:Nat)(bs:List ByteArray)(w:World)(hn:bs.length<=maxLen)(hs:Strs w a bs):
  zE 116 #[.slice a bs.length cap] w (.bool (Wp.short bs)):=by
 unfold maxLen at hn;go_enter Tryz.func116,Tryz.ntmps116
 go_wp2
 go_loop [7] (fun i=>∃k:Nat,k<=bs.length/\i=.int .i64 k/\Wp.short (bs.take k)=true) (fun i=>bs.length-(intOf i).toNat)
 case atStart=>exact⟨0,Nat.zero_le _,rfl,rfl⟩
 case round=>
  obtain⟨k,hk,rfl,hsh⟩:=hrel
  by_cases hlt:k<bs.length
  ·obtain⟨b,o,rfl,hc⟩:=hs k hlt;have ht:bs.take (k+1)=bs.take k++[bs[k]]:=by rw[List.take_succ_eq_append_getElem hlt]
   have hsz:Hid (Wp.short (bs.take (k+1))=decide (bs[k].size<=255)):=by
    show Wp.short (bs.take (k+1))=_
    rw[ht];unfold Wp.short at hsh ⊢;rw[List.all_append,hsh];simp
   have hno:Hid (bs[k].size<=255\/Wp.short bs=false):=by
    show bs[k].size<=255\/_
    by_cases h:bs[k].size<=255
    ·exact Or.inl h
    ·right;unfold Wp.short;rw[List.all_eq_false];exact⟨bs[k],List.getElem_mem _,by simpa using h⟩
   clear ht hs hsh;generalize bs[k]=x at hc hsz hno
   by_cases hx:x.size<=255
   ·go_wp2
    go_round
    case rel=>exact⟨k+1,by omega,by go_num,by rw[hsz.out];simpa using hx⟩
    case measure=>simp[intOf];omega
   ·go_wp2
    go_ret;exact⟨ret_bool (hno.out.resolve_left hx).symm,rfl⟩
  ·have hsh':Hid (Wp.short bs=true):=by
    show Wp.short bs=true
    rw[List.take_of_length_le (by omega)]at hsh;exact hsh
   clear hsh
   go_wp2
   go_ret;exact⟨ret_bool hsh'.out.symm,rfl⟩
theorem str_ne (h:0<s.size):s.toList.isEmpty=false:=by
 rw[ByteArray.toList_eq];have h':0<s.data.toList.length:=h
 cases hl:s.data.toList with
 | nil=>rw[hl]at h';simp at h'
 | cons _ _=>rfl
theorem str_em (h:¬0<s.size):s.toList.isEmpty=true:=by
 rw[ByteArray.toList_eq];have h':¬0<s.data.toList.length:=h
 cases hl:s.data.toList with
 | nil=>rfl
 | cons _ _=>rw[hl]at h';simp at h'
theorem dedOk_some (s:ByteArray)(h:0<s.size):Wp.dedOk s=(((s[0].toNat:Nat):Int) != 0):=by
 unfold Wp.dedOk;rw[dif_pos h,Bool.eq_iff_iff,bne_iff_ne,bne_iff_ne];exact⟨fun h1 e=>h1 (UInt8.toNat_inj.1 (by simpa using e)),fun h1 e=>h1 (by rw[e];rfl)⟩
theorem dedOk_none (s:ByteArray)(h:¬0<s.size):Wp.dedOk s=true:=by
 unfold Wp.dedOk;rw[dif_neg h]
theorem fits_P (B b:Nat)(r:Wp.Rq)(a:Option Addr)(cap:Nat)(bs:List ByteArray)(w:World)(f c d:Nat)(F lo hi:Int)
  (hx:f=0/\c=1/\d=2/\F=0/\lo=97/\hi=104\/f=2/\c=7/\d=8/\F=2/\lo=1/\hi=1000\/f=3/\c=10/\d=11/\F=3/\lo=0/\hi=1000\/f=4/\c=13/\d=14/\F=4/\lo=0/\hi=9\/f=5/\c=16/\d=17/\F=5/\lo=1/\hi=50\/f=6/\c=19/\d=20/\F=6/\lo=1/\hi=10\/f=7/\c=22/\d=23/\F=7/\lo=0/\hi=1000\/f=8/\c=25/\d=26/\F=8/\lo=1/\hi=1000\/f=9/\c=28/\d=29/\F=9/\lo=1/\hi=8\/f=11/\c=34/\d=35/\F=11/\lo=0/\hi=255\/f=12/\c=37/\d=38/\F=12/\lo=0/\hi=8\/f=13/\c=40/\d=41/\F=13/\lo=0/\hi=255)
  (hL:Lays B w)(hB:Box w b r (.slice a bs.length cap)):
  Calls Tryz.prog 83 #[.pointer (some ⟨b,0,none⟩),.int .i64 F] w fun e w'=>e=.returned (.bool (r.fits bs.length (Wp.short bs) f))/\∃k,w'=w.drewN k:=by
 have hr:=hL.2.1;have ⟨hm,t1,t2,hF⟩:Hid (zE 115 #[.pointer (some ⟨b,0,none⟩),.int .i64 F] w (.int .i64 (r.measure bs.length f)))/\w.cell? ⟨1,c,none⟩=some (.int .i64 lo)/\w.cell? ⟨1,d,none⟩=some (.int .i64 hi)/\
   r.fits bs.length (Wp.short bs) f=if r.measure bs.length f<lo then false else if hi<r.measure bs.length f then false else true:=by
  rcases hx with ⟨rfl,rfl,rfl,rfl,rfl,rfl⟩|⟨rfl,rfl,rfl,rfl,rfl,rfl⟩|⟨rfl,rfl,rfl,rfl,rfl,rfl⟩|⟨rfl,rfl,rfl,rfl,rfl,rfl⟩|⟨rfl,rfl,rfl,rfl,rfl,rfl⟩|⟨rfl,rfl,rfl,rfl,rfl,rfl⟩|⟨rfl,rfl,rfl,rfl,rfl,rfl⟩|⟨rfl,rfl,rfl,rfl,rfl,rfl⟩|⟨rfl,rfl,rfl,rfl,rfl,rfl⟩|⟨rfl,rfl,rfl,rfl,rfl,rfl⟩|⟨rfl,rfl,rfl,rfl,rfl,rfl⟩|⟨rfl,rfl,rfl,rfl,rfl,rfl⟩<;>
   exact⟨measure_any B b _ r a bs.length cap w (by decide) hL hB,hr _ (by decide),hr _ (by decide),by simp[Wp.Rq.fits,Wp.least,Wp.most,Wp.rowTab]⟩
 clear hr hL hB;generalize r.measure bs.length f=M at hm hF;have h3:M<lo/\Hid (r.fits bs.length (Wp.short bs) f=false)\/¬M<lo/\hi<M/\Hid (r.fits bs.length (Wp.short bs) f=false)\/¬M<lo/\¬hi<M/\Hid (r.fits bs.length (Wp.short bs) f=true):=by
  by_cases h1:M<lo
  ·exact Or.inl ⟨h1,hF.trans (if_pos h1)⟩
  ·rw[if_neg h1]at hF
   by_cases h2:hi<M
   ·exact Or.inr (Or.inl ⟨h1,h2,hF.trans (if_pos h2)⟩)
   ·exact Or.inr (Or.inr ⟨h1,h2,hF.trans (if_neg h2)⟩)
 clear hF;rcases h3 with ⟨h1,hv⟩|⟨h1,h2,hv⟩|⟨h1,h2,hv⟩
 all_goals
  rcases hx with ⟨rfl,rfl,rfl,rfl,rfl,rfl⟩|⟨rfl,rfl,rfl,rfl,rfl,rfl⟩|⟨rfl,rfl,rfl,rfl,rfl,rfl⟩|⟨rfl,rfl,rfl,rfl,rfl,rfl⟩|⟨rfl,rfl,rfl,rfl,rfl,rfl⟩|⟨rfl,rfl,rfl,rfl,rfl,rfl⟩|⟨rfl,rfl,rfl,rfl,rfl,rfl⟩|⟨rfl,rfl,rfl,rfl,rfl,rfl⟩|⟨rfl,rfl,rfl,rfl,rfl,rfl⟩|⟨rfl,rfl,rfl,rfl,rfl,rfl⟩|⟨rfl,rfl,rfl,rfl,rfl,rfl⟩|⟨rfl,rfl,rfl,rfl,rfl,rfl⟩
  all_goals
   go_enter Tryz.func83,Tryz.ntmps83;go_wp2_with (go_at_call 115;refine(hm.out).mono ?_;rintro e w' ⟨rfl,rfl⟩);go_ret;exact⟨ret_bool hv.out.symm,0,rfl⟩
theorem fits_1 (B b:Nat)(r:Wp.Rq)(a:Option Addr)(cap:Nat)(bs:List ByteArray)(w:World)(hn:bs.length<=maxLen)(hL:Lays B w)(hB:Box w b r (.slice a bs.length cap))(hS:Strs w a bs):
  Calls Tryz.prog 83 #[.pointer (some ⟨b,0,none⟩),.int .i64 1] w fun e w'=>e=.returned (.bool (r.fits bs.length (Wp.short bs) 1))/\∃k,w'=w.drewN k:=by
 have hr:=hL.2.1;have hm:Hid (zE 115 #[.pointer (some ⟨b,0,none⟩),.int .i64 1] w (.int .i64 (r.measure bs.length 1))):=measure_any B b 1 r a bs.length cap w (by decide) hL hB;have t4:w.cell? ⟨1,4,none⟩=some (.int .i64 97):=hr 4 (by decide);have t5:w.cell? ⟨1,5,none⟩=some (.int .i64 104):=hr 5 (by decide);have c2:w.cell? ⟨b,2,none⟩=some (.int .u8 (r.d.toNat:Int)):=hB 2 _ rfl;have c1:w.cell? ⟨b,1,none⟩=some (.int .u8 (r.q.toNat:Int)):=hB 1 _ rfl
 by_cases h0:r.d=45
 ·have hF:Hid (r.fits bs.length (Wp.short bs) 1=true):=by
   show r.fits bs.length (Wp.short bs) 1=_
   simp[Wp.Rq.fits,h0]
  have hd:r.d.toNat=45:=by rw[h0];rfl
  rw[hd]at c2;clear hr hL hB hS hn h0 hd;go_enter Tryz.func83,Tryz.ntmps83
  go_wp2
  go_ret;exact⟨ret_bool hF.out.symm,0,rfl⟩
 ·have hd:(((r.d.toNat:Nat):Int) == 45)=false:=by
   rw[beq_eq_false_iff_ne];intro e;exact h0 (UInt8.toNat_inj.1 (by rw[show (45:UInt8).toNat=45 from rfl];omega))
  have hF:Hid (r.fits bs.length (Wp.short bs) 1=if r.measure bs.length 1<97 then false else if 104<r.measure bs.length 1 then false else (r.d != r.q)):=by
   show r.fits bs.length (Wp.short bs) 1=_
   simp[Wp.Rq.fits,Wp.least,Wp.most,Wp.rowTab,h0]
  have hq:Hid ((r.d != r.q)=(((r.d.toNat:Nat):Int) != ((r.q.toNat:Nat):Int))):=by
   show (r.d != r.q)=_
   rw[Bool.eq_iff_iff,bne_iff_ne,bne_iff_ne];exact⟨fun h e=>h (UInt8.toNat_inj.1 (by omega)),fun h e=>h (by rw[e])⟩
  clear hr hL hB hS hn h0;generalize r.measure bs.length 1=M at hm hF
  by_cases h1:M<97
  ·have hv:Hid (r.fits bs.length (Wp.short bs) 1=false):=hF.out.trans (by rw[if_pos h1]);go_enter Tryz.func83,Tryz.ntmps83;go_wp2_with (go_at_call 115;refine(hm.out).mono ?_;rintro e w' ⟨rfl,rfl⟩);go_ret;exact⟨ret_bool hv.out.symm,0,rfl⟩
  ·by_cases h2:104<M
   ·have hv:Hid (r.fits bs.length (Wp.short bs) 1=false):=hF.out.trans (by rw[if_neg h1,if_pos h2]);go_enter Tryz.func83,Tryz.ntmps83;go_wp2_with (go_at_call 115;refine(hm.out).mono ?_;rintro e w' ⟨rfl,rfl⟩);go_ret;exact⟨ret_bool hv.out.symm,0,rfl⟩
   ·have hv:Hid (r.fits bs.length (Wp.short bs) 1=(((r.d.toNat:Nat):Int) != ((r.q.toNat:Nat):Int))):=hF.out.trans (by rw[if_neg h1,if_neg h2,hq.out]);go_enter Tryz.func83,Tryz.ntmps83;go_wp2_with (go_at_call 115;refine(hm.out).mono ?_;rintro e w' ⟨rfl,rfl⟩);go_quiet (fail)
    go_wp2
    go_ret;exact⟨ret_bool hv.out.symm,_,rfl⟩
theorem fits_10 (B b:Nat)(r:Wp.Rq)(a:Option Addr)(cap:Nat)(bs:List ByteArray)(w:World)(hn:bs.length<=maxLen)(hL:Lays B w)(hB:Box w b r (.slice a bs.length cap))(hS:Strs w a bs):
  Calls Tryz.prog 83 #[.pointer (some ⟨b,0,none⟩),.int .i64 10] w fun e w'=>e=.returned (.bool (r.fits bs.length (Wp.short bs) 10))/\∃k,w'=w.drewN k:=by
 have hr:=hL.2.1;have hm:Hid (zE 115 #[.pointer (some ⟨b,0,none⟩),.int .i64 10] w (.int .i64 (r.measure bs.length 10))):=measure_any B b 10 r a bs.length cap w (by decide) hL hB;have t31:w.cell? ⟨1,31,none⟩=some (.int .i64 0):=hr 31 (by decide);have t32:w.cell? ⟨1,32,none⟩=some (.int .i64 8):=hr 32 (by decide);have c10:w.cell? ⟨b,10,none⟩=some (.string r.ded):=hB 10 _ rfl;have hF:Hid (r.fits bs.length (Wp.short bs) 10=if r.measure bs.length 10<0 then false else if 8<r.measure bs.length 10 then false else Wp.dedOk r.ded):=by
  show r.fits bs.length (Wp.short bs) 10=_
  simp[Wp.Rq.fits,Wp.least,Wp.most,Wp.rowTab]
 clear hr hL hB hS hn;generalize r.measure bs.length 10=M at hm hF;generalize r.ded=D at c10 hF
 by_cases h1:M<0
 ·have hv:Hid (r.fits bs.length (Wp.short bs) 10=false):=hF.out.trans (by rw[if_pos h1]);go_enter Tryz.func83,Tryz.ntmps83;go_wp2_with (go_at_call 115;refine(hm.out).mono ?_;rintro e w' ⟨rfl,rfl⟩);go_ret;exact⟨ret_bool hv.out.symm,0,rfl⟩
 ·by_cases h2:8<M
  ·have hv:Hid (r.fits bs.length (Wp.short bs) 10=false):=hF.out.trans (by rw[if_neg h1,if_pos h2]);go_enter Tryz.func83,Tryz.ntmps83;go_wp2_with (go_at_call 115;refine(hm.out).mono ?_;rintro e w' ⟨rfl,rfl⟩);go_ret;exact⟨ret_bool hv.out.symm,0,rfl⟩
  ·by_cases h3:0<D.size
   ·have hne:=str_ne h3;have hv:Hid (r.fits bs.length (Wp.short bs) 10=(((D[0].toNat:Nat):Int) != 0)):=hF.out.trans (by rw[if_neg h1,if_neg h2,dedOk_some D h3]);go_enter Tryz.func83,Tryz.ntmps83;go_wp2_with (go_at_call 115;refine(hm.out).mono ?_;rintro e w' ⟨rfl,rfl⟩);go_ret;exact⟨ret_bool hv.out.symm,0,rfl⟩
   ·have hne:=str_em h3;have hv:Hid (r.fits bs.length (Wp.short bs) 10=true):=hF.out.trans (by rw[if_neg h1,if_neg h2,dedOk_none D h3]);go_enter Tryz.func83,Tryz.ntmps83;go_wp2_with (go_at_call 115;refine(hm.out).mono ?_;rintro e w' ⟨rfl,rfl⟩);go_ret;exact⟨ret_bool hv.out.symm,0,rfl⟩
theorem fits_14 (B b:Nat)(r:Wp.Rq)(a:Option Addr)(cap:Nat)(bs:List ByteArray)(w:World)(hn:bs.length<=maxLen)(hL:Lays B w)(hB:Box w b r (.slice a bs.length cap))(hS:Strs w a bs):
  Calls Tryz.prog 83 #[.pointer (some ⟨b,0,none⟩),.int .i64 14] w fun e w'=>e=.returned (.bool (r.fits bs.length (Wp.short bs) 14))/\∃k,w'=w.drewN k:=by
 have hr:=hL.2.1;have hm:Hid (zE 115 #[.pointer (some ⟨b,0,none⟩),.int .i64 14] w (.int .i64 (r.measure bs.length 14))):=measure_any B b 14 r a bs.length cap w (by decide) hL hB;have t43:w.cell? ⟨1,43,none⟩=some (.int .i64 1):=hr 43 (by decide);have t44:w.cell? ⟨1,44,none⟩=some (.int .i64 10):=hr 44 (by decide);have c14:w.cell? ⟨b,14,none⟩=some (.slice a bs.length cap):=hB 14 _ rfl;have hsh:=allShort_any a cap bs w hn hS;have HS:=zH hsh;have hF:Hid (r.fits bs.length (Wp.short bs) 14=if r.measure bs.length 14<1 then false else if 10<r.measure bs.length 14 then false else Wp.short bs):=by
  show r.fits bs.length (Wp.short bs) 14=_
  simp[Wp.Rq.fits,Wp.least,Wp.most,Wp.rowTab]
 clear hr hL hB hS hn hsh;generalize r.measure bs.length 14=M at hm hF
 by_cases h1:M<1
 ·have hv:Hid (r.fits bs.length (Wp.short bs) 14=false):=hF.out.trans (by rw[if_pos h1]);go_enter Tryz.func83,Tryz.ntmps83;go_wp2_with (go_at_call 115;refine(hm.out).mono ?_;rintro e w' ⟨rfl,rfl⟩);go_ret;exact⟨ret_bool hv.out.symm,0,rfl⟩
 ·by_cases h2:10<M
  ·have hv:Hid (r.fits bs.length (Wp.short bs) 14=false):=hF.out.trans (by rw[if_neg h1,if_pos h2]);go_enter Tryz.func83,Tryz.ntmps83;go_wp2_with (go_at_call 115;refine(hm.out).mono ?_;rintro e w' ⟨rfl,rfl⟩);go_ret;exact⟨ret_bool hv.out.symm,0,rfl⟩
  ·have hv:Hid (r.fits bs.length (Wp.short bs) 14=Wp.short bs):=hF.out.trans (by rw[if_neg h1,if_neg h2]);go_enter Tryz.func83,Tryz.ntmps83;go_wp2_with (first|(go_at_call 115;refine(hm.out).mono ?_;rintro e w' ⟨rfl,rfl⟩)|(go_at_call 116;refine(HS.out).mono ?_;rintro e w' ⟨rfl,rfl⟩));go_ret;exact⟨ret_bool hv.out.symm,0,rfl⟩
theorem fits_any (B b f:Nat)(r:Wp.Rq)(a:Option Addr)(cap:Nat)(bs:List ByteArray)(w:World)(hf:f<15)(hn:bs.length<=maxLen)(hL:Lays B w)(hB:Box w b r (.slice a bs.length cap))(hS:Strs w a bs):
  Calls Tryz.prog 83 #[.pointer (some ⟨b,0,none⟩),.int .i64 (f:Int)] w fun e w'=>e=.returned (.bool (r.fits bs.length (Wp.short bs) f))/\∃k,w'=w.drewN k:=by
 have hx:f=0\/f=1\/f=2\/f=3\/f=4\/f=5\/f=6\/f=7\/f=8\/f=9\/f=10\/f=11\/f=12\/f=13\/f=14:=by omega
 rcases hx with rfl|rfl|rfl|rfl|rfl|rfl|rfl|rfl|rfl|rfl|rfl|rfl|rfl|rfl|rfl
 ·exact fits_P B b r a cap bs w _ 1 2 _ 97 104 (by simp) hL hB
 ·exact fits_1 B b r a cap bs w hn hL hB hS
 ·exact fits_P B b r a cap bs w _ 7 8 _ 1 1000 (by simp) hL hB
 ·exact fits_P B b r a cap bs w _ 10 11 _ 0 1000 (by simp) hL hB
 ·exact fits_P B b r a cap bs w _ 13 14 _ 0 9 (by simp) hL hB
 ·exact fits_P B b r a cap bs w _ 16 17 _ 1 50 (by simp) hL hB
 ·exact fits_P B b r a cap bs w _ 19 20 _ 1 10 (by simp) hL hB
 ·exact fits_P B b r a cap bs w _ 22 23 _ 0 1000 (by simp) hL hB
 ·exact fits_P B b r a cap bs w _ 25 26 _ 1 1000 (by simp) hL hB
 ·exact fits_P B b r a cap bs w _ 28 29 _ 1 8 (by simp) hL hB
 ·exact fits_10 B b r a cap bs w hn hL hB hS
 ·exact fits_P B b r a cap bs w _ 34 35 _ 0 255 (by simp) hL hB
 ·exact fits_P B b r a cap bs w _ 37 38 _ 0 8 (by simp) hL hB
 ·exact fits_P B b r a cap bs w _ 40 41 _ 0 255 (by simp) hL hB
 ·exact fits_14 B b r a cap bs w hn hL hB hS
end Go.Proofs.YtbdobaapadlcjabGreatDoor
