import Derived.Lib.Bytes
import Derived.Test.YtbdobaapadlcjabGreatDoorHy04
import Derived.Shelf.Abstract
set_option maxHeartbeats 1000000
set_option linter.unusedVariables false
set_option linter.unusedSimpArgs false
namespace Go.Proofs.YtbdobaapadlcjabGreatDoor.Crc
variable {h:Nat}
def tab:List Nat:=[0,498536548,997073096,651767980,1994146192,1802195444,1303535960,1342533948,3988292384,4027552580,3604390888,3412177804,2607071920,2262029012,2685067896,3183342108]
def half (h:Nat):Nat:=(h / 16) ^^^ tab.getD (h % 16) 0
def step (h:Nat)(b:UInt8):Nat:=half (half (h ^^^ b.toNat))
def run (h:Nat)(l:List UInt8):Nat:=l.foldl step h
def crc (l:List UInt8):Nat:=4294967295-run 4294967295 l
theorem tab_lt (i:Nat):tab.getD i 0<4294967296:=by
 by_cases h:i<16
 ·have:∀j:Fin 16,tab.getD j.val 0<4294967296:=by decide
  exact this ⟨i,h⟩
 ·rw[List.getD_eq_getElem?_getD,List.getElem?_eq_none (by simp[tab];omega)];decide
theorem xor_lt {a b:Nat}(ha:a<4294967296)(hb:b<4294967296):a ^^^ b<4294967296:=by
 have:=Nat.xor_lt_two_pow (n:=32) (x:=a) (y:=b) (by omega) (by omega);omega
theorem half_lt (hh:h<4294967296):half h<4294967296:=xor_lt (by omega) (tab_lt _)
theorem byte_lt (b:UInt8):b.toNat<4294967296:=Nat.lt_trans b.toNat_lt (by decide)
theorem step_lt (b:UInt8)(hh:h<4294967296):step h b<4294967296:=half_lt (half_lt (xor_lt hh (byte_lt b)))
theorem run_lt (l:List UInt8)(hh:h<4294967296):run h l<4294967296:=by
 induction l generalizing h with
 | nil=>exact hh
 | cons b l ih=>exact ih (step_lt b hh)
theorem run_snoc (h:Nat)(l:List UInt8)(b:UInt8):run h (l++[b])=step (run h l) b:=by simp[run]
theorem not_sub (x:Nat)(hx:x<4294967296):4294967295 ^^^ x=4294967295-x:=by
 have h:=congrArg BitVec.toNat (BitVec.allOnes_xor (x:=BitVec.ofNat 32 x));rw[BitVec.toNat_xor,BitVec.toNat_not,BitVec.toNat_allOnes,BitVec.toNat_ofNat,Nat.mod_eq_of_lt (by omega)]at h;omega
theorem not_u32 (x:Nat)(hx:x<4294967296):bits .xor .u32 4294967295 (x:Int)=((4294967295-x:Nat):Int):=by
 rw[<-not_sub x hx];exact u32_xor_nat 4294967295 x (by omega) hx
theorem xor_u32 (a b:Nat)(ha:a<4294967296)(hb:b<4294967296):bits .xor .u32 (a:Int) (b:Int)=((a ^^^ b:Nat):Int):=u32_xor_nat a b ha hb
theorem and_u32 (a:Nat)(ha:a<4294967296):bits .and .u32 (a:Int) 15=((a % 16:Nat):Int):=by
 have:=u32_and_nat a 15 ha (by omega);rw[show (15:Nat)=2^4-1 by decide,Nat.and_two_pow_sub_one_eq_mod]at this
 exact this
end Go.Proofs.YtbdobaapadlcjabGreatDoor.Crc
namespace Go.Proofs.YtbdobaapadlcjabGreatDoor
open Go.RowKit
variable {w w':World}{j d n:Nat}{room:Int}{v:Value}{fs:List Dk.DF}
theorem ret_num {k:IntKind}{a b:Int}(h:a=b):Ending.returned (.int k a)=.returned (.int k b):=by rw[h]
theorem check_any (s:ByteArray)(w:World)(hs:s.size<=maxLen)(hT:∀i:Nat,i<16->w.cell? ⟨2,i,none⟩=some (.int .u32 (Crc.tab.getD i 0:Nat))):
  zE 59 #[.string s] w (.int .u32 (Crc.crc s.data.toList:Nat)):=by
 unfold maxLen at hs;go_enter Tryz.func59,Tryz.ntmps59
 go_wp2
 go_loop [3,7] (fun h i=>∃k:Nat,k<=s.size/\i=.int .i64 k/\h=.int .u32 (Crc.run 4294967295 (s.data.toList.take k):Nat)) (fun _ i=>s.size-(intOf i).toNat)
 case atStart=>exact⟨0,Nat.zero_le _,rfl,rfl⟩
 case round=>
  obtain⟨k,hk,rfl,rfl⟩:=hrel;have hHl:=Crc.run_lt (h:=4294967295) (s.data.toList.take k) (by decide)
  by_cases hlt:k<s.size
  ·have hsn:Crc.run 4294967295 (s.data.toList.take (k+1))=Crc.step (Crc.run 4294967295 (s.data.toList.take k)) s[k]:=by
    rw[<-Crc.run_snoc,List.take_succ_eq_append_getElem (by simpa using hlt)];rfl
   generalize Crc.run 4294967295 (s.data.toList.take k)=H at hHl hsn;unfold Crc.step at hsn;have e1:bits .xor .u32 (H:Int) ((s[k].toNat:Int) % 4294967296)=((H ^^^ s[k].toNat:Nat):Int):=by
    rw[Int.emod_eq_of_lt (by omega) (by have:=s[k].toNat_lt;omega)];exact Crc.xor_u32 _ _ hHl (Crc.byte_lt _)
   have l1:=Crc.xor_lt hHl (Crc.byte_lt s[k]);generalize H ^^^ s[k].toNat=X1 at e1 hsn l1;have a1:=Crc.and_u32 X1 l1;have c1:=hT (X1 % 16) (Nat.mod_lt _ (by decide));have m1:X1 % 16<16:=Nat.mod_lt _ (by decide);have t1:=Crc.tab_lt (X1 % 16);have x1:bits .xor .u32 ((X1:Int) / 16) ((Crc.tab.getD (X1 % 16) 0:Nat):Int)=((Crc.half X1:Nat):Int):=by
    have:=Crc.xor_u32 (X1 / 16) _ (by omega) t1;rw[show ((X1 / 16:Nat):Int)=(X1:Int) / 16 by omega]at this
    exact this
   have l2:=Crc.half_lt l1;generalize Crc.half X1=X2 at hsn x1 l2;generalize Crc.tab.getD (X1 % 16) 0=T1 at c1 x1 t1;generalize X1 % 16=J1 at a1 c1 m1;have a2:=Crc.and_u32 X2 l2;have c2:=hT (X2 % 16) (Nat.mod_lt _ (by decide));have m2:X2 % 16<16:=Nat.mod_lt _ (by decide);have t2:=Crc.tab_lt (X2 % 16);have x2:bits .xor .u32 ((X2:Int) / 16) ((Crc.tab.getD (X2 % 16) 0:Nat):Int)=((Crc.half X2:Nat):Int):=by
    have:=Crc.xor_u32 (X2 / 16) _ (by omega) t2;rw[show ((X2 / 16:Nat):Int)=(X2:Int) / 16 by omega]at this
    exact this
   generalize Crc.half X2=X3 at hsn x2;generalize Crc.tab.getD (X2 % 16) 0=T2 at c2 x2 t2;generalize X2 % 16=J2 at a2 c2 m2;have HS:=zH hsn;clear hsn hT
   go_wp2
   go_round
   case rel=>exact⟨k+1,by omega,by go_num,by rw[HS.out]⟩
   case measure=>simp[intOf];omega
  ·generalize hH:Crc.run 4294967295 (s.data.toList.take k)=H at hHl;have HH:Hid (Crc.run 4294967295 (s.data.toList.take k)=H):=hH;clear hH;have n1:bits .xor .u32 IntKind.u32.max (H:Int)=((4294967295-H:Nat):Int):=Crc.not_u32 H hHl
   go_wp2
   go_ret;exact⟨ret_num (by rw[Crc.crc,<-HH.out,List.take_of_length_le (by simp;omega)]),rfl⟩
def Tab (w:World):Prop:=∀i:Nat,i<16->w.cell? ⟨2,i,none⟩=some (.int .u32 (Crc.tab.getD i 0:Nat))
theorem Tab.below {B:Nat}(h:Tab w)(hb:Below B w w')(hB:2<B):Tab w':=fun i hi=>(hb.cell (p:=⟨2,i,none⟩) hB).trans (h i hi)
def didS (r:Wp.Rq):ByteArray:=if r.ded.size=0 then ⟨(0::lowB (Crc.crc r.bod.data.toList) 4).toArray⟩ else r.ded
theorem toList_nil (s:ByteArray)(h:s.size=0):s=⟨#[]⟩:=by
 have h1:=h;have h2:s.data=#[]:=Array.eq_empty_of_size_eq_zero h1
 cases s
 simp at h2;rw[h2]
theorem ne_nil (s:ByteArray)(h:s.size≠0):s.toList.isEmpty=false:=by
 rw[Lib.toList_data]
 cases hl:s.data.toList with
 | nil=>exact absurd (show s.size=0 by rw[ByteArray.size,<-Array.length_toList,hl];rfl) h
 | cons a l=>rfl
theorem crc_lt (l:List UInt8):Crc.crc l<4294967296:=by
 show 4294967295-_<4294967296
 omega
theorem dedupID_any (r:Wp.Rq)(y:Sl)(w:World)(hb:r.bod.size<=maxLen)(hT:Tab w)(h2:2<w.heap.size):
  zB 169 #[.agg (cellsOf r y.v)] w (.string (didS r)):=by
 rw[show cellsOf r y.v=#[.int .u8 (r.op.toNat:Int),.int .u8 (r.q.toNat:Int),.int .u8 (r.d.toNat:Int),.int .i64 r.vis,.int .i64 r.win,.int .i64 r.rcv,.int .i64 r.quo,.int .i64 r.mx,.int .i64 r.tic,.string r.grp,.string r.ded,.string r.bod,.string r.att,.string r.han,.slice y.a y.n y.c] from rfl]
 by_cases hd:r.ded.size=0
 ·have e0:r.ded=⟨#[]⟩:=toList_nil _ hd;have hdid:Hid (didS r=⟨(0::lowB (Crc.crc r.bod.data.toList) 4).toArray⟩):=by show _=_;unfold didS;rw[if_pos hd]
  rw[e0];clear e0 hd;have HD:Hid (∀W:World,(W.alloc (.cells #[.int .u8 0] 5)).ownsRow W.heap.size 5 1 (.slice (some ⟨W.heap.size,0,none⟩) 1 1) 1 [.int .u8 0]):=fun W=>⟨rfl,.inr ⟨W.heap.size,1,#[.int .u8 0],rfl,Nat.le_refl _,heap_alloc_new _ _,by decide,by decide,rfl,rfl⟩⟩
  have HC:Hid (Crc.crc r.bod.data.toList<4294967296):=crc_lt _;have HCK:Hid (∀W,Below w.heap.size w W->zE 59 #[.string r.bod] W (.int .u32 (Crc.crc r.bod.data.toList:Nat))):=fun W hbW=>check_any _ W hb (hT.below hbW h2)
  clear hT h2 hb;generalize Crc.crc r.bod.data.toList=N at*
  have hN:=HC.out;go_enter Tryz.func169,Tryz.ntmps169;go_wp2_with (go_at_call 59;refine(HCK.out _ (((Below.refl _ _).alloc (Nat.le_refl _) _).alloc (by simp) _)).mono ?_;rintro e w' ⟨rfl,rfl⟩);have ha:=HD.out (w.alloc (.cells #[.int .u8 (r.op.toNat:Int),.int .u8 (r.q.toNat:Int),.int .u8 (r.d.toNat:Int),.int .i64 r.vis,.int .i64 r.win,.int .i64 r.rcv,.int .i64 r.quo,.int .i64 r.mx,.int .i64 r.tic,.string r.grp,.string ⟨#[]⟩,.string r.bod,.string r.att,.string r.han,.slice y.a y.n y.c] 24));rw[World.size_alloc]at ha;refine(appendNumber_any (w.heap.size+1) _ [0] N 4 _ hN (by decide) (by decide) (by simp) ha).mono ?_;rintro e w2 ⟨v',rfl,ho,hbel⟩;have hstr:=OwnB.str ho (by simp);have HBE:Hid (Below w.heap.size w w2):=(((Below.refl _ _).alloc (Nat.le_refl _) _).alloc (by simp) _).trans (hbel.mono (by omega));clear ha ho hbel;go_wp2_with fail;go_ret;exact⟨by rw[hdid.out];rfl,HBE.out⟩
 ·have hne:=ne_nil _ hd;have hdid:Hid (didS r=r.ded):=by show _=_;unfold didS;rw[if_neg hd]
  clear hd;go_enter Tryz.func169,Tryz.ntmps169;go_wp2_with fail;go_ret;exact⟨by rw[hdid.out];rfl,(Below.refl _ _).alloc (Nat.le_refl _) _⟩
def recB (s:ByteArray):List UInt8:=(lowB s.size 4++lowB (Crc.crc s.data.toList) 4)++s.data.toList
theorem recB_length (s:ByteArray):(recB s).length=8+s.size:=by
 rw[recB,List.length_append,List.length_append,lowB_length,lowB_length];rfl
theorem record_any (s:ByteArray)(w:World)(hs:s.size<=1048576)(hT:Tab w)(h2:2<w.heap.size):
  Calls Tryz.prog 31 #[.slice none 0 0,.string s] w fun e w'=>∃v,e=.returned v/\OwnB w' w.heap.size v (recB s)/\Below w.heap.size w w':=by
 obtain⟨i0,hi,hz0,hz1,hz2⟩:=info_parts info5;have hnum:Hid (Calls Tryz.prog 46 #[.slice none 0 0,.int .i64 (s.size:Int),.int .i64 4] w fun e w'=>∃v',e=.returned v'/\OwnB w' w.heap.size v' ([]++lowB s.size 4)/\Below w.heap.size w w'):=
  appendNumber_any w.heap.size _ [] s.size 4 w (by omega) (by decide) (by decide) (Nat.le_refl _) (World.ownsRow_nil _ _ _ _)
 have HC:Hid (Crc.crc s.data.toList<4294967296):=crc_lt _;have HCK:Hid (∀W,Below w.heap.size w W->zE 59 #[.string s] W (.int .u32 (Crc.crc s.data.toList:Nat))):=fun W hbW=>check_any _ W (by unfold maxLen;omega) (hT.below hbW h2)
 have hrec:Hid (recB s=(([]++lowB s.size 4)++lowB (Crc.crc s.data.toList) 4)++s.data.toList):=by show _=_;simp[recB]
 clear hT h2;generalize Crc.crc s.data.toList=N at*
 have hN:=HC.out;go_enter Tryz.func31,Tryz.ntmps31;go_wp2_with fail;refine(hnum.out).mono ?_;rintro e w1 ⟨v1,rfl,ho1,hb1⟩;have HO:=zH ho1;have HB:=zH hb1;clear ho1 hb1;go_wp2_with (go_at_call 59;refine(HCK.out _ HB.out).mono ?_;rintro e w' ⟨rfl,rfl⟩);refine(appendNumber_any w.heap.size _ _ N 4 _ hN (by decide) (by simp[lowB_length]) HB.out.size HO.out).mono ?_;rintro e w2 ⟨v2,rfl,ho2,hb2⟩;have hle:(([]++lowB s.size 4)++lowB N 4).length<=100:=by simp[lowB_length]
 generalize (([]++lowB s.size 4)++lowB N 4)=L at ho2 hle hrec;have HO2:=zH ho2;have HB2:=zH (HB.out.trans hb2);have hsz:=HB2.out.size;clear ho2 hb2;go_wp2_with (at_builtin;refine Lib.wpList_append_own_string _ rfl _ _ 54 9 rfl w.heap.size 5 i0 Tryz.underlying54 Tryz.underlying9 hi hz0 hz1 hz2 _ _ _ rfl HO2.out s rfl ?c1 ?c2 ?c3 ?_)
 case c1=>unfold maxLen;omega
 case c2=>omega
 case c3=>omega
 intro v' w3 hown' hgrow _;have hr1:OwnB w3 w.heap.size v' (recB s):=by
  rw[hrec.out];unfold OwnB;have e1:bytesV (L++s.data.toList)=bytesV L++Lib.strCells s:=by rw[<-bytesV_str];simp[bytesV]
  have e2:(L++s.data.toList).length=L.length+s.size:=by rw[List.length_append];rfl
  rw[e1,e2];exact hown'
 have hr2:Below w.heap.size w w3:=by
  refine Below.grown HB2.out hgrow (by omega) ?_;intro k hk;exact(World.ownsRow.lt HO2.out k hk).1
 clear hown' hgrow
 go_wp2
 go_ret;exact⟨_,rfl,hr1,hr2⟩
abbrev jn:ByteArray:=⟨#[106,111,117,114,110,97,108]⟩
abbrev jw:ByteArray:=⟨#[106,111,117,114,110,97,108,46,110,101,119]⟩
abbrev Dd0 (w:World)(d:Nat)(v:Value)(fs:List Dk.DF):Prop:=Dk.Dsk w 77 79 d v ⟨fs,-1,false⟩
abbrev Gd0 (fs:List Dk.DF)(n k:Nat):Prop:=Dk.Good ⟨fs,-1,false⟩ n k
structure Jr (w:World)(j d:Nat)(room:Int)(v:Value)(fs:List Dk.DF)(n k:Nat):Prop where
 hj:w.heap[j]?=some (.cells #[.pointer (some ⟨d,0,none⟩),.int .i64 room,.bool false] 85 (0,0))
 dsk:Dd0 w d v fs
 gd:Gd0 fs n k
def jbl (j d:Nat)(v:Value):List Nat:=j::Dk.bl d v
theorem Jr.ne {k:Nat}(h:Jr w j d room v fs n k):j∉Dk.bl d v:=fun hm=>by
 rcases List.mem_cons.1 hm with e|e
 ·have h1:=h.hj;have h2:w.heap[d]?=_:=h.dsk.blk;rw[<-e,h1]at h2;simp at h2
 ·exact own_ne h.dsk.own h.hj (by decide) (by simpa [Option.mem_toList]using e)
theorem Jr.tch {k:Nat}(h:Jr w j d room v fs n k){S:List Nat}(ht:Tch S w w')(hS:∀b∈jbl j d v,b∉S):Jr w' j d room v fs n k:=
 ⟨(ht.block _ (lt_of_block h.hj) (hS _ (by simp[jbl]))).trans h.hj,h.dsk.tch ht (fun b hb=>hS b (List.mem_cons_of_mem _ hb)),h.gd⟩
theorem Jr.apart {k:Nat}(h:Jr w j d room v fs n k){b:Nat}{C:Array Value}{t:TypeId}(hb:w.heap[b]?=some (.cells C t (0,0)))(h1:85≠t)(h2:77≠t)(h3:79≠t):b∉jbl j d v:=fun hm=>by
 rcases List.mem_cons.1 hm with e|e
 ·have h0:=h.hj;rw[<-e,hb]at h0;simp at h0;exact h1 h0.2.symm
 ·rcases List.mem_cons.1 e with e|e
  ·have h0:w.heap[d]?=_:=h.dsk.blk;rw[<-e,hb]at h0;simp at h0;exact h2 h0.2.symm
  ·exact own_ne h.dsk.own hb h3 (by simpa [Option.mem_toList]using e)
theorem Jr.c0 {k:Nat}(h:Jr w j d room v fs n k):w.cell? ⟨j,0,none⟩=some (.pointer (some ⟨d,0,none⟩)):=(cell_of_row w j 0 _ 85 (0,0) h.hj).trans rfl
theorem Jr.c1 {k:Nat}(h:Jr w j d room v fs n k):w.cell? ⟨j,1,none⟩=some (.int .i64 room):=(cell_of_row w j 1 _ 85 (0,0) h.hj).trans rfl
theorem Jr.c2 {k:Nat}(h:Jr w j d room v fs n k):w.cell? ⟨j,2,none⟩=some (.bool false):=(cell_of_row w j 2 _ 85 (0,0) h.hj).trans rfl
theorem Jr.fz {k:Nat}(h:Jr w j d room v fs n k)(o:Nat):w.frozen? ⟨j,o,none⟩=false:=frozen_of_row w j o _ 85 h.hj
theorem Jr.tj {k:Nat}(h:Jr w j d room v fs n k):∀b∈Dk.bl d v,b∉[j]:=fun b hb hm=>by
 simp at hm;subst hm;exact h.ne hb
theorem Jr.set1 {k:Nat}(h:Jr w j d room v fs n k)(r:Int):Jr (w.setCell ⟨j,1,none⟩ (.int .i64 r)) j d r v fs n k:=
 ⟨heap_setCell_same w j 1 _ 85 _ h.hj,h.dsk.tch ((Tch.refl [j] w).setCell (fun _=>by simp) _) h.tj,h.gd⟩
theorem Jr.set2 {k:Nat}(h:Jr w j d room v fs n k):Jr (w.setCell ⟨j,2,none⟩ (.bool false)) j d room v fs n k:=
 ⟨heap_setCell_same w j 2 _ 85 _ h.hj,h.dsk.tch ((Tch.refl [j] w).setCell (fun _=>by simp) _) h.tj,h.gd⟩
theorem OwnB.slc {base:Nat}{l:List UInt8}(h:OwnB w base v l)(hl:0<l.length):∃g cap,v=.slice (some ⟨g,0,none⟩) l.length cap:=by
 rcases h.2 with ⟨rfl,h0⟩|⟨g,cap,cur,rfl,_⟩
 ·omega
 ·exact⟨g,cap,rfl⟩
end Go.Proofs.YtbdobaapadlcjabGreatDoor
namespace Go.Proofs.YtbdobaapadlcjabGreatDoor
set_option maxRecDepth 4000
open Go.RowKit
def deedsC (b:Nat):Array Value:=
 #[.func (.func 117) #[] #[],.func (.func 118) #[] #[],.func (.func 119) #[] #[],.nilFunc,.func (.func 120) #[] #[],.nilFunc,.nilFunc,.nilFunc,.nilFunc,.nilFunc,.nilFunc,.nilFunc,.nilFunc,.nilFunc,.nilFunc,
  .func (.func 160) #[] #[.pointer (some ⟨b+1,0,none⟩)],.nilFunc,
  .func (.func 160) #[] #[.pointer (some ⟨b+1+1,0,none⟩)],
  .func (.func 160) #[] #[.pointer (some ⟨b+1+1+1,0,none⟩)],
  .func (.func 125) #[] #[],.nilFunc,
  .func (.func 160) #[] #[.pointer (some ⟨b+1+1+1+1,0,none⟩)],
  .nilFunc,.func (.func 127) #[] #[],.nilFunc,.nilFunc]
def nils26:Array Value:=#[.nilFunc,.nilFunc,.nilFunc,.nilFunc,.nilFunc,.nilFunc,.nilFunc,.nilFunc,.nilFunc,.nilFunc,.nilFunc,.nilFunc,.nilFunc,.nilFunc,.nilFunc,.nilFunc,.nilFunc,.nilFunc,.nilFunc,.nilFunc,.nilFunc,.nilFunc,.nilFunc,.nilFunc,.nilFunc,.nilFunc]
theorem five (w:World)(A B C D E:Obj):(((((w.alloc A).alloc B).alloc C).alloc D).alloc E).heap[w.heap.size]?=some A:=by
 rw[Below.heap_alloc _ _ _ (by simp;omega),Below.heap_alloc _ _ _ (by simp;omega),Below.heap_alloc _ _ _ (by simp;omega),heap_alloc2_old]
theorem five3 (w:World)(A B C D E:Obj):(((((w.alloc A).alloc B).alloc C).alloc D).alloc E).heap[w.heap.size+3]?=some D:=by
 have h:=heap_alloc_new (((w.alloc A).alloc B).alloc C) D;rw[World.size_alloc,World.size_alloc,World.size_alloc]at h;rw[Below.heap_alloc _ _ _ (by simp)];exact h
theorem five_at (w:World)(A B C D E:Obj):(((((w.alloc A).alloc B).alloc C).alloc D).alloc E).heap[w.heap.size+1]?=some B/\(((((w.alloc A).alloc B).alloc C).alloc D).alloc E).heap[w.heap.size+2]?=some C/\(((((w.alloc A).alloc B).alloc C).alloc D).alloc E).heap[w.heap.size+3]?=some D/\(((((w.alloc A).alloc B).alloc C).alloc D).alloc E).heap[w.heap.size+4]?=some E:=by
 have h1:=heap_alloc_new (w.alloc A) B;have h2:=heap_alloc_new ((w.alloc A).alloc B) C;have h4:=heap_alloc_new ((((w.alloc A).alloc B).alloc C).alloc D) E;rw[World.size_alloc]at h1;rw[World.size_alloc,World.size_alloc]at h2;rw[World.size_alloc,World.size_alloc,World.size_alloc,World.size_alloc]at h4;refine⟨?_,?_,five3 w A B C D E,h4⟩
 ·rw[Below.heap_alloc _ _ _ (by simp),Below.heap_alloc _ _ _ (by simp),Below.heap_alloc _ _ _ (by simp)];exact h1
 ·rw[Below.heap_alloc _ _ _ (by simp),Below.heap_alloc _ _ _ (by simp)];exact h2
def Tbl (w:World)(b:Nat):Prop:=∀i f:Nat,(i,f)∈[(1,122),(2,123),(3,124),(4,126)]->w.heap[b+i]?=some (.cells #[.func (.func f) #[] #[]] 186 (0,0))
theorem Tbl.tch {w w':World}{b:Nat}(h:Tbl w b){S:List Nat}(ht:Tch S w w')(hS:∀i,b+i∉S):Tbl w' b:=fun i f hi=>(ht.block _ (lt_of_block (h i f hi)) (hS i)).trans (h i f hi)
theorem five_below (w:World)(A B C D E:Obj):Below w.heap.size w (((((w.alloc A).alloc B).alloc C).alloc D).alloc E):=
 (((((Below.refl _ _).alloc (Nat.le_refl _) _).alloc (by simp) _).alloc (by simp;omega) _).alloc (by simp;omega) _).alloc (by simp;omega) _
theorem deeds_one (b:Nat):(deedsC b).all (·.oneCell')=true:=by kernel_rfl
theorem deeds_any (w:World):Calls Tryz.prog 87 #[] w fun e w'=>e=.returned (.agg (deedsC w.heap.size))/\Below w.heap.size w w'/\w'.heap.size=w.heap.size+5/\
  Tbl w' w.heap.size:=by
 go_enter Tryz.func87,Tryz.ntmps87;go_wp2_with (first|go_in|(refine wpList_store_row rfl 92 _ _ rfl w.heap.size (deedsC w.heap.size) ?hx ?hy 92 nils26 ?hg ?hi ?hs ?h1 ?k;(case hx=>kernel_rfl);(case hy=>kernel_rfl);(case hg=>exact five _ _ _ _ _ _);(case hi=>kernel_rfl);(case hs=>kernel_rfl);(case h1=>exact deeds_one _)));refine bodyPost_ret (results_cell_row (p:=0) rfl _ _ w.heap.size 92 (deedsC w.heap.size) (0,0) _ rfl (setRow_heap _ _ _ _ 92 (0,0) (five _ _ _ _ _ _)) Tryz.underlying92 rfl (by kernel_rfl)) rfl ⟨rfl,?_,?_,?_⟩
 ·exact below_setRow (five_below _ _ _ _ _ _) (Nat.le_refl _) _
 ·simp
 ·intro i f hi;simp only[List.mem_cons,Prod.mk.injEq,List.not_mem_nil,or_false]at hi;rcases hi with ⟨rfl,rfl⟩|⟨rfl,rfl⟩|⟨rfl,rfl⟩|⟨rfl,rfl⟩
  ·rw[setRow_other _ _ _ _ (by omega)];exact(five_at _ _ _ _ _ _).1
  ·rw[setRow_other _ _ _ _ (by omega)];exact(five_at _ _ _ _ _ _).2.1
  ·rw[setRow_other _ _ _ _ (by omega)];exact(five_at _ _ _ _ _ _).2.2.1
  ·rw[setRow_other _ _ _ _ (by omega)];exact(five_at _ _ _ _ _ _).2.2.2
def stC (now:Int)(q:Value)(b:Nat):Array Value:=#[.int .i64 now,q,.pointer none,.pointer none,.pointer none,.pointer none,.pointer none,.pointer none,.pointer none]++deedsC b
theorem new_any (w:World):Calls Tryz.prog 62 #[] w fun e w'=>e=.returned (.pointer (some ⟨w.heap.size+5,0,none⟩))/\Below w.heap.size w w'/\w'.heap.size=w.heap.size+6/\
  w'.heap[w.heap.size+5]?=some (.cells (stC 0 (.pointer none) w.heap.size) 94 (0,0))/\Tbl w' w.heap.size:=by
 have hsz:(deedsC w.heap.size).size=26:=rfl;go_enter Tryz.func62,Tryz.ntmps62;go_wp2_with (go_at_call 87;refine(deeds_any _).mono ?_;rintro e w1 ⟨rfl,hb,hs,hc⟩);go_ret;refine⟨rfl,hb.alloc (by omega) _,by simp[hs],?_,?_⟩
 ·rw[<-hs,heap_alloc_new];exact congrArg (fun z=>some (Obj.cells z 94 (0,0))) (by kernel_rfl)
 ·exact hc.tch ((Tch.refl [] _).alloc _) (by simp)
structure Brk (w:World)(st b:Nat)(now:Int)(q:Value):Prop where
 hst:w.heap[st]?=some (.cells (stC now q b) 94 (0,0))
 tb:Tbl w b
theorem records_none (w:World):zB 60 #[.string ⟨#[]⟩] w (.tuple #[.slice none 0 0,.bool true]):=by
 go_enter Tryz.func60,Tryz.ntmps60;go_wp2_with (go_at_call 52;go_in);refine wp_loop_rounds 1 ?_;rw[rounds_succ];go_wp2_with (go_at_call 57;go_in);go_ret2;exact⟨rfl,(Below.refl _ _).alloc (Nat.le_refl _) _⟩
theorem jopen_none (d:Nat)(v:Value)(w:World)(h:Dd0 w d v []):
  Calls Tryz.prog 33 #[.pointer (some ⟨d,0,none⟩)] w fun e w'=>e=.returned (.tuple #[.pointer (some ⟨w.heap.size,0,none⟩),.string ⟨#[]⟩,.slice none 0 0])/\Below w.heap.size w w'/\w.heap.size<w'.heap.size/\
   w'.heap[w.heap.size]?=some (.cells #[.pointer (some ⟨d,0,none⟩),.int .i64 0,.bool false] 85 (0,0)):=by
 have HD:Hid (∀W,Tch [] w W->zE 37 #[.pointer (some ⟨d,0,none⟩),.string jn] W (.string ⟨#[]⟩)):=fun W ht=>by
  have h':=h.tch ht (by simp);exact Dk.read_d d v (-1) false [] jn W h'.blk h'.own (by simp)
 clear h;go_enter Tryz.func33,Tryz.ntmps33;go_wp2_with (first|(go_at_call 37;refine(HD.out _ ((Tch.refl [] w).alloc _)).mono ?_;rintro e w' ⟨rfl,rfl⟩)|(go_at_call 60;refine(records_none _).mono ?_;rintro e w2 ⟨rfl,hb⟩))
 go_ret3;rw[World.size_alloc]at hb;exact⟨rfl,((Below.refl _ _).alloc (Nat.le_refl _) _).trans (hb.mono (by omega)),by have:=hb.size;rw[World.size_alloc]at this;omega,(hb.block _ (by omega)).trans (heap_alloc_new _ _)⟩
theorem restore_none (w:World):Calls Tryz.prog 34 #[.string ⟨#[]⟩,.slice none 0 0] w fun e w'=>e=.returned (.tuple #[.pointer (some ⟨w.heap.size+5,0,none⟩),.bool true])/\Below w.heap.size w w'/\w'.heap.size=w.heap.size+6/\
  w'.heap[w.heap.size+5]?=some (.cells (stC 0 (.pointer none) w.heap.size) 94 (0,0))/\Tbl w' w.heap.size:=by
 go_enter Tryz.func34,Tryz.ntmps34;go_wp2_with (go_at_call 62;refine(new_any _).mono ?_;rintro e w1 ⟨rfl,hb,hs,hst,hc⟩);go_ret2;exact⟨rfl,hb,hs,hst,hc⟩
structure Opn (B:Nat)(w:World)(x st b j d:Nat)(v:Value):Prop where
 hx:w.heap[x]?=some (.cells #[.pointer (some ⟨st,0,none⟩),.pointer (some ⟨j,0,none⟩)] 60 (0,0))
 jr:Jr w j d 0 v [] 0 0
 brk:Brk w st b 0 (.pointer none)
 lo:B<=x/\B<=st/\B<=j/\B<=b
theorem good0:Gd0 [] 0 0:=⟨by decide,Nat.le_refl _,by simp⟩
theorem open_any (d:Nat)(v:Value)(w:World)(h:Dd0 w d v []):Calls Tryz.prog 14 #[.pointer (some ⟨d,0,none⟩)] w fun e w'=>∃x st b j,e=.returned (.tuple #[.pointer (some ⟨x,0,none⟩),.int .i64 0])/\Below w.heap.size w w'/\Opn w.heap.size w' x st b j d v:=by
 have HS:=zH (Dk.stopped_d d v (-1) false w h.blk);have HO:=zH (jopen_none d v w h);have HD:=zH h;clear h;go_enter Tryz.func14,Tryz.ntmps14;go_wp2_with (first|(go_at_call 17;refine HS.out.mono ?_;rintro e w' ⟨rfl,h'⟩;have h'':=h'.symm;subst h'')|(go_at_call 33;refine HO.out.mono ?_;rintro e w1 ⟨rfl,hb1,hz1,hj1⟩)|(go_at_call 34;refine(restore_none _).mono ?_;rintro e w2 ⟨rfl,hb2,hz2,hst2,hc2⟩));go_ret2;have hz:=hz2;have t2:=hb1.trans (hb2.mono (by omega));refine⟨w1.heap.size+6,w1.heap.size+5,w1.heap.size,w.heap.size,rfl,t2.alloc (by omega) _,⟨by rw[<-hz];exact heap_alloc_new _ _,⟨?_,HD.out.tch (Tch.of_below (t2.alloc (by omega) _)) (by simp),good0⟩,⟨?_,?_⟩,by omega,by omega,by omega,by omega⟩⟩
 ·rw[Below.heap_alloc _ _ _ (by omega),hb2.block _ hz1];exact hj1
 ·rw[Below.heap_alloc _ _ _ (by omega)];exact hst2
 ·exact hc2.tch ((Tch.refl [] _).alloc _) (by simp)
theorem dnew (w:World):Dd0 (w.alloc (.cells (Dk.dcells (.slice none 0 0) (-1) false) 77)) w.heap.size (.slice none 0 0) []:=
 ⟨heap_alloc_new _ _,Dk.Own.nil _ _,by simp[Value.ownBlock]⟩
theorem opened_any (w:World):Calls Tryz.prog 19 #[] w fun e w'=>∃x st b j d,e=.returned (.tuple #[.pointer (some ⟨x,0,none⟩),.pointer (some ⟨d,0,none⟩)])/\Below w.heap.size w w'/\Opn w.heap.size w' x st b j d (.slice none 0 0)/\d=w.heap.size:=by
 go_enter Tryz.func19,Tryz.ntmps19;go_wp2_with fail;refine(Dk.new_d _).mono ?_;rintro e w1 ⟨rfl,hw1⟩;have hd1:=dnew w;rw[<-hw1]at hd1;have hz:w1.heap.size=w.heap.size+1:=by rw[hw1];simp
 have HB1:Hid (Below w.heap.size w w1):=by rw[hw1];exact(Below.refl _ _).alloc (Nat.le_refl _) _
 clear hw1;go_wp2_with fail;refine(open_any _ _ _ hd1).mono ?_;rintro e w2 ⟨x,st,b,j,rfl,hb,hB⟩;go_wp2_with fail;go_ret2;have b1:=HB1.out;exact⟨x,st,b,j,_,rfl,b1.trans (hb.mono (by omega)),⟨hB.hx,hB.jr,hB.brk,by have:=hB.lo;omega⟩,rfl⟩
end Go.Proofs.YtbdobaapadlcjabGreatDoor
namespace Go.Proofs.YtbdobaapadlcjabGreatDoor
open Go.RowKit
variable {B n:Nat}{T:List TypeId}{w w':World}{v:Value}
structure Fr (B:Nat)(T:List TypeId)(w w':World):Prop where
 os:w'.os=w.os
 tape:w'.tape=w.tape
 output:w'.output=w.output
 size:w.heap.size<=w'.heap.size
 low:∀k:Nat,k<B->w'.heap[k]?=w.heap[k]?
 keep:∀(k:Nat) (C:Array Value) (t:TypeId),w.heap[k]?=some (.cells C t (0,0))->t∉T->w'.heap[k]?=some (.cells C t (0,0))
theorem Fr.refl (B:Nat)(T:List TypeId)(w:World):Fr B T w w:=⟨rfl,rfl,rfl,Nat.le_refl _,fun _ _=>rfl,fun _ _ _ h _=>h⟩
theorem Fr.trans {a b c:World}(h:Fr B T a b)(k:Fr B T b c):Fr B T a c:=
 ⟨k.os.trans h.os,k.tape.trans h.tape,k.output.trans h.output,Nat.le_trans h.size k.size,fun x hx=>(k.low x hx).trans (h.low x hx),fun x C t hx ht=>k.keep x C t (h.keep x C t hx ht) ht⟩
theorem Fr.of_tch {S:List Nat}(h:Tch S w w')(hB:B<=w.heap.size)(hlow:∀k∈S,B<=k)(hty:∀k∈S,∀(C:Array Value) (t:TypeId),w.heap[k]?=some (.cells C t (0,0))->t∈T):Fr B T w w':=
 ⟨h.os,h.tape,h.output,h.size,fun k hk=>h.block k (by omega) (fun hm=>by have:=hlow k hm;omega),fun k C t hk ht=>(h.block k (lt_of_block hk) (fun hm=>ht (hty k hm C t hk))).trans hk⟩
theorem Fr.of_nil (T:List TypeId){w w':World}(h:Tch [] w w')(hB:B<=w.heap.size):Fr B T w w':=Fr.of_tch h hB (by simp) (by simp)
theorem Fr.below (h:Fr B T w w'):Below B w w':=⟨h.os,h.tape,h.output,h.size,fun k hk=>h.low k hk⟩
theorem Fr.own (h:Fr B T w w'){base size n:Nat}{t:TypeId}{v:Value}{xs:List Value}(ho:w.ownsRow base t size v n xs)(ht:t∉T):w'.ownsRow base t size v n xs:=by
 refine⟨ho.1,?_⟩;rcases ho.2 with hn|⟨g,cap,cur,rfl,hb,hg,rest⟩
 ·exact .inl hn
 ·exact .inr ⟨g,cap,cur,rfl,hb,h.keep g cur t hg ht,rest⟩
abbrev TJ:List TypeId:=[85,77,79]
theorem Jr.fr {j d:Nat}{room:Int}{fs:List Dk.DF}{k:Nat}(h:Jr w j d room v fs n k)(hB:B<=w.heap.size)(hlo:∀b∈jbl j d v,B<=b)(ht:Tch (jbl j d v) w w'):Fr B TJ w w':=
 Fr.of_tch ht hB hlo (fun b hb C t hC=>by
  by_cases h1:85=t
  ·rw[<-h1];decide
  ·by_cases h2:77=t
   ·rw[<-h2];decide
   ·by_cases h3:79=t
    ·rw[<-h3];decide
    ·exact absurd hb (h.apart hC h1 h2 h3))
end Go.Proofs.YtbdobaapadlcjabGreatDoor
