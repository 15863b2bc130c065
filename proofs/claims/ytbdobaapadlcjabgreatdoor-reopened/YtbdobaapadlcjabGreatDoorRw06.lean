import Derived.Lib.Bytes
import Derived.Test.YtbdobaapadlcjabGreatDoorRw05
import Derived.Shelf.SlicesQ.IndexFunc
set_option maxHeartbeats 2000000
set_option linter.unusedVariables false
set_option linter.unusedSimpArgs false
namespace Go.Proofs.YtbdobaapadlcjabGreatDoor.Crc
variable {h:Nat}
def tab:List Nat:=[0,498536548,997073096,651767980,1994146192,1802195444,1303535960,1342533948,3988292384,4027552580,3604390888,3412177804,2607071920,2262029012,2685067896,3183342108]
def half (h:Nat):Nat:=(h / 16) ^^^ tab.getD (h % 16) 0
def step (h:Nat)(b:UInt8):Nat:=half (half (h ^^^ b.toNat))
def run (h:Nat)(l:List UInt8):Nat:=l.foldl step h
def crc (l:List UInt8):Nat:=4294967295-run 4294967295 l
theorem tab_lt (i:Nat):tab.getD i 0<4294967296:=by
 by_cases h:i<16
 ·have:∀j:Fin 16,tab.getD j.val 0<4294967296:=by decide
  exact this ⟨i,h⟩
 ·rw[List.getD_eq_getElem?_getD,List.getElem?_eq_none (by simp[tab];omega)];decide
theorem xor_lt {a b:Nat}(ha:a<4294967296)(hb:b<4294967296):a ^^^ b<4294967296:=by
 have:=Nat.xor_lt_two_pow (n:=32) (x:=a) (y:=b) (by omega) (by omega);omega
theorem half_lt (hh:h<4294967296):half h<4294967296:=xor_lt (by omega) (tab_lt _)
theorem byte_lt (b:UInt8):b.toNat<4294967296:=Nat.lt_trans b.toNat_lt (by decide)
theorem step_lt (b:UInt8)(hh:h<4294967296):step h b<4294967296:=half_lt (half_lt (xor_lt hh (byte_lt b)))
theorem run_lt (l:List UInt8)(hh:h<4294967296):run h l<4294967296:=by
 induction l generalizing h with
 | nil=>exact hh
 | cons b l ih=>exact ih (step_lt b hh)
theorem run_snoc (h:Nat)(l:List UInt8)(b:UInt8):run h (l++[b])=step (run h l) b:=by simp[run]
theorem not_sub (x:Nat)(hx:x<4294967296):4294967295 ^^^ x=4294967295-x:=by
 have h:=congrArg BitVec.toNat (BitVec.allOnes_xor (x:=BitVec.ofNat 32 x));rw[BitVec.toNat_xor,BitVec.toNat_not,BitVec.toNat_allOnes,BitVec.toNat_ofNat,Nat.mod_eq_of_lt (by omega)]at h;omega
theorem not_u32 (x:Nat)(hx:x<4294967296):bits .xor .u32 4294967295 (x:Int)=((4294967295-x:Nat):Int):=by
 rw[<-not_sub x hx];exact u32_xor_nat 4294967295 x (by omega) hx
theorem xor_u32 (a b:Nat)(ha:a<4294967296)(hb:b<4294967296):bits .xor .u32 (a:Int) (b:Int)=((a ^^^ b:Nat):Int):=u32_xor_nat a b ha hb
theorem and_u32 (a:Nat)(ha:a<4294967296):bits .and .u32 (a:Int) 15=((a % 16:Nat):Int):=by
 have:=u32_and_nat a 15 ha (by omega);rw[show (15:Nat)=2^4-1 by decide,Nat.and_two_pow_sub_one_eq_mod]at this
 exact this
end Go.Proofs.YtbdobaapadlcjabGreatDoor.Crc
namespace Go.Proofs.YtbdobaapadlcjabGreatDoor
open Go.RowKit
variable {w w':World}{j d n:Nat}{room:Int}{v:Value}{fs:List Dk.DF}
theorem ret_num {k:IntKind}{a b:Int}(h:a=b):Ending.returned (.int k a)=.returned (.int k b):=by rw[h]
theorem check_any (s:ByteArray)(w:World)(hs:s.size<=maxLen)(hT:∀i:Nat,i<16->w.cell? ⟨2,i,none⟩=some (.int .u32 (Crc.tab.getD i 0:Nat))):
  zE 59 #[.string s] w (.int .u32 (Crc.crc s.data.toList:Nat)):=by
 unfold maxLen at hs;go_enter Tryz.func59,Tryz.ntmps59
 go_wp2
 go_loop [3,7] (fun h i=>∃k:Nat,k<=s.size/\i=.int .i64 k/\h=.int .u32 (Crc.run 4294967295 (s.data.toList.take k):Nat)) (fun _ i=>s.size-(intOf i).toNat)
 case atStart=>exact⟨0,Nat.zero_le _,rfl,rfl⟩
 case round=>
  obtain⟨k,hk,rfl,rfl⟩:=hrel;have hHl:=Crc.run_lt (h:=4294967295) (s.data.toList.take k) (by decide)
  by_cases hlt:k<s.size
  ·have hsn:Crc.run 4294967295 (s.data.toList.take (k+1))=Crc.step (Crc.run 4294967295 (s.data.toList.take k)) s[k]:=by
    rw[<-Crc.run_snoc,List.take_succ_eq_append_getElem (by simpa using hlt)];rfl
   generalize Crc.run 4294967295 (s.data.toList.take k)=H at hHl hsn;unfold Crc.step at hsn;have e1:bits .xor .u32 (H:Int) ((s[k].toNat:Int) % 4294967296)=((H ^^^ s[k].toNat:Nat):Int):=by
    rw[Int.emod_eq_of_lt (by omega) (by have:=s[k].toNat_lt;omega)];exact Crc.xor_u32 _ _ hHl (Crc.byte_lt _)
   have l1:=Crc.xor_lt hHl (Crc.byte_lt s[k]);generalize H ^^^ s[k].toNat=X1 at e1 hsn l1;have a1:=Crc.and_u32 X1 l1;have c1:=hT (X1 % 16) (Nat.mod_lt _ (by decide));have m1:X1 % 16<16:=Nat.mod_lt _ (by decide);have t1:=Crc.tab_lt (X1 % 16);have x1:bits .xor .u32 ((X1:Int) / 16) ((Crc.tab.getD (X1 % 16) 0:Nat):Int)=((Crc.half X1:Nat):Int):=by
    have:=Crc.xor_u32 (X1 / 16) _ (by omega) t1;rw[show ((X1 / 16:Nat):Int)=(X1:Int) / 16 by omega]at this
    exact this
   have l2:=Crc.half_lt l1;generalize Crc.half X1=X2 at hsn x1 l2;generalize Crc.tab.getD (X1 % 16) 0=T1 at c1 x1 t1;generalize X1 % 16=J1 at a1 c1 m1;have a2:=Crc.and_u32 X2 l2;have c2:=hT (X2 % 16) (Nat.mod_lt _ (by decide));have m2:X2 % 16<16:=Nat.mod_lt _ (by decide);have t2:=Crc.tab_lt (X2 % 16);have x2:bits .xor .u32 ((X2:Int) / 16) ((Crc.tab.getD (X2 % 16) 0:Nat):Int)=((Crc.half X2:Nat):Int):=by
    have:=Crc.xor_u32 (X2 / 16) _ (by omega) t2;rw[show ((X2 / 16:Nat):Int)=(X2:Int) / 16 by omega]at this
    exact this
   generalize Crc.half X2=X3 at hsn x2;generalize Crc.tab.getD (X2 % 16) 0=T2 at c2 x2 t2;generalize X2 % 16=J2 at a2 c2 m2;have HS:=zH hsn;clear hsn hT
   go_wp2
   go_round
   case rel=>exact⟨k+1,by omega,by go_num,by rw[HS.out]⟩
   case measure=>simp[intOf];omega
  ·generalize hH:Crc.run 4294967295 (s.data.toList.take k)=H at hHl;have HH:Hid (Crc.run 4294967295 (s.data.toList.take k)=H):=hH;clear hH;have n1:bits .xor .u32 IntKind.u32.max (H:Int)=((4294967295-H:Nat):Int):=Crc.not_u32 H hHl
   go_wp2
   go_ret;exact⟨ret_num (by rw[Crc.crc,<-HH.out,List.take_of_length_le (by simp;omega)]),rfl⟩
def Tab (w:World):Prop:=∀i:Nat,i<16->w.cell? ⟨2,i,none⟩=some (.int .u32 (Crc.tab.getD i 0:Nat))
theorem Tab.below {B:Nat}(h:Tab w)(hb:Below B w w')(hB:2<B):Tab w':=fun i hi=>(hb.cell (p:=⟨2,i,none⟩) hB).trans (h i hi)
def didS (r:Wp.Rq):ByteArray:=if r.ded.size=0 then ⟨(0::lowB (Crc.crc r.bod.data.toList) 4).toArray⟩ else r.ded
theorem toList_nil (s:ByteArray)(h:s.size=0):s=⟨#[]⟩:=by
 have h1:=h;have h2:s.data=#[]:=Array.eq_empty_of_size_eq_zero h1
 cases s
 simp at h2;rw[h2]
theorem ne_nil (s:ByteArray)(h:s.size≠0):s.toList.isEmpty=false:=by
 rw[Lib.toList_data]
 cases hl:s.data.toList with
 | nil=>exact absurd (show s.size=0 by rw[ByteArray.size,<-Array.length_toList,hl];rfl) h
 | cons a l=>rfl
theorem crc_lt (l:List UInt8):Crc.crc l<4294967296:=by
 show 4294967295-_<4294967296
 omega
theorem dedupID_any (r:Wp.Rq)(y:Sl)(w:World)(hb:r.bod.size<=maxLen)(hT:Tab w)(h2:2<w.heap.size):
  zB 169 #[.agg (cellsOf r y.v)] w (.string (didS r)):=by
 rw[show cellsOf r y.v=#[.int .u8 (r.op.toNat:Int),.int .u8 (r.q.toNat:Int),.int .u8 (r.d.toNat:Int),.int .i64 r.vis,.int .i64 r.win,.int .i64 r.rcv,.int .i64 r.quo,.int .i64 r.mx,.int .i64 r.tic,.string r.grp,.string r.ded,.string r.bod,.string r.att,.string r.han,.slice y.a y.n y.c] from rfl]
 by_cases hd:r.ded.size=0
 ·have e0:r.ded=⟨#[]⟩:=toList_nil _ hd;have hdid:Hid (didS r=⟨(0::lowB (Crc.crc r.bod.data.toList) 4).toArray⟩):=by show _=_;unfold didS;rw[if_pos hd]
  rw[e0];clear e0 hd;have HD:Hid (∀W:World,(W.alloc (.cells #[.int .u8 0] 5)).ownsRow W.heap.size 5 1 (.slice (some ⟨W.heap.size,0,none⟩) 1 1) 1 [.int .u8 0]):=fun W=>⟨rfl,.inr ⟨W.heap.size,1,#[.int .u8 0],rfl,Nat.le_refl _,heap_alloc_new _ _,by decide,by decide,rfl,rfl⟩⟩
  have HC:Hid (Crc.crc r.bod.data.toList<4294967296):=crc_lt _;have HCK:Hid (∀W,Below w.heap.size w W->zE 59 #[.string r.bod] W (.int .u32 (Crc.crc r.bod.data.toList:Nat))):=fun W hbW=>check_any _ W hb (hT.below hbW h2)
  clear hT h2 hb;generalize Crc.crc r.bod.data.toList=N at*
  have hN:=HC.out;go_enter Tryz.func169,Tryz.ntmps169;go_wp2_with (go_at_call 59;refine(HCK.out _ (((Below.refl _ _).alloc (Nat.le_refl _) _).alloc (by simp) _)).mono ?_;rintro e w' ⟨rfl,rfl⟩);have ha:=HD.out (w.alloc (.cells #[.int .u8 (r.op.toNat:Int),.int .u8 (r.q.toNat:Int),.int .u8 (r.d.toNat:Int),.int .i64 r.vis,.int .i64 r.win,.int .i64 r.rcv,.int .i64 r.quo,.int .i64 r.mx,.int .i64 r.tic,.string r.grp,.string ⟨#[]⟩,.string r.bod,.string r.att,.string r.han,.slice y.a y.n y.c] 24));rw[World.size_alloc]at ha;refine(appendNumber_any (w.heap.size+1) _ [0] N 4 _ hN (by decide) (by decide) (by simp) ha).mono ?_;rintro e w2 ⟨v',rfl,ho,hbel⟩;have hstr:=OwnB.str ho (by simp);have HBE:Hid (Below w.heap.size w w2):=(((Below.refl _ _).alloc (Nat.le_refl _) _).alloc (by simp) _).trans (hbel.mono (by omega));clear ha ho hbel;go_wp2_with fail;go_ret;exact⟨by rw[hdid.out];rfl,HBE.out⟩
 ·have hne:=ne_nil _ hd;have hdid:Hid (didS r=r.ded):=by show _=_;unfold didS;rw[if_neg hd]
  clear hd;go_enter Tryz.func169,Tryz.ntmps169;go_wp2_with fail;go_ret;exact⟨by rw[hdid.out];rfl,(Below.refl _ _).alloc (Nat.le_refl _) _⟩
def recB (s:ByteArray):List UInt8:=(lowB s.size 4++lowB (Crc.crc s.data.toList) 4)++s.data.toList
theorem recB_length (s:ByteArray):(recB s).length=8+s.size:=by
 rw[recB,List.length_append,List.length_append,lowB_length,lowB_length];rfl
theorem record_any (s:ByteArray)(w:World)(hs:s.size<=1048576)(hT:Tab w)(h2:2<w.heap.size):
  Calls Tryz.prog 31 #[.slice none 0 0,.string s] w fun e w'=>∃v,e=.returned v/\OwnB w' w.heap.size v (recB s)/\Below w.heap.size w w':=by
 obtain⟨i0,hi,hz0,hz1,hz2⟩:=info_parts info5;have hnum:Hid (Calls Tryz.prog 46 #[.slice none 0 0,.int .i64 (s.size:Int),.int .i64 4] w fun e w'=>∃v',e=.returned v'/\OwnB w' w.heap.size v' ([]++lowB s.size 4)/\Below w.heap.size w w'):=
  appendNumber_any w.heap.size _ [] s.size 4 w (by omega) (by decide) (by decide) (Nat.le_refl _) (World.ownsRow_nil _ _ _ _)
 have HC:Hid (Crc.crc s.data.toList<4294967296):=crc_lt _;have HCK:Hid (∀W,Below w.heap.size w W->zE 59 #[.string s] W (.int .u32 (Crc.crc s.data.toList:Nat))):=fun W hbW=>check_any _ W (by unfold maxLen;omega) (hT.below hbW h2)
 have hrec:Hid (recB s=(([]++lowB s.size 4)++lowB (Crc.crc s.data.toList) 4)++s.data.toList):=by show _=_;simp[recB]
 clear hT h2;generalize Crc.crc s.data.toList=N at*
 have hN:=HC.out;go_enter Tryz.func31,Tryz.ntmps31;go_wp2_with fail;refine(hnum.out).mono ?_;rintro e w1 ⟨v1,rfl,ho1,hb1⟩;have HO:=zH ho1;have HB:=zH hb1;clear ho1 hb1;go_wp2_with (go_at_call 59;refine(HCK.out _ HB.out).mono ?_;rintro e w' ⟨rfl,rfl⟩);refine(appendNumber_any w.heap.size _ _ N 4 _ hN (by decide) (by simp[lowB_length]) HB.out.size HO.out).mono ?_;rintro e w2 ⟨v2,rfl,ho2,hb2⟩;have hle:(([]++lowB s.size 4)++lowB N 4).length<=100:=by simp[lowB_length]
 generalize (([]++lowB s.size 4)++lowB N 4)=L at ho2 hle hrec;have HO2:=zH ho2;have HB2:=zH (HB.out.trans hb2);have hsz:=HB2.out.size;clear ho2 hb2;go_wp2_with (at_builtin;refine Lib.wpList_append_own_string _ rfl _ _ 54 9 rfl w.heap.size 5 i0 Tryz.underlying54 Tryz.underlying9 hi hz0 hz1 hz2 _ _ _ rfl HO2.out s rfl ?c1 ?c2 ?c3 ?_)
 case c1=>unfold maxLen;omega
 case c2=>omega
 case c3=>omega
 intro v' w3 hown' hgrow _;have hr1:OwnB w3 w.heap.size v' (recB s):=by
  rw[hrec.out];unfold OwnB;have e1:bytesV (L++s.data.toList)=bytesV L++Lib.strCells s:=by rw[<-bytesV_str];simp[bytesV]
  have e2:(L++s.data.toList).length=L.length+s.size:=by rw[List.length_append];rfl
  rw[e1,e2];exact hown'
 have hr2:Below w.heap.size w w3:=by
  refine Below.grown HB2.out hgrow (by omega) ?_;intro k hk;exact(World.ownsRow.lt HO2.out k hk).1
 clear hown' hgrow
 go_wp2
 go_ret;exact⟨_,rfl,hr1,hr2⟩
abbrev jn:ByteArray:=⟨#[106,111,117,114,110,97,108]⟩
abbrev jw:ByteArray:=⟨#[106,111,117,114,110,97,108,46,110,101,119]⟩
abbrev Dd0 (w:World)(d:Nat)(v:Value)(fs:List Dk.DF):Prop:=Dk.Dsk w 77 79 d v ⟨fs,-1,false⟩
abbrev Gd0 (fs:List Dk.DF)(n k:Nat):Prop:=Dk.Good ⟨fs,-1,false⟩ n k
structure Jr (w:World)(j d:Nat)(room:Int)(v:Value)(fs:List Dk.DF)(n k:Nat):Prop where
 hj:w.heap[j]?=some (.cells #[.pointer (some ⟨d,0,none⟩),.int .i64 room,.bool false] 85 (0,0))
 dsk:Dd0 w d v fs
 gd:Gd0 fs n k
def jbl (j d:Nat)(v:Value):List Nat:=j::Dk.bl d v
theorem Jr.ne {k:Nat}(h:Jr w j d room v fs n k):j∉Dk.bl d v:=fun hm=>by
 rcases List.mem_cons.1 hm with e|e
 ·have h1:=h.hj;have h2:w.heap[d]?=_:=h.dsk.blk;rw[<-e,h1]at h2;simp at h2
 ·exact own_ne h.dsk.own h.hj (by decide) (by simpa [Option.mem_toList]using e)
theorem Jr.tch {k:Nat}(h:Jr w j d room v fs n k){S:List Nat}(ht:Tch S w w')(hS:∀b∈jbl j d v,b∉S):Jr w' j d room v fs n k:=
 ⟨(ht.block _ (lt_of_block h.hj) (hS _ (by simp[jbl]))).trans h.hj,h.dsk.tch ht (fun b hb=>hS b (List.mem_cons_of_mem _ hb)),h.gd⟩
theorem Jr.apart {k:Nat}(h:Jr w j d room v fs n k){b:Nat}{C:Array Value}{t:TypeId}(hb:w.heap[b]?=some (.cells C t (0,0)))(h1:85≠t)(h2:77≠t)(h3:79≠t):b∉jbl j d v:=fun hm=>by
 rcases List.mem_cons.1 hm with e|e
 ·have h0:=h.hj;rw[<-e,hb]at h0;simp at h0;exact h1 h0.2.symm
 ·rcases List.mem_cons.1 e with e|e
  ·have h0:w.heap[d]?=_:=h.dsk.blk;rw[<-e,hb]at h0;simp at h0;exact h2 h0.2.symm
  ·exact own_ne h.dsk.own hb h3 (by simpa [Option.mem_toList]using e)
theorem Jr.c0 {k:Nat}(h:Jr w j d room v fs n k):w.cell? ⟨j,0,none⟩=some (.pointer (some ⟨d,0,none⟩)):=(cell_of_row w j 0 _ 85 (0,0) h.hj).trans rfl
theorem Jr.c1 {k:Nat}(h:Jr w j d room v fs n k):w.cell? ⟨j,1,none⟩=some (.int .i64 room):=(cell_of_row w j 1 _ 85 (0,0) h.hj).trans rfl
theorem Jr.c2 {k:Nat}(h:Jr w j d room v fs n k):w.cell? ⟨j,2,none⟩=some (.bool false):=(cell_of_row w j 2 _ 85 (0,0) h.hj).trans rfl
theorem Jr.fz {k:Nat}(h:Jr w j d room v fs n k)(o:Nat):w.frozen? ⟨j,o,none⟩=false:=frozen_of_row w j o _ 85 h.hj
theorem Jr.tj {k:Nat}(h:Jr w j d room v fs n k):∀b∈Dk.bl d v,b∉[j]:=fun b hb hm=>by
 simp at hm;subst hm;exact h.ne hb
theorem Jr.set1 {k:Nat}(h:Jr w j d room v fs n k)(r:Int):Jr (w.setCell ⟨j,1,none⟩ (.int .i64 r)) j d r v fs n k:=
 ⟨heap_setCell_same w j 1 _ 85 _ h.hj,h.dsk.tch ((Tch.refl [j] w).setCell (fun _=>by simp) _) h.tj,h.gd⟩
theorem Jr.set2 {k:Nat}(h:Jr w j d room v fs n k):Jr (w.setCell ⟨j,2,none⟩ (.bool false)) j d room v fs n k:=
 ⟨heap_setCell_same w j 2 _ 85 _ h.hj,h.dsk.tch ((Tch.refl [j] w).setCell (fun _=>by simp) _) h.tj,h.gd⟩
theorem OwnB.slc {base:Nat}{l:List UInt8}(h:OwnB w base v l)(hl:0<l.length):∃g cap,v=.slice (some ⟨g,0,none⟩) l.length cap:=by
 rcases h.2 with ⟨rfl,h0⟩|⟨g,cap,cur,rfl,_⟩
 ·omega
 ·exact⟨g,cap,rfl⟩
end Go.Proofs.YtbdobaapadlcjabGreatDoor
namespace Go.Proofs.YtbdobaapadlcjabGreatDoor
set_option maxRecDepth 4000
open Go.RowKit
def deedsC (b:Nat):Array Value:=
 #[.func (.func 117) #[] #[],.func (.func 118) #[] #[],.func (.func 119) #[] #[],.nilFunc,.func (.func 120) #[] #[],.nilFunc,.nilFunc,.nilFunc,.nilFunc,.nilFunc,.nilFunc,.nilFunc,.nilFunc,.nilFunc,.nilFunc,
  .func (.func 160) #[] #[.pointer (some ⟨b+1,0,none⟩)],.nilFunc,
  .func (.func 160) #[] #[.pointer (some ⟨b+1+1,0,none⟩)],
  .func (.func 160) #[] #[.pointer (some ⟨b+1+1+1,0,none⟩)],
  .func (.func 125) #[] #[],.nilFunc,
  .func (.func 160) #[] #[.pointer (some ⟨b+1+1+1+1,0,none⟩)],
  .nilFunc,.func (.func 127) #[] #[],.nilFunc,.nilFunc]
def nils26:Array Value:=#[.nilFunc,.nilFunc,.nilFunc,.nilFunc,.nilFunc,.nilFunc,.nilFunc,.nilFunc,.nilFunc,.nilFunc,.nilFunc,.nilFunc,.nilFunc,.nilFunc,.nilFunc,.nilFunc,.nilFunc,.nilFunc,.nilFunc,.nilFunc,.nilFunc,.nilFunc,.nilFunc,.nilFunc,.nilFunc,.nilFunc]
theorem five (w:World)(A B C D E:Obj):(((((w.alloc A).alloc B).alloc C).alloc D).alloc E).heap[w.heap.size]?=some A:=by
 rw[Below.heap_alloc _ _ _ (by simp;omega),Below.heap_alloc _ _ _ (by simp;omega),Below.heap_alloc _ _ _ (by simp;omega),heap_alloc2_old]
theorem five3 (w:World)(A B C D E:Obj):(((((w.alloc A).alloc B).alloc C).alloc D).alloc E).heap[w.heap.size+3]?=some D:=by
 have h:=heap_alloc_new (((w.alloc A).alloc B).alloc C) D;rw[World.size_alloc,World.size_alloc,World.size_alloc]at h;rw[Below.heap_alloc _ _ _ (by simp)];exact h
theorem five_at (w:World)(A B C D E:Obj):(((((w.alloc A).alloc B).alloc C).alloc D).alloc E).heap[w.heap.size+1]?=some B/\(((((w.alloc A).alloc B).alloc C).alloc D).alloc E).heap[w.heap.size+2]?=some C/\(((((w.alloc A).alloc B).alloc C).alloc D).alloc E).heap[w.heap.size+3]?=some D/\(((((w.alloc A).alloc B).alloc C).alloc D).alloc E).heap[w.heap.size+4]?=some E:=by
 have h1:=heap_alloc_new (w.alloc A) B;have h2:=heap_alloc_new ((w.alloc A).alloc B) C;have h4:=heap_alloc_new ((((w.alloc A).alloc B).alloc C).alloc D) E;rw[World.size_alloc]at h1;rw[World.size_alloc,World.size_alloc]at h2;rw[World.size_alloc,World.size_alloc,World.size_alloc,World.size_alloc]at h4;refine⟨?_,?_,five3 w A B C D E,h4⟩
 ·rw[Below.heap_alloc _ _ _ (by simp),Below.heap_alloc _ _ _ (by simp),Below.heap_alloc _ _ _ (by simp)];exact h1
 ·rw[Below.heap_alloc _ _ _ (by simp),Below.heap_alloc _ _ _ (by simp)];exact h2
def Tbl (w:World)(b:Nat):Prop:=∀i f:Nat,(i,f)∈[(1,122),(2,123),(3,124),(4,126)]->w.heap[b+i]?=some (.cells #[.func (.func f) #[] #[]] 186 (0,0))
theorem Tbl.tch {w w':World}{b:Nat}(h:Tbl w b){S:List Nat}(ht:Tch S w w')(hS:∀i,b+i∉S):Tbl w' b:=fun i f hi=>(ht.block _ (lt_of_block (h i f hi)) (hS i)).trans (h i f hi)
theorem five_below (w:World)(A B C D E:Obj):Below w.heap.size w (((((w.alloc A).alloc B).alloc C).alloc D).alloc E):=
 (((((Below.refl _ _).alloc (Nat.le_refl _) _).alloc (by simp) _).alloc (by simp;omega) _).alloc (by simp;omega) _).alloc (by simp;omega) _
theorem deeds_one (b:Nat):(deedsC b).all (·.oneCell')=true:=by kernel_rfl
theorem deeds_any (w:World):Calls Tryz.prog 87 #[] w fun e w'=>e=.returned (.agg (deedsC w.heap.size))/\Below w.heap.size w w'/\w'.heap.size=w.heap.size+5/\
  Tbl w' w.heap.size:=by
 go_enter Tryz.func87,Tryz.ntmps87;go_wp2_with (first|go_in|(refine wpList_store_row rfl 92 _ _ rfl w.heap.size (deedsC w.heap.size) ?hx ?hy 92 nils26 ?hg ?hi ?hs ?h1 ?k;(case hx=>kernel_rfl);(case hy=>kernel_rfl);(case hg=>exact five _ _ _ _ _ _);(case hi=>kernel_rfl);(case hs=>kernel_rfl);(case h1=>exact deeds_one _)));refine bodyPost_ret (results_cell_row (p:=0) rfl _ _ w.heap.size 92 (deedsC w.heap.size) (0,0) _ rfl (setRow_heap _ _ _ _ 92 (0,0) (five _ _ _ _ _ _)) Tryz.underlying92 rfl (by kernel_rfl)) rfl ⟨rfl,?_,?_,?_⟩
 ·exact below_setRow (five_below _ _ _ _ _ _) (Nat.le_refl _) _
 ·simp
 ·intro i f hi;simp only[List.mem_cons,Prod.mk.injEq,List.not_mem_nil,or_false]at hi;rcases hi with ⟨rfl,rfl⟩|⟨rfl,rfl⟩|⟨rfl,rfl⟩|⟨rfl,rfl⟩
  ·rw[setRow_other _ _ _ _ (by omega)];exact(five_at _ _ _ _ _ _).1
  ·rw[setRow_other _ _ _ _ (by omega)];exact(five_at _ _ _ _ _ _).2.1
  ·rw[setRow_other _ _ _ _ (by omega)];exact(five_at _ _ _ _ _ _).2.2.1
  ·rw[setRow_other _ _ _ _ (by omega)];exact(five_at _ _ _ _ _ _).2.2.2
def stC (now:Int)(q:Value)(b:Nat):Array Value:=#[.int .i64 now,q,.pointer none,.pointer none,.pointer none,.pointer none,.pointer none,.pointer none,.pointer none]++deedsC b
theorem new_any (w:World):Calls Tryz.prog 62 #[] w fun e w'=>e=.returned (.pointer (some ⟨w.heap.size+5,0,none⟩))/\Below w.heap.size w w'/\w'.heap.size=w.heap.size+6/\
  w'.heap[w.heap.size+5]?=some (.cells (stC 0 (.pointer none) w.heap.size) 94 (0,0))/\Tbl w' w.heap.size:=by
 have hsz:(deedsC w.heap.size).size=26:=rfl;go_enter Tryz.func62,Tryz.ntmps62;go_wp2_with (go_at_call 87;refine(deeds_any _).mono ?_;rintro e w1 ⟨rfl,hb,hs,hc⟩);go_ret;refine⟨rfl,hb.alloc (by omega) _,by simp[hs],?_,?_⟩
 ·rw[<-hs,heap_alloc_new];exact congrArg (fun z=>some (Obj.cells z 94 (0,0))) (by kernel_rfl)
 ·exact hc.tch ((Tch.refl [] _).alloc _) (by simp)
structure Brk (w:World)(st b:Nat)(now:Int)(q:Value):Prop where
 hst:w.heap[st]?=some (.cells (stC now q b) 94 (0,0))
 tb:Tbl w b
theorem records_none (w:World):zB 60 #[.string ⟨#[]⟩] w (.tuple #[.slice none 0 0,.bool true]):=by
 go_enter Tryz.func60,Tryz.ntmps60;go_wp2_with (go_at_call 52;go_in);refine wp_loop_rounds 1 ?_;rw[rounds_succ];go_wp2_with (go_at_call 57;go_in);go_ret2;exact⟨rfl,(Below.refl _ _).alloc (Nat.le_refl _) _⟩
theorem jopen_none (d:Nat)(v:Value)(w:World)(h:Dd0 w d v []):
  Calls Tryz.prog 33 #[.pointer (some ⟨d,0,none⟩)] w fun e w'=>e=.returned (.tuple #[.pointer (some ⟨w.heap.size,0,none⟩),.string ⟨#[]⟩,.slice none 0 0])/\Below w.heap.size w w'/\w.heap.size<w'.heap.size/\
   w'.heap[w.heap.size]?=some (.cells #[.pointer (some ⟨d,0,none⟩),.int .i64 0,.bool false] 85 (0,0)):=by
 have HD:Hid (∀W,Tch [] w W->zE 37 #[.pointer (some ⟨d,0,none⟩),.string jn] W (.string ⟨#[]⟩)):=fun W ht=>by
  have h':=h.tch ht (by simp);exact Dk.read_d d v (-1) false [] jn W h'.blk h'.own (by simp)
 clear h;go_enter Tryz.func33,Tryz.ntmps33;go_wp2_with (first|(go_at_call 37;refine(HD.out _ ((Tch.refl [] w).alloc _)).mono ?_;rintro e w' ⟨rfl,rfl⟩)|(go_at_call 60;refine(records_none _).mono ?_;rintro e w2 ⟨rfl,hb⟩))
 go_ret3;rw[World.size_alloc]at hb;exact⟨rfl,((Below.refl _ _).alloc (Nat.le_refl _) _).trans (hb.mono (by omega)),by have:=hb.size;rw[World.size_alloc]at this;omega,(hb.block _ (by omega)).trans (heap_alloc_new _ _)⟩
theorem restore_none (w:World):Calls Tryz.prog 34 #[.string ⟨#[]⟩,.slice none 0 0] w fun e w'=>e=.returned (.tuple #[.pointer (some ⟨w.heap.size+5,0,none⟩),.bool true])/\Below w.heap.size w w'/\w'.heap.size=w.heap.size+6/\
  w'.heap[w.heap.size+5]?=some (.cells (stC 0 (.pointer none) w.heap.size) 94 (0,0))/\Tbl w' w.heap.size:=by
 go_enter Tryz.func34,Tryz.ntmps34;go_wp2_with (go_at_call 62;refine(new_any _).mono ?_;rintro e w1 ⟨rfl,hb,hs,hst,hc⟩);go_ret2;exact⟨rfl,hb,hs,hst,hc⟩
structure Opn (B:Nat)(w:World)(x st b j d:Nat)(v:Value):Prop where
 hx:w.heap[x]?=some (.cells #[.pointer (some ⟨st,0,none⟩),.pointer (some ⟨j,0,none⟩)] 60 (0,0))
 jr:Jr w j d 0 v [] 0 0
 brk:Brk w st b 0 (.pointer none)
 lo:B<=x/\B<=st/\B<=j/\B<=b
theorem good0:Gd0 [] 0 0:=⟨by decide,Nat.le_refl _,by simp⟩
theorem open_any (d:Nat)(v:Value)(w:World)(h:Dd0 w d v []):Calls Tryz.prog 14 #[.pointer (some ⟨d,0,none⟩)] w fun e w'=>∃x st b j,e=.returned (.tuple #[.pointer (some ⟨x,0,none⟩),.int .i64 0])/\Below w.heap.size w w'/\Opn w.heap.size w' x st b j d v:=by
 have HS:=zH (Dk.stopped_d d v (-1) false w h.blk);have HO:=zH (jopen_none d v w h);have HD:=zH h;clear h;go_enter Tryz.func14,Tryz.ntmps14;go_wp2_with (first|(go_at_call 17;refine HS.out.mono ?_;rintro e w' ⟨rfl,h'⟩;have h'':=h'.symm;subst h'')|(go_at_call 33;refine HO.out.mono ?_;rintro e w1 ⟨rfl,hb1,hz1,hj1⟩)|(go_at_call 34;refine(restore_none _).mono ?_;rintro e w2 ⟨rfl,hb2,hz2,hst2,hc2⟩));go_ret2;have hz:=hz2;have t2:=hb1.trans (hb2.mono (by omega));refine⟨w1.heap.size+6,w1.heap.size+5,w1.heap.size,w.heap.size,rfl,t2.alloc (by omega) _,⟨by rw[<-hz];exact heap_alloc_new _ _,⟨?_,HD.out.tch (Tch.of_below (t2.alloc (by omega) _)) (by simp),good0⟩,⟨?_,?_⟩,by omega,by omega,by omega,by omega⟩⟩
 ·rw[Below.heap_alloc _ _ _ (by omega),hb2.block _ hz1];exact hj1
 ·rw[Below.heap_alloc _ _ _ (by omega)];exact hst2
 ·exact hc2.tch ((Tch.refl [] _).alloc _) (by simp)
theorem dnew (w:World):Dd0 (w.alloc (.cells (Dk.dcells (.slice none 0 0) (-1) false) 77)) w.heap.size (.slice none 0 0) []:=
 ⟨heap_alloc_new _ _,Dk.Own.nil _ _,by simp[Value.ownBlock]⟩
theorem opened_any (w:World):Calls Tryz.prog 19 #[] w fun e w'=>∃x st b j d,e=.returned (.tuple #[.pointer (some ⟨x,0,none⟩),.pointer (some ⟨d,0,none⟩)])/\Below w.heap.size w w'/\Opn w.heap.size w' x st b j d (.slice none 0 0)/\d=w.heap.size:=by
 go_enter Tryz.func19,Tryz.ntmps19;go_wp2_with fail;refine(Dk.new_d _).mono ?_;rintro e w1 ⟨rfl,hw1⟩;have hd1:=dnew w;rw[<-hw1]at hd1;have hz:w1.heap.size=w.heap.size+1:=by rw[hw1];simp
 have HB1:Hid (Below w.heap.size w w1):=by rw[hw1];exact(Below.refl _ _).alloc (Nat.le_refl _) _
 clear hw1;go_wp2_with fail;refine(open_any _ _ _ hd1).mono ?_;rintro e w2 ⟨x,st,b,j,rfl,hb,hB⟩;go_wp2_with fail;go_ret2;have b1:=HB1.out;exact⟨x,st,b,j,_,rfl,b1.trans (hb.mono (by omega)),⟨hB.hx,hB.jr,hB.brk,by have:=hB.lo;omega⟩,rfl⟩
end Go.Proofs.YtbdobaapadlcjabGreatDoor
namespace Go.Proofs.YtbdobaapadlcjabGreatDoor
open Go.RowKit
def qC (r:Wp.Rq)(next:Int)(ms rs ds at_:Value):Array Value:=#[.int .u8 (r.q.toNat:Int),.int .u8 (r.d.toNat:Int),.int .i64 r.vis,.int .i64 r.win,.int .i64 r.rcv,.int .i64 r.quo,.int .i64 next,ms,rs,ds,at_]
theorem qnew_any (r:Wp.Rq)(x:Sl)(w:World):Calls Tryz.prog 128 #[.agg (cellsOf r x.v)] w fun e w'=>
  e=.returned (.pointer (some ⟨w.heap.size+1,0,none⟩))/\w'=(w.alloc (.cells (cellsOf r x.v) 24)).alloc (.cells (qC r 1 (.slice none 0 0) (.slice none 0 0) (.slice none 0 0) (.slice none 0 0)) 137):=by
 rw[zM r x];go_enter Tryz.func128,Tryz.ntmps128
 go_wp2
 go_ret;exact⟨rfl,rfl⟩
end Go.Proofs.YtbdobaapadlcjabGreatDoor
namespace Go.Proofs.YtbdobaapadlcjabGreatDoor
open Go.Shelf Go.RowKit Go.Lib
def l201_ren:Go.Shelf.Ren:=⟨fun|6=>197|n=>n,fun|22=>134|23=>195|25=>238|3=>3|0=>0|4=>4|n=>n,fun|n=>n⟩
theorem l201:Go.Proofs.SlLaysH0.n6 Tryz.prog l201_ren:={
 mixed:=by kernel_rfl
 f6:=⟨Tryz.f197.name,by decide,Tryz.func197.trans (congrArg some (by kernel_rfl))⟩
 t0:=Tryz.underlying0
 a0:=Tryz.isAgg0
 z0:=Tryz.sizeOf0
 v0:=Tryz.zeroValue0
 t3:=Tryz.underlying3
 a3:=Tryz.isAgg3
 z3:=Tryz.sizeOf3
 v3:=Tryz.zeroValue3
 t4:=Tryz.underlying4
 a4:=Tryz.isAgg4
 z4:=Tryz.sizeOf4
 v4:=Tryz.zeroValue4
 t22:=Tryz.underlying134
 a22:=Tryz.isAgg134
 z22:=Tryz.sizeOf134
 v22:=Tryz.zeroValue134
 t25:=Tryz.underlying238
 a25:=Tryz.isAgg238
 z25:=Tryz.sizeOf238
 v25:=Tryz.zeroValue238}
def l197_ren:Go.Shelf.Ren:=⟨fun|6=>193|n=>n,fun|22=>133|23=>191|25=>229|3=>3|0=>0|4=>4|n=>n,fun|n=>n⟩
theorem l197:Go.Proofs.SlLaysH0.n6 Tryz.prog l197_ren:={
 mixed:=by kernel_rfl
 f6:=⟨Tryz.f193.name,by decide,Tryz.func193.trans (congrArg some (by kernel_rfl))⟩
 t0:=Tryz.underlying0
 a0:=Tryz.isAgg0
 z0:=Tryz.sizeOf0
 v0:=Tryz.zeroValue0
 t3:=Tryz.underlying3
 a3:=Tryz.isAgg3
 z3:=Tryz.sizeOf3
 v3:=Tryz.zeroValue3
 t4:=Tryz.underlying4
 a4:=Tryz.isAgg4
 z4:=Tryz.sizeOf4
 v4:=Tryz.zeroValue4
 t22:=Tryz.underlying133
 a22:=Tryz.isAgg133
 z22:=Tryz.sizeOf133
 v22:=Tryz.zeroValue133
 t25:=Tryz.underlying229
 a25:=Tryz.isAgg229
 z25:=Tryz.sizeOf229
 v25:=Tryz.zeroValue229}
structure Dd where
 id:ByteArray
 num:Int
 til:Int
def Dd.row (x:Dd):List Value:=[.string x.id,.int .i64 x.num,.int .i64 x.til]
structure Ms where
 num:Int
 grp:ByteArray
 bod:ByteArray
 rcv:Int
 til:Int
def Ms.row (x:Ms):List Value:=[.int .i64 x.num,.string x.grp,.string x.bod,.int .i64 x.rcv,.int .i64 x.til]
theorem dd_pred (id:ByteArray)(B:Nat)(w:World)(hB:B<w.heap.size)(hcell:w.cell? ⟨B,0,none⟩=some (.string id)):
  PredBelow Tryz.prog 198 #[.pointer (some ⟨B,0,none⟩)] (fun x:Dd=>.agg x.row.toArray) (fun x=>x.id.toList == id.toList) w:=fun W x hb=>by
 have hc:=(hb.cell (p:=⟨B,0,none⟩) hB).trans hcell;have hBW:B<W.heap.size:=Nat.lt_of_lt_of_le hB hb.size
 show Calls Tryz.prog 198 #[.agg #[.string x.id,.int .i64 x.num,.int .i64 x.til],.pointer (some ⟨B,0,none⟩)] W _
 go_enter Tryz.func198,Tryz.ntmps198
 go_wp2
 all_goals (go_ret;exact⟨by simp_all,hb.alloc hb.size _⟩)
theorem ms_pred (grp:ByteArray)(B:Nat)(w:World)(hB:B<w.heap.size)(hcell:w.cell? ⟨B,0,none⟩=some (.string grp)):
  PredBelow Tryz.prog 194 #[.pointer (some ⟨B,0,none⟩)] (fun x:Ms=>.agg x.row.toArray) (fun x=>x.grp.toList == grp.toList) w:=fun W x hb=>by
 have hc:=(hb.cell (p:=⟨B,0,none⟩) hB).trans hcell;have hBW:B<W.heap.size:=Nat.lt_of_lt_of_le hB hb.size
 show Calls Tryz.prog 194 #[.agg #[.int .i64 x.num,.string x.grp,.string x.bod,.int .i64 x.rcv,.int .i64 x.til],.pointer (some ⟨B,0,none⟩)] W _
 go_enter Tryz.func194,Tryz.ntmps194
 go_wp2
 all_goals (go_ret;exact⟨by simp_all,hb.alloc hb.size _⟩)
theorem idx_dd_none (a:Option Addr)(c:Nat)(fv:Value)(w:World):zE 197 #[.slice a 0 c,fv] w (.int .i64 (-1)):=by
 go_enter Tryz.func197,Tryz.ntmps197
 go_wp2
 go_loopg [5,8] 0 (fun gg _ s8 wr=>s8=.int .i64 0/\wr=w)
 case atStart=>exact⟨rfl,rfl⟩
 case round=>
  obtain⟨rfl,rfl⟩:=hrel
  go_wp2
  go_ret;exact⟨rfl,rfl⟩
theorem idx_ms_none (a:Option Addr)(c:Nat)(fv:Value)(w:World):zE 193 #[.slice a 0 c,fv] w (.int .i64 (-1)):=by
 go_enter Tryz.func193,Tryz.ntmps193
 go_wp2
 go_loopg [5,8] 0 (fun gg _ s8 wr=>s8=.int .i64 0/\wr=w)
 case atStart=>exact⟨rfl,rfl⟩
 case round=>
  obtain⟨rfl,rfl⟩:=hrel
  go_wp2
  go_ret;exact⟨rfl,rfl⟩
theorem eg202:∀args w,(callFunc 198 args).run Tryz.prog w=.ok (.enter 198 args) w:=enters_of Tryz.func198 (by kernel_rfl) rfl
theorem eg198:∀args w,(callFunc 194 args).run Tryz.prog w=.ok (.enter 194 args) w:=enters_of Tryz.func194 (by kernel_rfl) rfl
end Go.Proofs.YtbdobaapadlcjabGreatDoor
namespace Go.Proofs.YtbdobaapadlcjabGreatDoor
open Go.RowKit
variable {w w' W:World}{qb size n gr:Nat}{C:Array Value}{t t':TypeId}{c r:Wp.Rq}{next:Int}{ms rs ds at_ v v':Value}{xs:List Value}{y:Sl}
theorem cell_qC (h:w.heap[qb]?=some (.cells C t (0,0)))(j:Nat)(v:Value)(hj:C[j]?=some v):w.cell? ⟨qb,j,none⟩=some v:=(cell_of_row w qb j C t (0,0) h).trans hj
def sbox (w:World)(qb:Nat)(now:Int)(C:Array Value):World:=((w.alloc (.cells #[.pointer (some ⟨qb,0,none⟩)] 88)).alloc (.cells #[.int .i64 now] 3)).alloc (.cells C 24)
theorem sbox_tch (w:World)(qb:Nat)(now:Int)(C:Array Value):Tch [] w (sbox w qb now C):=(((Tch.refl _ _).alloc _).alloc _).alloc _
theorem sbox_size (w:World)(qb:Nat)(now:Int)(C:Array Value):(sbox w qb now C).heap.size=w.heap.size+3:=by simp[sbox]
theorem sbox_0 (w:World)(qb:Nat)(now:Int)(C:Array Value):(sbox w qb now C).heap[w.heap.size]?=some (.cells #[.pointer (some ⟨qb,0,none⟩)] 88 (0,0)):=by
 unfold sbox;rw[Below.heap_alloc _ _ _ (by simp;omega),heap_alloc2_old]
theorem sbox_1 (w:World)(qb:Nat)(now:Int)(C:Array Value):(sbox w qb now C).heap[w.heap.size+1]?=some (.cells #[.int .i64 now] 3 (0,0)):=by
 unfold sbox;rw[Below.heap_alloc _ _ _ (by simp),heap_alloc2_new]
theorem sbox_2 (w:World)(qb:Nat)(now:Int)(C:Array Value):(sbox w qb now C).heap[w.heap.size+2]?=some (.cells C 24 (0,0)):=by
 unfold sbox;have h:=heap_alloc_new ((w.alloc (.cells #[.pointer (some ⟨qb,0,none⟩)] 88)).alloc (.cells #[.int .i64 now] 3)) (.cells C 24);simpa using h
theorem info214:(Tryz.prog.info? 191).map (fun i=>(i.zero,i.size,i.bytes))=some (some (.agg #[.int .i64 0,.string ⟨#[]⟩,.string ⟨#[]⟩,.int .i64 0,.int .i64 0]),5,56):=by kernel_rfl
theorem info219:(Tryz.prog.info? 195).map (fun i=>(i.zero,i.size,i.bytes))=some (some (.agg #[.string ⟨#[]⟩,.int .i64 0,.int .i64 0]),3,32):=by kernel_rfl
abbrev Qb (w:World)(qb:Nat)(c:Wp.Rq)(next:Int)(ms rs ds at_:Value):Prop:=w.heap[qb]?=some (.cells (qC c next ms rs ds at_) 137 (0,0))
theorem Qb.set6 (h:Qb w qb c next ms rs ds at_)(v:Int):Qb (w.setCell ⟨qb,6,none⟩ (.int .i64 v)) qb c v ms rs ds at_:=heap_setCell_same w qb 6 _ 137 _ h
theorem Qb.set7 (h:Qb w qb c next ms rs ds at_)(v:Value):Qb (w.setCell ⟨qb,7,none⟩ v) qb c next v rs ds at_:=heap_setCell_same w qb 7 _ 137 _ h
theorem Qb.set8 (h:Qb w qb c next ms rs ds at_)(v:Value):Qb (w.setCell ⟨qb,8,none⟩ v) qb c next ms v ds at_:=heap_setCell_same w qb 8 _ 137 _ h
theorem Qb.set9 (h:Qb w qb c next ms rs ds at_)(v:Value):Qb (w.setCell ⟨qb,9,none⟩ v) qb c next ms rs v at_:=heap_setCell_same w qb 9 _ 137 _ h
theorem Qb.set10 (h:Qb w qb c next ms rs ds at_)(v:Value):Qb (w.setCell ⟨qb,10,none⟩ v) qb c next ms rs ds v:=heap_setCell_same w qb 10 _ 137 _ h
theorem Qb.fz (h:Qb w qb c next ms rs ds at_)(j:Nat):w.frozen? ⟨qb,j,none⟩=false:=frozen_of_row w qb j _ 137 h
theorem Qb.lt (h:Qb w qb c next ms rs ds at_):qb<w.heap.size:=lt_of_block h
def bl (v:Value):List Nat:=v.ownBlock.toList
theorem mem_bl {k:Nat}:k∈bl v↔v.ownBlock=some k:=by simp[bl,Option.mem_toList]
theorem own_some (h:w.ownsRow 0 t size v (n+1) xs):∃g cap,v=.slice (some ⟨g,0,none⟩) (n+1) cap:=by
 rcases h.2 with ⟨_,h0⟩|⟨g,cap,cur,rfl,_⟩
 ·omega
 ·exact⟨g,cap,rfl⟩
theorem grown_tch (h:w.grownBy w' v.ownBlock):Tch (bl v) w w':=(Tch.refl _ _).grown h (fun k hk _=>mem_bl.2 hk)
def NewOr (w:World)(v v':Value):Prop:=∀j,v'.ownBlock=some j->v.ownBlock=some j\/w.heap.size<=j
theorem NewOr.refl (w:World)(v:Value):NewOr w v v:=fun _ h=>.inl h
theorem NewOr.of (hs:w.heap.size<=W.heap.size)(h:v'.ownBlock=v.ownBlock\/v'.ownBlock=some W.heap.size):NewOr w v v':=fun j hj=>by
 rcases h with h|h
 ·exact .inl (h.symm.trans hj)
 ·rw[hj]at h;injection h with h;exact .inr (by omega)
theorem NewOr.mono (hs:w.heap.size<=W.heap.size)(h:NewOr W v v'):NewOr w v v':=fun j hj=>by
 rcases h j hj with h|h
 ·exact .inl h
 ·exact .inr (by omega)
abbrev msV (k:Int)(g bd:ByteArray):List Value:=[.int .i64 k,.string g,.string bd,.int .i64 0,.int .i64 0]
abbrev ddV (id:ByteArray)(k til:Int):List Value:=[.string id,.int .i64 k,.int .i64 til]
theorem gr9 (h:w.heap[gr]?=some (.cells (cellsOf r y.v) 24 (0,0))):w.cell? ⟨gr,9,none⟩=some (.string r.grp):=cell_qC h 9 _ rfl
theorem gr11 (h:w.heap[gr]?=some (.cells (cellsOf r y.v) 24 (0,0))):w.cell? ⟨gr,11,none⟩=some (.string r.bod):=cell_qC h 11 _ rfl
theorem own_apart {size' n':Nat}{xs':List Value}(h:w.ownsRow 0 t size v n xs)(h':w.ownsRow 0 t' size' v' n' xs')(htt:t'≠t)(ht:Tch (bl v') w w'):w'.ownsRow 0 t size v n xs:=
 own_tch h ht (fun j hj hm'=>by
  have e:=mem_bl.1 hm';rcases h.2 with ⟨rfl,_⟩|⟨g',cap',cur',rfl,_,hg',_⟩
  ·simp[Value.ownBlock]at hj
  ·simp only[Value.ownBlock,Option.some.injEq]at hj;subst hj;exact own_ne h' hg' htt e)
theorem own_set (h:w.ownsRow 0 t size v n xs){C:Array Value}{t':TypeId}(hq:w.heap[qb]?=some (.cells C t' (0,0)))(htt:t≠t'){w':World}(ht:Tch [qb] w w'):w'.ownsRow 0 t size v n xs:=
 own_tch h ht (fun j hj hm'=>by
  simp at hm';subst hm';exact own_ne h hq htt hj)
def Sf (w:World)(gq gi gn qb:Nat)(id:ByteArray)(now win k:Int):Prop:=w.cell? ⟨gq,0,none⟩=some (.pointer (some ⟨qb,0,none⟩))/\w.cell? ⟨gi,0,none⟩=some (.string id)/\w.cell? ⟨gn,0,none⟩=some (.int .i64 now)/\w.cell? ⟨qb,3,none⟩=some (.int .i64 win)/\w.cell? ⟨qb,6,none⟩=some (.int .i64 k)/\w.frozen? ⟨qb,9,none⟩=false
end Go.Proofs.YtbdobaapadlcjabGreatDoor
namespace Go.Proofs.YtbdobaapadlcjabGreatDoor
open Go.Shelf Go.RowKit Go.Lib
def l262_ren:Go.Shelf.Ren:=⟨fun|6=>191|n=>n,fun|22=>135|23=>199|25=>233|3=>3|0=>0|4=>4|n=>n,fun|n=>n⟩
theorem l262:Go.Proofs.SlLaysH0.n6 Tryz.prog l262_ren:={
 mixed:=by kernel_rfl
 f6:=⟨Tryz.f191.name,by decide,Tryz.func191.trans (congrArg some (by kernel_rfl))⟩
 t0:=Tryz.underlying0
 a0:=Tryz.isAgg0
 z0:=Tryz.sizeOf0
 v0:=Tryz.zeroValue0
 t3:=Tryz.underlying3
 a3:=Tryz.isAgg3
 z3:=Tryz.sizeOf3
 v3:=Tryz.zeroValue3
 t4:=Tryz.underlying4
 a4:=Tryz.isAgg4
 z4:=Tryz.sizeOf4
 v4:=Tryz.zeroValue4
 t22:=Tryz.underlying135
 a22:=Tryz.isAgg135
 z22:=Tryz.sizeOf135
 v22:=Tryz.zeroValue135
 t25:=Tryz.underlying233
 a25:=Tryz.isAgg233
 z25:=Tryz.sizeOf233
 v25:=Tryz.zeroValue233}
structure At where
 id:ByteArray
 til:Int
 ans:ByteArray
def At.row (x:At):List Value:=[.string x.id,.int .i64 x.til,.string x.ans]
def idxL {α:Type}(p:α->Bool):List α->Int
 | []=>-1
 | x::l=>if p x=true then 0 else (if idxL p l<0 then -1 else idxL p l+1)
theorem idxL_ge {α:Type}(p:α->Bool)(l:List α):-1<=idxL p l:=by
 induction l with
 | nil=>exact Int.le_refl _
 | cons x l ih=>simp only[idxL];split<;>(try split)<;>omega
theorem idxL_lt {α:Type}(p:α->Bool)(l:List α):idxL p l<l.length:=by
 induction l with
 | nil=>simp[idxL]
 | cons x l ih=>simp only[idxL,List.length_cons];split<;>(try split)<;>omega
theorem idxByFrom_eq {α:Type}(p:α->Bool)(d:α)(l:List α)(i:Nat):Lib.idxByFrom (fun _ y=>p y) d l i=if idxL p l<0 then -1 else idxL p l+i:=by
 induction l generalizing i with
 | nil=>rfl
 | cons x l ih=>
  simp only[Lib.idxByFrom,idxL]
  by_cases hx:p x=true
  ·simp[hx]
  ·simp only[hx,if_false,Bool.false_eq_true];rw[ih]
   by_cases h2:idxL p l<0
   ·simp[h2]
   ·have h3:¬(idxL p l+1<0):=by omega
    simp only[h2,h3,if_false];omega
theorem idxBy_eq {α:Type}(p:α->Bool)(d:α)(l:List α):Lib.idxBy (fun _ y=>p y) l d=idxL p l:=by
 have h1:=idxL_ge p l;rw[Lib.idxBy,idxByFrom_eq]
 split<;>omega
theorem idxL_neg {α:Type}(p:α->Bool)(l:List α):idxL p l<0↔∀x∈l,p x=false:=by
 induction l with
 | nil=>simp[idxL]
 | cons x l ih=>
  have h1:=idxL_ge p l;simp only[idxL,List.mem_cons,forall_eq_or_imp]
  by_cases hx:p x=true
  ·simp[hx]
  ·have hx':p x=false:=by simpa using hx
   simp only[hx',Bool.false_eq_true,if_false,true_and,<-ih]
   split<;>omega
theorem flat_get {α:Type}(row:α->List Value)(k:Nat)(hk:∀x,(row x).length=k)(l:List α)(j i:Nat)(hj:j<l.length)(hi:i<k):(l.flatMap row)[j*k+i]?=(row l[j])[i]?:=by
 induction l generalizing j with
 | nil=>simp at hj
 | cons x l ih=>
  rw[List.flatMap_cons]
  cases j with
  | zero=>
   rw[Nat.zero_mul,Nat.zero_add,List.getElem?_append_left (by rw[hk];exact hi)];rfl
  | succ j=>
   have e:(j+1)*k+i=(row x).length+(j*k+i):=by rw[hk,Nat.add_mul,Nat.one_mul];omega
   rw[e,List.getElem?_append_right (by omega),Nat.add_sub_cancel_left,ih j (by simpa using hj)];rfl
theorem flat_len {α:Type}(row:α->List Value)(k:Nat)(hk:∀x,(row x).length=k)(l:List α):(l.flatMap row).length=l.length*k:=by
 induction l with
 | nil=>simp
 | cons x l ih=>rw[List.flatMap_cons,List.length_append,ih,hk,List.length_cons,Nat.add_mul];omega
theorem own_cells {α:Type} [Inhabited α] (row:α->List Value)(k:Nat)(hk:∀x,(row x).length=k){w:World}{t:TypeId}{n c g:Nat}{l:List α}(h:w.ownsRow 0 t k (.slice (some ⟨g,0,none⟩) n c) l.length (l.flatMap row))(j:Nat)(hj:j<l.length)(i:Nat)(v:Value)(hv:(row l[j]!)[i]?=some v):w.cell? ⟨g,0+j*k+i,none⟩=some v:=by
 have hi:i<k:=by
  have:=(List.getElem?_eq_some_iff.1 hv).1;rw[hk]at this;exact this
 have e:l[j]! = l[j]:=by rw[List.getElem!_eq_getElem?_getD,List.getElem?_eq_getElem hj];rfl
 rw[e,<-flat_get row k hk l j i hj hi]at hv;have h1:=World.ownsRow.cells h (g:=g) rfl (j*k+i) v hv;have e2:(⟨g,0,none⟩:Addr).add (j*k+i)=⟨g,0+j*k+i,none⟩:=by unfold Addr.add;split<;>simp_all
 rw[e2]at h1;exact h1
theorem at_pred (id:ByteArray)(B:Nat)(w:World)(hB:B<w.heap.size)(hcell:w.cell? ⟨B,0,none⟩=some (.string id)):
  PredBelow Tryz.prog 192 #[.pointer (some ⟨B,0,none⟩)] (fun x:At=>.agg x.row.toArray) (fun x=>x.id.toList == id.toList) w:=fun W x hb=>by
 have hc:=(hb.cell (p:=⟨B,0,none⟩) hB).trans hcell;have hBW:B<W.heap.size:=Nat.lt_of_lt_of_le hB hb.size
 show Calls Tryz.prog 192 #[.agg #[.string x.id,.int .i64 x.til,.string x.ans],.pointer (some ⟨B,0,none⟩)] W _
 go_enter Tryz.func192,Tryz.ntmps192
 go_wp2
 all_goals (go_ret;exact⟨by simp_all,hb.alloc hb.size _⟩)
theorem idx_at_nil (a:Option Addr)(c:Nat)(fv:Value)(w:World):zE 191 #[.slice a 0 c,fv] w (.int .i64 (-1)):=by
 go_enter Tryz.func191,Tryz.ntmps191
 go_wp2
 go_loopg [5,8] 0 (fun gg _ s8 wr=>s8=.int .i64 0/\wr=w)
 case atStart=>exact⟨rfl,rfl⟩
 case round=>
  obtain⟨rfl,rfl⟩:=hrel
  go_wp2
  go_ret;exact⟨rfl,rfl⟩
theorem eg263:∀args w,(callFunc 192 args).run Tryz.prog w=.ok (.enter 192 args) w:=enters_of Tryz.func192 (by kernel_rfl) rfl
abbrev isG (g:ByteArray)(x:Ms):Bool:=x.grp.toList == g.toList
abbrev isI (id:ByteArray)(x:Dd):Bool:=x.id.toList == id.toList
abbrev isA (id:ByteArray)(x:At):Bool:=x.id.toList == id.toList
theorem idx_ms (v:Value)(l:List Ms)(g:ByteArray)(B:Nat)(w:World)(ho:w.ownsRow 0 191 5 v l.length (l.flatMap Ms.row))(hl:l.length<=1000000)(hB:B<w.heap.size)(hcell:w.cell? ⟨B,0,none⟩=some (.string g)):
  zB 193 #[v,.func (.func 194) #[] #[.pointer (some ⟨B,0,none⟩)]] w (.int .i64 (idxL (isG g) l)):=by
 have inh:Inhabited Ms:=⟨⟨0,⟨#[]⟩,⟨#[]⟩,0,0⟩⟩;rcases ho.2 with ⟨rfl,h0⟩|⟨gd,cap,cur,rfl,_,hg,_⟩
 ·have e0:l=[]:=List.length_eq_zero_iff.1 h0;subst e0;refine(idx_ms_none none 0 _ w).mono ?_;rintro e w' ⟨rfl,rfl⟩;exact⟨rfl,Below.refl _ _⟩
 ·have h:=AnyQ.slices_IndexFunc l197 5 Tryz.isAgg191 Tryz.sizeOf191 Ms.row (fun _=>rfl) (isG g) 194 #[.pointer (some ⟨B,0,none⟩)] eg198 gd 0 l.length cap l w (ms_pred g B w hB hcell) (Nat.le_refl _) (by omega) (lt_of_block hg) (fun j hj i v hi=>own_cells Ms.row 5 (fun _=>rfl) ho j hj i v hi);rw[List.take_length,idxBy_eq]at h;exact h
theorem idx_dd (v:Value)(l:List Dd)(id:ByteArray)(B:Nat)(w:World)(ho:w.ownsRow 0 195 3 v l.length (l.flatMap Dd.row))(hl:l.length<=1000000)(hB:B<w.heap.size)(hcell:w.cell? ⟨B,0,none⟩=some (.string id)):
  zB 197 #[v,.func (.func 198) #[] #[.pointer (some ⟨B,0,none⟩)]] w (.int .i64 (idxL (isI id) l)):=by
 have inh:Inhabited Dd:=⟨⟨⟨#[]⟩,0,0⟩⟩;rcases ho.2 with ⟨rfl,h0⟩|⟨gd,cap,cur,rfl,_,hg,_⟩
 ·have e0:l=[]:=List.length_eq_zero_iff.1 h0;subst e0;refine(idx_dd_none none 0 _ w).mono ?_;rintro e w' ⟨rfl,rfl⟩;exact⟨rfl,Below.refl _ _⟩
 ·have h:=AnyQ.slices_IndexFunc l201 3 Tryz.isAgg195 Tryz.sizeOf195 Dd.row (fun _=>rfl) (isI id) 198 #[.pointer (some ⟨B,0,none⟩)] eg202 gd 0 l.length cap l w (dd_pred id B w hB hcell) (Nat.le_refl _) (by omega) (lt_of_block hg) (fun j hj i v hi=>own_cells Dd.row 3 (fun _=>rfl) ho j hj i v hi);rw[List.take_length,idxBy_eq]at h;exact h
theorem idx_at (v:Value)(l:List At)(id:ByteArray)(B:Nat)(w:World)(ho:w.ownsRow 0 199 3 v l.length (l.flatMap At.row))(hl:l.length<=1000000)(hB:B<w.heap.size)(hcell:w.cell? ⟨B,0,none⟩=some (.string id)):
  zB 191 #[v,.func (.func 192) #[] #[.pointer (some ⟨B,0,none⟩)]] w (.int .i64 (idxL (isA id) l)):=by
 have inh:Inhabited At:=⟨⟨⟨#[]⟩,0,⟨#[]⟩⟩⟩;rcases ho.2 with ⟨rfl,h0⟩|⟨gd,cap,cur,rfl,_,hg,_⟩
 ·have e0:l=[]:=List.length_eq_zero_iff.1 h0;subst e0;refine(idx_at_nil none 0 _ w).mono ?_;rintro e w' ⟨rfl,rfl⟩;exact⟨rfl,Below.refl _ _⟩
 ·have h:=AnyQ.slices_IndexFunc l262 3 Tryz.isAgg199 Tryz.sizeOf199 At.row (fun _=>rfl) (isA id) 192 #[.pointer (some ⟨B,0,none⟩)] eg263 gd 0 l.length cap l w (at_pred id B w hB hcell) (Nat.le_refl _) (by omega) (lt_of_block hg) (fun j hj i v hi=>own_cells At.row 3 (fun _=>rfl) ho j hj i v hi);rw[List.take_length,idxBy_eq]at h;exact h
theorem head_gen (g:ByteArray)(qb:Nat)(v:Value)(l:List Ms)(w:World)(c7:w.cell? ⟨qb,7,none⟩=some v)(ho:w.ownsRow 0 191 5 v l.length (l.flatMap Ms.row))(hl:l.length<=1000000):
  zB 163 #[.pointer (some ⟨qb,0,none⟩),.string g] w (.int .i64 (idxL (isG g) l)):=by
 have hlt:=World.block_lt_of_cell? _ _ c7;have HI:Hid (Calls Tryz.prog 193 _ (w.alloc (.cells #[.string g] 9)) _):=idx_ms v l g w.heap.size (w.alloc (.cells #[.string g] 9)) (own_tch ho ((Tch.refl [] w).alloc _) (fun _ _=>by simp)) hl (by simp) (cell_of_one (heap_alloc_new _ _));clear ho;generalize idxL (isG g) l=z at*
 go_enter Tryz.func163,Tryz.ntmps163;go_wp2_with (go_at_call 193;refine HI.out.mono ?_;rintro e w' ⟨rfl,hb⟩);go_ret;exact⟨rfl,((Below.refl _ _).alloc (Nat.le_refl _) _).trans (hb.mono (by simp))⟩
theorem findDedup_gen (id:ByteArray)(qb:Nat)(v:Value)(l:List Dd)(w:World)(c9:w.cell? ⟨qb,9,none⟩=some v)(ho:w.ownsRow 0 195 3 v l.length (l.flatMap Dd.row))(hl:l.length<=1000000):
  zB 170 #[.pointer (some ⟨qb,0,none⟩),.string id] w (.int .i64 (idxL (isI id) l)):=by
 have hlt:=World.block_lt_of_cell? _ _ c9;have HI:Hid (Calls Tryz.prog 197 _ (w.alloc (.cells #[.string id] 9)) _):=idx_dd v l id w.heap.size (w.alloc (.cells #[.string id] 9)) (own_tch ho ((Tch.refl [] w).alloc _) (fun _ _=>by simp)) hl (by simp) (cell_of_one (heap_alloc_new _ _));clear ho;generalize idxL (isI id) l=z at*
 go_enter Tryz.func170,Tryz.ntmps170;go_wp2_with (go_at_call 197;refine HI.out.mono ?_;rintro e w' ⟨rfl,hb⟩);go_ret;exact⟨rfl,((Below.refl _ _).alloc (Nat.le_refl _) _).trans (hb.mono (by simp))⟩
theorem findAttempt_gen (id:ByteArray)(qb:Nat)(v:Value)(l:List At)(w:World)(c10:w.cell? ⟨qb,10,none⟩=some v)(ho:w.ownsRow 0 199 3 v l.length (l.flatMap At.row))(hl:l.length<=1000000):
  zB 162 #[.pointer (some ⟨qb,0,none⟩),.string id] w (.int .i64 (idxL (isA id) l)):=by
 have hlt:=World.block_lt_of_cell? _ _ c10;have HI:Hid (Calls Tryz.prog 191 _ (w.alloc (.cells #[.string id] 9)) _):=idx_at v l id w.heap.size (w.alloc (.cells #[.string id] 9)) (own_tch ho ((Tch.refl [] w).alloc _) (fun _ _=>by simp)) hl (by simp) (cell_of_one (heap_alloc_new _ _));clear ho;generalize idxL (isA id) l=z at*
 go_enter Tryz.func162,Tryz.ntmps162;go_wp2_with (go_at_call 191;refine HI.out.mono ?_;rintro e w' ⟨rfl,hb⟩);go_ret;exact⟨rfl,((Below.refl _ _).alloc (Nat.le_refl _) _).trans (hb.mono (by simp))⟩
end Go.Proofs.YtbdobaapadlcjabGreatDoor
