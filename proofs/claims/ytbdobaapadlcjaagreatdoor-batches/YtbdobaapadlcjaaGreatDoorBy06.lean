import Derived.Lib.Bytes
import Derived.Test.YtbdobaapadlcjaaGreatDoorBy05
import Derived.Shelf.SlicesQ.IndexFunc
set_option maxHeartbeats 2000000
set_option linter.unusedVariables false
set_option linter.unusedSimpArgs false
namespace Go.Proofs.YtbdobaapadlcjaaGreatDoor
open Go.RowKit
variable {w w':World}{j d n k b:Nat}{room:Int}{v:Value}{fs:List Dk.DF}{S:List Nat}
def ks (r:Wp.Rq):ByteArray:=if r.ded.size=0 then ⟨(0::je (Crc.crc r.bod.data.toList) 4).toArray⟩ else r.ded
theorem vR (s:ByteArray)(h:s.size=0):s=⟨#[]⟩:=by
 have h1:=h;have h2:s.data=#[]:=Array.eq_empty_of_size_eq_zero h1
 cases s
 simp at h2;rw[h2]
theorem a0h (s:ByteArray)(h:s.size≠0):s.toList.isEmpty=false:=by
 rw[Lib.toList_data]
 cases hl:s.data.toList with
 | nil=>exact absurd (show s.size=0 by rw[ByteArray.size,<-Array.length_toList,hl];rfl) h
 | cons a l=>rfl
theorem a6B (l:List UInt8):Crc.crc l<4294967296:=by
 show 4294967295-_<4294967296
 omega
theorem zW (r:Wp.Rq)(y:Sl)(w:World)(hb:r.bod.size<=maxLen)(hT:Tab w)(h2:2<w.heap.size):
  zB 216 #[.agg (ja r y.v)] w (.string (ks r)):=by
 rw[show ja r y.v=#[.int .u8 (r.op.toNat:Int),.int .u8 (r.q.toNat:Int),.int .u8 (r.d.toNat:Int),.int .i64 r.vis,.int .i64 r.win,.int .i64 r.rcv,.int .i64 r.quo,.int .i64 r.mx,.int .i64 r.tic,.string r.grp,.string r.ded,.string r.bod,.string r.att,.string r.han,.slice y.a y.n y.c] from rfl]
 by_cases hd:r.ded.size=0
 ·have e0:r.ded=⟨#[]⟩:=vR _ hd;have hdid:Hid (ks r=⟨(0::je (Crc.crc r.bod.data.toList) 4).toArray⟩):=by show _=_;unfold ks;rw[if_pos hd]
  rw[e0];clear e0 hd;have HD:Hid (∀W:World,(W.alloc (.cells #[.int .u8 0] 5)).ownsRow W.heap.size 5 1 (.slice (some ⟨W.heap.size,0,none⟩) 1 1) 1 [.int .u8 0]):=fun W=>⟨rfl,.inr ⟨W.heap.size,1,#[.int .u8 0],rfl,Nat.le_refl _,heap_alloc_new _ _,by decide,by decide,rfl,rfl⟩⟩
  have HC:Hid (Crc.crc r.bod.data.toList<4294967296):=a6B _;have HCK:Hid (∀W,Below w.heap.size w W->zE 92 #[.string r.bod] W (.int .u32 (Crc.crc r.bod.data.toList:Nat))):=fun W hbW=>a3G _ W hb (hT.below hbW h2)
  clear hT h2 hb;generalize Crc.crc r.bod.data.toList=N at*
  have hN:=HC.out;go_enter Tryz.func216,Tryz.ntmps216;go_wp2_with (go_at_call 92;refine(HCK.out _ (((Below.refl _ _).alloc (Nat.le_refl _) _).alloc (by simp) _)).mono ?_;rintro e w' ⟨rfl,rfl⟩);have ha:=HD.out (w.alloc (.cells #[.int .u8 (r.op.toNat:Int),.int .u8 (r.q.toNat:Int),.int .u8 (r.d.toNat:Int),.int .i64 r.vis,.int .i64 r.win,.int .i64 r.rcv,.int .i64 r.quo,.int .i64 r.mx,.int .i64 r.tic,.string r.grp,.string ⟨#[]⟩,.string r.bod,.string r.att,.string r.han,.slice y.a y.n y.c] 27));rw[World.size_alloc]at ha;refine(qo (w.heap.size+1) _ [0] N 4 _ hN (by decide) (by decide) (by simp) ha).mono ?_;rintro e w2 ⟨v',rfl,ho,hbel⟩;have hstr:=OwnB.str ho (by simp);have HBE:Hid (Below w.heap.size w w2):=(((Below.refl _ _).alloc (Nat.le_refl _) _).alloc (by simp) _).trans (hbel.mono (by omega));clear ha ho hbel;go_wp2_with fail;go_ret;exact⟨by rw[hdid.out];rfl,HBE.out⟩
 ·have hne:=a0h _ hd;have hdid:Hid (ks r=r.ded):=by show _=_;unfold ks;rw[if_neg hd]
  clear hd;go_enter Tryz.func216,Tryz.ntmps216;go_wp2_with fail;go_ret;exact⟨by rw[hdid.out];rfl,(Below.refl _ _).alloc (Nat.le_refl _) _⟩
def qX (s:ByteArray):List UInt8:=(je s.size 4++je (Crc.crc s.data.toList) 4)++s.data.toList
theorem vi (s:ByteArray):(qX s).length=8+s.size:=by
 rw[qX,List.length_append,List.length_append,jc,jc];rfl
theorem a3k (s:ByteArray)(w:World)(hs:s.size<=1048576)(hT:Tab w)(h2:2<w.heap.size):
  Cp 64 #[.slice none 0 0,.string s] w fun e w'=>∃v,e=.returned v/\OwnB w' w.heap.size v (qX s)/\Below w.heap.size w w':=by
 obtain⟨i0,hi,hz0,hz1,hz2⟩:=info_parts zh;have hnum:Hid (Cp 91 #[.slice none 0 0,.int .i64 (s.size:Int),.int .i64 4] w fun e w'=>∃v',e=.returned v'/\OwnB w' w.heap.size v' ([]++je s.size 4)/\Below w.heap.size w w'):=
  qo w.heap.size _ [] s.size 4 w (by omega) (by decide) (by decide) (Nat.le_refl _) (World.ownsRow_nil _ _ _ _)
 have HC:Hid (Crc.crc s.data.toList<4294967296):=a6B _;have HCK:Hid (∀W,Below w.heap.size w W->zE 92 #[.string s] W (.int .u32 (Crc.crc s.data.toList:Nat))):=fun W hbW=>a3G _ W (by unfold maxLen;omega) (hT.below hbW h2)
 have hrec:Hid (qX s=(([]++je s.size 4)++je (Crc.crc s.data.toList) 4)++s.data.toList):=by show _=_;simp[qX]
 clear hT h2;generalize Crc.crc s.data.toList=N at*
 have hN:=HC.out;go_enter Tryz.func64,Tryz.ntmps64;go_wp2_with fail;refine(hnum.out).mono ?_;rintro e w1 ⟨v1,rfl,ho1,hb1⟩;have HO:=zH ho1;have HB:=zH hb1;clear ho1 hb1;go_wp2_with (go_at_call 92;refine(HCK.out _ HB.out).mono ?_;rintro e w' ⟨rfl,rfl⟩);refine(qo w.heap.size _ _ N 4 _ hN (by decide) (by simp[jc]) HB.out.size HO.out).mono ?_;rintro e w2 ⟨v2,rfl,ho2,hb2⟩;have hle:(([]++je s.size 4)++je N 4).length<=100:=by simp[jc]
 generalize (([]++je s.size 4)++je N 4)=L at ho2 hle hrec;have HO2:=zH ho2;have HB2:=zH (HB.out.trans hb2);have hsz:=HB2.out.size;clear ho2 hb2;go_wp2_with (at_builtin;refine Lib.wpList_append_own_string _ rfl _ _ 74 9 rfl w.heap.size 5 i0 Tryz.underlying74 Tryz.underlying9 hi hz0 hz1 hz2 _ _ _ rfl HO2.out s rfl ?c1 ?c2 ?c3 ?_)
 case c1=>unfold maxLen;omega
 case c2=>omega
 case c3=>omega
 intro v' w3 hown' hgrow _;have hr1:OwnB w3 w.heap.size v' (qX s):=by
  rw[hrec.out];unfold OwnB;have e1:kO (L++s.data.toList)=kO L++Lib.strCells s:=by rw[<-a0O];simp[kO]
  have e2:(L++s.data.toList).length=L.length+s.size:=by rw[List.length_append];rfl
  rw[e1,e2];exact hown'
 have hr2:Below w.heap.size w w3:=by
  refine Below.grown HB2.out hgrow (by omega) ?_;intro k hk;exact(World.ownsRow.lt HO2.out k hk).1
 clear hown' hgrow
 go_wp2
 go_ret;exact⟨_,rfl,hr1,hr2⟩
abbrev jn:ByteArray:=⟨#[106,111,117,114,110,97,108]⟩
abbrev jw:ByteArray:=⟨#[106,111,117,114,110,97,108,46,110,101,119]⟩
abbrev Dd0 (w:World)(d:Nat)(v:Value)(fs:List Dk.DF):Prop:=Dk.Dsk w 110 116 d v ⟨fs,-1,false⟩
abbrev Gd0 (fs:List Dk.DF)(n k:Nat):Prop:=Dk.Good ⟨fs,-1,false⟩ n k
structure Jr (w:World)(j d:Nat)(room:Int)(v:Value)(fs:List Dk.DF)(n k:Nat):Prop where
 hj:w.heap[j]?=some (.cells #[zp d,.int .i64 room,.bool false] 143 (0,0))
 dsk:Dd0 w d v fs
 gd:Gd0 fs n k
def jbl (j d:Nat)(v:Value):List Nat:=j::Dk.bl d v
theorem Jr.ne (h:Jr w j d room v fs n k):j∉Dk.bl d v:=fun hm=>by
 rcases List.mem_cons.1 hm with e|e
 ·have h1:=h.hj;have h2:w.heap[d]?=_:=h.dsk.blk;rw[<-e,h1]at h2;simp at h2
 ·exact jA h.dsk.own h.hj (by decide) (by simpa [Option.mem_toList]using e)
theorem Jr.tch (h:Jr w j d room v fs n k){S:List Nat}(ht:Tch S w w')(hS:∀b∈jbl j d v,b∉S):Jr w' j d room v fs n k:=
 ⟨(ht.block _ (lt_of_block h.hj) (hS _ (by simp[jbl]))).trans h.hj,h.dsk.tch ht (fun b hb=>hS b (List.mem_cons_of_mem _ hb)),h.gd⟩
theorem Jr.apart (h:Jr w j d room v fs n k){b:Nat}{C:Array Value}{t:TypeId}(hb:w.heap[b]?=some (.cells C t (0,0)))(h1:143≠t)(h2:110≠t)(h3:116≠t):b∉jbl j d v:=fun hm=>by
 rcases List.mem_cons.1 hm with e|e
 ·have h0:=h.hj;rw[<-e,hb]at h0;simp at h0;exact h1 h0.2.symm
 ·rcases List.mem_cons.1 e with e|e
  ·have h0:w.heap[d]?=_:=h.dsk.blk;rw[<-e,hb]at h0;simp at h0;exact h2 h0.2.symm
  ·exact jA h.dsk.own hb h3 (by simpa [Option.mem_toList]using e)
theorem Jr.c0 (h:Jr w j d room v fs n k):w.cell? ⟨j,0,none⟩=some (zp d):=(cell_of_row w j 0 _ 143 (0,0) h.hj).trans rfl
theorem Jr.c1 (h:Jr w j d room v fs n k):w.cell? ⟨j,1,none⟩=some (.int .i64 room):=(cell_of_row w j 1 _ 143 (0,0) h.hj).trans rfl
theorem Jr.c2 (h:Jr w j d room v fs n k):w.cell? ⟨j,2,none⟩=some (.bool false):=(cell_of_row w j 2 _ 143 (0,0) h.hj).trans rfl
theorem Jr.fz (h:Jr w j d room v fs n k)(o:Nat):w.frozen? ⟨j,o,none⟩=false:=frozen_of_row w j o _ 143 h.hj
theorem Jr.tj (h:Jr w j d room v fs n k):∀b∈Dk.bl d v,b∉[j]:=fun b hb hm=>by
 simp at hm;subst hm;exact h.ne hb
theorem Jr.set1 (h:Jr w j d room v fs n k)(r:Int):Jr (w.setCell ⟨j,1,none⟩ (.int .i64 r)) j d r v fs n k:=
 ⟨heap_setCell_same w j 1 _ 143 _ h.hj,h.dsk.tch ((Tch.refl [j] w).setCell (fun _=>by simp) _) h.tj,h.gd⟩
theorem Jr.set2 (h:Jr w j d room v fs n k):Jr (w.setCell ⟨j,2,none⟩ (.bool false)) j d room v fs n k:=
 ⟨heap_setCell_same w j 2 _ 143 _ h.hj,h.dsk.tch ((Tch.refl [j] w).setCell (fun _=>by simp) _) h.tj,h.gd⟩
theorem OwnB.slc {base:Nat}{l:List UInt8}(h:OwnB w base v l)(hl:0<l.length):∃g cap,v=.slice (some ⟨g,0,none⟩) l.length cap:=by
 rcases h.2 with ⟨rfl,h0⟩|⟨g,cap,cur,rfl,_⟩
 ·omega
 ·exact⟨g,cap,rfl⟩
def xh (b:Nat):Array Value:=
 #[.func (.func 157) #[] #[],.func (.func 158) #[] #[],.func (.func 159) #[] #[],.nilFunc,.func (.func 160) #[] #[],.nilFunc,.nilFunc,.nilFunc,.nilFunc,.nilFunc,.nilFunc,.nilFunc,.nilFunc,.nilFunc,.nilFunc,
  .func (.func 207) #[] #[zp (b+1)],.nilFunc,
  .func (.func 207) #[] #[zp (b+1+1)],
  .func (.func 207) #[] #[zp (b+1+1+1)],
  .func (.func 165) #[] #[],.nilFunc,
  .func (.func 207) #[] #[zp (b+1+1+1+1)],
  .nilFunc,.func (.func 167) #[] #[],.nilFunc,.nilFunc]
def b7k:Array Value:=#[.nilFunc,.nilFunc,.nilFunc,.nilFunc,.nilFunc,.nilFunc,.nilFunc,.nilFunc,.nilFunc,.nilFunc,.nilFunc,.nilFunc,.nilFunc,.nilFunc,.nilFunc,.nilFunc,.nilFunc,.nilFunc,.nilFunc,.nilFunc,.nilFunc,.nilFunc,.nilFunc,.nilFunc,.nilFunc,.nilFunc]
theorem b8z (w:World)(A B C D E:Obj):(((((w.alloc A).alloc B).alloc C).alloc D).alloc E).heap[w.heap.size]?=some A:=by
 rw[Below.heap_alloc _ _ _ (by simp;omega),Below.heap_alloc _ _ _ (by simp;omega),Below.heap_alloc _ _ _ (by simp;omega),heap_alloc2_old]
theorem b8A (w:World)(A B C D E:Obj):(((((w.alloc A).alloc B).alloc C).alloc D).alloc E).heap[w.heap.size+3]?=some D:=by
 have h:=heap_alloc_new (((w.alloc A).alloc B).alloc C) D;rw[World.size_alloc,World.size_alloc,World.size_alloc]at h;rw[Below.heap_alloc _ _ _ (by simp)];exact h
theorem a2m (w:World)(A B C D E:Obj):(((((w.alloc A).alloc B).alloc C).alloc D).alloc E).heap[w.heap.size+1]?=some B/\(((((w.alloc A).alloc B).alloc C).alloc D).alloc E).heap[w.heap.size+2]?=some C/\(((((w.alloc A).alloc B).alloc C).alloc D).alloc E).heap[w.heap.size+3]?=some D/\(((((w.alloc A).alloc B).alloc C).alloc D).alloc E).heap[w.heap.size+4]?=some E:=by
 have h1:=heap_alloc_new (w.alloc A) B;have h2:=heap_alloc_new ((w.alloc A).alloc B) C;have h4:=heap_alloc_new ((((w.alloc A).alloc B).alloc C).alloc D) E;rw[World.size_alloc]at h1;rw[World.size_alloc,World.size_alloc]at h2;rw[World.size_alloc,World.size_alloc,World.size_alloc,World.size_alloc]at h4;refine⟨?_,?_,b8A w A B C D E,h4⟩
 ·rw[Below.heap_alloc _ _ _ (by simp),Below.heap_alloc _ _ _ (by simp),Below.heap_alloc _ _ _ (by simp)];exact h1
 ·rw[Below.heap_alloc _ _ _ (by simp),Below.heap_alloc _ _ _ (by simp)];exact h2
def Tbl (w:World)(b:Nat):Prop:=∀i f:Nat,(i,f)∈[(1,162),(2,163),(3,164),(4,166)]->w.heap[b+i]?=some (.cells #[.func (.func f) #[] #[]] 221 (0,0))
theorem Tbl.tch (h:Tbl w b){S:List Nat}(ht:Tch S w w')(hS:∀i,b+i∉S):Tbl w' b:=fun i f hi=>(ht.block _ (lt_of_block (h i f hi)) (hS i)).trans (h i f hi)
theorem a6J (w:World)(A B C D E:Obj):Below w.heap.size w (((((w.alloc A).alloc B).alloc C).alloc D).alloc E):=
 (((((Below.refl _ _).alloc (Nat.le_refl _) _).alloc (by simp) _).alloc (by simp;omega) _).alloc (by simp;omega) _).alloc (by simp;omega) _
theorem a3J (b:Nat):(xh b).all (·.oneCell')=true:=by kernel_rfl
theorem a9f (w:World):Cp 127 #[] w fun e w'=>e=.returned (.agg (xh w.heap.size))/\Below w.heap.size w w'/\w'.heap.size=w.heap.size+5/\
  Tbl w' w.heap.size:=by
 go_enter Tryz.func127,Tryz.ntmps127;go_wp2_with (first|go_in|(refine wpList_store_row rfl 154 _ _ rfl w.heap.size (xh w.heap.size) ?hx ?hy 154 b7k ?hg ?hi ?hs ?h1 ?k;(case hx=>kernel_rfl);(case hy=>kernel_rfl);(case hg=>exact b8z _ _ _ _ _ _);(case hi=>kernel_rfl);(case hs=>kernel_rfl);(case h1=>exact a3J _)));refine bodyPost_ret (results_cell_row (p:=0) rfl _ _ w.heap.size 154 (xh w.heap.size) (0,0) _ rfl (setRow_heap _ _ _ _ 154 (0,0) (b8z _ _ _ _ _ _)) Tryz.underlying154 rfl (by kernel_rfl)) rfl ⟨rfl,?_,?_,?_⟩
 ·exact jD (a6J _ _ _ _ _ _) (Nat.le_refl _) _
 ·simp
 ·intro i f hi;simp only[List.mem_cons,Prod.mk.injEq,List.not_mem_nil,or_false]at hi;rcases hi with ⟨rfl,rfl⟩|⟨rfl,rfl⟩|⟨rfl,rfl⟩|⟨rfl,rfl⟩
  ·rw[setRow_other _ _ _ _ (by omega)];exact(a2m _ _ _ _ _ _).1
  ·rw[setRow_other _ _ _ _ (by omega)];exact(a2m _ _ _ _ _ _).2.1
  ·rw[setRow_other _ _ _ _ (by omega)];exact(a2m _ _ _ _ _ _).2.2.1
  ·rw[setRow_other _ _ _ _ (by omega)];exact(a2m _ _ _ _ _ _).2.2.2
def stC (now:Int)(q:Value)(b:Nat):Array Value:=#[.int .i64 now,q,.pointer none,.pointer none,.pointer none,.pointer none,.pointer none,.pointer none,.pointer none]++xh b
theorem new_any (w:World):Cp 98 #[] w fun e w'=>e=.returned (zp (w.heap.size+5))/\Below w.heap.size w w'/\w'.heap.size=w.heap.size+6/\
  w'.heap[w.heap.size+5]?=some (.cells (stC 0 (.pointer none) w.heap.size) 156 (0,0))/\Tbl w' w.heap.size:=by
 have hsz:(xh w.heap.size).size=26:=rfl;go_enter Tryz.func98,Tryz.ntmps98;go_wp2_with (go_at_call 127;refine(a9f _).mono ?_;rintro e w1 ⟨rfl,hb,hs,hc⟩);go_ret;refine⟨rfl,hb.alloc (by omega) _,by simp[hs],?_,?_⟩
 ·rw[<-hs,heap_alloc_new];exact congrArg (fun z=>some (Obj.cells z 156 (0,0))) (by kernel_rfl)
 ·exact hc.tch ((Tch.refl [] _).alloc _) (by simp)
structure Brk (w:World)(st b:Nat)(now:Int)(q:Value):Prop where
 hst:w.heap[st]?=some (.cells (stC now q b) 156 (0,0))
 tb:Tbl w b
theorem a5c (w:World):zB 96 #[.string ⟨#[]⟩] w (.tuple #[.slice none 0 0,.bool true]):=by
 go_enter Tryz.func96,Tryz.ntmps96;go_wp2_with (go_at_call 83;go_in);refine wp_loop_rounds 1 ?_;rw[rounds_succ];go_wp2_with (go_at_call 88;go_in);go_ret2;exact⟨rfl,(Below.refl _ _).alloc (Nat.le_refl _) _⟩
theorem a7e (d:Nat)(v:Value)(w:World)(h:Dd0 w d v []):
  Cp 66 #[zp d] w fun e w'=>e=.returned (.tuple #[zp w.heap.size,.string ⟨#[]⟩,.slice none 0 0])/\Below w.heap.size w w'/\w.heap.size<w'.heap.size/\
   w'.heap[w.heap.size]?=some (.cells #[zp d,.int .i64 0,.bool false] 143 (0,0)):=by
 have HD:Hid (∀W,Tch [] w W->zE 95 #[zp d,.string jn] W (.string ⟨#[]⟩)):=fun W ht=>by
  have h':=h.tch ht (by simp);exact Dk.read_d d v (-1) false [] jn W h'.blk h'.own (by simp)
 clear h;go_enter Tryz.func66,Tryz.ntmps66;go_wp2_with (first|(go_at_call 95;refine(HD.out _ ((Tch.refl [] w).alloc _)).mono ?_;rintro e w' ⟨rfl,rfl⟩)|(go_at_call 96;refine(a5c _).mono ?_;rintro e w2 ⟨rfl,hb⟩))
 go_ret3;rw[World.size_alloc]at hb;exact⟨rfl,((Below.refl _ _).alloc (Nat.le_refl _) _).trans (hb.mono (by omega)),by have:=hb.size;rw[World.size_alloc]at this;omega,(hb.block _ (by omega)).trans (heap_alloc_new _ _)⟩
theorem a5e (w:World):Cp 67 #[.string ⟨#[]⟩,.slice none 0 0] w fun e w'=>e=.returned (.tuple #[zp (w.heap.size+5),.bool true])/\Below w.heap.size w w'/\w'.heap.size=w.heap.size+6/\
  w'.heap[w.heap.size+5]?=some (.cells (stC 0 (.pointer none) w.heap.size) 156 (0,0))/\Tbl w' w.heap.size:=by
 go_enter Tryz.func67,Tryz.ntmps67;go_wp2_with (go_at_call 98;refine(new_any _).mono ?_;rintro e w1 ⟨rfl,hb,hs,hst,hc⟩);go_ret2;exact⟨rfl,hb,hs,hst,hc⟩
structure Opn (B:Nat)(w:World)(x st b j d:Nat)(v:Value):Prop where
 hx:w.heap[x]?=some (.cells #[zp st,zp j] 99 (0,0))
 jr:Jr w j d 0 v [] 0 0
 brk:Brk w st b 0 (.pointer none)
 lo:B<=x/\B<=st/\B<=j/\B<=b
theorem b8C:Gd0 [] 0 0:=⟨by decide,Nat.le_refl _,by simp⟩
theorem b1V (d:Nat)(v:Value)(w:World)(h:Dd0 w d v []):Cp 40 #[zp d] w fun e w'=>∃x st b j,e=.returned (.tuple #[zp x,.int .i64 0])/\Below w.heap.size w w'/\Opn w.heap.size w' x st b j d v:=by
 have HS:=zH (Dk.stopped_d d v (-1) false w h.blk);have HO:=zH (a7e d v w h);have HD:=zH h;clear h;go_enter Tryz.func40,Tryz.ntmps40;go_wp2_with (first|(go_at_call 42;refine HS.out.mono ?_;rintro e w' ⟨rfl,h'⟩;have h'':=h'.symm;subst h'')|(go_at_call 66;refine HO.out.mono ?_;rintro e w1 ⟨rfl,hb1,hz1,hj1⟩)|(go_at_call 67;refine(a5e _).mono ?_;rintro e w2 ⟨rfl,hb2,hz2,hst2,hc2⟩));go_ret2;have hz:=hz2;have t2:=hb1.trans (hb2.mono (by omega));refine⟨w1.heap.size+6,w1.heap.size+5,w1.heap.size,w.heap.size,rfl,t2.alloc (by omega) _,⟨by rw[<-hz];exact heap_alloc_new _ _,⟨?_,HD.out.tch (Tch.of_below (t2.alloc (by omega) _)) (by simp),b8C⟩,⟨?_,?_⟩,by omega,by omega,by omega,by omega⟩⟩
 ·rw[Below.heap_alloc _ _ _ (by omega),hb2.block _ hz1];exact hj1
 ·rw[Below.heap_alloc _ _ _ (by omega)];exact hst2
 ·exact hc2.tch ((Tch.refl [] _).alloc _) (by simp)
def qC (r:Wp.Rq)(next:Int)(ms rs ds at_:Value):Array Value:=#[.int .u8 (r.q.toNat:Int),.int .u8 (r.d.toNat:Int),.int .i64 r.vis,.int .i64 r.win,.int .i64 r.rcv,.int .i64 r.quo,.int .i64 next,ms,rs,ds,at_]
theorem b2m (r:Wp.Rq)(x:Sl)(w:World):Cp 168 #[.agg (ja r x.v)] w fun e w'=>
  e=.returned (zp (w.heap.size+1))/\w'=(w.alloc (.cells (ja r x.v) 27)).alloc (.cells (qC r 1 (.slice none 0 0) (.slice none 0 0) (.slice none 0 0) (.slice none 0 0)) 191):=by
 rw[zM r x];go_enter Tryz.func168,Tryz.ntmps168
 go_wp2
 go_ret;exact⟨rfl,rfl⟩
end Go.Proofs.YtbdobaapadlcjaaGreatDoor
namespace Go.Proofs.YtbdobaapadlcjaaGreatDoor
open Go.Shelf Go.RowKit Go.Lib
def b1y:Go.Shelf.Ren:=⟨fun|6=>268|n=>n,fun|22=>188|23=>230|25=>302|3=>3|0=>0|4=>4|n=>n,fun|n=>n⟩
theorem b8I:Go.Proofs.SlLaysH0.n6 Tryz.prog b1y:={
 mixed:=by kernel_rfl
 f6:=⟨Tryz.f268.name,by decide,Tryz.func268.trans (congrArg some (by kernel_rfl))⟩
 t0:=Tryz.underlying0
 a0:=Tryz.isAgg0
 z0:=Tryz.sizeOf0
 v0:=Tryz.zeroValue0
 t3:=Tryz.underlying3
 a3:=Tryz.isAgg3
 z3:=Tryz.sizeOf3
 v3:=Tryz.zeroValue3
 t4:=Tryz.underlying4
 a4:=Tryz.isAgg4
 z4:=Tryz.sizeOf4
 v4:=Tryz.zeroValue4
 t22:=Tryz.underlying188
 a22:=Tryz.isAgg188
 z22:=Tryz.sizeOf188
 v22:=Tryz.zeroValue188
 t25:=Tryz.underlying302
 a25:=Tryz.isAgg302
 z25:=Tryz.sizeOf302
 v25:=Tryz.zeroValue302}
def b1x:Go.Shelf.Ren:=⟨fun|6=>264|n=>n,fun|22=>187|23=>226|25=>294|3=>3|0=>0|4=>4|n=>n,fun|n=>n⟩
theorem b6Z:Go.Proofs.SlLaysH0.n6 Tryz.prog b1x:={
 mixed:=by kernel_rfl
 f6:=⟨Tryz.f264.name,by decide,Tryz.func264.trans (congrArg some (by kernel_rfl))⟩
 t0:=Tryz.underlying0
 a0:=Tryz.isAgg0
 z0:=Tryz.sizeOf0
 v0:=Tryz.zeroValue0
 t3:=Tryz.underlying3
 a3:=Tryz.isAgg3
 z3:=Tryz.sizeOf3
 v3:=Tryz.zeroValue3
 t4:=Tryz.underlying4
 a4:=Tryz.isAgg4
 z4:=Tryz.sizeOf4
 v4:=Tryz.zeroValue4
 t22:=Tryz.underlying187
 a22:=Tryz.isAgg187
 z22:=Tryz.sizeOf187
 v22:=Tryz.zeroValue187
 t25:=Tryz.underlying294
 a25:=Tryz.isAgg294
 z25:=Tryz.sizeOf294
 v25:=Tryz.zeroValue294}
structure Dd where
 id:ByteArray
 num:Int
 til:Int
def Dd.row (x:Dd):List Value:=[.string x.id,.int .i64 x.num,.int .i64 x.til]
structure Ms where
 num:Int
 grp:ByteArray
 bod:ByteArray
 rcv:Int
 til:Int
def Ms.row (x:Ms):List Value:=[.int .i64 x.num,.string x.grp,.string x.bod,.int .i64 x.rcv,.int .i64 x.til]
theorem b3D (id:ByteArray)(B:Nat)(w:World)(hB:B<w.heap.size)(hcell:w.cell? ⟨B,0,none⟩=some (.string id)):
  PredBelow Tryz.prog 269 #[zp B] (fun x:Dd=>.agg x.row.toArray) (fun x=>x.id.toList == id.toList) w:=fun W x hb=>by
 have hc:=(hb.cell (p:=⟨B,0,none⟩) hB).trans hcell;have hBW:B<W.heap.size:=Nat.lt_of_lt_of_le hB hb.size
 show Cp 269 #[.agg #[.string x.id,.int .i64 x.num,.int .i64 x.til],zp B] W _
 go_enter Tryz.func269,Tryz.ntmps269
 go_wp2
 all_goals (go_ret;exact⟨by simp_all,hb.alloc hb.size _⟩)
theorem b4i (grp:ByteArray)(B:Nat)(w:World)(hB:B<w.heap.size)(hcell:w.cell? ⟨B,0,none⟩=some (.string grp)):
  PredBelow Tryz.prog 265 #[zp B] (fun x:Ms=>.agg x.row.toArray) (fun x=>x.grp.toList == grp.toList) w:=fun W x hb=>by
 have hc:=(hb.cell (p:=⟨B,0,none⟩) hB).trans hcell;have hBW:B<W.heap.size:=Nat.lt_of_lt_of_le hB hb.size
 show Cp 265 #[.agg #[.int .i64 x.num,.string x.grp,.string x.bod,.int .i64 x.rcv,.int .i64 x.til],zp B] W _
 go_enter Tryz.func265,Tryz.ntmps265
 go_wp2
 all_goals (go_ret;exact⟨by simp_all,hb.alloc hb.size _⟩)
theorem a1W (a:Option Addr)(c:Nat)(fv:Value)(w:World):zE 268 #[.slice a 0 c,fv] w (.int .i64 (-1)):=by
 go_enter Tryz.func268,Tryz.ntmps268
 go_wp2
 go_loopg [5,8] 0 (fun gg _ s8 wr=>s8=.int .i64 0/\wr=w)
 case atStart=>exact⟨rfl,rfl⟩
 case round=>
  obtain⟨rfl,rfl⟩:=hrel
  go_wp2
  go_ret;exact⟨rfl,rfl⟩
theorem a0f (a:Option Addr)(c:Nat)(fv:Value)(w:World):zE 264 #[.slice a 0 c,fv] w (.int .i64 (-1)):=by
 go_enter Tryz.func264,Tryz.ntmps264
 go_wp2
 go_loopg [5,8] 0 (fun gg _ s8 wr=>s8=.int .i64 0/\wr=w)
 case atStart=>exact⟨rfl,rfl⟩
 case round=>
  obtain⟨rfl,rfl⟩:=hrel
  go_wp2
  go_ret;exact⟨rfl,rfl⟩
theorem b8n:∀args w,(callFunc 269 args).run Tryz.prog w=.ok (.enter 269 args) w:=enters_of Tryz.func269 (by kernel_rfl) rfl
theorem b8k:∀args w,(callFunc 265 args).run Tryz.prog w=.ok (.enter 265 args) w:=enters_of Tryz.func265 (by kernel_rfl) rfl
end Go.Proofs.YtbdobaapadlcjaaGreatDoor
namespace Go.Proofs.YtbdobaapadlcjaaGreatDoor
open Go.RowKit
variable {w w' W:World}{qb size n gr:Nat}{C:Array Value}{t t':TypeId}{c r:Wp.Rq}{next:Int}{ms rs ds at_ v v':Value}{xs:List Value}{y:Sl}
theorem jb (h:w.heap[qb]?=some (.cells C t (0,0)))(j:Nat)(v:Value)(hj:C[j]?=some v):w.cell? ⟨qb,j,none⟩=some v:=(cell_of_row w qb j C t (0,0) h).trans hj
def a0V (w:World)(qb:Nat)(now:Int)(C:Array Value):World:=((w.alloc (.cells #[zp qb] 152)).alloc (.cells #[.int .i64 now] 3)).alloc (.cells C 27)
theorem a3r (w:World)(qb:Nat)(now:Int)(C:Array Value):Tch [] w (a0V w qb now C):=(((Tch.refl _ _).alloc _).alloc _).alloc _
theorem xB (w:World)(qb:Nat)(now:Int)(C:Array Value):(a0V w qb now C).heap.size=w.heap.size+3:=by simp[a0V]
theorem a7w (w:World)(qb:Nat)(now:Int)(C:Array Value):(a0V w qb now C).heap[w.heap.size]?=some (.cells #[zp qb] 152 (0,0)):=by
 unfold a0V;rw[Below.heap_alloc _ _ _ (by simp;omega),heap_alloc2_old]
theorem b2S (w:World)(qb:Nat)(now:Int)(C:Array Value):(a0V w qb now C).heap[w.heap.size+1]?=some (.cells #[.int .i64 now] 3 (0,0)):=by
 unfold a0V;rw[Below.heap_alloc _ _ _ (by simp),heap_alloc2_new]
theorem b2T (w:World)(qb:Nat)(now:Int)(C:Array Value):(a0V w qb now C).heap[w.heap.size+2]?=some (.cells C 27 (0,0)):=by
 unfold a0V;have h:=heap_alloc_new ((w.alloc (.cells #[zp qb] 152)).alloc (.cells #[.int .i64 now] 3)) (.cells C 27);simpa using h
theorem a0u:(Tryz.prog.info? 226).map (fun i=>(i.zero,i.size,i.bytes))=some (some (.agg #[.int .i64 0,.string ⟨#[]⟩,.string ⟨#[]⟩,.int .i64 0,.int .i64 0]),5,56):=by kernel_rfl
theorem a4K:(Tryz.prog.info? 230).map (fun i=>(i.zero,i.size,i.bytes))=some (some (.agg #[.string ⟨#[]⟩,.int .i64 0,.int .i64 0]),3,32):=by kernel_rfl
abbrev Qb (w:World)(qb:Nat)(c:Wp.Rq)(next:Int)(ms rs ds at_:Value):Prop:=w.heap[qb]?=some (.cells (qC c next ms rs ds at_) 191 (0,0))
theorem Qb.set6 (h:Qb w qb c next ms rs ds at_)(v:Int):Qb (w.setCell ⟨qb,6,none⟩ (.int .i64 v)) qb c v ms rs ds at_:=heap_setCell_same w qb 6 _ 191 _ h
theorem Qb.set7 (h:Qb w qb c next ms rs ds at_)(v:Value):Qb (w.setCell ⟨qb,7,none⟩ v) qb c next v rs ds at_:=heap_setCell_same w qb 7 _ 191 _ h
theorem Qb.set8 (h:Qb w qb c next ms rs ds at_)(v:Value):Qb (w.setCell ⟨qb,8,none⟩ v) qb c next ms v ds at_:=heap_setCell_same w qb 8 _ 191 _ h
theorem Qb.set9 (h:Qb w qb c next ms rs ds at_)(v:Value):Qb (w.setCell ⟨qb,9,none⟩ v) qb c next ms rs v at_:=heap_setCell_same w qb 9 _ 191 _ h
theorem Qb.set10 (h:Qb w qb c next ms rs ds at_)(v:Value):Qb (w.setCell ⟨qb,10,none⟩ v) qb c next ms rs ds v:=heap_setCell_same w qb 10 _ 191 _ h
theorem Qb.fz (h:Qb w qb c next ms rs ds at_)(j:Nat):w.frozen? ⟨qb,j,none⟩=false:=frozen_of_row w qb j _ 191 h
theorem Qb.lt (h:Qb w qb c next ms rs ds at_):qb<w.heap.size:=lt_of_block h
def bl (v:Value):List Nat:=v.ownBlock.toList
theorem jq {k:Nat}:k∈bl v↔v.ownBlock=some k:=by simp[bl,Option.mem_toList]
structure Rows (w:World)(nm nr nd:Nat)(ms rs ds:Value)(xm xr xd:List Value):Prop where
 m:w.ownsRow 0 226 5 ms nm xm
 r:w.ownsRow 0 9 1 rs nr xr
 d:w.ownsRow 0 230 3 ds nd xd
theorem qB (h:w.ownsRow 0 t size v (n+1) xs):∃g cap,v=.slice (some ⟨g,0,none⟩) (n+1) cap:=by
 rcases h.2 with ⟨_,h0⟩|⟨g,cap,cur,rfl,_⟩
 ·omega
 ·exact⟨g,cap,rfl⟩
theorem kK (h:w.grownBy w' v.ownBlock):Tch (bl v) w w':=(Tch.refl _ _).grown h (fun k hk _=>jq.2 hk)
def NewOr (w:World)(v v':Value):Prop:=∀j,v'.ownBlock=some j->v.ownBlock=some j\/w.heap.size<=j
theorem NewOr.refl (w:World)(v:Value):NewOr w v v:=fun _ h=>.inl h
theorem NewOr.of (hs:w.heap.size<=W.heap.size)(h:v'.ownBlock=v.ownBlock\/v'.ownBlock=some W.heap.size):NewOr w v v':=fun j hj=>by
 rcases h with h|h
 ·exact .inl (h.symm.trans hj)
 ·rw[hj]at h;injection h with h;exact .inr (by omega)
theorem NewOr.mono (hs:w.heap.size<=W.heap.size)(h:NewOr W v v'):NewOr w v v':=fun j hj=>by
 rcases h j hj with h|h
 ·exact .inl h
 ·exact .inr (by omega)
abbrev msV (k:Int)(g bd:ByteArray):List Value:=[.int .i64 k,.string g,.string bd,.int .i64 0,.int .i64 0]
abbrev ddV (id:ByteArray)(k til:Int):List Value:=[.string id,.int .i64 k,.int .i64 til]
theorem gr9 (h:w.heap[gr]?=some (.cells (ja r y.v) 27 (0,0))):w.cell? ⟨gr,9,none⟩=some (.string r.grp):=jb h 9 _ rfl
theorem b8D (h:w.heap[gr]?=some (.cells (ja r y.v) 27 (0,0))):w.cell? ⟨gr,11,none⟩=some (.string r.bod):=jb h 11 _ rfl
theorem a3X {size' n':Nat}{xs':List Value}(h:w.ownsRow 0 t size v n xs)(h':w.ownsRow 0 t' size' v' n' xs')(htt:t'≠t)(ht:Tch (bl v') w w'):w'.ownsRow 0 t size v n xs:=
 jf h ht (fun j hj hm'=>by
  have e:=jq.1 hm';rcases h.2 with ⟨rfl,_⟩|⟨g',cap',cur',rfl,_,hg',_⟩
  ·simp[Value.ownBlock]at hj
  ·simp only[Value.ownBlock,Option.some.injEq]at hj;subst hj;exact jA h' hg' htt e)
theorem a4V (h:w.ownsRow 0 t size v n xs){C:Array Value}{t':TypeId}(hq:w.heap[qb]?=some (.cells C t' (0,0)))(htt:t≠t'){w':World}(ht:Tch [qb] w w'):w'.ownsRow 0 t size v n xs:=
 jf h ht (fun j hj hm'=>by
  simp at hm';subst hm';exact jA h hq htt hj)
def Sf (w:World)(gq gi gn qb:Nat)(id:ByteArray)(now win k:Int):Prop:=w.cell? ⟨gq,0,none⟩=some (zp qb)/\w.cell? ⟨gi,0,none⟩=some (.string id)/\w.cell? ⟨gn,0,none⟩=some (.int .i64 now)/\w.cell? ⟨qb,3,none⟩=some (.int .i64 win)/\w.cell? ⟨qb,6,none⟩=some (.int .i64 k)/\w.frozen? ⟨qb,9,none⟩=false
end Go.Proofs.YtbdobaapadlcjaaGreatDoor
namespace Go.Proofs.YtbdobaapadlcjaaGreatDoor
open Go.Shelf Go.RowKit Go.Lib
def b1A:Go.Shelf.Ren:=⟨fun|6=>262|n=>n,fun|22=>189|23=>234|25=>297|3=>3|0=>0|4=>4|n=>n,fun|n=>n⟩
theorem b8J:Go.Proofs.SlLaysH0.n6 Tryz.prog b1A:={
 mixed:=by kernel_rfl
 f6:=⟨Tryz.f262.name,by decide,Tryz.func262.trans (congrArg some (by kernel_rfl))⟩
 t0:=Tryz.underlying0
 a0:=Tryz.isAgg0
 z0:=Tryz.sizeOf0
 v0:=Tryz.zeroValue0
 t3:=Tryz.underlying3
 a3:=Tryz.isAgg3
 z3:=Tryz.sizeOf3
 v3:=Tryz.zeroValue3
 t4:=Tryz.underlying4
 a4:=Tryz.isAgg4
 z4:=Tryz.sizeOf4
 v4:=Tryz.zeroValue4
 t22:=Tryz.underlying189
 a22:=Tryz.isAgg189
 z22:=Tryz.sizeOf189
 v22:=Tryz.zeroValue189
 t25:=Tryz.underlying297
 a25:=Tryz.isAgg297
 z25:=Tryz.sizeOf297
 v25:=Tryz.zeroValue297}
structure At where
 id:ByteArray
 til:Int
 ans:ByteArray
def At.row (x:At):List Value:=[.string x.id,.int .i64 x.til,.string x.ans]
def jj {α:Type}(p:α->Bool):List α->Int
 | []=>-1
 | x::l=>if p x=true then 0 else (if jj p l<0 then -1 else jj p l+1)
theorem xv {α:Type}(p:α->Bool)(l:List α):-1<=jj p l:=by
 induction l with
 | nil=>exact Int.le_refl _
 | cons x l ih=>simp only[jj];split<;>(try split)<;>omega
theorem a0t {α:Type}(p:α->Bool)(l:List α):jj p l<l.length:=by
 induction l with
 | nil=>simp[jj]
 | cons x l ih=>simp only[jj,List.length_cons];split<;>(try split)<;>omega
theorem a4H {α:Type}(p:α->Bool)(d:α)(l:List α)(i:Nat):Lib.idxByFrom (fun _ y=>p y) d l i=if jj p l<0 then -1 else jj p l+i:=by
 induction l generalizing i with
 | nil=>rfl
 | cons x l ih=>
  simp only[Lib.idxByFrom,jj]
  by_cases hx:p x=true
  ·simp[hx]
  ·simp only[hx,if_false,Bool.false_eq_true];rw[ih]
   by_cases h2:jj p l<0
   ·simp[h2]
   ·have h3:¬(jj p l+1<0):=by omega
    simp only[h2,h3,if_false];omega
theorem xH {α:Type}(p:α->Bool)(d:α)(l:List α):Lib.idxBy (fun _ y=>p y) l d=jj p l:=by
 have h1:=xv p l;rw[Lib.idxBy,a4H]
 split<;>omega
theorem qq {α:Type}(p:α->Bool)(l:List α):jj p l<0↔∀x∈l,p x=false:=by
 induction l with
 | nil=>simp[jj]
 | cons x l ih=>
  have h1:=xv p l;simp only[jj,List.mem_cons,forall_eq_or_imp]
  by_cases hx:p x=true
  ·simp[hx]
  ·have hx':p x=false:=by simpa using hx
   simp only[hx',Bool.false_eq_true,if_false,true_and,<-ih]
   split<;>omega
theorem zZ {α:Type}(row:α->List Value)(k:Nat)(hk:∀x,(row x).length=k)(l:List α)(j i:Nat)(hj:j<l.length)(hi:i<k):(l.flatMap row)[j*k+i]?=(row l[j])[i]?:=by
 induction l generalizing j with
 | nil=>simp at hj
 | cons x l ih=>
  rw[List.flatMap_cons]
  cases j with
  | zero=>
   rw[Nat.zero_mul,Nat.zero_add,List.getElem?_append_left (by rw[hk];exact hi)];rfl
  | succ j=>
   have e:(j+1)*k+i=(row x).length+(j*k+i):=by rw[hk,Nat.add_mul,Nat.one_mul];omega
   rw[e,List.getElem?_append_right (by omega),Nat.add_sub_cancel_left,ih j (by simpa using hj)];rfl
theorem qH {α:Type}(row:α->List Value)(k:Nat)(hk:∀x,(row x).length=k)(l:List α):(l.flatMap row).length=l.length*k:=by
 induction l with
 | nil=>simp
 | cons x l ih=>rw[List.flatMap_cons,List.length_append,ih,hk,List.length_cons,Nat.add_mul];omega
theorem jF {α:Type} [Inhabited α] (row:α->List Value)(k:Nat)(hk:∀x,(row x).length=k){w:World}{t:TypeId}{n c g:Nat}{l:List α}(h:w.ownsRow 0 t k (.slice (some ⟨g,0,none⟩) n c) l.length (l.flatMap row))(j:Nat)(hj:j<l.length)(i:Nat)(v:Value)(hv:(row l[j]!)[i]?=some v):w.cell? ⟨g,0+j*k+i,none⟩=some v:=by
 have hi:i<k:=by
  have:=(List.getElem?_eq_some_iff.1 hv).1;rw[hk]at this;exact this
 have e:l[j]! = l[j]:=by rw[List.getElem!_eq_getElem?_getD,List.getElem?_eq_getElem hj];rfl
 rw[e,<-zZ row k hk l j i hj hi]at hv;have h1:=World.ownsRow.cells h (g:=g) rfl (j*k+i) v hv;have e2:(⟨g,0,none⟩:Addr).add (j*k+i)=⟨g,0+j*k+i,none⟩:=by unfold Addr.add;split<;>simp_all
 rw[e2]at h1;exact h1
theorem b3t (id:ByteArray)(B:Nat)(w:World)(hB:B<w.heap.size)(hcell:w.cell? ⟨B,0,none⟩=some (.string id)):
  PredBelow Tryz.prog 263 #[zp B] (fun x:At=>.agg x.row.toArray) (fun x=>x.id.toList == id.toList) w:=fun W x hb=>by
 have hc:=(hb.cell (p:=⟨B,0,none⟩) hB).trans hcell;have hBW:B<W.heap.size:=Nat.lt_of_lt_of_le hB hb.size
 show Cp 263 #[.agg #[.string x.id,.int .i64 x.til,.string x.ans],zp B] W _
 go_enter Tryz.func263,Tryz.ntmps263
 go_wp2
 all_goals (go_ret;exact⟨by simp_all,hb.alloc hb.size _⟩)
theorem a2R (a:Option Addr)(c:Nat)(fv:Value)(w:World):zE 262 #[.slice a 0 c,fv] w (.int .i64 (-1)):=by
 go_enter Tryz.func262,Tryz.ntmps262
 go_wp2
 go_loopg [5,8] 0 (fun gg _ s8 wr=>s8=.int .i64 0/\wr=w)
 case atStart=>exact⟨rfl,rfl⟩
 case round=>
  obtain⟨rfl,rfl⟩:=hrel
  go_wp2
  go_ret;exact⟨rfl,rfl⟩
theorem b8r:∀args w,(callFunc 263 args).run Tryz.prog w=.ok (.enter 263 args) w:=enters_of Tryz.func263 (by kernel_rfl) rfl
abbrev isG (g:ByteArray)(x:Ms):Bool:=x.grp.toList == g.toList
abbrev isI (id:ByteArray)(x:Dd):Bool:=x.id.toList == id.toList
abbrev isA (id:ByteArray)(x:At):Bool:=x.id.toList == id.toList
theorem b6T (v:Value)(l:List Ms)(g:ByteArray)(B:Nat)(w:World)(ho:w.ownsRow 0 226 5 v l.length (l.flatMap Ms.row))(hl:l.length<=1000000)(hB:B<w.heap.size)(hcell:w.cell? ⟨B,0,none⟩=some (.string g)):
  zB 264 #[v,.func (.func 265) #[] #[zp B]] w (.int .i64 (jj (isG g) l)):=by
 have inh:Inhabited Ms:=⟨⟨0,⟨#[]⟩,⟨#[]⟩,0,0⟩⟩;rcases ho.2 with ⟨rfl,h0⟩|⟨gd,cap,cur,rfl,_,hg,_⟩
 ·have e0:l=[]:=List.length_eq_zero_iff.1 h0;subst e0;refine(a0f none 0 _ w).mono ?_;rintro e w' ⟨rfl,rfl⟩;exact⟨rfl,Below.refl _ _⟩
 ·have h:=AnyQ.slices_IndexFunc b6Z 5 Tryz.isAgg226 Tryz.sizeOf226 Ms.row (fun _=>rfl) (isG g) 265 #[zp B] b8k gd 0 l.length cap l w (b4i g B w hB hcell) (Nat.le_refl _) (by omega) (lt_of_block hg) (fun j hj i v hi=>jF Ms.row 5 (fun _=>rfl) ho j hj i v hi);rw[List.take_length,xH]at h;exact h
theorem b6S (v:Value)(l:List Dd)(id:ByteArray)(B:Nat)(w:World)(ho:w.ownsRow 0 230 3 v l.length (l.flatMap Dd.row))(hl:l.length<=1000000)(hB:B<w.heap.size)(hcell:w.cell? ⟨B,0,none⟩=some (.string id)):
  zB 268 #[v,.func (.func 269) #[] #[zp B]] w (.int .i64 (jj (isI id) l)):=by
 have inh:Inhabited Dd:=⟨⟨⟨#[]⟩,0,0⟩⟩;rcases ho.2 with ⟨rfl,h0⟩|⟨gd,cap,cur,rfl,_,hg,_⟩
 ·have e0:l=[]:=List.length_eq_zero_iff.1 h0;subst e0;refine(a1W none 0 _ w).mono ?_;rintro e w' ⟨rfl,rfl⟩;exact⟨rfl,Below.refl _ _⟩
 ·have h:=AnyQ.slices_IndexFunc b8I 3 Tryz.isAgg230 Tryz.sizeOf230 Dd.row (fun _=>rfl) (isI id) 269 #[zp B] b8n gd 0 l.length cap l w (b3D id B w hB hcell) (Nat.le_refl _) (by omega) (lt_of_block hg) (fun j hj i v hi=>jF Dd.row 3 (fun _=>rfl) ho j hj i v hi);rw[List.take_length,xH]at h;exact h
theorem b6R (v:Value)(l:List At)(id:ByteArray)(B:Nat)(w:World)(ho:w.ownsRow 0 234 3 v l.length (l.flatMap At.row))(hl:l.length<=1000000)(hB:B<w.heap.size)(hcell:w.cell? ⟨B,0,none⟩=some (.string id)):
  zB 262 #[v,.func (.func 263) #[] #[zp B]] w (.int .i64 (jj (isA id) l)):=by
 have inh:Inhabited At:=⟨⟨⟨#[]⟩,0,⟨#[]⟩⟩⟩;rcases ho.2 with ⟨rfl,h0⟩|⟨gd,cap,cur,rfl,_,hg,_⟩
 ·have e0:l=[]:=List.length_eq_zero_iff.1 h0;subst e0;refine(a2R none 0 _ w).mono ?_;rintro e w' ⟨rfl,rfl⟩;exact⟨rfl,Below.refl _ _⟩
 ·have h:=AnyQ.slices_IndexFunc b8J 3 Tryz.isAgg234 Tryz.sizeOf234 At.row (fun _=>rfl) (isA id) 263 #[zp B] b8r gd 0 l.length cap l w (b3t id B w hB hcell) (Nat.le_refl _) (by omega) (lt_of_block hg) (fun j hj i v hi=>jF At.row 3 (fun _=>rfl) ho j hj i v hi);rw[List.take_length,xH]at h;exact h
theorem a2P (g:ByteArray)(qb:Nat)(v:Value)(l:List Ms)(w:World)(c7:w.cell? ⟨qb,7,none⟩=some v)(ho:w.ownsRow 0 226 5 v l.length (l.flatMap Ms.row))(hl:l.length<=1000000):
  zB 210 #[zp qb,.string g] w (.int .i64 (jj (isG g) l)):=by
 have hlt:=World.block_lt_of_cell? _ _ c7;have HI:Hid (Cp 264 _ (w.alloc (.cells #[.string g] 9)) _):=b6T v l g w.heap.size (w.alloc (.cells #[.string g] 9)) (jf ho ((Tch.refl [] w).alloc _) (fun _ _=>by simp)) hl (by simp) (cell_of_one (heap_alloc_new _ _));clear ho;generalize jj (isG g) l=z at*
 go_enter Tryz.func210,Tryz.ntmps210;go_wp2_with (go_at_call 264;refine HI.out.mono ?_;rintro e w' ⟨rfl,hb⟩);go_ret;exact⟨rfl,((Below.refl _ _).alloc (Nat.le_refl _) _).trans (hb.mono (by simp))⟩
theorem xX (id:ByteArray)(qb:Nat)(v:Value)(l:List Dd)(w:World)(c9:w.cell? ⟨qb,9,none⟩=some v)(ho:w.ownsRow 0 230 3 v l.length (l.flatMap Dd.row))(hl:l.length<=1000000):
  zB 217 #[zp qb,.string id] w (.int .i64 (jj (isI id) l)):=by
 have hlt:=World.block_lt_of_cell? _ _ c9;have HI:Hid (Cp 268 _ (w.alloc (.cells #[.string id] 9)) _):=b6S v l id w.heap.size (w.alloc (.cells #[.string id] 9)) (jf ho ((Tch.refl [] w).alloc _) (fun _ _=>by simp)) hl (by simp) (cell_of_one (heap_alloc_new _ _));clear ho;generalize jj (isI id) l=z at*
 go_enter Tryz.func217,Tryz.ntmps217;go_wp2_with (go_at_call 268;refine HI.out.mono ?_;rintro e w' ⟨rfl,hb⟩);go_ret;exact⟨rfl,((Below.refl _ _).alloc (Nat.le_refl _) _).trans (hb.mono (by simp))⟩
theorem zN (id:ByteArray)(qb:Nat)(v:Value)(l:List At)(w:World)(c10:w.cell? ⟨qb,10,none⟩=some v)(ho:w.ownsRow 0 234 3 v l.length (l.flatMap At.row))(hl:l.length<=1000000):
  zB 209 #[zp qb,.string id] w (.int .i64 (jj (isA id) l)):=by
 have hlt:=World.block_lt_of_cell? _ _ c10;have HI:Hid (Cp 262 _ (w.alloc (.cells #[.string id] 9)) _):=b6R v l id w.heap.size (w.alloc (.cells #[.string id] 9)) (jf ho ((Tch.refl [] w).alloc _) (fun _ _=>by simp)) hl (by simp) (cell_of_one (heap_alloc_new _ _));clear ho;generalize jj (isA id) l=z at*
 go_enter Tryz.func209,Tryz.ntmps209;go_wp2_with (go_at_call 262;refine HI.out.mono ?_;rintro e w' ⟨rfl,hb⟩);go_ret;exact⟨rfl,((Below.refl _ _).alloc (Nat.le_refl _) _).trans (hb.mono (by simp))⟩
end Go.Proofs.YtbdobaapadlcjaaGreatDoor
