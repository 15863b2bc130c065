import Derived.Test.YtbdobaapadlcjabGreatDoorHy09
import Derived.Deep.DeepCutAuto
import Derived.Lib.ConvBytes
import Derived.Test.YtbdobaapadlcjabGreatDoorHy07
import Derived.Shelf.Slices.Cells
set_option maxRecDepth 8000
set_option maxHeartbeats 2000000
set_option linter.unusedVariables false
set_option linter.unusedSimpArgs false
namespace Go.Proofs.YtbdobaapadlcjabGreatDoor
open Go.RowKit
variable {w wr w':World}{qb cnt gc ga base kh ka B:Nat}{V:QV}{Q:QM}{CC:Array Value}{til:Int}{av:Value}{T:List TypeId}
def rbox (w:World)(qb:Nat)(C:Array Value):World:=(w.alloc (.cells #[.pointer (some ⟨qb,0,none⟩)] 88)).alloc (.cells C 24)
theorem rbox_tch (w:World)(qb:Nat)(C:Array Value):Tch [] w (rbox w qb C):=((Tch.refl _ _).alloc _).alloc _
theorem rbox_size (w:World)(qb:Nat)(C:Array Value):(rbox w qb C).heap.size=w.heap.size+2:=by simp[rbox]
theorem rbox_0 (w:World)(qb:Nat)(C:Array Value):(rbox w qb C).heap[w.heap.size]?=some (.cells #[.pointer (some ⟨qb,0,none⟩)] 88 (0,0)):=by
 unfold rbox;rw[heap_alloc2_old]
theorem rbox_1 (w:World)(qb:Nat)(C:Array Value):(rbox w qb C).heap[w.heap.size+1]?=some (.cells C 24 (0,0)):=by
 unfold rbox;rw[heap_alloc2_new]
def intRow (l:List Int)(n:Nat):Array Value:=(l.map (Value.int .i64)++List.replicate (n-l.length) (Value.int .i64 0)).toArray
theorem intRow_size (l:List Int)(n:Nat)(h:l.length<=n):(intRow l n).size=n:=by simp[intRow];omega
theorem intRow_set (l:List Int)(n:Nat)(x:Int)(h:l.length<n):(intRow l n).setIfInBounds l.length (.int .i64 x)=intRow (l++[x]) n:=by
 unfold intRow;apply Array.toList_inj.1;rw[Array.toList_setIfInBounds,List.toList_toArray,List.toList_toArray];obtain⟨m,hm⟩:∃m,n-l.length=m+1:=⟨n-l.length-1,by omega⟩;have hm':n-(l++[x]).length=m:=by rw[List.length_append,List.length_singleton];omega
 rw[hm,hm',List.replicate_succ,List.set_append_right _ _ (by simp),List.map_append];simp
theorem intRow_get (l:List Int)(n j:Nat)(h:j<l.length):(intRow l n)[j]?=some (.int .i64 l[j]):=by
 unfold intRow;rw[List.getElem?_toArray,List.getElem?_append_left (by simpa using h)];simp[h]
theorem info3:(Tryz.prog.info? 3).map (fun i=>(i.zero,i.size,i.bytes))=some (some (Value.int .i64 0),1,8):=by kernel_rfl
theorem make_ints (n:Nat)(hn:n<=1000)(W:World):(Instr.makeSlice 26 (.int .i64 (n:Int)) (.int .i64 (n:Int))).run Tryz.prog W=.ok (.slice (some ⟨W.heap.size,0,none⟩) n n) (W.alloc (.cells (intRow [] n) 3)):=by
 obtain⟨i0,hi,hz0,hz1,hz2⟩:=info_parts info3;have h:=run_make (P:=Tryz.prog) W 26 3 i0 (.int .i64 0) Tryz.underlying26 hi hz0 .i64 .i64 (n:Int) (n:Int) (by omega) (by omega) (by rw[hz2];omega) (by omega);have hm:madeCells (Value.int .i64 0).cells ((n:Int).toNat*i0.size)=intRow [] n:=by
  apply Array.toList_inj.1;rw[hz1,Nat.mul_one,Int.toNat_natCast]
  show (madeCells #[Value.int .i64 0] n).toList=_
  rw[toList_madeCells_one];simp[intRow]
 rw[hm]at h;simpa using h
theorem alloc4 (w:World)(A B C D:Obj):Tch [] w ((((w.alloc A).alloc B).alloc C).alloc D)/\((((w.alloc A).alloc B).alloc C).alloc D).heap.size=w.heap.size+4/\((((w.alloc A).alloc B).alloc C).alloc D).heap[w.heap.size]?=some A/\((((w.alloc A).alloc B).alloc C).alloc D).heap[w.heap.size+1]?=some B/\((((w.alloc A).alloc B).alloc C).alloc D).heap[w.heap.size+1+1]?=some C/\((((w.alloc A).alloc B).alloc C).alloc D).heap[w.heap.size+1+1+1]?=some D:=by
 refine⟨((((Tch.refl [] w).alloc _).alloc _).alloc _).alloc _,by simp,?_,?_,?_,?_⟩
 ·rw[Below.heap_alloc _ _ _ (by simp;omega),Below.heap_alloc _ _ _ (by simp;omega),heap_alloc2_old]
 ·rw[Below.heap_alloc _ _ _ (by simp),Below.heap_alloc _ _ _ (by simp),heap_alloc2_new]
 ·have h:=heap_alloc_new ((w.alloc A).alloc B) C;rw[World.size_alloc,World.size_alloc]at h;rw[Below.heap_alloc _ _ _ (by simp)];exact h
 ·have h:=heap_alloc_new (((w.alloc A).alloc B).alloc C) D;rw[World.size_alloc,World.size_alloc,World.size_alloc]at h;exact h
structure MsOk (m:Ms):Prop where
 num:0<=m.num/\m.num<4294967296
 rcv:0<=m.rcv/\m.rcv<=65535
 grp:m.grp.size<=255
 bod:m.bod.size<=255
def givM (Q:QM)(g:ByteArray):List UInt8:=match Q.ms[(idxL (isG g) Q.ms).toNat]? with
 | some m=>givB Q.c.q m.num.toNat m.rcv.toNat m.grp m.bod
 | none=>[]
def hdsL (Q:QM)(k:Nat):List Int:=(Q.rs.take k).map (fun g=>idxL (isG g) Q.ms)
def ansL (Q:QM)(cnt k:Nat):List UInt8:=lowB cnt 1++(Q.rs.take k).flatMap (givM Q)
theorem givB_len (q:UInt8)(num rcv:Nat)(g b:ByteArray):(givB q num rcv g b).length=10+g.size+b.size:=by
 simp[givB,hanB,lowB_length,txtB_length];omega
theorem givM_len (Q:QM)(g:ByteArray)(h:∀m∈Q.ms,MsOk m):(givM Q g).length<=520:=by
 unfold givM
 split
 ·rename_i m hm
  have h1:=h m (List.mem_of_getElem? hm);have h2:=h1.grp;have h3:=h1.bod;rw[givB_len];omega
 ·simp
theorem flat_le (Q:QM)(l:List ByteArray)(h:∀m∈Q.ms,MsOk m):(l.flatMap (givM Q)).length<=520*l.length:=by
 induction l with
 | nil=>simp
 | cons x l ih=>
  have:=givM_len Q x h;rw[List.flatMap_cons,List.length_append,List.length_cons];omega
theorem ansL_len (Q:QM)(cnt k:Nat)(h:∀m∈Q.ms,MsOk m):(ansL Q cnt k).length<=1+520*k:=by
 have h1:=flat_le Q (Q.rs.take k) h;have h2:(Q.rs.take k).length<=k:=by simp;omega
 unfold ansL;rw[List.length_append,lowB_length];have:520*(Q.rs.take k).length<=520*k:=Nat.mul_le_mul_left _ h2;omega
structure RcI (w wr:World)(qb:Nat)(V:QV)(Q:QM)(CC:Array Value)(cnt gc ga base:Nat)(til:Int)(kh ka:Nat)(av:Value):Prop where
 hgq:wr.heap[w.heap.size]?=some (.cells #[.pointer (some ⟨qb,0,none⟩)] 88 (0,0))
 hgr:wr.heap[w.heap.size+1]?=some (.cells CC 24 (0,0))
 hgc:wr.heap[gc]?=some (.cells #[.int .i64 (cnt:Int)] 3 (0,0))
 hga:wr.heap[ga]?=some (.cells #[av] 54 (0,0))
 hgu:wr.heap[ga+1]?=some (.cells #[.int .i64 til] 3 (0,0))
 hhb:wr.heap[ga+1+1]?=some (.cells (intRow (hdsL Q kh) cnt) 3 (0,0))
 hgh:wr.heap[ga+1+1+1]?=some (.cells #[.slice (some ⟨ga+1+1,0,none⟩) cnt cnt] 26 (0,0))
 own:OwnB wr base av (ansL Q cnt ka)
 tch:Tch [] w wr
 qr:QR wr qb V Q
theorem RcI.tch0 {w5:World}(h:RcI w wr qb V Q CC cnt gc ga base til kh ka av)(t5:Tch [] wr w5):RcI w w5 qb V Q CC cnt gc ga base til kh ka av:=
 ⟨(t5.block _ (lt_of_block h.hgq) (by simp)).trans h.hgq,(t5.block _ (lt_of_block h.hgr) (by simp)).trans h.hgr,(t5.block _ (lt_of_block h.hgc) (by simp)).trans h.hgc,(t5.block _ (lt_of_block h.hga) (by simp)).trans h.hga,(t5.block _ (lt_of_block h.hgu) (by simp)).trans h.hgu,(t5.block _ (lt_of_block h.hhb) (by simp)).trans h.hhb,(t5.block _ (lt_of_block h.hgh) (by simp)).trans h.hgh,own_tch h.own t5 (fun _ _=>by simp),h.tch.trans t5 (by simp),h.qr.tch t5 (by simp)⟩
theorem RcI.heads {kh':Nat}(h:RcI w wr qb V Q CC cnt gc ga base til kh ka av)(hd:w.heap.size+2<=gc/\gc<ga)(hq0:∀b∈qbl qb V,b<w.heap.size)(k:Nat)(x:Int)(hset:(intRow (hdsL Q kh) cnt).setIfInBounds k (.int .i64 x)=intRow (hdsL Q kh') cnt):
  RcI w (wr.setCell ⟨ga+1+1,k,none⟩ (.int .i64 x)) qb V Q CC cnt gc ga base til kh' ka av:=by
 have t1:Tch [ga+1+1] wr (wr.setCell ⟨ga+1+1,k,none⟩ (.int .i64 x)):=(Tch.refl _ _).setCell (fun _=>by simp) _;have kp:∀(b:Nat) (o:Obj),wr.heap[b]?=some o->b≠ga+1+1->(wr.setCell ⟨ga+1+1,k,none⟩ (.int .i64 x)).heap[b]?=some o:=fun b o hb hne=>(heap_setCell_other _ _ _ _ (show b≠ga+1+1 from hne)).trans hb
 refine⟨kp _ _ h.hgq (by omega),kp _ _ h.hgr (by omega),kp _ _ h.hgc (by omega),kp _ _ h.hga (by omega),kp _ _ h.hgu (by omega),?_,kp _ _ h.hgh (by omega),own_tch h.own t1 (fun b hb hm=>?_),h.tch.setCell (fun hlt=>?_) _,h.qr.tch t1 (fun b hb hm=>?_)⟩
 ·rw[<-hset];exact heap_setCell_same wr (ga+1+1) k _ 3 _ h.hhb
 ·simp at hm;subst hm;exact own_ne h.own h.hhb (by decide) hb
 ·have hlt':ga+1+1<w.heap.size:=hlt;omega
 ·have:=hq0 b hb;simp at hm;omega
theorem RcI.told {w7:World}{ka':Nat}{v7:Value}(h:RcI w wr qb V Q CC cnt gc ga base til kh ka av)(hd:w.heap.size+2<=gc/\gc<ga)(hq0:∀b∈qbl qb V,b<w.heap.size)(hb:w.heap.size<=base)(hb7:Below base wr w7)(hf7:Fr 0 [5] wr w7)(ho7:OwnB w7 base v7 (ansL Q cnt ka')):
  RcI w (w7.setCell ⟨ga,0,none⟩ v7) qb V Q CC cnt gc ga base til kh ka' v7:=by
 have t1:Tch [ga] w7 (w7.setCell ⟨ga,0,none⟩ v7):=(Tch.refl _ _).setCell (fun _=>by simp) _;have hga7:=hf7.keep _ _ _ h.hga (by decide);have kp:∀(b:Nat) (C:Array Value) (t:TypeId),wr.heap[b]?=some (.cells C t (0,0))->t∉[5]->b≠ga->(w7.setCell ⟨ga,0,none⟩ v7).heap[b]?=some (.cells C t (0,0)):=fun b C t hb ht hne=>(heap_setCell_other _ _ _ _ (show b≠ga from hne)).trans (hf7.keep b C t hb ht)
 refine⟨kp _ _ _ h.hgq (by decide) (by omega),kp _ _ _ h.hgr (by decide) (by omega),kp _ _ _ h.hgc (by decide) (by omega),?_,kp _ _ _ h.hgu (by decide) (by omega),kp _ _ _ h.hhb (by decide) (by omega),kp _ _ _ h.hgh (by decide) (by omega),own_tch ho7 t1 (fun b hb' hm=>?_),?_,?_⟩
 ·exact heap_setCell_same w7 ga 0 _ 54 _ hga7
 ·simp at hm;subst hm;exact own_ne ho7 hga7 (by decide) hb'
 ·have t0:Tch [] w w7:=⟨hb7.os.trans h.tch.os,hb7.tape.trans h.tch.tape,hb7.output.trans h.tch.output,Nat.le_trans h.tch.size hb7.size,fun k hk _=>(hb7.block k (by omega)).trans (h.tch.block k hk (by simp))⟩
  exact t0.setCell (fun hlt=>by have hlt':ga<w.heap.size:=hlt;omega) _
 ·exact(h.qr.keep hf7 (by decide)).tch t1 (fun b hb hm=>by
   have:=hq0 b hb;simp at hm;omega)
theorem receive_some (Q:QM)(V:QV)(r:Wp.Rq)(y:Sl)(qb:Nat)(now:Int)(w:World)(h:QR w qb V Q)(hna:Q.ats.length<=1000)(hnr:Q.rs.length<=1000)(hid:idxL (isA r.att) Q.ats<0)(mx cnt:Nat)(hmx:r.mx=(mx:Nat))(hm1:1<=mx/\mx<=10)(hcnt:cnt=if mx<=Q.rs.length then mx else Q.rs.length)(hnow:0<=now/\now<=60000)(hvis:0<=Q.c.vis/\Q.c.vis<=1001)(hnm:Q.ms.length<=1000)(hrd:∀g∈Q.rs,0<=idxL (isG g) Q.ms)(hms:∀m∈Q.ms,MsOk m):
  Calls Tryz.prog 123 #[.pointer (some ⟨qb,0,none⟩),.int .i64 now,.agg (cellsOf r y.v)] w fun e w'=>∃gc ga base av,
   (cnt=0/\e=.returned (.tuple #[av,.nilFunc,.int .i64 0])/\OwnB w' base av (ansL Q cnt cnt)/\Tch [] w w')\/
   (0<cnt/\e=.returned (.tuple #[av,.func (.func 165) #[] #[.pointer (some ⟨ga+1+1+1,0,none⟩),.pointer (some ⟨w.heap.size,0,none⟩),.pointer (some ⟨ga+1,0,none⟩),.pointer (some ⟨gc,0,none⟩),.pointer (some ⟨w.heap.size+1,0,none⟩),.pointer (some ⟨ga,0,none⟩)],.int .i64 0])/\
    RcI w w' qb V Q (cellsOf r y.v) cnt gc ga base (now+Q.c.vis) cnt cnt av/\w.heap.size+2<=gc/\gc<ga/\w.heap.size<=base):=by
 have hge:=idxL_ge (isA r.att) Q.ats;have HII:Hid (idxL (isA r.att) Q.ats=-1):=by show _=_;omega
 have HQ:=zH h;have HQ0:=zH h.lt;obtain⟨ar,cr,hvr⟩:∃a c,V.r=.slice a Q.rs.length c:=by
  rcases h.r.2 with ⟨h0,h1⟩|⟨g,cap,cur,h0,_⟩
  ·exact⟨none,0,by rw[h0,h1]⟩
  ·exact⟨_,_,h0⟩
 rw[zM r y];generalize hCC:(#[.int .u8 (r.op.toNat:Int),.int .u8 (r.q.toNat:Int),.int .u8 (r.d.toNat:Int),.int .i64 r.vis,.int .i64 r.win,.int .i64 r.rcv,.int .i64 r.quo,.int .i64 r.mx,.int .i64 r.tic,.string r.grp,.string r.ded,.string r.bod,.string r.att,.string r.han,.slice y.a y.n y.c]:Array Value)=CC;have HA:Hid (zB 162 #[.pointer (some ⟨qb,0,none⟩),.string r.att] (rbox w qb CC) (.int .i64 (-1))):=by
  have h1:=h.tch (rbox_tch w qb CC) (by simp);have h2:=findAttempt_gen r.att qb V.a Q.ats (rbox w qb CC) (cell_qC h1.blk 10 _ rfl) h1.a (by omega);rw[HII.out]at h2;exact h2
 have HW0:=zH (rbox_0 w qb CC);have HW1:=zH (rbox_1 w qb CC);have HWT:=zH (rbox_tch w qb CC);have HWZ:=zH (rbox_size w qb CC);have ca:CC[12]?=some (.string r.att):=by rw[<-hCC];rfl
 have cm:CC[7]?=some (.int .i64 (mx:Nat)):=by rw[<-hCC,<-hmx];rfl
 clear hCC;have zz:=HWZ.out;generalize hwb:rbox w qb CC=wb at*
 clear h;go_enter Tryz.func123,Tryz.ntmps123;go_wp2_with fail;rw[show (w.alloc (.cells #[.pointer (some ⟨qb,0,none⟩)] 88)).alloc (.cells CC 24)=wb from hwb]
 refine HA.out.mono ?_;rintro e w1 ⟨rfl,hb1⟩;have t1:=HWT.out.trans (Tch.of_below hb1) (by simp);have z1:w.heap.size+2<=w1.heap.size:=by have:=hb1.size;omega
 have hq1:=HQ.out.tch t1 (by simp);have B0:=(hb1.block _ (by omega)).trans HW0.out;have B1:=(hb1.block _ (by omega)).trans HW1.out;have a0:w1.cell? ⟨w.heap.size,0,none⟩=some (.pointer (some ⟨qb,0,none⟩)):=cell_qC B0 0 _ rfl;have a1:w1.cell? ⟨w.heap.size+1,7,none⟩=some (.int .i64 (mx:Nat)):=cell_qC B1 7 _ cm;have a2:w1.cell? ⟨qb,8,none⟩=some (.slice ar Q.rs.length cr):=by rw[<-hvr];exact cell_qC hq1.blk 8 _ rfl
 have HB0:Hid (w1.heap[w.heap.size]?=some (.cells #[.pointer (some ⟨qb,0,none⟩)] 88 (0,0))/\w1.heap[w.heap.size+1]?=some (.cells CC 24 (0,0))):=⟨B0,B1⟩;have HQ1:=zH hq1;have HT1:=zH t1;clear hb1 hwb t1 hq1 B0 B1 HA HW0 HW1 HWT HWZ zz;go_wp2_with fail;have hmin:min (mx:Int) (Q.rs.length:Int)=(cnt:Int):=by rw[hcnt];split<;>omega
 have hcl:cnt<=mx/\cnt<=Q.rs.length:=by rw[hcnt];split<;>omega
 clear hcnt
 go_cut [10] (fun s10 wx=>s10=.pointer (some ⟨w1.heap.size,0,none⟩)/\Tch [] w1 wx/\wx.heap.size=w1.heap.size+1/\wx.heap[w1.heap.size]?=some (.cells #[.int .i64 (cnt:Int)] 3 (0,0)))
 case first=>
  go_region_held3 (fun w'=>w'.cell? ⟨w.heap.size,0,none⟩=some (.pointer (some ⟨qb,0,none⟩))/\w'.cell? ⟨w.heap.size+1,7,none⟩=some (.int .i64 (mx:Nat))/\w'.cell? ⟨qb,8,none⟩=some (.slice ar Q.rs.length cr)) (go_keep) (fail)
  all_goals (go_wp2_with fail;go_meet)
  all_goals exact⟨rfl,((Tch.refl [] w1).alloc _).drew,by show (w1.alloc _).heap.size=_;simp,heap_alloc_new _ _⟩
 case rest=>
  obtain⟨rfl,ht2,hz2,hc2⟩:=hcut;generalize wc=w2 at*
  have T2:=zH (HT1.out.trans ht2 (by simp));have HC2:=zH hc2;have HB2:Hid (w2.heap[w.heap.size]?=some (.cells #[.pointer (some ⟨qb,0,none⟩)] 88 (0,0))/\w2.heap[w.heap.size+1]?=some (.cells CC 24 (0,0))):=⟨(ht2.block _ (by omega) (by simp)).trans HB0.out.1,(ht2.block _ (by omega) (by simp)).trans HB0.out.2⟩;have HA1:Hid (Calls Tryz.prog 46 #[.slice none 0 0,.int .i64 (cnt:Int),.int .i64 1] w2 fun e w'=>∃v',e=.returned v'/\OwnB w' w2.heap.size v' ([]++lowB cnt 1)/\Below w2.heap.size w2 w'/\Fr 0 [5] w2 w'):=appendNumber_f w2.heap.size _ [] cnt 1 w2 (by omega) (by decide) (by decide) (Nat.le_refl _) (World.ownsRow_nil _ _ _ _);have c2:=cell_of_one hc2;have l2:=lt_of_block hc2;have HQ2:=zH (HQ1.out.tch ht2 (by simp));clear ht2 hc2 a0 a1 a2;go_wp2_with fail;refine HA1.out.mono ?_;rintro e w3 ⟨v3,rfl,ho3,hb3,hf3⟩;have z3:=hb3.size;have T3:=zH (T2.out.trans (Tch.of_below hb3) (by simp));have HC3:Hid (w3.heap[w1.heap.size]?=some (.cells #[.int .i64 (cnt:Int)] 3 (0,0))/\w3.heap[w.heap.size]?=some (.cells #[.pointer (some ⟨qb,0,none⟩)] 88 (0,0))/\w3.heap[w.heap.size+1]?=some (.cells CC 24 (0,0))):=⟨(hb3.block _ l2).trans HC2.out,(hb3.block _ (by omega)).trans HB2.out.1,(hb3.block _ (by omega)).trans HB2.out.2⟩;have HO3:=zH ho3;have c3:=cell_of_one HC3.out.1;have l3:=lt_of_block HC3.out.1;have HQ3:=zH (HQ2.out.tch (Tch.of_below hb3) (by simp));obtain⟨g3,cap3,hv3⟩:∃g cap,v3=.slice (some ⟨g,0,none⟩) 1 cap:=by
   obtain⟨g,cap,e⟩:=OwnB.slc ho3 (by simp[lowB_length]);exact⟨g,cap,by simpa [lowB_length]using e⟩
  subst hv3;clear ho3 hb3 hf3 c2
  by_cases hc0:cnt=0
  ·have hcb:((cnt:Int) == 0)=true:=by simp[hc0]
   go_wp2_with fail;go_ret3;refine⟨0,0,w2.heap.size,_,.inl ⟨hc0,rfl,?_,?_⟩⟩
   ·have h:=own_tch HO3.out ((Tch.refl [] w3).alloc (.cells #[.slice (some ⟨g3,0,none⟩) 1 cap3] 54)) (fun _ _=>by simp);have e:ansL Q cnt cnt=lowB cnt 1:=by rw[hc0];simp[ansL]
    rw[e];exact h
   ·exact T3.out.alloc _
  ·have hcb:((cnt:Int) == 0)=false:=by simp;omega
   have hmk:=make_ints cnt (by omega);have hwr:IntKind.i64.wrap (now+Q.c.vis)=now+Q.c.vis:=by rw[IntKind.wrap_i64];omega
   obtain⟨gr0,hgr0,hcr⟩:∃g,ar=some ⟨g,0,none⟩/\Q.rs.length<=cr:=by
    rcases HQ.out.r.2 with ⟨h0,h1⟩|⟨g,cap,cur,h0,_,_,hnc,_⟩
    ·omega
    ·rw[hvr]at h0;simp at h0;exact⟨g,h0.1,by omega⟩
   subst hgr0;have d0:w3.cell? ⟨w.heap.size,0,none⟩=some (.pointer (some ⟨qb,0,none⟩)):=cell_of_one HC3.out.2.1;have d2:w3.cell? ⟨qb,2,none⟩=some (.int .i64 Q.c.vis):=cell_qC HQ3.out.blk 2 _ rfl;have l4:=lt_of_block HC3.out.2.1;have l5:=HQ3.out.blk.lt;go_wp2_with fail;obtain⟨p1,p2,p3,p4,p5,p6⟩:=alloc4 w3 (.cells #[.slice (some ⟨g3,0,none⟩) 1 cap3] 54) (.cells #[.int .i64 (now+Q.c.vis)] 3) (.cells (intRow [] cnt) 3) (.cells #[.slice (some ⟨w3.heap.size+1+1,0,none⟩) cnt cnt] 26);generalize ((((w3.alloc (.cells #[.slice (some ⟨g3,0,none⟩) 1 cap3] 54)).alloc (.cells #[.int .i64 (now+Q.c.vis)] 3)).alloc (.cells (intRow [] cnt) 3)).alloc (.cells #[.slice (some ⟨w3.heap.size+1+1,0,none⟩) cnt cnt] 26))=w4 at*
   have HI:Hid (RcI w w4 qb V Q CC cnt w1.heap.size w3.heap.size w2.heap.size (now+Q.c.vis) 0 0 (.slice (some ⟨g3,0,none⟩) 1 cap3)):=⟨(p1.block _ (by omega) (by simp)).trans HC3.out.2.1,(p1.block _ (by omega) (by simp)).trans HC3.out.2.2,(p1.block _ l3 (by simp)).trans HC3.out.1,p3,p4,p5,p6,by
    have h:=own_tch HO3.out p1 (fun _ _=>by simp);simpa [ansL,OwnB]using h,T3.out.trans p1 (by simp),HQ3.out.tch p1 (by simp)⟩
   have e0:w4.cell? ⟨w.heap.size,0,none⟩=some (.pointer (some ⟨qb,0,none⟩)):=cell_of_one HI.out.hgq;have e8:w4.cell? ⟨qb,8,none⟩=some (.slice (some ⟨gr0,0,none⟩) Q.rs.length cr):=by rw[<-hvr];exact cell_qC HI.out.qr.blk 8 _ rfl
   have ec:w4.cell? ⟨w1.heap.size,0,none⟩=some (.int .i64 (cnt:Int)):=cell_of_one HI.out.hgc;have HZ4:Hid (w3.heap.size+4=w4.heap.size/\w2.heap.size<=w3.heap.size/\w1.heap.size+1<=w2.heap.size/\w.heap.size+2<=w1.heap.size):=⟨p2.symm,z3,by omega,z1⟩;clear p1 p2 p3 p4 p5 p6 d0 d2 c3 l2 l3 l4 l5;go_quiet (fail);go_wp2_with fail
   go_loopw [60] (fun v wr=>∃k av,k<=cnt/\v=.int .i64 (k:Int)/\RcI w wr qb V Q CC cnt w1.heap.size w3.heap.size w2.heap.size (now+Q.c.vis) k k av) (fun v _=>cnt-(intOf v).toNat)
   case atStart=>
    have h:=HI.out;have td:Tch [] w4 (w4.drewN nq):=(Tch.refl [] w4).drewN nq;exact⟨0,_,Nat.zero_le _,rfl,h.hgq,h.hgr,h.hgc,h.hga,h.hgu,h.hhb,h.hgh,own_tch h.own td (fun _ _=>by simp),h.tch.drewN nq,h.qr.tch td (by simp)⟩
   case round=>
    obtain⟨k,av,hk,rfl,hI⟩:=hrel;have HIR:=zH hI
    by_cases hlt:k<cnt
    ·have hkl:k<Q.rs.length:=by omega
     have ck:wr.cell? ⟨gr0,k,none⟩=some (.string Q.rs[k]):=by
      have h0:=hI.qr.r;rw[hvr]at h0;have h1:=World.ownsRow.cells h0 (g:=gr0) rfl k (.string Q.rs[k]) (by simp[hkl]);have e2:(⟨gr0,0,none⟩:Addr).add k=⟨gr0,k,none⟩:=by unfold Addr.add;split<;>simp_all
      rw[e2]at h1;exact h1
     have hmem:Q.rs[k]∈Q.rs:=List.getElem_mem _;have HRD:Hid (0<=idxL (isG Q.rs[k]) Q.ms):=hrd _ hmem;have HH:Hid (Calls Tryz.prog 163 #[.pointer (some ⟨qb,0,none⟩),.string Q.rs[k]] wr.drew fun e w'=>e=.returned (.int .i64 (idxL (isG Q.rs[k]) Q.ms))/\Below wr.heap.size wr w'):=by
      have h0:QR wr.drew qb V Q:=hI.qr.tch (Tch.refl [] wr).drew (by simp);refine(head_gen Q.rs[k] qb V.m Q.ms wr.drew (cell_qC h0.blk 7 _ rfl) h0.m (by omega)).mono ?_;rintro e w' ⟨rfl,hb'⟩;exact⟨rfl,(below_drewN (Below.refl _ wr) 1).trans hb'⟩
     have cq:wr.cell? ⟨w.heap.size,0,none⟩=some (.pointer (some ⟨qb,0,none⟩)):=cell_of_one hI.hgq;have ch:wr.cell? ⟨w3.heap.size+1+1+1,0,none⟩=some (.slice (some ⟨w3.heap.size+1+1,0,none⟩) cnt cnt):=cell_of_one hI.hgh;have hsz:(hdsL Q k).length=k:=by simp[hdsL];omega
     have hf0:wr.frozen? ⟨w3.heap.size+1+1,k,none⟩=false:=frozen_of_row _ _ _ _ 3 hI.hhb;obtain⟨ov,hov⟩:∃ov,wr.cell? ⟨w3.heap.size+1+1,k,none⟩=some ov:=by
      have h1:=cell_of_row wr (w3.heap.size+1+1) k _ 3 (0,0) hI.hhb;have h2:k<(intRow (hdsL Q k) cnt).size:=by rw[intRow_size _ _ (by omega)];exact hlt
      exact⟨_,h1.trans (Array.getElem?_eq_getElem h2)⟩
     have lb1:=lt_of_block hI.hgq;have lb2:=lt_of_block hI.hgh;have lb3:=lt_of_block hI.hhb;have hset:Hid ((intRow (hdsL Q k) cnt).setIfInBounds k (.int .i64 (idxL (isG Q.rs[k]) Q.ms))=intRow (hdsL Q (k+1)) cnt):=by
      show _=_
      have h1:=intRow_set (hdsL Q k) cnt (idxL (isG Q.rs[k]) Q.ms) (by omega);rw[hsz]at h1;rw[h1];have e1:hdsL Q (k+1)=hdsL Q k++[idxL (isG Q.rs[k]) Q.ms]:=by
       rw[hdsL,hdsL,List.take_succ_eq_append_getElem hkl,List.map_append];rfl
      rw[e1]
     have hne2:w3.heap.size+1+1≠w.heap.size:=by have:=HZ4.out;omega
     clear hI;go_wp2_with fail
     go_cut [] (fun wx=>RcI w wx qb V Q CC cnt w1.heap.size w3.heap.size w2.heap.size (now+Q.c.vis) (k+1) k av)
     case first=>
      go_region_held3 (fun w'=>w'.cell? ⟨w.heap.size,0,none⟩=some (.pointer (some ⟨qb,0,none⟩))/\w'.cell? ⟨w3.heap.size+1+1+1,0,none⟩=some (.slice (some ⟨w3.heap.size+1+1,0,none⟩) cnt cnt)/\w'.frozen? ⟨w3.heap.size+1+1,k,none⟩=false) (go_keep) (first|(go_at_call 163;refine HH.out.mono ?_;rintro e w5 ⟨rfl,hb5⟩;have m0:=(hb5.cell (p:=⟨w.heap.size,0,none⟩) lb1).trans cq;have m1:=(hb5.cell (p:=⟨w3.heap.size+1+1+1,0,none⟩) lb2).trans ch;have m2:w5.frozen? ⟨w3.heap.size+1+1,k,none⟩=false:=frozen_of_row _ _ _ _ 3 ((hb5.block _ lb3).trans HIR.out.hhb);have m3:=(hb5.cell (p:=⟨w3.heap.size+1+1,k,none⟩) lb3).trans hov))
      all_goals (go_wp2_with fail;go_meet)
      all_goals exact(HIR.out.tch0 (Tch.of_below hb5)).heads (by have:=HZ4.out;omega) HQ0.out k _ hset.out
     case rest=>
      have HJ:=zH hcut;have hzl:=idxL_lt (isG Q.rs[k]) Q.ms;have hz0:=HRD.out;obtain⟨i,hi⟩:∃i:Nat,idxL (isG Q.rs[k]) Q.ms=(i:Int):=⟨_,(Int.toNat_of_nonneg hz0).symm⟩;have hil:i<Q.ms.length:=by omega
      obtain⟨m,hm⟩:∃m,Q.ms[i]?=some m:=⟨_,List.getElem?_eq_getElem hil⟩;have hmk:=hms m (List.mem_of_getElem? hm);obtain⟨num,hnum⟩:∃n:Nat,m.num=(n:Int):=⟨_,(Int.toNat_of_nonneg hmk.num.1).symm⟩;obtain⟨rcv,hrcv⟩:∃n:Nat,m.rcv=(n:Int):=⟨_,(Int.toNat_of_nonneg hmk.rcv.1).symm⟩;have hgm:givM Q Q.rs[k]=givB Q.c.q num rcv m.grp m.bod:=by
       unfold givM;rw[hi,Int.toNat_natCast,hm];simp[hnum,hrcv]
      have hans:Hid (ansL Q cnt (k+1)=ansL Q cnt k++givB Q.c.q num rcv m.grp m.bod):=by
       show _=_
       rw[ansL,ansL,List.take_succ_eq_append_getElem hkl,List.flatMap_append,<-hgm];simp
      obtain⟨gm,cm,hvm⟩:∃g c,V.m=.slice (some ⟨g,0,none⟩) Q.ms.length c:=by
       rcases hcut.qr.m.2 with ⟨h0,h1⟩|⟨g,cap,cur,h0,_⟩
       ·omega
       ·exact⟨g,cap,h0⟩
      have fm:∀j v,m.row[j]?=some v->wc.cell? ⟨gm,i*5+j,none⟩=some v:=fun j v hj=>by
       have h0:=hcut.qr.m;rw[hvm]at h0;have inh:Inhabited Ms:=⟨⟨0,⟨#[]⟩,⟨#[]⟩,0,0⟩⟩;have h1:=own_cells Ms.row 5 (fun _=>rfl) h0 i hil j v (by
        rw[List.getElem!_eq_getElem?_getD,hm];exact hj)
       simpa using h1
      have g0:wc.cell? ⟨gm,i*5,none⟩=some (.int .i64 (num:Int)):=by have:=fm 0 _ rfl;rw[hnum]at this;exact this
      have g1:wc.cell? ⟨gm,i*5+1,none⟩=some (.string m.grp):=fm 1 _ rfl;have g2:wc.cell? ⟨gm,i*5+2,none⟩=some (.string m.bod):=fm 2 _ rfl;have g3':wc.cell? ⟨gm,i*5+3,none⟩=some (.int .i64 (rcv:Int)):=by have:=fm 3 _ rfl;rw[hrcv]at this;exact this
      have g4:wc.cell? ⟨gm,i*5+4,none⟩=some (.int .i64 m.til):=fm 4 _ rfl;have f0:wc.cell? ⟨w.heap.size,0,none⟩=some (.pointer (some ⟨qb,0,none⟩)):=cell_of_one hcut.hgq;have f7:wc.cell? ⟨qb,7,none⟩=some (.slice (some ⟨gm,0,none⟩) Q.ms.length cm):=by rw[<-hvm];exact cell_qC hcut.qr.blk 7 _ rfl
      have fh:wc.cell? ⟨w3.heap.size+1+1+1,0,none⟩=some (.slice (some ⟨w3.heap.size+1+1,0,none⟩) cnt cnt):=cell_of_one hcut.hgh;have fk:wc.cell? ⟨w3.heap.size+1+1,k,none⟩=some (.int .i64 (i:Int)):=by
       refine cell_qC hcut.hhb k _ ?_;have hs1:(hdsL Q (k+1)).length=k+1:=by simp[hdsL];omega
       rw[intRow_get _ _ k (by omega)];simp[hdsL,hi]
      have fa:wc.cell? ⟨w3.heap.size,0,none⟩=some av:=cell_of_one hcut.hga;have hal:=ansL_len Q cnt k hms;have HG:Hid (Calls Tryz.prog 164 #[.pointer (some ⟨qb,0,none⟩),av,.agg #[.int .i64 (num:Int),.string m.grp,.string m.bod,.int .i64 (rcv:Int),.int .i64 m.til]] wc.drew fun e w'=>∃g7 n7 c7,e=.returned (.slice (some ⟨g7,0,none⟩) n7 c7)/\OwnB w' w2.heap.size (.slice (some ⟨g7,0,none⟩) n7 c7) (ansL Q cnt (k+1))/\Below w2.heap.size wc w'/\Fr 0 [5] wc w'):=by
       rw[hans.out];refine(appendGiven_any w2.heap.size av (ansL Q cnt k) Q.c.q num rcv qb m.til m.grp m.bod _ wc.drew hcut.qr.blk rfl (by have:=hmk.num;omega) (by have:=hmk.rcv;omega) hmk.grp hmk.bod (by omega) (by have h1:=HZ4.out;have h2:=lt_of_block hcut.hgh;show w2.heap.size<=wc.heap.size;omega) hcut.own).mono ?_;rintro e w' ⟨v',rfl,h1,h2,h3⟩;obtain⟨g7,c7,e7⟩:=OwnB.slc h1 (by rw[List.length_append,givB_len];omega);subst e7;exact⟨g7,_,c7,rfl,h1,(below_drewN (Below.refl _ wc) 1).trans h2,(Fr.of_nil [5] (Tch.refl [] wc).drew (Nat.zero_le _)).trans h3⟩
      have y1:w.heap.size≠w3.heap.size:=by have:=HZ4.out;omega
      have y2:qb≠w3.heap.size:=by have h1:=HQ0.out qb (by simp[qbl]);have:=HZ4.out;omega
      have y3:gm≠w3.heap.size:=by have h1:=HQ0.out gm (mem_qbl.2 (.inr (.inl (by rw[hvm];rfl))));have:=HZ4.out;omega
      clear hcut fm hms hrd HH ch cq hov hf0 hi;go_wp2_with fail;refine wp_region_noPanic ?_;refine wp_region_held_drew (S:=(fun w'=>w'.cell? ⟨w.heap.size,0,none⟩=some (.pointer (some ⟨qb,0,none⟩))/\w'.cell? ⟨qb,7,none⟩=some (.slice (some ⟨gm,0,none⟩) Q.ms.length cm)/\w'.cell? ⟨w3.heap.size+1+1+1,0,none⟩=some (.slice (some ⟨w3.heap.size+1+1,0,none⟩) cnt cnt)/\w'.cell? ⟨w3.heap.size+1+1,k,none⟩=some (.int .i64 (i:Int))/\w'.cell? ⟨gm,i*5,none⟩=some (.int .i64 (num:Int))/\w'.cell? ⟨gm,i*5+1,none⟩=some (.string m.grp)/\w'.cell? ⟨gm,i*5+2,none⟩=some (.string m.bod)/\w'.cell? ⟨gm,i*5+3,none⟩=some (.int .i64 (rcv:Int))/\w'.cell? ⟨gm,i*5+4,none⟩=some (.int .i64 m.til))) (by kernel_rfl) (by go_keep) (fun hHeld=>?_);refine zK 0 (h:=?_);refine zK 2 (h:=?_);refine zK 3 (h:=?_);refine zK 4 (h:=?_);refine zK 5 (h:=?_);refine zK 6 (h:=?_);refine zK 7 (h:=?_);refine zK 8 (h:=?_);refine zK 9 (h:=?_);refine zK 10 (h:=?_);refine zK 11 (h:=?_)
      try simp only[Act.put,List.setIfInBounds_toArray,List.set_cons_zero,List.set_cons_succ]
      refine wpAnyH_ready (rs:=[1]) (by kernel_rfl) (by simp) ?_;refine AllReadyH.cons rfl (fun K' hK'=>?_) AllReadyH.nil;go_simp;refine hK'.out _ _ (by go_keep) (fun hHeld=>?_);clear hK' K'
      try simp only[Act.put,List.setIfInBounds_toArray,List.set_cons_zero,List.set_cons_succ]
      refine wpAnyH_ready (rs:=[12]) (by kernel_rfl) (by simp) ?_;refine AllReadyH.cons rfl (fun K' hK'=>?_) AllReadyH.nil;go_simp;refine HG.out.mono ?_;rintro e w7 ⟨g7,n7,c7,rfl,ho7,hb7,hf7⟩;have HR7:=zH (HJ.out.told (by have:=HZ4.out;omega) HQ0.out (by have:=HZ4.out;omega) hb7 hf7 ho7);have ff7:w7.frozen? ⟨w3.heap.size,0,none⟩=false:=frozen_of_row _ _ _ _ 54 (hf7.keep _ _ _ HJ.out.hga (by decide));have fa7:w7.cell? ⟨w3.heap.size,0,none⟩=some av:=cell_of_one (hf7.keep _ _ _ HJ.out.hga (by decide));have qr7:=HJ.out.qr.keep hf7 (by decide);have s0:w7.cell? ⟨w.heap.size,0,none⟩=some (.pointer (some ⟨qb,0,none⟩)):=cell_of_one (hf7.keep _ _ _ HJ.out.hgq (by decide));have s1:w7.cell? ⟨qb,7,none⟩=some (.slice (some ⟨gm,0,none⟩) Q.ms.length cm):=by rw[<-hvm];exact cell_qC qr7.blk 7 _ rfl
      have s2:w7.cell? ⟨w3.heap.size+1+1+1,0,none⟩=some (.slice (some ⟨w3.heap.size+1+1,0,none⟩) cnt cnt):=cell_of_one (hf7.keep _ _ _ HJ.out.hgh (by decide));have s3:w7.cell? ⟨w3.heap.size+1+1,k,none⟩=some (.int .i64 (i:Int)):=(World.cell?_of_block (a:=⟨w3.heap.size+1+1,k,none⟩) ((hf7.keep _ _ _ HJ.out.hhb (by decide)).trans HJ.out.hhb.symm)).trans fk;have smb:∀j,w7.cell? ⟨gm,j,none⟩=wc.cell? ⟨gm,j,none⟩:=fun j=>World.cell?_of_block (a:=⟨gm,j,none⟩) (by
       have h0:=HJ.out.qr.m;rw[hvm]at h0;rcases h0.2 with ⟨e',_⟩|⟨g',cap',cur,e',_,hr',_⟩
       ·simp at e'
       ·simp at e';have e1:=e'.1;subst e1;exact(hf7.keep _ _ _ hr' (by decide)).trans hr'.symm)
      have s4:=(smb (i*5)).trans g0;have s5:=(smb (i*5+1)).trans g1;have s6:=(smb (i*5+2)).trans g2;have s7:=(smb (i*5+3)).trans g3';have s8:=(smb (i*5+4)).trans g4;clear smb qr7 ho7 hb7 hf7;go_wp2_with fail;refine hK'.out _ _ (by go_keep) (fun hHeld=>?_);clear hK' K'
      try simp only[Act.put,List.setIfInBounds_toArray,List.set_cons_zero,List.set_cons_succ]
      refine wpAnyH_ready (rs:=[13]) (by kernel_rfl) (by simp) ?_;refine AllReadyH.cons rfl (fun K' hK'=>?_) AllReadyH.nil;go_simp;have co:∀b o,b≠w3.heap.size->(w7.setCell ⟨w3.heap.size,0,none⟩ (.slice (some ⟨g7,0,none⟩) n7 c7)).cell? ⟨b,o,none⟩=w7.cell? ⟨b,o,none⟩:=fun b o hne=>World.cell?_of_block (a:=⟨b,o,none⟩) (heap_setCell_other _ _ _ _ (show b≠w3.heap.size from hne))
      refine hK'.out _ _ ⟨(co _ _ y1).trans s0,(co _ _ y2).trans s1,(co _ _ (by omega)).trans s2,(co _ _ (by omega)).trans s3,(co _ _ y3).trans s4,(co _ _ y3).trans s5,(co _ _ y3).trans s6,(co _ _ y3).trans s7,(co _ _ y3).trans s8⟩ (fun hHeld=>?_);clear hK' K'
      try simp only[Act.put,List.setIfInBounds_toArray,List.set_cons_zero,List.set_cons_succ]
      refine wpAnyH_done (by kernel_rfl) ?_ _;refine NoPanic.normal ?_;clear co s0 s1 s2 s3 s4 s5 s6 s7 s8 g0 g1 g2 g3' g4 f0 f7 fh fk fa;go_wp2_with fail;go_roundw
      case rel=>exact⟨k+1,_,by omega,by go_num,HR7.out⟩
      case measure=>simp[intOf];omega
    ·have hke:k=cnt:=by omega
     subst hke;have cA:wr.cell? ⟨w3.heap.size,0,none⟩=some av:=cell_of_one hI.hga;clear hI;go_wp2_with fail;go_ret3;have h4:=HZ4.out;exact⟨w1.heap.size,w3.heap.size,w2.heap.size,av,.inr ⟨by omega,rfl,HIR.out,by omega,by omega,by omega⟩⟩
theorem conv_bytes (s:ByteArray)(W:World):(convert 9 54 (.string s)).run Tryz.prog W=.ok (.slice (some ⟨W.heap.size,0,none⟩) s.size (grownCap W s.size 0 5)) (Lib.bytesWorld W 5 s):=
 Lib.run_convert_string_bytes W 9 54 5 s Tryz.underlying9 Tryz.underlying54 Tryz.underlying5
def Rdb (w:World)(v:Value)(l:List UInt8):Prop:=∃g cap,v=.slice (some ⟨g,0,none⟩) l.length cap/\∀j u,(bytesV l)[j]?=some u->w.cell? ((⟨g,0,none⟩:Addr).add j)=some u
theorem Rdb.of_own {v:Value}{l:List UInt8}(h:OwnB w base v l)(hl:0<l.length):Rdb w v l:=by
 have hc:=fun g (hg:v.ownBlock=some g)=>World.ownsRow.cells h hg
 rcases h.2 with ⟨_,h0⟩|⟨g,cap,cur,rfl,_⟩
 ·omega
 ·exact⟨g,cap,rfl,hc g rfl⟩
theorem receive_found (Q:QM)(V:QV)(r:Wp.Rq)(y:Sl)(qb i:Nat)(now:Int)(w:World)(h:QR w qb V Q)(hna:Q.ats.length<=1000)(hid:idxL (isA r.att) Q.ats=(i:Int))(a:At)(ha:Q.ats[i]?=some a)(has:0<a.ans.size):
  Calls Tryz.prog 123 #[.pointer (some ⟨qb,0,none⟩),.int .i64 now,.agg (cellsOf r y.v)] w fun e w'=>∃av,e=.returned (.tuple #[av,.nilFunc,.int .i64 0])/\Rdb w' av a.ans.data.toList/\Tch [] w w':=by
 have hcv:=conv_bytes a.ans;have hil:i<Q.ats.length:=(List.getElem?_eq_some_iff.1 ha).1;have HQ:=zH h;obtain⟨ga,ca,hva⟩:∃g c,V.a=.slice (some ⟨g,0,none⟩) Q.ats.length c:=by
  rcases h.a.2 with ⟨h0,h1⟩|⟨g,cap,cur,h0,_⟩
  ·omega
  ·exact⟨_,_,h0⟩
 rw[zM r y];generalize hCC:(#[.int .u8 (r.op.toNat:Int),.int .u8 (r.q.toNat:Int),.int .u8 (r.d.toNat:Int),.int .i64 r.vis,.int .i64 r.win,.int .i64 r.rcv,.int .i64 r.quo,.int .i64 r.mx,.int .i64 r.tic,.string r.grp,.string r.ded,.string r.bod,.string r.att,.string r.han,.slice y.a y.n y.c]:Array Value)=CC;have HA:Hid (zB 162 #[.pointer (some ⟨qb,0,none⟩),.string r.att] (rbox w qb CC) (.int .i64 (i:Int))):=by
  have h1:=h.tch (rbox_tch w qb CC) (by simp);have h2:=findAttempt_gen r.att qb V.a Q.ats (rbox w qb CC) (cell_qC h1.blk 10 _ rfl) h1.a (by omega);rw[hid]at h2;exact h2
 have HW0:=zH (rbox_0 w qb CC);have HW1:=zH (rbox_1 w qb CC);have HWT:=zH (rbox_tch w qb CC);have ca12:CC[12]?=some (.string r.att):=by rw[<-hCC];rfl
 clear hCC;have zz:=rbox_size w qb CC;generalize hwb:rbox w qb CC=wb at*
 clear h;go_enter Tryz.func123,Tryz.ntmps123;go_wp2_with fail;rw[show (w.alloc (.cells #[.pointer (some ⟨qb,0,none⟩)] 88)).alloc (.cells CC 24)=wb from hwb]
 refine HA.out.mono ?_;rintro e w1 ⟨rfl,hb1⟩;have t1:=HWT.out.trans (Tch.of_below hb1) (by simp);have hq1:=HQ.out.tch t1 (by simp);have B0:=(hb1.block _ (by omega)).trans HW0.out;have a0:w1.cell? ⟨w.heap.size,0,none⟩=some (.pointer (some ⟨qb,0,none⟩)):=cell_qC B0 0 _ rfl;have a10:w1.cell? ⟨qb,10,none⟩=some (.slice (some ⟨ga,0,none⟩) Q.ats.length ca):=by rw[<-hva];exact cell_qC hq1.blk 10 _ rfl
 have a2:w1.cell? ⟨ga,i*3+2,none⟩=some (.string a.ans):=by
  have h0:=hq1.a;rw[hva]at h0;have inh:Inhabited At:=⟨⟨⟨#[]⟩,0,⟨#[]⟩⟩⟩;have h1:=own_cells At.row 3 (fun _=>rfl) h0 i hil 2 (.string a.ans) (by
   rw[List.getElem!_eq_getElem?_getD,ha];rfl)
  simpa using h1
 have HT1:=zH t1;clear hb1 hwb t1 hq1 B0 HA HW0 HW1 HWT zz;go_wp2_with fail;go_ret3;have tb:Tch [] w1 (Lib.bytesWorld w1 5 a.ans):=⟨rfl,rfl,rfl,by rw[Lib.bytesWorld_size];omega,fun k hk _=>Lib.bytesWorld_at_old w1 5 a.ans k hk⟩
 refine⟨_,rfl,⟨w1.heap.size,_,rfl,fun j u hj=>?_⟩,HT1.out.trans tb (by simp)⟩
 have hjl:j<a.ans.size:=by
  have:=(List.getElem?_eq_some_iff.1 hj).1;simpa [bytesV]using this
 have e2:(⟨w1.heap.size,0,none⟩:Addr).add j=⟨w1.heap.size,j,none⟩:=by unfold Addr.add;split<;>simp_all
 rw[e2,Lib.bytesWorld_cell w1 5 a.ans j hjl];have hj':=hj;simp only[bytesV,List.getElem?_map]at hj';have hjl':=hjl;rw[List.getElem?_eq_getElem hjl']at hj';simp only[Option.map_some,Option.some.injEq]at hj';rw[<-hj'];simp[List.getD,hjl]
theorem zero_str (W:World)(g cap:Nat)(h:W.cell? ⟨g,0,none⟩=some (.int .u8 0)):(convert 54 9 (.slice (some ⟨g,0,none⟩) 1 cap)).run Tryz.prog W=.ok (.string ⟨#[0]⟩) W:=by
 refine run_convert_bytes_back (P:=Tryz.prog) W 54 9 5 ⟨g,0,none⟩ cap [0] Tryz.underlying54 Tryz.underlying5 Tryz.underlying9 ?_;intro j hj;have hj0:j=0:=by simpa using hj
 subst hj0;exact h
abbrev nil0:Sl:=⟨none,0,0⟩
theorem strs0 (W:World):Strs W none []:=by
 simp[Strs]
theorem asked_walk (K:ByteArray->World->Prop)(B:Nat)(r:Wp.Rq)(x:Nat)(w:World)(hright:rightW r nil0 (Wp.short [])=true)(hL:Lays B w)(hBw:B<=w.heap.size)
  (hD:∀W,Below w.heap.size w W->Calls Tryz.prog 11 #[.pointer (some ⟨x,0,none⟩),.string (printS r nil0 [])] W fun e w'=>∃t,e=.returned (.string t)/\K t w'):
  Calls Tryz.prog 32 #[.pointer (some ⟨x,0,none⟩),.agg (cellsOf r nil0.v)] w fun e w'=>∃t,e=.returned (.string t)/\K t w':=by
 have hE:=(print_bytes r nil0 [] hright).2;have HD:=zH hD;have HP:Hid (∀W,Below w.heap.size w W->zB 22 #[.agg (cellsOf r nil0.v)] W (.tuple #[.string (printS r nil0 []),.int .i64 0])):=fun W hb=>by
  have h:=wharf_print B r nil0 [] W rfl (Nat.zero_le _) (hL.below (hb.mono hBw)) (by have:=hb.size;omega) (strs0 W);rw[hE]at h;exact h
 have HCS:Hid ((Tryz.prog.info? 24).map (·.size)=some (cellsOf r nil0.v).size):=info37;clear hD hE hright hL;generalize cellsOf r nil0.v=C at*
 generalize printS r nil0 []=T at*
 go_enter Tryz.func32,Tryz.ntmps32;go_wp2_with (first|(refine wpList_load_row rfl 24 _ rfl w.heap.size rfl 24 C (0,0) _ (heap_alloc_new _ _) Tryz.underlying24 rfl HCS.out ?_)|(go_at_call 22;refine(HP.out _ ((Below.refl _ _).alloc (Nat.le_refl _) _)).mono ?_;rintro e w1 ⟨rfl,hb⟩)|(go_at_call 11;refine(HD.out _ (((Below.refl _ _).alloc (Nat.le_refl _) _).trans (hb.mono (by simp)))).mono ?_;rintro e w2 ⟨t,rfl,hk⟩))
 go_ret;exact⟨_,rfl,by assumption⟩
theorem create_walk (K:World->Prop)(B:Nat)(r:Wp.Rq)(x:Nat)(w:World)(hright:rightW r nil0 (Wp.short [])=true)(hL:Lays B w)(hBw:B<=w.heap.size)
  (hD:∀W,Below w.heap.size w W->Calls Tryz.prog 11 #[.pointer (some ⟨x,0,none⟩),.string (printS r nil0 [])] W fun e w'=>e=.returned (.string ⟨#[0]⟩)/\K w'):
  Calls Tryz.prog 21 #[.pointer (some ⟨x,0,none⟩),.agg (cellsOf r nil0.v)] w fun e w'=>e=.returned (.bool true)/\K w':=by
 have HA:Hid (∀W,Below w.heap.size w W->Calls Tryz.prog 32 #[.pointer (some ⟨x,0,none⟩),.agg (cellsOf r nil0.v)] W fun e w'=>e=.returned (.string ⟨#[0]⟩)/\K w'):=fun W hb=>by
  refine(asked_walk (fun t w'=>t=⟨#[0]⟩/\K w') B r x W hright (hL.below (hb.mono hBw)) (by have:=hb.size;omega) ?_).mono ?_
  ·intro W' hb';refine(hD W' (hb.trans (hb'.mono hb.size))).mono ?_;rintro e w' ⟨rfl,hk⟩;exact⟨_,rfl,rfl,hk⟩
  ·rintro e w' ⟨t,rfl,rfl,hk⟩;exact⟨rfl,hk⟩
 have HCS:Hid ((Tryz.prog.info? 24).map (·.size)=some (cellsOf r nil0.v).size):=info37;clear hD hright hL;generalize cellsOf r nil0.v=C at*
 go_enter Tryz.func21,Tryz.ntmps21;go_wp2_with (first|(refine wpList_load_row rfl 24 _ rfl w.heap.size rfl 24 C (0,0) _ (heap_alloc_new _ _) Tryz.underlying24 rfl HCS.out ?_)|(go_at_call 32;refine(HA.out _ ((Below.refl _ _).alloc (Nat.le_refl _) _)).mono ?_;rintro e w1 ⟨rfl,hk⟩))
 go_ret;exact⟨rfl,by assumption⟩
abbrev TB:List TypeId:=[85,77,79,94,137,191,195,9]
theorem Lays.fr (h:Lays B w)(hf:Fr B T w w'):Lays B w':=h.below hf.below
theorem Tab.fr (h:Tab w)(hf:Fr B T w w')(h3:3<=B):Tab w':=h.below (B:=3) (hf.below.mono h3) (by decide)
theorem Fr.one {st:Nat}{C:Array Value}{t:TypeId}(ht:Tch [st] w w')(hB:B<=w.heap.size)(hlo:B<=st)(hst:w.heap[st]?=some (.cells C t (0,0)))(hT:t∈T):Fr B T w w':=
 Fr.of_tch ht hB (by simpa using hlo) (fun k hk C' t' h=>by
  simp at hk;subst hk;rw[hst]at h;simp at h;rw[<-h.2];exact hT)
theorem flat_set {α:Type}(row:α->List Value)(k:Nat)(hk:∀x,(row x).length=k)(l:List α)(i j:Nat)(v:Value)(x':α)(hi:i<l.length)(hj:j<k)(hx:row x'=(row l[i]).set j v):(l.flatMap row).set (i*k+j) v=(l.set i x').flatMap row:=by
 induction l generalizing i with
 | nil=>simp at hi
 | cons x l ih=>
  cases i with
  | zero=>
   rw[List.set_cons_zero,List.flatMap_cons,List.flatMap_cons,Nat.zero_mul,Nat.zero_add,List.set_append_left _ _ (by rw[hk];exact hj),hx];rfl
  | succ i=>
   have e:(i+1)*k+j=(row x).length+(i*k+j):=by rw[hk,Nat.add_mul,Nat.one_mul];omega
   rw[List.set_cons_succ,List.flatMap_cons,List.flatMap_cons,e,List.set_append_right _ _ (by omega),Nat.add_sub_cancel_left,ih i (by simpa using hi) hx]
def flyM (til:Int)(m:Ms):Ms:={m with rcv:=(oft m.rcv.toNat:Nat),til:=til}
def flyAt (til:Int)(ms:List Ms)(z:Int):List Ms:=match ms[z.toNat]? with
 | some m=>ms.set z.toNat (flyM til m)
 | none=>ms
def flyAll (til:Int)(ms:List Ms)(zs:List Int):List Ms:=zs.foldl (flyAt til) ms
theorem flyAt_len (til:Int)(ms:List Ms)(z:Int):(flyAt til ms z).length=ms.length:=by
 unfold flyAt;split<;>simp
theorem flyAll_len (til:Int)(ms:List Ms)(zs:List Int):(flyAll til ms zs).length=ms.length:=by
 unfold flyAll
 induction zs generalizing ms with
 | nil=>rfl
 | cons z zs ih=>rw[List.foldl_cons,ih,flyAt_len]
theorem flyM_ok (til:Int)(m:Ms)(h:MsOk m):MsOk (flyM til m):=⟨h.num,⟨by show (0:Int)<=((oft m.rcv.toNat:Nat):Int);omega,by show ((oft m.rcv.toNat:Nat):Int)<=65535;have:=oft_le m.rcv.toNat;omega⟩,h.grp,h.bod⟩
theorem flyAt_ok (til:Int)(ms:List Ms)(z:Int)(h:∀m∈ms,MsOk m):∀m∈flyAt til ms z,MsOk m:=by
 unfold flyAt
 split
 ·rename_i m hm
  intro x hx;rcases List.mem_or_eq_of_mem_set hx with hx|hx
  ·exact h x hx
  ·rw[hx];exact flyM_ok til m (h m (List.mem_of_getElem? hm))
 ·exact h
theorem flyAll_ok (til:Int)(ms:List Ms)(zs:List Int)(h:∀m∈ms,MsOk m):∀m∈flyAll til ms zs,MsOk m:=by
 unfold flyAll
 induction zs generalizing ms with
 | nil=>exact h
 | cons z zs ih=>rw[List.foldl_cons];exact ih _ (flyAt_ok til ms z h)
structure Cap (wr:World)(qb:Nat)(CC:Array Value)(cnt g0 gc ga base:Nat)(til:Int)(hds:List Int)(av:Value)(ans:List UInt8):Prop where
 hgq:wr.heap[g0]?=some (.cells #[.pointer (some ⟨qb,0,none⟩)] 88 (0,0))
 hgr:wr.heap[g0+1]?=some (.cells CC 24 (0,0))
 hgc:wr.heap[gc]?=some (.cells #[.int .i64 (cnt:Int)] 3 (0,0))
 hga:wr.heap[ga]?=some (.cells #[av] 54 (0,0))
 hgu:wr.heap[ga+1]?=some (.cells #[.int .i64 til] 3 (0,0))
 hhb:wr.heap[ga+1+1]?=some (.cells (intRow hds cnt) 3 (0,0))
 hgh:wr.heap[ga+1+1+1]?=some (.cells #[.slice (some ⟨ga+1+1,0,none⟩) cnt cnt] 26 (0,0))
 own:OwnB wr base av ans
theorem RcI.cap (h:RcI w wr qb V Q CC cnt gc ga base til kh ka av):Cap wr qb CC cnt w.heap.size gc ga base til (hdsL Q kh) av (ansL Q cnt ka):=
 ⟨h.hgq,h.hgr,h.hgc,h.hga,h.hgu,h.hhb,h.hgh,h.own⟩
theorem Cap.keep {g0:Nat}{hds:List Int}{ans:List UInt8}(h:Cap w qb CC cnt g0 gc ga base til hds av ans)(hf:Fr B T w w')(hT:∀t∈[88,24,3,54,26,5],t∉T):Cap w' qb CC cnt g0 gc ga base til hds av ans:=
 ⟨hf.keep _ _ _ h.hgq (hT _ (by decide)),hf.keep _ _ _ h.hgr (hT _ (by decide)),hf.keep _ _ _ h.hgc (hT _ (by decide)),hf.keep _ _ _ h.hga (hT _ (by decide)),hf.keep _ _ _ h.hgu (hT _ (by decide)),hf.keep _ _ _ h.hhb (hT _ (by decide)),hf.keep _ _ _ h.hgh (hT _ (by decide)),hf.own h.own (hT _ (by decide))⟩
theorem QR.setM (h:QR w qb V Q){gm cm:Nat}(hvm:V.m=.slice (some ⟨gm,0,none⟩) Q.ms.length cm)(i j:Nat)(v:Value)(x':Ms)(hi:i<Q.ms.length)(hj:j<5)(hx:x'.row=(Q.ms[i]).row.set j v):
  QR (w.setCell ⟨gm,i*5+j,none⟩ v) qb V {Q with ms:=Q.ms.set i x'}/\Tch [gm] w (w.setCell ⟨gm,i*5+j,none⟩ v)/\Fr 0 [191] w (w.setCell ⟨gm,i*5+j,none⟩ v):=by
 have t1:Tch [gm] w (w.setCell ⟨gm,i*5+j,none⟩ v):=(Tch.refl _ _).setCell (fun _=>by simp) _;have hm:=h.m;rw[hvm]at hm;obtain⟨C,hC⟩:∃C,w.heap[gm]?=some (.cells C 191 (0,0)):=by
  rcases hm.2 with ⟨e,_⟩|⟨g',cap',cur,e,_,hr,_⟩
  ·simp at e
  ·simp at e;obtain⟨e1,_⟩:=e;subst e1;exact⟨_,hr⟩
 have hf:Fr 0 [191] w (w.setCell ⟨gm,i*5+j,none⟩ v):=Fr.one t1 (Nat.zero_le _) (Nat.zero_le _) hC (by decide);refine⟨⟨hf.keep _ _ _ h.blk (by decide),?_,hf.own h.r (by decide),hf.own h.d (by decide),hf.own h.a (by decide)⟩,t1,hf⟩;have h2:=(World.ownsRow.stored hm (i*5+j) v).1
 show World.ownsRow _ 0 191 5 V.m (Q.ms.set i x').length ((Q.ms.set i x').flatMap Ms.row)
 rw[hvm,List.length_set,<-flat_set Ms.row 5 (fun _=>rfl) Q.ms i j v x' hi hj hx];exact h2
end Go.Proofs.YtbdobaapadlcjabGreatDoor
namespace Go.Proofs.YtbdobaapadlcjabGreatDoor
open Go.Shelf Go.RowKit Go.Lib
variable {base e size n g:Nat}
def l214_ren:Go.Shelf.Ren:=⟨fun|24=>167|n=>n,fun|24=>22|9=>9|3=>3|0=>0|4=>4|n=>n,fun|n=>n⟩
theorem l214:Go.Proofs.Lays2.n24 Tryz.prog l214_ren:={
 mixed:=by kernel_rfl
 f24:=Tryz.func167.trans (congrArg some (by kernel_rfl))
 t0:=Tryz.underlying0
 a0:=Tryz.isAgg0
 z0:=Tryz.sizeOf0
 v0:=Tryz.zeroValue0
 t3:=Tryz.underlying3
 a3:=Tryz.isAgg3
 z3:=Tryz.sizeOf3
 v3:=Tryz.zeroValue3
 t4:=Tryz.underlying4
 a4:=Tryz.isAgg4
 z4:=Tryz.sizeOf4
 v4:=Tryz.zeroValue4
 t9:=Tryz.underlying9
 a9:=Tryz.isAgg9
 z9:=Tryz.sizeOf9
 v9:=Tryz.zeroValue9
 t24:=Tryz.underlying22
 a24:=Tryz.isAgg22
 z24:=Tryz.sizeOf22
 v24:=Tryz.zeroValue22
 i9:=by kernel_rfl}
def putMany:List Value->Nat->List Value->List Value
 | xs,_,[]=>xs
 | xs,o,v::r=>putMany (xs.set o v) (o+1) r
theorem own_setCells {cap:Nat}:∀(vs:List Value) (o:Nat) (w:World) (xs:List Value),w.ownsRow base e size (.slice (some ⟨g,0,none⟩) n cap) n xs->(w.setCells g o vs).ownsRow base e size (.slice (some ⟨g,0,none⟩) n cap) n (putMany xs o vs)
 | [],_,_,_,h=>h
 | v::r,o,w,xs,h=>own_setCells r (o+1) _ _ (World.ownsRow.stored h o v).1
theorem putMany_all (pre xs vs:List Value)(h:xs.length=vs.length):putMany (pre++xs) pre.length vs=pre++vs:=by
 induction vs generalizing pre xs with
 | nil=>
  have:xs=[]:=List.length_eq_zero_iff.1 h;simp[putMany,this]
 | cons v r ih=>
  cases xs with
  | nil=>simp at h
  | cons x xs=>
   simp only[putMany];rw[List.set_append_right _ _ (Nat.le_refl _),Nat.sub_self,List.set_cons_zero];have e1:pre++v::xs=(pre++[v])++xs:=by simp
   have e2:pre.length+1=(pre++[v]).length:=by simp
   rw[e1,e2,ih (pre++[v]) xs (by simpa using h)];simp
theorem tch_setCells (g:Nat):∀(vs:List Value) (o:Nat) (w:World),Tch [g] w (w.setCells g o vs)
 | [],_,w=>Tch.refl _ _
 | v::r,o,w=>((Tch.refl [g] w).setCell (fun _=>by simp) v).trans (tch_setCells g r (o+1) _) (fun _ h _=>h)
theorem own_cut {w:World}{n' cap:Nat}{xs:List Value}(h:w.ownsRow base e size (.slice (some ⟨g,0,none⟩) n cap) n xs)(hn:n'<=n):w.ownsRow base e size (.slice (some ⟨g,0,none⟩) n' cap) n' (xs.take (n'*size)):=by
 have hle:n'*size<=n*size:=Nat.mul_le_mul_right _ hn;refine⟨by rw[List.length_take,h.1];omega,?_⟩;rcases h.2 with ⟨h',_⟩|⟨g',cap',cur,h',hb,hg,hnc,hcm,hcs,htake⟩
 ·simp at h'
 ·simp only[Value.slice.injEq,Option.some.injEq,Addr.mk.injEq,and_true,true_and]at h';obtain⟨rfl,rfl⟩:=h';refine .inr ⟨g,cap,cur,rfl,hb,hg,by omega,hcm,hcs,?_⟩;rw[<-htake,List.take_take,Nat.min_eq_left hle]
theorem delete_ready (rs:List ByteArray)(g c cnt:Nat)(w:World)(ho:w.ownsRow 0 9 1 (.slice (some ⟨g,0,none⟩) rs.length c) rs.length (rs.map Value.string))(hc:cnt<=rs.length):
  Calls Tryz.prog 167 #[.slice (some ⟨g,0,none⟩) rs.length c,.int .i64 0,.int .i64 (cnt:Int)] w fun e w'=>e=.returned (.slice (some ⟨g,0,none⟩) (rs.length-cnt) c)/\w'.ownsRow 0 9 1 (.slice (some ⟨g,0,none⟩) (rs.length-cnt) c) (rs.length-cnt) ((rs.drop cnt).map Value.string)/\Tch [g] w w':=by
 obtain⟨hnc,hcm,hrow⟩:rs.length<=c/\c<=maxLen/\∃cur,w.heap[g]?=some (.cells cur 9 (0,0)):=by
  rcases ho.2 with ⟨h',_⟩|⟨g',cap',cur,h',hb,hg,hnc,hcm,hcs,htake⟩
  ·simp at h'
  ·simp only[Value.slice.injEq,Option.some.injEq,Addr.mk.injEq,and_true,true_and]at h';obtain⟨rfl,rfl⟩:=h';exact⟨hnc,hcm,cur,hg⟩
 obtain⟨cur,hrow⟩:=hrow;have hcell:∀i,i<rs.length->w.cell? ⟨g,0+i,none⟩=some (.string (rs.getD i ⟨#[]⟩)):=fun i hi=>by
  have h1:=World.ownsRow.cells ho (g:=g) rfl i (.string (rs.getD i ⟨#[]⟩)) (by simp[hi]);have e2:(⟨g,0,none⟩:Addr).add i=⟨g,0+i,none⟩:=by unfold Addr.add;split<;>simp_all
  rw[e2]at h1;exact h1
 refine(Any.slices_Delete_string_cells l214 g 0 rs.length c 0 cnt (fun i=>rs.getD i ⟨#[]⟩) w hnc (by unfold maxLen at hcm;omega) (Nat.zero_le _) hc hcell (fun j hj=>frozen_of_row w g _ cur 9 hrow)).mono ?_;rintro e w' ⟨rfl,q,rfl⟩;have hst:Lib.strsOf (fun i=>rs.getD i ⟨#[]⟩) rs.length=rs.map (fun s=>s.data.toList):=by
  apply List.ext_getElem
  ·simp[Lib.strsOf]
  ·intro i h1 h2;simp[Lib.strsOf]at h1 ⊢;simp[h1]
 have hw:=ho;have t1:Tch [] w (w.drewN q):=(Tch.refl [] w).drewN q;refine⟨rfl,?_,(t1.sub (by simp)).trans (tch_setCells g _ 0 _) (fun _ h _=>h)⟩;have h2:=own_setCells ((((Lib.strsOf (fun i=>rs.getD i ⟨#[]⟩) rs.length).take 0++(Lib.strsOf (fun i=>rs.getD i ⟨#[]⟩) rs.length).drop cnt++List.replicate (cnt-0) []).map encStr)) 0 (w.drewN q) _ hw;have e1:putMany (rs.map Value.string) 0 ((((Lib.strsOf (fun i=>rs.getD i ⟨#[]⟩) rs.length).take 0++(Lib.strsOf (fun i=>rs.getD i ⟨#[]⟩) rs.length).drop cnt++List.replicate (cnt-0) []).map encStr))=(((Lib.strsOf (fun i=>rs.getD i ⟨#[]⟩) rs.length).take 0++(Lib.strsOf (fun i=>rs.getD i ⟨#[]⟩) rs.length).drop cnt++List.replicate (cnt-0) []).map encStr):=by
  have h3:=putMany_all [] (rs.map Value.string) (((Lib.strsOf (fun i=>rs.getD i ⟨#[]⟩) rs.length).take 0++(Lib.strsOf (fun i=>rs.getD i ⟨#[]⟩) rs.length).drop cnt++List.replicate (cnt-0) []).map encStr) (by simp[Lib.strsOf_length];omega);simpa using h3
 rw[e1]at h2;have h4:=own_cut h2 (n':=rs.length-cnt) (by omega);have e2:((((Lib.strsOf (fun i=>rs.getD i ⟨#[]⟩) rs.length).take 0++(Lib.strsOf (fun i=>rs.getD i ⟨#[]⟩) rs.length).drop cnt++List.replicate (cnt-0) []).map encStr)).take ((rs.length-cnt)*1)=(rs.drop cnt).map Value.string:=by
  rw[hst];simp only[List.take_zero,List.nil_append,Nat.mul_one,List.map_append];rw[List.take_append_of_le_length (by simp),List.take_of_length_le (by simp)];have e3:(rs.map (fun s=>s.data.toList)).map encStr=rs.map Value.string:=by
   rw[List.map_map];apply List.map_congr_left;intro s _
   cases s
   simp[encStr]
  rw[List.map_drop,e3,List.map_drop]
 rw[e2]at h4;exact h4
theorem eg241:∀args w,(callFunc 210 args).run Tryz.prog w=.ok (.enter 210 args) w:=enters_of Tryz.func210 (by kernel_rfl) rfl
theorem del_pred (now:Int)(B:Nat)(w:World)(hB:B<w.heap.size)(hcell:w.cell? ⟨B,0,none⟩=some (.int .i64 now)):
  PredBelow Tryz.prog 210 #[.pointer (some ⟨B,0,none⟩)] (fun x:Dd=>.agg x.row.toArray) (fun x=>decide (x.til<=now)) w:=fun W x hb=>by
 have hc:=(hb.cell (p:=⟨B,0,none⟩) hB).trans hcell;have hBW:B<W.heap.size:=Nat.lt_of_lt_of_le hB hb.size
 show Calls Tryz.prog 210 #[.agg #[.string x.id,.int .i64 x.num,.int .i64 x.til],.pointer (some ⟨B,0,none⟩)] W _
 go_enter Tryz.func210,Tryz.ntmps210
 go_wp2
 all_goals (go_ret;exact⟨by simp_all,hb.alloc hb.size _⟩)
end Go.Proofs.YtbdobaapadlcjabGreatDoor
