import Derived.Test.YtbdobaapadlcjaaGreatDoorBy01
set_option maxHeartbeats 12000000
set_option linter.unusedVariables false
set_option linter.unusedSimpArgs false
namespace Go.Proofs.YtbdobaapadlcjaaGreatDoor
open Go.RowKit
variable {w w1:World}{r:Wp.Rq}{base:Nat}{l:List UInt8}{s:ByteArray}{fl:Bool}
def qK (f:Nat):Nat:=if f=14 then 14 else if f<=1 then f+1 else if f<=7 then f+1 else if f=8 then 8 else f
def a5o (f:Nat):Value:=if f<=1 then .int .u8 0 else if f<=8 then .int .i64 0 else if f<=13 then .string ⟨#[]⟩ else .slice none 0 0
theorem a9g (B b f:Nat)(v:Value)(w:World)(hf:f<15)(hL:Lays B w)(hc:w.cell? ⟨b,qK f,none⟩=some v)(hz:w.frozen? ⟨b,qK f,none⟩=false):
  Cp 110 #[zp b,.int .i64 (f:Int)] w fun e w'=>e=.returned (.tuple #[])/\w'=w.setCell ⟨b,qK f,none⟩ (a5o f):=by
 have hr:=hL.2.1;have hx:f=0\/f=1\/f=2\/f=3\/f=4\/f=5\/f=6\/f=7\/f=8\/f=9\/f=10\/f=11\/f=12\/f=13\/f=14:=by omega
 rcases hx with rfl|rfl|rfl|rfl|rfl|rfl|rfl|rfl|rfl|rfl|rfl|rfl|rfl|rfl|rfl
 ·have hc':w.cell? ⟨b,1,none⟩=some v:=hc;have hz':w.frozen? ⟨b,1,none⟩=false:=hz;have t0:w.cell? ⟨1,0,none⟩=some (.int .i64 0):=hr 0 (by decide);clear hc hz hr hL;go_enter Tryz.func110,Tryz.ntmps110
  go_wp2
  go_end0;exact⟨rfl,rfl⟩
 ·have hc':w.cell? ⟨b,2,none⟩=some v:=hc;have hz':w.frozen? ⟨b,2,none⟩=false:=hz;have t3:w.cell? ⟨1,3,none⟩=some (.int .i64 0):=hr 3 (by decide);clear hc hz hr hL;go_enter Tryz.func110,Tryz.ntmps110
  go_wp2
  go_end0;exact⟨rfl,rfl⟩
 ·have hc':w.cell? ⟨b,3,none⟩=some v:=hc;have hz':w.frozen? ⟨b,3,none⟩=false:=hz;have t6:w.cell? ⟨1,6,none⟩=some (.int .i64 2):=hr 6 (by decide);clear hc hz hr hL;go_enter Tryz.func110,Tryz.ntmps110
  go_wp2
  go_end0;exact⟨rfl,rfl⟩
 ·have hc':w.cell? ⟨b,4,none⟩=some v:=hc;have hz':w.frozen? ⟨b,4,none⟩=false:=hz;have t9:w.cell? ⟨1,9,none⟩=some (.int .i64 2):=hr 9 (by decide);clear hc hz hr hL;go_enter Tryz.func110,Tryz.ntmps110
  go_wp2
  go_end0;exact⟨rfl,rfl⟩
 ·have hc':w.cell? ⟨b,5,none⟩=some v:=hc;have hz':w.frozen? ⟨b,5,none⟩=false:=hz;have t12:w.cell? ⟨1,12,none⟩=some (.int .i64 1):=hr 12 (by decide);clear hc hz hr hL;go_enter Tryz.func110,Tryz.ntmps110
  go_wp2
  go_end0;exact⟨rfl,rfl⟩
 ·have hc':w.cell? ⟨b,6,none⟩=some v:=hc;have hz':w.frozen? ⟨b,6,none⟩=false:=hz;have t15:w.cell? ⟨1,15,none⟩=some (.int .i64 1):=hr 15 (by decide);clear hc hz hr hL;go_enter Tryz.func110,Tryz.ntmps110
  go_wp2
  go_end0;exact⟨rfl,rfl⟩
 ·have hc':w.cell? ⟨b,7,none⟩=some v:=hc;have hz':w.frozen? ⟨b,7,none⟩=false:=hz;have t18:w.cell? ⟨1,18,none⟩=some (.int .i64 1):=hr 18 (by decide);clear hc hz hr hL;go_enter Tryz.func110,Tryz.ntmps110
  go_wp2
  go_end0;exact⟨rfl,rfl⟩
 ·have hc':w.cell? ⟨b,8,none⟩=some v:=hc;have hz':w.frozen? ⟨b,8,none⟩=false:=hz;have t21:w.cell? ⟨1,21,none⟩=some (.int .i64 2):=hr 21 (by decide);clear hc hz hr hL;go_enter Tryz.func110,Tryz.ntmps110
  go_wp2
  go_end0;exact⟨rfl,rfl⟩
 ·have hc':w.cell? ⟨b,8,none⟩=some v:=hc;have hz':w.frozen? ⟨b,8,none⟩=false:=hz;have t24:w.cell? ⟨1,24,none⟩=some (.int .i64 2):=hr 24 (by decide);clear hc hz hr hL;go_enter Tryz.func110,Tryz.ntmps110
  go_wp2
  go_end0;exact⟨rfl,rfl⟩
 ·have hc':w.cell? ⟨b,9,none⟩=some v:=hc;have hz':w.frozen? ⟨b,9,none⟩=false:=hz;have t27:w.cell? ⟨1,27,none⟩=some (.int .i64 3):=hr 27 (by decide);clear hc hz hr hL;go_enter Tryz.func110,Tryz.ntmps110
  go_wp2
  go_end0;exact⟨rfl,rfl⟩
 ·have hc':w.cell? ⟨b,10,none⟩=some v:=hc;have hz':w.frozen? ⟨b,10,none⟩=false:=hz;have t30:w.cell? ⟨1,30,none⟩=some (.int .i64 3):=hr 30 (by decide);clear hc hz hr hL;go_enter Tryz.func110,Tryz.ntmps110
  go_wp2
  go_end0;exact⟨rfl,rfl⟩
 ·have hc':w.cell? ⟨b,11,none⟩=some v:=hc;have hz':w.frozen? ⟨b,11,none⟩=false:=hz;have t33:w.cell? ⟨1,33,none⟩=some (.int .i64 3):=hr 33 (by decide);clear hc hz hr hL;go_enter Tryz.func110,Tryz.ntmps110
  go_wp2
  go_end0;exact⟨rfl,rfl⟩
 ·have hc':w.cell? ⟨b,12,none⟩=some v:=hc;have hz':w.frozen? ⟨b,12,none⟩=false:=hz;have t36:w.cell? ⟨1,36,none⟩=some (.int .i64 3):=hr 36 (by decide);clear hc hz hr hL;go_enter Tryz.func110,Tryz.ntmps110
  go_wp2
  go_end0;exact⟨rfl,rfl⟩
 ·have hc':w.cell? ⟨b,13,none⟩=some v:=hc;have hz':w.frozen? ⟨b,13,none⟩=false:=hz;have t39:w.cell? ⟨1,39,none⟩=some (.int .i64 3):=hr 39 (by decide);clear hc hz hr hL;go_enter Tryz.func110,Tryz.ntmps110
  go_wp2
  go_end0;exact⟨rfl,rfl⟩
 ·have hc':w.cell? ⟨b,14,none⟩=some v:=hc;have hz':w.frozen? ⟨b,14,none⟩=false:=hz;have t42:w.cell? ⟨1,42,none⟩=some (.int .i64 4):=hr 42 (by decide);clear hc hz hr hL;go_enter Tryz.func110,Tryz.ntmps110
  go_wp2
  go_end0;exact⟨rfl,rfl⟩
def a0M (r:Wp.Rq)(n:Nat):Bool:=
 (bits .or .u8 (bits .or .u8 (r.op.toNat:Int) (r.q.toNat:Int)) (r.d.toNat:Int) == 0)&&
 (bits .or .i64 (bits .or .i64 (bits .or .i64 (bits .or .i64 (bits .or .i64 r.vis r.win) r.rcv) r.quo) r.mx) r.tic == 0)&&
 (r.grp.toList.isEmpty&&r.ded.toList.isEmpty&&r.bod.toList.isEmpty&&r.att.toList.isEmpty&&r.han.toList.isEmpty)&&((n:Int) == 0)
theorem a8V (r:Wp.Rq)(a:Option Addr)(n cap:Nat)(w:World):
  zB 111 #[.agg (ja r (.slice a n cap))] w (.bool (a0M r n)):=by
 unfold ja a0M;go_enter Tryz.func111,Tryz.ntmps111
 go_wp2
 all_goals
  go_ret;refine⟨?_,(Below.refl _ _).alloc (Nat.le_refl _) _⟩;exact js (by simp[*])
def er (r:Wp.Rq)(f:Nat):Wp.Rq:=
 if f=0 then {r with q:=0} else if f=1 then {r with d:=0} else if f=2 then {r with vis:=0} else if f=3 then {r with win:=0} else if f=4 then {r with rcv:=0} else if f=5 then {r with quo:=0} else if f=6 then {r with mx:=0} else if f=7 then {r with tic:=0} else if f=8 then {r with tic:=0} else if f=9 then {r with grp:=⟨#[]⟩} else if f=10 then {r with ded:=⟨#[]⟩} else if f=11 then {r with bod:=⟨#[]⟩} else if f=12 then {r with att:=⟨#[]⟩} else if f=13 then {r with han:=⟨#[]⟩} else r
structure Sl where
 a:Option Addr
 n:Nat
 c:Nat
def Sl.v (x:Sl):Value:=.slice x.a x.n x.c
def eb (x:Sl)(f:Nat):Sl:=if f=14 then ⟨none,0,0⟩ else x
theorem b0B (r:Wp.Rq)(x:Sl)(f:Nat)(hf:f<15):(ja r x.v).setIfInBounds (qK f) (a5o f)=ja (er r f) (eb x f).v:=by
 have hx:f=0\/f=1\/f=2\/f=3\/f=4\/f=5\/f=6\/f=7\/f=8\/f=9\/f=10\/f=11\/f=12\/f=13\/f=14:=by omega
 rcases hx with rfl|rfl|rfl|rfl|rfl|rfl|rfl|rfl|rfl|rfl|rfl|rfl|rfl|rfl|rfl<;>rfl
def jX (r:Wp.Rq)(fs:List Nat):Wp.Rq:=fs.foldl er r
def kD (x:Sl)(fs:List Nat):Sl:=fs.foldl eb x
theorem b7l (f:Nat)(hf:f<15):qK f<15:=by
 unfold qK
 repeat' split
 all_goals omega
def Blk (w:World)(b:Nat)(r:Wp.Rq)(x:Sl):Prop:=w.heap[b]?=some (.cells (ja r x.v) 27 (0,0))
theorem Blk.box {b:Nat}{x:Sl}(h:Blk w b r x):Box w b r x.v:=fun i v hv=>(cell_of_row w b i _ 27 (0,0) h).trans hv
theorem Blk.cell {b:Nat}{x:Sl}(h:Blk w b r x)(o:Nat)(ho:o<15):∃v,w.cell? ⟨b,o,none⟩=some v:=
 ⟨_,(cell_of_row w b o _ 27 (0,0) h).trans (Array.getElem?_eq_getElem (show o<(ja r x.v).size from ho))⟩
theorem Blk.frozen {b:Nat}{x:Sl}(h:Blk w b r x)(o:Nat):w.frozen? ⟨b,o,none⟩=false:=by
 unfold Blk at h;simp[World.frozen?,h]
theorem Blk.erase {b:Nat}{x:Sl}(h:Blk w b r x)(f:Nat)(hf:f<15):Blk (w.setCell ⟨b,qK f,none⟩ (a5o f)) b (er r f) (eb x f):=by
 unfold Blk;rw[<-b0B r x f hf];exact heap_setCell_same w b (qK f) _ 27 (a5o f) h
theorem b1F (i j:Nat):(Wp.lay i).getD j 0<15:=by
 by_cases hi:i<26
 ·have h1:∀a:Fin 26,∀x∈Wp.lay a.val,x<15:=by decide
  by_cases hj:j<(Wp.lay i).length
  ·rw[List.getD_eq_getElem?_getD,List.getElem?_eq_getElem hj,Option.getD_some];exact h1 ⟨i,hi⟩ _ (List.getElem_mem hj)
  ·rw[List.getD_eq_getElem?_getD,List.getElem?_eq_none (by omega)];decide
 ·have:Wp.lay i=[]:=by
   unfold Wp.lay;rw[List.getD_eq_getElem?_getD,List.getElem?_eq_none (by simp[Wp.layTab];omega)];rfl
  rw[this];simp
theorem Strs.below {w':World}{a:Option Addr}{bs:List ByteArray}(h:Strs w a bs)(hb:Below w.heap.size w w'):Strs w' a bs:=fun j hj=>by
 obtain⟨b,o,ha,hc⟩:=h j hj;exact⟨b,o,ha,(hb.cell (p:=⟨b,o+j,none⟩) (World.block_lt_of_cell? _ _ hc)).trans hc⟩
def jo (r:Wp.Rq)(x:Sl)(short:Bool):Bool:=
 Wp.isOp r.op&&((Wp.lay (r.op.toNat-65)).all (r.fits x.n short)&&a0M (jX {r with op:=0} (Wp.lay (r.op.toNat-65))) (kD x (Wp.lay (r.op.toNat-65))).n)
theorem a9O (B:Nat)(r:Wp.Rq)(x:Sl)(bs:List ByteArray)(w:World)(i:Nat)(hop:r.op.toNat=65+i)(hi:i<26)(hpos:0<(Wp.lay i).length)(hxn:x.n=bs.length)(hn:bs.length<=maxLen)(hL:Lays B w)(hBw:B<=w.heap.size)(hS:Strs w x.a bs):
  Cp 81 #[.agg (ja r x.v)] w fun e w'=>e=.returned (.bool (jo r x (Wp.short bs)))/\Below w.heap.size w w':=by
 have hopi:((r.op.toNat:Nat):Int)=65+(i:Int):=by omega
 have hisop:Wp.isOp r.op=true:=by simp[Wp.isOp,hop,hpos];omega
 obtain⟨la,lcap,hlc,hlj⟩:=hL.2.2 i hi;have HLJ:Hid (∀j,j<(Wp.lay i).length->∃b o,la=some ⟨b,o,none⟩/\b<B/\w.cell? ⟨b,o+j,none⟩=some (.int .i64 ((Wp.lay i).getD j 0:Nat))):=hlj;have hfin:Hid (jo r x (Wp.short bs)=((Wp.lay i).all (r.fits x.n (Wp.short bs))&&a0M (jX {r with op:=0} (Wp.lay i)) (kD x (Wp.lay i)).n)):=by
  show jo r x (Wp.short bs)=_
  unfold jo;rw[hisop,hop,Nat.add_sub_cancel_left,Bool.true_and]
 have hlen:(Wp.lay i).length<100:=by
  have h1:∀a:Fin 26,(Wp.lay a.val).length<100:=by decide
  exact h1 ⟨i,hi⟩
 have HLT:Hid (∀j,(Wp.lay i).getD j 0<15):=b1F i;clear hlj;have HO:Hid (∀W,Lays B W->Cp 85 #[.int .u8 (65+(i:Int))] W fun e w'=>e=.returned (.bool true)/\w'=W):=by
  intro W hW;have:=a1h B r.op W hW
  rwa [hopi,hisop]at this
 have HL:Hid (Lays B w):=hL;have hsz:0<w.heap.size:=by have:=hL.1;omega
 have hsz1:0<w.heap.size+1:=by omega
 clear hL;generalize Wp.lay i=L at*
 have hcells:ja r x.v=#[.int .u8 (65+(i:Int)),.int .u8 (r.q.toNat:Int),.int .u8 (r.d.toNat:Int),.int .i64 r.vis,.int .i64 r.win,.int .i64 r.rcv,.int .i64 r.quo,.int .i64 r.mx,.int .i64 r.tic,.string r.grp,.string r.ded,.string r.bod,.string r.att,.string r.han,.slice x.a x.n x.c]:=by
  unfold ja Sl.v;rw[hopi]
 have HC:Hid (ja r x.v=_):=hcells;have HXN:Hid (x.n=bs.length):=hxn;have HS:Hid (Strs w x.a bs):=hS;clear hxn hS;rw[hcells];clear hcells;go_enter Tryz.func81,Tryz.ntmps81;go_wp2_with fail;refine(HO.out _ (HL.out.below (((Below.refl _ _).alloc (Nat.le_refl _) _).mono hBw))).mono ?_;rintro e w1 ⟨rfl,rfl⟩;go_wp2_with fail;rw[Nat.add_sub_cancel_left]
 go_loopw [18] (fun v wr=>∃k:Nat,k<=L.length/\v=.int .i64 k/\Below w.heap.size w wr/\wr.heap.size=w.heap.size+2/\Blk wr w.heap.size r x/\Blk wr (w.heap.size+1) (jX {r with op:=0} (L.take k)) (kD x (L.take k))/\(L.take k).all (r.fits x.n (Wp.short bs))=true) (fun v _=>L.length-(intOf v).toNat)
 case atStart=>
  refine⟨0,Nat.zero_le _,rfl,((Below.refl _ _).alloc (Nat.le_refl _) _).alloc (by simp) _,by simp,?_,?_,rfl⟩
  ·unfold Blk;rw[HC.out,heap_alloc2_old]
  ·unfold Blk;rw[heap_alloc2_new];rfl
 case round=>
  obtain⟨k,hk,rfl,hb,hhs,hbk1,hbk2,hall⟩:=hrel;have HB:Hid (Below w.heap.size w wr):=hb;have HB1:Hid (Blk wr w.heap.size r x):=hbk1;have HB2:Hid (Blk wr (w.heap.size+1) (jX {r with op:=0} (L.take k)) (kD x (L.take k))):=hbk2;have HA:Hid ((L.take k).all (r.fits x.n (Wp.short bs))=true):=hall;have HH:Hid (wr.heap.size=w.heap.size+2):=hhs;clear hb hbk1 hbk2 hall hhs
  by_cases hlt:k<L.length
  ·obtain⟨lb,lo,rfl,hlb,hck⟩:=HLJ.out k hlt;have hck':=(HB.out.cell (p:=⟨lb,lo+k,none⟩) (show lb<w.heap.size by omega)).trans hck;clear hck;have hf:=HLT.out k;have htk:Hid (L.take (k+1)=L.take k++[L.getD k 0]):=by
    show L.take (k+1)=_
    rw[List.take_succ_eq_append_getElem hlt,List.getD_eq_getElem?_getD,List.getElem?_eq_getElem hlt,Option.getD_some]
   generalize hfv:L.getD k 0=f at hck' hf htk;have HFV:Hid (L.getD k 0=f):=hfv;clear hfv;have hlen':bs.length<=maxLen:=hn;have hfit:Hid (Cp 109 #[zp w.heap.size,.int .i64 (f:Int)] wr fun e w'=>e=.returned (.bool (r.fits x.n (Wp.short bs) f))/\∃k,w'=wr.drewN k):=by
    have hbx:=HB1.out.box;unfold Sl.v at hbx;rw[HXN.out]at hbx;have h:=b1a B w.heap.size f r x.a x.c bs wr hf hn (HL.out.below (HB.out.mono hBw)) hbx (HS.out.below HB.out);rw[<-HXN.out]at h;exact h
   cases hfb:r.fits x.n (Wp.short bs) f
   ·have hv:Hid (jo r x (Wp.short bs)=false):=by
     show jo r x (Wp.short bs)=false
     rw[hfin.out];have hm:f∈L:=by
      rw[<-HFV.out,List.getD_eq_getElem?_getD,List.getElem?_eq_getElem hlt,Option.getD_some];exact List.getElem_mem hlt
     have:L.all (r.fits x.n (Wp.short bs))=false:=List.all_eq_false.2 ⟨f,hm,by rw[hfb];simp⟩;rw[this,Bool.false_and]
    rw[hfb]at hfit;clear hfb;go_wp2_with fail;refine(hfit.out).mono ?_;rintro e w2 ⟨rfl,kk,rfl⟩;go_wp2_with fail;go_ret;exact⟨js hv.out.symm,below_drewN HB.out kk⟩
   ·rw[hfb]at hfit;have HFB:Hid (r.fits x.n (Wp.short bs) f=true):=hfb;clear hfb;obtain⟨ov,hov⟩:=HB2.out.cell (qK f) (b7l f hf);have hoz:=HB2.out.frozen (qK f);go_wp2_with fail;refine(hfit.out).mono ?_;rintro e w2 ⟨rfl,kk,rfl⟩;go_wp2_with fail;refine(a9g B (w.heap.size+1) f ov (wr.drewN kk) hf (HL.out.below (below_drewN (HB.out.mono hBw) kk)) hov hoz).mono ?_;rintro e w2 ⟨rfl,hw2⟩;have hr1:Below w.heap.size w w2:=by rw[hw2];exact(below_drewN HB.out kk).setCell (show w.heap.size<=w.heap.size+1 by omega) _
    have hr2:w2.heap.size=w.heap.size+2:=by rw[hw2,World.size_setCell];exact HH.out
    have hr3:Blk w2 w.heap.size r x:=by
     unfold Blk;rw[hw2,heap_setCell_other _ _ _ _ (by simp)];exact HB1.out
    have hr4:Blk w2 (w.heap.size+1) (jX {r with op:=0} (L.take (k+1))) (kD x (L.take (k+1))):=by
     rw[htk.out,hw2];unfold jX kD;rw[List.foldl_append,List.foldl_append];exact Blk.erase (w:=wr.drewN kk) (show Blk (wr.drewN kk) _ _ _ from HB2.out) f hf
    have hr5:(L.take (k+1)).all (r.fits x.n (Wp.short bs))=true:=by
     rw[htk.out,List.all_append,HA.out];simp[HFB.out]
    clear hw2
    go_hidden (go_wp2_with fail)
    go_roundw
    case rel=>
     first
      | exact⟨k+1,by omega,by go_num,hr1,hr2,hr3,hr4,hr5⟩
      | ((repeat apply Exists.intro);exact⟨⟨k+1,by omega,by go_num,hr1,hr2,hr3,hr4,hr5⟩,rfl⟩)
    case measure=>simp[intOf];omega
  ·have hkL:L.take k=L:=List.take_of_length_le (by omega);have hv:Hid (jo r x (Wp.short bs)=a0M (jX {r with op:=0} L) (kD x L).n):=by
    show jo r x (Wp.short bs)=_
    rw[hfin.out,<-hkL,HA.out,Bool.true_and]
   have hblk:=HB2.out;rw[hkL]at hblk;unfold Blk at hblk;clear hkL;have HK:Hid _:=hblk;clear hblk;generalize jX {r with op:=0} L=r2 at hv HK;generalize kD x L=x2 at hv HK;go_wp2_with (refine wpList_load_row rfl 27 _ rfl (w.heap.size+1) rfl 27 _ (0,0) _ HK.out Tryz.underlying27 rfl (by kernel_rfl) ?_);refine(a8V r2 x2.a x2.n x2.c wr).mono ?_;rintro e w2 ⟨rfl,hb2⟩;go_wp2_with fail;go_ret;exact⟨js hv.out.symm,HB.out.trans (hb2.mono (by have:=HB.out.size;omega))⟩
theorem xK (B:Nat)(r:Wp.Rq)(x:Sl)(bs:List ByteArray)(w:World)(h:Wp.isOp r.op=false)(hL:Lays B w)(hBw:B<=w.heap.size):
  Cp 81 #[.agg (ja r x.v)] w fun e w'=>e=.returned (.bool (jo r x (Wp.short bs)))/\Below w.heap.size w w':=by
 have hv:Hid (jo r x (Wp.short bs)=false):=by
  show jo r x (Wp.short bs)=false
  unfold jo;rw[h,Bool.false_and]
 have HO:Hid (∀W,Lays B W->Cp 85 #[.int .u8 (r.op.toNat:Int)] W fun e w'=>e=.returned (.bool false)/\w'=W):=by
  intro W hW;have:=a1h B r.op W hW
  rwa [h]at this
 have HL:Hid (Lays B w):=hL;clear hL h;unfold ja Sl.v;go_enter Tryz.func81,Tryz.ntmps81;go_wp2_with fail;refine(HO.out _ (HL.out.below (((Below.refl _ _).alloc (Nat.le_refl _) _).mono hBw))).mono ?_;rintro e w1 ⟨rfl,rfl⟩;go_wp2_with fail;go_ret;exact⟨js hv.out.symm,(Below.refl _ _).alloc (Nat.le_refl _) _⟩
theorem a1M (B:Nat)(r:Wp.Rq)(x:Sl)(bs:List ByteArray)(w:World)(hxn:x.n=bs.length)(hn:bs.length<=maxLen)(hL:Lays B w)(hBw:B<=w.heap.size)(hS:Strs w x.a bs):
  Cp 81 #[.agg (ja r x.v)] w fun e w'=>e=.returned (.bool (jo r x (Wp.short bs)))/\Below w.heap.size w w':=by
 cases h:Wp.isOp r.op
 ·exact xK B r x bs w h hL hBw
 ·simp only[Wp.isOp,Bool.and_eq_true,decide_eq_true_eq]at h;exact a9O B r x bs w (r.op.toNat-65) (by omega) (by omega) h.2 hxn hn hL hBw hS
def kO (l:List UInt8):List Value:=l.map fun b=>.int .u8 (b.toNat:Int)
def OwnB (w:World)(base:Nat)(v:Value)(l:List UInt8):Prop:=w.ownsRow base 5 1 v l.length (kO l)
def je (n k:Nat):List UInt8:=(List.range k).map fun j=>UInt8.ofNat (n / 256^j % 256)
theorem a1D (n k:Nat):je n (k+1)=je n k++[UInt8.ofNat (n / 256^k % 256)]:=by
 simp[je,List.range_succ]
theorem jc (n k:Nat):(je n k).length=k:=by simp[je]
theorem zh:(Tryz.prog.info? 5).map (fun i=>(i.zero,i.size,i.bytes))=some (some (.int .u8 0),1,1):=by kernel_rfl
theorem a0o (m:Nat):(Value.int .u8 ((m:Int) % 256))=.int .u8 ((UInt8.ofNat (m % 256)).toNat:Int):=by
 have h:(UInt8.ofNat (m % 256)).toNat=m % 256:=UInt8.toNat_ofNat_of_lt' (by have:=Nat.mod_lt m (show 0<256 by decide);simpa using this);rw[h];exact congrArg (Value.int .u8) (by omega)
theorem OwnB.snoc {v:Value}{c:UInt8}{x:Value}(hx:x=.int .u8 (c.toNat:Int))(h:w.ownsRow base 5 1 v (l.length+1) (kO l++[x])):OwnB w base v (l++[c]):=by
 unfold OwnB kO at*
 rw[List.length_append,List.map_append,List.map_cons,List.map_nil,<-hx];exact h
theorem qo (base:Nat)(v:Value)(l:List UInt8)(n size:Nat)(w:World)(hn:n<4294967296)(hs:size<=8)(hl:l.length<=1099511627776)(hb:base<=w.heap.size)(hown:OwnB w base v l):
  Cp 91 #[v,.int .i64 (n:Int),.int .i64 (size:Int)] w fun e w'=>∃v',e=.returned v'/\OwnB w' base v' (l++je n size)/\Below base w w':=by
 obtain⟨i0,hi,hz0,hz1,hz2⟩:=info_parts zh;go_enter Tryz.func91,Tryz.ntmps91
 go_wp2
 go_loopw [0,1,8] (fun o m i wr=>∃k:Nat,k<=size/\i=.int .i64 k/\m=.int .i64 ((n / 256^k:Nat):Int)/\OwnB wr base o (l++je n k)/\Below base w wr) (fun _ _ i _=>size-(intOf i).toNat)
 case atStart=>exact⟨0,Nat.zero_le _,rfl,by simp,by simpa [je]using hown,Below.refl _ _⟩
 case round=>
  obtain⟨k,hk,rfl,rfl,ho,hbr⟩:=hrel
  by_cases hlt:k<size
  ·have hle:(l++je n k).length<=1099511627800:=by rw[List.length_append,jc];omega
   have hm:n / 256^k<4294967296:=Nat.lt_of_le_of_lt (Nat.div_le_self _ _) hn;have hdiv:Hid (n / 256^(k+1)=n / 256^k / 256):=by
    show _=_
    rw[Nat.pow_succ,Nat.div_div_eq_div_mul]
   have hsn:=a0o (n / 256^k);have HSN:=zH hsn;have hls:Hid (l++je n (k+1)=(l++je n k)++[UInt8.ofNat (n / 256^k % 256)]):=by
    show _=_
    rw[a1D,List.append_assoc]
   have HBR:=zH hbr;have hsz:=hbr.size;clear hsn hbr hown;generalize n / 256^k=m at hm hdiv HSN hls;generalize l++je n k=L at ho hle hls;have HO:=zH ho;clear ho;go_wp2_with (at_builtin;refine wpList_append_own _ rfl _ _ 74 rfl base 5 i0 (.int .u8 0) 1 1 Tryz.underlying74 hi hz0 hz1 hz2 rfl (by decide) _ _ _ rfl (World.ownsRow.alloc HO.out _) ⟨wr.heap.size,0,none⟩ 1 1 [.int .u8 ((m:Int) % 256)] rfl rfl ?c1 ?c2 ?c3 ?c4 ?c5 ?_)
   case c1=>exact cell_one_new _ _ _
   case c2=>intro u hu;simp at hu;subst hu;rfl
   case c3=>unfold maxLen;omega
   case c4=>omega
   case c5=>simp;omega
   intro v' w1 hown' hgrow _;have hr1:OwnB w1 base v' (l++je n (k+1)):=by rw[hls.out];exact OwnB.snoc HSN.out hown'
   have hr2:Below base w w1:=by
    refine Below.grown ((HBR.out).alloc (by omega) _) hgrow (by simp;omega) ?_;intro k hk;exact(World.ownsRow.lt HO.out k hk).1
   clear hown' hgrow
   go_wp2
   go_roundw
   case rel=>exact⟨k+1,by omega,by go_num,by rw[hdiv.out];go_num,hr1,hr2⟩
   case measure=>simp[intOf];omega
  ·have he:k=size:=by omega
   subst he
   go_wp2
   go_ret;exact⟨_,rfl,ho,hbr⟩
theorem a0O (s:ByteArray):kO s.data.toList=Lib.strCells s:=by
 simp[kO,Lib.strCells]
def jx (s:ByteArray):List UInt8:=je s.size 1++s.data.toList
def jK (bs:List ByteArray):List UInt8:=bs.flatMap jx
theorem jp (s:ByteArray):(jx s).length=1+s.size:=by rw[jx,List.length_append,jc];rfl
theorem a5l (bs:List ByteArray)(h:∀s∈bs,s.size<=65535):(jK bs).length<=65536*bs.length:=by
 induction bs with
 | nil=>simp[jK]
 | cons x r ih=>
  have h1:=ih (fun s hs=>h s (List.mem_cons_of_mem _ hs));have h2:=h x List.mem_cons_self;have e:jK (x::r)=jx x++jK r:=by simp[jK]
  rw[e,List.length_append,jp,List.length_cons];omega
def jU (r:Wp.Rq)(bs:List ByteArray)(f:Nat):List UInt8:=
 if Wp.shape f=0 then [r.let f] else if Wp.shape f=1 then je (r.num f).toNat 1 else if Wp.shape f=2 then je (r.num f).toNat 2 else if Wp.shape f=3 then jx (r.txt f) else je bs.length 1++jK bs
theorem jt (r:Wp.Rq)(bs:List ByteArray)(f:Nat)(h1:f≠1)(h:r.fits bs.length (Wp.short bs) f=true):Wp.least f<=r.measure bs.length f/\r.measure bs.length f<=Wp.most f:=by
 unfold Wp.Rq.fits at h;rw[if_neg (fun e=>h1 e.1)]at h
 by_cases a:r.measure bs.length f<Wp.least f
 ·rw[if_pos a]at h;cases h
 ·rw[if_neg a]at h
  by_cases b:Wp.most f<r.measure bs.length f
  ·rw[if_pos b]at h;cases h
  ·omega
theorem a2G (r:Wp.Rq)(bs:List ByteArray)(h:r.fits bs.length (Wp.short bs) 14=true):∀s∈bs,s.size<=255:=by
 unfold Wp.Rq.fits at h;rw[if_neg (fun e=>by cases e.1)]at h
 by_cases a:r.measure bs.length 14<Wp.least 14
 ·rw[if_pos a]at h;cases h
 ·rw[if_neg a]at h
  by_cases b:Wp.most 14<r.measure bs.length 14
  ·rw[if_pos b]at h;cases h
  ·rw[if_neg b,if_neg (by decide),if_neg (by decide),if_pos rfl]at h;intro s hs;have:=List.all_eq_true.1 h s hs;simpa using this
def kW (r:Wp.Rq)(bs:List ByteArray)(fs:List Nat):List UInt8:=fs.flatMap (jU r bs)
theorem a2c (bs:List ByteArray)(h:∀s∈bs,s.size<=255):(jK bs).length<=256*bs.length:=by
 induction bs with
 | nil=>simp[jK]
 | cons x r ih=>
  have h1:=ih (fun s hs=>h s (List.mem_cons_of_mem _ hs));have h2:=h x List.mem_cons_self;have e:jK (x::r)=jx x++jK r:=by simp[jK]
  rw[e,List.length_append,jp,List.length_cons];omega
theorem a5C (r:Wp.Rq)(bs:List ByteArray)(f:Nat)(hf:f<15)(h:r.fits bs.length (Wp.short bs) f=true):(jU r bs f).length<=2600:=by
 have hx:f=0\/f=1\/f=2\/f=3\/f=4\/f=5\/f=6\/f=7\/f=8\/f=9\/f=10\/f=11\/f=12\/f=13\/f=14:=by omega
 rcases hx with rfl|rfl|rfl|rfl|rfl|rfl|rfl|rfl|rfl|rfl|rfl|rfl|rfl|rfl|rfl
 ·show [_].length<=2600;simp
 ·show [_].length<=2600;simp
 ·show (je _ _).length<=2600;rw[jc];omega
 ·show (je _ _).length<=2600;rw[jc];omega
 ·show (je _ _).length<=2600;rw[jc];omega
 ·show (je _ _).length<=2600;rw[jc];omega
 ·show (je _ _).length<=2600;rw[jc];omega
 ·show (je _ _).length<=2600;rw[jc];omega
 ·show (je _ _).length<=2600;rw[jc];omega
 ·have hb:((r.grp.size:Nat):Int)<=8:=(jt r bs 9 (by decide) h).2
  show (jx r.grp).length<=2600;rw[jp];omega
 ·have hb:((r.ded.size:Nat):Int)<=8:=(jt r bs 10 (by decide) h).2
  show (jx r.ded).length<=2600;rw[jp];omega
 ·have hb:((r.bod.size:Nat):Int)<=255:=(jt r bs 11 (by decide) h).2
  show (jx r.bod).length<=2600;rw[jp];omega
 ·have hb:((r.att.size:Nat):Int)<=8:=(jt r bs 12 (by decide) h).2
  show (jx r.att).length<=2600;rw[jp];omega
 ·have hb:((r.han.size:Nat):Int)<=255:=(jt r bs 13 (by decide) h).2
  show (jx r.han).length<=2600;rw[jp];omega
 ·have hb:((bs.length:Nat):Int)<=10:=(jt r bs 14 (by decide) h).2;have hs:=a2c bs (a2G r bs h)
  show (je _ _++jK bs).length<=2600
  rw[List.length_append,jc];omega
def qc (r:Wp.Rq)(x:Sl)(bs:List ByteArray):ByteArray:=if jo r x (Wp.short bs)=true then ⟨(r.op::kW r bs (Wp.lay (r.op.toNat-65))).toArray⟩ else ⟨#[]⟩
def xY (r:Wp.Rq)(x:Sl)(bs:List ByteArray):Int:=if jo r x (Wp.short bs)=true then 0 else 1
theorem OwnB.str {v:Value}(h:OwnB w base v l)(hl:0<l.length):(convert 74 9 v).run Tryz.prog w=.ok (.string ⟨l.toArray⟩) w:=by
 have h':=h;obtain⟨h1,h2⟩:=h;rcases h2 with ⟨_,h2⟩|⟨g,cap,cur,rfl,hg,hh,r⟩
 ·omega
 ·refine run_convert_bytes_back (P:=Tryz.prog) w 74 9 5 ⟨g,0,none⟩ cap l Tryz.underlying74 Tryz.underlying5 Tryz.underlying9 ?_;intro j hj;exact World.ownsRow.cells h' (g:=g) rfl j _ (by simp[kO,hj])
theorem a4g {t:ByteArray}{a b:Int}(h1:s=t)(h2:a=b):Ending.returned (.tuple #[.string s,.int .i64 a])=.returned (.tuple #[.string t,.int .i64 b]):=by rw[h1,h2]
def stS (s:ByteArray)(f:Nat):ByteArray:=if Wp.shape f=0 then lf s 1 else if Wp.shape f=1 then lf s 1 else if Wp.shape f=2 then lf s 2 else if Wp.shape f=3 then txL s else rdS (nmN s 1) (lf s 1)
def stF (s:ByteArray)(fl:Bool)(f:Nat):Bool:=if Wp.shape f=0 then bad s fl 1 else if Wp.shape f=1 then bad s fl 1 else if Wp.shape f=2 then bad s fl 2 else if Wp.shape f=3 then txF s fl else rdF (nmN s 1) (lf s 1) (bad s fl 1)
def kF (r:Wp.Rq)(s:ByteArray)(f:Nat):Wp.Rq:=
 if f=0 then {r with q:=UInt8.ofNat (nmN s 1 % 256)} else if f=1 then {r with d:=UInt8.ofNat (nmN s 1 % 256)} else if f=2 then {r with vis:=(nmN s 2:Nat)} else if f=3 then {r with win:=(nmN s 2:Nat)} else if f=4 then {r with rcv:=(nmN s 1:Nat)} else if f=5 then {r with quo:=(nmN s 1:Nat)} else if f=6 then {r with mx:=(nmN s 1:Nat)} else if f=7 then {r with tic:=(nmN s 2:Nat)} else if f=8 then {r with tic:=(nmN s 2:Nat)} else if f=9 then {r with grp:=txS s} else if f=10 then {r with ded:=txS s} else if f=11 then {r with bod:=txS s} else if f=12 then {r with att:=txS s} else if f=13 then {r with han:=txS s} else r
def b9n (s:ByteArray)(f:Nat):Value:=if f<=1 then .int .u8 ((UInt8.ofNat (nmN s 1 % 256)).toNat:Int) else if Wp.shape f=1 then .int .i64 (nmN s 1:Nat) else if Wp.shape f=2 then .int .i64 (nmN s 2:Nat) else .string (txS s)
theorem a9a (r:Wp.Rq)(x:Sl)(s:ByteArray)(f:Nat)(hf:f<14):(ja r x.v).setIfInBounds (qK f) (b9n s f)=ja (kF r s f) x.v:=by
 have hx:f=0\/f=1\/f=2\/f=3\/f=4\/f=5\/f=6\/f=7\/f=8\/f=9\/f=10\/f=11\/f=12\/f=13:=by omega
 rcases hx with rfl|rfl|rfl|rfl|rfl|rfl|rfl|rfl|rfl|rfl|rfl|rfl|rfl|rfl<;>rfl
theorem b0v (n:Nat)(h:n<256):Value.int .u8 (n:Int)=.int .u8 ((UInt8.ofNat (n % 256)).toNat:Int):=by
 rw[<-a0o,show ((n:Int) % 256)=n by omega]
structure G2 (b c:Nat)(w w':World):Prop where
 os:w'.os=w.os
 tape:w'.tape=w.tape
 output:w'.output=w.output
 size:w.heap.size<=w'.heap.size
 block:∀k,k<w.heap.size->k≠b->k≠c->w'.heap[k]?=w.heap[k]?
structure RF (w w':World)(b c:Nat)(s:ByteArray)(fl:Bool)(r:Wp.Rq)(x:Sl)(f:Nat):Prop where
 rd:Rd w' b (stS s f) (stF s fl f)
 blk:∃x',Blk w' c (kF r s f) x'/\(f≠14->x'=x)/\(f=14->∃g,w.heap.size<=g/\x'=⟨some ⟨g,0,none⟩,nmN s 1,nmN s 1⟩/\w'.heap[g]?=some (.cells (kR (rdT (nmN s 1) (lf s 1)) (nmN s 1)) 9 (0,0)))
 g2:G2 b c w w'
theorem a4h {b c:Nat}{x:Sl}(f o:Nat)(v:Value)(ho:o=qK f)(hbc:b≠c)(h1:Rd w1 b (stS s f) (stF s fl f))(h2:Blk w1 c r x)(h3:w.grownBy w1 (some b))(hf:f<14)(hv:v=b9n s f):
  RF w (w1.setCell ⟨c,o,none⟩ v) b c s fl r x f:=by
 subst ho hv;refine⟨?_,⟨x,?_,fun _=>rfl,fun e=>by omega⟩,⟨h3.os,h3.tape,h3.output,by simp;exact h3.size,fun k hk hkb hkc=>?_⟩⟩
 ·unfold Rd;rw[heap_setCell_other _ _ _ _ (show b≠c from hbc)];exact h1
 ·unfold Blk;rw[<-a9a r x s f hf];exact heap_setCell_same w1 c (qK f) _ 27 _ h2
 ·rw[heap_setCell_other _ _ _ _ (show k≠c from hkc)];exact h3.block k hk (by intro e;exact hkb (Option.some.inj e))
theorem a6j {b c:Nat}{x:Sl}(g:Nat)(hbc:b≠c)(hb:b<w.heap.size)(hc:c<w.heap.size)(h1:Rd w1 b (stS s 14) (stF s fl 14))(h2:Blk w1 c r x)(h3:w.grownBy w1 (some b))(hg:w.heap.size<=g)
  (hrow:w1.heap[g]?=some (.cells (kR (rdT (nmN s 1) (lf s 1)) (nmN s 1)) 9 (0,0))):
  RF w (w1.setCell ⟨c,14,none⟩ (.slice (some ⟨g,0,none⟩) (nmN s 1) (nmN s 1))) b c s fl r x 14:=by
 refine⟨?_,⟨⟨some ⟨g,0,none⟩,nmN s 1,nmN s 1⟩,?_,fun e=>absurd rfl e,fun _=>⟨g,hg,rfl,?_⟩⟩,⟨h3.os,h3.tape,h3.output,by simp;exact h3.size,fun k hk hkb hkc=>?_⟩⟩
 ·unfold Rd;rw[heap_setCell_other _ _ _ _ (show b≠c from hbc)];exact h1
 ·unfold Blk;exact heap_setCell_same w1 c 14 _ 27 _ h2
 ·rw[heap_setCell_other _ _ _ _ (show g≠c by omega)];exact hrow
 ·rw[heap_setCell_other _ _ _ _ (show k≠c from hkc)];exact h3.block k hk (by intro e;exact hkb (Option.some.inj e))
theorem a5s {b c:Nat}{x:Sl}(hK:Blk w c r x)(hbc:b≠c)(hc:c<w.heap.size)(h2:w.grownBy w1 (some b)):Blk w1 c r x:=by
 unfold Blk;rw[h2.block c hc (by intro e;exact hbc (Option.some.inj e).symm)];exact hK
theorem qf (B b c:Nat)(s:ByteArray)(fl:Bool)(r:Wp.Rq)(x:Sl)(w:World)(f t n o:Nat)(F k N:Int)
  (hx:f=0/\t=0/\n=1/\o=1/\F=0/\k=0/\N=1\/f=1/\t=3/\n=1/\o=2/\F=1/\k=0/\N=1\/f=2/\t=6/\n=2/\o=3/\F=2/\k=2/\N=2\/f=3/\t=9/\n=2/\o=4/\F=3/\k=2/\N=2\/f=4/\t=12/\n=1/\o=5/\F=4/\k=1/\N=1\/f=5/\t=15/\n=1/\o=6/\F=5/\k=1/\N=1\/f=6/\t=18/\n=1/\o=7/\F=6/\k=1/\N=1\/f=7/\t=21/\n=2/\o=8/\F=7/\k=2/\N=2\/f=8/\t=24/\n=2/\o=8/\F=8/\k=2/\N=2)
  (hs:s.size<=maxLen)(hbc:b≠c)(hb:b<w.heap.size)(hc:c<w.heap.size)(hL:Lays B w)(hR:Rd w b s fl)(hK:Blk w c r x):
  Cp 86 #[zp b,zp c,.int .i64 F] w fun e w'=>e=.returned (.tuple #[])/\RF w w' b c s fl r x f:=by
 have hr:=hL.2.1;have ⟨t0,hnum,ho⟩:w.cell? ⟨1,t,none⟩=some (.int .i64 k)/\Hid (Cp 84 #[zp b,.int .i64 N] w fun e w'=>e=.returned (.int .i64 (nmN s n:Nat))/\Rd w' b (stS s f) (stF s fl f)/\w.grownBy w' (some b)/\w'.heap.size=w.heap.size)/\o<15:=by
  rcases hx with ⟨rfl,rfl,rfl,rfl,rfl,rfl,rfl⟩|⟨rfl,rfl,rfl,rfl,rfl,rfl,rfl⟩|⟨rfl,rfl,rfl,rfl,rfl,rfl,rfl⟩|⟨rfl,rfl,rfl,rfl,rfl,rfl,rfl⟩|⟨rfl,rfl,rfl,rfl,rfl,rfl,rfl⟩|⟨rfl,rfl,rfl,rfl,rfl,rfl,rfl⟩|⟨rfl,rfl,rfl,rfl,rfl,rfl,rfl⟩|⟨rfl,rfl,rfl,rfl,rfl,rfl,rfl⟩|⟨rfl,rfl,rfl,rfl,rfl,rfl,rfl⟩<;>
   exact⟨hr _ (by decide),qJ b s fl _ w (by decide) hs hR,by decide⟩
 have HC:Hid (∀w1,Blk w1 c r x->(∃v,w1.cell? ⟨c,o,none⟩=some v)/\w1.frozen? ⟨c,o,none⟩=false):=fun w1 h=>⟨h.cell o ho,h.frozen o⟩
 have hnb:=nm1 s;have HK:=zH hK;clear hr hL hR hK ho;rcases hx with ⟨rfl,rfl,rfl,rfl,rfl,rfl,rfl⟩|⟨rfl,rfl,rfl,rfl,rfl,rfl,rfl⟩|⟨rfl,rfl,rfl,rfl,rfl,rfl,rfl⟩|⟨rfl,rfl,rfl,rfl,rfl,rfl,rfl⟩|⟨rfl,rfl,rfl,rfl,rfl,rfl,rfl⟩|⟨rfl,rfl,rfl,rfl,rfl,rfl,rfl⟩|⟨rfl,rfl,rfl,rfl,rfl,rfl,rfl⟩|⟨rfl,rfl,rfl,rfl,rfl,rfl,rfl⟩|⟨rfl,rfl,rfl,rfl,rfl,rfl,rfl⟩
 all_goals
  go_enter Tryz.func86,Tryz.ntmps86;go_wp2_with (first|(go_at_call 112;go_in)|(go_at_call 113;go_in)|(go_at_call 115;go_in));refine(hnum.out).mono ?_;rintro e w1 ⟨rfl,h1,h2,h3⟩;have hk1:=a5s HK.out hbc hc h2;obtain⟨⟨ov,hov⟩,hfz⟩:=HC.out w1 hk1;have H1:=zH (And.intro h1 (And.intro hk1 h2));clear h1 h2 h3 hk1
  go_wp2
  go_end0;exact⟨rfl,a4h _ _ _ rfl hbc H1.out.1 H1.out.2.1 H1.out.2.2 (by decide) (by first|exact b0v _ hnb|rfl)⟩
theorem xb (B b c:Nat)(s:ByteArray)(fl:Bool)(r:Wp.Rq)(x:Sl)(w:World)(f t:Nat)(F:Int)
  (hx:f=9/\t=27/\F=9\/f=10/\t=30/\F=10\/f=11/\t=33/\F=11\/f=12/\t=36/\F=12\/f=13/\t=39/\F=13)
  (hs:s.size<=maxLen)(hbc:b≠c)(hb:b<w.heap.size)(hc:c<w.heap.size)(hL:Lays B w)(hR:Rd w b s fl)(hK:Blk w c r x):
  Cp 86 #[zp b,zp c,.int .i64 F] w fun e w'=>e=.returned (.tuple #[])/\RF w w' b c s fl r x f:=by
 have hr:=hL.2.1;have ⟨t0,hnum,ho⟩:w.cell? ⟨1,t,none⟩=some (.int .i64 3)/\Hid (Cp 118 #[zp b] w fun e w'=>e=.returned (.string (txS s))/\Rd w' b (stS s f) (stF s fl f)/\w.grownBy w' (some b))/\f<15:=by
  rcases hx with ⟨rfl,rfl,rfl⟩|⟨rfl,rfl,rfl⟩|⟨rfl,rfl,rfl⟩|⟨rfl,rfl,rfl⟩|⟨rfl,rfl,rfl⟩<;>
   exact⟨hr _ (by decide),qh b s fl w hs hb hR,by decide⟩
 have HC:Hid (∀w1,Blk w1 c r x->(∃v,w1.cell? ⟨c,f,none⟩=some v)/\w1.frozen? ⟨c,f,none⟩=false):=fun w1 h=>⟨h.cell f ho,h.frozen f⟩
 have HK:=zH hK;clear hr hL hR hK ho;rcases hx with ⟨rfl,rfl,rfl⟩|⟨rfl,rfl,rfl⟩|⟨rfl,rfl,rfl⟩|⟨rfl,rfl,rfl⟩|⟨rfl,rfl,rfl⟩
 all_goals
  go_enter Tryz.func86,Tryz.ntmps86;go_wp2_with (first|(go_at_call 112;go_in)|(go_at_call 113;go_in)|(go_at_call 115;go_in));refine(hnum.out).mono ?_;rintro e w1 ⟨rfl,h1,h2⟩;have hk1:=a5s HK.out hbc hc h2;obtain⟨⟨ov,hov⟩,hfz⟩:=HC.out w1 hk1;have H1:=zH (And.intro h1 (And.intro hk1 h2));clear h1 h2 hk1
  go_wp2
  go_end0;exact⟨rfl,a4h _ _ _ rfl hbc H1.out.1 H1.out.2.1 H1.out.2.2 (by decide) rfl⟩
theorem a4Y (B b c:Nat)(s:ByteArray)(fl:Bool)(r:Wp.Rq)(x:Sl)(w:World)(hs:s.size<=maxLen)(hbc:b≠c)(hb:b<w.heap.size)(hc:c<w.heap.size)(hL:Lays B w)(hR:Rd w b s fl)(hK:Blk w c r x):
  Cp 86 #[zp b,zp c,.int .i64 14] w fun e w'=>e=.returned (.tuple #[])/\RF w w' b c s fl r x 14:=by
 have hr:=hL.2.1;have t42:w.cell? ⟨1,42,none⟩=some (.int .i64 4):=hr 42 (by decide);have hnum:=zH (b0b b s fl w hs hb hR);have HK:=zH hK;clear hr hL hR hK;go_enter Tryz.func86,Tryz.ntmps86;go_wp2_with (first|(go_at_call 112;go_in)|(go_at_call 113;go_in)|(go_at_call 115;go_in));refine(hnum.out).mono ?_;rintro e w1 ⟨g,hg,rfl,hrow,h1,h2⟩;have hk1:Blk w1 c r x:=by
  unfold Blk;rw[h2.block c hc (by intro e;exact hbc (Option.some.inj e).symm)];exact HK.out
 obtain⟨ov,hov⟩:=hk1.cell 14 (by decide);have hfz:=hk1.frozen 14;have H1:Hid (Rd w1 b (stS s 14) (stF s fl 14)/\Blk w1 c r x/\w.grownBy w1 (some b)):=⟨h1,hk1,h2⟩;have HG:Hid (w.heap.size<=g/\w1.heap[g]?=some (.cells (kR (rdT (nmN s 1) (lf s 1)) (nmN s 1)) 9 (0,0))):=⟨hg,hrow⟩;clear hg hrow;clear h1 h2 hk1
 go_wp2
 go_end0;exact⟨rfl,a6j g hbc hb hc H1.out.1 H1.out.2.1 H1.out.2.2 HG.out.1 HG.out.2⟩
theorem a3y (B b c f:Nat)(s:ByteArray)(fl:Bool)(r:Wp.Rq)(x:Sl)(w:World)(hf:f<15)(hs:s.size<=maxLen)(hbc:b≠c)(hb:b<w.heap.size)(hc:c<w.heap.size)(hL:Lays B w)(hR:Rd w b s fl)(hK:Blk w c r x):
  Cp 86 #[zp b,zp c,.int .i64 (f:Int)] w fun e w'=>e=.returned (.tuple #[])/\RF w w' b c s fl r x f:=by
 have hx:f=0\/f=1\/f=2\/f=3\/f=4\/f=5\/f=6\/f=7\/f=8\/f=9\/f=10\/f=11\/f=12\/f=13\/f=14:=by omega
 rcases hx with rfl|rfl|rfl|rfl|rfl|rfl|rfl|rfl|rfl|rfl|rfl|rfl|rfl|rfl|rfl
 ·exact qf B b c s fl r x w _ 0 1 1 _ 0 1 (by simp) hs hbc hb hc hL hR hK
 ·exact qf B b c s fl r x w _ 3 1 2 _ 0 1 (by simp) hs hbc hb hc hL hR hK
 ·exact qf B b c s fl r x w _ 6 2 3 _ 2 2 (by simp) hs hbc hb hc hL hR hK
 ·exact qf B b c s fl r x w _ 9 2 4 _ 2 2 (by simp) hs hbc hb hc hL hR hK
 ·exact qf B b c s fl r x w _ 12 1 5 _ 1 1 (by simp) hs hbc hb hc hL hR hK
 ·exact qf B b c s fl r x w _ 15 1 6 _ 1 1 (by simp) hs hbc hb hc hL hR hK
 ·exact qf B b c s fl r x w _ 18 1 7 _ 1 1 (by simp) hs hbc hb hc hL hR hK
 ·exact qf B b c s fl r x w _ 21 2 8 _ 2 2 (by simp) hs hbc hb hc hL hR hK
 ·exact qf B b c s fl r x w _ 24 2 8 _ 2 2 (by simp) hs hbc hb hc hL hR hK
 ·exact xb B b c s fl r x w _ 27 _ (by simp) hs hbc hb hc hL hR hK
 ·exact xb B b c s fl r x w _ 30 _ (by simp) hs hbc hb hc hL hR hK
 ·exact xb B b c s fl r x w _ 33 _ (by simp) hs hbc hb hc hL hR hK
 ·exact xb B b c s fl r x w _ 36 _ (by simp) hs hbc hb hc hL hR hK
 ·exact xb B b c s fl r x w _ 39 _ (by simp) hs hbc hb hc hL hR hK
 ·exact a4Y B b c s fl r x w hs hbc hb hc hL hR hK
end Go.Proofs.YtbdobaapadlcjaaGreatDoor
