import Derived.Test.YtbdobaapadlcjabGreatDoorHy00
set_option maxHeartbeats 2000000
set_option linter.unusedVariables false
set_option linter.unusedSimpArgs false
namespace Go.Proofs.YtbdobaapadlcjabGreatDoor
open Go.RowKit
variable {w:World}{b:Nat}{r:Wp.Rq}
def offOf (f:Nat):Nat:=if f=14 then 14 else if f<=1 then f+1 else if f<=7 then f+1 else if f=8 then 8 else f
def zeroOf (f:Nat):Value:=if f<=1 then .int .u8 0 else if f<=8 then .int .i64 0 else if f<=13 then .string ⟨#[]⟩ else .slice none 0 0
theorem erase_any (B b f:Nat)(v:Value)(w:World)(hf:f<15)(hL:Lays B w)(hc:w.cell? ⟨b,offOf f,none⟩=some v)(hz:w.frozen? ⟨b,offOf f,none⟩=false):
  Calls Tryz.prog 84 #[.pointer (some ⟨b,0,none⟩),.int .i64 (f:Int)] w fun e w'=>e=.returned (.tuple #[])/\w'=w.setCell ⟨b,offOf f,none⟩ (zeroOf f):=by
 have hr:=hL.2.1;have hx:f=0\/f=1\/f=2\/f=3\/f=4\/f=5\/f=6\/f=7\/f=8\/f=9\/f=10\/f=11\/f=12\/f=13\/f=14:=by omega
 rcases hx with rfl|rfl|rfl|rfl|rfl|rfl|rfl|rfl|rfl|rfl|rfl|rfl|rfl|rfl|rfl
 ·have hc':w.cell? ⟨b,1,none⟩=some v:=hc;have hz':w.frozen? ⟨b,1,none⟩=false:=hz;have t0:w.cell? ⟨1,0,none⟩=some (.int .i64 0):=hr 0 (by decide);clear hc hz hr hL;go_enter Tryz.func84,Tryz.ntmps84
  go_wp2
  go_end0;exact⟨rfl,rfl⟩
 ·have hc':w.cell? ⟨b,2,none⟩=some v:=hc;have hz':w.frozen? ⟨b,2,none⟩=false:=hz;have t3:w.cell? ⟨1,3,none⟩=some (.int .i64 0):=hr 3 (by decide);clear hc hz hr hL;go_enter Tryz.func84,Tryz.ntmps84
  go_wp2
  go_end0;exact⟨rfl,rfl⟩
 ·have hc':w.cell? ⟨b,3,none⟩=some v:=hc;have hz':w.frozen? ⟨b,3,none⟩=false:=hz;have t6:w.cell? ⟨1,6,none⟩=some (.int .i64 2):=hr 6 (by decide);clear hc hz hr hL;go_enter Tryz.func84,Tryz.ntmps84
  go_wp2
  go_end0;exact⟨rfl,rfl⟩
 ·have hc':w.cell? ⟨b,4,none⟩=some v:=hc;have hz':w.frozen? ⟨b,4,none⟩=false:=hz;have t9:w.cell? ⟨1,9,none⟩=some (.int .i64 2):=hr 9 (by decide);clear hc hz hr hL;go_enter Tryz.func84,Tryz.ntmps84
  go_wp2
  go_end0;exact⟨rfl,rfl⟩
 ·have hc':w.cell? ⟨b,5,none⟩=some v:=hc;have hz':w.frozen? ⟨b,5,none⟩=false:=hz;have t12:w.cell? ⟨1,12,none⟩=some (.int .i64 1):=hr 12 (by decide);clear hc hz hr hL;go_enter Tryz.func84,Tryz.ntmps84
  go_wp2
  go_end0;exact⟨rfl,rfl⟩
 ·have hc':w.cell? ⟨b,6,none⟩=some v:=hc;have hz':w.frozen? ⟨b,6,none⟩=false:=hz;have t15:w.cell? ⟨1,15,none⟩=some (.int .i64 1):=hr 15 (by decide);clear hc hz hr hL;go_enter Tryz.func84,Tryz.ntmps84
  go_wp2
  go_end0;exact⟨rfl,rfl⟩
 ·have hc':w.cell? ⟨b,7,none⟩=some v:=hc;have hz':w.frozen? ⟨b,7,none⟩=false:=hz;have t18:w.cell? ⟨1,18,none⟩=some (.int .i64 1):=hr 18 (by decide);clear hc hz hr hL;go_enter Tryz.func84,Tryz.ntmps84
  go_wp2
  go_end0;exact⟨rfl,rfl⟩
 ·have hc':w.cell? ⟨b,8,none⟩=some v:=hc;have hz':w.frozen? ⟨b,8,none⟩=false:=hz;have t21:w.cell? ⟨1,21,none⟩=some (.int .i64 2):=hr 21 (by decide);clear hc hz hr hL;go_enter Tryz.func84,Tryz.ntmps84
  go_wp2
  go_end0;exact⟨rfl,rfl⟩
 ·have hc':w.cell? ⟨b,8,none⟩=some v:=hc;have hz':w.frozen? ⟨b,8,none⟩=false:=hz;have t24:w.cell? ⟨1,24,none⟩=some (.int .i64 2):=hr 24 (by decide);clear hc hz hr hL;go_enter Tryz.func84,Tryz.ntmps84
  go_wp2
  go_end0;exact⟨rfl,rfl⟩
 ·have hc':w.cell? ⟨b,9,none⟩=some v:=hc;have hz':w.frozen? ⟨b,9,none⟩=false:=hz;have t27:w.cell? ⟨1,27,none⟩=some (.int .i64 3):=hr 27 (by decide);clear hc hz hr hL;go_enter Tryz.func84,Tryz.ntmps84
  go_wp2
  go_end0;exact⟨rfl,rfl⟩
 ·have hc':w.cell? ⟨b,10,none⟩=some v:=hc;have hz':w.frozen? ⟨b,10,none⟩=false:=hz;have t30:w.cell? ⟨1,30,none⟩=some (.int .i64 3):=hr 30 (by decide);clear hc hz hr hL;go_enter Tryz.func84,Tryz.ntmps84
  go_wp2
  go_end0;exact⟨rfl,rfl⟩
 ·have hc':w.cell? ⟨b,11,none⟩=some v:=hc;have hz':w.frozen? ⟨b,11,none⟩=false:=hz;have t33:w.cell? ⟨1,33,none⟩=some (.int .i64 3):=hr 33 (by decide);clear hc hz hr hL;go_enter Tryz.func84,Tryz.ntmps84
  go_wp2
  go_end0;exact⟨rfl,rfl⟩
 ·have hc':w.cell? ⟨b,12,none⟩=some v:=hc;have hz':w.frozen? ⟨b,12,none⟩=false:=hz;have t36:w.cell? ⟨1,36,none⟩=some (.int .i64 3):=hr 36 (by decide);clear hc hz hr hL;go_enter Tryz.func84,Tryz.ntmps84
  go_wp2
  go_end0;exact⟨rfl,rfl⟩
 ·have hc':w.cell? ⟨b,13,none⟩=some v:=hc;have hz':w.frozen? ⟨b,13,none⟩=false:=hz;have t39:w.cell? ⟨1,39,none⟩=some (.int .i64 3):=hr 39 (by decide);clear hc hz hr hL;go_enter Tryz.func84,Tryz.ntmps84
  go_wp2
  go_end0;exact⟨rfl,rfl⟩
 ·have hc':w.cell? ⟨b,14,none⟩=some v:=hc;have hz':w.frozen? ⟨b,14,none⟩=false:=hz;have t42:w.cell? ⟨1,42,none⟩=some (.int .i64 4):=hr 42 (by decide);clear hc hz hr hL;go_enter Tryz.func84,Tryz.ntmps84
  go_wp2
  go_end0;exact⟨rfl,rfl⟩
def blankW (r:Wp.Rq)(n:Nat):Bool:=
 (bits .or .u8 (bits .or .u8 (r.op.toNat:Int) (r.q.toNat:Int)) (r.d.toNat:Int) == 0)&&
 (bits .or .i64 (bits .or .i64 (bits .or .i64 (bits .or .i64 (bits .or .i64 r.vis r.win) r.rcv) r.quo) r.mx) r.tic == 0)&&
 (r.grp.toList.isEmpty&&r.ded.toList.isEmpty&&r.bod.toList.isEmpty&&r.att.toList.isEmpty&&r.han.toList.isEmpty)&&((n:Int) == 0)
theorem blank_any (r:Wp.Rq)(a:Option Addr)(n cap:Nat)(w:World):
  zB 85 #[.agg (cellsOf r (.slice a n cap))] w (.bool (blankW r n)):=by
 unfold cellsOf blankW;go_enter Tryz.func85,Tryz.ntmps85
 go_wp2
 all_goals
  go_ret;refine⟨?_,(Below.refl _ _).alloc (Nat.le_refl _) _⟩;exact ret_bool (by simp[*])
def er (r:Wp.Rq)(f:Nat):Wp.Rq:=
 if f=0 then {r with q:=0} else if f=1 then {r with d:=0} else if f=2 then {r with vis:=0} else if f=3 then {r with win:=0} else if f=4 then {r with rcv:=0} else if f=5 then {r with quo:=0} else if f=6 then {r with mx:=0} else if f=7 then {r with tic:=0} else if f=8 then {r with tic:=0} else if f=9 then {r with grp:=⟨#[]⟩} else if f=10 then {r with ded:=⟨#[]⟩} else if f=11 then {r with bod:=⟨#[]⟩} else if f=12 then {r with att:=⟨#[]⟩} else if f=13 then {r with han:=⟨#[]⟩} else r
structure Sl where
 a:Option Addr
 n:Nat
 c:Nat
def Sl.v (x:Sl):Value:=.slice x.a x.n x.c
def eb (x:Sl)(f:Nat):Sl:=if f=14 then ⟨none,0,0⟩ else x
theorem cells_er (r:Wp.Rq)(x:Sl)(f:Nat)(hf:f<15):(cellsOf r x.v).setIfInBounds (offOf f) (zeroOf f)=cellsOf (er r f) (eb x f).v:=by
 have hx:f=0\/f=1\/f=2\/f=3\/f=4\/f=5\/f=6\/f=7\/f=8\/f=9\/f=10\/f=11\/f=12\/f=13\/f=14:=by omega
 rcases hx with rfl|rfl|rfl|rfl|rfl|rfl|rfl|rfl|rfl|rfl|rfl|rfl|rfl|rfl|rfl<;>rfl
def erAll (r:Wp.Rq)(fs:List Nat):Wp.Rq:=fs.foldl er r
def ebAll (x:Sl)(fs:List Nat):Sl:=fs.foldl eb x
theorem off_lt (f:Nat)(hf:f<15):offOf f<15:=by
 unfold offOf
 repeat' split
 all_goals omega
def Blk (w:World)(b:Nat)(r:Wp.Rq)(x:Sl):Prop:=w.heap[b]?=some (.cells (cellsOf r x.v) 24 (0,0))
theorem Blk.box {x:Sl}(h:Blk w b r x):Box w b r x.v:=fun i v hv=>(cell_of_row w b i _ 24 (0,0) h).trans hv
theorem Blk.cell {x:Sl}(h:Blk w b r x)(o:Nat)(ho:o<15):∃v,w.cell? ⟨b,o,none⟩=some v:=
 ⟨_,(cell_of_row w b o _ 24 (0,0) h).trans (Array.getElem?_eq_getElem (show o<(cellsOf r x.v).size from ho))⟩
theorem Blk.frozen {x:Sl}(h:Blk w b r x)(o:Nat):w.frozen? ⟨b,o,none⟩=false:=by
 unfold Blk at h;simp[World.frozen?,h]
theorem Blk.erase {x:Sl}(h:Blk w b r x)(f:Nat)(hf:f<15):Blk (w.setCell ⟨b,offOf f,none⟩ (zeroOf f)) b (er r f) (eb x f):=by
 unfold Blk;rw[<-cells_er r x f hf];exact heap_setCell_same w b (offOf f) _ 24 (zeroOf f) h
theorem lay_lt (i j:Nat):(Wp.lay i).getD j 0<15:=by
 by_cases hi:i<26
 ·have h1:∀a:Fin 26,∀x∈Wp.lay a.val,x<15:=by decide
  by_cases hj:j<(Wp.lay i).length
  ·rw[List.getD_eq_getElem?_getD,List.getElem?_eq_getElem hj,Option.getD_some];exact h1 ⟨i,hi⟩ _ (List.getElem_mem hj)
  ·rw[List.getD_eq_getElem?_getD,List.getElem?_eq_none (by omega)];decide
 ·have:Wp.lay i=[]:=by
   unfold Wp.lay;rw[List.getD_eq_getElem?_getD,List.getElem?_eq_none (by simp[Wp.layTab];omega)];rfl
  rw[this];simp
theorem Strs.below {w':World}{a:Option Addr}{bs:List ByteArray}(h:Strs w a bs)(hb:Below w.heap.size w w'):Strs w' a bs:=fun j hj=>by
 obtain⟨b,o,ha,hc⟩:=h j hj;exact⟨b,o,ha,(hb.cell (p:=⟨b,o+j,none⟩) (World.block_lt_of_cell? _ _ hc)).trans hc⟩
def rightW (r:Wp.Rq)(x:Sl)(short:Bool):Bool:=
 Wp.isOp r.op&&((Wp.lay (r.op.toNat-65)).all (r.fits x.n short)&&blankW (erAll {r with op:=0} (Wp.lay (r.op.toNat-65))) (ebAll x (Wp.lay (r.op.toNat-65))).n)
theorem right_yes (B:Nat)(r:Wp.Rq)(x:Sl)(bs:List ByteArray)(w:World)(i:Nat)(hop:r.op.toNat=65+i)(hi:i<26)(hpos:0<(Wp.lay i).length)(hxn:x.n=bs.length)(hn:bs.length<=maxLen)(hL:Lays B w)(hBw:B<=w.heap.size)(hS:Strs w x.a bs):
  Calls Tryz.prog 58 #[.agg (cellsOf r x.v)] w fun e w'=>e=.returned (.bool (rightW r x (Wp.short bs)))/\Below w.heap.size w w':=by
 have hopi:((r.op.toNat:Nat):Int)=65+(i:Int):=by omega
 have hisop:Wp.isOp r.op=true:=by simp[Wp.isOp,hop,hpos];omega
 obtain⟨la,lcap,hlc,hlj⟩:=hL.2.2 i hi;have HLJ:Hid (∀j,j<(Wp.lay i).length->∃b o,la=some ⟨b,o,none⟩/\b<B/\w.cell? ⟨b,o+j,none⟩=some (.int .i64 ((Wp.lay i).getD j 0:Nat))):=hlj;have hfin:Hid (rightW r x (Wp.short bs)=((Wp.lay i).all (r.fits x.n (Wp.short bs))&&blankW (erAll {r with op:=0} (Wp.lay i)) (ebAll x (Wp.lay i)).n)):=by
  show rightW r x (Wp.short bs)=_
  unfold rightW;rw[hisop,hop,Nat.add_sub_cancel_left,Bool.true_and]
 have hlen:(Wp.lay i).length<100:=by
  have h1:∀a:Fin 26,(Wp.lay a.val).length<100:=by decide
  exact h1 ⟨i,hi⟩
 have HLT:Hid (∀j,(Wp.lay i).getD j 0<15):=lay_lt i;clear hlj;have HO:Hid (∀W,Lays B W->Calls Tryz.prog 54 #[.int .u8 (65+(i:Int))] W fun e w'=>e=.returned (.bool true)/\w'=W):=by
  intro W hW;have:=isOp_any B r.op W hW
  rwa [hopi,hisop]at this
 have HL:Hid (Lays B w):=hL;have hsz:0<w.heap.size:=by have:=hL.1;omega
 have hsz1:0<w.heap.size+1:=by omega
 clear hL;generalize Wp.lay i=L at*
 have hcells:cellsOf r x.v=#[.int .u8 (65+(i:Int)),.int .u8 (r.q.toNat:Int),.int .u8 (r.d.toNat:Int),.int .i64 r.vis,.int .i64 r.win,.int .i64 r.rcv,.int .i64 r.quo,.int .i64 r.mx,.int .i64 r.tic,.string r.grp,.string r.ded,.string r.bod,.string r.att,.string r.han,.slice x.a x.n x.c]:=by
  unfold cellsOf Sl.v;rw[hopi]
 have HC:Hid (cellsOf r x.v=_):=hcells;have HXN:Hid (x.n=bs.length):=hxn;have HS:Hid (Strs w x.a bs):=hS;clear hxn hS;rw[hcells];clear hcells;go_enter Tryz.func58,Tryz.ntmps58;go_wp2_with fail;refine(HO.out _ (HL.out.below (((Below.refl _ _).alloc (Nat.le_refl _) _).mono hBw))).mono ?_;rintro e w1 ⟨rfl,rfl⟩;go_wp2_with fail;rw[Nat.add_sub_cancel_left]
 go_loopw [18] (fun v wr=>∃k:Nat,k<=L.length/\v=.int .i64 k/\Below w.heap.size w wr/\wr.heap.size=w.heap.size+2/\Blk wr w.heap.size r x/\Blk wr (w.heap.size+1) (erAll {r with op:=0} (L.take k)) (ebAll x (L.take k))/\(L.take k).all (r.fits x.n (Wp.short bs))=true) (fun v _=>L.length-(intOf v).toNat)
 case atStart=>
  refine⟨0,Nat.zero_le _,rfl,((Below.refl _ _).alloc (Nat.le_refl _) _).alloc (by simp) _,by simp,?_,?_,rfl⟩
  ·unfold Blk;rw[HC.out,heap_alloc2_old]
  ·unfold Blk;rw[heap_alloc2_new];rfl
 case round=>
  obtain⟨k,hk,rfl,hb,hhs,hbk1,hbk2,hall⟩:=hrel;have HB:Hid (Below w.heap.size w wr):=hb;have HB1:Hid (Blk wr w.heap.size r x):=hbk1;have HB2:Hid (Blk wr (w.heap.size+1) (erAll {r with op:=0} (L.take k)) (ebAll x (L.take k))):=hbk2;have HA:Hid ((L.take k).all (r.fits x.n (Wp.short bs))=true):=hall;have HH:Hid (wr.heap.size=w.heap.size+2):=hhs;clear hb hbk1 hbk2 hall hhs
  by_cases hlt:k<L.length
  ·obtain⟨lb,lo,rfl,hlb,hck⟩:=HLJ.out k hlt;have hck':=(HB.out.cell (p:=⟨lb,lo+k,none⟩) (show lb<w.heap.size by omega)).trans hck;clear hck;have hf:=HLT.out k;have htk:Hid (L.take (k+1)=L.take k++[L.getD k 0]):=by
    show L.take (k+1)=_
    rw[List.take_succ_eq_append_getElem hlt,List.getD_eq_getElem?_getD,List.getElem?_eq_getElem hlt,Option.getD_some]
   generalize hfv:L.getD k 0=f at hck' hf htk;have HFV:Hid (L.getD k 0=f):=hfv;clear hfv;have hlen':bs.length<=maxLen:=hn;have hfit:Hid (Calls Tryz.prog 83 #[.pointer (some ⟨w.heap.size,0,none⟩),.int .i64 (f:Int)] wr fun e w'=>e=.returned (.bool (r.fits x.n (Wp.short bs) f))/\∃k,w'=wr.drewN k):=by
    have hbx:=HB1.out.box;unfold Sl.v at hbx;rw[HXN.out]at hbx;have h:=fits_any B w.heap.size f r x.a x.c bs wr hf hn (HL.out.below (HB.out.mono hBw)) hbx (HS.out.below HB.out);rw[<-HXN.out]at h;exact h
   cases hfb:r.fits x.n (Wp.short bs) f
   ·have hv:Hid (rightW r x (Wp.short bs)=false):=by
     show rightW r x (Wp.short bs)=false
     rw[hfin.out];have hm:f∈L:=by
      rw[<-HFV.out,List.getD_eq_getElem?_getD,List.getElem?_eq_getElem hlt,Option.getD_some];exact List.getElem_mem hlt
     have:L.all (r.fits x.n (Wp.short bs))=false:=List.all_eq_false.2 ⟨f,hm,by rw[hfb];simp⟩;rw[this,Bool.false_and]
    rw[hfb]at hfit;clear hfb;go_wp2_with fail;refine(hfit.out).mono ?_;rintro e w2 ⟨rfl,kk,rfl⟩;go_wp2_with fail;go_ret;exact⟨ret_bool hv.out.symm,below_drewN HB.out kk⟩
   ·rw[hfb]at hfit;have HFB:Hid (r.fits x.n (Wp.short bs) f=true):=hfb;clear hfb;obtain⟨ov,hov⟩:=HB2.out.cell (offOf f) (off_lt f hf);have hoz:=HB2.out.frozen (offOf f);go_wp2_with fail;refine(hfit.out).mono ?_;rintro e w2 ⟨rfl,kk,rfl⟩;go_wp2_with fail;refine(erase_any B (w.heap.size+1) f ov (wr.drewN kk) hf (HL.out.below (below_drewN (HB.out.mono hBw) kk)) hov hoz).mono ?_;rintro e w2 ⟨rfl,hw2⟩;have hr1:Below w.heap.size w w2:=by rw[hw2];exact(below_drewN HB.out kk).setCell (show w.heap.size<=w.heap.size+1 by omega) _
    have hr2:w2.heap.size=w.heap.size+2:=by rw[hw2,World.size_setCell];exact HH.out
    have hr3:Blk w2 w.heap.size r x:=by
     unfold Blk;rw[hw2,heap_setCell_other _ _ _ _ (by simp)];exact HB1.out
    have hr4:Blk w2 (w.heap.size+1) (erAll {r with op:=0} (L.take (k+1))) (ebAll x (L.take (k+1))):=by
     rw[htk.out,hw2];unfold erAll ebAll;rw[List.foldl_append,List.foldl_append];exact Blk.erase (w:=wr.drewN kk) (show Blk (wr.drewN kk) _ _ _ from HB2.out) f hf
    have hr5:(L.take (k+1)).all (r.fits x.n (Wp.short bs))=true:=by
     rw[htk.out,List.all_append,HA.out];simp[HFB.out]
    clear hw2
    go_hidden (go_wp2_with fail)
    go_roundw
    case rel=>
     first
      | exact⟨k+1,by omega,by go_num,hr1,hr2,hr3,hr4,hr5⟩
      | ((repeat apply Exists.intro);exact⟨⟨k+1,by omega,by go_num,hr1,hr2,hr3,hr4,hr5⟩,rfl⟩)
    case measure=>simp[intOf];omega
  ·have hkL:L.take k=L:=List.take_of_length_le (by omega);have hv:Hid (rightW r x (Wp.short bs)=blankW (erAll {r with op:=0} L) (ebAll x L).n):=by
    show rightW r x (Wp.short bs)=_
    rw[hfin.out,<-hkL,HA.out,Bool.true_and]
   have hblk:=HB2.out;rw[hkL]at hblk;unfold Blk at hblk;clear hkL;have HK:Hid _:=hblk;clear hblk;generalize erAll {r with op:=0} L=r2 at hv HK;generalize ebAll x L=x2 at hv HK;go_wp2_with (refine wpList_load_row rfl 24 _ rfl (w.heap.size+1) rfl 24 _ (0,0) _ HK.out Tryz.underlying24 rfl (by kernel_rfl) ?_);refine(blank_any r2 x2.a x2.n x2.c wr).mono ?_;rintro e w2 ⟨rfl,hb2⟩;go_wp2_with fail;go_ret;exact⟨ret_bool hv.out.symm,HB.out.trans (hb2.mono (by have:=HB.out.size;omega))⟩
theorem right_no (B:Nat)(r:Wp.Rq)(x:Sl)(bs:List ByteArray)(w:World)(h:Wp.isOp r.op=false)(hL:Lays B w)(hBw:B<=w.heap.size):
  Calls Tryz.prog 58 #[.agg (cellsOf r x.v)] w fun e w'=>e=.returned (.bool (rightW r x (Wp.short bs)))/\Below w.heap.size w w':=by
 have hv:Hid (rightW r x (Wp.short bs)=false):=by
  show rightW r x (Wp.short bs)=false
  unfold rightW;rw[h,Bool.false_and]
 have HO:Hid (∀W,Lays B W->Calls Tryz.prog 54 #[.int .u8 (r.op.toNat:Int)] W fun e w'=>e=.returned (.bool false)/\w'=W):=by
  intro W hW;have:=isOp_any B r.op W hW
  rwa [h]at this
 have HL:Hid (Lays B w):=hL;clear hL h;unfold cellsOf Sl.v;go_enter Tryz.func58,Tryz.ntmps58;go_wp2_with fail;refine(HO.out _ (HL.out.below (((Below.refl _ _).alloc (Nat.le_refl _) _).mono hBw))).mono ?_;rintro e w1 ⟨rfl,rfl⟩;go_wp2_with fail;go_ret;exact⟨ret_bool hv.out.symm,(Below.refl _ _).alloc (Nat.le_refl _) _⟩
theorem right_any (B:Nat)(r:Wp.Rq)(x:Sl)(bs:List ByteArray)(w:World)(hxn:x.n=bs.length)(hn:bs.length<=maxLen)(hL:Lays B w)(hBw:B<=w.heap.size)(hS:Strs w x.a bs):
  Calls Tryz.prog 58 #[.agg (cellsOf r x.v)] w fun e w'=>e=.returned (.bool (rightW r x (Wp.short bs)))/\Below w.heap.size w w':=by
 cases h:Wp.isOp r.op
 ·exact right_no B r x bs w h hL hBw
 ·simp only[Wp.isOp,Bool.and_eq_true,decide_eq_true_eq]at h;exact right_yes B r x bs w (r.op.toNat-65) (by omega) (by omega) h.2 hxn hn hL hBw hS
def bytesV (l:List UInt8):List Value:=l.map fun b=>.int .u8 (b.toNat:Int)
def OwnB (w:World)(base:Nat)(v:Value)(l:List UInt8):Prop:=w.ownsRow base 5 1 v l.length (bytesV l)
def lowB (n k:Nat):List UInt8:=(List.range k).map fun j=>UInt8.ofNat (n / 256^j % 256)
theorem lowB_succ (n k:Nat):lowB n (k+1)=lowB n k++[UInt8.ofNat (n / 256^k % 256)]:=by
 simp[lowB,List.range_succ]
theorem lowB_length (n k:Nat):(lowB n k).length=k:=by simp[lowB]
theorem info5:(Tryz.prog.info? 5).map (fun i=>(i.zero,i.size,i.bytes))=some (some (.int .u8 0),1,1):=by kernel_rfl
theorem byte_cell (m:Nat):(Value.int .u8 ((m:Int) % 256))=.int .u8 ((UInt8.ofNat (m % 256)).toNat:Int):=by
 have h:(UInt8.ofNat (m % 256)).toNat=m % 256:=UInt8.toNat_ofNat_of_lt' (by have:=Nat.mod_lt m (show 0<256 by decide);simpa using this);rw[h];exact congrArg (Value.int .u8) (by omega)
theorem OwnB.snoc {base:Nat}{v:Value}{l:List UInt8}{c:UInt8}{x:Value}(hx:x=.int .u8 (c.toNat:Int))(h:w.ownsRow base 5 1 v (l.length+1) (bytesV l++[x])):OwnB w base v (l++[c]):=by
 unfold OwnB bytesV at*
 rw[List.length_append,List.map_append,List.map_cons,List.map_nil,<-hx];exact h
theorem appendNumber_any (base:Nat)(v:Value)(l:List UInt8)(n size:Nat)(w:World)(hn:n<4294967296)(hs:size<=8)(hl:l.length<=1099511627776)(hb:base<=w.heap.size)(hown:OwnB w base v l):
  Calls Tryz.prog 46 #[v,.int .i64 (n:Int),.int .i64 (size:Int)] w fun e w'=>∃v',e=.returned v'/\OwnB w' base v' (l++lowB n size)/\Below base w w':=by
 obtain⟨i0,hi,hz0,hz1,hz2⟩:=info_parts info5;go_enter Tryz.func46,Tryz.ntmps46
 go_wp2
 go_loopw [0,1,8] (fun o m i wr=>∃k:Nat,k<=size/\i=.int .i64 k/\m=.int .i64 ((n / 256^k:Nat):Int)/\OwnB wr base o (l++lowB n k)/\Below base w wr) (fun _ _ i _=>size-(intOf i).toNat)
 case atStart=>exact⟨0,Nat.zero_le _,rfl,by simp,by simpa [lowB]using hown,Below.refl _ _⟩
 case round=>
  obtain⟨k,hk,rfl,rfl,ho,hbr⟩:=hrel
  by_cases hlt:k<size
  ·have hle:(l++lowB n k).length<=1099511627800:=by rw[List.length_append,lowB_length];omega
   have hm:n / 256^k<4294967296:=Nat.lt_of_le_of_lt (Nat.div_le_self _ _) hn;have hdiv:Hid (n / 256^(k+1)=n / 256^k / 256):=by
    show _=_
    rw[Nat.pow_succ,Nat.div_div_eq_div_mul]
   have hsn:=byte_cell (n / 256^k);have HSN:=zH hsn;have hls:Hid (l++lowB n (k+1)=(l++lowB n k)++[UInt8.ofNat (n / 256^k % 256)]):=by
    show _=_
    rw[lowB_succ,List.append_assoc]
   have HBR:=zH hbr;have hsz:=hbr.size;clear hsn hbr hown;generalize n / 256^k=m at hm hdiv HSN hls;generalize l++lowB n k=L at ho hle hls;have HO:=zH ho;clear ho;go_wp2_with (at_builtin;refine wpList_append_own _ rfl _ _ 54 rfl base 5 i0 (.int .u8 0) 1 1 Tryz.underlying54 hi hz0 hz1 hz2 rfl (by decide) _ _ _ rfl (World.ownsRow.alloc HO.out _) ⟨wr.heap.size,0,none⟩ 1 1 [.int .u8 ((m:Int) % 256)] rfl rfl ?c1 ?c2 ?c3 ?c4 ?c5 ?_)
   case c1=>exact cell_one_new _ _ _
   case c2=>intro u hu;simp at hu;subst hu;rfl
   case c3=>unfold maxLen;omega
   case c4=>omega
   case c5=>simp;omega
   intro v' w1 hown' hgrow _;have hr1:OwnB w1 base v' (l++lowB n (k+1)):=by rw[hls.out];exact OwnB.snoc HSN.out hown'
   have hr2:Below base w w1:=by
    refine Below.grown ((HBR.out).alloc (by omega) _) hgrow (by simp;omega) ?_;intro k hk;exact(World.ownsRow.lt HO.out k hk).1
   clear hown' hgrow
   go_wp2
   go_roundw
   case rel=>exact⟨k+1,by omega,by go_num,by rw[hdiv.out];go_num,hr1,hr2⟩
   case measure=>simp[intOf];omega
  ·have he:k=size:=by omega
   subst he
   go_wp2
   go_ret;exact⟨_,rfl,ho,hbr⟩
theorem bytesV_str (s:ByteArray):bytesV s.data.toList=Lib.strCells s:=by
 simp[bytesV,Lib.strCells]
def txtB (s:ByteArray):List UInt8:=lowB s.size 1++s.data.toList
theorem appendText_any (base:Nat)(v:Value)(l:List UInt8)(s:ByteArray)(w:World)(hs:s.size<=65535)(hl:l.length<=1099511627776)(hb:base<=w.heap.size)(hown:OwnB w base v l):
  Calls Tryz.prog 90 #[v,.string s] w fun e w'=>∃v',e=.returned v'/\OwnB w' base v' (l++txtB s)/\Below base w w':=by
 obtain⟨i0,hi,hz0,hz1,hz2⟩:=info_parts info5;have hnum:Hid (Calls Tryz.prog 46 #[v,.int .i64 (s.size:Int),.int .i64 1] w fun e w'=>∃v',e=.returned v'/\OwnB w' base v' (l++lowB s.size 1)/\Below base w w'):=
  appendNumber_any base v l s.size 1 w (by omega) (by decide) hl hb hown
 go_enter Tryz.func90,Tryz.ntmps90;go_wp2_with fail;refine(hnum.out).mono ?_;rintro e w1 ⟨v1,rfl,ho1,hb1⟩;have hle:(l++lowB s.size 1).length<=1099511627800:=by rw[List.length_append,lowB_length];omega
 have hls:Hid (l++txtB s=(l++lowB s.size 1)++s.data.toList):=by
  show _=_
  rw[txtB,List.append_assoc]
 generalize l++lowB s.size 1=L at ho1 hle hls;have hsz:=hb1.size;have HO:=zH ho1;have HB:=zH hb1;clear ho1 hb1 hown;go_wp2_with (at_builtin;refine Lib.wpList_append_own_string _ rfl _ _ 54 9 rfl base 5 i0 Tryz.underlying54 Tryz.underlying9 hi hz0 hz1 hz2 _ _ _ rfl HO.out s rfl ?c1 ?c2 ?c3 ?_)
 case c1=>unfold maxLen;omega
 case c2=>omega
 case c3=>omega
 intro v' w2 hown' hgrow _;have hr1:OwnB w2 base v' (l++txtB s):=by
  rw[hls.out];unfold OwnB;have e1:bytesV (L++s.data.toList)=bytesV L++Lib.strCells s:=by rw[<-bytesV_str];simp[bytesV]
  have e2:(L++s.data.toList).length=L.length+s.size:=by rw[List.length_append];rfl
  rw[e1,e2];exact hown'
 have hr2:Below base w w2:=by
  refine Below.grown HB.out hgrow (by omega) ?_;intro k hk;exact(World.ownsRow.lt HO.out k hk).1
 clear hown' hgrow
 go_wp2
 go_ret;exact⟨_,rfl,hr1,hr2⟩
def txtsB (bs:List ByteArray):List UInt8:=bs.flatMap txtB
theorem txtB_length (s:ByteArray):(txtB s).length=1+s.size:=by rw[txtB,List.length_append,lowB_length];rfl
theorem txtsB_length (bs:List ByteArray)(h:∀s∈bs,s.size<=65535):(txtsB bs).length<=65536*bs.length:=by
 induction bs with
 | nil=>simp[txtsB]
 | cons x r ih=>
  have h1:=ih (fun s hs=>h s (List.mem_cons_of_mem _ hs));have h2:=h x List.mem_cons_self;have e:txtsB (x::r)=txtB x++txtsB r:=by simp[txtsB]
  rw[e,List.length_append,txtB_length,List.length_cons];omega
theorem appendTexts_any (base:Nat)(v:Value)(l:List UInt8)(a:Option Addr)(cap:Nat)(bs:List ByteArray)(w:World)(hbs:∀s∈bs,s.size<=65535)(hn:bs.length<=65535)(hl:l.length<=1048576)(hb:base<=w.heap.size)(hown:OwnB w base v l)
  (hS:∀j (h:j<bs.length),∃b o,a=some ⟨b,o,none⟩/\b<base/\w.cell? ⟨b,o+j,none⟩=some (.string bs[j])):
  Calls Tryz.prog 91 #[v,.slice a bs.length cap] w fun e w'=>∃v',e=.returned v'/\OwnB w' base v' (l++(lowB bs.length 1++txtsB bs))/\Below base w w':=by
 have hnum:Hid (Calls Tryz.prog 46 #[v,.int .i64 (bs.length:Int),.int .i64 1] w fun e w'=>∃v',e=.returned v'/\OwnB w' base v' (l++lowB bs.length 1)/\Below base w w'):=
  appendNumber_any base v l bs.length 1 w (by omega) (by decide) (by omega) hb hown
 have HS:=zH hS;have HBS:=zH hbs;clear hS hown hbs;go_enter Tryz.func91,Tryz.ntmps91;go_wp2_with fail;refine(hnum.out).mono ?_;rintro e w1 ⟨v1,rfl,ho1,hb1⟩;have hle:Hid ((l++lowB bs.length 1).length<=1048600):=by show _<=_;rw[List.length_append,lowB_length];omega
 have hls:Hid (l++(lowB bs.length 1++txtsB bs)=(l++lowB bs.length 1)++txtsB bs):=by
  show _=_
  rw[List.append_assoc]
 generalize l++lowB bs.length 1=L at ho1 hle hls;have HO:=zH ho1;have HB:=zH hb1;clear ho1 hb1;go_wp2_with fail
 go_loopw [0,13] (fun o i wr=>∃k:Nat,k<=bs.length/\i=.int .i64 k/\OwnB wr base o (L++txtsB (bs.take k))/\Below base w wr) (fun _ i _=>bs.length-(intOf i).toNat)
 case atStart=>exact⟨0,Nat.zero_le _,rfl,by simpa [txtsB]using HO.out,HB.out⟩
 case round=>
  obtain⟨k,hk,rfl,ho,hbr⟩:=hrel
  by_cases hlt:k<bs.length
  ·obtain⟨lb,lo,rfl,hlb,hck⟩:=HS.out k hlt;have hck':=(hbr.cell (p:=⟨lb,lo+k,none⟩) hlb).trans hck;have hsz:=hbr.size;have hlk:(L++txtsB (bs.take k)).length<=1099511627776:=by
    rw[List.length_append];have h1:=txtsB_length (bs.take k) (fun s hs=>HBS.out s (List.mem_of_mem_take hs));have h2:=hle.out;rw[List.length_take]at h1;omega
   have htk:Hid (L++txtsB (bs.take (k+1))=(L++txtsB (bs.take k))++txtB bs[k]):=by
    show _=_
    rw[List.take_succ_eq_append_getElem hlt,txtsB,List.flatMap_append,List.flatMap_singleton,<-List.append_assoc];rfl
   have hx:=HBS.out bs[k] (List.getElem_mem hlt);generalize bs[k]=x at hck' htk hx hck;have ht:Hid (Calls Tryz.prog 90 #[u0,.string x] wr fun e w'=>∃v',e=.returned v'/\OwnB w' base v' ((L++txtsB (bs.take k))++txtB x)/\Below base wr w'):=
    appendText_any base u0 _ x wr hx hlk (by omega) ho
   rw[<-htk.out]at ht;have HBR:=zH hbr;clear ho hbr hck hlk htk;go_wp2_with fail;refine(ht.out).mono ?_;rintro e w2 ⟨v2,rfl,ho2,hb2⟩;have HO2:=zH ho2;have HB2:=zH (HBR.out.trans hb2);clear ho2 hb2;go_wp2_with fail;go_roundw
   case rel=>exact⟨k+1,by omega,by go_num,HO2.out,HB2.out⟩
   case measure=>simp[intOf];omega
  ·have he:bs.take k=bs:=List.take_of_length_le (by omega);rw[he]at ho;rw[<-hls.out]at ho;have HO2:=zH ho;have HBR:=zH hbr;clear he ho hbr;go_wp2_with fail;go_ret;exact⟨_,rfl,HO2.out,HBR.out⟩
end Go.Proofs.YtbdobaapadlcjabGreatDoor
