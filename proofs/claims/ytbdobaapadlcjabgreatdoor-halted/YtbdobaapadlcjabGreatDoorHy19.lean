import Derived.Test.YtbdobaapadlcjabGreatDoorHy18
set_option maxRecDepth 8000
set_option maxHeartbeats 4000000
set_option linter.unusedVariables false
set_option linter.unusedSimpArgs false
namespace Go.Proofs.YtbdobaapadlcjabGreatDoor
open Go.RowKit
theorem cellsQ (r:Wp.Rq)(x:Sl)(i:Nat)(hq:r.q.toNat=97+i):cellsOf r x.v=#[.int .u8 (r.op.toNat:Int),.int .u8 (97+(i:Int)),.int .u8 (r.d.toNat:Int),.int .i64 r.vis,.int .i64 r.win,.int .i64 r.rcv,.int .i64 r.quo,.int .i64 r.mx,.int .i64 r.tic,.string r.grp,.string r.ded,.string r.bod,.string r.att,.string r.han,.slice x.a x.n x.c]:=by
 have ho':((r.q.toNat:Nat):Int)=97+(i:Int):=by rw[hq];omega
 unfold cellsOf Sl.v;rw[ho']
theorem within_g {N:Prop}(B:Nat)(J:World->Prop)(K:ByteArray->World->Prop)(r:Wp.Rq)(x:Sl)(st b i fn bb qb:Nat)(now:Int)(P:Nat->Value)(w:World)(hq:r.q.toNat=97+i)(hi:i<8)(hst:Stb w st b now P)(hP:P i=.pointer (some ⟨qb,0,none⟩))(hbb:w.heap[bb]?=some (.cells #[.func (.func fn) #[] #[]] 186 (0,0)))
  (eg:∀args w,(callFunc fn args).run Tryz.prog w=.ok (.enter fn args) w)
  (hS:∀W,Tch [] w W->Calls Tryz.prog fn #[.pointer (some ⟨qb,0,none⟩),.int .i64 now,.agg (cellsOf r x.v)] W fun e w'=>Tch [] W w'/\Ans B N J K e w'):
  Calls Tryz.prog 160 #[.pointer (some ⟨st,0,none⟩),.agg (cellsOf r x.v),.pointer (some ⟨bb,0,none⟩)] w fun e w'=>Tch [] w w'/\Ans B N J K e w':=by
 have HST:=zH hst;have HBB:=zH hbb;have HN:=zH hS;have HA:Hid (∀W,Tch [] w W->zE 153 #[.pointer (some ⟨st,0,none⟩),.int .u8 (97+(i:Int))] W (.pointer (some ⟨qb,0,none⟩))):=fun W ht=>by
  have h1:=at_g st b i now P W (hst.tch ht (by simp)) hi;rw[hP]at h1;exact h1
 rw[cellsQ r x i hq]at HN;rw[cellsQ r x i hq];clear hS hst hbb;go_enter Tryz.func160,Tryz.ntmps160;have TB0:Hid (Tch [] w (w.alloc (.cells #[.int .u8 (r.op.toNat:Int),.int .u8 (97+(i:Int)),.int .u8 (r.d.toNat:Int),.int .i64 r.vis,.int .i64 r.win,.int .i64 r.rcv,.int .i64 r.quo,.int .i64 r.mx,.int .i64 r.tic,.string r.grp,.string r.ded,.string r.bod,.string r.att,.string r.han,.slice x.a x.n x.c] 24))):=(Tch.refl _ _).alloc _;go_wp2_with (go_at_call 153;refine(HA.out _ TB0.out).mono ?_;rintro e w' ⟨rfl,rfl⟩);obtain⟨wb,hwb⟩:∃wb,wb=w.alloc (.cells #[.int .u8 (r.op.toNat:Int),.int .u8 (97+(i:Int)),.int .u8 (r.d.toNat:Int),.int .i64 r.vis,.int .i64 r.win,.int .i64 r.rcv,.int .i64 r.quo,.int .i64 r.mx,.int .i64 r.tic,.string r.grp,.string r.ded,.string r.bod,.string r.att,.string r.han,.slice x.a x.n x.c] 24):=⟨_,rfl⟩;rw[<-hwb];have hrow:wb.heap[w.heap.size]?=some (.cells #[.int .u8 (r.op.toNat:Int),.int .u8 (97+(i:Int)),.int .u8 (r.d.toNat:Int),.int .i64 r.vis,.int .i64 r.win,.int .i64 r.rcv,.int .i64 r.quo,.int .i64 r.mx,.int .i64 r.tic,.string r.grp,.string r.ded,.string r.bod,.string r.att,.string r.han,.slice x.a x.n x.c] 24 (0,0)):=by rw[hwb];exact heap_alloc_new _ _
 have TB:Hid (Tch [] w wb):=by rw[hwb];exact(Tch.refl _ _).alloc _
 have hsb:=HST.out.tch TB.out (by simp);have hbk:wb.heap[bb]?=some (.cells #[.func (.func fn) #[] #[]] 186 (0,0)):=(TB.out.block _ (lt_of_block HBB.out) (by simp)).trans HBB.out;have e0:wb.cell? ⟨w.heap.size,0,none⟩=some (.int .u8 (r.op.toNat:Int)):=by simp[World.cell?,hrow]
 have e1:wb.cell? ⟨w.heap.size,1,none⟩=some (.int .u8 (97+(i:Int))):=by simp[World.cell?,hrow]
 have e2:wb.cell? ⟨w.heap.size,2,none⟩=some (.int .u8 (r.d.toNat:Int)):=by simp[World.cell?,hrow]
 have e3:wb.cell? ⟨w.heap.size,3,none⟩=some (.int .i64 r.vis):=by simp[World.cell?,hrow]
 have e4:wb.cell? ⟨w.heap.size,4,none⟩=some (.int .i64 r.win):=by simp[World.cell?,hrow]
 have e5:wb.cell? ⟨w.heap.size,5,none⟩=some (.int .i64 r.rcv):=by simp[World.cell?,hrow]
 have e6:wb.cell? ⟨w.heap.size,6,none⟩=some (.int .i64 r.quo):=by simp[World.cell?,hrow]
 have e7:wb.cell? ⟨w.heap.size,7,none⟩=some (.int .i64 r.mx):=by simp[World.cell?,hrow]
 have e8:wb.cell? ⟨w.heap.size,8,none⟩=some (.int .i64 r.tic):=by simp[World.cell?,hrow]
 have e9:wb.cell? ⟨w.heap.size,9,none⟩=some (.string r.grp):=by simp[World.cell?,hrow]
 have e10:wb.cell? ⟨w.heap.size,10,none⟩=some (.string r.ded):=by simp[World.cell?,hrow]
 have e11:wb.cell? ⟨w.heap.size,11,none⟩=some (.string r.bod):=by simp[World.cell?,hrow]
 have e12:wb.cell? ⟨w.heap.size,12,none⟩=some (.string r.att):=by simp[World.cell?,hrow]
 have e13:wb.cell? ⟨w.heap.size,13,none⟩=some (.string r.han):=by simp[World.cell?,hrow]
 have e14:wb.cell? ⟨w.heap.size,14,none⟩=some (.slice x.a x.n x.c):=by simp[World.cell?,hrow]
 have cn:=hsb.now;have cb:=cell_of_one hbk;have hlL:w.heap.size<wb.heap.size:=lt_of_block hrow;have hlX:=hsb.lt;have hlB:bb<wb.heap.size:=lt_of_block hbk;have HN1:=zH (HN.out wb.drew TB.out.drew);clear hrow hsb hbk hwb TB0 HA
 go_region_held3 (fun w'=>w'.cell? ⟨w.heap.size,0,none⟩=some (.int .u8 (r.op.toNat:Int))/\w'.cell? ⟨w.heap.size,1,none⟩=some (.int .u8 (97+(i:Int)))/\w'.cell? ⟨w.heap.size,2,none⟩=some (.int .u8 (r.d.toNat:Int))/\w'.cell? ⟨w.heap.size,3,none⟩=some (.int .i64 r.vis)/\w'.cell? ⟨w.heap.size,4,none⟩=some (.int .i64 r.win)/\w'.cell? ⟨w.heap.size,5,none⟩=some (.int .i64 r.rcv)/\w'.cell? ⟨w.heap.size,6,none⟩=some (.int .i64 r.quo)/\w'.cell? ⟨w.heap.size,7,none⟩=some (.int .i64 r.mx)/\w'.cell? ⟨w.heap.size,8,none⟩=some (.int .i64 r.tic)/\w'.cell? ⟨w.heap.size,9,none⟩=some (.string r.grp)/\w'.cell? ⟨w.heap.size,10,none⟩=some (.string r.ded)/\w'.cell? ⟨w.heap.size,11,none⟩=some (.string r.bod)/\w'.cell? ⟨w.heap.size,12,none⟩=some (.string r.att)/\w'.cell? ⟨w.heap.size,13,none⟩=some (.string r.han)/\w'.cell? ⟨w.heap.size,14,none⟩=some (.slice x.a x.n x.c)/\w'.cell? ⟨bb,0,none⟩=some (.func (.func fn) #[] #[])/\w'.cell? ⟨st,0,none⟩=some (.int .i64 now)) (go_keep) (first|(go_at_fn fn;refine HN1.out.mono ?_;rintro e w1 ⟨ht,ha⟩;obtain⟨av,chg,en,rfl⟩:=ha.shape;have k0:=(ht.cell (a:=⟨w.heap.size,0,none⟩) hlL (by simp)).trans e0;have k1:=(ht.cell (a:=⟨w.heap.size,1,none⟩) hlL (by simp)).trans e1;have k2:=(ht.cell (a:=⟨w.heap.size,2,none⟩) hlL (by simp)).trans e2;have k3:=(ht.cell (a:=⟨w.heap.size,3,none⟩) hlL (by simp)).trans e3;have k4:=(ht.cell (a:=⟨w.heap.size,4,none⟩) hlL (by simp)).trans e4;have k5:=(ht.cell (a:=⟨w.heap.size,5,none⟩) hlL (by simp)).trans e5;have k6:=(ht.cell (a:=⟨w.heap.size,6,none⟩) hlL (by simp)).trans e6;have k7:=(ht.cell (a:=⟨w.heap.size,7,none⟩) hlL (by simp)).trans e7;have k8:=(ht.cell (a:=⟨w.heap.size,8,none⟩) hlL (by simp)).trans e8;have k9:=(ht.cell (a:=⟨w.heap.size,9,none⟩) hlL (by simp)).trans e9;have k10:=(ht.cell (a:=⟨w.heap.size,10,none⟩) hlL (by simp)).trans e10;have k11:=(ht.cell (a:=⟨w.heap.size,11,none⟩) hlL (by simp)).trans e11;have k12:=(ht.cell (a:=⟨w.heap.size,12,none⟩) hlL (by simp)).trans e12;have k13:=(ht.cell (a:=⟨w.heap.size,13,none⟩) hlL (by simp)).trans e13;have k14:=(ht.cell (a:=⟨w.heap.size,14,none⟩) hlL (by simp)).trans e14;have kx:=(ht.cell (a:=⟨bb,0,none⟩) hlB (by simp)).trans cb;have ky:=(ht.cell (a:=⟨st,0,none⟩) hlX (by simp)).trans cn))
 have T1:=zH (TB.out.drew.trans ht (by simp));have HAN:=zH ha;clear ht ha e0 k0 e1 k1 e2 k2 e3 k3 e4 k4 e5 k5 e6 k6 e7 k7 e8 k8 e9 k9 e10 k10 e11 k11 e12 k12 e13 k13 e14 k14 kx ky cn cb HN1 HN;go_wp2_with fail;go_ret3;exact⟨T1.out,HAN.out⟩
theorem made_g (K:World->Prop)(r:Wp.Rq)(x:Sl)(gr gs st b i:Nat)(now:Int)(P:Nat->Value)(w:World)(hq:r.q.toNat=97+i)(hi:i<8)(hst:Stb w st b now P)
  (hgr:w.heap[gr]?=some (.cells (cellsOf r x.v) 24 (0,0)))(hgs:w.heap[gs]?=some (.cells #[.pointer (some ⟨st,0,none⟩)] 57 (0,0)))
  (hK:K (((w.setCell ⟨st,1+i,none⟩ (.pointer (some ⟨w.heap.size+1,0,none⟩))).alloc (.cells (cellsOf r x.v) 24)).alloc (.cells (qC r 1 (.slice none 0 0) (.slice none 0 0) (.slice none 0 0) (.slice none 0 0)) 137)).drew):
  Calls Tryz.prog 154 #[.pointer (some ⟨gr,0,none⟩),.pointer (some ⟨gs,0,none⟩)] w fun e w'=>
   e=.returned (.tuple #[])/\K w':=by
 have hlt:=hst.lt;have hb0:(0:Int)<=(i:Int):=Int.natCast_nonneg i;have hb1:(i:Int)<8:=by omega
 have c1:=hst.cell i hi;have cs:=cell_of_one hgs;have hq':((r.q.toNat:Nat):Int)=97+(i:Int):=by rw[hq];omega
 have hcells:cellsOf r x.v=#[.int .u8 (r.op.toNat:Int),.int .u8 (97+(i:Int)),.int .u8 (r.d.toNat:Int),.int .i64 r.vis,.int .i64 r.win,.int .i64 r.rcv,.int .i64 r.quo,.int .i64 r.mx,.int .i64 r.tic,.string r.grp,.string r.ded,.string r.bod,.string r.att,.string r.han,.slice x.a x.n x.c]:=by
  unfold cellsOf Sl.v;rw[hq']
 rw[hcells]at hgr;have cr0:w.cell? ⟨gr,0,none⟩=some (.int .u8 (r.op.toNat:Int)):=by simp[World.cell?,hgr]
 have cr1:w.cell? ⟨gr,1,none⟩=some (.int .u8 (97+(i:Int))):=by simp[World.cell?,hgr]
 have cr2:w.cell? ⟨gr,2,none⟩=some (.int .u8 (r.d.toNat:Int)):=by simp[World.cell?,hgr]
 have cr3:w.cell? ⟨gr,3,none⟩=some (.int .i64 r.vis):=by simp[World.cell?,hgr]
 have cr4:w.cell? ⟨gr,4,none⟩=some (.int .i64 r.win):=by simp[World.cell?,hgr]
 have cr5:w.cell? ⟨gr,5,none⟩=some (.int .i64 r.rcv):=by simp[World.cell?,hgr]
 have cr6:w.cell? ⟨gr,6,none⟩=some (.int .i64 r.quo):=by simp[World.cell?,hgr]
 have cr7:w.cell? ⟨gr,7,none⟩=some (.int .i64 r.mx):=by simp[World.cell?,hgr]
 have cr8:w.cell? ⟨gr,8,none⟩=some (.int .i64 r.tic):=by simp[World.cell?,hgr]
 have cr9:w.cell? ⟨gr,9,none⟩=some (.string r.grp):=by simp[World.cell?,hgr]
 have cr10:w.cell? ⟨gr,10,none⟩=some (.string r.ded):=by simp[World.cell?,hgr]
 have cr11:w.cell? ⟨gr,11,none⟩=some (.string r.bod):=by simp[World.cell?,hgr]
 have cr12:w.cell? ⟨gr,12,none⟩=some (.string r.att):=by simp[World.cell?,hgr]
 have cr13:w.cell? ⟨gr,13,none⟩=some (.string r.han):=by simp[World.cell?,hgr]
 have cr14:w.cell? ⟨gr,14,none⟩=some (.slice x.a x.n x.c):=by simp[World.cell?,hgr]
 have hn1:gr≠st:=fun e=>by rw[e,show w.heap[st]?=_ from hst]at hgr;simp at hgr
 have hn2:gs≠st:=fun e=>by rw[e,show w.heap[st]?=_ from hst]at hgs;simp at hgs
 have fz0:w.drew.frozen? ⟨st,1+i,none⟩=false:=frozen_of_row w.drew st _ _ 94 hst;have fz2:∀o o',((w.alloc o).alloc o').drew.frozen? ⟨st,1+i,none⟩=false:=fun o o'=>frozen_of_row _ st _ _ 94 (((Below.heap_alloc _ _ _ (by simp;omega)).trans (Below.heap_alloc _ _ _ hlt)).trans hst)
 have dr0:∀v,(w.setCell ⟨st,1+i,none⟩ v).cell? ⟨gr,0,none⟩=some (.int .u8 (r.op.toNat:Int)):=fun v=>(World.cell?_of_block (heap_setCell_other _ _ _ _ hn1)).trans cr0
 have dr1:∀v,(w.setCell ⟨st,1+i,none⟩ v).cell? ⟨gr,1,none⟩=some (.int .u8 (97+(i:Int))):=fun v=>(World.cell?_of_block (heap_setCell_other _ _ _ _ hn1)).trans cr1
 have dr2:∀v,(w.setCell ⟨st,1+i,none⟩ v).cell? ⟨gr,2,none⟩=some (.int .u8 (r.d.toNat:Int)):=fun v=>(World.cell?_of_block (heap_setCell_other _ _ _ _ hn1)).trans cr2
 have dr3:∀v,(w.setCell ⟨st,1+i,none⟩ v).cell? ⟨gr,3,none⟩=some (.int .i64 r.vis):=fun v=>(World.cell?_of_block (heap_setCell_other _ _ _ _ hn1)).trans cr3
 have dr4:∀v,(w.setCell ⟨st,1+i,none⟩ v).cell? ⟨gr,4,none⟩=some (.int .i64 r.win):=fun v=>(World.cell?_of_block (heap_setCell_other _ _ _ _ hn1)).trans cr4
 have dr5:∀v,(w.setCell ⟨st,1+i,none⟩ v).cell? ⟨gr,5,none⟩=some (.int .i64 r.rcv):=fun v=>(World.cell?_of_block (heap_setCell_other _ _ _ _ hn1)).trans cr5
 have dr6:∀v,(w.setCell ⟨st,1+i,none⟩ v).cell? ⟨gr,6,none⟩=some (.int .i64 r.quo):=fun v=>(World.cell?_of_block (heap_setCell_other _ _ _ _ hn1)).trans cr6
 have dr7:∀v,(w.setCell ⟨st,1+i,none⟩ v).cell? ⟨gr,7,none⟩=some (.int .i64 r.mx):=fun v=>(World.cell?_of_block (heap_setCell_other _ _ _ _ hn1)).trans cr7
 have dr8:∀v,(w.setCell ⟨st,1+i,none⟩ v).cell? ⟨gr,8,none⟩=some (.int .i64 r.tic):=fun v=>(World.cell?_of_block (heap_setCell_other _ _ _ _ hn1)).trans cr8
 have dr9:∀v,(w.setCell ⟨st,1+i,none⟩ v).cell? ⟨gr,9,none⟩=some (.string r.grp):=fun v=>(World.cell?_of_block (heap_setCell_other _ _ _ _ hn1)).trans cr9
 have dr10:∀v,(w.setCell ⟨st,1+i,none⟩ v).cell? ⟨gr,10,none⟩=some (.string r.ded):=fun v=>(World.cell?_of_block (heap_setCell_other _ _ _ _ hn1)).trans cr10
 have dr11:∀v,(w.setCell ⟨st,1+i,none⟩ v).cell? ⟨gr,11,none⟩=some (.string r.bod):=fun v=>(World.cell?_of_block (heap_setCell_other _ _ _ _ hn1)).trans cr11
 have dr12:∀v,(w.setCell ⟨st,1+i,none⟩ v).cell? ⟨gr,12,none⟩=some (.string r.att):=fun v=>(World.cell?_of_block (heap_setCell_other _ _ _ _ hn1)).trans cr12
 have dr13:∀v,(w.setCell ⟨st,1+i,none⟩ v).cell? ⟨gr,13,none⟩=some (.string r.han):=fun v=>(World.cell?_of_block (heap_setCell_other _ _ _ _ hn1)).trans cr13
 have dr14:∀v,(w.setCell ⟨st,1+i,none⟩ v).cell? ⟨gr,14,none⟩=some (.slice x.a x.n x.c):=fun v=>(World.cell?_of_block (heap_setCell_other _ _ _ _ hn1)).trans cr14
 have ds:∀v,(w.setCell ⟨st,1+i,none⟩ v).cell? ⟨gs,0,none⟩=some (.pointer (some ⟨st,0,none⟩)):=fun v=>(World.cell?_of_block (heap_setCell_other _ _ _ _ hn2)).trans cs
 have fz3:∀v o o',(((w.setCell ⟨st,1+i,none⟩ v).alloc o).alloc o').drew.frozen? ⟨st,1+i,none⟩=false:=fun v o o'=>frozen_of_row _ st _ _ 94 (((Below.heap_alloc _ _ _ (by simp;omega)).trans (Below.heap_alloc _ _ _ (by simpa using hlt))).trans (heap_setCell_same w st (1+i) _ 94 v hst))
 rw[cellsQ r x i hq]at hK;have HK:Hid (K _):=hK;clear hK;clear hcells hst hgs hgr;have HN:Hid (∀W,Calls Tryz.prog 128 #[.agg (cellsOf r x.v)] W fun e w'=>e=.returned (.pointer (some ⟨W.heap.size+1,0,none⟩))/\w'=(W.alloc (.cells (cellsOf r x.v) 24)).alloc (.cells (qC r 1 (.slice none 0 0) (.slice none 0 0) (.slice none 0 0) (.slice none 0 0)) 137)):=fun W=>qnew_any r x W
 rw[cellsQ r x i hq]at HN;have hw0:IntKind.u8.wrap (97+(i:Int)-97)=(i:Int):=by
  have e:(97+(i:Int)-97)=(i:Int):=by omega
  rw[e,IntKind.wrap_u8];omega
 generalize P i=pv at c1;go_enter Tryz.func154,Tryz.ntmps154
 go_region_held3 (fun w'=>w'.cell? ⟨gr,0,none⟩=some (.int .u8 (r.op.toNat:Int))/\w'.cell? ⟨gr,1,none⟩=some (.int .u8 (97+(i:Int)))/\w'.cell? ⟨gr,2,none⟩=some (.int .u8 (r.d.toNat:Int))/\w'.cell? ⟨gr,3,none⟩=some (.int .i64 r.vis)/\w'.cell? ⟨gr,4,none⟩=some (.int .i64 r.win)/\w'.cell? ⟨gr,5,none⟩=some (.int .i64 r.rcv)/\w'.cell? ⟨gr,6,none⟩=some (.int .i64 r.quo)/\w'.cell? ⟨gr,7,none⟩=some (.int .i64 r.mx)/\w'.cell? ⟨gr,8,none⟩=some (.int .i64 r.tic)/\w'.cell? ⟨gr,9,none⟩=some (.string r.grp)/\w'.cell? ⟨gr,10,none⟩=some (.string r.ded)/\w'.cell? ⟨gr,11,none⟩=some (.string r.bod)/\w'.cell? ⟨gr,12,none⟩=some (.string r.att)/\w'.cell? ⟨gr,13,none⟩=some (.string r.han)/\w'.cell? ⟨gr,14,none⟩=some (.slice x.a x.n x.c)/\w'.cell? ⟨gs,0,none⟩=some (.pointer (some ⟨st,0,none⟩))/\w'.frozen? ⟨st,1+i,none⟩=false) (go_keep) (first|(go_at_call 128;refine(HN.out _).mono ?_;rintro e w' ⟨rfl,rfl⟩))
 go_end0;exact⟨rfl,HK.out⟩
theorem made_sg (r:Wp.Rq)(x:Sl)(gr gs st b i:Nat)(now:Int)(P:Nat->Value)(w:World)(hq:r.q.toNat=97+i)(hi:i<8)(hst:Stb w st b now P)
  (hgr:w.heap[gr]?=some (.cells (cellsOf r x.v) 24 (0,0)))(hgs:w.heap[gs]?=some (.cells #[.pointer (some ⟨st,0,none⟩)] 57 (0,0))):
  Calls Tryz.prog 154 #[.pointer (some ⟨gr,0,none⟩),.pointer (some ⟨gs,0,none⟩)] w fun e w'=>
   e=.returned (.tuple #[])/\Tch [st] w w'/\w'.heap.size=w.heap.size+2/\Stb w' st b now (updP P i (.pointer (some ⟨w.heap.size+1,0,none⟩)))/\
   w'.heap[w.heap.size+1]?=some (.cells (qC r 1 (.slice none 0 0) (.slice none 0 0) (.slice none 0 0) (.slice none 0 0)) 137 (0,0)):=by
 refine made_g (fun w'=>Tch [st] w w'/\w'.heap.size=w.heap.size+2/\Stb w' st b now (updP P i (.pointer (some ⟨w.heap.size+1,0,none⟩)))/\
   w'.heap[w.heap.size+1]?=some (.cells (qC r 1 (.slice none 0 0) (.slice none 0 0) (.slice none 0 0) (.slice none 0 0)) 137 (0,0))) r x gr gs st b i now P w hq hi hst hgr hgs ?_
 generalize cellsOf r x.v=C;generalize qC r 1 (.slice none 0 0) (.slice none 0 0) (.slice none 0 0) (.slice none 0 0)=Q;have hv:=hst.set i hi (.pointer (some ⟨w.heap.size+1,0,none⟩));have ht:Tch [st] w (w.setCell ⟨st,1+i,none⟩ (.pointer (some ⟨w.heap.size+1,0,none⟩))):=(Tch.refl _ _).setCell (fun _=>by simp) _;have hs:(w.setCell ⟨st,1+i,none⟩ (.pointer (some ⟨w.heap.size+1,0,none⟩))).heap.size=w.heap.size:=by simp
 generalize w.setCell ⟨st,1+i,none⟩ (.pointer (some ⟨w.heap.size+1,0,none⟩))=W at*
 refine⟨((ht.alloc _).alloc _).drew,?_,?_,?_⟩
 ·show ((W.alloc _).alloc _).heap.size=_
  rw[World.size_alloc,World.size_alloc,hs]
 ·exact hv.tch (((Tch.refl [] W).alloc _).alloc _).drew (by simp)
 ·show ((W.alloc _).alloc _).heap[w.heap.size+1]?=_
  rw[<-hs,heap_alloc2_new]
theorem crt_no (r:Wp.Rq)(y:Sl)(st qb:Nat)(w:World)
  (hA:∀W,Tch [] w W->zE 153 #[.pointer (some ⟨st,0,none⟩),.int .u8 (r.q.toNat:Int)] W (.pointer (some ⟨qb,0,none⟩))):
  zT 119 #[.pointer (some ⟨st,0,none⟩),.agg (cellsOf r y.v)] w (.tuple #[.slice none 0 0,.nilFunc,.int .i64 3]):=by
 rw[zM r y];have HT:Hid (Tch [] w ((w.alloc (.cells #[.pointer (some ⟨st,0,none⟩)] 57)).alloc (.cells #[.int .u8 (r.op.toNat:Int),.int .u8 (r.q.toNat:Int),.int .u8 (r.d.toNat:Int),.int .i64 r.vis,.int .i64 r.win,.int .i64 r.rcv,.int .i64 r.quo,.int .i64 r.mx,.int .i64 r.tic,.string r.grp,.string r.ded,.string r.bod,.string r.att,.string r.han,.slice y.a y.n y.c] 24))):=((Tch.refl _ _).alloc _).alloc _;have HA:Hid (Calls Tryz.prog 153 #[.pointer (some ⟨st,0,none⟩),.int .u8 (r.q.toNat:Int)] ((w.alloc (.cells #[.pointer (some ⟨st,0,none⟩)] 57)).alloc (.cells #[.int .u8 (r.op.toNat:Int),.int .u8 (r.q.toNat:Int),.int .u8 (r.d.toNat:Int),.int .i64 r.vis,.int .i64 r.win,.int .i64 r.rcv,.int .i64 r.quo,.int .i64 r.mx,.int .i64 r.tic,.string r.grp,.string r.ded,.string r.bod,.string r.att,.string r.han,.slice y.a y.n y.c] 24)) _):=hA _ HT.out;clear hA;go_enter Tryz.func119,Tryz.ntmps119;go_wp2_with fail;refine HA.out.mono ?_;rintro e w' ⟨rfl,h'⟩;have h'':=h'.symm;subst h'';go_wp2_with fail;go_ret3;exact⟨rfl,HT.out⟩
theorem crt_ok (r:Wp.Rq)(y:Sl)(st:Nat)(w:World)
  (hA:∀W,Tch [] w W->zE 153 #[.pointer (some ⟨st,0,none⟩),.int .u8 (r.q.toNat:Int)] W (.pointer none)):
  Calls Tryz.prog 119 #[.pointer (some ⟨st,0,none⟩),.agg (cellsOf r y.v)] w fun e w'=>∃gr gs,e=.returned (.tuple #[.slice none 0 0,.func (.func 154) #[] #[.pointer (some ⟨gr,0,none⟩),.pointer (some ⟨gs,0,none⟩)],.int .i64 0])/\Tch [] w w'/\w'.heap[gr]?=some (.cells #[.int .u8 (r.op.toNat:Int),.int .u8 (r.q.toNat:Int),.int .u8 (r.d.toNat:Int),.int .i64 r.vis,.int .i64 r.win,.int .i64 r.rcv,.int .i64 r.quo,.int .i64 r.mx,.int .i64 r.tic,.string r.grp,.string r.ded,.string r.bod,.string r.att,.string r.han,.slice y.a y.n y.c] 24 (0,0))/\w'.heap[gs]?=some (.cells #[.pointer (some ⟨st,0,none⟩)] 57 (0,0)):=by
 rw[zM r y];have HT:Hid (Tch [] w ((w.alloc (.cells #[.pointer (some ⟨st,0,none⟩)] 57)).alloc (.cells #[.int .u8 (r.op.toNat:Int),.int .u8 (r.q.toNat:Int),.int .u8 (r.d.toNat:Int),.int .i64 r.vis,.int .i64 r.win,.int .i64 r.rcv,.int .i64 r.quo,.int .i64 r.mx,.int .i64 r.tic,.string r.grp,.string r.ded,.string r.bod,.string r.att,.string r.han,.slice y.a y.n y.c] 24))):=((Tch.refl _ _).alloc _).alloc _;have HA:Hid (Calls Tryz.prog 153 #[.pointer (some ⟨st,0,none⟩),.int .u8 (r.q.toNat:Int)] ((w.alloc (.cells #[.pointer (some ⟨st,0,none⟩)] 57)).alloc (.cells #[.int .u8 (r.op.toNat:Int),.int .u8 (r.q.toNat:Int),.int .u8 (r.d.toNat:Int),.int .i64 r.vis,.int .i64 r.win,.int .i64 r.rcv,.int .i64 r.quo,.int .i64 r.mx,.int .i64 r.tic,.string r.grp,.string r.ded,.string r.bod,.string r.att,.string r.han,.slice y.a y.n y.c] 24)) _):=hA _ HT.out;clear hA;go_enter Tryz.func119,Tryz.ntmps119;go_wp2_with fail;refine HA.out.mono ?_;rintro e w' ⟨rfl,h'⟩;have h'':=h'.symm;subst h'';go_wp2_with fail;go_ret3;exact⟨w.heap.size+1,w.heap.size,rfl,HT.out,heap_alloc2_new _ _ _,heap_alloc2_old _ _ _⟩
theorem goOn_c (r:Wp.Rq)(y:Sl)(st:Nat)(now:Int)(w:World)(c0:w.cell? ⟨st,0,none⟩=some (.int .i64 now))(hn:0<=now/\0<=r.tic/\now+r.tic<=60000):
  Calls Tryz.prog 125 #[.pointer (some ⟨st,0,none⟩),.agg (cellsOf r y.v)] w fun e w'=>∃gs gl,e=.returned (.tuple #[.slice none 0 0,.func (.func 173) #[] #[.pointer (some ⟨gs,0,none⟩),.pointer (some ⟨gl,0,none⟩)],.int .i64 0])/\Tch [] w w'/\
   w'.heap[gs]?=some (.cells #[.pointer (some ⟨st,0,none⟩)] 57 (0,0))/\w'.heap[gl]?=some (.cells #[.int .i64 (now+r.tic)] 3 (0,0)):=by
 have hlt:=World.block_lt_of_cell? _ _ c0;have hwr:IntKind.i64.wrap (now+r.tic)=now+r.tic:=by rw[IntKind.wrap_i64];omega
 rw[zM r y];go_enter Tryz.func125,Tryz.ntmps125;go_wp2_with fail;obtain⟨wb,hwb⟩:∃wb,wb=(w.alloc (.cells #[.pointer (some ⟨st,0,none⟩)] 57)).alloc (.cells #[.int .u8 (r.op.toNat:Int),.int .u8 (r.q.toNat:Int),.int .u8 (r.d.toNat:Int),.int .i64 r.vis,.int .i64 r.win,.int .i64 r.rcv,.int .i64 r.quo,.int .i64 r.mx,.int .i64 r.tic,.string r.grp,.string r.ded,.string r.bod,.string r.att,.string r.han,.slice y.a y.n y.c] 24):=⟨_,rfl⟩;rw[<-hwb];have t1:Tch [] w wb:=by rw[hwb];exact((Tch.refl _ _).alloc _).alloc _
 have h1:wb.heap[w.heap.size]?=some (.cells #[.pointer (some ⟨st,0,none⟩)] 57 (0,0)):=by rw[hwb];exact heap_alloc2_old _ _ _
 have h2:wb.heap[w.heap.size+1]?=some (.cells #[.int .u8 (r.op.toNat:Int),.int .u8 (r.q.toNat:Int),.int .u8 (r.d.toNat:Int),.int .i64 r.vis,.int .i64 r.win,.int .i64 r.rcv,.int .i64 r.quo,.int .i64 r.mx,.int .i64 r.tic,.string r.grp,.string r.ded,.string r.bod,.string r.att,.string r.han,.slice y.a y.n y.c] 24 (0,0)):=by rw[hwb];exact heap_alloc2_new _ _ _
 have e1:=cell_of_one h1;have e2:wb.cell? ⟨w.heap.size+1,8,none⟩=some (.int .i64 r.tic):=by simp[World.cell?,h2]
 have e3:=(t1.cell (a:=⟨st,0,none⟩) hlt (by simp)).trans c0;have l1:=lt_of_block h1;have T1:=zH t1;have H1:=zH h1;clear hwb t1 h1 h2 c0
 go_region_held3 (fun w'=>w'.cell? ⟨w.heap.size,0,none⟩=some (.pointer (some ⟨st,0,none⟩))/\w'.cell? ⟨w.heap.size+1,8,none⟩=some (.int .i64 r.tic)/\w'.cell? ⟨st,0,none⟩=some (.int .i64 now)) (go_keep) (fail)
 go_wp2_with fail;go_ret3;refine⟨w.heap.size,wb.heap.size,rfl,?_,?_,?_⟩
 ·exact(T1.out.alloc _).drew
 ·exact(Below.heap_alloc _ _ _ l1).trans H1.out
 ·exact heap_alloc_new wb _
theorem goOn_late (r:Wp.Rq)(y:Sl)(st:Nat)(now:Int)(w:World)(c0:w.cell? ⟨st,0,none⟩=some (.int .i64 now))(hn:0<=now/\0<=r.tic/\60000<now+r.tic/\now+r.tic<=1000000):
  zT 125 #[.pointer (some ⟨st,0,none⟩),.agg (cellsOf r y.v)] w (.tuple #[.slice none 0 0,.nilFunc,.int .i64 9]):=by
 have hlt:=World.block_lt_of_cell? _ _ c0;have hwr:IntKind.i64.wrap (now+r.tic)=now+r.tic:=by rw[IntKind.wrap_i64];omega
 rw[zM r y];go_enter Tryz.func125,Tryz.ntmps125;go_wp2_with fail;obtain⟨wb,hwb⟩:∃wb,wb=(w.alloc (.cells #[.pointer (some ⟨st,0,none⟩)] 57)).alloc (.cells #[.int .u8 (r.op.toNat:Int),.int .u8 (r.q.toNat:Int),.int .u8 (r.d.toNat:Int),.int .i64 r.vis,.int .i64 r.win,.int .i64 r.rcv,.int .i64 r.quo,.int .i64 r.mx,.int .i64 r.tic,.string r.grp,.string r.ded,.string r.bod,.string r.att,.string r.han,.slice y.a y.n y.c] 24):=⟨_,rfl⟩;rw[<-hwb];have t1:Tch [] w wb:=by rw[hwb];exact((Tch.refl _ _).alloc _).alloc _
 have h1:wb.heap[w.heap.size]?=some (.cells #[.pointer (some ⟨st,0,none⟩)] 57 (0,0)):=by rw[hwb];exact heap_alloc2_old _ _ _
 have h2:wb.heap[w.heap.size+1]?=some (.cells #[.int .u8 (r.op.toNat:Int),.int .u8 (r.q.toNat:Int),.int .u8 (r.d.toNat:Int),.int .i64 r.vis,.int .i64 r.win,.int .i64 r.rcv,.int .i64 r.quo,.int .i64 r.mx,.int .i64 r.tic,.string r.grp,.string r.ded,.string r.bod,.string r.att,.string r.han,.slice y.a y.n y.c] 24 (0,0)):=by rw[hwb];exact heap_alloc2_new _ _ _
 have e1:=cell_of_one h1;have e2:wb.cell? ⟨w.heap.size+1,8,none⟩=some (.int .i64 r.tic):=by simp[World.cell?,h2]
 have e3:=(t1.cell (a:=⟨st,0,none⟩) hlt (by simp)).trans c0;have T1:=zH t1;clear hwb t1 h1 h2 c0
 go_region_held3 (fun w'=>w'.cell? ⟨w.heap.size,0,none⟩=some (.pointer (some ⟨st,0,none⟩))/\w'.cell? ⟨w.heap.size+1,8,none⟩=some (.int .i64 r.tic)/\w'.cell? ⟨st,0,none⟩=some (.int .i64 now)) (go_keep) (fail)
 go_wp2_with fail;go_ret3;exact⟨rfl,(T1.out.alloc _).drew⟩
theorem or_i64b (a b:Nat)(ha:a<4294967296)(hb:b<4294967296):bits .or .i64 (a:Int) (b:Int)=((a ||| b:Nat):Int):=by
 have hx:a ||| b<2^32:=Nat.or_lt_two_pow (by omega) (by omega)
 show IntKind.i64.wrap ((BitVec.ofInt 64 (a:Int) ||| BitVec.ofInt 64 (b:Int)).toNat:Int)=_
 rw[BitVec.toNat_or,ofInt_u64 a (by omega),ofInt_u64 b (by omega)];simp[IntKind.wrap,IntKind.bits,IntKind.signed];omega
theorem or_add (k a b:Nat)(ha:a<2^k):a ||| b*2^k=a+2^k*b:=by
 have h:=Nat.two_pow_add_eq_or_of_lt (i:=k) (b:=a) ha b;rw[Nat.or_comm,Nat.mul_comm b,<-h];omega
theorem or_four (a b c d:Nat)(ha:a<256)(hb:b<256)(hc:c<256)(hd:d<256):bits .or .i64 (bits .or .i64 (bits .or .i64 (bits .or .i64 0 (a:Int)) ((b:Int)*256)) ((c:Int)*65536)) ((d:Int)*16777216)=((a+256*b+65536*c+16777216*d:Nat):Int):=by
 have s1:bits .or .i64 0 (a:Int)=(a:Int):=by
  have h:=or_i64b 0 a (by omega) (by omega);rw[Nat.zero_or]at h;exact h
 have x2:=or_add 8 a b ha;have x3:=or_add 16 (a+256*b) c (by omega);have x4:=or_add 24 (a+256*b+65536*c) d (by omega);have s2:bits .or .i64 (a:Int) ((b:Int)*256)=((a+256*b:Nat):Int):=by
  rw[show ((b:Int)*256)=((b*256:Nat):Int) by omega,or_i64b a (b*256) (by omega) (by omega)]
  exact congrArg Nat.cast x2
 have s3:bits .or .i64 ((a+256*b:Nat):Int) ((c:Int)*65536)=((a+256*b+65536*c:Nat):Int):=by
  rw[show ((c:Int)*65536)=((c*65536:Nat):Int) by omega,or_i64b (a+256*b) (c*65536) (by omega) (by omega)]
  exact congrArg Nat.cast x3
 have s4:bits .or .i64 ((a+256*b+65536*c:Nat):Int) ((d:Int)*16777216)=((a+256*b+65536*c+16777216*d:Nat):Int):=by
  rw[show ((d:Int)*16777216)=((d*16777216:Nat):Int) by omega,or_i64b (a+256*b+65536*c) (d*16777216) (by omega) (by omega)]
  exact congrArg Nat.cast x4
 rw[s1,s2,s3,s4]
theorem list_four (T:ByteArray)(h:T.size=4):T.data.toList=[T[0],T[1],T[2],T[3]]:=by
 have hl:T.data.toList.length=4:=h
 match hm:T.data.toList,hl with
 | [x,y,z,u],_=>
  have h0:T[0]=T.data.toList[0]'(by rw[hm];simp):=rfl;have h1:T[1]=T.data.toList[1]'(by rw[hm];simp):=rfl;have h2:T[2]=T.data.toList[2]'(by rw[hm];simp):=rfl;have h3:T[3]=T.data.toList[3]'(by rw[hm];simp):=rfl;rw[h0,h1,h2,h3];simp[hm]
theorem number_four (b:Nat)(s:ByteArray)(f:Bool)(w:World)(hs:s.size<=maxLen)(h4:4<=s.size)(hR:Rd w b s f):
  Calls Tryz.prog 53 #[.pointer (some ⟨b,0,none⟩),.int .i64 4] w fun e w'=>e=.returned (.int .i64 (leN (tk s 4).data.toList:Nat))/\Rd w' b (lf s 4) (bad s f 4)/\w.grownBy w' (some b)/\w'.heap.size=w.heap.size:=by
 have htk:=take_any b s f 4 w (by omega) hs hR;have hsz:(tk s 4).size=4:=by unfold tk;rw[if_pos h4];simp;omega
 generalize tk s 4=T at htk hsz;generalize lf s 4=S1 at htk;generalize bad s f 4=F1 at htk;have HT:=zH htk;have b0:=T[0].toNat_lt;have b1:=T[1].toNat_lt;have b2:=T[2].toNat_lt;have b3:=T[3].toNat_lt;have hv:Hid (leN T.data.toList=T[0].toNat+256*T[1].toNat+65536*T[2].toNat+16777216*T[3].toNat):=by show _=_;rw[list_four T hsz];simp only[leN];omega
 have HE:Hid (bits .or .i64 (bits .or .i64 (bits .or .i64 (bits .or .i64 0 (T[0].toNat:Int)) ((T[1].toNat:Int)*256)) ((T[2].toNat:Int)*65536)) ((T[3].toNat:Int)*16777216)=((T[0].toNat+256*T[1].toNat+65536*T[2].toNat+16777216*T[3].toNat:Nat):Int)):=or_four _ _ _ _ b0 b1 b2 b3;clear htk hR;go_enter Tryz.func53,Tryz.ntmps53;go_wp2_with fail;refine(HT.out).mono ?_;rintro e w1 ⟨rfl,h1,h2,h3⟩;have H1:Hid (Rd w1 b S1 F1/\w.grownBy w1 (some b)/\w1.heap.size=w.heap.size):=⟨h1,h2,h3⟩;clear h1 h2 h3
 go_wp2
 refine wp_loop_rounds 5 ?_;rw[rounds_succ]
 go_wp2
 rw[rounds_succ]
 go_wp2
 rw[rounds_succ]
 go_wp2
 rw[rounds_succ]
 go_wp2
 rw[rounds_succ]
 go_wp2
 go_ret;exact⟨ret_int (by rw[hv.out,HE.out]),H1.out⟩
def isLet (c:UInt8):Bool:=decide (97<=c.toNat)&&decide (c.toNat<=104)
theorem isQueue_any (B:Nat)(c:UInt8)(w:World)(hL:Lays B w)(hB:B<=w.heap.size):zT 99 #[.int .u8 (c.toNat:Int)] w (.bool (isLet c)):=by
 have d0:w.cell? ⟨1,0,none⟩=some (.int .i64 0):=hL.2.1 0 (by decide);have d1:w.cell? ⟨1,1,none⟩=some (.int .i64 97):=hL.2.1 1 (by decide);have d2:w.cell? ⟨1,2,none⟩=some (.int .i64 104):=hL.2.1 2 (by decide);have hc:=c.toNat_lt;have HL:Hid (isLet c=(decide (97<=c.toNat)&&decide (c.toNat<=104))):=rfl;generalize c.toNat=n at*
 clear hL;go_enter Tryz.func99,Tryz.ntmps99
 by_cases ha:97<=n
 ·go_wp2_with fail;go_ret;exact⟨ret_bool (by rw[HL.out,decide_eq_true ha,Bool.true_and];exact decide_eq_decide.2 (by omega)),(Tch.refl [] w).alloc _⟩
 ·go_wp2_with fail;go_ret;exact⟨ret_bool (by rw[HL.out,decide_eq_false (by omega),Bool.false_and]),(Tch.refl [] w).alloc _⟩
end Go.Proofs.YtbdobaapadlcjabGreatDoor
