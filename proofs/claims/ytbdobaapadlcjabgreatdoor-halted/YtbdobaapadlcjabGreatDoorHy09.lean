import Derived.Test.YtbdobaapadlcjabGreatDoorHy08
set_option maxRecDepth 8000
set_option maxHeartbeats 2000000
set_option linter.unusedVariables false
set_option linter.unusedSimpArgs false
namespace Go.Proofs.YtbdobaapadlcjabGreatDoor
open Go.RowKit
variable {qb:Nat}{w w':World}
theorem sendg_found (c r:Wp.Rq)(y:Sl)(qb gd nd cd i num:Nat)(ds:List Dd)(now next:Int)(ms rs at_:Value)(w:World)
  (hq:w.heap[qb]?=some (.cells (qC c next ms rs (.slice (some ⟨gd,0,none⟩) nd cd) at_) 137 (0,0)))(hbod:r.bod.size<=40)(hT:Tab w)(h2:2<w.heap.size)
  (ho:w.ownsRow 0 195 3 (.slice (some ⟨gd,0,none⟩) nd cd) ds.length (ds.flatMap Dd.row))(hnd:nd=ds.length)(hl:ds.length<=1000)(hid:idxL (isI (didS r)) ds=(i:Int))(hi:i<ds.length)(hnum:ds[i].num=(num:Nat))(hn:num<4294967296):
  Calls Tryz.prog 124 #[.pointer (some ⟨qb,0,none⟩),.int .i64 now,.agg (cellsOf r y.v)] w fun e w'=>∃av,e=.returned (.tuple #[av,.nilFunc,.int .i64 0])/\OwnB w' w.heap.size av (lowB num 4)/\Below w.heap.size w w':=by
 have hlt:=lt_of_block hq;have HQ:=zH hq;have HID:Hid (∀W,Below w.heap.size w W->zB 169 #[.agg (cellsOf r y.v)] W (.string (didS r))):=fun W hb=>dedupID_any r y W (Nat.le_trans hbod (by decide)) (hT.below hb h2) (by have:=hb.size;omega)
 rw[zM r y]at HID;have hbz:¬(40:Int)<(r.bod.size:Int):=by omega
 have hgd:gd<w.heap.size:=own_lt ho rfl;have HCC:Hid (w.cell? ⟨gd,i*3+1,none⟩=some (.int .i64 (num:Nat))):=by
  have h1:(ds.flatMap Dd.row)[i*3+1]?=some (.int .i64 (num:Nat)):=by rw[flat_get Dd.row 3 (fun _=>rfl) ds i 1 hi (by decide)];simp[Dd.row,hnum]
  have h2:=World.ownsRow.cells ho (g:=gd) rfl (i*3+1) _ h1;have e2:(⟨gd,0,none⟩:Addr).add (i*3+1)=⟨gd,i*3+1,none⟩:=by unfold Addr.add;split<;>simp_all
  rw[e2]at h2;exact h2
 have HII:=zH hid;have HOW:=zH ho;clear hq hT hid ho;generalize didS r=id at*
 rw[zM r y];go_enter Tryz.func124,Tryz.ntmps124;go_wp2_with fail;refine(HID.out _ (((((Below.refl _ _).alloc (Nat.le_refl _) _).alloc (by simp) _)).alloc (by simp;omega) _)).mono ?_;rintro e w4 ⟨rfl,hb4⟩;have t4:Tch [] w w4:=(sbox_tch w qb now #[.int .u8 (r.op.toNat:Int),.int .u8 (r.q.toNat:Int),.int .u8 (r.d.toNat:Int),.int .i64 r.vis,.int .i64 r.win,.int .i64 r.rcv,.int .i64 r.quo,.int .i64 r.mx,.int .i64 r.tic,.string r.grp,.string r.ded,.string r.bod,.string r.att,.string r.han,.slice y.a y.n y.c]).trans (Tch.of_below hb4) (by simp);have hb4':Below (sbox w qb now #[.int .u8 (r.op.toNat:Int),.int .u8 (r.q.toNat:Int),.int .u8 (r.d.toNat:Int),.int .i64 r.vis,.int .i64 r.win,.int .i64 r.rcv,.int .i64 r.quo,.int .i64 r.mx,.int .i64 r.tic,.string r.grp,.string r.ded,.string r.bod,.string r.att,.string r.han,.slice y.a y.n y.c]).heap.size (sbox w qb now #[.int .u8 (r.op.toNat:Int),.int .u8 (r.q.toNat:Int),.int .u8 (r.d.toNat:Int),.int .i64 r.vis,.int .i64 r.win,.int .i64 r.rcv,.int .i64 r.quo,.int .i64 r.mx,.int .i64 r.tic,.string r.grp,.string r.ded,.string r.bod,.string r.att,.string r.han,.slice y.a y.n y.c]) w4:=hb4;rw[sbox_size]at hb4';have z4:w.heap.size+3<=w4.heap.size:=by have:=hb4'.size;rw[sbox_size]at this;exact this
 have k0:=cell_of_one ((hb4'.block _ (by omega)).trans (sbox_0 w qb now #[.int .u8 (r.op.toNat:Int),.int .u8 (r.q.toNat:Int),.int .u8 (r.d.toNat:Int),.int .i64 r.vis,.int .i64 r.win,.int .i64 r.rcv,.int .i64 r.quo,.int .i64 r.mx,.int .i64 r.tic,.string r.grp,.string r.ded,.string r.bod,.string r.att,.string r.han,.slice y.a y.n y.c]));have hn0:w.heap.size<w4.heap.size:=by omega
 have hq4:(w4.alloc (.cells #[.string id] 9)).heap[qb]?=some (.cells (qC c next ms rs (.slice (some ⟨gd,0,none⟩) nd cd) at_) 137 (0,0)):=(Below.heap_alloc _ _ _ (by omega)).trans ((t4.block _ hlt (by simp)).trans HQ.out);have HF:Hid (zB 170 #[.pointer (some ⟨qb,0,none⟩),.string id] (w4.alloc (.cells #[.string id] 9)) (.int .i64 (i:Int))):=by
  have h:=findDedup_gen id qb _ ds (w4.alloc (.cells #[.string id] 9)) (cell_qC hq4 9 _ rfl) (own_tch HOW.out (t4.alloc _) (fun _ _=>by simp)) (by omega);rw[HII.out]at h;exact h
 have HQ4:=zH hq4;have T4:=zH t4;clear hb4 hb4' hq4 t4;go_wp2_with fail;refine HF.out.mono ?_;rintro e w6 ⟨rfl,hb6⟩;have t6:Tch [] w w6:=(T4.out.alloc _).trans (Tch.of_below hb6) (by simp);have z6:=hb6.size;rw[World.size_alloc]at z6;have k6:w6.cell? ⟨w.heap.size,0,none⟩=some (.pointer (some ⟨qb,0,none⟩)):=(hb6.cell (p:=⟨w.heap.size,0,none⟩) (by simp;omega)).trans (Lib.cell?_alloc_some _ k0);have q9:w6.cell? ⟨qb,9,none⟩=some (.slice (some ⟨gd,0,none⟩) nd cd):=cell_qC ((hb6.block _ (by simp;omega)).trans HQ4.out) 9 _ rfl;have d1:=(t6.cell (a:=⟨gd,i*3+1,none⟩) hgd (by simp)).trans HCC.out;have HA:Hid (Calls Tryz.prog 46 #[.slice none 0 0,.int .i64 (num:Nat),.int .i64 4] w6 fun e w'=>∃v',e=.returned v'/\OwnB w' w.heap.size v' ([]++lowB num 4)/\Below w.heap.size w6 w'):=appendNumber_any w.heap.size _ [] num 4 w6 hn (by decide) (by decide) (by omega) (World.ownsRow_nil _ _ _ _);have T6:=zH t6;clear hb6 t6 k0;go_wp2_with fail;refine HA.out.mono ?_;rintro e w7 ⟨av,rfl,ho,hb7⟩;have HO:=zH ho;have HB7:=zH hb7;clear ho hb7;go_wp2_with fail;go_ret3;exact⟨av,rfl,HO.out,(T6.out.below (by simp) (Nat.le_refl _)).trans HB7.out⟩
theorem sendg_new (c r:Wp.Rq)(y:Sl)(qb k nm cm:Nat)(am:Option Addr)(ds:List Dd)(now:Int)(rs vd at_:Value)(w:World)
  (hq:w.heap[qb]?=some (.cells (qC c (k:Int) (.slice am nm cm) rs vd at_) 137 (0,0)))(hbod:r.bod.size<=40)(hT:Tab w)(h2:2<w.heap.size)
  (ho:w.ownsRow 0 195 3 vd ds.length (ds.flatMap Dd.row))(hl:ds.length<=1000)(hid:idxL (isI (didS r)) ds<0)(hquo:(nm:Int)<c.quo)(hk:k<=200):
  Calls Tryz.prog 124 #[.pointer (some ⟨qb,0,none⟩),.int .i64 now,.agg (cellsOf r y.v)] w fun e w'=>∃av gi,
   e=.returned (.tuple #[av,.func (.func 171) #[] #[.pointer (some ⟨w.heap.size,0,none⟩),.pointer (some ⟨gi,0,none⟩),.pointer (some ⟨w.heap.size+1,0,none⟩),.pointer (some ⟨w.heap.size+2,0,none⟩)],.int .i64 0])/\OwnB w' (gi+1) av (lowB k 4)/\Below w.heap.size w w'/\
   w'.heap[w.heap.size]?=some (.cells #[.pointer (some ⟨qb,0,none⟩)] 88 (0,0))/\w'.heap[gi]?=some (.cells #[.string (didS r)] 9 (0,0))/\w'.heap[w.heap.size+1]?=some (.cells #[.int .i64 now] 3 (0,0))/\w'.heap[w.heap.size+2]?=some (.cells (cellsOf r y.v) 24 (0,0)):=by
 have hlt:=lt_of_block hq;have HQ:=zH hq;have HID:Hid (∀W,Below w.heap.size w W->zB 169 #[.agg (cellsOf r y.v)] W (.string (didS r))):=fun W hb=>dedupID_any r y W (Nat.le_trans hbod (by decide)) (hT.below hb h2) (by have:=hb.size;omega)
 rw[zM r y]at HID;have hbz:¬(40:Int)<(r.bod.size:Int):=by omega
 have hquo':¬c.quo<=(nm:Int):=by omega
 have hk':¬(200:Int)<(k:Int):=by omega
 have HOW:=zH ho;have hge:=idxL_ge (isI (didS r)) ds;have HII:Hid (idxL (isI (didS r)) ds=-1):=by show _=_;omega
 clear hq hT ho hid hge;generalize didS r=id at*
 rw[zM r y];go_enter Tryz.func124,Tryz.ntmps124;go_wp2_with fail;refine(HID.out _ (((((Below.refl _ _).alloc (Nat.le_refl _) _).alloc (by simp) _)).alloc (by simp;omega) _)).mono ?_;rintro e w4 ⟨rfl,hb4⟩;have t4:Tch [] w w4:=(sbox_tch w qb now #[.int .u8 (r.op.toNat:Int),.int .u8 (r.q.toNat:Int),.int .u8 (r.d.toNat:Int),.int .i64 r.vis,.int .i64 r.win,.int .i64 r.rcv,.int .i64 r.quo,.int .i64 r.mx,.int .i64 r.tic,.string r.grp,.string r.ded,.string r.bod,.string r.att,.string r.han,.slice y.a y.n y.c]).trans (Tch.of_below hb4) (by simp);have hb4':Below (sbox w qb now #[.int .u8 (r.op.toNat:Int),.int .u8 (r.q.toNat:Int),.int .u8 (r.d.toNat:Int),.int .i64 r.vis,.int .i64 r.win,.int .i64 r.rcv,.int .i64 r.quo,.int .i64 r.mx,.int .i64 r.tic,.string r.grp,.string r.ded,.string r.bod,.string r.att,.string r.han,.slice y.a y.n y.c]).heap.size (sbox w qb now #[.int .u8 (r.op.toNat:Int),.int .u8 (r.q.toNat:Int),.int .u8 (r.d.toNat:Int),.int .i64 r.vis,.int .i64 r.win,.int .i64 r.rcv,.int .i64 r.quo,.int .i64 r.mx,.int .i64 r.tic,.string r.grp,.string r.ded,.string r.bod,.string r.att,.string r.han,.slice y.a y.n y.c]) w4:=hb4;rw[sbox_size]at hb4';have z4:w.heap.size+3<=w4.heap.size:=by have:=hb4'.size;rw[sbox_size]at this;exact this
 have B0:=(hb4'.block _ (by omega)).trans (sbox_0 w qb now #[.int .u8 (r.op.toNat:Int),.int .u8 (r.q.toNat:Int),.int .u8 (r.d.toNat:Int),.int .i64 r.vis,.int .i64 r.win,.int .i64 r.rcv,.int .i64 r.quo,.int .i64 r.mx,.int .i64 r.tic,.string r.grp,.string r.ded,.string r.bod,.string r.att,.string r.han,.slice y.a y.n y.c]);have HB1:=zH ((hb4'.block _ (by omega)).trans (sbox_1 w qb now #[.int .u8 (r.op.toNat:Int),.int .u8 (r.q.toNat:Int),.int .u8 (r.d.toNat:Int),.int .i64 r.vis,.int .i64 r.win,.int .i64 r.rcv,.int .i64 r.quo,.int .i64 r.mx,.int .i64 r.tic,.string r.grp,.string r.ded,.string r.bod,.string r.att,.string r.han,.slice y.a y.n y.c]));have HB2:=zH ((hb4'.block _ (by omega)).trans (sbox_2 w qb now #[.int .u8 (r.op.toNat:Int),.int .u8 (r.q.toNat:Int),.int .u8 (r.d.toNat:Int),.int .i64 r.vis,.int .i64 r.win,.int .i64 r.rcv,.int .i64 r.quo,.int .i64 r.mx,.int .i64 r.tic,.string r.grp,.string r.ded,.string r.bod,.string r.att,.string r.han,.slice y.a y.n y.c]));have k0:=cell_of_one B0;have HB0:=zH B0;have hn0:w.heap.size<w4.heap.size:=by omega
 have hq4:(w4.alloc (.cells #[.string id] 9)).heap[qb]?=some (.cells (qC c (k:Int) (.slice am nm cm) rs vd at_) 137 (0,0)):=(Below.heap_alloc _ _ _ (by omega)).trans ((t4.block _ hlt (by simp)).trans HQ.out);have HF:Hid (zB 170 #[.pointer (some ⟨qb,0,none⟩),.string id] (w4.alloc (.cells #[.string id] 9)) (.int .i64 (-1))):=by
  have h:=findDedup_gen id qb _ ds (w4.alloc (.cells #[.string id] 9)) (cell_qC hq4 9 _ rfl) (own_tch HOW.out (t4.alloc _) (fun _ _=>by simp)) (by omega);rw[HII.out]at h;exact h
 have HQ4:=zH hq4;have T4:=zH t4;clear hb4 hb4' hq4 t4 B0;go_wp2_with fail;refine HF.out.mono ?_;rintro e w6 ⟨rfl,hb6⟩;have t6:Tch [] w w6:=(T4.out.alloc _).trans (Tch.of_below hb6) (by simp);have z6:=hb6.size;rw[World.size_alloc]at z6;have BL:∀i o,i<w4.heap.size->w4.heap[i]?=some o->w6.heap[i]?=some o:=fun i o hi ho=>(hb6.block i (by simp;omega)).trans ((Below.heap_alloc _ _ _ hi).trans ho)
 have HC0:Hid (w6.heap[w.heap.size]?=_):=BL _ _ hn0 HB0.out;have HC1:Hid (w6.heap[w.heap.size+1]?=_):=BL _ _ (by omega) HB1.out;have HC2:Hid (w6.heap[w.heap.size+2]?=_):=BL _ _ (by omega) HB2.out;have HCI:Hid (w6.heap[w4.heap.size]?=_):=(hb6.block _ (by simp)).trans (heap_alloc_new _ _);have hq6:=(hb6.block qb (by simp;omega)).trans HQ4.out;have k6:w6.cell? ⟨w.heap.size,0,none⟩=some (.pointer (some ⟨qb,0,none⟩)):=cell_of_one HC0.out;have q5:w6.cell? ⟨qb,5,none⟩=some (.int .i64 c.quo):=cell_qC hq6 5 _ rfl;have q6:w6.cell? ⟨qb,6,none⟩=some (.int .i64 (k:Int)):=cell_qC hq6 6 _ rfl;have q7:w6.cell? ⟨qb,7,none⟩=some (.slice am nm cm):=cell_qC hq6 7 _ rfl;have T6:=zH t6;have HA:Hid (∀n,Calls Tryz.prog 46 #[.slice none 0 0,.int .i64 (k:Int),.int .i64 4] (w6.drewN n) fun e w'=>∃v',e=.returned v'/\OwnB w' (w4.heap.size+1) v' ([]++lowB k 4)/\Below (w4.heap.size+1) (w6.drewN n) w'):=fun n=>appendNumber_any (w4.heap.size+1) _ [] k 4 (w6.drewN n) (by omega) (by decide) (by decide) z6 (World.ownsRow_nil _ _ _ _)
 have z6':=zH z6;clear hb6 t6 k0 hq6 BL;go_wp2_with fail;go_quiet (fail);have k6':=k6;have q6':=q6;go_wp2_with fail;refine(HA.out nq).mono ?_;rintro e w7 ⟨av,rfl,ho,hb7⟩;have HO:=zH ho;have HB7:Hid (Below (w4.heap.size+1) w6 w7):=(below_drewN (Below.refl _ _) nq).trans hb7;clear ho hb7;go_wp2_with fail;go_ret3;have hB:=HB7.out;exact⟨av,w4.heap.size,rfl,HO.out,(T6.out.below (by simp) (Nat.le_refl _)).trans (hB.mono (by omega)),(hB.block _ (by omega)).trans HC0.out,(hB.block _ (by omega)).trans HCI.out,(hB.block _ (by omega)).trans HC1.out,(hB.block _ (by omega)).trans HC2.out⟩
theorem sentg_now (K:World->Prop)(c r:Wp.Rq)(y:Sl)(qb k nr gq gi gn gr:Nat)(vd ms rs at_:Value)(l:List Ms)(xr:List Value)(w:World)
  (hq:Qb w qb c (k:Int) ms rs vd at_)(hm:w.ownsRow 0 191 5 ms l.length (l.flatMap Ms.row))(hr:w.ownsRow 0 9 1 rs nr xr)(hnm:l.length<=1000)(hnr:nr<=1000)(hk:k<=200)(hwin:c.win=0)
  (hgq:w.heap[gq]?=some (.cells #[.pointer (some ⟨qb,0,none⟩)] 88 (0,0)))(hgr:w.heap[gr]?=some (.cells (cellsOf r y.v) 24 (0,0)))
  (hK:∀w' ms' rs',Qb w' qb c ((k+1:Nat):Int) ms' rs' vd at_->w'.ownsRow 0 191 5 ms' (l.length+1) (l.flatMap Ms.row++msV k r.grp r.bod)->w'.ownsRow 0 9 1 rs' (if idxL (isG r.grp) l<0 then nr+1 else nr) (if idxL (isG r.grp) l<0 then xr++[.string r.grp] else xr)->NewOr w ms ms'->NewOr w rs rs'->Tch (qb::(bl ms++bl rs)) w w'->K w'):
  Calls Tryz.prog 171 #[.pointer (some ⟨gq,0,none⟩),.pointer (some ⟨gi,0,none⟩),.pointer (some ⟨gn,0,none⟩),.pointer (some ⟨gr,0,none⟩)] w fun e w'=>e=.returned (.tuple #[])/\K w':=by
 have HP:=zH (putg_walk K c r.grp r.bod qb k nr ms rs vd at_ l xr w hq hm hr hnm hnr hk hK);have q3:w.cell? ⟨qb,3,none⟩=some (.int .i64 0):=by rw[<-hwin];exact cell_qC hq 3 _ rfl
 have cq:=cell_of_one hgq;have c9:=gr9 hgr;have c11:=gr11 hgr;clear hq hm hr hgq hgr hK;go_enter Tryz.func171,Tryz.ntmps171;go_wp2_with fail;refine HP.out.mono ?_;rintro e w2 ⟨rfl,hk2⟩;go_wp2_with fail;go_end0;exact⟨rfl,hk2⟩
structure QV where
 m:Value
 r:Value
 d:Value
 a:Value
structure QM where
 c:Wp.Rq
 next:Nat
 ms:List Ms
 rs:List ByteArray
 ds:List Dd
 ats:List At
structure QR (w:World)(qb:Nat)(V:QV)(Q:QM):Prop where
 blk:Qb w qb Q.c (Q.next:Int) V.m V.r V.d V.a
 m:w.ownsRow 0 191 5 V.m Q.ms.length (Q.ms.flatMap Ms.row)
 r:w.ownsRow 0 9 1 V.r Q.rs.length (Q.rs.map Value.string)
 d:w.ownsRow 0 195 3 V.d Q.ds.length (Q.ds.flatMap Dd.row)
 a:w.ownsRow 0 199 3 V.a Q.ats.length (Q.ats.flatMap At.row)
def qbl (qb:Nat)(V:QV):List Nat:=qb::(bl V.m++(bl V.r++(bl V.d++bl V.a)))
theorem mem_qbl {V:QV}{b:Nat}:b∈qbl qb V↔b=qb\/V.m.ownBlock=some b\/V.r.ownBlock=some b\/V.d.ownBlock=some b\/V.a.ownBlock=some b:=by
 simp only[qbl,List.mem_cons,List.mem_append,mem_bl]
def QL (w w':World)(qb:Nat)(V:QV)(Q:QM):Prop:=∃V',QR w' qb V' Q/\Tch (qbl qb V) w w'/\∀b∈qbl qb V',b∈qbl qb V\/w.heap.size<=b
theorem QR.tch {V:QV}{Q:QM}(h:QR w qb V Q){S:List Nat}(ht:Tch S w w')(hS:∀b∈qbl qb V,b∉S):QR w' qb V Q:=
 ⟨(ht.block _ h.blk.lt (hS _ (by simp[qbl]))).trans h.blk,own_tch h.m ht (fun b hb=>hS b (mem_qbl.2 (.inr (.inl hb)))),own_tch h.r ht (fun b hb=>hS b (mem_qbl.2 (.inr (.inr (.inl hb))))),own_tch h.d ht (fun b hb=>hS b (mem_qbl.2 (.inr (.inr (.inr (.inl hb)))))),own_tch h.a ht (fun b hb=>hS b (mem_qbl.2 (.inr (.inr (.inr (.inr hb))))))⟩
theorem QR.lt {V:QV}{Q:QM}(h:QR w qb V Q):∀b∈qbl qb V,b<w.heap.size:=fun b hb=>by
 rcases mem_qbl.1 hb with e|e|e|e|e
 ·rw[e];exact h.blk.lt
 ·exact own_lt h.m e
 ·exact own_lt h.r e
 ·exact own_lt h.d e
 ·exact own_lt h.a e
abbrev TQ:List TypeId:=[137,191,9,195,199]
theorem QR.ty {V:QV}{Q:QM}(h:QR w qb V Q):∀b∈qbl qb V,∀(C:Array Value) (t:TypeId),w.heap[b]?=some (.cells C t (0,0))->t∈TQ:=fun b hb C t hC=>by
 by_cases e1:137=t
 ·rw[<-e1];decide
 by_cases e2:191=t
 ·rw[<-e2];decide
 by_cases e3:9=t
 ·rw[<-e3];decide
 by_cases e4:195=t
 ·rw[<-e4];decide
 by_cases e5:199=t
 ·rw[<-e5];decide
 exfalso;rcases mem_qbl.1 hb with e|e|e|e|e
 ·have h0:w.heap[qb]?=_:=h.blk;rw[<-e,hC]at h0;simp at h0;exact e1 h0.2.symm
 ·exact own_ne h.m hC e2 e
 ·exact own_ne h.r hC e3 e
 ·exact own_ne h.d hC e4 e
 ·exact own_ne h.a hC e5 e
theorem QR.keep {B:Nat}{T:List TypeId}{V:QV}{Q:QM}(h:QR w qb V Q)(hf:Fr B T w w')(hT:∀t∈TQ,t∉T):QR w' qb V Q:=
 ⟨hf.keep _ _ _ h.blk (hT _ (by decide)),hf.own h.m (hT _ (by decide)),hf.own h.r (hT _ (by decide)),hf.own h.d (hT _ (by decide)),hf.own h.a (hT _ (by decide))⟩
def sendQ (Q:QM)(r:Wp.Rq)(now:Int):QM:=
 {Q with next:=Q.next+1,ms:=Q.ms++[⟨(Q.next:Nat),r.grp,r.bod,0,0⟩],rs:=if idxL (isG r.grp) Q.ms<0 then Q.rs++[r.grp] else Q.rs,ds:=if 0<Q.c.win then Q.ds++[⟨didS r,(Q.next:Nat),now+Q.c.win⟩] else Q.ds}
theorem rs_len (b:Prop) [Decidable b] (l:List ByteArray)(g:ByteArray):(if b then l++[g] else l).length=if b then l.length+1 else l.length:=by split<;>simp
theorem rs_map (b:Prop) [Decidable b] (l:List ByteArray)(g:ByteArray):(if b then l++[g] else l).map Value.string=if b then l.map Value.string++[.string g] else l.map Value.string:=by split<;>simp
theorem sent_q (Q:QM)(V:QV)(r:Wp.Rq)(y:Sl)(qb gq gi gn gr:Nat)(now:Int)(w:World)(h:QR w qb V Q)(hnm:Q.ms.length<=1000)(hnr:Q.rs.length<=1000)(hnd:Q.ds.length<=1000)(hk:Q.next<=200)(hwin:0<=Q.c.win/\Q.c.win<=1001)(hnow:0<=now/\now<=60000)
  (hgq:w.heap[gq]?=some (.cells #[.pointer (some ⟨qb,0,none⟩)] 88 (0,0)))(hgi:w.heap[gi]?=some (.cells #[.string (didS r)] 9 (0,0)))(hgn:w.heap[gn]?=some (.cells #[.int .i64 now] 3 (0,0)))(hgr:w.heap[gr]?=some (.cells (cellsOf r y.v) 24 (0,0))):
  Calls Tryz.prog 171 #[.pointer (some ⟨gq,0,none⟩),.pointer (some ⟨gi,0,none⟩),.pointer (some ⟨gn,0,none⟩),.pointer (some ⟨gr,0,none⟩)] w fun e w'=>e=.returned (.tuple #[])/\QL w w' qb V (sendQ Q r now):=by
 have ha:∀(S:List Nat) (w':World),(∀b∈S,b=qb\/V.d.ownBlock=some b\/V.m.ownBlock=some b\/V.r.ownBlock=some b)->Tch S w w'->w'.ownsRow 0 199 3 V.a Q.ats.length (Q.ats.flatMap At.row):=fun S w' hS ht=>own_tch h.a ht (fun b hb hm=>by
  obtain⟨C,hC⟩:∃C,w.heap[b]?=some (.cells C 199 (0,0)):=by
   rcases h.a.2 with ⟨h0,_⟩|⟨g',cap',cur',h0,_,hg',_⟩
   ·rw[h0]at hb;simp[Value.ownBlock]at hb
   ·rw[h0]at hb;simp only[Value.ownBlock,Option.some.injEq]at hb;subst hb;exact⟨_,hg'⟩
  rcases hS b hm with e|e|e|e
  ·have h0:w.heap[qb]?=_:=h.blk;rw[<-e,hC]at h0;simp at h0
  ·exact own_ne h.d hC (by decide) e
  ·exact own_ne h.m hC (by decide) e
  ·exact own_ne h.r hC (by decide) e)
 by_cases hw:0<Q.c.win
 ·refine sentg_walk (fun w'=>QL w w' qb V (sendQ Q r now)) Q.c r y (didS r) qb Q.next Q.rs.length Q.ds.length gq gi gn gr now V.d V.m V.r V.a Q.ms (Q.rs.map Value.string) (Q.ds.flatMap Dd.row) w h.blk h.m h.r h.d hnm hnd hnr hk ⟨hw,hwin.2⟩ hnow hgq hgi hgn hgr ?_;intro w' ms' rs' ds' hq hm hr hd hN1 hN2 hj ht;refine⟨⟨ms',rs',ds',V.a⟩,⟨hq,?_,?_,?_,?_⟩,ht.sub (fun x hx _=>?_),fun b hb=>?_⟩
  ·simpa [sendQ,Ms.row]using hm
  ·show w'.ownsRow 0 9 1 rs' (sendQ Q r now).rs.length ((sendQ Q r now).rs.map Value.string)
   simp only[sendQ,rs_len,rs_map];exact hr
  ·simpa [sendQ,hw,Dd.row,ddV]using hd
  ·exact ha _ w' (fun b hb=>by
    rcases List.mem_cons.1 hb with e|e
    ·exact .inl e
    ·rcases List.mem_append.1 e with e|e
     ·exact .inr (.inl (mem_bl.1 e))
     ·rcases List.mem_append.1 e with e|e
      ·exact .inr (.inr (.inl (mem_bl.1 e)))
      ·exact .inr (.inr (.inr (mem_bl.1 e)))) ht
  ·rcases List.mem_cons.1 hx with e|e
   ·exact mem_qbl.2 (.inl e)
   ·rcases List.mem_append.1 e with e|e
    ·exact mem_qbl.2 (.inr (.inr (.inr (.inl (mem_bl.1 e)))))
    ·rcases List.mem_append.1 e with e|e
     ·exact mem_qbl.2 (.inr (.inl (mem_bl.1 e)))
     ·exact mem_qbl.2 (.inr (.inr (.inl (mem_bl.1 e))))
  ·rcases mem_qbl.1 hb with e|e|e|e|e
   ·exact .inl (mem_qbl.2 (.inl e))
   ·exact(hN1 b e).imp (fun h=>mem_qbl.2 (.inr (.inl h))) id
   ·exact(hN2 b e).imp (fun h=>mem_qbl.2 (.inr (.inr (.inl h)))) id
   ·exact(hj b e).imp (fun h=>mem_qbl.2 (.inr (.inr (.inr (.inl h))))) id
   ·exact .inl (mem_qbl.2 (.inr (.inr (.inr (.inr e)))))
 ·have hw0:Q.c.win=0:=by omega
  refine sentg_now (fun w'=>QL w w' qb V (sendQ Q r now)) Q.c r y qb Q.next Q.rs.length gq gi gn gr V.d V.m V.r V.a Q.ms (Q.rs.map Value.string) w h.blk h.m h.r hnm hnr hk hw0 hgq hgr ?_;intro w' ms' rs' hq hm hr hN1 hN2 ht;have hS:∀b∈(qb::(bl V.m++bl V.r)),b=qb\/V.d.ownBlock=some b\/V.m.ownBlock=some b\/V.r.ownBlock=some b:=fun b hb=>by
   rcases List.mem_cons.1 hb with e|e
   ·exact .inl e
   ·rcases List.mem_append.1 e with e|e
    ·exact .inr (.inr (.inl (mem_bl.1 e)))
    ·exact .inr (.inr (.inr (mem_bl.1 e)))
  refine⟨⟨ms',rs',V.d,V.a⟩,⟨hq,?_,?_,?_,ha _ w' hS ht⟩,ht.sub (fun x hx _=>?_),fun b hb=>?_⟩
  ·simpa [sendQ,Ms.row]using hm
  ·show w'.ownsRow 0 9 1 rs' (sendQ Q r now).rs.length ((sendQ Q r now).rs.map Value.string)
   simp only[sendQ,rs_len,rs_map];exact hr
  ·have hd':w'.ownsRow 0 195 3 V.d Q.ds.length (Q.ds.flatMap Dd.row):=own_tch h.d ht (fun b hb hm=>by
    obtain⟨C,hC⟩:∃C,w.heap[b]?=some (.cells C 195 (0,0)):=by
     rcases h.d.2 with ⟨h0,_⟩|⟨g',cap',cur',h0,_,hg',_⟩
     ·rw[h0]at hb;simp[Value.ownBlock]at hb
     ·rw[h0]at hb;simp only[Value.ownBlock,Option.some.injEq]at hb;subst hb;exact⟨_,hg'⟩
    rcases List.mem_cons.1 hm with e|e
    ·have h0:w.heap[qb]?=_:=h.blk;rw[<-e,hC]at h0;simp at h0
    ·rcases List.mem_append.1 e with e|e
     ·exact own_ne h.m hC (by decide) (mem_bl.1 e)
     ·exact own_ne h.r hC (by decide) (mem_bl.1 e))
   simpa [sendQ,hw]using hd'
  ·rcases List.mem_cons.1 hx with e|e
   ·exact mem_qbl.2 (.inl e)
   ·rcases List.mem_append.1 e with e|e
    ·exact mem_qbl.2 (.inr (.inl (mem_bl.1 e)))
    ·exact mem_qbl.2 (.inr (.inr (.inl (mem_bl.1 e))))
  ·rcases mem_qbl.1 hb with e|e|e|e|e
   ·exact .inl (mem_qbl.2 (.inl e))
   ·exact(hN1 b e).imp (fun h=>mem_qbl.2 (.inr (.inl h))) id
   ·exact(hN2 b e).imp (fun h=>mem_qbl.2 (.inr (.inr (.inl h)))) id
   ·exact .inl (mem_qbl.2 (.inr (.inr (.inr (.inl e)))))
   ·exact .inl (mem_qbl.2 (.inr (.inr (.inr (.inr e)))))
end Go.Proofs.YtbdobaapadlcjabGreatDoor
namespace Go.Proofs.YtbdobaapadlcjabGreatDoor
open Go.Shelf Go.RowKit Go.Lib
abbrev isN (n:Int)(x:Ms):Bool:=x.num == n
theorem idxL_fnd {α:Type}(p:α->Bool):∀(l:List α) (i:Nat),idxL p l=(i:Int)->∃h:i<l.length,p l[i]=true/\l.find? p=some l[i]
 | [],i,h=>by simp only[idxL]at h;omega
 | x::l,i,h=>by
  simp only[idxL]at h
  by_cases hx:p x=true
  ·rw[if_pos hx]at h;have:i=0:=by omega
   subst this;exact⟨by simp,hx,by simp[hx]⟩
  ·rw[if_neg hx]at h
   split at h
   ·omega
   ·obtain⟨j,rfl⟩:∃j,i=j+1:=⟨i-1,by omega⟩;obtain⟨hl,hp,hf⟩:=idxL_fnd p l j (by omega);exact⟨by simp;omega,by simpa using hp,by simp[hx,hf]⟩
theorem idxL_no {α:Type}(p:α->Bool)(l:List α)(h:idxL p l<0):l.find? p=none:=by
 rw[List.find?_eq_none];intro x hx;have:=(idxL_neg p l).1 h x hx;simp[this]
theorem num_pred (n:Int)(B:Nat)(w:World)(hB:B<w.heap.size)(hcell:w.cell? ⟨B,0,none⟩=some (.int .i64 n)):
  PredBelow Tryz.prog 202 #[.pointer (some ⟨B,0,none⟩)] (fun x:Ms=>.agg x.row.toArray) (isN n) w:=fun W x hb=>by
 have hc:=(hb.cell (p:=⟨B,0,none⟩) hB).trans hcell;have hBW:B<W.heap.size:=Nat.lt_of_lt_of_le hB hb.size
 show Calls Tryz.prog 202 #[.agg #[.int .i64 x.num,.string x.grp,.string x.bod,.int .i64 x.rcv,.int .i64 x.til],.pointer (some ⟨B,0,none⟩)] W _
 go_enter Tryz.func202,Tryz.ntmps202
 go_wp2
 all_goals (go_ret;exact⟨by simp_all,hb.alloc hb.size _⟩)
theorem eg286:∀args w,(callFunc 202 args).run Tryz.prog w=.ok (.enter 202 args) w:=enters_of Tryz.func202 (by kernel_rfl) rfl
theorem idx_num (v:Value)(l:List Ms)(n:Int)(B:Nat)(w:World)(ho:w.ownsRow 0 191 5 v l.length (l.flatMap Ms.row))(hl:l.length<=1000000)(hB:B<w.heap.size)(hcell:w.cell? ⟨B,0,none⟩=some (.int .i64 n)):
  zB 193 #[v,.func (.func 202) #[] #[.pointer (some ⟨B,0,none⟩)]] w (.int .i64 (idxL (isN n) l)):=by
 have inh:Inhabited Ms:=⟨⟨0,⟨#[]⟩,⟨#[]⟩,0,0⟩⟩;rcases ho.2 with ⟨rfl,h0⟩|⟨gd,cap,cur,rfl,_,hg,_⟩
 ·have e0:l=[]:=List.length_eq_zero_iff.1 h0;subst e0;refine(idx_ms_none none 0 _ w).mono ?_;rintro e w' ⟨rfl,rfl⟩;exact⟨rfl,Below.refl _ _⟩
 ·have h:=AnyQ.slices_IndexFunc l197 5 Tryz.isAgg191 Tryz.sizeOf191 Ms.row (fun _=>rfl) (isN n) 202 #[.pointer (some ⟨B,0,none⟩)] eg286 gd 0 l.length cap l w (num_pred n B w hB hcell) (Nat.le_refl _) (by omega) (lt_of_block hg) (fun j hj i v hi=>own_cells Ms.row 5 (fun _=>rfl) ho j hj i v hi);rw[List.take_length,idxBy_eq]at h;exact h
theorem find_gen (n:Int)(qb:Nat)(v:Value)(l:List Ms)(w:World)(c7:w.cell? ⟨qb,7,none⟩=some v)(ho:w.ownsRow 0 191 5 v l.length (l.flatMap Ms.row))(hl:l.length<=1000000):
  zB 182 #[.pointer (some ⟨qb,0,none⟩),.int .i64 n] w (.int .i64 (idxL (isN n) l)):=by
 have hlt:=World.block_lt_of_cell? _ _ c7;have HI:Hid (Calls Tryz.prog 193 _ (w.alloc (.cells #[.int .i64 n] 3)) _):=idx_num v l n w.heap.size (w.alloc (.cells #[.int .i64 n] 3)) (own_tch ho ((Tch.refl [] w).alloc _) (fun _ _=>by simp)) hl (by simp) (cell_of_one (heap_alloc_new _ _));clear ho;generalize idxL (isN n) l=z at*
 go_enter Tryz.func182,Tryz.ntmps182;go_wp2_with (go_at_call 193;refine HI.out.mono ?_;rintro e w' ⟨rfl,hb⟩);go_ret;exact⟨rfl,((Below.refl _ _).alloc (Nat.le_refl _) _).trans (hb.mono (by simp))⟩
def fliesQ (Q:QM)(num rcv:Int):Bool:=match Q.ms.find? (isN num) with
 | some m=>decide (0<m.til)&&m.rcv == rcv
 | none=>false
theorem QR.msc {w:World}{qb:Nat}{V:QV}{Q:QM}(h:QR w qb V Q)(i:Nat)(hi:i<Q.ms.length):∃g c,V.m=.slice (some ⟨g,0,none⟩) Q.ms.length c/\g<w.heap.size/\∀j u,(Q.ms[i].row)[j]?=some u->w.cell? ⟨g,i*5+j,none⟩=some u:=by
 have inh:Inhabited Ms:=⟨⟨0,⟨#[]⟩,⟨#[]⟩,0,0⟩⟩;obtain⟨g,c,hv⟩:∃g c,V.m=.slice (some ⟨g,0,none⟩) Q.ms.length c:=by
  rcases h.m.2 with ⟨h0,h1⟩|⟨g,cap,cur,h0,_⟩
  ·omega
  ·exact⟨_,_,h0⟩
 have hm:=h.m;rw[hv]at hm;have hc:∀j u,(Q.ms[i].row)[j]?=some u->w.cell? ⟨g,i*5+j,none⟩=some u:=fun j u hj=>by
  have h1:=own_cells Ms.row 5 (fun _=>rfl) hm i hi j u (by rw[List.getElem!_eq_getElem?_getD,List.getElem?_eq_getElem hi];exact hj);simpa using h1
 exact⟨g,c,hv,World.block_lt_of_cell? _ _ (hc 0 _ rfl),hc⟩
theorem flies_any (Q:QM)(V:QV)(qb:Nat)(q:UInt8)(num rcv:Int)(w:World)(h:QR w qb V Q)(hl:Q.ms.length<=1000):
  zT 181 #[.pointer (some ⟨qb,0,none⟩),.agg #[.int .u8 (q.toNat:Int),.int .i64 num,.int .i64 rcv]] w (.bool (fliesQ Q num rcv)):=by
 obtain⟨wb,hwb⟩:∃wb,wb=w.alloc (.cells #[.int .u8 (q.toNat:Int),.int .i64 num,.int .i64 rcv] 139):=⟨_,rfl⟩;have HT:Hid (Tch [] w wb):=by rw[hwb];exact(Tch.refl _ _).alloc _
 have HBX:Hid (wb.heap[w.heap.size]?=some (.cells #[.int .u8 (q.toNat:Int),.int .i64 num,.int .i64 rcv] 139 (0,0))):=by rw[hwb];exact heap_alloc_new _ _
 have hq:=h.tch HT.out (by simp);have HF:Hid (zB 182 #[.pointer (some ⟨qb,0,none⟩),.int .i64 num] wb (.int .i64 (idxL (isN num) Q.ms))):=find_gen num qb V.m Q.ms wb (cell_qC hq.blk 7 _ rfl) hq.m (by omega);have HQ:=zH hq;have l1:=lt_of_block HBX.out;clear h hq;go_enter Tryz.func181,Tryz.ntmps181;go_wp2_with fail;rw[<-hwb];clear hwb;refine HF.out.mono ?_;rintro e w1 ⟨rfl,hb1⟩;have t1:=Tch.of_below hb1;have hq1:=HQ.out.tch t1 (by simp);have HT1:=zH (HT.out.trans t1 (by simp));have hbx1:=(hb1.block _ l1).trans HBX.out;have b2:w1.cell? ⟨w.heap.size,2,none⟩=some (.int .i64 rcv):=cell_qC hbx1 2 _ rfl;have c7:w1.cell? ⟨qb,7,none⟩=some V.m:=cell_qC hq1.blk 7 _ rfl
 by_cases hz:idxL (isN num) Q.ms<0
 ·have HFL:Hid (fliesQ Q num rcv=false):=by show _=_;unfold fliesQ;rw[idxL_no _ _ hz]
  have hd:decide ((0:Int)<=idxL (isN num) Q.ms)=false:=decide_eq_false (by omega);generalize idxL (isN num) Q.ms=z at*
  clear hq1 hb1 t1 hbx1 HF HQ HBX;go_wp2_with fail;go_quiet (fail);go_wp2_with fail;go_ret;exact⟨ret_bool HFL.out.symm,HT1.out.drewN _⟩
 ·obtain⟨i,hi⟩:∃i:Nat,idxL (isN num) Q.ms=(i:Int):=⟨_,(Int.toNat_of_nonneg (by omega)).symm⟩;obtain⟨hil,hp,hfi⟩:=idxL_fnd _ _ i hi;obtain⟨g,c,hv,hg,hc⟩:=hq1.msc i hil;have HFL:Hid (fliesQ Q num rcv=(decide (0<Q.ms[i].til)&&Q.ms[i].rcv == rcv)):=by show _=_;unfold fliesQ;rw[hfi]
  have hd:decide ((0:Int)<=(i:Int))=true:=decide_eq_true (by omega);have d3:w1.cell? ⟨g,i*5+3,none⟩=some (.int .i64 Q.ms[i].rcv):=hc 3 _ rfl;have d4:w1.cell? ⟨g,i*5+4,none⟩=some (.int .i64 Q.ms[i].til):=hc 4 _ rfl;rw[hi];rw[hv]at c7;generalize Q.ms[i].til=til at*
  generalize Q.ms[i].rcv=rc at*
  clear hc hz hi hp hfi hq1 hb1 t1 hbx1 HF HQ HBX
  by_cases ht:0<til
  ·have hdt:decide ((0:Int)<til)=true:=decide_eq_true ht;go_wp2_with fail;go_quiet (fail);go_wp2_with fail;go_ret;exact⟨ret_bool (by rw[HFL.out,hdt];simp),HT1.out.drewN _⟩
  ·have hdt:decide ((0:Int)<til)=false:=decide_eq_false ht;go_wp2_with fail;go_quiet (fail);go_wp2_with fail;go_ret;exact⟨ret_bool (by rw[HFL.out,hdt];simp),HT1.out.drewN _⟩
end Go.Proofs.YtbdobaapadlcjabGreatDoor
namespace Go.Proofs.YtbdobaapadlcjabGreatDoor
open Go.RowKit
variable {w w1:World}{base:Nat}{v:Value}{l:List UInt8}
def oft (n:Nat):Nat:=if n+1<=65535 then n+1 else 65535
theorem oft_le (n:Nat):oft n<=65535:=by unfold oft;split<;>omega
theorem ret_i64 {a b:Int}(h:a=b):Ending.returned (.int .i64 a)=.returned (.int .i64 b):=by rw[h]
theorem oftener_any (n:Nat)(w:World)(hn:n<=65535):zE 166 #[.int .i64 (n:Int)] w (.int .i64 (oft n:Nat)):=by
 by_cases h:n+1<=65535
 ·have ho:Hid (oft n=n+1):=by show _=_;unfold oft;rw[if_pos h]
  go_enter Tryz.func166,Tryz.ntmps166
  go_wp2
  go_ret;exact⟨ret_i64 (by rw[ho.out];omega),rfl⟩
 ·have ho:Hid (oft n=65535):=by show _=_;unfold oft;rw[if_neg h]
  go_enter Tryz.func166,Tryz.ntmps166
  go_wp2
  go_ret;exact⟨ret_i64 (by rw[ho.out];omega),rfl⟩
theorem Fr.grown5' {B:Nat}{a:World}(h:Fr B [5] a w){base:Nat}{v:Value}{l:List UInt8}(ho:OwnB w base v l)(hg:w.grownBy w1 v.ownBlock)(hB:∀k,v.ownBlock=some k->B<=k:=by intro k _;exact Nat.zero_le _)(hB2:B<=w.heap.size:=by exact Nat.zero_le _):Fr B [5] a w1:=
 ⟨hg.os.trans h.os,hg.tape.trans h.tape,hg.output.trans h.output,Nat.le_trans h.size hg.size,fun k hk=>(hg.block k (by omega) (fun e=>by have:=hB k e.symm;omega)).trans (h.low k hk),fun k C t hk ht=>by
  have h1:=h.keep k C t hk ht;exact(hg.block k (lt_of_block h1) (fun e=>own_ne ho h1 (fun e5=>ht (by rw[<-e5];simp)) e.symm)).trans h1⟩
theorem Fr.grown5 {a:World}(h:Fr 0 [5] a w){base:Nat}{v:Value}{l:List UInt8}(ho:OwnB w base v l){o:Obj}(hg:(w.alloc o).grownBy w1 v.ownBlock):Fr 0 [5] a w1:=
 (h.trans (Fr.of_nil [5] ((Tch.refl [] w).alloc o) (Nat.zero_le _))).grown5' (World.ownsRow.alloc ho o) hg
theorem appendNumber_f (base:Nat)(v:Value)(l:List UInt8)(n size:Nat)(w:World)(hn:n<4294967296)(hs:size<=8)(hl:l.length<=1099511627776)(hb:base<=w.heap.size)(hown:OwnB w base v l):
  Calls Tryz.prog 46 #[v,.int .i64 (n:Int),.int .i64 (size:Int)] w fun e w'=>∃v',e=.returned v'/\OwnB w' base v' (l++lowB n size)/\Below base w w'/\Fr 0 [5] w w':=by
 obtain⟨i0,hi,hz0,hz1,hz2⟩:=info_parts info5;go_enter Tryz.func46,Tryz.ntmps46
 go_wp2
 go_loopw [0,1,8] (fun o m i wr=>∃k:Nat,k<=size/\i=.int .i64 k/\m=.int .i64 ((n / 256^k:Nat):Int)/\OwnB wr base o (l++lowB n k)/\Below base w wr/\Fr 0 [5] w wr) (fun _ _ i _=>size-(intOf i).toNat)
 case atStart=>exact⟨0,Nat.zero_le _,rfl,by simp,by simpa [lowB]using hown,Below.refl _ _,Fr.refl _ _ _⟩
 case round=>
  obtain⟨k,hk,rfl,rfl,ho,hbr,hfr⟩:=hrel
  by_cases hlt:k<size
  ·have hle:(l++lowB n k).length<=1099511627800:=by rw[List.length_append,lowB_length];omega
   have hm:n / 256^k<4294967296:=Nat.lt_of_le_of_lt (Nat.div_le_self _ _) hn;have hdiv:Hid (n / 256^(k+1)=n / 256^k / 256):=by
    show _=_
    rw[Nat.pow_succ,Nat.div_div_eq_div_mul]
   have hsn:=byte_cell (n / 256^k);have HSN:=zH hsn;have hls:Hid (l++lowB n (k+1)=(l++lowB n k)++[UInt8.ofNat (n / 256^k % 256)]):=by
    show _=_
    rw[lowB_succ,List.append_assoc]
   have HBR:=zH hbr;have hsz:=hbr.size;have HFR:=zH hfr;clear hsn hbr hown hfr;generalize n / 256^k=m at hm hdiv HSN hls;generalize l++lowB n k=L at ho hle hls;have HO:=zH ho;clear ho;go_wp2_with (at_builtin;refine wpList_append_own _ rfl _ _ 54 rfl base 5 i0 (.int .u8 0) 1 1 Tryz.underlying54 hi hz0 hz1 hz2 rfl (by decide) _ _ _ rfl (World.ownsRow.alloc HO.out _) ⟨wr.heap.size,0,none⟩ 1 1 [.int .u8 ((m:Int) % 256)] rfl rfl ?c1 ?c2 ?c3 ?c4 ?c5 ?_)
   case c1=>exact cell_one_new _ _ _
   case c2=>intro u hu;simp at hu;subst hu;rfl
   case c3=>unfold maxLen;omega
   case c4=>omega
   case c5=>simp;omega
   intro v' w1 hown' hgrow _;have hr1:OwnB w1 base v' (l++lowB n (k+1)):=by rw[hls.out];exact OwnB.snoc HSN.out hown'
   have hr2:Below base w w1:=by
    refine Below.grown ((HBR.out).alloc (by omega) _) hgrow (by simp;omega) ?_;intro k hk;exact(World.ownsRow.lt HO.out k hk).1
   have hr3:=HFR.out.grown5 HO.out hgrow;clear hown' hgrow
   go_wp2
   go_roundw
   case rel=>exact⟨k+1,by omega,by go_num,by rw[hdiv.out];go_num,hr1,hr2,hr3⟩
   case measure=>simp[intOf];omega
  ·have he:k=size:=by omega
   subst he
   go_wp2
   go_ret;exact⟨_,rfl,ho,hbr,hfr⟩
theorem appendText_f (base:Nat)(v:Value)(l:List UInt8)(s:ByteArray)(w:World)(hs:s.size<=65535)(hl:l.length<=1099511627776)(hb:base<=w.heap.size)(hown:OwnB w base v l):
  Calls Tryz.prog 90 #[v,.string s] w fun e w'=>∃v',e=.returned v'/\OwnB w' base v' (l++txtB s)/\Below base w w'/\Fr 0 [5] w w':=by
 obtain⟨i0,hi,hz0,hz1,hz2⟩:=info_parts info5;have hnum:Hid (Calls Tryz.prog 46 #[v,.int .i64 (s.size:Int),.int .i64 1] w fun e w'=>∃v',e=.returned v'/\OwnB w' base v' (l++lowB s.size 1)/\Below base w w'/\Fr 0 [5] w w'):=
  appendNumber_f base v l s.size 1 w (by omega) (by decide) hl hb hown
 go_enter Tryz.func90,Tryz.ntmps90;go_wp2_with fail;refine(hnum.out).mono ?_;rintro e w1 ⟨v1,rfl,ho1,hb1,hf1⟩;have hle:(l++lowB s.size 1).length<=1099511627800:=by rw[List.length_append,lowB_length];omega
 have hls:Hid (l++txtB s=(l++lowB s.size 1)++s.data.toList):=by
  show _=_
  rw[txtB,List.append_assoc]
 generalize l++lowB s.size 1=L at ho1 hle hls;have hsz:=hb1.size;have HO:=zH ho1;have HB:=zH hb1;have HF1:=zH hf1;clear ho1 hb1 hown hf1;go_wp2_with (at_builtin;refine Lib.wpList_append_own_string _ rfl _ _ 54 9 rfl base 5 i0 Tryz.underlying54 Tryz.underlying9 hi hz0 hz1 hz2 _ _ _ rfl HO.out s rfl ?c1 ?c2 ?c3 ?_)
 case c1=>unfold maxLen;omega
 case c2=>omega
 case c3=>omega
 intro v' w2 hown' hgrow _;have hr1:OwnB w2 base v' (l++txtB s):=by
  rw[hls.out];unfold OwnB;have e1:bytesV (L++s.data.toList)=bytesV L++Lib.strCells s:=by rw[<-bytesV_str];simp[bytesV]
  have e2:(L++s.data.toList).length=L.length+s.size:=by rw[List.length_append];rfl
  rw[e1,e2];exact hown'
 have hr2:Below base w w2:=by
  refine Below.grown HB.out hgrow (by omega) ?_;intro k hk;exact(World.ownsRow.lt HO.out k hk).1
 have hr3:=HF1.out.grown5' HO.out hgrow;clear hown' hgrow
 go_wp2
 go_ret;exact⟨_,rfl,hr1,hr2,hr3⟩
def hanB (q:UInt8)(num rcv:Nat):List UInt8:=[72,q]++(lowB num 4++lowB rcv 2)
theorem two_new (w:World)(a b:Value):∀j u,[a,b][j]?=some u->(w.alloc (.cells #[a,b] 5)).cell? ((⟨w.heap.size,0,none⟩:Addr).add j)=some u:=fun j u hj=>by
 have e2:(⟨w.heap.size,0,none⟩:Addr).add j=⟨w.heap.size,j,none⟩:=by unfold Addr.add;split<;>simp_all
 rw[e2,cell_of_row _ w.heap.size j #[a,b] 5 (0,0) (heap_alloc_new _ _)];simpa using hj
theorem appendHandle_any (base:Nat)(v:Value)(l:List UInt8)(q:UInt8)(num rcv:Nat)(w:World)(hn:num<4294967296)(hr:rcv<4294967296)(hl:l.length<=1048576)(hb:base<=w.heap.size)(hown:OwnB w base v l):
  Calls Tryz.prog 195 #[v,.agg #[.int .u8 (q.toNat:Int),.int .i64 (num:Int),.int .i64 (rcv:Int)]] w fun e w'=>∃v',e=.returned v'/\OwnB w' base v' (l++hanB q num rcv)/\Below base w w'/\Fr 0 [5] w w':=by
 obtain⟨i0,hi,hz0,hz1,hz2⟩:=info_parts info5;have HO:=zH hown;clear hown;go_enter Tryz.func195,Tryz.ntmps195;go_wp2_with (at_builtin;refine wpList_append_own _ rfl _ _ 54 rfl base 5 i0 (.int .u8 0) 1 1 Tryz.underlying54 hi hz0 hz1 hz2 rfl (by decide) v l.length (bytesV l) ?c0 (World.ownsRow.alloc (World.ownsRow.alloc HO.out _) _) ⟨w.heap.size+1,0,none⟩ 2 2 [.int .u8 72,.int .u8 (q.toNat:Int)] ?cx rfl ?c1 ?c2 ?c3 ?c4 ?c5 ?_)
 case c0=>simp[Act.eval]
 case cx=>simp[Act.eval]
 case c1=>
  have h:=two_new (w.alloc (.cells #[.int .u8 (q.toNat:Int),.int .i64 (num:Int),.int .i64 (rcv:Int)] 139)) (.int .u8 72) (.int .u8 (q.toNat:Int));rw[World.size_alloc]at h;exact h
 case c2=>intro u hu;simp at hu;rcases hu with rfl|rfl<;>rfl
 case c3=>unfold maxLen;omega
 case c4=>omega
 case c5=>simp;omega
 intro v1 w1 hown1 hgrow _;have ho1:OwnB w1 base v1 (l++[72,q]):=by
  unfold OwnB;have e1:bytesV (l++[72,q])=bytesV l++[.int .u8 72,.int .u8 (q.toNat:Int)]:=by simp[bytesV]
  rw[e1,List.length_append];exact hown1
 have hb1:Below base w w1:=by
  refine Below.grown (((Below.refl _ _).alloc (by omega) _).alloc (by simp;omega) _) hgrow (by simp;omega) ?_;intro k hk;exact(World.ownsRow.lt HO.out k hk).1
 have hbx:w1.heap[w.heap.size]?=some (.cells #[.int .u8 (q.toNat:Int),.int .i64 (num:Int),.int .i64 (rcv:Int)] 139 (0,0)):=by
  have h1:=hgrow.block w.heap.size (by simp;omega) (fun e=>by have:=(World.ownsRow.lt HO.out w.heap.size e.symm).2;omega);rw[h1,Below.heap_alloc _ _ _ (by simp)];exact heap_alloc_new _ _
 have hz1':w.heap.size+2<=w1.heap.size:=by have:=hgrow.size;simpa using this
 have hf1:Fr 0 [5] w w1:=((Fr.refl 0 [5] w).trans (Fr.of_nil [5] (((Tch.refl [] w).alloc _).alloc _) (Nat.zero_le _))).grown5' (World.ownsRow.alloc (World.ownsRow.alloc HO.out _) _) hgrow;have HN1:Hid (Calls Tryz.prog 46 #[v1,.int .i64 (num:Int),.int .i64 4] w1 fun e w'=>∃v',e=.returned v'/\OwnB w' base v' ((l++[72,q])++lowB num 4)/\Below base w1 w'/\Fr 0 [5] w1 w'):=appendNumber_f base v1 _ num 4 w1 hn (by decide) (by rw[List.length_append];simp;omega) (by omega) ho1;have HX:=zH hbx;have HB1:Hid (Below base w w1/\Fr 0 [5] w w1):=⟨hb1,hf1⟩;have f1:w1.cell? ⟨w.heap.size,1,none⟩=some (.int .i64 (num:Int)):=cell_qC hbx 1 _ rfl;clear hown1 hgrow ho1 hb1 hbx hf1;go_wp2_with fail;refine HN1.out.mono ?_;rintro e w2 ⟨v2,rfl,ho2,hb2,hf2⟩;have hbx2:=hf2.keep _ _ _ HX.out (by decide);have f2:w2.cell? ⟨w.heap.size,2,none⟩=some (.int .i64 (rcv:Int)):=cell_qC hbx2 2 _ rfl;have hnl2:=lt_of_block hbx2;have HN2:Hid (Calls Tryz.prog 46 #[v2,.int .i64 (rcv:Int),.int .i64 2] w2 fun e w'=>∃v',e=.returned v'/\OwnB w' base v' (((l++[72,q])++lowB num 4)++lowB rcv 2)/\Below base w2 w'/\Fr 0 [5] w2 w'):=appendNumber_f base v2 _ rcv 2 w2 hr (by decide) (by simp[lowB_length];omega) (by omega) ho2;have HB2:Hid (Below base w w2/\Fr 0 [5] w w2):=⟨HB1.out.1.trans hb2,HB1.out.2.trans hf2⟩;clear ho2 hb2 hf2 hbx2 f1;go_wp2_with fail;refine HN2.out.mono ?_;rintro e w3 ⟨v3,rfl,ho3,hb3,hf3⟩;have H3:Hid (OwnB w3 base v3 (l++hanB q num rcv)/\Below base w w3/\Fr 0 [5] w w3):=by
  refine⟨?_,HB2.out.1.trans hb3,HB2.out.2.trans hf3⟩;have e:l++hanB q num rcv=((l++[72,q])++lowB num 4)++lowB rcv 2:=by simp[hanB]
  rw[e];exact ho3
 clear ho3 hb3 hf3;go_wp2_with fail;go_ret;exact⟨v3,rfl,H3.out.1,H3.out.2.1,H3.out.2.2⟩
def givB (q:UInt8)(num rcv:Nat)(g b:ByteArray):List UInt8:=hanB q num (oft rcv)++(txtB g++txtB b)
theorem appendGiven_any (base:Nat)(v:Value)(l:List UInt8)(q:UInt8)(num rcv qb:Nat)(til:Int)(g b:ByteArray)(C:Array Value)(w:World)(hqb:w.heap[qb]?=some (.cells C 137 (0,0)))(hC:C[0]?=some (.int .u8 (q.toNat:Int)))(hn:num<4294967296)(hr:rcv<=65535)(hg:g.size<=255)(hbd:b.size<=255)(hl:l.length<=65536)(hb:base<=w.heap.size)(hown:OwnB w base v l):
  Calls Tryz.prog 164 #[.pointer (some ⟨qb,0,none⟩),v,.agg #[.int .i64 (num:Int),.string g,.string b,.int .i64 (rcv:Int),.int .i64 til]] w fun e w'=>∃v',e=.returned v'/\OwnB w' base v' (l++givB q num rcv g b)/\Below base w w'/\Fr 0 [5] w w':=by
 have hoft:=oft_le rcv;obtain⟨wa,hwa⟩:∃wa,wa=w.alloc (.cells #[.int .i64 (num:Int),.string g,.string b,.int .i64 (rcv:Int),.int .i64 til] 191):=⟨_,rfl⟩;have HBX:Hid (wa.heap[w.heap.size]?=some (.cells #[.int .i64 (num:Int),.string g,.string b,.int .i64 (rcv:Int),.int .i64 til] 191 (0,0))):=by rw[hwa];exact heap_alloc_new _ _
 have HQB:Hid (wa.heap[qb]?=some (.cells C 137 (0,0))):=by rw[hwa];exact(Below.heap_alloc _ _ _ (lt_of_block hqb)).trans hqb
 have HT:Hid (Tch [] w wa):=by rw[hwa];exact(Tch.refl _ _).alloc _
 have HOA:Hid (OwnB wa base v l):=by rw[hwa];exact World.ownsRow.alloc hown _
 have za:=HT.out.size;have HOF:Hid (∀W,zE 166 #[.int .i64 (rcv:Int)] W (.int .i64 (oft rcv:Nat))):=fun W=>oftener_any rcv W hr
 have HAH:Hid (Calls Tryz.prog 195 #[v,.agg #[.int .u8 (q.toNat:Int),.int .i64 (num:Int),.int .i64 (oft rcv:Nat)]] wa.drew fun e w'=>∃v',e=.returned v'/\OwnB w' base v' (l++hanB q num (oft rcv))/\Below base wa.drew w'/\Fr 0 [5] wa.drew w'):=appendHandle_any base v l q num (oft rcv) wa.drew hn (by omega) (by omega) (by show base<=wa.heap.size;omega) HOA.out;have a0:wa.cell? ⟨qb,0,none⟩=some (.int .u8 (q.toNat:Int)):=cell_qC HQB.out 0 _ hC;have b0:wa.cell? ⟨w.heap.size,0,none⟩=some (.int .i64 (num:Int)):=cell_qC HBX.out 0 _ rfl;have b3:wa.cell? ⟨w.heap.size,3,none⟩=some (.int .i64 (rcv:Int)):=cell_qC HBX.out 3 _ rfl;have l2:=lt_of_block HBX.out;have HHL:Hid ((l++hanB q num (oft rcv)).length<=65600):=by show _<=_;simp[hanB,lowB_length];omega
 clear hown hqb;go_enter Tryz.func164,Tryz.ntmps164;go_wp2_with fail;rw[<-hwa];clear hwa
 go_region_held3 (fun w'=>w'.cell? ⟨qb,0,none⟩=some (.int .u8 (q.toNat:Int))/\w'.cell? ⟨w.heap.size,0,none⟩=some (.int .i64 (num:Int))/\w'.cell? ⟨w.heap.size,3,none⟩=some (.int .i64 (rcv:Int))) (go_keep) (first|(go_at_call 166;refine(HOF.out _).mono ?_;rintro e w' ⟨rfl,h'⟩;have h'':=h'.symm;subst h'')|(go_at_call 195;refine HAH.out.mono ?_;rintro e w2 ⟨v2,rfl,ho2,hb2,hf2⟩;have hbx2:=hf2.keep w.heap.size _ 191 HBX.out (by decide);have hqb2:=hf2.keep qb _ 137 HQB.out (by decide);have k0:w2.cell? ⟨qb,0,none⟩=some (.int .u8 (q.toNat:Int)):=cell_qC hqb2 0 _ hC;have k1:w2.cell? ⟨w.heap.size,0,none⟩=some (.int .i64 (num:Int)):=cell_qC hbx2 0 _ rfl;have k2:w2.cell? ⟨w.heap.size,3,none⟩=some (.int .i64 (rcv:Int)):=cell_qC hbx2 3 _ rfl))
 have HB2:=zH hbx2;have z2:base<=w2.heap.size:=by have:=hf2.size;have e:wa.drew.heap.size=wa.heap.size:=rfl;omega
 have HT1:Hid (Calls Tryz.prog 90 #[v2,.string g] w2 fun e w'=>∃v',e=.returned v'/\OwnB w' base v' ((l++hanB q num (oft rcv))++txtB g)/\Below base w2 w'/\Fr 0 [5] w2 w'):=appendText_f base v2 _ g w2 (by omega) (by have:=HHL.out;omega) z2 ho2;have HF2:Hid (Below base w w2/\Fr 0 [5] w w2):=⟨(HT.out.below (by simp) hb).trans ((below_drewN (Below.refl base wa) 1).trans hb2),((Fr.of_nil [5] HT.out (Nat.zero_le _)).trans (Fr.of_nil [5] (Tch.refl [] wa).drew (Nat.zero_le _))).trans hf2⟩;have c1:w2.cell? ⟨w.heap.size,1,none⟩=some (.string g):=cell_qC hbx2 1 _ rfl;clear ho2 hb2 hf2 hbx2 hqb2 a0 b0 b3 k0 k1 k2 l2;go_wp2_with fail;refine HT1.out.mono ?_;rintro e w3 ⟨v3,rfl,ho3,hb3,hf3⟩;have hbx3:=hf3.keep _ _ _ HB2.out (by decide);have c2:w3.cell? ⟨w.heap.size,2,none⟩=some (.string b):=cell_qC hbx3 2 _ rfl;have z3:=hf3.size;have HT2:Hid (Calls Tryz.prog 90 #[v3,.string b] w3 fun e w'=>∃v',e=.returned v'/\OwnB w' base v' (((l++hanB q num (oft rcv))++txtB g)++txtB b)/\Below base w3 w'/\Fr 0 [5] w3 w'):=appendText_f base v3 _ b w3 (by omega) (by have:=HHL.out;rw[List.length_append,txtB_length];omega) (by omega) ho3
 have HF3:Hid (Below base w w3/\Fr 0 [5] w w3):=⟨HF2.out.1.trans hb3,HF2.out.2.trans hf3⟩;clear ho3 hb3 hf3 hbx3 c1;go_wp2_with fail;refine HT2.out.mono ?_;rintro e w4 ⟨v4,rfl,ho4,hb4,hf4⟩;have H4:Hid (OwnB w4 base v4 (l++givB q num rcv g b)/\Below base w w4/\Fr 0 [5] w w4):=by
  refine⟨?_,HF3.out.1.trans hb4,HF3.out.2.trans hf4⟩;have e:l++givB q num rcv g b=((l++hanB q num (oft rcv))++txtB g)++txtB b:=by simp[givB]
  rw[e];exact ho4
 clear ho4 hb4 hf4;go_wp2_with fail;go_ret;exact⟨v4,rfl,H4.out.1,H4.out.2.1,H4.out.2.2⟩
end Go.Proofs.YtbdobaapadlcjabGreatDoor
