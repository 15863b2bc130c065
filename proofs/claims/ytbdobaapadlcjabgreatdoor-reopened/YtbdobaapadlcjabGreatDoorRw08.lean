import Derived.Test.YtbdobaapadlcjabGreatDoorRw07
set_option maxRecDepth 8000
set_option maxHeartbeats 2000000
set_option linter.unusedVariables false
set_option linter.unusedSimpArgs false
namespace Go.Proofs.YtbdobaapadlcjabGreatDoor
open Go.RowKit
variable {B n qb:Nat}{T:List TypeId}{S:List Nat}{w w':World}{v:Value}
theorem sendg_found (c r:Wp.Rq)(y:Sl)(qb gd nd cd i num:Nat)(ds:List Dd)(now next:Int)(ms rs at_:Value)(w:World)
  (hq:w.heap[qb]?=some (.cells (qC c next ms rs (.slice (some ⟨gd,0,none⟩) nd cd) at_) 137 (0,0)))(hbod:r.bod.size<=40)(hT:Tab w)(h2:2<w.heap.size)
  (ho:w.ownsRow 0 195 3 (.slice (some ⟨gd,0,none⟩) nd cd) ds.length (ds.flatMap Dd.row))(hnd:nd=ds.length)(hl:ds.length<=1000)(hid:idxL (isI (didS r)) ds=(i:Int))(hi:i<ds.length)(hnum:ds[i].num=(num:Nat))(hn:num<4294967296):
  Calls Tryz.prog 124 #[.pointer (some ⟨qb,0,none⟩),.int .i64 now,.agg (cellsOf r y.v)] w fun e w'=>∃av,e=.returned (.tuple #[av,.nilFunc,.int .i64 0])/\OwnB w' w.heap.size av (lowB num 4)/\Below w.heap.size w w':=by
 have hlt:=lt_of_block hq;have HQ:=zH hq;have HID:Hid (∀W,Below w.heap.size w W->zB 169 #[.agg (cellsOf r y.v)] W (.string (didS r))):=fun W hb=>dedupID_any r y W (Nat.le_trans hbod (by decide)) (hT.below hb h2) (by have:=hb.size;omega)
 rw[zM r y]at HID;have hbz:¬(40:Int)<(r.bod.size:Int):=by omega
 have hgd:gd<w.heap.size:=own_lt ho rfl;have HCC:Hid (w.cell? ⟨gd,i*3+1,none⟩=some (.int .i64 (num:Nat))):=by
  have h1:(ds.flatMap Dd.row)[i*3+1]?=some (.int .i64 (num:Nat)):=by rw[flat_get Dd.row 3 (fun _=>rfl) ds i 1 hi (by decide)];simp[Dd.row,hnum]
  have h2:=World.ownsRow.cells ho (g:=gd) rfl (i*3+1) _ h1;have e2:(⟨gd,0,none⟩:Addr).add (i*3+1)=⟨gd,i*3+1,none⟩:=by unfold Addr.add;split<;>simp_all
  rw[e2]at h2;exact h2
 have HII:=zH hid;have HOW:=zH ho;clear hq hT hid ho;generalize didS r=id at*
 rw[zM r y];go_enter Tryz.func124,Tryz.ntmps124;go_wp2_with fail;refine(HID.out _ (((((Below.refl _ _).alloc (Nat.le_refl _) _).alloc (by simp) _)).alloc (by simp;omega) _)).mono ?_;rintro e w4 ⟨rfl,hb4⟩;have t4:Tch [] w w4:=(sbox_tch w qb now #[.int .u8 (r.op.toNat:Int),.int .u8 (r.q.toNat:Int),.int .u8 (r.d.toNat:Int),.int .i64 r.vis,.int .i64 r.win,.int .i64 r.rcv,.int .i64 r.quo,.int .i64 r.mx,.int .i64 r.tic,.string r.grp,.string r.ded,.string r.bod,.string r.att,.string r.han,.slice y.a y.n y.c]).trans (Tch.of_below hb4) (by simp);have hb4':Below (sbox w qb now #[.int .u8 (r.op.toNat:Int),.int .u8 (r.q.toNat:Int),.int .u8 (r.d.toNat:Int),.int .i64 r.vis,.int .i64 r.win,.int .i64 r.rcv,.int .i64 r.quo,.int .i64 r.mx,.int .i64 r.tic,.string r.grp,.string r.ded,.string r.bod,.string r.att,.string r.han,.slice y.a y.n y.c]).heap.size (sbox w qb now #[.int .u8 (r.op.toNat:Int),.int .u8 (r.q.toNat:Int),.int .u8 (r.d.toNat:Int),.int .i64 r.vis,.int .i64 r.win,.int .i64 r.rcv,.int .i64 r.quo,.int .i64 r.mx,.int .i64 r.tic,.string r.grp,.string r.ded,.string r.bod,.string r.att,.string r.han,.slice y.a y.n y.c]) w4:=hb4;rw[sbox_size]at hb4';have z4:w.heap.size+3<=w4.heap.size:=by have:=hb4'.size;rw[sbox_size]at this;exact this
 have k0:=cell_of_one ((hb4'.block _ (by omega)).trans (sbox_0 w qb now #[.int .u8 (r.op.toNat:Int),.int .u8 (r.q.toNat:Int),.int .u8 (r.d.toNat:Int),.int .i64 r.vis,.int .i64 r.win,.int .i64 r.rcv,.int .i64 r.quo,.int .i64 r.mx,.int .i64 r.tic,.string r.grp,.string r.ded,.string r.bod,.string r.att,.string r.han,.slice y.a y.n y.c]));have hn0:w.heap.size<w4.heap.size:=by omega
 have hq4:(w4.alloc (.cells #[.string id] 9)).heap[qb]?=some (.cells (qC c next ms rs (.slice (some ⟨gd,0,none⟩) nd cd) at_) 137 (0,0)):=(Below.heap_alloc _ _ _ (by omega)).trans ((t4.block _ hlt (by simp)).trans HQ.out);have HF:Hid (zB 170 #[.pointer (some ⟨qb,0,none⟩),.string id] (w4.alloc (.cells #[.string id] 9)) (.int .i64 (i:Int))):=by
  have h:=findDedup_gen id qb _ ds (w4.alloc (.cells #[.string id] 9)) (cell_qC hq4 9 _ rfl) (own_tch HOW.out (t4.alloc _) (fun _ _=>by simp)) (by omega);rw[HII.out]at h;exact h
 have HQ4:=zH hq4;have T4:=zH t4;clear hb4 hb4' hq4 t4;go_wp2_with fail;refine HF.out.mono ?_;rintro e w6 ⟨rfl,hb6⟩;have t6:Tch [] w w6:=(T4.out.alloc _).trans (Tch.of_below hb6) (by simp);have z6:=hb6.size;rw[World.size_alloc]at z6;have k6:w6.cell? ⟨w.heap.size,0,none⟩=some (.pointer (some ⟨qb,0,none⟩)):=(hb6.cell (p:=⟨w.heap.size,0,none⟩) (by simp;omega)).trans (Lib.cell?_alloc_some _ k0);have q9:w6.cell? ⟨qb,9,none⟩=some (.slice (some ⟨gd,0,none⟩) nd cd):=cell_qC ((hb6.block _ (by simp;omega)).trans HQ4.out) 9 _ rfl;have d1:=(t6.cell (a:=⟨gd,i*3+1,none⟩) hgd (by simp)).trans HCC.out;have HA:Hid (Calls Tryz.prog 46 #[.slice none 0 0,.int .i64 (num:Nat),.int .i64 4] w6 fun e w'=>∃v',e=.returned v'/\OwnB w' w.heap.size v' ([]++lowB num 4)/\Below w.heap.size w6 w'):=appendNumber_any w.heap.size _ [] num 4 w6 hn (by decide) (by decide) (by omega) (World.ownsRow_nil _ _ _ _);have T6:=zH t6;clear hb6 t6 k0;go_wp2_with fail;refine HA.out.mono ?_;rintro e w7 ⟨av,rfl,ho,hb7⟩;have HO:=zH ho;have HB7:=zH hb7;clear ho hb7;go_wp2_with fail;go_ret3;exact⟨av,rfl,HO.out,(T6.out.below (by simp) (Nat.le_refl _)).trans HB7.out⟩
theorem sendg_new (c r:Wp.Rq)(y:Sl)(qb k nm cm:Nat)(am:Option Addr)(ds:List Dd)(now:Int)(rs vd at_:Value)(w:World)
  (hq:w.heap[qb]?=some (.cells (qC c (k:Int) (.slice am nm cm) rs vd at_) 137 (0,0)))(hbod:r.bod.size<=40)(hT:Tab w)(h2:2<w.heap.size)
  (ho:w.ownsRow 0 195 3 vd ds.length (ds.flatMap Dd.row))(hl:ds.length<=1000)(hid:idxL (isI (didS r)) ds<0)(hquo:(nm:Int)<c.quo)(hk:k<=200):
  Calls Tryz.prog 124 #[.pointer (some ⟨qb,0,none⟩),.int .i64 now,.agg (cellsOf r y.v)] w fun e w'=>∃av gi,
   e=.returned (.tuple #[av,.func (.func 171) #[] #[.pointer (some ⟨w.heap.size,0,none⟩),.pointer (some ⟨gi,0,none⟩),.pointer (some ⟨w.heap.size+1,0,none⟩),.pointer (some ⟨w.heap.size+2,0,none⟩)],.int .i64 0])/\OwnB w' (gi+1) av (lowB k 4)/\Below w.heap.size w w'/\
   w'.heap[w.heap.size]?=some (.cells #[.pointer (some ⟨qb,0,none⟩)] 88 (0,0))/\w'.heap[gi]?=some (.cells #[.string (didS r)] 9 (0,0))/\w'.heap[w.heap.size+1]?=some (.cells #[.int .i64 now] 3 (0,0))/\w'.heap[w.heap.size+2]?=some (.cells (cellsOf r y.v) 24 (0,0)):=by
 have hlt:=lt_of_block hq;have HQ:=zH hq;have HID:Hid (∀W,Below w.heap.size w W->zB 169 #[.agg (cellsOf r y.v)] W (.string (didS r))):=fun W hb=>dedupID_any r y W (Nat.le_trans hbod (by decide)) (hT.below hb h2) (by have:=hb.size;omega)
 rw[zM r y]at HID;have hbz:¬(40:Int)<(r.bod.size:Int):=by omega
 have hquo':¬c.quo<=(nm:Int):=by omega
 have hk':¬(200:Int)<(k:Int):=by omega
 have HOW:=zH ho;have hge:=idxL_ge (isI (didS r)) ds;have HII:Hid (idxL (isI (didS r)) ds=-1):=by show _=_;omega
 clear hq hT ho hid hge;generalize didS r=id at*
 rw[zM r y];go_enter Tryz.func124,Tryz.ntmps124;go_wp2_with fail;refine(HID.out _ (((((Below.refl _ _).alloc (Nat.le_refl _) _).alloc (by simp) _)).alloc (by simp;omega) _)).mono ?_;rintro e w4 ⟨rfl,hb4⟩;have t4:Tch [] w w4:=(sbox_tch w qb now #[.int .u8 (r.op.toNat:Int),.int .u8 (r.q.toNat:Int),.int .u8 (r.d.toNat:Int),.int .i64 r.vis,.int .i64 r.win,.int .i64 r.rcv,.int .i64 r.quo,.int .i64 r.mx,.int .i64 r.tic,.string r.grp,.string r.ded,.string r.bod,.string r.att,.string r.han,.slice y.a y.n y.c]).trans (Tch.of_below hb4) (by simp);have hb4':Below (sbox w qb now #[.int .u8 (r.op.toNat:Int),.int .u8 (r.q.toNat:Int),.int .u8 (r.d.toNat:Int),.int .i64 r.vis,.int .i64 r.win,.int .i64 r.rcv,.int .i64 r.quo,.int .i64 r.mx,.int .i64 r.tic,.string r.grp,.string r.ded,.string r.bod,.string r.att,.string r.han,.slice y.a y.n y.c]).heap.size (sbox w qb now #[.int .u8 (r.op.toNat:Int),.int .u8 (r.q.toNat:Int),.int .u8 (r.d.toNat:Int),.int .i64 r.vis,.int .i64 r.win,.int .i64 r.rcv,.int .i64 r.quo,.int .i64 r.mx,.int .i64 r.tic,.string r.grp,.string r.ded,.string r.bod,.string r.att,.string r.han,.slice y.a y.n y.c]) w4:=hb4;rw[sbox_size]at hb4';have z4:w.heap.size+3<=w4.heap.size:=by have:=hb4'.size;rw[sbox_size]at this;exact this
 have B0:=(hb4'.block _ (by omega)).trans (sbox_0 w qb now #[.int .u8 (r.op.toNat:Int),.int .u8 (r.q.toNat:Int),.int .u8 (r.d.toNat:Int),.int .i64 r.vis,.int .i64 r.win,.int .i64 r.rcv,.int .i64 r.quo,.int .i64 r.mx,.int .i64 r.tic,.string r.grp,.string r.ded,.string r.bod,.string r.att,.string r.han,.slice y.a y.n y.c]);have HB1:=zH ((hb4'.block _ (by omega)).trans (sbox_1 w qb now #[.int .u8 (r.op.toNat:Int),.int .u8 (r.q.toNat:Int),.int .u8 (r.d.toNat:Int),.int .i64 r.vis,.int .i64 r.win,.int .i64 r.rcv,.int .i64 r.quo,.int .i64 r.mx,.int .i64 r.tic,.string r.grp,.string r.ded,.string r.bod,.string r.att,.string r.han,.slice y.a y.n y.c]));have HB2:=zH ((hb4'.block _ (by omega)).trans (sbox_2 w qb now #[.int .u8 (r.op.toNat:Int),.int .u8 (r.q.toNat:Int),.int .u8 (r.d.toNat:Int),.int .i64 r.vis,.int .i64 r.win,.int .i64 r.rcv,.int .i64 r.quo,.int .i64 r.mx,.int .i64 r.tic,.string r.grp,.string r.ded,.string r.bod,.string r.att,.string r.han,.slice y.a y.n y.c]));have k0:=cell_of_one B0;have HB0:=zH B0;have hn0:w.heap.size<w4.heap.size:=by omega
 have hq4:(w4.alloc (.cells #[.string id] 9)).heap[qb]?=some (.cells (qC c (k:Int) (.slice am nm cm) rs vd at_) 137 (0,0)):=(Below.heap_alloc _ _ _ (by omega)).trans ((t4.block _ hlt (by simp)).trans HQ.out);have HF:Hid (zB 170 #[.pointer (some ⟨qb,0,none⟩),.string id] (w4.alloc (.cells #[.string id] 9)) (.int .i64 (-1))):=by
  have h:=findDedup_gen id qb _ ds (w4.alloc (.cells #[.string id] 9)) (cell_qC hq4 9 _ rfl) (own_tch HOW.out (t4.alloc _) (fun _ _=>by simp)) (by omega);rw[HII.out]at h;exact h
 have HQ4:=zH hq4;have T4:=zH t4;clear hb4 hb4' hq4 t4 B0;go_wp2_with fail;refine HF.out.mono ?_;rintro e w6 ⟨rfl,hb6⟩;have t6:Tch [] w w6:=(T4.out.alloc _).trans (Tch.of_below hb6) (by simp);have z6:=hb6.size;rw[World.size_alloc]at z6;have BL:∀i o,i<w4.heap.size->w4.heap[i]?=some o->w6.heap[i]?=some o:=fun i o hi ho=>(hb6.block i (by simp;omega)).trans ((Below.heap_alloc _ _ _ hi).trans ho)
 have HC0:Hid (w6.heap[w.heap.size]?=_):=BL _ _ hn0 HB0.out;have HC1:Hid (w6.heap[w.heap.size+1]?=_):=BL _ _ (by omega) HB1.out;have HC2:Hid (w6.heap[w.heap.size+2]?=_):=BL _ _ (by omega) HB2.out;have HCI:Hid (w6.heap[w4.heap.size]?=_):=(hb6.block _ (by simp)).trans (heap_alloc_new _ _);have hq6:=(hb6.block qb (by simp;omega)).trans HQ4.out;have k6:w6.cell? ⟨w.heap.size,0,none⟩=some (.pointer (some ⟨qb,0,none⟩)):=cell_of_one HC0.out;have q5:w6.cell? ⟨qb,5,none⟩=some (.int .i64 c.quo):=cell_qC hq6 5 _ rfl;have q6:w6.cell? ⟨qb,6,none⟩=some (.int .i64 (k:Int)):=cell_qC hq6 6 _ rfl;have q7:w6.cell? ⟨qb,7,none⟩=some (.slice am nm cm):=cell_qC hq6 7 _ rfl;have T6:=zH t6;have HA:Hid (∀n,Calls Tryz.prog 46 #[.slice none 0 0,.int .i64 (k:Int),.int .i64 4] (w6.drewN n) fun e w'=>∃v',e=.returned v'/\OwnB w' (w4.heap.size+1) v' ([]++lowB k 4)/\Below (w4.heap.size+1) (w6.drewN n) w'):=fun n=>appendNumber_any (w4.heap.size+1) _ [] k 4 (w6.drewN n) (by omega) (by decide) (by decide) z6 (World.ownsRow_nil _ _ _ _)
 have z6':=zH z6;clear hb6 t6 k0 hq6 BL;go_wp2_with fail;go_quiet (fail);have k6':=k6;have q6':=q6;go_wp2_with fail;refine(HA.out nq).mono ?_;rintro e w7 ⟨av,rfl,ho,hb7⟩;have HO:=zH ho;have HB7:Hid (Below (w4.heap.size+1) w6 w7):=(below_drewN (Below.refl _ _) nq).trans hb7;clear ho hb7;go_wp2_with fail;go_ret3;have hB:=HB7.out;exact⟨av,w4.heap.size,rfl,HO.out,(T6.out.below (by simp) (Nat.le_refl _)).trans (hB.mono (by omega)),(hB.block _ (by omega)).trans HC0.out,(hB.block _ (by omega)).trans HCI.out,(hB.block _ (by omega)).trans HC1.out,(hB.block _ (by omega)).trans HC2.out⟩
theorem sentg_now (K:World->Prop)(c r:Wp.Rq)(y:Sl)(qb k nr gq gi gn gr:Nat)(vd ms rs at_:Value)(l:List Ms)(xr:List Value)(w:World)
  (hq:Qb w qb c (k:Int) ms rs vd at_)(hm:w.ownsRow 0 191 5 ms l.length (l.flatMap Ms.row))(hr:w.ownsRow 0 9 1 rs nr xr)(hnm:l.length<=1000)(hnr:nr<=1000)(hk:k<=200)(hwin:c.win=0)
  (hgq:w.heap[gq]?=some (.cells #[.pointer (some ⟨qb,0,none⟩)] 88 (0,0)))(hgr:w.heap[gr]?=some (.cells (cellsOf r y.v) 24 (0,0)))
  (hK:∀w' ms' rs',Qb w' qb c ((k+1:Nat):Int) ms' rs' vd at_->w'.ownsRow 0 191 5 ms' (l.length+1) (l.flatMap Ms.row++msV k r.grp r.bod)->w'.ownsRow 0 9 1 rs' (if idxL (isG r.grp) l<0 then nr+1 else nr) (if idxL (isG r.grp) l<0 then xr++[.string r.grp] else xr)->NewOr w ms ms'->NewOr w rs rs'->Tch (qb::(bl ms++bl rs)) w w'->K w'):
  Calls Tryz.prog 171 #[.pointer (some ⟨gq,0,none⟩),.pointer (some ⟨gi,0,none⟩),.pointer (some ⟨gn,0,none⟩),.pointer (some ⟨gr,0,none⟩)] w fun e w'=>e=.returned (.tuple #[])/\K w':=by
 have HP:=zH (putg_walk K c r.grp r.bod qb k nr ms rs vd at_ l xr w hq hm hr hnm hnr hk hK);have q3:w.cell? ⟨qb,3,none⟩=some (.int .i64 0):=by rw[<-hwin];exact cell_qC hq 3 _ rfl
 have cq:=cell_of_one hgq;have c9:=gr9 hgr;have c11:=gr11 hgr;clear hq hm hr hgq hgr hK;go_enter Tryz.func171,Tryz.ntmps171;go_wp2_with fail;refine HP.out.mono ?_;rintro e w2 ⟨rfl,hk2⟩;go_wp2_with fail;go_end0;exact⟨rfl,hk2⟩
structure Fr (B:Nat)(T:List TypeId)(w w':World):Prop where
 os:w'.os=w.os
 tape:w'.tape=w.tape
 output:w'.output=w.output
 size:w.heap.size<=w'.heap.size
 low:∀k:Nat,k<B->w'.heap[k]?=w.heap[k]?
 keep:∀(k:Nat) (C:Array Value) (t:TypeId),w.heap[k]?=some (.cells C t (0,0))->t∉T->w'.heap[k]?=some (.cells C t (0,0))
theorem Fr.refl (B:Nat)(T:List TypeId)(w:World):Fr B T w w:=⟨rfl,rfl,rfl,Nat.le_refl _,fun _ _=>rfl,fun _ _ _ h _=>h⟩
theorem Fr.trans {a b c:World}(h:Fr B T a b)(k:Fr B T b c):Fr B T a c:=
 ⟨k.os.trans h.os,k.tape.trans h.tape,k.output.trans h.output,Nat.le_trans h.size k.size,fun x hx=>(k.low x hx).trans (h.low x hx),fun x C t hx ht=>k.keep x C t (h.keep x C t hx ht) ht⟩
theorem Fr.of_tch (h:Tch S w w')(hB:B<=w.heap.size)(hlow:∀k∈S,B<=k)(hty:∀k∈S,∀(C:Array Value) (t:TypeId),w.heap[k]?=some (.cells C t (0,0))->t∈T):Fr B T w w':=
 ⟨h.os,h.tape,h.output,h.size,fun k hk=>h.block k (by omega) (fun hm=>by have:=hlow k hm;omega),fun k C t hk ht=>(h.block k (lt_of_block hk) (fun hm=>ht (hty k hm C t hk))).trans hk⟩
theorem Fr.of_nil (T:List TypeId){w w':World}(h:Tch [] w w')(hB:B<=w.heap.size):Fr B T w w':=Fr.of_tch h hB (by simp) (by simp)
theorem Fr.below (h:Fr B T w w'):Below B w w':=⟨h.os,h.tape,h.output,h.size,fun k hk=>h.low k hk⟩
theorem Fr.own (h:Fr B T w w'){base size n:Nat}{t:TypeId}{v:Value}{xs:List Value}(ho:w.ownsRow base t size v n xs)(ht:t∉T):w'.ownsRow base t size v n xs:=by
 refine⟨ho.1,?_⟩;rcases ho.2 with hn|⟨g,cap,cur,rfl,hb,hg,rest⟩
 ·exact .inl hn
 ·exact .inr ⟨g,cap,cur,rfl,hb,h.keep g cur t hg ht,rest⟩
abbrev TJ:List TypeId:=[85,77,79]
theorem Jr.fr {j d:Nat}{room:Int}{fs:List Dk.DF}{k:Nat}(h:Jr w j d room v fs n k)(hB:B<=w.heap.size)(hlo:∀b∈jbl j d v,B<=b)(ht:Tch (jbl j d v) w w'):Fr B TJ w w':=
 Fr.of_tch ht hB hlo (fun b hb C t hC=>by
  by_cases h1:85=t
  ·rw[<-h1];decide
  ·by_cases h2:77=t
   ·rw[<-h2];decide
   ·by_cases h3:79=t
    ·rw[<-h3];decide
    ·exact absurd hb (h.apart hC h1 h2 h3))
structure QV where
 m:Value
 r:Value
 d:Value
 a:Value
structure QM where
 c:Wp.Rq
 next:Nat
 ms:List Ms
 rs:List ByteArray
 ds:List Dd
 ats:List At
structure QR (w:World)(qb:Nat)(V:QV)(Q:QM):Prop where
 blk:Qb w qb Q.c (Q.next:Int) V.m V.r V.d V.a
 m:w.ownsRow 0 191 5 V.m Q.ms.length (Q.ms.flatMap Ms.row)
 r:w.ownsRow 0 9 1 V.r Q.rs.length (Q.rs.map Value.string)
 d:w.ownsRow 0 195 3 V.d Q.ds.length (Q.ds.flatMap Dd.row)
 a:w.ownsRow 0 199 3 V.a Q.ats.length (Q.ats.flatMap At.row)
def qbl (qb:Nat)(V:QV):List Nat:=qb::(bl V.m++(bl V.r++(bl V.d++bl V.a)))
theorem mem_qbl {V:QV}{b:Nat}:b∈qbl qb V↔b=qb\/V.m.ownBlock=some b\/V.r.ownBlock=some b\/V.d.ownBlock=some b\/V.a.ownBlock=some b:=by
 simp only[qbl,List.mem_cons,List.mem_append,mem_bl]
def QL (w w':World)(qb:Nat)(V:QV)(Q:QM):Prop:=∃V',QR w' qb V' Q/\Tch (qbl qb V) w w'/\∀b∈qbl qb V',b∈qbl qb V\/w.heap.size<=b
theorem QR.tch {V:QV}{Q:QM}(h:QR w qb V Q){S:List Nat}(ht:Tch S w w')(hS:∀b∈qbl qb V,b∉S):QR w' qb V Q:=
 ⟨(ht.block _ h.blk.lt (hS _ (by simp[qbl]))).trans h.blk,own_tch h.m ht (fun b hb=>hS b (mem_qbl.2 (.inr (.inl hb)))),own_tch h.r ht (fun b hb=>hS b (mem_qbl.2 (.inr (.inr (.inl hb))))),own_tch h.d ht (fun b hb=>hS b (mem_qbl.2 (.inr (.inr (.inr (.inl hb)))))),own_tch h.a ht (fun b hb=>hS b (mem_qbl.2 (.inr (.inr (.inr (.inr hb))))))⟩
theorem QR.lt {V:QV}{Q:QM}(h:QR w qb V Q):∀b∈qbl qb V,b<w.heap.size:=fun b hb=>by
 rcases mem_qbl.1 hb with e|e|e|e|e
 ·rw[e];exact h.blk.lt
 ·exact own_lt h.m e
 ·exact own_lt h.r e
 ·exact own_lt h.d e
 ·exact own_lt h.a e
abbrev TQ:List TypeId:=[137,191,9,195,199]
theorem QR.ty {V:QV}{Q:QM}(h:QR w qb V Q):∀b∈qbl qb V,∀(C:Array Value) (t:TypeId),w.heap[b]?=some (.cells C t (0,0))->t∈TQ:=fun b hb C t hC=>by
 by_cases e1:137=t
 ·rw[<-e1];decide
 by_cases e2:191=t
 ·rw[<-e2];decide
 by_cases e3:9=t
 ·rw[<-e3];decide
 by_cases e4:195=t
 ·rw[<-e4];decide
 by_cases e5:199=t
 ·rw[<-e5];decide
 exfalso;rcases mem_qbl.1 hb with e|e|e|e|e
 ·have h0:w.heap[qb]?=_:=h.blk;rw[<-e,hC]at h0;simp at h0;exact e1 h0.2.symm
 ·exact own_ne h.m hC e2 e
 ·exact own_ne h.r hC e3 e
 ·exact own_ne h.d hC e4 e
 ·exact own_ne h.a hC e5 e
theorem QR.keep {V:QV}{Q:QM}(h:QR w qb V Q)(hf:Fr B T w w')(hT:∀t∈TQ,t∉T):QR w' qb V Q:=
 ⟨hf.keep _ _ _ h.blk (hT _ (by decide)),hf.own h.m (hT _ (by decide)),hf.own h.r (hT _ (by decide)),hf.own h.d (hT _ (by decide)),hf.own h.a (hT _ (by decide))⟩
def sendQ (Q:QM)(r:Wp.Rq)(now:Int):QM:=
 {Q with next:=Q.next+1,ms:=Q.ms++[⟨(Q.next:Nat),r.grp,r.bod,0,0⟩],rs:=if idxL (isG r.grp) Q.ms<0 then Q.rs++[r.grp] else Q.rs,ds:=if 0<Q.c.win then Q.ds++[⟨didS r,(Q.next:Nat),now+Q.c.win⟩] else Q.ds}
theorem rs_len (b:Prop) [Decidable b] (l:List ByteArray)(g:ByteArray):(if b then l++[g] else l).length=if b then l.length+1 else l.length:=by split<;>simp
theorem rs_map (b:Prop) [Decidable b] (l:List ByteArray)(g:ByteArray):(if b then l++[g] else l).map Value.string=if b then l.map Value.string++[.string g] else l.map Value.string:=by split<;>simp
theorem sent_q (Q:QM)(V:QV)(r:Wp.Rq)(y:Sl)(qb gq gi gn gr:Nat)(now:Int)(w:World)(h:QR w qb V Q)(hnm:Q.ms.length<=1000)(hnr:Q.rs.length<=1000)(hnd:Q.ds.length<=1000)(hk:Q.next<=200)(hwin:0<=Q.c.win/\Q.c.win<=1001)(hnow:0<=now/\now<=60000)
  (hgq:w.heap[gq]?=some (.cells #[.pointer (some ⟨qb,0,none⟩)] 88 (0,0)))(hgi:w.heap[gi]?=some (.cells #[.string (didS r)] 9 (0,0)))(hgn:w.heap[gn]?=some (.cells #[.int .i64 now] 3 (0,0)))(hgr:w.heap[gr]?=some (.cells (cellsOf r y.v) 24 (0,0))):
  Calls Tryz.prog 171 #[.pointer (some ⟨gq,0,none⟩),.pointer (some ⟨gi,0,none⟩),.pointer (some ⟨gn,0,none⟩),.pointer (some ⟨gr,0,none⟩)] w fun e w'=>e=.returned (.tuple #[])/\QL w w' qb V (sendQ Q r now):=by
 have ha:∀(S:List Nat) (w':World),(∀b∈S,b=qb\/V.d.ownBlock=some b\/V.m.ownBlock=some b\/V.r.ownBlock=some b)->Tch S w w'->w'.ownsRow 0 199 3 V.a Q.ats.length (Q.ats.flatMap At.row):=fun S w' hS ht=>own_tch h.a ht (fun b hb hm=>by
  obtain⟨C,hC⟩:∃C,w.heap[b]?=some (.cells C 199 (0,0)):=by
   rcases h.a.2 with ⟨h0,_⟩|⟨g',cap',cur',h0,_,hg',_⟩
   ·rw[h0]at hb;simp[Value.ownBlock]at hb
   ·rw[h0]at hb;simp only[Value.ownBlock,Option.some.injEq]at hb;subst hb;exact⟨_,hg'⟩
  rcases hS b hm with e|e|e|e
  ·have h0:w.heap[qb]?=_:=h.blk;rw[<-e,hC]at h0;simp at h0
  ·exact own_ne h.d hC (by decide) e
  ·exact own_ne h.m hC (by decide) e
  ·exact own_ne h.r hC (by decide) e)
 by_cases hw:0<Q.c.win
 ·refine sentg_walk (fun w'=>QL w w' qb V (sendQ Q r now)) Q.c r y (didS r) qb Q.next Q.rs.length Q.ds.length gq gi gn gr now V.d V.m V.r V.a Q.ms (Q.rs.map Value.string) (Q.ds.flatMap Dd.row) w h.blk h.m h.r h.d hnm hnd hnr hk ⟨hw,hwin.2⟩ hnow hgq hgi hgn hgr ?_;intro w' ms' rs' ds' hq hm hr hd hN1 hN2 hj ht;refine⟨⟨ms',rs',ds',V.a⟩,⟨hq,?_,?_,?_,?_⟩,ht.sub (fun x hx _=>?_),fun b hb=>?_⟩
  ·simpa [sendQ,Ms.row]using hm
  ·show w'.ownsRow 0 9 1 rs' (sendQ Q r now).rs.length ((sendQ Q r now).rs.map Value.string)
   simp only[sendQ,rs_len,rs_map];exact hr
  ·simpa [sendQ,hw,Dd.row,ddV]using hd
  ·exact ha _ w' (fun b hb=>by
    rcases List.mem_cons.1 hb with e|e
    ·exact .inl e
    ·rcases List.mem_append.1 e with e|e
     ·exact .inr (.inl (mem_bl.1 e))
     ·rcases List.mem_append.1 e with e|e
      ·exact .inr (.inr (.inl (mem_bl.1 e)))
      ·exact .inr (.inr (.inr (mem_bl.1 e)))) ht
  ·rcases List.mem_cons.1 hx with e|e
   ·exact mem_qbl.2 (.inl e)
   ·rcases List.mem_append.1 e with e|e
    ·exact mem_qbl.2 (.inr (.inr (.inr (.inl (mem_bl.1 e)))))
    ·rcases List.mem_append.1 e with e|e
     ·exact mem_qbl.2 (.inr (.inl (mem_bl.1 e)))
     ·exact mem_qbl.2 (.inr (.inr (.inl (mem_bl.1 e))))
  ·rcases mem_qbl.1 hb with e|e|e|e|e
   ·exact .inl (mem_qbl.2 (.inl e))
   ·exact(hN1 b e).imp (fun h=>mem_qbl.2 (.inr (.inl h))) id
   ·exact(hN2 b e).imp (fun h=>mem_qbl.2 (.inr (.inr (.inl h)))) id
   ·exact(hj b e).imp (fun h=>mem_qbl.2 (.inr (.inr (.inr (.inl h))))) id
   ·exact .inl (mem_qbl.2 (.inr (.inr (.inr (.inr e)))))
 ·have hw0:Q.c.win=0:=by omega
  refine sentg_now (fun w'=>QL w w' qb V (sendQ Q r now)) Q.c r y qb Q.next Q.rs.length gq gi gn gr V.d V.m V.r V.a Q.ms (Q.rs.map Value.string) w h.blk h.m h.r hnm hnr hk hw0 hgq hgr ?_;intro w' ms' rs' hq hm hr hN1 hN2 ht;have hS:∀b∈(qb::(bl V.m++bl V.r)),b=qb\/V.d.ownBlock=some b\/V.m.ownBlock=some b\/V.r.ownBlock=some b:=fun b hb=>by
   rcases List.mem_cons.1 hb with e|e
   ·exact .inl e
   ·rcases List.mem_append.1 e with e|e
    ·exact .inr (.inr (.inl (mem_bl.1 e)))
    ·exact .inr (.inr (.inr (mem_bl.1 e)))
  refine⟨⟨ms',rs',V.d,V.a⟩,⟨hq,?_,?_,?_,ha _ w' hS ht⟩,ht.sub (fun x hx _=>?_),fun b hb=>?_⟩
  ·simpa [sendQ,Ms.row]using hm
  ·show w'.ownsRow 0 9 1 rs' (sendQ Q r now).rs.length ((sendQ Q r now).rs.map Value.string)
   simp only[sendQ,rs_len,rs_map];exact hr
  ·have hd':w'.ownsRow 0 195 3 V.d Q.ds.length (Q.ds.flatMap Dd.row):=own_tch h.d ht (fun b hb hm=>by
    obtain⟨C,hC⟩:∃C,w.heap[b]?=some (.cells C 195 (0,0)):=by
     rcases h.d.2 with ⟨h0,_⟩|⟨g',cap',cur',h0,_,hg',_⟩
     ·rw[h0]at hb;simp[Value.ownBlock]at hb
     ·rw[h0]at hb;simp only[Value.ownBlock,Option.some.injEq]at hb;subst hb;exact⟨_,hg'⟩
    rcases List.mem_cons.1 hm with e|e
    ·have h0:w.heap[qb]?=_:=h.blk;rw[<-e,hC]at h0;simp at h0
    ·rcases List.mem_append.1 e with e|e
     ·exact own_ne h.m hC (by decide) (mem_bl.1 e)
     ·exact own_ne h.r hC (by decide) (mem_bl.1 e))
   simpa [sendQ,hw]using hd'
  ·rcases List.mem_cons.1 hx with e|e
   ·exact mem_qbl.2 (.inl e)
   ·rcases List.mem_append.1 e with e|e
    ·exact mem_qbl.2 (.inr (.inl (mem_bl.1 e)))
    ·exact mem_qbl.2 (.inr (.inr (.inl (mem_bl.1 e))))
  ·rcases mem_qbl.1 hb with e|e|e|e|e
   ·exact .inl (mem_qbl.2 (.inl e))
   ·exact(hN1 b e).imp (fun h=>mem_qbl.2 (.inr (.inl h))) id
   ·exact(hN2 b e).imp (fun h=>mem_qbl.2 (.inr (.inr (.inl h)))) id
   ·exact .inl (mem_qbl.2 (.inr (.inr (.inr (.inl e)))))
   ·exact .inl (mem_qbl.2 (.inr (.inr (.inr (.inr e)))))
end Go.Proofs.YtbdobaapadlcjabGreatDoor
namespace Go.Proofs.YtbdobaapadlcjabGreatDoor
open Go.Shelf Go.RowKit Go.Lib
abbrev isN (n:Int)(x:Ms):Bool:=x.num == n
theorem idxL_fnd {α:Type}(p:α->Bool):∀(l:List α) (i:Nat),idxL p l=(i:Int)->∃h:i<l.length,p l[i]=true/\l.find? p=some l[i]
 | [],i,h=>by simp only[idxL]at h;omega
 | x::l,i,h=>by
  simp only[idxL]at h
  by_cases hx:p x=true
  ·rw[if_pos hx]at h;have:i=0:=by omega
   subst this;exact⟨by simp,hx,by simp[hx]⟩
  ·rw[if_neg hx]at h
   split at h
   ·omega
   ·obtain⟨j,rfl⟩:∃j,i=j+1:=⟨i-1,by omega⟩;obtain⟨hl,hp,hf⟩:=idxL_fnd p l j (by omega);exact⟨by simp;omega,by simpa using hp,by simp[hx,hf]⟩
theorem idxL_no {α:Type}(p:α->Bool)(l:List α)(h:idxL p l<0):l.find? p=none:=by
 rw[List.find?_eq_none];intro x hx;have:=(idxL_neg p l).1 h x hx;simp[this]
theorem num_pred (n:Int)(B:Nat)(w:World)(hB:B<w.heap.size)(hcell:w.cell? ⟨B,0,none⟩=some (.int .i64 n)):
  PredBelow Tryz.prog 202 #[.pointer (some ⟨B,0,none⟩)] (fun x:Ms=>.agg x.row.toArray) (isN n) w:=fun W x hb=>by
 have hc:=(hb.cell (p:=⟨B,0,none⟩) hB).trans hcell;have hBW:B<W.heap.size:=Nat.lt_of_lt_of_le hB hb.size
 show Calls Tryz.prog 202 #[.agg #[.int .i64 x.num,.string x.grp,.string x.bod,.int .i64 x.rcv,.int .i64 x.til],.pointer (some ⟨B,0,none⟩)] W _
 go_enter Tryz.func202,Tryz.ntmps202
 go_wp2
 all_goals (go_ret;exact⟨by simp_all,hb.alloc hb.size _⟩)
theorem eg286:∀args w,(callFunc 202 args).run Tryz.prog w=.ok (.enter 202 args) w:=enters_of Tryz.func202 (by kernel_rfl) rfl
theorem idx_num (v:Value)(l:List Ms)(n:Int)(B:Nat)(w:World)(ho:w.ownsRow 0 191 5 v l.length (l.flatMap Ms.row))(hl:l.length<=1000000)(hB:B<w.heap.size)(hcell:w.cell? ⟨B,0,none⟩=some (.int .i64 n)):
  zB 193 #[v,.func (.func 202) #[] #[.pointer (some ⟨B,0,none⟩)]] w (.int .i64 (idxL (isN n) l)):=by
 have inh:Inhabited Ms:=⟨⟨0,⟨#[]⟩,⟨#[]⟩,0,0⟩⟩;rcases ho.2 with ⟨rfl,h0⟩|⟨gd,cap,cur,rfl,_,hg,_⟩
 ·have e0:l=[]:=List.length_eq_zero_iff.1 h0;subst e0;refine(idx_ms_none none 0 _ w).mono ?_;rintro e w' ⟨rfl,rfl⟩;exact⟨rfl,Below.refl _ _⟩
 ·have h:=AnyQ.slices_IndexFunc l197 5 Tryz.isAgg191 Tryz.sizeOf191 Ms.row (fun _=>rfl) (isN n) 202 #[.pointer (some ⟨B,0,none⟩)] eg286 gd 0 l.length cap l w (num_pred n B w hB hcell) (Nat.le_refl _) (by omega) (lt_of_block hg) (fun j hj i v hi=>own_cells Ms.row 5 (fun _=>rfl) ho j hj i v hi);rw[List.take_length,idxBy_eq]at h;exact h
theorem find_gen (n:Int)(qb:Nat)(v:Value)(l:List Ms)(w:World)(c7:w.cell? ⟨qb,7,none⟩=some v)(ho:w.ownsRow 0 191 5 v l.length (l.flatMap Ms.row))(hl:l.length<=1000000):
  zB 182 #[.pointer (some ⟨qb,0,none⟩),.int .i64 n] w (.int .i64 (idxL (isN n) l)):=by
 have hlt:=World.block_lt_of_cell? _ _ c7;have HI:Hid (Calls Tryz.prog 193 _ (w.alloc (.cells #[.int .i64 n] 3)) _):=idx_num v l n w.heap.size (w.alloc (.cells #[.int .i64 n] 3)) (own_tch ho ((Tch.refl [] w).alloc _) (fun _ _=>by simp)) hl (by simp) (cell_of_one (heap_alloc_new _ _));clear ho;generalize idxL (isN n) l=z at*
 go_enter Tryz.func182,Tryz.ntmps182;go_wp2_with (go_at_call 193;refine HI.out.mono ?_;rintro e w' ⟨rfl,hb⟩);go_ret;exact⟨rfl,((Below.refl _ _).alloc (Nat.le_refl _) _).trans (hb.mono (by simp))⟩
def fliesQ (Q:QM)(num rcv:Int):Bool:=match Q.ms.find? (isN num) with
 | some m=>decide (0<m.til)&&m.rcv == rcv
 | none=>false
theorem QR.msc {w:World}{qb:Nat}{V:QV}{Q:QM}(h:QR w qb V Q)(i:Nat)(hi:i<Q.ms.length):∃g c,V.m=.slice (some ⟨g,0,none⟩) Q.ms.length c/\g<w.heap.size/\∀j u,(Q.ms[i].row)[j]?=some u->w.cell? ⟨g,i*5+j,none⟩=some u:=by
 have inh:Inhabited Ms:=⟨⟨0,⟨#[]⟩,⟨#[]⟩,0,0⟩⟩;obtain⟨g,c,hv⟩:∃g c,V.m=.slice (some ⟨g,0,none⟩) Q.ms.length c:=by
  rcases h.m.2 with ⟨h0,h1⟩|⟨g,cap,cur,h0,_⟩
  ·omega
  ·exact⟨_,_,h0⟩
 have hm:=h.m;rw[hv]at hm;have hc:∀j u,(Q.ms[i].row)[j]?=some u->w.cell? ⟨g,i*5+j,none⟩=some u:=fun j u hj=>by
  have h1:=own_cells Ms.row 5 (fun _=>rfl) hm i hi j u (by rw[List.getElem!_eq_getElem?_getD,List.getElem?_eq_getElem hi];exact hj);simpa using h1
 exact⟨g,c,hv,World.block_lt_of_cell? _ _ (hc 0 _ rfl),hc⟩
theorem flies_any (Q:QM)(V:QV)(qb:Nat)(q:UInt8)(num rcv:Int)(w:World)(h:QR w qb V Q)(hl:Q.ms.length<=1000):
  zT 181 #[.pointer (some ⟨qb,0,none⟩),.agg #[.int .u8 (q.toNat:Int),.int .i64 num,.int .i64 rcv]] w (.bool (fliesQ Q num rcv)):=by
 obtain⟨wb,hwb⟩:∃wb,wb=w.alloc (.cells #[.int .u8 (q.toNat:Int),.int .i64 num,.int .i64 rcv] 139):=⟨_,rfl⟩;have HT:Hid (Tch [] w wb):=by rw[hwb];exact(Tch.refl _ _).alloc _
 have HBX:Hid (wb.heap[w.heap.size]?=some (.cells #[.int .u8 (q.toNat:Int),.int .i64 num,.int .i64 rcv] 139 (0,0))):=by rw[hwb];exact heap_alloc_new _ _
 have hq:=h.tch HT.out (by simp);have HF:Hid (zB 182 #[.pointer (some ⟨qb,0,none⟩),.int .i64 num] wb (.int .i64 (idxL (isN num) Q.ms))):=find_gen num qb V.m Q.ms wb (cell_qC hq.blk 7 _ rfl) hq.m (by omega);have HQ:=zH hq;have l1:=lt_of_block HBX.out;clear h hq;go_enter Tryz.func181,Tryz.ntmps181;go_wp2_with fail;rw[<-hwb];clear hwb;refine HF.out.mono ?_;rintro e w1 ⟨rfl,hb1⟩;have t1:=Tch.of_below hb1;have hq1:=HQ.out.tch t1 (by simp);have HT1:=zH (HT.out.trans t1 (by simp));have hbx1:=(hb1.block _ l1).trans HBX.out;have b2:w1.cell? ⟨w.heap.size,2,none⟩=some (.int .i64 rcv):=cell_qC hbx1 2 _ rfl;have c7:w1.cell? ⟨qb,7,none⟩=some V.m:=cell_qC hq1.blk 7 _ rfl
 by_cases hz:idxL (isN num) Q.ms<0
 ·have HFL:Hid (fliesQ Q num rcv=false):=by show _=_;unfold fliesQ;rw[idxL_no _ _ hz]
  have hd:decide ((0:Int)<=idxL (isN num) Q.ms)=false:=decide_eq_false (by omega);generalize idxL (isN num) Q.ms=z at*
  clear hq1 hb1 t1 hbx1 HF HQ HBX;go_wp2_with fail;go_quiet (fail);go_wp2_with fail;go_ret;exact⟨ret_bool HFL.out.symm,HT1.out.drewN _⟩
 ·obtain⟨i,hi⟩:∃i:Nat,idxL (isN num) Q.ms=(i:Int):=⟨_,(Int.toNat_of_nonneg (by omega)).symm⟩;obtain⟨hil,hp,hfi⟩:=idxL_fnd _ _ i hi;obtain⟨g,c,hv,hg,hc⟩:=hq1.msc i hil;have HFL:Hid (fliesQ Q num rcv=(decide (0<Q.ms[i].til)&&Q.ms[i].rcv == rcv)):=by show _=_;unfold fliesQ;rw[hfi]
  have hd:decide ((0:Int)<=(i:Int))=true:=decide_eq_true (by omega);have d3:w1.cell? ⟨g,i*5+3,none⟩=some (.int .i64 Q.ms[i].rcv):=hc 3 _ rfl;have d4:w1.cell? ⟨g,i*5+4,none⟩=some (.int .i64 Q.ms[i].til):=hc 4 _ rfl;rw[hi];rw[hv]at c7;generalize Q.ms[i].til=til at*
  generalize Q.ms[i].rcv=rc at*
  clear hc hz hi hp hfi hq1 hb1 t1 hbx1 HF HQ HBX
  by_cases ht:0<til
  ·have hdt:decide ((0:Int)<til)=true:=decide_eq_true ht;go_wp2_with fail;go_quiet (fail);go_wp2_with fail;go_ret;exact⟨ret_bool (by rw[HFL.out,hdt];simp),HT1.out.drewN _⟩
  ·have hdt:decide ((0:Int)<til)=false:=decide_eq_false ht;go_wp2_with fail;go_quiet (fail);go_wp2_with fail;go_ret;exact⟨ret_bool (by rw[HFL.out,hdt];simp),HT1.out.drewN _⟩
end Go.Proofs.YtbdobaapadlcjabGreatDoor
