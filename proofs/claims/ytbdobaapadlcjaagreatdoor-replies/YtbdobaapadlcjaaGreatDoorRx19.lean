import Derived.Test.YtbdobaapadlcjaaGreatDoorRx18
set_option maxRecDepth 8000
set_option maxHeartbeats 4000000
set_option linter.unusedVariables false
set_option linter.unusedSimpArgs false
namespace Go.Proofs.YtbdobaapadlcjaaGreatDoor
open Go.RowKit
variable {w W w':World}{B st i n:Nat}{col:Nat->Nat}{now:Int}{c:Nat->Option QM}{Z:Nat->Option BQ}{r:Wp.Rq}{s:ByteArray}
theorem send_full (c r:Wp.Rq)(y:Sl)(qb k nm cm:Nat)(am:Option Addr)(ds:List Dd)(now:Int)(rs vd at_:Value)(w:World)
  (hq:w.heap[qb]?=some (.cells (qC c (k:Int) (.slice am nm cm) rs vd at_) 191 (0,0)))(hbod:r.bod.size<=40)(hT:Tab w)(h2:2<w.heap.size)
  (ho:w.ownsRow 0 230 3 vd ds.length (ds.flatMap Dd.row))(hl:ds.length<=1000)(hid:idxL (isI (didS r)) ds<0)(d:Int)(hd:c.quo<=(nm:Int)/\d=5\/((nm:Int)<c.quo/\200<k)/\d=6)(hk:k<=1000):
  zT 164 #[.pointer (some ⟨qb,0,none⟩),.int .i64 now,.agg (cellsOf r y.v)] w (.tuple #[.slice none 0 0,.nilFunc,.int .i64 d]):=by
 have hlt:=lt_of_block hq;have HQ:=zH hq;have HID:Hid (∀W,Below w.heap.size w W->zB 216 #[.agg (cellsOf r y.v)] W (.string (didS r))):=fun W hb=>dedupID_any r y W (Nat.le_trans hbod (by decide)) (hT.below hb h2) (by have:=hb.size;omega)
 rw[zM r y]at HID;have hbz:¬(40:Int)<(r.bod.size:Int):=by omega
 have HD:=zH hd;have HOW:=zH ho;have hge:=idxL_ge (isI (didS r)) ds;have HII:Hid (idxL (isI (didS r)) ds=-1):=by show _=_;omega
 clear hq hT ho hid hge hd;generalize didS r=id at*
 rw[zM r y];go_enter Tryz.func164,Tryz.ntmps164;go_wp2_with fail;refine(HID.out _ (((((Below.refl _ _).alloc (Nat.le_refl _) _).alloc (by simp) _)).alloc (by simp;omega) _)).mono ?_;rintro e w4 ⟨rfl,hb4⟩;have t4:Tch [] w w4:=(sbox_tch w qb now #[.int .u8 (r.op.toNat:Int),.int .u8 (r.q.toNat:Int),.int .u8 (r.d.toNat:Int),.int .i64 r.vis,.int .i64 r.win,.int .i64 r.rcv,.int .i64 r.quo,.int .i64 r.mx,.int .i64 r.tic,.string r.grp,.string r.ded,.string r.bod,.string r.att,.string r.han,.slice y.a y.n y.c]).trans (Tch.of_below hb4) (by simp);have hb4':Below (sbox w qb now #[.int .u8 (r.op.toNat:Int),.int .u8 (r.q.toNat:Int),.int .u8 (r.d.toNat:Int),.int .i64 r.vis,.int .i64 r.win,.int .i64 r.rcv,.int .i64 r.quo,.int .i64 r.mx,.int .i64 r.tic,.string r.grp,.string r.ded,.string r.bod,.string r.att,.string r.han,.slice y.a y.n y.c]).heap.size (sbox w qb now #[.int .u8 (r.op.toNat:Int),.int .u8 (r.q.toNat:Int),.int .u8 (r.d.toNat:Int),.int .i64 r.vis,.int .i64 r.win,.int .i64 r.rcv,.int .i64 r.quo,.int .i64 r.mx,.int .i64 r.tic,.string r.grp,.string r.ded,.string r.bod,.string r.att,.string r.han,.slice y.a y.n y.c]) w4:=hb4;rw[sbox_size]at hb4';have z4:w.heap.size+3<=w4.heap.size:=by have:=hb4'.size;rw[sbox_size]at this;exact this
 have B0:=(hb4'.block _ (by omega)).trans (sbox_0 w qb now #[.int .u8 (r.op.toNat:Int),.int .u8 (r.q.toNat:Int),.int .u8 (r.d.toNat:Int),.int .i64 r.vis,.int .i64 r.win,.int .i64 r.rcv,.int .i64 r.quo,.int .i64 r.mx,.int .i64 r.tic,.string r.grp,.string r.ded,.string r.bod,.string r.att,.string r.han,.slice y.a y.n y.c]);have HB1:=zH ((hb4'.block _ (by omega)).trans (sbox_1 w qb now #[.int .u8 (r.op.toNat:Int),.int .u8 (r.q.toNat:Int),.int .u8 (r.d.toNat:Int),.int .i64 r.vis,.int .i64 r.win,.int .i64 r.rcv,.int .i64 r.quo,.int .i64 r.mx,.int .i64 r.tic,.string r.grp,.string r.ded,.string r.bod,.string r.att,.string r.han,.slice y.a y.n y.c]));have HB2:=zH ((hb4'.block _ (by omega)).trans (sbox_2 w qb now #[.int .u8 (r.op.toNat:Int),.int .u8 (r.q.toNat:Int),.int .u8 (r.d.toNat:Int),.int .i64 r.vis,.int .i64 r.win,.int .i64 r.rcv,.int .i64 r.quo,.int .i64 r.mx,.int .i64 r.tic,.string r.grp,.string r.ded,.string r.bod,.string r.att,.string r.han,.slice y.a y.n y.c]));have k0:=cell_of_one B0;have HB0:=zH B0;have hn0:w.heap.size<w4.heap.size:=by omega
 have hq4:(w4.alloc (.cells #[.string id] 9)).heap[qb]?=some (.cells (qC c (k:Int) (.slice am nm cm) rs vd at_) 191 (0,0)):=(Below.heap_alloc _ _ _ (by omega)).trans ((t4.block _ hlt (by simp)).trans HQ.out);have HF:Hid (zB 217 #[.pointer (some ⟨qb,0,none⟩),.string id] (w4.alloc (.cells #[.string id] 9)) (.int .i64 (-1))):=by
  have h:=findDedup_gen id qb _ ds (w4.alloc (.cells #[.string id] 9)) (cell_qC hq4 9 _ rfl) (own_tch HOW.out (t4.alloc _) (fun _ _=>by simp)) (by omega);rw[HII.out]at h;exact h
 have HQ4:=zH hq4;have T4:=zH t4;clear hb4 hb4' hq4 t4 B0;go_wp2_with fail;refine HF.out.mono ?_;rintro e w6 ⟨rfl,hb6⟩;have t6:Tch [] w w6:=(T4.out.alloc _).trans (Tch.of_below hb6) (by simp);have z6:=hb6.size;rw[World.size_alloc]at z6;have BL:∀i o,i<w4.heap.size->w4.heap[i]?=some o->w6.heap[i]?=some o:=fun i o hi ho=>(hb6.block i (by simp;omega)).trans ((Below.heap_alloc _ _ _ hi).trans ho)
 have HC0:Hid (w6.heap[w.heap.size]?=_):=BL _ _ hn0 HB0.out;have hq6:=(hb6.block qb (by simp;omega)).trans HQ4.out;have k6:w6.cell? ⟨w.heap.size,0,none⟩=some (.pointer (some ⟨qb,0,none⟩)):=cell_of_one HC0.out;have q5:w6.cell? ⟨qb,5,none⟩=some (.int .i64 c.quo):=cell_qC hq6 5 _ rfl;have q6:w6.cell? ⟨qb,6,none⟩=some (.int .i64 (k:Int)):=cell_qC hq6 6 _ rfl;have q7:w6.cell? ⟨qb,7,none⟩=some (.slice am nm cm):=cell_qC hq6 7 _ rfl;have T6:=zH t6;have z6':=zH z6;clear hb6 t6 k0 hq6 BL;rcases HD.out with ⟨hquo,rfl⟩|⟨⟨h1,h3⟩,rfl⟩
 ·clear HD;go_wp2_with fail;go_quiet (fail);go_wp2_with fail;go_ret3;exact⟨rfl,T6.out.drewN _⟩
 ·have hquo':¬c.quo<=(nm:Int):=by omega
  have hk':(200:Int)<(k:Int):=by omega
  clear HD h1 h3;go_wp2_with fail;go_quiet (fail);go_wp2_with fail;go_ret3;exact⟨rfl,T6.out.drewN _⟩
theorem send_quota (c r:Wp.Rq)(y:Sl)(qb k nm cm:Nat)(am:Option Addr)(ds:List Dd)(now:Int)(rs vd at_:Value)(w:World)
  (hq:w.heap[qb]?=some (.cells (qC c (k:Int) (.slice am nm cm) rs vd at_) 191 (0,0)))(hbod:r.bod.size<=40)(hT:Tab w)(h2:2<w.heap.size)
  (ho:w.ownsRow 0 230 3 vd ds.length (ds.flatMap Dd.row))(hl:ds.length<=1000)(hid:idxL (isI (didS r)) ds<0)(hquo:c.quo<=(nm:Int))(hk:k<=1000):
  zT 164 #[.pointer (some ⟨qb,0,none⟩),.int .i64 now,.agg (cellsOf r y.v)] w (.tuple #[.slice none 0 0,.nilFunc,.int .i64 5]):=
 send_full c r y qb k nm cm am ds now rs vd at_ w hq hbod hT h2 ho hl hid 5 (Or.inl ⟨hquo,rfl⟩) hk
theorem send_seq (c r:Wp.Rq)(y:Sl)(qb k nm cm:Nat)(am:Option Addr)(ds:List Dd)(now:Int)(rs vd at_:Value)(w:World)
  (hq:w.heap[qb]?=some (.cells (qC c (k:Int) (.slice am nm cm) rs vd at_) 191 (0,0)))(hbod:r.bod.size<=40)(hT:Tab w)(h2:2<w.heap.size)
  (ho:w.ownsRow 0 230 3 vd ds.length (ds.flatMap Dd.row))(hl:ds.length<=1000)(hid:idxL (isI (didS r)) ds<0)(hquo:(nm:Int)<c.quo)(hk:200<k/\k<=1000):
  zT 164 #[.pointer (some ⟨qb,0,none⟩),.int .i64 now,.agg (cellsOf r y.v)] w (.tuple #[.slice none 0 0,.nilFunc,.int .i64 6]):=
 send_full c r y qb k nm cm am ds now rs vd at_ w hq hbod hT h2 ho hl hid 6 (Or.inr ⟨⟨hquo,hk.1⟩,rfl⟩) hk.2
theorem send_body (r:Wp.Rq)(y:Sl)(qb:Nat)(now:Int)(w:World)(hbod:40<r.bod.size)(hb2:r.bod.size<=1000000):
  zT 164 #[.pointer (some ⟨qb,0,none⟩),.int .i64 now,.agg (cellsOf r y.v)] w (.tuple #[.slice none 0 0,.nilFunc,.int .i64 4]):=by
 have hbz:(40:Int)<(r.bod.size:Int):=by omega
 have HT:Hid (∀a b c,Tch [] w (((w.alloc a).alloc b).alloc c)):=fun a b c=>(((Tch.refl _ _).alloc _).alloc _).alloc _
 rw[zM r y];go_enter Tryz.func164,Tryz.ntmps164;go_wp2_with fail;go_ret3;exact⟨rfl,HT.out _ _ _⟩
theorem with_no (r:Wp.Rq)(y:Sl)(st:Nat)(bx:Value)(w:World)
  (hA:∀W,Tch [] w W->zE 200 #[.pointer (some ⟨st,0,none⟩),.int .u8 (r.q.toNat:Int)] W (.pointer none)):
  zT 207 #[.pointer (some ⟨st,0,none⟩),.agg (cellsOf r y.v),bx] w (.tuple #[.slice none 0 0,.nilFunc,.int .i64 2]):=by
 rw[zM r y];have HT:Hid (Tch [] w (w.alloc (.cells #[.int .u8 (r.op.toNat:Int),.int .u8 (r.q.toNat:Int),.int .u8 (r.d.toNat:Int),.int .i64 r.vis,.int .i64 r.win,.int .i64 r.rcv,.int .i64 r.quo,.int .i64 r.mx,.int .i64 r.tic,.string r.grp,.string r.ded,.string r.bod,.string r.att,.string r.han,.slice y.a y.n y.c] 27))):=(Tch.refl _ _).alloc _;have HA:Hid (Calls Tryz.prog 200 #[.pointer (some ⟨st,0,none⟩),.int .u8 (r.q.toNat:Int)] (w.alloc (.cells #[.int .u8 (r.op.toNat:Int),.int .u8 (r.q.toNat:Int),.int .u8 (r.d.toNat:Int),.int .i64 r.vis,.int .i64 r.win,.int .i64 r.rcv,.int .i64 r.quo,.int .i64 r.mx,.int .i64 r.tic,.string r.grp,.string r.ded,.string r.bod,.string r.att,.string r.han,.slice y.a y.n y.c] 27)) _):=hA _ HT.out;clear hA;go_enter Tryz.func207,Tryz.ntmps207;go_wp2_with fail;refine HA.out.mono ?_;rintro e w' ⟨rfl,h'⟩;have h'':=h'.symm;subst h'';go_wp2_with fail;go_ret3;exact⟨rfl,HT.out⟩
def TicBox (w:World)(gr:Nat)(tic:Int):Prop:=∃C:Array Value,w.heap[gr]?=some (.cells C 27 (0,0))/\C[8]?=some (.int .i64 tic)
theorem TicBox.cell {gr:Nat}{tic:Int}(h:TicBox w gr tic):w.cell? ⟨gr,8,none⟩=some (.int .i64 tic):=by
 obtain⟨C,h1,h2⟩:=h;exact cell_qC h1 8 _ h2
theorem ext_no (er:Int)(her:er=7\/er=8)(r:Wp.Rq)(y:Sl)(st:Nat)(w:World)
  (hF:∀W,Tch [] w W->zT 194 #[.pointer (some ⟨st,0,none⟩),.string r.han] W (.tuple #[.pointer none,.int .i64 0,.int .i64 er])):
  zT 160 #[.pointer (some ⟨st,0,none⟩),.agg (cellsOf r y.v)] w (.tuple #[.slice none 0 0,.nilFunc,.int .i64 er]):=by
 have HF:=zH hF;have hne:(er != 0)=true:=by rcases her with rfl|rfl<;>rfl
 clear hF;rw[zM r y];go_enter Tryz.func160,Tryz.ntmps160;go_wp2_with fail;refine(HF.out _ (((Tch.refl _ _).alloc _).alloc _)).mono ?_;rintro e w1 ⟨rfl,ht1⟩;have HT:Hid (Tch [] w w1):=(((Tch.refl [] w).alloc _).alloc _).trans ht1 (by simp);clear ht1 HF;go_wp2_with fail;go_ret3;exact⟨rfl,(HT.out.alloc _).alloc _⟩
theorem ext_ok (num:Int)(qb:Nat)(r:Wp.Rq)(y:Sl)(st:Nat)(w:World)
  (hF:∀W,Tch [] w W->zT 194 #[.pointer (some ⟨st,0,none⟩),.string r.han] W (.tuple #[.pointer (some ⟨qb,0,none⟩),.int .i64 num,.int .i64 0])):
  Calls Tryz.prog 160 #[.pointer (some ⟨st,0,none⟩),.agg (cellsOf r y.v)] w fun e w'=>∃gs gr gq gn,(e=.returned (.tuple #[.slice none 0 0,if r.tic=0 then .func (.func 202) #[] #[.pointer (some ⟨gq,0,none⟩),.pointer (some ⟨gn,0,none⟩),.pointer (some ⟨gs,0,none⟩)] else .func (.func 205) #[] #[.pointer (some ⟨gq,0,none⟩),.pointer (some ⟨gn,0,none⟩),.pointer (some ⟨gs,0,none⟩),.pointer (some ⟨gr,0,none⟩)],.int .i64 0]))/\Tch [] w w'/\w'.heap[gq]?=some (.cells #[.pointer (some ⟨qb,0,none⟩)] 152 (0,0))/\w'.heap[gn]?=some (.cells #[.int .i64 num] 3 (0,0))/\w'.heap[gs]?=some (.cells #[.pointer (some ⟨st,0,none⟩)] 96 (0,0))/\TicBox w' gr r.tic:=by
 have HF:=zH hF;clear hF;rw[zM r y];obtain⟨wb,hwb⟩:∃wb,wb=(w.alloc (.cells #[.pointer (some ⟨st,0,none⟩)] 96)).alloc (.cells #[.int .u8 (r.op.toNat:Int),.int .u8 (r.q.toNat:Int),.int .u8 (r.d.toNat:Int),.int .i64 r.vis,.int .i64 r.win,.int .i64 r.rcv,.int .i64 r.quo,.int .i64 r.mx,.int .i64 r.tic,.string r.grp,.string r.ded,.string r.bod,.string r.att,.string r.han,.slice y.a y.n y.c] 27):=⟨_,rfl⟩;have t1:Tch [] w wb:=by rw[hwb];exact((Tch.refl _ _).alloc _).alloc _
 have h1:wb.heap[w.heap.size]?=some (.cells #[.pointer (some ⟨st,0,none⟩)] 96 (0,0)):=by rw[hwb];exact heap_alloc2_old _ _ _
 have h2:wb.heap[w.heap.size+1]?=some (.cells #[.int .u8 (r.op.toNat:Int),.int .u8 (r.q.toNat:Int),.int .u8 (r.d.toNat:Int),.int .i64 r.vis,.int .i64 r.win,.int .i64 r.rcv,.int .i64 r.quo,.int .i64 r.mx,.int .i64 r.tic,.string r.grp,.string r.ded,.string r.bod,.string r.att,.string r.han,.slice y.a y.n y.c] 27 (0,0)):=by rw[hwb];exact heap_alloc2_new _ _ _
 have e1:=cell_of_one h1;have e8:wb.cell? ⟨w.heap.size+1,8,none⟩=some (.int .i64 r.tic):=cell_qC h2 8 _ rfl;have e13:wb.cell? ⟨w.heap.size+1,13,none⟩=some (.string r.han):=cell_qC h2 13 _ rfl;have l1:=lt_of_block h1;have l2:=lt_of_block h2;have H1:=zH h1;have T1:=zH t1;have H2:Hid (TicBox wb (w.heap.size+1) r.tic):=⟨_,h2,rfl⟩;have HF1:=zH (HF.out wb t1);clear h1 h2 t1 HF;go_enter Tryz.func160,Tryz.ntmps160
 go_upto_region 1 with fail
 rw[<-hwb];clear hwb;go_wp2_with fail;refine HF1.out.mono ?_;rintro e w1 ⟨rfl,ht1⟩;have HT:=zH (T1.out.trans ht1 (by simp));have H1':=zH ((ht1.block _ l1 (by simp)).trans H1.out);have q8:=(ht1.cell (a:=⟨w.heap.size+1,8,none⟩) l2 (by simp)).trans e8;have l3:w.heap.size+1<w1.heap.size:=by have:=ht1.size;omega
 have H2':Hid (TicBox w1 (w.heap.size+1) r.tic):=by
  obtain⟨C,k1,k2⟩:=H2.out;exact⟨C,(ht1.block _ l2 (by simp)).trans k1,k2⟩
 clear ht1 HF1 H1 H2 e1 e8 e13 l1 l2 T1;obtain⟨w2,hw2⟩:∃w2,w2=(w1.alloc (.cells #[.pointer (some ⟨qb,0,none⟩)] 152)).alloc (.cells #[.int .i64 num] 3):=⟨_,rfl⟩;have p8:w2.cell? ⟨w.heap.size+1,8,none⟩=some (.int .i64 r.tic):=by rw[hw2];exact Lib.cell?_alloc_some _ (Lib.cell?_alloc_some _ q8)
 have HFI:Hid (Tch [] w w2/\w2.heap[w1.heap.size]?=some (.cells #[.pointer (some ⟨qb,0,none⟩)] 152 (0,0))/\w2.heap[w1.heap.size+1]?=some (.cells #[.int .i64 num] 3 (0,0))/\w2.heap[w.heap.size]?=some (.cells #[.pointer (some ⟨st,0,none⟩)] 96 (0,0))/\TicBox w2 (w.heap.size+1) r.tic):=by
  refine⟨by rw[hw2];exact(HT.out.alloc _).alloc _,by rw[hw2];exact heap_alloc2_old _ _ _,by rw[hw2];exact heap_alloc2_new _ _ _,?_,?_⟩
  ·rw[hw2];exact(Below.heap_alloc _ _ _ (by simp;omega)).trans ((Below.heap_alloc _ _ _ (by omega)).trans H1'.out)
  ·obtain⟨C,k1,k2⟩:=H2'.out;exact⟨C,by rw[hw2];exact(Below.heap_alloc _ _ _ (by simp;omega)).trans ((Below.heap_alloc _ _ _ (by omega)).trans k1),k2⟩
 clear HT H1' H2' q8
 go_upto_region 2 with fail
 rw[<-hw2];clear hw2
 by_cases ht0:r.tic=0
 ·rw[ht0]at p8 HFI;go_wp2_with fail;go_ret3;exact⟨w.heap.size,w.heap.size+1,w1.heap.size,w1.heap.size+1,rfl,HFI.out⟩
 ·have hb:(r.tic == 0)=false:=by simpa using ht0
  go_wp2_with fail;go_ret3;exact⟨w.heap.size,w.heap.size+1,w1.heap.size,w1.heap.size+1,rfl,HFI.out⟩
theorem extB_walk (K:World->Prop)(dv:Value)(num:Int)(st qb gq gn gs:Nat)(w:World)(hq:w.heap[gq]?=some (.cells #[.pointer (some ⟨qb,0,none⟩)] 152 (0,0)))(hn:w.heap[gn]?=some (.cells #[.int .i64 num] 3 (0,0)))(hs:w.heap[gs]?=some (.cells #[.pointer (some ⟨st,0,none⟩)] 96 (0,0)))
  (hD:∀n,Calls Tryz.prog 204 #[.pointer (some ⟨st,0,none⟩),.pointer (some ⟨qb,0,none⟩)] (w.drewN n) fun e w'=>e=.returned dv/\w'=w.drewN n)
  (hB:∀n,Calls Tryz.prog 203 #[.pointer (some ⟨qb,0,none⟩),.int .i64 num,dv] (w.drewN n) fun e w'=>e=.returned (.tuple #[])/\K w'/\∃S,Tch S w w'/\gq∉S/\gn∉S/\gs∉S):
  Calls Tryz.prog 202 #[.pointer (some ⟨gq,0,none⟩),.pointer (some ⟨gn,0,none⟩),.pointer (some ⟨gs,0,none⟩)] w fun e w'=>e=.returned (.tuple #[])/\K w':=by
 have c0:=cell_of_one hq;have c1:=cell_of_one hn;have c2:=cell_of_one hs;have l0:=lt_of_block hq;have l1:=lt_of_block hn;have l2:=lt_of_block hs;have HD:=zH (hD 1);have HB:=zH (hB 1);clear hD hB hq hn hs;go_enter Tryz.func202,Tryz.ntmps202
 go_region_held3 (fun w'=>w'.cell? ⟨gq,0,none⟩=some (.pointer (some ⟨qb,0,none⟩))/\w'.cell? ⟨gn,0,none⟩=some (.int .i64 num)/\w'.cell? ⟨gs,0,none⟩=some (.pointer (some ⟨st,0,none⟩))) (go_keep) (first|(go_at_call 204;refine HD.out.mono ?_;rintro e w1 ⟨rfl,h9⟩;have h8:=h9.symm;subst h8)|(go_at_call 203;refine HB.out.mono ?_;rintro e w2 ⟨rfl,hk,S,hS,s0,s1,s2⟩;have HK:Hid (K w2):=hk;have d0:w2.cell? ⟨gq,0,none⟩=some (.pointer (some ⟨qb,0,none⟩)):=(hS.cell (a:=⟨gq,0,none⟩) l0 s0).trans c0;have d1:w2.cell? ⟨gn,0,none⟩=some (.int .i64 num):=(hS.cell (a:=⟨gn,0,none⟩) l1 s1).trans c1;have d2:w2.cell? ⟨gs,0,none⟩=some (.pointer (some ⟨st,0,none⟩)):=(hS.cell (a:=⟨gs,0,none⟩) l2 s2).trans c2;clear hk hS s0 s1 s2))
 all_goals (go_wp2_with fail;go_end0;exact⟨rfl,HK.out⟩)
theorem extT_walk (K:World->Prop)(num now tic:Int)(st qb gq gn gs gr:Nat)(w:World)(hq:w.heap[gq]?=some (.cells #[.pointer (some ⟨qb,0,none⟩)] 152 (0,0)))(hn:w.heap[gn]?=some (.cells #[.int .i64 num] 3 (0,0)))(hs:w.heap[gs]?=some (.cells #[.pointer (some ⟨st,0,none⟩)] 96 (0,0)))(hr:TicBox w gr tic)(c0:w.cell? ⟨st,0,none⟩=some (.int .i64 now))(hb:0<=now+tic/\now+tic<=1000000)
  (hB:∀n,Calls Tryz.prog 206 #[.pointer (some ⟨qb,0,none⟩),.int .i64 num,.int .i64 (now+tic)] (w.drewN n) fun e w'=>e=.returned (.tuple #[])/\K w'/\∃S,Tch S w w'/\gq∉S/\gn∉S/\gs∉S/\gr∉S/\st∉S):
  Calls Tryz.prog 205 #[.pointer (some ⟨gq,0,none⟩),.pointer (some ⟨gn,0,none⟩),.pointer (some ⟨gs,0,none⟩),.pointer (some ⟨gr,0,none⟩)] w fun e w'=>e=.returned (.tuple #[])/\K w':=by
 have a0:=cell_of_one hq;have a1:=cell_of_one hn;have a2:=cell_of_one hs;have a3:=hr.cell;have l0:=lt_of_block hq;have l1:=lt_of_block hn;have l2:=lt_of_block hs;have l3:gr<w.heap.size:=World.block_lt_of_cell? _ _ a3;have l4:st<w.heap.size:=World.block_lt_of_cell? _ _ c0;have hwr:IntKind.i64.wrap (now+tic)=now+tic:=by rw[IntKind.wrap_i64];omega
 have HB:=zH (hB 1);clear hB hq hn hs hr;go_enter Tryz.func205,Tryz.ntmps205
 go_region_held3 (fun w'=>w'.cell? ⟨gq,0,none⟩=some (.pointer (some ⟨qb,0,none⟩))/\w'.cell? ⟨gn,0,none⟩=some (.int .i64 num)/\w'.cell? ⟨gs,0,none⟩=some (.pointer (some ⟨st,0,none⟩))/\w'.cell? ⟨gr,8,none⟩=some (.int .i64 tic)/\w'.cell? ⟨st,0,none⟩=some (.int .i64 now)) (go_keep) (first|(go_at_call 206;refine HB.out.mono ?_;rintro e w2 ⟨rfl,hk,S,hS,s0,s1,s2,s3,s4⟩;have HK:Hid (K w2):=hk;have d0:w2.cell? ⟨gq,0,none⟩=some (.pointer (some ⟨qb,0,none⟩)):=(hS.cell (a:=⟨gq,0,none⟩) l0 s0).trans a0;have d1:w2.cell? ⟨gn,0,none⟩=some (.int .i64 num):=(hS.cell (a:=⟨gn,0,none⟩) l1 s1).trans a1;have d2:w2.cell? ⟨gs,0,none⟩=some (.pointer (some ⟨st,0,none⟩)):=(hS.cell (a:=⟨gs,0,none⟩) l2 s2).trans a2;have d3:w2.cell? ⟨gr,8,none⟩=some (.int .i64 tic):=(hS.cell (a:=⟨gr,8,none⟩) l3 s3).trans a3;have d4:w2.cell? ⟨st,0,none⟩=some (.int .i64 now):=(hS.cell (a:=⟨st,0,none⟩) l4 s4).trans c0;clear hk hS s0 s1 s2 s3 s4))
 all_goals (go_wp2_with fail;go_end0;exact⟨rfl,HK.out⟩)
theorem eg160x:∀args w,(callFunc 160 args).run Tryz.prog w=.ok (.enter 160 args) w:=enters_of Tryz.func160 (by kernel_rfl) rfl
theorem eg202x:∀args w,(callFunc 202 args).run Tryz.prog w=.ok (.enter 202 args) w:=enters_of Tryz.func202 (by kernel_rfl) rfl
theorem eg205x:∀args w,(callFunc 205 args).run Tryz.prog w=.ok (.enter 205 args) w:=enters_of Tryz.func205 (by kernel_rfl) rfl
theorem ref_ans {x b:Nat}{J:World->Prop}(hb:Bk B w x st b now c col)(hB:B<=w.heap.size)(er:UInt8)(h0:0<er.toNat)(ht:Tch [] w W)(ht':Tch [] W w'){e:Ending}(he:e=.returned (.tuple #[.slice none 0 0,.nilFunc,.int .i64 (er.toNat:Int)])):
  Ans B J (fun t w'=>t=⟨#[er]⟩/\Did B x st b w col now c w') e w':=
 .inl ⟨er,h0,he,fun w2 ht2=>⟨rfl,did_same hb hB ((ht.trans ht' (by simp)).trans ht2 (by simp))⟩⟩
theorem op_T9 (B:Nat)(r:Wp.Rq)(x st b:Nat)(now:Int)(c:Nat->Option QM)(col:Nat->Nat)(w:World)(hE:Env B w)(hb:Bk B w x st b now c col)(hop:r.op=84)(hn:0<=r.tic/\r.tic<=1000/\60000<now+r.tic)(Z:Nat->Option BQ)(o:Option ByteArray)(room:Int)(hs:SG B w st b now Z col)(hc:ctZ Z=c)(W:World)(y:Sl)(ht:Tch [] w W):
  Calls Tryz.prog 62 #[.pointer (some ⟨st,0,none⟩),.agg (cellsOf r y.v)] W fun e w'=>Tch [] W w'/\PlG B (fun w'=>JgO B w col w' x st o room) (fun t w'=>t=⟨#[9]⟩/\Did B x st b w col now c w') e w':=by
 refine plan_p B _ _ r y st b 19 165 now _ W (by rw[hop];rfl) (by decide) (hs.tch ht).stb rfl eg165 ?_;intro W1 ht1;have tW:=ht.trans ht1 (by simp);have hnw:=hb.nw;refine(goOn_late r y st now W1 (hs.tch tW).stb.now ⟨hnw.1,hn.1,hn.2.2,by omega⟩).mono ?_;rintro e w1 ⟨he,ht2⟩;exact⟨ht2,ref_ans hb hE.size 9 (by decide) tW ht2 he⟩
theorem op_Sf (B:Nat)(r:Wp.Rq)(x st b i p num:Nat)(now:Int)(c:Nat->Option QM)(col:Nat->Nat)(w:World)(hE:Env B w)(hb:Bk B w x st b now c col)(hop:r.op=83)(hi:i<8)(hq:r.q.toNat=97+i)(Q:QM)(hQ:c i=some Q)(hbod:r.bod.size<=40)(hid:idxL (isI (didS r)) Q.ds=(p:Int))(hp:p<Q.ds.length)(hnum:Q.ds[p].num=(num:Nat))
  (Z:Nat->Option BQ)(o:Option ByteArray)(room:Int)(hs:SG B w st b now Z col)(hc:ctZ Z=c)(W:World)(y:Sl)(ht:Tch [] w W):
  Calls Tryz.prog 62 #[.pointer (some ⟨st,0,none⟩),.agg (cellsOf r y.v)] W fun e w'=>Tch [] W w'/\PlG B (fun w'=>JgO B w col w' x st o room) (fun t w'=>t=okL (lowB num 4)/\Did B x st b w col now c w') e w':=by
 have hQ':ctZ Z i=some Q:=by rw[hc];exact hQ
 obtain⟨z,hz,hzq⟩:=ctZ_get hQ';have hW:=hb.wf i Q hi hQ;have hdl:=hW.dl;have hdk:=(hW.dok _ (List.getElem_mem hp)).2.1;have hnx:=hW.nx;refine plan_w B _ _ r y st b 18 207 (b+3) now _ W (by rw[hop];rfl) (by decide) (hs.tch ht).stb rfl eg207 ?_;intro W1 ht1;have tW:=ht.trans ht1 (by simp);have hsW:=hs.tch tW;refine within_g B _ _ r y st b i 164 (b+3) z.qb now _ W1 hq hi hsW.stb (by show ptrV (ptZ Z i)=_;unfold ptZ;rw[hz];rfl) (hsW.tb 3 164 (by decide)) eg164 ?_;intro W2 ht2;have tW2:=tW.trans ht2 (by simp);have hqW:QR W2 z.qb z.V Q:=by rw[<-hzq];exact(hs.tch tW2).qr i z hi hz
 obtain⟨gd,cd,hvd⟩:∃g cp,z.V.d=.slice (some ⟨g,0,none⟩) Q.ds.length cp:=by
  rcases hqW.d.2 with ⟨_,h0⟩|⟨g,cap,cur,h0,_⟩
  ·omega
  ·exact⟨_,_,h0⟩
 have hbk:=hqW.blk;have hd:=hqW.d;rw[hvd]at hbk hd;have hz2:=tW2.size;have hE3:=hE.three;have hES:=hE.size;refine(sendg_found Q.c r y z.qb gd Q.ds.length cd p num Q.ds now (Q.next:Int) z.V.m z.V.r z.V.a W2 hbk hbod (hE.tab.tch tW2 (by simp) (by omega)) (by omega) hd rfl (by omega) hid hp hnum (by omega)).mono ?_;rintro e w' ⟨av,rfl,hown,hb'⟩;have t1:=Tch.of_below hb';exact⟨t1,.inr ⟨av,_,lowB num 4,rfl,.inr ⟨by rw[lowB_length];omega,by rw[lowB_length];omega,Rdb.of_own hown (by rw[lowB_length];omega)⟩,fun w1 ht1=>.inl ⟨rfl,fun w3 ht3=>⟨rfl,did_same hb hE.size (((tW2.trans t1 (by simp)).trans ht1 (by simp)).trans ht3 (by simp))⟩⟩⟩⟩
theorem op_Sr (B:Nat)(r:Wp.Rq)(x st b i:Nat)(now:Int)(c:Nat->Option QM)(col:Nat->Nat)(w:World)(hE:Env B w)(hb:Bk B w x st b now c col)(hop:r.op=83)(hi:i<8)(hq:r.q.toNat=97+i)(Q:QM)(hQ:c i=some Q)(hid:idxL (isI (didS r)) Q.ds<0)(hbod:r.bod.size<=40)(er:UInt8)(her:er=5/\Q.c.quo<=(Q.ms.length:Int)\/er=6/\(Q.ms.length:Int)<Q.c.quo/\200<Q.next)
  (Z:Nat->Option BQ)(o:Option ByteArray)(room:Int)(hs:SG B w st b now Z col)(hc:ctZ Z=c)(W:World)(y:Sl)(ht:Tch [] w W):
  Calls Tryz.prog 62 #[.pointer (some ⟨st,0,none⟩),.agg (cellsOf r y.v)] W fun e w'=>Tch [] W w'/\PlG B (fun w'=>JgO B w col w' x st o room) (fun t w'=>t=⟨#[er]⟩/\Did B x st b w col now c w') e w':=by
 have hQ':ctZ Z i=some Q:=by rw[hc];exact hQ
 obtain⟨z,hz,hzq⟩:=ctZ_get hQ';have hW:=hb.wf i Q hi hQ;have hdl:=hW.dl;have hnx:=hW.nx;refine plan_w B _ _ r y st b 18 207 (b+3) now _ W (by rw[hop];rfl) (by decide) (hs.tch ht).stb rfl eg207 ?_;intro W1 ht1;have tW:=ht.trans ht1 (by simp);have hsW:=hs.tch tW;refine within_g B _ _ r y st b i 164 (b+3) z.qb now _ W1 hq hi hsW.stb (by show ptrV (ptZ Z i)=_;unfold ptZ;rw[hz];rfl) (hsW.tb 3 164 (by decide)) eg164 ?_;intro W2 ht2;have tW2:=tW.trans ht2 (by simp);have hqW:QR W2 z.qb z.V Q:=by rw[<-hzq];exact(hs.tch tW2).qr i z hi hz
 obtain⟨am,cm,hvm⟩:=own_shape hqW.m;have hbk:=hqW.blk;rw[hvm]at hbk;have hz2:=tW2.size;have hE3:=hE.three;have hES:=hE.size;rcases her with ⟨rfl,hx⟩|⟨rfl,hx,hk⟩
 ·refine(send_quota Q.c r y z.qb Q.next Q.ms.length cm am Q.ds now z.V.r z.V.d z.V.a W2 hbk hbod (hE.tab.tch tW2 (by simp) (by omega)) (by omega) hqW.d (by omega) hid hx (by omega)).mono ?_;rintro e w' ⟨he,ht'⟩;exact⟨ht',ref_ans hb hE.size 5 (by decide) tW2 ht' he⟩
 ·refine(send_seq Q.c r y z.qb Q.next Q.ms.length cm am Q.ds now z.V.r z.V.d z.V.a W2 hbk hbod (hE.tab.tch tW2 (by simp) (by omega)) (by omega) hqW.d (by omega) hid hx ⟨hk,by omega⟩).mono ?_;rintro e w' ⟨he,ht'⟩;exact⟨ht',ref_ans hb hE.size 6 (by decide) tW2 ht' he⟩
theorem op_A8 (B:Nat)(r:Wp.Rq)(x st b i num rcv:Nat)(now:Int)(c:Nat->Option QM)(col:Nat->Nat)(w:World)(hE:Env B w)(hb:Bk B w x st b now c col)(hop:r.op=65\/r.op=69)(hi:i<8)(hh:HanIs r.han i num rcv)(Q:QM)(hQ:c i=some Q)(hfl:fliesQ Q num rcv=false)
  (Z:Nat->Option BQ)(o:Option ByteArray)(room:Int)(hs:SG B w st b now Z col)(hc:ctZ Z=c)(W:World)(y:Sl)(ht:Tch [] w W):
  Calls Tryz.prog 62 #[.pointer (some ⟨st,0,none⟩),.agg (cellsOf r y.v)] W fun e w'=>Tch [] W w'/\PlG B (fun w'=>JgO B w col w' x st o room) (fun t w'=>t=⟨#[8]⟩/\Did B x st b w col now c w') e w':=by
 have hQ':ctZ Z i=some Q:=by rw[hc];exact hQ
 obtain⟨z,hz,hzq⟩:=ctZ_get hQ';have hW:=hb.wf i Q hi hQ;have hml:=hW.ml;have hF:∀W1,Tch [] w W1->zT 194 #[.pointer (some ⟨st,0,none⟩),.string r.han] W1 (.tuple #[.pointer none,.int .i64 0,.int .i64 8]):=fun W1 t1=>by
  have h1:=find_sg B r.han st b i num rcv now Z col W1 (hE.tch t1 (by simp)) hh hi (hs.tch t1) z hz (by rw[hzq];omega);rw[hzq,hfl]at h1;exact h1
 rcases hop with hop|hop
 ·refine plan_p B _ _ r y st b 0 157 now _ W (by rw[hop];rfl) (by decide) (hs.tch ht).stb rfl eg157 ?_;intro W1 ht1;have tW:=ht.trans ht1 (by simp);refine(ack_no 8 (.inr rfl) r y st W1 (fun W2 ht2=>hF W2 (tW.trans ht2 (by simp)))).mono ?_;rintro e w1 ⟨he,ht2⟩;exact⟨ht2,ref_ans hb hE.size 8 (by decide) tW ht2 he⟩
 ·refine plan_p B _ _ r y st b 4 160 now _ W (by rw[hop];rfl) (by decide) (hs.tch ht).stb rfl eg160x ?_;intro W1 ht1;have tW:=ht.trans ht1 (by simp);refine(ext_no 8 (.inr rfl) r y st W1 (fun W2 ht2=>hF W2 (tW.trans ht2 (by simp)))).mono ?_;rintro e w1 ⟨he,ht2⟩;exact⟨ht2,ref_ans hb hE.size 8 (by decide) tW ht2 he⟩
def extC (c:Nat->Option QM)(i:Nat)(Q:QM)(num:Nat)(now tic:Int):Nat->Option QM:=if tic=0 then backC c i num else setC c i (some (tilQ Q num (now+tic)))
theorem op_E (B:Nat)(r:Wp.Rq)(x st b i num rcv:Nat)(now:Int)(c:Nat->Option QM)(col:Nat->Nat)(w:World)(hE:Env B w)(hb:Bk B w x st b now c col)(hop:r.op=69)(hi:i<8)(hh:HanIs r.han i num rcv)(Q:QM)(hQ:c i=some Q)(hfl:fliesQ Q num rcv=true)(htic:0<=r.tic/\r.tic<=1000)
  (Z:Nat->Option BQ)(o:Option ByteArray)(room:Int)(hs:SG B w st b now Z col)(hc:ctZ Z=c)(W:World)(y:Sl)(ht:Tch [] w W):
  Calls Tryz.prog 62 #[.pointer (some ⟨st,0,none⟩),.agg (cellsOf r y.v)] W fun e w'=>Tch [] W w'/\PlG B (fun w'=>JgO B w col w' x st o room) (fun t w'=>t=okL []/\Did B x st b w col now (extC c i Q num now r.tic) w') e w':=by
 have hQ':ctZ Z i=some Q:=by rw[hc];exact hQ
 obtain⟨z,hz,hzq⟩:=ctZ_get hQ';have hW:=hb.wf i Q hi hQ;have hml:=hW.ml;have hnw:=hb.nw;obtain⟨m,hf,hft,hfr⟩:=flies_get hfl;refine plan_p B _ _ r y st b 4 160 now _ W (by rw[hop];rfl) (by decide) (hs.tch ht).stb rfl eg160x ?_;intro W1 ht1;have tW:=ht.trans ht1 (by simp);refine(ext_ok (num:Int) z.qb r y st W1 (fun W2 ht2=>?_)).mono ?_
 ·have tW2:=tW.trans ht2 (by simp);have h1:=find_sg B r.han st b i num rcv now Z col W2 (hE.tch tW2 (by simp)) hh hi (hs.tch tW2) z hz (by rw[hzq];omega);rw[hzq,hfl]at h1;exact h1
 ·rintro e w1 ⟨gs,gr,gq,gn,he,ht2,hgq,hgn,hgs,hgr⟩
  by_cases h0:r.tic=0
  ·rw[if_pos h0]at he;subst he;refine⟨ht2,.inr ⟨_,_,[],rfl,.inl ⟨rfl,rfl⟩,fun w2 ht3=>.inr ⟨202,_,rfl,eg202x,fun w3 w4 ht4 hf4 hJ4=>?_⟩⟩⟩
   have t23:=ht3.trans ht4 (by simp);have t3:=(tW.trans ht2 (by simp)).trans t23 (by simp);have hs4:=hs.lay t3 hf4;have hz3:=t3.size;have hz4:=hf4.size;have hES:=hE.size;have kgq:=hf4.keep _ _ _ ((t23.block _ (lt_of_block hgq) (by simp)).trans hgq) (by decide);have kgn:=hf4.keep _ _ _ ((t23.block _ (lt_of_block hgn) (by simp)).trans hgn) (by decide);have kgs:=hf4.keep _ _ _ ((t23.block _ (lt_of_block hgs) (by simp)).trans hgs) (by decide);have hdr:∀n,Tch [] w4 (w4.drewN n):=fun n=>(Tch.refl [] w4).drewN n
   have hap:∀{k:Nat} {C:Array Value} {t:TypeId} {S:List Nat},w4.heap[k]?=some (.cells C t (0,0))->t∉TQ->(∀k∈S,allK Z k)->k∉S:=fun {k C t S} hk hT hS hm=>by
    obtain⟨j,y,hj,hy,hky⟩:=hS k hm;exact(hs4.qr j y hj hy).nty hk hT hky
   have e0:extC c i Q num now r.tic=backC c i num:=if_pos h0;refine extB_walk _ (dvZ Z z.Q.c) (num:Int) st z.qb gq gn gs w4 kgq kgn kgs (fun n=>deadOf_sg (hs4.tch (hdr n)) hi hz (by rw[hzq];exact hW.c.d)) (fun n=>?_);refine(back_sg B st b i now Z col (w4.drewN n) (hs4.tch (hdr n)) (by show B<=w4.heap.size;omega) hi z hz num m (by rw[hzq];exact hf) (by rw[hzq];exact hW.c.d) (by rw[hc];exact hb.wf.bd)).mono ?_;rintro e w5 ⟨rfl,Z',col',k1,k2,k3,k4,k5,⟨S,k6,k7⟩,k8⟩;rw[hc]at k2;have k6':Tch S w4 w5:=((hdr n).sub (by simp)).trans k6 (fun k hk _=>hk);refine⟨rfl,⟨rfl,?_⟩,S,k6',hap kgq (by decide) k7,hap kgn (by decide) k7,hap kgs (by decide) k7⟩;rw[e0];have hwf:=(back_wf hb.wf hi hQ hf hft).1;exact did_of (now:=now) (Z:=Z) hE.size t3 hf4 hb.fut hJ4 k1 k2 hwf hnw ⟨fun k hk=>k4.1 k hk,k4.2⟩ ((FqT.of_nil col (hdr n) (by omega)).trans (Agr.refl _ _) k5)
  ·rw[if_neg h0]at he;subst he;refine⟨ht2,.inr ⟨_,_,[],rfl,.inl ⟨rfl,rfl⟩,fun w2 ht3=>.inr ⟨205,_,rfl,eg205x,fun w3 w4 ht4 hf4 hJ4=>?_⟩⟩⟩
   have t23:=ht3.trans ht4 (by simp);have t3:=(tW.trans ht2 (by simp)).trans t23 (by simp);have hs4:=hs.lay t3 hf4;have hz3:=t3.size;have hz4:=hf4.size;have hES:=hE.size;have kgq:=hf4.keep _ _ _ ((t23.block _ (lt_of_block hgq) (by simp)).trans hgq) (by decide);have kgn:=hf4.keep _ _ _ ((t23.block _ (lt_of_block hgn) (by simp)).trans hgn) (by decide);have kgs:=hf4.keep _ _ _ ((t23.block _ (lt_of_block hgs) (by simp)).trans hgs) (by decide);have kgr:TicBox w4 gr r.tic:=by
    obtain⟨C,k1,k2⟩:=hgr;exact⟨C,hf4.keep _ _ _ ((t23.block _ (lt_of_block k1) (by simp)).trans k1) (by decide),k2⟩
   have hdr:∀n,Tch [] w4 (w4.drewN n):=fun n=>(Tch.refl [] w4).drewN n
   have e0:extC c i Q num now r.tic=setC c i (some (tilQ Q num (now+r.tic))):=if_neg h0;obtain⟨p,hp,_⟩:=find_idx hf;refine extT_walk _ (num:Int) now r.tic st z.qb gq gn gs gr w4 kgq kgn kgs kgr hs4.stb.now ⟨by omega,by omega⟩ (fun n=>?_);have hqr:QR (w4.drewN n) z.qb z.V Q:=by rw[<-hzq];exact(hs4.tch (hdr n)).qr i z hi hz
   refine(extend_any Q z.V z.qb num (now+r.tic) (w4.drewN n) hqr (by omega) (by rw[hp];omega)).mono ?_;rintro e w5 ⟨rfl,hl⟩;have hl4:QL w4 w5 z.qb z.V (tilQ Q num (now+r.tic)):=by
    obtain⟨V',a1,a2,a3⟩:=hl;exact⟨V',a1,((hdr n).sub (by simp)).trans a2 (fun k hk _=>hk),a3⟩
   have hsn:=hs4.updn (by omega) hi hz hl4;obtain⟨V',a1,a2,a3⟩:=hl4;have hq4:QR w4 z.qb z.V Q:=by rw[<-hzq];exact hs4.qr i z hi hz
   have kgr':gr∉qbl z.qb z.V:=by
    obtain⟨C,k1,k2⟩:=kgr;exact hq4.nty k1 (by decide)
   refine⟨rfl,⟨rfl,?_⟩,qbl z.qb z.V,a2,hq4.nty kgq (by decide),hq4.nty kgn (by decide),hq4.nty kgs (by decide),kgr',hq4.nty hs4.stb (by decide)⟩;rw[e0];rw[hc]at hsn;exact did_n hE.size t3 hf4 hb.fut hJ4 hsn (hb.wf.set (hW.ext hf hft ⟨by omega,by omega⟩)) hnw
theorem rem_no (r:Wp.Rq)(y:Sl)(st:Nat)(w:World)
  (hA:∀W,Tch [] w W->zE 200 #[.pointer (some ⟨st,0,none⟩),.int .u8 (r.q.toNat:Int)] W (.pointer none)):
  zT 167 #[.pointer (some ⟨st,0,none⟩),.agg (cellsOf r y.v)] w (.tuple #[.slice none 0 0,.nilFunc,.int .i64 2]):=by
 rw[zM r y];have HT:Hid (Tch [] w ((w.alloc (.cells #[.pointer (some ⟨st,0,none⟩)] 96)).alloc (.cells #[.int .u8 (r.op.toNat:Int),.int .u8 (r.q.toNat:Int),.int .u8 (r.d.toNat:Int),.int .i64 r.vis,.int .i64 r.win,.int .i64 r.rcv,.int .i64 r.quo,.int .i64 r.mx,.int .i64 r.tic,.string r.grp,.string r.ded,.string r.bod,.string r.att,.string r.han,.slice y.a y.n y.c] 27))):=((Tch.refl _ _).alloc _).alloc _;have HA:Hid (Calls Tryz.prog 200 #[.pointer (some ⟨st,0,none⟩),.int .u8 (r.q.toNat:Int)] ((w.alloc (.cells #[.pointer (some ⟨st,0,none⟩)] 96)).alloc (.cells #[.int .u8 (r.op.toNat:Int),.int .u8 (r.q.toNat:Int),.int .u8 (r.d.toNat:Int),.int .i64 r.vis,.int .i64 r.win,.int .i64 r.rcv,.int .i64 r.quo,.int .i64 r.mx,.int .i64 r.tic,.string r.grp,.string r.ded,.string r.bod,.string r.att,.string r.han,.slice y.a y.n y.c] 27)) _):=hA _ HT.out;clear hA;go_enter Tryz.func167,Tryz.ntmps167;go_wp2_with fail;refine HA.out.mono ?_;rintro e w' ⟨rfl,h'⟩;have h'':=h'.symm;subst h'';go_wp2_with fail;go_ret3;exact⟨rfl,HT.out⟩
theorem rem_ok (r:Wp.Rq)(y:Sl)(st qb:Nat)(w:World)
  (hA:∀W,Tch [] w W->zE 200 #[.pointer (some ⟨st,0,none⟩),.int .u8 (r.q.toNat:Int)] W (.pointer (some ⟨qb,0,none⟩))):
  Calls Tryz.prog 167 #[.pointer (some ⟨st,0,none⟩),.agg (cellsOf r y.v)] w fun e w'=>∃gs gr,e=.returned (.tuple #[.slice none 0 0,.func (.func 222) #[] #[.pointer (some ⟨gs,0,none⟩),.pointer (some ⟨gr,0,none⟩)],.int .i64 0])/\Tch [] w w'/\w'.heap[gs]?=some (.cells #[.pointer (some ⟨st,0,none⟩)] 96 (0,0))/\w'.heap[gr]?=some (.cells #[.int .u8 (r.op.toNat:Int),.int .u8 (r.q.toNat:Int),.int .u8 (r.d.toNat:Int),.int .i64 r.vis,.int .i64 r.win,.int .i64 r.rcv,.int .i64 r.quo,.int .i64 r.mx,.int .i64 r.tic,.string r.grp,.string r.ded,.string r.bod,.string r.att,.string r.han,.slice y.a y.n y.c] 27 (0,0)):=by
 rw[zM r y];have HT:Hid (Tch [] w ((w.alloc (.cells #[.pointer (some ⟨st,0,none⟩)] 96)).alloc (.cells #[.int .u8 (r.op.toNat:Int),.int .u8 (r.q.toNat:Int),.int .u8 (r.d.toNat:Int),.int .i64 r.vis,.int .i64 r.win,.int .i64 r.rcv,.int .i64 r.quo,.int .i64 r.mx,.int .i64 r.tic,.string r.grp,.string r.ded,.string r.bod,.string r.att,.string r.han,.slice y.a y.n y.c] 27))):=((Tch.refl _ _).alloc _).alloc _;have HA:Hid (Calls Tryz.prog 200 #[.pointer (some ⟨st,0,none⟩),.int .u8 (r.q.toNat:Int)] ((w.alloc (.cells #[.pointer (some ⟨st,0,none⟩)] 96)).alloc (.cells #[.int .u8 (r.op.toNat:Int),.int .u8 (r.q.toNat:Int),.int .u8 (r.d.toNat:Int),.int .i64 r.vis,.int .i64 r.win,.int .i64 r.rcv,.int .i64 r.quo,.int .i64 r.mx,.int .i64 r.tic,.string r.grp,.string r.ded,.string r.bod,.string r.att,.string r.han,.slice y.a y.n y.c] 27)) _):=hA _ HT.out;clear hA;go_enter Tryz.func167,Tryz.ntmps167;go_wp2_with fail;refine HA.out.mono ?_;rintro e w' ⟨rfl,h'⟩;have h'':=h'.symm;subst h'';go_wp2_with fail;go_ret3;exact⟨w.heap.size,w.heap.size+1,rfl,HT.out,heap_alloc2_old _ _ _,heap_alloc2_new _ _ _⟩
theorem remd_any (st b i gs gr:Nat)(now:Int)(P:Nat->Value)(w:World)(h:Stb w st b now P)(hi:i<8)(hs:w.cell? ⟨gs,0,none⟩=some (.pointer (some ⟨st,0,none⟩)))(hr:w.cell? ⟨gr,1,none⟩=some (.int .u8 (97+(i:Int))))(n1:gs≠st)(n2:gr≠st):
  Calls Tryz.prog 222 #[.pointer (some ⟨gs,0,none⟩),.pointer (some ⟨gr,0,none⟩)] w fun e w'=>e=.returned (.tuple #[])/\Stb w' st b now (updP P i (.pointer none))/\Tch [st] w w':=by
 have hc:=h.cell i hi;have hz:=h.fz (1+i);have hw0:IntKind.u8.wrap (97+(i:Int)-97)=(i:Int):=by
  have e:(97+(i:Int)-97)=(i:Int):=by omega
  rw[e,IntKind.wrap_u8];omega
 have hi1:(i:Int)<8:=by omega
 have hi0:(0:Int)<=(i:Int):=by omega
 have HFI:Hid (Stb (w.setCell ⟨st,1+i,none⟩ (.pointer none)).drew st b now (updP P i (.pointer none))/\Tch [st] w (w.setCell ⟨st,1+i,none⟩ (.pointer none)).drew):=
  ⟨(h.set i hi _).tch (Tch.refl [] _).drew (by simp),((Tch.refl [st] w).setCell (fun _=>by simp) _).drew⟩
 have k1:(w.setCell ⟨st,1+i,none⟩ (.pointer none)).drew.cell? ⟨gs,0,none⟩=some (.pointer (some ⟨st,0,none⟩)):=(World.cell?_of_block (Below.heap_setCell w _ _ gs n1)).trans hs;have k2:(w.setCell ⟨st,1+i,none⟩ (.pointer none)).drew.cell? ⟨gr,1,none⟩=some (.int .u8 (97+(i:Int))):=(World.cell?_of_block (Below.heap_setCell w _ _ gr n2)).trans hr;clear h;generalize P i=v at hc;go_enter Tryz.func222,Tryz.ntmps222
 go_region_held3 (fun w'=>w'.cell? ⟨gs,0,none⟩=some (.pointer (some ⟨st,0,none⟩))/\w'.cell? ⟨gr,1,none⟩=some (.int .u8 (97+(i:Int)))) (go_keep) (fail)
 all_goals (go_wp2_with fail;go_end0;exact⟨rfl,HFI.out⟩)
theorem eg162x:∀args w,(callFunc 162 args).run Tryz.prog w=.ok (.enter 162 args) w:=enters_of Tryz.func162 (by kernel_rfl) rfl
theorem eg166x:∀args w,(callFunc 166 args).run Tryz.prog w=.ok (.enter 166 args) w:=enters_of Tryz.func166 (by kernel_rfl) rfl
theorem eg167x:∀args w,(callFunc 167 args).run Tryz.prog w=.ok (.enter 167 args) w:=enters_of Tryz.func167 (by kernel_rfl) rfl
theorem eg208x:∀args w,(callFunc 208 args).run Tryz.prog w=.ok (.enter 208 args) w:=enters_of Tryz.func208 (by kernel_rfl) rfl
theorem eg222x:∀args w,(callFunc 222 args).run Tryz.prog w=.ok (.enter 222 args) w:=enters_of Tryz.func222 (by kernel_rfl) rfl
theorem at_sg {b:Nat}(hs:SG B W st b now Z col)(hi:i<8){r:Wp.Rq}(hq:r.q.toNat=97+i):zE 200 #[.pointer (some ⟨st,0,none⟩),.int .u8 (r.q.toNat:Int)] W (ptrV (ptZ Z i)):=by
 have h1:=at_g st b i now _ W hs.stb hi;have e:((r.q.toNat:Nat):Int)=97+(i:Int):=by rw[hq];omega
 rw[e];exact h1
theorem pt_no (h:Z i=none):ptrV (ptZ Z i)=.pointer none:=by unfold ptZ;rw[h];rfl
theorem pt_yes {x:BQ}(h:Z i=some x):ptrV (ptZ Z i)=.pointer (some ⟨x.qb,0,none⟩):=by unfold ptZ;rw[h];rfl
theorem op_C3 (B:Nat)(r:Wp.Rq)(x st b i:Nat)(now:Int)(c:Nat->Option QM)(col:Nat->Nat)(w:World)(hE:Env B w)(hb:Bk B w x st b now c col)(hop:r.op=67)(hi:i<8)(hq:r.q.toNat=97+i)(Q:QM)(hQ:c i=some Q)(Z:Nat->Option BQ)(o:Option ByteArray)(room:Int)(hs:SG B w st b now Z col)(hc:ctZ Z=c)(W:World)(y:Sl)(ht:Tch [] w W):
  Calls Tryz.prog 62 #[.pointer (some ⟨st,0,none⟩),.agg (cellsOf r y.v)] W fun e w'=>Tch [] W w'/\PlG B (fun w'=>JgO B w col w' x st o room) (fun t w'=>t=⟨#[3]⟩/\Did B x st b w col now c w') e w':=by
 have hQ':ctZ Z i=some Q:=by rw[hc];exact hQ
 obtain⟨z,hz,hzq⟩:=ctZ_get hQ';refine plan_p B _ _ r y st b 2 159 now _ W (by rw[hop];rfl) (by decide) (hs.tch ht).stb rfl eg159 ?_;intro W1 ht1;have tW:=ht.trans ht1 (by simp);refine(crt_no r y st z.qb W1 (fun W2 ht2=>?_)).mono ?_
 ·have h1:=at_sg (hs.tch (tW.trans ht2 (by simp))) hi hq;rw[pt_yes hz]at h1;exact h1
 ·rintro e w1 ⟨he,ht2⟩;exact⟨ht2,ref_ans hb hE.size 3 (by decide) tW ht2 he⟩
theorem op_X2 (B:Nat)(r:Wp.Rq)(x st b i:Nat)(now:Int)(c:Nat->Option QM)(col:Nat->Nat)(w:World)(hE:Env B w)(hb:Bk B w x st b now c col)(hop:r.op=88)(hi:i<8)(hq:r.q.toNat=97+i)(hno:c i=none)(Z:Nat->Option BQ)(o:Option ByteArray)(room:Int)(hs:SG B w st b now Z col)(hc:ctZ Z=c)(W:World)(y:Sl)(ht:Tch [] w W):
  Calls Tryz.prog 62 #[.pointer (some ⟨st,0,none⟩),.agg (cellsOf r y.v)] W fun e w'=>Tch [] W w'/\PlG B (fun w'=>JgO B w col w' x st o room) (fun t w'=>t=⟨#[2]⟩/\Did B x st b w col now c w') e w':=by
 refine plan_p B _ _ r y st b 23 167 now _ W (by rw[hop];rfl) (by decide) (hs.tch ht).stb rfl eg167x ?_;intro W1 ht1;have tW:=ht.trans ht1 (by simp);have hz:=pt_of hc hno;refine(rem_no r y st W1 (fun W2 ht2=>?_)).mono ?_
 ·have h1:=at_sg (hs.tch (tW.trans ht2 (by simp))) hi hq;rw[pt_no hz]at h1;exact h1
 ·rintro e w1 ⟨he,ht2⟩;exact⟨ht2,ref_ans hb hE.size 2 (by decide) tW ht2 he⟩
theorem op_no (B:Nat)(r:Wp.Rq)(x st b i k q:Nat)(now:Int)(c:Nat->Option QM)(col:Nat->Nat)(w:World)(hE:Env B w)(hb:Bk B w x st b now c col)(hop:r.op.toNat=65+k)(hk:k<26)(hv:∀b:Nat,(deedsC b)[k]?=some (.func (.func 207) #[] #[.pointer (some ⟨b+q,0,none⟩)]))(hi:i<8)(hq:r.q.toNat=97+i)(hno:c i=none)(Z:Nat->Option BQ)(o:Option ByteArray)(room:Int)(hs:SG B w st b now Z col)(hc:ctZ Z=c)(W:World)(y:Sl)(ht:Tch [] w W):
  Calls Tryz.prog 62 #[.pointer (some ⟨st,0,none⟩),.agg (cellsOf r y.v)] W fun e w'=>Tch [] W w'/\PlG B (fun w'=>JgO B w col w' x st o room) (fun t w'=>t=⟨#[2]⟩/\Did B x st b w col now c w') e w':=by
 have hz:=pt_of hc hno;refine plan_w B _ _ r y st b k 207 (b+q) now _ W hop hk (hs.tch ht).stb (hv b) eg207 ?_;intro W1 ht1;have tW:=ht.trans ht1 (by simp);refine(with_no r y st (.pointer (some ⟨b+q,0,none⟩)) W1 (fun W2 ht2=>?_)).mono ?_
 ·have h1:=at_sg (hs.tch (tW.trans ht2 (by simp))) hi hq;rw[pt_no hz]at h1;exact h1
 ·rintro e w1 ⟨he,ht2⟩;exact⟨ht2,ref_ans hb hE.size 2 (by decide) tW ht2 he⟩
theorem op_P (B:Nat)(r:Wp.Rq)(x st b i:Nat)(now:Int)(c:Nat->Option QM)(col:Nat->Nat)(w:World)(hE:Env B w)(hb:Bk B w x st b now c col)(hop:r.op=80)(hi:i<8)(hq:r.q.toNat=97+i)(Q:QM)(hQ:c i=some Q)
  (Z:Nat->Option BQ)(o:Option ByteArray)(room:Int)(hs:SG B w st b now Z col)(hc:ctZ Z=c)(W:World)(y:Sl)(ht:Tch [] w W):
  Calls Tryz.prog 62 #[.pointer (some ⟨st,0,none⟩),.agg (cellsOf r y.v)] W fun e w'=>Tch [] W w'/\PlG B (fun w'=>JgO B w col w' x st o room) (fun t w'=>t=okL []/\Did B x st b w col now (setC c i (some (purgQ Q))) w') e w':=by
 have hQ':ctZ Z i=some Q:=by rw[hc];exact hQ
 obtain⟨z,hz,hzq⟩:=ctZ_get hQ';have hW:=hb.wf i Q hi hQ;refine plan_w B _ _ r y st b 15 207 (b+1) now _ W (by rw[hop];rfl) (by decide) (hs.tch ht).stb rfl eg207 ?_;intro W1 ht1;have tW:=ht.trans ht1 (by simp);have hsW:=hs.tch tW;refine within_g B _ _ r y st b i 162 (b+1) z.qb now _ W1 hq hi hsW.stb (pt_yes hz) (hsW.tb 1 162 (by decide)) eg162x ?_;intro W2 ht2;have tW2:=tW.trans ht2 (by simp);refine(purge_any z.qb now r y W2).mono ?_;rintro e w1 ⟨gq,rfl,ht3,hgq⟩;refine⟨ht3,.inr ⟨_,_,[],rfl,.inl ⟨rfl,rfl⟩,fun w2 ht4=>.inr ⟨208,_,rfl,eg208x,fun w3 w4 ht5 hf4 hJ4=>?_⟩⟩⟩
 have t23:=ht4.trans ht5 (by simp);have t3:=(tW2.trans ht3 (by simp)).trans t23 (by simp);have hs4:=hs.lay t3 hf4;have hz3:=t3.size;have hz4:=hf4.size;have kgq:=hf4.keep _ _ _ ((t23.block _ (lt_of_block hgq) (by simp)).trans hgq) (by decide);refine(purged_any Q z.V z.qb gq w4 (by rw[<-hzq];exact hs4.qr i z hi hz) kgq).mono ?_;rintro e w5 ⟨rfl,hl⟩;have hsn:=hs4.updn (by have:=hE.size;omega) hi hz hl;rw[hc]at hsn;exact⟨rfl,rfl,did_n hE.size t3 hf4 hb.fut hJ4 hsn (hb.wf.set hW.purg) hb.nw⟩
theorem op_V (B:Nat)(r:Wp.Rq)(x st b i:Nat)(now:Int)(c:Nat->Option QM)(col:Nat->Nat)(w:World)(hE:Env B w)(hb:Bk B w x st b now c col)(hop:r.op=86)(hi:i<8)(hq:r.q.toNat=97+i)(Q:QM)(hQ:c i=some Q)
  (Z:Nat->Option BQ)(o:Option ByteArray)(room:Int)(hs:SG B w st b now Z col)(hc:ctZ Z=c)(W:World)(y:Sl)(ht:Tch [] w W):
  Calls Tryz.prog 62 #[.pointer (some ⟨st,0,none⟩),.agg (cellsOf r y.v)] W fun e w'=>Tch [] W w'/\PlG B (fun w'=>JgO B w col w' x st o room) (fun t w'=>t=okL (allB Q)/\Did B x st b w col now c w') e w':=by
 have hQ':ctZ Z i=some Q:=by rw[hc];exact hQ
 obtain⟨z,hz,hzq⟩:=ctZ_get hQ';have hW:=hb.wf i Q hi hQ;have hal:=allB_len hW.ok;have hap:0<(allB Q).length:=by
  have h7:=setB_length Q.c;unfold allB;rw[List.length_append,List.length_append,List.length_append,List.length_append,List.length_append];omega
 refine plan_w B _ _ r y st b 21 207 (b+4) now _ W (by rw[hop];rfl) (by decide) (hs.tch ht).stb rfl eg207 ?_;intro W1 ht1;have tW:=ht.trans ht1 (by simp);have hsW:=hs.tch tW;refine within_g B _ _ r y st b i 166 (b+4) z.qb now _ W1 hq hi hsW.stb (pt_yes hz) (hsW.tb 4 166 (by decide)) eg166x ?_;intro W2 ht2;have tW2:=tW.trans ht2 (by simp);refine(show_any Q z.V z.qb now r y W2 (by rw[<-hzq];exact(hs.tch tW2).qr i z hi hz) hW.ok).mono ?_;rintro e w1 ⟨v,rfl,hown,ht3⟩;exact⟨ht3,.inr ⟨v,_,allB Q,rfl,.inr ⟨hap,by omega,Rdb.of_own hown hap⟩,fun w2 ht4=>.inl ⟨rfl,fun w3 ht5=>⟨rfl,did_same hb hE.size (((tW2.trans ht3 (by simp)).trans ht4 (by simp)).trans ht5 (by simp))⟩⟩⟩⟩
theorem op_Rf (B:Nat)(r:Wp.Rq)(x st b i p:Nat)(now:Int)(c:Nat->Option QM)(col:Nat->Nat)(w:World)(hE:Env B w)(hb:Bk B w x st b now c col)(hop:r.op=82)(hi:i<8)(hq:r.q.toNat=97+i)(Q:QM)(hQ:c i=some Q)(hid:idxL (isA r.att) Q.ats=(p:Int))(a:At)(ha:Q.ats[p]?=some a)
  (Z:Nat->Option BQ)(o:Option ByteArray)(room:Int)(hs:SG B w st b now Z col)(hc:ctZ Z=c)(W:World)(y:Sl)(ht:Tch [] w W):
  Calls Tryz.prog 62 #[.pointer (some ⟨st,0,none⟩),.agg (cellsOf r y.v)] W fun e w'=>Tch [] W w'/\PlG B (fun w'=>JgO B w col w' x st o room) (fun t w'=>t=okL a.ans.data.toList/\Did B x st b w col now c w') e w':=by
 have hQ':ctZ Z i=some Q:=by rw[hc];exact hQ
 obtain⟨z,hz,hzq⟩:=ctZ_get hQ';have hW:=hb.wf i Q hi hQ;have hal:=hW.al;have hao:=(hW.aok a (List.mem_of_getElem? ha)).2.1;have hlen:a.ans.data.toList.length=a.ans.size:=rfl;refine plan_w B _ _ r y st b 17 207 (b+2) now _ W (by rw[hop];rfl) (by decide) (hs.tch ht).stb rfl eg207 ?_;intro W1 ht1;have tW:=ht.trans ht1 (by simp);have hsW:=hs.tch tW;refine within_g B _ _ r y st b i 163 (b+2) z.qb now _ W1 hq hi hsW.stb (pt_yes hz) (hsW.tb 2 163 (by decide)) eg163 ?_;intro W2 ht2;have tW2:=tW.trans ht2 (by simp);refine(receive_found Q z.V r y z.qb p now W2 (by rw[<-hzq];exact(hs.tch tW2).qr i z hi hz) (by omega) hid a ha hao.1).mono ?_;rintro e w1 ⟨v,rfl,hr,ht3⟩;exact⟨ht3,.inr ⟨v,_,a.ans.data.toList,rfl,.inr ⟨by omega,by omega,hr⟩,fun w2 ht4=>.inl ⟨rfl,fun w3 ht5=>⟨rfl,did_same hb hE.size (((tW2.trans ht3 (by simp)).trans ht4 (by simp)).trans ht5 (by simp))⟩⟩⟩⟩
theorem op_Sb (B:Nat)(r:Wp.Rq)(x st b i:Nat)(now:Int)(c:Nat->Option QM)(col:Nat->Nat)(w:World)(hE:Env B w)(hb:Bk B w x st b now c col)(hop:r.op=83)(hi:i<8)(hq:r.q.toNat=97+i)(Q:QM)(hQ:c i=some Q)(hbod:40<r.bod.size/\r.bod.size<=1000000)
  (Z:Nat->Option BQ)(o:Option ByteArray)(room:Int)(hs:SG B w st b now Z col)(hc:ctZ Z=c)(W:World)(y:Sl)(ht:Tch [] w W):
  Calls Tryz.prog 62 #[.pointer (some ⟨st,0,none⟩),.agg (cellsOf r y.v)] W fun e w'=>Tch [] W w'/\PlG B (fun w'=>JgO B w col w' x st o room) (fun t w'=>t=⟨#[4]⟩/\Did B x st b w col now c w') e w':=by
 have hQ':ctZ Z i=some Q:=by rw[hc];exact hQ
 obtain⟨z,hz,hzq⟩:=ctZ_get hQ';refine plan_w B _ _ r y st b 18 207 (b+3) now _ W (by rw[hop];rfl) (by decide) (hs.tch ht).stb rfl eg207 ?_;intro W1 ht1;have tW:=ht.trans ht1 (by simp);have hsW:=hs.tch tW;refine within_g B _ _ r y st b i 164 (b+3) z.qb now _ W1 hq hi hsW.stb (pt_yes hz) (hsW.tb 3 164 (by decide)) eg164 ?_;intro W2 ht2;have tW2:=tW.trans ht2 (by simp);refine(send_body r y z.qb now W2 hbod.1 hbod.2).mono ?_;rintro e w' ⟨he,ht'⟩;exact⟨ht',ref_ans hb hE.size 4 (by decide) tW2 ht' he⟩
theorem op_Ae (B:Nat)(r:Wp.Rq)(x st b:Nat)(now:Int)(c:Nat->Option QM)(col:Nat->Nat)(w:World)(hE:Env B w)(hb:Bk B w x st b now c col)(hop:r.op=65\/r.op=69)(er:UInt8)(her:er=7\/er=8)(Z:Nat->Option BQ)(o:Option ByteArray)(room:Int)(hs:SG B w st b now Z col)(hc:ctZ Z=c)
  (hF:∀W1,Tch [] w W1->zT 194 #[.pointer (some ⟨st,0,none⟩),.string r.han] W1 (.tuple #[.pointer none,.int .i64 0,.int .i64 (er.toNat:Int)]))(W:World)(y:Sl)(ht:Tch [] w W):
  Calls Tryz.prog 62 #[.pointer (some ⟨st,0,none⟩),.agg (cellsOf r y.v)] W fun e w'=>Tch [] W w'/\PlG B (fun w'=>JgO B w col w' x st o room) (fun t w'=>t=⟨#[er]⟩/\Did B x st b w col now c w') e w':=by
 have hr:((er.toNat:Nat):Int)=7\/((er.toNat:Nat):Int)=8:=by rcases her with rfl|rfl<;>decide
 have h0:0<er.toNat:=by omega
 rcases hop with hop|hop
 ·refine plan_p B _ _ r y st b 0 157 now _ W (by rw[hop];rfl) (by decide) (hs.tch ht).stb rfl eg157 ?_;intro W1 ht1;have tW:=ht.trans ht1 (by simp);refine(ack_no _ hr r y st W1 (fun W2 ht2=>hF W2 (tW.trans ht2 (by simp)))).mono ?_;rintro e w1 ⟨he,ht2⟩;exact⟨ht2,ref_ans hb hE.size er h0 tW ht2 he⟩
 ·refine plan_p B _ _ r y st b 4 160 now _ W (by rw[hop];rfl) (by decide) (hs.tch ht).stb rfl eg160x ?_;intro W1 ht1;have tW:=ht.trans ht1 (by simp);refine(ext_no _ hr r y st W1 (fun W2 ht2=>hF W2 (tW.trans ht2 (by simp)))).mono ?_;rintro e w1 ⟨he,ht2⟩;exact⟨ht2,ref_ans hb hE.size er h0 tW ht2 he⟩
theorem op_A7 (B:Nat)(r:Wp.Rq)(x st b:Nat)(now:Int)(c:Nat->Option QM)(col:Nat->Nat)(w:World)(hE:Env B w)(hb:Bk B w x st b now c col)(hop:r.op=65\/r.op=69)(hsz:r.han.size<=1000000)(hno:¬∃h8:r.han.size=8,r.han[0]=72/\isLet r.han[1]=true)(Z:Nat->Option BQ)(o:Option ByteArray)(room:Int)(hs:SG B w st b now Z col)(hc:ctZ Z=c)(W:World)(y:Sl)(ht:Tch [] w W):
  Calls Tryz.prog 62 #[.pointer (some ⟨st,0,none⟩),.agg (cellsOf r y.v)] W fun e w'=>Tch [] W w'/\PlG B (fun w'=>JgO B w col w' x st o room) (fun t w'=>t=⟨#[7]⟩/\Did B x st b w col now c w') e w':=
 op_Ae B r x st b now c col w hE hb hop 7 (.inl rfl) Z o room hs hc (fun W1 t1=>by
  have hE1:=hE.tch t1 (by simp);exact find_bad st r.han W1 (read_no B r.han W1 hE1.lays hE1.size hsz hno)) W y ht
theorem op_An (B:Nat)(r:Wp.Rq)(x st b i num rcv:Nat)(now:Int)(c:Nat->Option QM)(col:Nat->Nat)(w:World)(hE:Env B w)(hb:Bk B w x st b now c col)(hop:r.op=65\/r.op=69)(hi:i<8)(hh:HanIs r.han i num rcv)(hno:c i=none)(Z:Nat->Option BQ)(o:Option ByteArray)(room:Int)(hs:SG B w st b now Z col)(hc:ctZ Z=c)(W:World)(y:Sl)(ht:Tch [] w W):
  Calls Tryz.prog 62 #[.pointer (some ⟨st,0,none⟩),.agg (cellsOf r y.v)] W fun e w'=>Tch [] W w'/\PlG B (fun w'=>JgO B w col w' x st o room) (fun t w'=>t=⟨#[8]⟩/\Did B x st b w col now c w') e w':=
 op_Ae B r x st b now c col w hE hb hop 8 (.inr rfl) Z o room hs hc (fun W1 t1=>by
  have hE1:=hE.tch t1 (by simp);obtain⟨h8,h0,h1,h2,h3,h4⟩:=hh;have hrd:=read_yes B r.han W1 hE1.lays hE1.size h8 h0 h1;rw[h3,h4]at hrd;refine find_nil st r.han ((r.han[1].toNat:Nat):Int) num rcv W1 ⟨hrd,fun W2 t2=>?_⟩
  have h5:=at_g st b i now _ W2 (hs.tch (t1.trans t2 (by simp))).stb hi;have e:((r.han[1].toNat:Nat):Int)=97+(i:Int):=by rw[h2];omega
  rw[e];have e2:=pt_no (pt_of hc hno);rw[e2]at h5;exact h5) W y ht
theorem SG.rem {b:Nat}(h:SG B w st b now Z col)(hB:B<=w.heap.size)(hi:i<8)(ht:Tch [st] w w')(hs:Stb w' st b now (updP (fun i=>ptrV (ptZ Z i)) i (.pointer none))):
  SG B w' st b now (updZ Z i none) col/\Fq B col w w':=by
 have hst0:=h.stb;have hns:∀{k:Nat} {C:Array Value} {t:TypeId},w.heap[k]?=some (.cells C t (0,0))->t≠156->k∉[st]:=fun {k C t} hk hne hm=>by
  simp at hm;subst hm;rw[hst0]at hk;simp at hk;exact hne hk.2.symm
 have hor:∀q z,updZ Z i none q=some z->Z q=some z:=fun q z hz=>by
  by_cases e:q=i
  ·subst e;rw[updZ_same]at hz
   cases hz
  ·rw[updZ_ne _ _ e]at hz;exact hz
 refine⟨⟨?_,fun q f hq=>(ht.block _ (lt_of_block (h.tb q f hq)) (hns (h.tb q f hq) (by decide))).trans (h.tb q f hq),fun q z hq hz=>?_,fun q z hq hz=>h.cl q z hq (hor q z hz),fun q z hq hz=>h.lo q z hq (hor q z hz),h.ls,h.cs⟩,?_⟩
 ·have e:(fun j=>ptrV (ptZ (updZ Z i none) j))=updP (fun i=>ptrV (ptZ Z i)) i (.pointer none):=by
   funext j;unfold updP ptZ updZ
   by_cases e:j=i
   ·simp[e,ptrV]
   ·simp[e]
  rw[e];exact hs
 ·have h1:=h.qr q z hq (hor q z hz);exact h1.tch ht (fun k hk hm=>by
   simp at hm;subst hm;exact h1.nty h.stb (by decide) hk)
 ·refine FqT.of_tch ht hB (fun k hk=>?_) (fun k hk C t hC=>?_) (fun k hk=>?_)
  ·simp at hk;subst hk;exact h.ls
  ·simp at hk;subst hk;rw[hst0]at hC;simp at hC;rw[<-hC.2];decide
  ·simp at hk;subst hk;exact h.cs
theorem WFc.none (h:WFc c)(i:Nat):WFc (setC c i none):=fun j Q hj hQ=>by
 by_cases e:j=i
 ·subst e;rw[setC_same]at hQ
  cases hQ
 ·rw[setC_ne _ _ e]at hQ;exact h j Q hj hQ
theorem op_X (B:Nat)(r:Wp.Rq)(x st b i:Nat)(now:Int)(c:Nat->Option QM)(col:Nat->Nat)(w:World)(hE:Env B w)(hb:Bk B w x st b now c col)(hop:r.op=88)(hi:i<8)(hq:r.q.toNat=97+i)(Q:QM)(hQ:c i=some Q)(Z:Nat->Option BQ)(o:Option ByteArray)(room:Int)(hs:SG B w st b now Z col)(hc:ctZ Z=c)(W:World)(y:Sl)(ht:Tch [] w W):
  Calls Tryz.prog 62 #[.pointer (some ⟨st,0,none⟩),.agg (cellsOf r y.v)] W fun e w'=>Tch [] W w'/\PlG B (fun w'=>JgO B w col w' x st o room) (fun t w'=>t=okL []/\Did B x st b w col now (setC c i none) w') e w':=by
 have hQ':ctZ Z i=some Q:=by rw[hc];exact hQ
 obtain⟨z,hz,hzq⟩:=ctZ_get hQ';refine plan_p B _ _ r y st b 23 167 now _ W (by rw[hop];rfl) (by decide) (hs.tch ht).stb rfl eg167x ?_;intro W1 ht1;have tW:=ht.trans ht1 (by simp);refine(rem_ok r y st z.qb W1 (fun W2 ht2=>?_)).mono ?_
 ·have h1:=at_sg (hs.tch (tW.trans ht2 (by simp))) hi hq;rw[pt_yes hz]at h1;exact h1
 ·rintro e w1 ⟨gs,gr,rfl,ht2,hgs,hgr⟩;refine⟨ht2,.inr ⟨_,_,[],rfl,.inl ⟨rfl,rfl⟩,fun w2 ht3=>.inr ⟨222,_,rfl,eg222x,fun w3 w4 ht4 hf4 hJ4=>?_⟩⟩⟩
  have t23:=ht3.trans ht4 (by simp);have t3:=(tW.trans ht2 (by simp)).trans t23 (by simp);have hs4:=hs.lay t3 hf4;have hz3:=t3.size;have hz4:=hf4.size;have kgr:=hf4.keep _ _ _ ((t23.block _ (lt_of_block hgr) (by simp)).trans hgr) (by decide);have kgs:=hf4.keep _ _ _ ((t23.block _ (lt_of_block hgs) (by simp)).trans hgs) (by decide);have hst0:=hs4.stb;have n1:gs≠st:=fun e=>by
   rw[e,hst0]at kgs;simp at kgs
  have n2:gr≠st:=fun e=>by
   rw[e,hst0]at kgr;simp at kgr
  have e97:((r.q.toNat:Nat):Int)=97+(i:Int):=by rw[hq];omega
  refine(remd_any st b i gs gr now _ w4 hs4.stb hi (cell_qC kgs 0 _ rfl) (by rw[<-e97];exact cell_qC kgr 1 _ rfl) n1 n2).mono ?_;rintro e w5 ⟨rfl,k1,k2⟩;obtain⟨j1,j2⟩:=hs4.rem (by have:=hE.size;omega) hi k2 k1;refine⟨rfl,rfl,did_of (now:=now) (Z:=Z) hE.size t3 hf4 hb.fut hJ4 j1 ?_ (hb.wf.none i) hb.nw (Agr.refl _ _) j2⟩;rw[ctZ_upd,hc];rfl
def hanP (s:ByteArray):Option (Nat×Nat×Nat):=if h8:s.size=8 then (if s[0]=72/\isLet s[1]=true then some (s[1].toNat-97,leN (tk (s.extract 2 8) 4).data.toList,leN (tk (lf (s.extract 2 8) 4) 2).data.toList) else none) else none
theorem hanP_some {num rcv:Nat}(h:hanP s=some (i,num,rcv)):HanIs s i num rcv/\i<8:=by
 unfold hanP at h
 by_cases h8:s.size=8
 ·rw[dif_pos h8]at h
  by_cases hc:s[0]=72/\isLet s[1]=true
  ·rw[if_pos hc]at h;simp only[Option.some.injEq,Prod.mk.injEq]at h;obtain⟨rfl,rfl,rfl⟩:=h;have hl:=hc.2;unfold isLet at hl;rw[Bool.and_eq_true,decide_eq_true_eq,decide_eq_true_eq]at hl;exact⟨⟨h8,hc.1,hc.2,by omega,rfl,rfl⟩,by omega⟩
  ·rw[if_neg hc]at h
   cases h
 ·rw[dif_neg h8]at h
  cases h
theorem hanP_none (h:hanP s=none):¬∃h8:s.size=8,s[0]=72/\isLet s[1]=true:=by
 rintro ⟨h8,hc⟩;unfold hanP at h;rw[dif_pos h8,if_pos hc]at h
 cases h
abbrev qiR (r:Wp.Rq):Nat:=r.q.toNat-97
def doR (now:Int)(c:Nat->Option QM)(i:Nat)(Q:QM)(r:Wp.Rq):ByteArray×Int×(Nat->Option QM):=
 match Q.ats[(idxL (isA r.att) Q.ats).toNat]? with
 | some a=>if 0<=idxL (isA r.att) Q.ats then (okL a.ans.data.toList,now,c) else (okL (ansL Q (min r.mx.toNat Q.rs.length) (min r.mx.toNat Q.rs.length)),now,recvC c i Q r.att (min r.mx.toNat Q.rs.length) now)
 | none=>(okL (ansL Q (min r.mx.toNat Q.rs.length) (min r.mx.toNat Q.rs.length)),now,recvC c i Q r.att (min r.mx.toNat Q.rs.length) now)
def doS (now:Int)(c:Nat->Option QM)(i:Nat)(Q:QM)(r:Wp.Rq):ByteArray×Int×(Nat->Option QM):=
 if 40<r.bod.size then (⟨#[4]⟩,now,c)
 else if 0<=idxL (isI (didS r)) Q.ds then (okL (lowB (((Q.ds[(idxL (isI (didS r)) Q.ds).toNat]?).map Dd.num).getD 0).toNat 4),now,c)
 else if Q.c.quo<=(Q.ms.length:Int) then (⟨#[5]⟩,now,c)
 else if 200<Q.next then (⟨#[6]⟩,now,c)
 else (okL (lowB Q.next 4),now,setC c i (some (sendQ Q r now)))
def doA (now:Int)(c:Nat->Option QM)(r:Wp.Rq)(f:Nat->QM->Nat->(Nat->Option QM)):ByteArray×Int×(Nat->Option QM):=
 match hanP r.han with
 | none=>(⟨#[7]⟩,now,c)
 | some (i,num,rcv)=>match c i with
  | none=>(⟨#[8]⟩,now,c)
  | some Q=>if fliesQ Q num rcv=true then (okL [],now,f i Q num) else (⟨#[8]⟩,now,c)
def doQ (now:Int)(c:Nat->Option QM)(r:Wp.Rq):ByteArray×Int×(Nat->Option QM):=
 if r.op=84 then (if 60000<now+r.tic then (⟨#[9]⟩,now,c) else (okL [],now+r.tic,timeC (now+r.tic) c))
 else if r.op=65 then doA now c r (fun i Q num=>setC c i (some (dropQ Q num)))
 else if r.op=69 then doA now c r (fun i Q num=>extC c i Q num now r.tic)
 else match c (qiR r) with
  | none=>if r.op=67 then (okL [],now,setC c (qiR r) (some (newM r))) else (⟨#[2]⟩,now,c)
  | some Q=>if r.op=67 then (⟨#[3]⟩,now,c)
   else if r.op=88 then (okL [],now,setC c (qiR r) none)
   else if r.op=80 then (okL [],now,setC c (qiR r) (some (purgQ Q)))
   else if r.op=86 then (okL (allB Q),now,c)
   else if r.op=82 then doR now c (qiR r) Q r
   else doS now c (qiR r) Q r
theorem fits_inv {b:Bool}{f:Nat}(h:r.fits n b f=true)(h1:f≠1):Wp.least f<=r.measure n f/\r.measure n f<=Wp.most f:=by
 unfold Wp.Rq.fits at h;rw[if_neg (fun e=>h1 e.1)]at h
 by_cases ha:r.measure n f<Wp.least f
 ·rw[if_pos ha]at h
  cases h
 ·rw[if_neg ha]at h
  by_cases hb:Wp.most f<r.measure n f
  ·rw[if_pos hb]at h
   cases h
  ·omega
theorem fits_dead_inv {b:Bool}(h:r.fits n b 1=true):r.d=45\/(97<=r.d.toNat/\r.d.toNat<=104)/\r.d≠r.q:=by
 unfold Wp.Rq.fits at h
 by_cases hd:r.d=45
 ·exact .inl hd
 ·rw[if_neg (fun e=>hd e.2)]at h
  by_cases ha:r.measure n 1<Wp.least 1
  ·rw[if_pos ha]at h
   cases h
  ·rw[if_neg ha]at h
   by_cases hb:Wp.most 1<r.measure n 1
   ·rw[if_pos hb]at h
    cases h
   ·rw[if_neg hb,if_pos rfl]at h;have e1:r.measure n 1=(r.d.toNat:Int):=rfl;have e2:Wp.least 1=97:=rfl;have e3:Wp.most 1=104:=rfl;rw[e1,e2]at ha;rw[e1,e3]at hb;refine .inr ⟨by omega,fun e=>?_⟩
    rw[e]at h;simp at h
structure RqOk (r:Wp.Rq):Prop where
 ops:∃i∈opsAt,r.op.toNat=65+i
 fq:r.op.toNat-65∈[2,15,17,18,21,23]->97<=r.q.toNat/\r.q.toNat<=104
 fc:r.op.toNat=67->CfW (qiR r) r
 fs:r.op.toNat=83->(1<=r.grp.size/\r.grp.size<=8)/\r.ded.size<=8/\r.bod.size<=255
 fr:r.op.toNat=82->(1<=r.mx/\r.mx<=10)/\r.att.size<=8
 fh:r.op.toNat=65\/r.op.toNat=69->r.han.size<=255
 ft:r.op.toNat=69\/r.op.toNat=84->0<=r.tic/\r.tic<=1000
theorem dead_ok (hq:r.q.toNat=97+i)(h:r.d=45\/(97<=r.d.toNat/\r.d.toNat<=104)/\r.d≠r.q):DeadOk i r:=by
 rcases h with h|⟨h1,h2⟩
 ·exact .inl h
 ·refine .inr ⟨r.d.toNat-97,by omega,fun e=>h2 ?_,by omega⟩
  have:r.d.toNat=r.q.toNat:=by omega
  exact UInt8.toNat_inj.1 this
theorem rq_ok (hw:Wf r)(h:rightW r nil0 (Wp.short [])=true):RqOk r:=by
 obtain⟨i,hi,hop,hf,_,_⟩:=(right_iff r nil0 _ hw).1 h;have hl:∀f,f∈Wp.lay i->r.fits nil0.n (Wp.short []) f=true:=List.all_eq_true.1 hf;have hF:∀f,f∈Wp.lay i->f≠1->Wp.least f<=r.measure nil0.n f/\r.measure nil0.n f<=Wp.most f:=fun f hm hn=>fits_inv (hl f hm) hn
 have hq:i∈[2,15,17,18,21,23]->97<=r.q.toNat/\r.q.toNat<=104:=fun hm=>by
  have h0:0∈Wp.lay i:=by
   simp only[List.mem_cons,List.not_mem_nil,or_false]at hm;rcases hm with rfl|rfl|rfl|rfl|rfl|rfl<;>decide
  have h1:=hF 0 h0 (by decide);have e1:r.measure nil0.n 0=(r.q.toNat:Int):=rfl;have e2:Wp.least 0=97:=rfl;have e3:Wp.most 0=104:=rfl;rw[e1,e2,e3]at h1;omega
 refine⟨⟨i,hi,hop⟩,fun hm=>hq (by rw[hop,Nat.add_sub_cancel_left]at hm;exact hm),fun ho=>?_,fun ho=>?_,fun ho=>?_,fun ho=>?_,fun ho=>?_⟩
 ·obtain rfl:i=2:=by omega
  have h2:(1:Int)<=r.vis/\r.vis<=1000:=hF 2 (by decide) (by decide);have h3:(0:Int)<=r.win/\r.win<=1000:=hF 3 (by decide) (by decide);have h4:(0:Int)<=r.rcv/\r.rcv<=9:=hF 4 (by decide) (by decide);have h5:(1:Int)<=r.quo/\r.quo<=50:=hF 5 (by decide) (by decide);have hq':=hq (by decide);have e:r.q.toNat=97+qiR r:=by unfold qiR;omega
  exact⟨e,dead_ok e (fits_dead_inv (hl 1 (by decide))),h2,h3,h4,h5⟩
 ·obtain rfl:i=18:=by omega
  have h2:(1:Int)<=(r.grp.size:Int)/\(r.grp.size:Int)<=8:=hF 9 (by decide) (by decide);have h3:(0:Int)<=(r.ded.size:Int)/\(r.ded.size:Int)<=8:=hF 10 (by decide) (by decide);have h4:(0:Int)<=(r.bod.size:Int)/\(r.bod.size:Int)<=255:=hF 11 (by decide) (by decide);exact⟨by omega,by omega,by omega⟩
 ·obtain rfl:i=17:=by omega
  have h2:(0:Int)<=(r.att.size:Int)/\(r.att.size:Int)<=8:=hF 12 (by decide) (by decide);have h3:(1:Int)<=r.mx/\r.mx<=10:=hF 6 (by decide) (by decide);exact⟨h3,by omega⟩
 ·have hm:13∈Wp.lay i:=by
   rcases ho with ho|ho
   ·obtain rfl:i=0:=by omega
    decide
   ·obtain rfl:i=4:=by omega
    decide
  have h2:(0:Int)<=(r.han.size:Int)/\(r.han.size:Int)<=255:=hF 13 hm (by decide);omega
 ·rcases ho with ho|ho
  ·obtain rfl:i=4:=by omega
   have h2:(0:Int)<=r.tic/\r.tic<=1000:=hF 7 (by decide) (by decide);exact h2
  ·obtain rfl:i=19:=by omega
   have h2:(1:Int)<=r.tic/\r.tic<=1000:=hF 8 (by decide) (by decide);omega
theorem op_eq (h:r.op.toNat=n)(hn:n<256):r.op=UInt8.ofNat n:=by
 apply UInt8.toNat_inj.1;rw[h,UInt8.toNat_ofNat_of_lt' hn]
theorem op_any (B:Nat)(r:Wp.Rq)(x st b:Nat)(now:Int)(c:Nat->Option QM)(col:Nat->Nat)(w:World)(hE:Env B w)(hb:Bk B w x st b now c col)(hr:RqOk r)(hnB:r.op.toNat≠66)(Z:Nat->Option BQ)(o:Option ByteArray)(room:Int)(hs:SG B w st b now Z col)(hc:ctZ Z=c)(W:World)(y:Sl)(ht:Tch [] w W):
  Calls Tryz.prog 62 #[.pointer (some ⟨st,0,none⟩),.agg (cellsOf r y.v)] W fun e w'=>Tch [] W w'/\PlG B (fun w'=>JgO B w col w' x st o room) (fun t w'=>t=(doQ now c r).1/\Did B x st b w col (doQ now c r).2.1 (doQ now c r).2.2 w') e w':=by
 obtain⟨k,hk,hop⟩:=hr.ops;simp only[opsAt,List.mem_cons,List.not_mem_nil,or_false]at hk;have hdead:∀(f:Nat->QM->Nat->(Nat->Option QM)),(r.op=65\/r.op=69)->doQ now c r=doA now c r f->(∀i num rcv Q,i<8->HanIs r.han i num rcv->c i=some Q->fliesQ Q num rcv=true->Calls Tryz.prog 62 #[.pointer (some ⟨st,0,none⟩),.agg (cellsOf r y.v)] W fun e w'=>Tch [] W w'/\PlG B (fun w'=>JgO B w col w' x st o room) (fun t w'=>t=okL []/\Did B x st b w col now (f i Q num) w') e w')->
   Calls Tryz.prog 62 #[.pointer (some ⟨st,0,none⟩),.agg (cellsOf r y.v)] W fun e w'=>Tch [] W w'/\PlG B (fun w'=>JgO B w col w' x st o room) (fun t w'=>t=(doQ now c r).1/\Did B x st b w col (doQ now c r).2.1 (doQ now c r).2.2 w') e w':=fun f hop' hd hF=>by
  have hsz:=hr.fh (by rcases hop' with e|e<;>rw[e]<;>decide);rw[hd];unfold doA
  cases hh:hanP r.han with
  | none=>exact op_A7 B r x st b now c col w hE hb hop' (by omega) (hanP_none hh) Z o room hs hc W y ht
  | some p=>
   obtain⟨i,num,rcv⟩:=p;obtain⟨hi,hi8⟩:=hanP_some hh;simp only
   cases hQ:c i with
   | none=>exact op_An B r x st b i num rcv now c col w hE hb hop' hi8 hi hQ Z o room hs hc W y ht
   | some Q=>
    simp only
    cases hf:fliesQ Q num rcv with
    | true=>
     rw[if_pos rfl];exact hF i num rcv Q hi8 hi hQ hf
    | false=>
     rw[if_neg (by simp)];exact op_A8 B r x st b i num rcv now c col w hE hb hop' hi8 hi Q hQ hf Z o room hs hc W y ht
 rcases hk with rfl|rfl|rfl|rfl|rfl|rfl|rfl|rfl|rfl|rfl
 ·have ho:r.op=65:=op_eq hop (by decide);refine hdead (fun i Q num=>setC c i (some (dropQ Q num))) (.inl ho) ?_ (fun i num rcv Q hi8 hi hQ hf=>op_A B r x st b i num rcv now c col w hE hb ho hi8 hi Q hQ hf Z o room hs hc W y ht);unfold doQ;rw[ho];rfl
 ·exact absurd hop hnB
 ·have ho:r.op=67:=op_eq hop (by decide);have hq:=hr.fq (by rw[hop];decide);have hqi:r.q.toNat=97+qiR r:=by unfold qiR;omega
  have hi:qiR r<8:=by unfold qiR;omega
  cases hQ:c (qiR r) with
  | none=>
   have e:doQ now c r=(okL [],now,setC c (qiR r) (some (newM r))):=by
    unfold doQ;rw[ho,hQ];rfl
   rw[e];exact op_C B r x st b (qiR r) now c col w hE hb ho hi hqi (hr.fc (by rw[hop])) hQ Z o room hs hc W y ht
  | some Q=>
   have e:doQ now c r=(⟨#[3]⟩,now,c):=by
    unfold doQ;rw[ho,hQ];rfl
   rw[e];exact op_C3 B r x st b (qiR r) now c col w hE hb ho hi hqi Q hQ Z o room hs hc W y ht
 ·have ho:r.op=69:=op_eq hop (by decide);refine hdead (fun i Q num=>extC c i Q num now r.tic) (.inr ho) ?_ (fun i num rcv Q hi8 hi hQ hf=>op_E B r x st b i num rcv now c col w hE hb ho hi8 hi Q hQ hf (hr.ft (.inl (by rw[hop]))) Z o room hs hc W y ht);unfold doQ;rw[ho];rfl
 ·have ho:r.op=80:=op_eq hop (by decide);have hq:=hr.fq (by rw[hop];decide);have hqi:r.q.toNat=97+qiR r:=by unfold qiR;omega
  have hi:qiR r<8:=by unfold qiR;omega
  cases hQ:c (qiR r) with
  | none=>
   have e:doQ now c r=(⟨#[2]⟩,now,c):=by
    unfold doQ;rw[ho,hQ];rfl
   rw[e];exact op_no B r x st b (qiR r) 15 1 now c col w hE hb hop (by decide) (fun _=>rfl) hi hqi hQ Z o room hs hc W y ht
  | some Q=>
   have e:doQ now c r=(okL [],now,setC c (qiR r) (some (purgQ Q))):=by
    unfold doQ;rw[ho,hQ];rfl
   rw[e];exact op_P B r x st b (qiR r) now c col w hE hb ho hi hqi Q hQ Z o room hs hc W y ht
 ·have ho:r.op=82:=op_eq hop (by decide);have hq:=hr.fq (by rw[hop];decide);have hqi:r.q.toNat=97+qiR r:=by unfold qiR;omega
  have hi:qiR r<8:=by unfold qiR;omega
  obtain⟨hmx,hatt⟩:=hr.fr (by rw[hop])
  cases hQ:c (qiR r) with
  | none=>
   have e:doQ now c r=(⟨#[2]⟩,now,c):=by
    unfold doQ;rw[ho,hQ];rfl
   rw[e];exact op_no B r x st b (qiR r) 17 2 now c col w hE hb hop (by decide) (fun _=>rfl) hi hqi hQ Z o room hs hc W y ht
  | some Q=>
   have e:doQ now c r=doR now c (qiR r) Q r:=by
    unfold doQ;rw[ho,hQ];rfl
   rw[e];have hnew:idxL (isA r.att) Q.ats<0->Calls Tryz.prog 62 #[.pointer (some ⟨st,0,none⟩),.agg (cellsOf r y.v)] W fun e w'=>Tch [] W w'/\PlG B (fun w'=>JgO B w col w' x st o room) (fun t w'=>t=okL (ansL Q (min r.mx.toNat Q.rs.length) (min r.mx.toNat Q.rs.length))/\Did B x st b w col now (recvC c (qiR r) Q r.att (min r.mx.toNat Q.rs.length) now) w') e w':=fun hid=>
    op_R B r x st b (qiR r) r.mx.toNat (min r.mx.toNat Q.rs.length) now c col w hE hb ho hi hqi Q hQ hid hatt (by omega) (by omega) (by rw[Nat.min_def]) Z o room hs hc W y ht
   unfold doR
   cases ha:Q.ats[(idxL (isA r.att) Q.ats).toNat]? with
   | none=>
    simp only;refine hnew ?_;have h1:=idxL_lt (isA r.att) Q.ats;have h2:=List.getElem?_eq_none_iff.1 ha;omega
   | some a=>
    simp only
    by_cases hid:0<=idxL (isA r.att) Q.ats
    ·rw[if_pos hid];exact op_Rf B r x st b (qiR r) (idxL (isA r.att) Q.ats).toNat now c col w hE hb ho hi hqi Q hQ (Int.toNat_of_nonneg hid).symm a ha Z o room hs hc W y ht
    ·rw[if_neg hid];exact hnew (by omega)
 ·have ho:r.op=83:=op_eq hop (by decide);have hq:=hr.fq (by rw[hop];decide);have hqi:r.q.toNat=97+qiR r:=by unfold qiR;omega
  have hi:qiR r<8:=by unfold qiR;omega
  obtain⟨hgrp,hded,hbod⟩:=hr.fs (by rw[hop])
  cases hQ:c (qiR r) with
  | none=>
   have e:doQ now c r=(⟨#[2]⟩,now,c):=by
    unfold doQ;rw[ho,hQ];rfl
   rw[e];exact op_no B r x st b (qiR r) 18 3 now c col w hE hb hop (by decide) (fun _=>rfl) hi hqi hQ Z o room hs hc W y ht
  | some Q=>
   have e:doQ now c r=doS now c (qiR r) Q r:=by
    unfold doQ;rw[ho,hQ];rfl
   rw[e];unfold doS
   by_cases hb40:40<r.bod.size
   ·rw[if_pos hb40];exact op_Sb B r x st b (qiR r) now c col w hE hb ho hi hqi Q hQ ⟨hb40,by omega⟩ Z o room hs hc W y ht
   ·rw[if_neg hb40]
    by_cases hid:0<=idxL (isI (didS r)) Q.ds
    ·rw[if_pos hid];have hlt:=idxL_lt (isI (didS r)) Q.ds;have hpl:(idxL (isI (didS r)) Q.ds).toNat<Q.ds.length:=by omega
     have hW:=hb.wf (qiR r) Q hi hQ;have hnm:=(hW.dok _ (List.getElem_mem hpl)).2.1;rw[List.getElem?_eq_getElem hpl];exact op_Sf B r x st b (qiR r) (idxL (isI (didS r)) Q.ds).toNat _ now c col w hE hb ho hi hqi Q hQ (by omega) (Int.toNat_of_nonneg hid).symm hpl (by show _=((Q.ds[(idxL (isI (didS r)) Q.ds).toNat].num.toNat:Nat):Int);omega) Z o room hs hc W y ht
    ·rw[if_neg hid]
     by_cases hqu:Q.c.quo<=(Q.ms.length:Int)
     ·rw[if_pos hqu];exact op_Sr B r x st b (qiR r) now c col w hE hb ho hi hqi Q hQ (by omega) (by omega) 5 (.inl ⟨rfl,hqu⟩) Z o room hs hc W y ht
     ·rw[if_neg hqu]
      by_cases hnx:200<Q.next
      ·rw[if_pos hnx];exact op_Sr B r x st b (qiR r) now c col w hE hb ho hi hqi Q hQ (by omega) (by omega) 6 (.inr ⟨rfl,by omega,hnx⟩) Z o room hs hc W y ht
      ·rw[if_neg hnx];exact op_S B r x st b (qiR r) now c col w hE hb ho hi hqi Q hQ (by omega) (by omega) hgrp hded (by omega) (by omega) Z o room hs hc W y ht
 ·have ho:r.op=84:=op_eq hop (by decide);have htc:=hr.ft (.inr (by rw[hop]))
  by_cases hl:60000<now+r.tic
  ·have e:doQ now c r=(⟨#[9]⟩,now,c):=by
    unfold doQ;rw[ho,if_pos rfl,if_pos hl]
   rw[e];exact op_T9 B r x st b now c col w hE hb ho ⟨htc.1,htc.2,hl⟩ Z o room hs hc W y ht
  ·have e:doQ now c r=(okL [],now+r.tic,timeC (now+r.tic) c):=by
    unfold doQ;rw[ho,if_pos rfl,if_neg hl]
   rw[e];exact op_T B r x st b now c col w hE hb ho ⟨htc.1,by omega⟩ Z o room hs hc W y ht
 ·have ho:r.op=86:=op_eq hop (by decide);have hq:=hr.fq (by rw[hop];decide);have hqi:r.q.toNat=97+qiR r:=by unfold qiR;omega
  have hi:qiR r<8:=by unfold qiR;omega
  cases hQ:c (qiR r) with
  | none=>
   have e:doQ now c r=(⟨#[2]⟩,now,c):=by
    unfold doQ;rw[ho,hQ];rfl
   rw[e];exact op_no B r x st b (qiR r) 21 4 now c col w hE hb hop (by decide) (fun _=>rfl) hi hqi hQ Z o room hs hc W y ht
  | some Q=>
   have e:doQ now c r=(okL (allB Q),now,c):=by
    unfold doQ;rw[ho,hQ];rfl
   rw[e];exact op_V B r x st b (qiR r) now c col w hE hb ho hi hqi Q hQ Z o room hs hc W y ht
 ·have ho:r.op=88:=op_eq hop (by decide);have hq:=hr.fq (by rw[hop];decide);have hqi:r.q.toNat=97+qiR r:=by unfold qiR;omega
  have hi:qiR r<8:=by unfold qiR;omega
  cases hQ:c (qiR r) with
  | none=>
   have e:doQ now c r=(⟨#[2]⟩,now,c):=by
    unfold doQ;rw[ho,hQ];rfl
   rw[e];exact op_X2 B r x st b (qiR r) now c col w hE hb ho hi hqi hQ Z o room hs hc W y ht
  | some Q=>
   have e:doQ now c r=(okL [],now,setC c (qiR r) none):=by
    unfold doQ;rw[ho,hQ];rfl
   rw[e];exact op_X B r x st b (qiR r) now c col w hE hb ho hi hqi Q hQ Z o room hs hc W y ht
end Go.Proofs.YtbdobaapadlcjaaGreatDoor
