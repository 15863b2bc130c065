import Derived.Test.YtbdobaapadlcjaaGreatDoorBy28
set_option maxRecDepth 8000
set_option maxHeartbeats 8000000
set_option linter.unusedVariables false
set_option linter.unusedSimpArgs false
namespace Go.Proofs.YtbdobaapadlcjaaGreatDoor.Ref
open Go.RowKit Go.Proofs.YtbdobaapadlcjaaGreatDoor
variable {i:Nat}{Q:QM}
theorem b7i (Q:QM):mkS false (Q.ds.map mkD) (Q.ds.map mkD).length=dsL Q:=by
 unfold mkS dsL;rw[List.take_length,List.length_map,List.flatMap_map];rfl
theorem b7h (Q:QM):mkS true (Q.ats.map mkA) (Q.ats.map mkA).length=atL Q:=by
 unfold mkS atL;rw[List.take_length,List.length_map,List.flatMap_map];rfl
theorem new_any (w:World):Cp 45 #[] w fun e w'=>∃rb,e=.returned (zp rb)/\w.heap.size<=rb/\RG w' rb 0 (fun _=>none)/\Tch [] w w':=by
 have hb:(w.alloc (.cells #[.int .i64 0,.pointer none,.pointer none,.pointer none,.pointer none,.pointer none,.pointer none,.pointer none,.pointer none] 120)).heap[w.heap.size]?=some (.cells (stH 0 (ptR (fun _=>none))) 120 (0,0)):=heap_alloc_new _ _;have HB:Hid (RG (w.alloc (.cells #[.int .i64 0,.pointer none,.pointer none,.pointer none,.pointer none,.pointer none,.pointer none,.pointer none,.pointer none] 120)) w.heap.size 0 (fun _=>none)):=⟨hb,fun i x _ hx=>by simp at hx,fun i j x y _ _ _ hx=>by simp at hx⟩
 clear hb;go_enter Tryz.func45,Tryz.ntmps45;go_wp2_with fail;go_ret;exact⟨_,rfl,Nat.le_refl _,HB.out,(Tch.refl _ _).alloc _⟩
def vwM (Q:QM)(k:Nat):List UInt8:=([0]++xO Q.c++je Q.next 4++je Q.ms.length 1)++(Q.ms.take k).flatMap msB
def vwR (Q:QM)(k:Nat):List UInt8:=(vwM Q Q.ms.length++je Q.rs.length 1)++(Q.rs.take k).flatMap jx
theorem a6s (Q:QM)(k:Nat)(hk:k<Q.ms.length):vwM Q (k+1)=vwM Q k++msB Q.ms[k]:=by
 unfold vwM;rw[List.take_succ_eq_append_getElem hk,List.flatMap_append,<-List.append_assoc];simp
theorem a6t (Q:QM)(k:Nat)(hk:k<Q.rs.length):vwR Q (k+1)=vwR Q k++jx Q.rs[k]:=by
 unfold vwR;rw[List.take_succ_eq_append_getElem hk,List.flatMap_append,<-List.append_assoc];simp
theorem b0c (l:List ByteArray):jK l=l.flatMap jx:=by
 induction l with
 | nil=>simp[jK]
 | cons a t ih=>simp_all[jK]
theorem b7P (Q:QM):vwR Q Q.rs.length++dsL Q++atL Q=0::xD Q:=by
 unfold vwR vwM xD msL rsL;rw[List.take_length,List.take_length,b0c];simp[List.append_assoc]
theorem a8J (h:QW i Q)(k:Nat)(hk:k<=Q.ms.length):(vwM Q k).length<=13+60*k:=by
 induction k with
 | zero=>simp[vwM,jc,vo]
 | succ k ih=>
  have hkl:k<Q.ms.length:=by omega
  have hm:=h.mok _ (List.getElem_mem hkl);have:=hm.grp;have:=hm.bod;have:=ih (by omega);rw[a6s Q k hkl,List.length_append,a4P];omega
theorem b5d (h:QW i Q)(k:Nat)(hk:k<=Q.rs.length):(vwR Q k).length<=14+60*Q.ms.length+9*k:=by
 induction k with
 | zero=>
  have:=a8J h Q.ms.length (Nat.le_refl _);simp only[vwR,List.take_zero,List.flatMap_nil,List.append_nil,List.length_append,jc];omega
 | succ k ih=>
  have hkl:k<Q.rs.length:=by omega
  have:=h.rsz _ (List.getElem_mem hkl);have:=ih (by omega);rw[a6t Q k hkl,List.length_append,jp];omega
theorem b6z (c:Wp.Rq):c.op::kW c [] (Wp.lay 2)=[c.op,c.q]++xO c:=by
 rfl
theorem b5c (rb i:Nat)(now:Int)(Z:RZ)(r:Wp.Rq)(x:Sl)(y:RQ)(w:World)(h:RG w rb now Z)(hi:i<8)(hq:r.q.toNat=97+i)(hz:Z i=some y)(hW:QW i y.Q)(hT:TR y.Q y.ts y.cnt)(hop:y.Q.c.op.toNat=67):
  Cp 186 #[zp rb,.agg (ja r x.v)] w fun e w'=>e=.returned (.string (okL (xD y.Q)))/\RGS w w' rb Z now Z:=by
 have HS:=zH (h.st.tch (jG w r x) (by simp));have HQ:Hid (Cp 224 #[zp rb,.int .u8 (r.q.toNat:Int)] (bxR w r x) fun e w'=>e=.returned (zp y.qb)/\w'=bxR w r x):=by
  have h5:=kL rb now (ptR Z) r.q (bxR w r x) HS.out;rw[vz hi hq,kS hz]at h5;exact h5
 have HA0:Hid (∀W,zT 140 #[.int .i64 0] W (.string ⟨#[0]⟩)):=fun W=>jL 0 W
 have c1:=jN (w:=w) (r:=r) (x:=x) (Tch.refl [] _) 1 (.int .u8 (r.q.toNat:Int)) rfl;have HG:Hid (∀w',Tch [] (bxR w r x) w'->RGS w w' rb Z now Z):=fun w' ht=>h.rgs ((jG w r x).trans ht (fun _ h _=>h))
 have HRB:=zH ((h.rr i y hi hz).tch (jG w r x) (by simp));have HW:=zH hW;have hnx:=hW.nx;have hml:=hW.ml;have hrl:=hW.ok.rl;have HWR:Hid (∀W,zT 103 #[.agg (ja y.Q.c y.sl.v)] W (.string (BA ([y.Q.c.op,y.Q.c.q]++xO y.Q.c)))):=fun W=>by
  have a1:=hW.c.vis;have a2:=hW.c.win;have a3:=hW.c.rcv;have a4:=hW.c.quo;refine(a3u y.Q.c y.sl [] W hop (by omega) (by omega) (by omega) (by omega)).mono ?_;rintro e w' ⟨he,hb⟩;rw[b6z]at he;exact⟨he,Tch.of_below hb⟩
 have hwz:(BA ([y.Q.c.op,y.Q.c.q]++xO y.Q.c)).size=9:=by rw[jH,List.length_append,vo];rfl
 have HCUT:Hid ((BA ([y.Q.c.op,y.Q.c.q]++xO y.Q.c)).extract 2 9=BA (xO y.Q.c)):=by
  show _=_
  have e1:lf (BA ([y.Q.c.op,y.Q.c.q]++xO y.Q.c)) 2=BA (xO y.Q.c):=qU [y.Q.c.op,y.Q.c.q] _;rw[<-e1];unfold lf;rw[hwz,if_pos (by omega)]
 have HLW:Hid (∀n s W,n<4294967296->0<s->s<=8->zT 138 #[.int .i64 ((n:Nat):Int),.int .i64 ((s:Nat):Int)] W (.string (BA (je n s)))):=fun n s W h1 h2 h3=>(qe n s W h1 h2 h3).mono (by rintro e w' ⟨he,hb⟩;exact⟨he,Tch.of_below hb⟩)
 have HTX:Hid (∀s W,s.size<=255->zT 139 #[.string s] W (.string (BA (jx s)))):=fun s W h1=>(qh s W h1).mono (by rintro e w' ⟨he,hb⟩;exact⟨he,Tch.of_below hb⟩)
 have HHD:Hid (∀W,RR W y.qb y.V y.sl.v y.Q y.ts y.cnt->Cp 226 #[zp y.qb] W fun e w'=>∃sa sc,e=.returned (.slice sa y.Q.rs.length sc)/\w'.ownsRow W.heap.size 3 1 (.slice sa y.Q.rs.length sc) y.Q.rs.length (y.Q.rs.map (ixV y.Q))/\Tch [] W w'):=fun W hr=>(a3O i y.Q y.ts y.cnt y.V y.sl.v y.qb W hr hW hT).mono (by
  rintro e w' ⟨v,he,ho,ht'⟩;obtain⟨sa,sc,rfl⟩:=jl ho;exact⟨sa,sc,he,ho,ht'⟩)
 have HMD:Hid (∀W,RR W y.qb y.V y.sl.v y.Q y.ts y.cnt->zT 235 #[y.V.d,.bool false] W (.string (BA (dsL y.Q)))):=fun W hr=>(a3V false (y.Q.ds.map mkD) y.V.d W (by rw[List.length_map,<-a2I];exact rowO.of_own hr.d) (by rw[List.length_map];have:=hW.dl;omega) (fun m hm=>by
  obtain⟨d,hd,rfl⟩:=List.mem_map.1 hm;have h1:=hW.dok d hd;have h2:=hW.nx;exact⟨by show d.id.size<=255;omega,by show 0<=d.num/\d.num<4294967296;omega,by show 0<=d.til/\d.til<4294967296;omega,by show (⟨#[]⟩:ByteArray).size<=600;decide⟩)).mono (by
  rintro e w' ⟨he,ht⟩;rw[b7i]at he;exact⟨he,ht⟩)
 have HMA:Hid (∀W,RR W y.qb y.V y.sl.v y.Q y.ts y.cnt->zT 235 #[y.V.a,.bool true] W (.string (BA (atL y.Q)))):=fun W hr=>(a3V true (y.Q.ats.map mkA) y.V.a W (by rw[List.length_map,<-a2H];exact hr.a) (by rw[List.length_map];have:=hW.al;omega) (fun m hm=>by
  obtain⟨d,hd,rfl⟩:=List.mem_map.1 hm;have h1:=hW.aok d hd;exact⟨by show d.id.size<=255;omega,by show (0:Int)<=0/\(0:Int)<4294967296;omega,by show 0<=d.til/\d.til<4294967296;omega,by show d.ans.size<=600;omega⟩)).mono (by
  rintro e w' ⟨he,ht⟩;rw[b7h]at he;exact⟨he,ht⟩)
 have zd:(BA (dsL y.Q)).size<=3401:=by rw[jH];exact hW.ok.lens.2.2.1
 have za:(BA (atL y.Q)).size<=12301:=by rw[jH];exact hW.ok.lens.2.2.2
 obtain⟨sm,cm,hvm⟩:=jl (h.rr i y hi hz).m;obtain⟨sd,cd,hvd⟩:=jl (h.rr i y hi hz).d;obtain⟨st,ct,hva⟩:=xL (h.rr i y hi hz).a;have HRR:Hid (∀W,Tch [] (bxR w r x) W->RR W y.qb y.V y.sl.v y.Q y.ts y.cnt/\W.cell? ⟨y.qb,15,none⟩=some (.int .i64 (y.Q.next:Int))/\W.cell? ⟨y.qb,16,none⟩=some (.slice sm y.Q.ms.length cm)/\W.cell? ⟨y.qb,19,none⟩=some (.slice sd y.Q.ds.length cd)/\W.cell? ⟨y.qb,20,none⟩=some (.slice st y.Q.ats.length ct)/\y.qb<W.heap.size/\W.ownsRow 0 271 5 (.slice sm y.Q.ms.length cm) y.Q.ms.length (y.Q.ms.flatMap Ms.row)):=fun W ht=>by
  have h6:=HRB.out.tch ht (by simp);rw[<-hvm,<-hvd,<-hva];exact⟨h6,jb h6.blk 15 _ rfl,jb h6.blk 16 _ rfl,jb h6.blk 19 _ rfl,jb h6.blk 20 _ rfl,lt_of_block h6.blk,h6.m⟩
 have HFIN:Hid (BA (vwR y.Q y.Q.rs.length)++BA (dsL y.Q)++BA (atL y.Q)=okL (xD y.Q)):=by
  show _=_
  rw[kT,kT,b7P];rfl
 rw[hvd]at HMD;rw[hva]at HMA;have e0:=zL r x.v;have e1:ja y.Q.c y.sl.v=#[.int .u8 (y.Q.c.op.toNat:Int),.int .u8 (y.Q.c.q.toNat:Int),.int .u8 (y.Q.c.d.toNat:Int),.int .i64 y.Q.c.vis,.int .i64 y.Q.c.win,.int .i64 y.Q.c.rcv,.int .i64 y.Q.c.quo,.int .i64 y.Q.c.mx,.int .i64 y.Q.c.tic,.string y.Q.c.grp,.string y.Q.c.ded,.string y.Q.c.bod,.string y.Q.c.att,.string y.Q.c.han,y.sl.v]:=rfl;rw[e1]at HWR;clear h hq HS hW hT hop hvm hvd hva e1;generalize hbx:bxR w r x=wb at*
 have hal:w.alloc (.cells #[.int .u8 (r.op.toNat:Int),.int .u8 (r.q.toNat:Int),.int .u8 (r.d.toNat:Int),.int .i64 r.vis,.int .i64 r.win,.int .i64 r.rcv,.int .i64 r.quo,.int .i64 r.mx,.int .i64 r.tic,.string r.grp,.string r.ded,.string r.bod,.string r.att,.string r.han,x.v] 27)=wb:=by rw[<-hbx];rfl
 have c1a:=c1;rw[<-hal]at c1a;rw[e0];clear e0 hbx;have g0:wb.cell? ⟨y.qb,0,none⟩=some (.int .u8 (y.Q.c.op.toNat:Int)):=jb HRB.out.blk 0 _ rfl;have g1:wb.cell? ⟨y.qb,1,none⟩=some (.int .u8 (y.Q.c.q.toNat:Int)):=jb HRB.out.blk 1 _ rfl;have g2:wb.cell? ⟨y.qb,2,none⟩=some (.int .u8 (y.Q.c.d.toNat:Int)):=jb HRB.out.blk 2 _ rfl;have g3:wb.cell? ⟨y.qb,3,none⟩=some (.int .i64 y.Q.c.vis):=jb HRB.out.blk 3 _ rfl;have g4:wb.cell? ⟨y.qb,4,none⟩=some (.int .i64 y.Q.c.win):=jb HRB.out.blk 4 _ rfl;have g5:wb.cell? ⟨y.qb,5,none⟩=some (.int .i64 y.Q.c.rcv):=jb HRB.out.blk 5 _ rfl;have g6:wb.cell? ⟨y.qb,6,none⟩=some (.int .i64 y.Q.c.quo):=jb HRB.out.blk 6 _ rfl;have g7:wb.cell? ⟨y.qb,7,none⟩=some (.int .i64 y.Q.c.mx):=jb HRB.out.blk 7 _ rfl;have g8:wb.cell? ⟨y.qb,8,none⟩=some (.int .i64 y.Q.c.tic):=jb HRB.out.blk 8 _ rfl;have g9:wb.cell? ⟨y.qb,9,none⟩=some (.string y.Q.c.grp):=jb HRB.out.blk 9 _ rfl;have g10:wb.cell? ⟨y.qb,10,none⟩=some (.string y.Q.c.ded):=jb HRB.out.blk 10 _ rfl;have g11:wb.cell? ⟨y.qb,11,none⟩=some (.string y.Q.c.bod):=jb HRB.out.blk 11 _ rfl;have g12:wb.cell? ⟨y.qb,12,none⟩=some (.string y.Q.c.att):=jb HRB.out.blk 12 _ rfl;have g13:wb.cell? ⟨y.qb,13,none⟩=some (.string y.Q.c.han):=jb HRB.out.blk 13 _ rfl;have g14:wb.cell? ⟨y.qb,14,none⟩=some (y.sl.v):=jb HRB.out.blk 14 _ rfl;have lq:=lt_of_block HRB.out.blk;generalize BA ([y.Q.c.op,y.Q.c.q]++xO y.Q.c)=hd at*
 go_enter Tryz.func186,Tryz.ntmps186;go_wp2_with fail
 try rw[hal]
 clear hal c1 c1a;refine HQ.out.mono ?_;rintro e w1 ⟨rfl,h'⟩;have h'':=h'.symm;subst h'';clear HQ;go_wp2_with fail;refine(HWR.out _).mono ?_;rintro e w2 ⟨rfl,t2⟩;have T2:=zH t2;clear t2 HWR g0 g1 g2 g3 g4 g5 g6 g7 g8 g9 g10 g11 g12 g13 g14 lq;go_wp2_with fail;refine(HA0.out _).mono ?_;rintro e w3 ⟨rfl,t3⟩;have T3:Hid (Tch [] wb w3):=T2.out.trans t3 (fun _ h _=>h);obtain⟨_,q15,_,_,_,lq,_⟩:=HRR.out w3 T3.out;have HL4:Hid (∀W,zT 138 #[.int .i64 (y.Q.next:Int),.int .i64 4] W (.string (BA (je y.Q.next 4)))):=fun W=>HLW.out _ 4 W (by omega) (by decide) (by decide)
 have HL1:Hid (∀W,zT 138 #[.int .i64 (y.Q.ms.length:Int),.int .i64 1] W (.string (BA (je y.Q.ms.length 1)))):=fun W=>HLW.out _ 1 W (by omega) (by decide) (by decide)
 have HLR:Hid (∀W,zT 138 #[.int .i64 (y.Q.rs.length:Int),.int .i64 1] W (.string (BA (je y.Q.rs.length 1)))):=fun W=>HLW.out _ 1 W (by omega) (by decide) (by decide)
 have z5:(BA (xO y.Q.c)).size=7:=by rw[jH,vo]
 have z6:(BA (je y.Q.next 4)).size=4:=by rw[jH,jc]
 have z7:(BA (je y.Q.ms.length 1)).size=1:=by rw[jH,jc]
 have z8:(BA (je y.Q.rs.length 1)).size=1:=by rw[jH,jc]
 have HS0:Hid ((⟨#[0]⟩:ByteArray)++BA (xO y.Q.c)++BA (je y.Q.next 4)++BA (je y.Q.ms.length 1)=BA (vwM y.Q 0)):=by
  show BA [0]++_++_++_=_
  rw[kT,kT,kT];unfold vwM;simp
 have HZM:Hid (∀k,k<=y.Q.ms.length->(BA (vwM y.Q k)).size<=4000):=fun k hk=>by
  rw[jH];have:=a8J HW.out k hk;omega
 have HZR:Hid (∀k,k<=y.Q.rs.length->(BA (vwR y.Q k)).size<=8000):=fun k hk=>by
  rw[jH];have:=b5d HW.out k hk;omega
 have HSR:Hid (BA (vwM y.Q y.Q.ms.length)++BA (je y.Q.rs.length 1)=BA (vwR y.Q 0)):=by
  show _=_
  rw[kT];unfold vwR;simp
 clear t3;have hcu:=HCUT.out;clear HCUT;go_wp2_with fail;refine(HL4.out _).mono ?_;rintro e w4 ⟨rfl,t4⟩;have T4:Hid (Tch [] wb w4):=T3.out.trans t4 (fun _ h _=>h);clear t4 HL4 q15 lq;obtain⟨_,_,q16,_,_,lq,_⟩:=HRR.out w4 T4.out;go_wp2_with fail;refine(HL1.out _).mono ?_;rintro e w5 ⟨rfl,t5⟩;have T5:Hid (Tch [] wb w5):=T4.out.trans t5 (fun _ h _=>h);clear t5 HL1 q16 lq;generalize BA (xO y.Q.c)=s1 at*
 generalize BA (je y.Q.next 4)=s2 at*
 generalize BA (je y.Q.ms.length 1)=s3 at*
 go_upto_region 10 with fail
 rw[HS0.out];go_wp2_with fail
 go_loopw [7,10] (fun sv v wr=>∃k:Nat,k<=y.Q.ms.length/\sv=.string (BA (vwM y.Q k))/\v=.int .i64 (k:Int)/\Tch [] wb wr) (fun _ v _=>y.Q.ms.length-(intOf v).toNat)
 case atStart=>exact⟨0,Nat.zero_le _,rfl,rfl,T5.out⟩
 case round=>
  obtain⟨k,hk,rfl,rfl,htr⟩:=hrel;have HTR:=zH htr;obtain⟨_,_,q16,_,_,lq,hom⟩:=HRR.out wr htr
  by_cases hlt:k<y.Q.ms.length
  ·have hm:=HW.out.mok _ (List.getElem_mem hlt);have m1:=hm.num;have m2:=hm.rcv;have m3:=hm.til;obtain⟨gb,cap,hv,lg,hcs⟩:=kA Ms.row 5 (fun _=>rfl) hom k hlt;simp only[Value.slice.injEq,true_and]at hv;obtain⟨rfl,rfl⟩:=hv;have d0:wr.cell? ⟨gb,k*5,none⟩=some (.int .i64 (y.Q.ms[k].num.toNat:Int)):=by rw[Int.toNat_of_nonneg (by omega)];exact hcs 0 _ rfl
   have d1:wr.cell? ⟨gb,k*5+1,none⟩=some (.string y.Q.ms[k].grp):=hcs 1 _ rfl;have d2:wr.cell? ⟨gb,k*5+2,none⟩=some (.string y.Q.ms[k].bod):=hcs 2 _ rfl;have d3:wr.cell? ⟨gb,k*5+3,none⟩=some (.int .i64 (y.Q.ms[k].rcv.toNat:Int)):=by rw[Int.toNat_of_nonneg (by omega)];exact hcs 3 _ rfl
   have d4:wr.cell? ⟨gb,k*5+4,none⟩=some (.int .i64 (y.Q.ms[k].til.toNat:Int)):=by rw[Int.toNat_of_nonneg (by omega)];exact hcs 4 _ rfl
   have A1:Hid (∀W,zT 138 #[.int .i64 (y.Q.ms[k].num.toNat:Int),.int .i64 4] W (.string (BA (je y.Q.ms[k].num.toNat 4)))):=fun W=>HLW.out _ 4 W (by omega) (by decide) (by decide)
   have A2:Hid (∀W,zT 139 #[.string y.Q.ms[k].grp] W (.string (BA (jx y.Q.ms[k].grp)))):=fun W=>HTX.out _ W (by have:=hm.grp;omega)
   have A3:Hid (∀W,zT 139 #[.string y.Q.ms[k].bod] W (.string (BA (jx y.Q.ms[k].bod)))):=fun W=>HTX.out _ W (by have:=hm.bod;omega)
   have A4:Hid (∀W,zT 138 #[.int .i64 (y.Q.ms[k].rcv.toNat:Int),.int .i64 2] W (.string (BA (je y.Q.ms[k].rcv.toNat 2)))):=fun W=>HLW.out _ 2 W (by omega) (by decide) (by decide)
   have A5:Hid (∀W,zT 138 #[.int .i64 (y.Q.ms[k].til.toNat:Int),.int .i64 4] W (.string (BA (je y.Q.ms[k].til.toNat 4)))):=fun W=>HLW.out _ 4 W (by omega) (by decide) (by decide)
   have HEQ:Hid (BA (vwM y.Q k)++BA (je y.Q.ms[k].num.toNat 4)++BA (jx y.Q.ms[k].grp)++BA (jx y.Q.ms[k].bod)++BA (je y.Q.ms[k].rcv.toNat 2)++BA (je y.Q.ms[k].til.toNat 4)=BA (vwM y.Q (k+1))):=by
    show _=_
    rw[a6s y.Q k hlt];unfold msB;rw[kT,kT,kT,kT,kT];simp only[List.append_assoc]
   have y0:=HZM.out k hk;have y1:(BA (je y.Q.ms[k].num.toNat 4)).size=4:=by rw[jH,jc]
   have y2:(BA (jx y.Q.ms[k].grp)).size<=9:=by rw[jH,jp];have:=hm.grp;omega
   have y3:(BA (jx y.Q.ms[k].bod)).size<=41:=by rw[jH,jp];have:=hm.bod;omega
   have y4:(BA (je y.Q.ms[k].rcv.toNat 2)).size=2:=by rw[jH,jc]
   have y5:(BA (je y.Q.ms[k].til.toNat 4)).size=4:=by rw[jH,jc]
   have hkI:(k:Int)<(y.Q.ms.length:Int):=by omega
   clear hm m1 m2 m3 hcs hom htr HLW HTX;generalize BA (vwM y.Q k)=S0 at*
   generalize BA (je y.Q.ms[k].num.toNat 4)=S1 at*
   generalize BA (jx y.Q.ms[k].grp)=S2 at*
   generalize BA (jx y.Q.ms[k].bod)=S3 at*
   generalize BA (je y.Q.ms[k].rcv.toNat 2)=S4 at*
   generalize BA (je y.Q.ms[k].til.toNat 4)=S5 at*
   generalize y.Q.ms[k].num.toNat=nm at*
   generalize y.Q.ms[k].rcv.toNat=rcn at*
   generalize y.Q.ms[k].til.toNat=tln at*
   generalize y.Q.ms[k].grp=gk at*
   generalize y.Q.ms[k].bod=bk at*
   have HCL:Hid (∀W,Tch [] (wr.alloc (.cells #[.int .i64 (nm:Int),.string gk,.string bk,.int .i64 (rcn:Int),.int .i64 (tln:Int)] 271)) W->W.cell? ⟨wr.heap.size,1,none⟩=some (.string gk)/\W.cell? ⟨wr.heap.size,2,none⟩=some (.string bk)/\W.cell? ⟨wr.heap.size,3,none⟩=some (.int .i64 (rcn:Int))/\W.cell? ⟨wr.heap.size,4,none⟩=some (.int .i64 (tln:Int))/\wr.heap.size<W.heap.size):=fun W ht=>by
    have hb:W.heap[wr.heap.size]?=some (.cells #[.int .i64 (nm:Int),.string gk,.string bk,.int .i64 (rcn:Int),.int .i64 (tln:Int)] 271 (0,0)):=(ht.block _ (by simp) (by simp)).trans (heap_alloc_new _ _);exact⟨jb hb 1 _ rfl,jb hb 2 _ rfl,jb hb 3 _ rfl,jb hb 4 _ rfl,lt_of_block hb⟩
   have HTW:Hid (Tch [] wb (wr.alloc (.cells #[.int .i64 (nm:Int),.string gk,.string bk,.int .i64 (rcn:Int),.int .i64 (tln:Int)] 271))):=HTR.out.alloc _;go_wp2_with fail;refine(A1.out _).mono ?_;rintro e v1 ⟨rfl,t1⟩;have B1:=zH t1;obtain⟨c1,c2,c3,c4,lc⟩:=HCL.out v1 B1.out;clear t1 A1 d0 d1 d2 d3 d4 lg q16 lq c2 c3 c4;go_wp2_with fail;refine(A2.out _).mono ?_;rintro e v2 ⟨rfl,t2⟩;have B2:Hid (Tch [] (wr.alloc (.cells #[.int .i64 (nm:Int),.string gk,.string bk,.int .i64 (rcn:Int),.int .i64 (tln:Int)] 271)) v2):=B1.out.trans t2 (fun _ h _=>h);clear t2 A2 c1 lc;obtain⟨c1,c2,c3,c4,lc⟩:=HCL.out v2 B2.out;clear c1 c3 c4;go_wp2_with fail;refine(A3.out _).mono ?_;rintro e v3 ⟨rfl,t3⟩;have B3:Hid (Tch [] (wr.alloc (.cells #[.int .i64 (nm:Int),.string gk,.string bk,.int .i64 (rcn:Int),.int .i64 (tln:Int)] 271)) v3):=B2.out.trans t3 (fun _ h _=>h);clear t3 A3 c2 lc;obtain⟨c1,c2,c3,c4,lc⟩:=HCL.out v3 B3.out;clear c1 c2 c4;go_wp2_with fail;refine(A4.out _).mono ?_;rintro e v4 ⟨rfl,t4⟩;have B4:Hid (Tch [] (wr.alloc (.cells #[.int .i64 (nm:Int),.string gk,.string bk,.int .i64 (rcn:Int),.int .i64 (tln:Int)] 271)) v4):=B3.out.trans t4 (fun _ h _=>h);clear t4 A4 c3 lc;obtain⟨c1,c2,c3,c4,lc⟩:=HCL.out v4 B4.out;clear c1 c2 c3;go_wp2_with fail;refine(A5.out _).mono ?_;rintro e v5 ⟨rfl,t5⟩;have B5:=zH (HTW.out.trans (B4.out.trans t5 (fun _ h _=>h)) (fun _ h _=>h));clear t5 A5 c4 lc HCL B1 B2 B3 B4 HTW;go_wp2_with fail;go_roundw
   case rel=>exact⟨k+1,by omega,by rw[HEQ.out],by go_num,B5.out⟩
   case measure=>simp[intOf];omega
  ·have hke:k=y.Q.ms.length:=by omega
   have HRX:=zH ((HRR.out wr htr).1);have HEK:Hid (BA (vwM y.Q k)=BA (vwM y.Q y.Q.ms.length)):=by
    show _=_
    rw[hke]
   have hkn:¬(k:Int)<(y.Q.ms.length:Int):=by omega
   rw[HEK.out];have y0:=HZM.out y.Q.ms.length (Nat.le_refl _);clear hom htr hke;generalize wr=wa at*
   go_wp2_with fail;refine(HHD.out _ HRX.out).mono ?_;rintro e w6 ⟨sa,sc,rfl,ho6,t6⟩;have HO6:=zH ho6;have T6:=zH (HTR.out.trans t6 (fun _ h _=>h));clear ho6 t6 HHD q16 lq;go_wp2_with fail;refine(HLR.out _).mono ?_;rintro e w7 ⟨rfl,t7⟩;have T67:=zH t7;clear t7 HLR;generalize BA (vwM y.Q y.Q.ms.length)=s5 at*
   generalize BA (je y.Q.rs.length 1)=s6 at*
   go_upto_region 23 with fail
   rw[HSR.out];go_wp2_with fail
   go_loopw [7,18] (fun sv v wr=>∃k:Nat,k<=y.Q.rs.length/\sv=.string (BA (vwR y.Q k))/\v=.int .i64 (k:Int)/\Tch [] w6 wr) (fun _ v _=>y.Q.rs.length-(intOf v).toNat)
   case atStart=>exact⟨0,Nat.zero_le _,rfl,rfl,T67.out⟩
   case round=>
    obtain⟨j,hj,rfl,rfl,htr⟩:=hrel;have HTS:=zH htr;have HTT:Hid (Tch [] wb wr):=T6.out.trans htr (fun _ h _=>h)
    by_cases hlt:j<y.Q.rs.length
    ·obtain⟨p,hp⟩:∃p:Nat,ixG y.Q y.Q.rs[j]=(p:Int):=⟨_,(Int.toNat_of_nonneg (HW.out.hidx (List.getElem_mem hlt))).symm⟩;obtain⟨hpl,hpg⟩:=a5R hp;have A1:Hid (∀W,zT 139 #[.string y.Q.rs[j]] W (.string (BA (jx y.Q.rs[j])))):=fun W=>HTX.out _ W (by have:=HW.out.rsz _ (List.getElem_mem hlt);omega)
     have HCE:Hid (∀W,Tch [] wr W->(∃gb gh ch,sm=some ⟨gb,0,none⟩/\sa=some ⟨gh,0,none⟩/\sc=ch/\W.cell? ⟨gb,p*5+1,none⟩=some (.string y.Q.rs[j])/\W.cell? ⟨gh,j,none⟩=some (.int .i64 (p:Int))/\gb<W.heap.size/\gh<W.heap.size)/\W.cell? ⟨y.qb,16,none⟩=some (.slice sm y.Q.ms.length cm)/\y.qb<W.heap.size):=fun W ht=>by
      have tt:=HTT.out.trans ht (fun _ h _=>h);have ts:=HTS.out.trans ht (fun _ h _=>h);obtain⟨_,_,q16,_,_,lq,hom⟩:=HRR.out W tt;have hoh:=jf HO6.out ts (fun _ _=>by simp);obtain⟨gb,cap,hv,lg,hcs⟩:=kA Ms.row 5 (fun _=>rfl) hom p hpl;obtain⟨gh,ch,hvh,lgh,hch⟩:=kA (fun g=>[ixV y.Q g]) 1 (fun _=>rfl) (l:=y.Q.rs) (by rw[a2J];exact a5V hoh) j hlt;simp only[Value.slice.injEq,true_and]at hv hvh;have d1:=hcs 1 _ rfl;rw[hpg]at d1;have d0:=hch 0 _ rfl;rw[Nat.mul_one,Nat.add_zero]at d0;unfold ixV at d0;rw[hp]at d0;exact⟨⟨gb,gh,ch,hv.1,hvh.1,hvh.2,d1,d0,lg,lgh⟩,q16,lq⟩
     obtain⟨⟨gb,gh,ch,rfl,rfl,rfl,d1,d0,lg,lgh⟩,q16,lq⟩:=HCE.out wr (Tch.refl _ _);have HCF:Hid (∀W,Tch [] wr W->(W.cell? ⟨gb,p*5+1,none⟩=some (.string y.Q.rs[j])/\W.cell? ⟨gh,j,none⟩=some (.int .i64 (p:Int))/\gb<W.heap.size/\gh<W.heap.size)/\W.cell? ⟨y.qb,16,none⟩=some (.slice (some ⟨gb,0,none⟩) y.Q.ms.length cm)/\y.qb<W.heap.size):=fun W ht=>by
      obtain⟨⟨gb',gh',ch',e1,e2,e3,f1,f0,g1,g2⟩,f3,f4⟩:=HCE.out W ht;simp only[Option.some.injEq,Addr.mk.injEq,and_true]at e1 e2;subst e1;subst e2;exact⟨⟨f1,f0,g1,g2⟩,f3,f4⟩
     have HEQ:Hid (BA (vwR y.Q j)++BA (jx y.Q.rs[j])=BA (vwR y.Q (j+1))):=by
      show _=_
      rw[a6t y.Q j hlt,kT]
     have x0:=HZR.out j hj;have x1:(BA (jx y.Q.rs[j])).size<=9:=by rw[jH,jp];have:=HW.out.rsz _ (List.getElem_mem hlt);omega
     have hjI:(j:Int)<(y.Q.rs.length:Int):=by omega
     have hpI:(p:Int)<(y.Q.ms.length:Int):=by omega
     have hp0:(0:Int)<=(p:Int):=by omega
     clear hp hpg htr HCE HTX HLW;generalize BA (vwR y.Q j)=S0 at*
     generalize BA (jx y.Q.rs[j])=S1 at*
     generalize y.Q.rs[j]=gj at*
     go_wp2_with fail
     go_region_held3 (fun w'=>w'.cell? ⟨y.qb,16,none⟩=some (.slice (some ⟨gb,0,none⟩) y.Q.ms.length cm)/\w'.cell? ⟨gb,p*5+1,none⟩=some (.string gj)/\w'.cell? ⟨gh,j,none⟩=some (.int .i64 (p:Int))) (go_keep) (first|(go_at_call 139;refine(A1.out _).mono ?_;rintro e wh ⟨rfl,hh⟩;have TH:Hid (Tch [] wr wh):=(show Tch [] wr _ by first|exact Tch.refl _ _|exact(Tch.refl [] _).drew|exact(Tch.refl [] _).drewN _).trans hh (fun _ h _=>h);obtain⟨⟨k0,k1,k2,k3⟩,k4,k5⟩:=HCF.out wh TH.out;clear hh))
     all_goals
      clear d1 d0 lg lgh q16 lq k0 k1 k2 k3 k4 k5 A1 HCF;go_wp2_with fail;go_roundw
      case rel=>exact⟨j+1,by omega,by rw[HEQ.out],by go_num,HTS.out.trans TH.out (fun _ h _=>h)⟩
      case measure=>simp[intOf];omega
    ·have hje:j=y.Q.rs.length:=by omega
     have HEJ:Hid (BA (vwR y.Q j)=BA (vwR y.Q y.Q.rs.length)):=by
      show _=_
      rw[hje]
     have hjn:¬(j:Int)<(y.Q.rs.length:Int):=by omega
     have x0:=HZR.out y.Q.rs.length (Nat.le_refl _);rw[HEJ.out];obtain⟨hr1,_,_,q19,_,lq,_⟩:=HRR.out wr HTT.out;have HR1:=zH hr1;clear hr1 htr hje;go_wp2_with fail;refine(HMD.out _ HR1.out).mono ?_;rintro e w8 ⟨rfl,t8⟩;have T8:=zH (HTT.out.trans t8 (fun _ h _=>h));obtain⟨hr2,_,_,_,q20,lq2,_⟩:=HRR.out w8 T8.out;have HR2:=zH hr2;clear hr2 t8 q19 lq HMD;go_wp2_with fail;refine(HMA.out _ HR2.out).mono ?_;rintro e w9 ⟨rfl,t9⟩;have HGF:=zH (HG.out w9 (T8.out.trans t9 (fun _ h _=>h)));clear t9 q20 lq2 HMA HG;generalize BA (vwR y.Q y.Q.rs.length)=s7 at*
     generalize BA (dsL y.Q)=s8 at*
     generalize BA (atL y.Q)=s9 at*
     go_wp2_with fail;go_ret;exact⟨congrArg (fun s=>Ending.returned (.string s)) HFIN.out,HGF.out⟩
end Go.Proofs.YtbdobaapadlcjaaGreatDoor.Ref
namespace Go.Proofs.YtbdobaapadlcjaaGreatDoor
open Go.RowKit
variable {c:Nat->Option QM}
def OpC (c:Nat->Option QM):Prop:=∀i Q,c i=some Q->Q.c.op=67
theorem OpC.set (h:OpC c)(i:Nat)(v:Option QM)(hv:∀Q,v=some Q->Q.c.op=67):OpC (jI c i v):=fun j Q hj=>by
 unfold jI at hj
 by_cases e:j=i
 ·rw[if_pos e]at hj;exact hv Q hj
 ·rw[if_neg e]at hj;exact h j Q hj
theorem OpC.one (h:OpC c){i:Nat}{Q Q':QM}(hQ:c i=some Q)(hc:Q'.c=Q.c):OpC (jI c i (some Q')):=h.set i _ (fun T hT=>by
 obtain rfl:=Option.some.inj hT;rw[hc];exact h i Q hQ)
theorem b3G (Q:QM)(num:Int):(qw Q num).c=Q.c:=by unfold qw;split<;>rfl
theorem b0G {r:Wp.Rq}{j:Nat}{T:QM}(h:qS c r=some (j,T)):c j=some T:=by
 unfold qS at h
 cases hd:xl r with
 | none=>rw[hd]at h;cases h
 | some k=>
  rw[hd]at h
  cases hx:c k with
  | none=>simp[hx]at h
  | some T'=>
   simp[hx]at h;obtain⟨rfl,rfl⟩:=h;exact hx
theorem OpC.back (h:OpC c)(i:Nat)(num:Int):OpC (qp c i num):=by
 unfold qp
 cases hQ:c i with
 | none=>exact h
 | some Q=>
  simp only
  cases hf:Q.ms.find? (isN num) with
  | none=>exact h
  | some m=>
   simp only;have h1:∀Q':QM,Q'.c=Q.c->OpC (jI c i (some Q')):=fun Q' hc=>h.one hQ hc
   cases hd:qS c Q.c with
   | none=>exact h1 _ (a1O Q num 0)
   | some p=>
    obtain⟨j,T⟩:=p;simp only
    split
    ·refine OpC.set (h1 {jm Q num 0 with ms:=(jm Q num 0).ms.filter (fun x=>!isG m.grp x)} (a1O Q num 0)) j _ (fun T' hT=>?_);obtain rfl:=Option.some.inj hT;rw[b7o];exact h j T (b0G hd)
    ·exact h1 _ (a1O Q num 0)
theorem OpC.bring (h:OpC c)(now:Int)(i:Nat):OpC (qm now c i):=by
 unfold qm
 split
 ·exact h
 ·rename_i Q hQ
  clear hQ;generalize a2f now Q.ms=l
  induction l generalizing c with
  | nil=>exact h
  | cons n l ih=>exact ih (h.back i n)
theorem OpC.time (h:OpC c)(now:Int):OpC (b9M now c):=by
 unfold b9M;have h0:OpC (kX now 8 c):=fun i Q hQ=>by
  unfold kX at hQ
  split at hQ
  ·cases hx:c i with
   | none=>rw[hx]at hQ;cases hQ
   | some T=>
    rw[hx]at hQ;simp at hQ;rw[<-hQ];exact h i T hx
  ·exact h i Q hQ
 generalize kX now 8 c=d at h0;clear h;generalize List.range' 0 8=l
 induction l generalizing d with
 | nil=>exact h0
 | cons n l ih=>exact ih _ (h0.bring now n)
theorem OpC.doQ (h:OpC c)(now:Int)(r:Wp.Rq):OpC (doQ now c r).2.2:=by
 have hA:∀(f:Nat->QM->Nat->(Nat->Option QM)),(∀i Q num,c i=some Q->OpC (f i Q num))->OpC (doA now c r f).2.2:=fun f hf=>by
  unfold doA
  split
  ·exact h
  ·rename_i i num rcv _
   split
   ·exact h
   ·rename_i Q hQ
    split
    ·exact hf i Q num hQ
    ·exact h
 unfold Go.Proofs.YtbdobaapadlcjaaGreatDoor.doQ
 split
 ·split
  ·exact h
  ·exact h.time _
 ·split
  ·exact hA _ (fun i Q num hQ=>h.one hQ (b3G Q num))
  ·split
   ·refine hA _ (fun i Q num hQ=>?_);unfold zv
    split
    ·exact h.back i num
    ·exact h.one hQ (a1O Q num _)
   ·split
    ·split
     ·rename_i ho
      exact h.set _ _ (fun Q hQ=>by
       obtain rfl:=Option.some.inj hQ;exact ho)
     ·exact h
    ·rename_i Q hQ
     split
     ·exact h
     ·split
      ·exact h.set _ _ (fun Q hQ=>by cases hQ)
      ·split
       ·exact h.one hQ rfl
       ·split
        ·exact h
        ·split
         ·have hR:OpC (zP c (qiR r) Q r.att (min r.mx.toNat Q.rs.length) now):=by
           unfold zP
           split
           ·exact h
           ·refine h.one hQ ?_;unfold vA b9N
            split<;>rfl
          unfold doR
          split
          ·split
           ·exact h
           ·exact hR
          ·exact hR
         ·unfold doS
          split
          ·exact h
          ·split
           ·exact h
           ·split
            ·exact h
            ·split
             ·exact h
             ·exact h.one hQ rfl
end Go.Proofs.YtbdobaapadlcjaaGreatDoor
namespace Go.Proofs.YtbdobaapadlcjaaGreatDoor.Ref
open Go.RowKit Go.Proofs.YtbdobaapadlcjaaGreatDoor
variable {now nw:Int}{c c2:Nat->Option QM}{i rb N k:Nat}{Q:QM}{m:Ms}{w wr:World}{Z:RZ}
def a3f (n f:Nat):Prop:=(n=67/\f=178)\/(n=88/\f=179)\/(n=80/\f=180)\/(n=83/\f=181)\/(n=82/\f=182)\/(n=65/\f=183)\/(n=69/\f=184)\/(n=84/\f=185)\/(n=86/\f=186)\/(n=66/\f=187)
theorem vT (n f:Nat)(hof:a3f n f)(P:ByteArray->World->Prop)(rb:Nat)(r:Wp.Rq)(x:Sl)(w:World)(hop:r.op.toNat=n)(HC:∀W,Tch [] w W->Cp f #[zp rb,.agg (ja r x.v)] W fun e w'=>∃s,e=.returned (.string s)/\P s w'):
  Cp 141 #[zp rb,.agg (ja r x.v)] w fun e w'=>∃s,e=.returned (.string s)/\P s w':=by
 have HCW:Hid (Cp f #[zp rb,.agg (ja r x.v)] (bxR w r x) fun e w'=>∃s,e=.returned (.string s)/\P s w'):=HC _ (jG w r x);have c0:=jN (w:=w) (r:=r) (x:=x) (Tch.refl [] _) 0 (.int .u8 (r.op.toNat:Int)) rfl;have hinf:=jS;rw[hop]at c0;clear HC hop;rcases hof with ⟨rfl,rfl⟩|⟨rfl,rfl⟩|⟨rfl,rfl⟩|⟨rfl,rfl⟩|⟨rfl,rfl⟩|⟨rfl,rfl⟩|⟨rfl,rfl⟩|⟨rfl,rfl⟩|⟨rfl,rfl⟩|⟨rfl,rfl⟩
 all_goals
  go_enter Tryz.func141,Tryz.ntmps141;go_wp2_with (refine wpList_load_row rfl 27 _ rfl w.heap.size rfl 27 (ja r x.v) (0,0) _ (heap_alloc_new _ _) Tryz.underlying27 rfl hinf ?_);refine HCW.out.mono ?_;rintro e w1 ⟨s,rfl,hp⟩;have HP:=zH hp;clear hp HCW;go_wp2_with fail;go_ret;exact⟨s,rfl,HP.out⟩
abbrev a8d (now:Int)(m:Ms):Bool:=decide (0<m.til/\m.til<=now)
theorem a2E (now:Int)(l:List Ms):(xi now l).Pairwise (fun a b=>a0T a b=true):=List.pairwise_mergeSort (fun a b c h1 h2=>by
  unfold a0T at*
  rw[decide_eq_true_eq] at*
  omega) (fun a b=>by
  unfold a0T;rw[Bool.or_eq_true,decide_eq_true_eq,decide_eq_true_eq];omega) _
theorem b0Q {l l':List Ms}(hu:Ups l)(hp:l'.Perm (kJ now l))(ha:l'.Pairwise (fun a b=>a0T a b=true)):l'=xi now l:=by
 have h1:(xi now l).Perm (kJ now l):=List.mergeSort_perm _ _;refine List.Perm.eq_of_pairwise (le:=fun a b=>a0T a b=true) (fun a b hla hlb hab hba=>?_) ha (a2E now l) (hp.trans h1.symm);have ma:a∈l:=(List.mem_filter.1 (hp.subset hla)).1;have mb:b∈l:=(List.mem_filter.1 (h1.subset hlb)).1;refine vx hu ma mb ?_;unfold a0T at hab hba;rw[decide_eq_true_eq]at hab hba;omega
theorem b1Z (now:Int)(ms:List Ms):∀i,i<=ms.length->
  (ovB now ms i=-1/\∀k (hk:k<ms.length),k<i->a8d now ms[k]=false)\/
  (∃j,∃hj:j<ms.length,j<i/\ovB now ms i=(j:Int)/\a8d now ms[j]=true/\∀k (hk:k<ms.length),k<i->a8d now ms[k]=true->ms[j].til<ms[k].til\/ms[j].til=ms[k].til/\j<=k)
 | 0,_=>.inl ⟨rfl,fun k _ h=>by omega⟩
 | i+1,hi=>by
  have hl:i<ms.length:=by omega
  have hs:=a5U now ms i hl;rcases b1Z now ms i (by omega) with ⟨h1,h2⟩|⟨j,hj,hji,h1,h2,h3⟩
  ·rw[h1]at hs
   by_cases hd:0<ms[i].til/\ms[i].til<=now
   ·rw[if_pos ⟨hd,.inl (by decide)⟩]at hs;refine .inr ⟨i,hl,by omega,hs,decide_eq_true hd,fun k hk hki hdk=>?_⟩
    by_cases e:k=i
    ·subst e;exact .inr ⟨rfl,Nat.le_refl _⟩
    ·rw[h2 k hk (by omega)]at hdk;exact absurd hdk (by decide)
   ·rw[if_neg (fun e=>hd e.1)]at hs;refine .inl ⟨hs,fun k hk hki=>?_⟩
    by_cases e:k=i
    ·subst e;exact decide_eq_false hd
    ·exact h2 k hk (by omega)
  ·rw[h1]at hs;have ht:a2a ms (j:Int)=ms[j].til:=by
    unfold a2a;rw[Int.toNat_natCast,List.getElem?_eq_getElem hj];rfl
   rw[ht]at hs
   by_cases hd:(0<ms[i].til/\ms[i].til<=now)/\((j:Int)<0\/ms[i].til<ms[j].til)
   ·rw[if_pos hd]at hs;have hlt:=hd.2.resolve_left (by omega);refine .inr ⟨i,hl,by omega,hs,decide_eq_true hd.1,fun k hk hki hdk=>?_⟩
    by_cases e:k=i
    ·subst e;exact .inr ⟨rfl,Nat.le_refl _⟩
    ·have:=h3 k hk (by omega) hdk;exact .inl (by omega)
   ·rw[if_neg hd]at hs;refine .inr ⟨j,hj,by omega,hs,h2,fun k hk hki hdk=>?_⟩
    by_cases e:k=i
    ·subst e;have hdk':=of_decide_eq_true hdk;have:¬ms[k].til<ms[j].til:=fun e=>hd ⟨hdk',.inr e⟩
     omega
    ·exact h3 k hk (by omega) hdk
theorem a9F (now:Int)(ms:List Ms)(hu:Ups ms):(ovB now ms ms.length=-1/\xi now ms=[])\/∃j,∃hj:j<ms.length,ovB now ms ms.length=(j:Int)/\0<ms[j].til/\∃tl,xi now ms=ms[j]::tl:=by
 have hp:(xi now ms).Perm (kJ now ms):=List.mergeSort_perm _ _;rcases b1Z now ms ms.length (Nat.le_refl _) with ⟨h1,h2⟩|⟨j,hj,_,h1,h2,h3⟩
 ·refine .inl ⟨h1,?_⟩;have h4:kJ now ms=[]:=by
   unfold kJ;rw[List.filter_eq_nil_iff];intro m hm;obtain⟨k,hk,rfl⟩:=List.mem_iff_getElem.1 hm;have:=h2 k hk hk;simpa [a8d]using this
  rw[h4]at hp;exact hp.eq_nil
 ·have hmj:ms[j]∈xi now ms:=hp.symm.subset (List.mem_filter.2 ⟨List.getElem_mem hj,h2⟩);refine .inr ⟨j,hj,h1,(of_decide_eq_true h2).1,?_⟩
  cases hd:xi now ms with
  | nil=>rw[hd]at hmj;simp at hmj
  | cons a tl=>
   refine⟨tl,?_⟩;have ha:a∈xi now ms:=by rw[hd];exact List.mem_cons_self
   obtain⟨ha1,ha2,ha3⟩:=a2D ha;obtain⟨k,hk,rfl⟩:=List.mem_iff_getElem.1 ha1;have h4:=h3 k hk hk (decide_eq_true ⟨ha2,ha3⟩);have hpw:=a2E now ms;rw[hd]at hpw hmj;congr 1;rcases List.mem_cons.1 hmj with e|e
   ·exact e.symm
   ·have h5:=(List.pairwise_cons.1 hpw).1 _ e;unfold a0T at h5;rw[decide_eq_true_eq]at h5;refine vx hu (List.getElem_mem hk) (List.getElem_mem hj) ?_;have hle:j<=k->ms[j].num<=ms[k].num:=fun hjk=>by
     by_cases e:j=k
     ·subst e;exact Int.le_refl _
     ·have:=List.pairwise_iff_getElem.1 hu j k hj hk (by omega);omega
    rcases h4 with h4|⟨h4,h6⟩
    ·omega
    ·have:=hle h6;omega
theorem a7Z (now num:Int)(l:List Ms):kJ now (l.map (kZ num 0))=(kJ now l).filter (fun a=>!isN num a):=by
 unfold kJ
 induction l with
 | nil=>rfl
 | cons a r ih=>
  rw[List.map_cons,List.filter_cons,List.filter_cons,ih]
  by_cases hn:isN num a=true
  ·have e:kZ num 0 a={a with til:=0}:=by unfold kZ;rw[if_pos hn]
   rw[e];have e2:decide (0<({a with til:=0}:Ms).til/\({a with til:=0}:Ms).til<=now)=false:=decide_eq_false (fun h=>by have:=h.1;simp at this);rw[e2];simp only[Bool.false_eq_true,if_false]
   split
   ·rw[List.filter_cons,hn];rfl
   ·rfl
  ·have e:kZ num 0 a=a:=by unfold kZ;rw[if_neg hn]
   rw[e]
   split
   ·rw[List.filter_cons];have:isN num a=false:=by simpa using hn
    rw[this];rfl
   ·rfl
theorem b0n {num:Int}(hW:WFc c)(hi:i<8)(hQ:c i=some Q)(hf:Q.ms.find? (isN num)=some m)(ht:0<m.til)(now:Int):∃Q',qp c i num i=some Q'/\kJ now Q'.ms=(kJ now Q.ms).filter (fun a=>!isN num a):=by
 have h:=hW i Q hi hQ;obtain⟨hm,hn⟩:=vv hf;have hR:∃Q',jI c i (some (jW (jm Q num 0) m.grp)) i=some Q'/\kJ now Q'.ms=(kJ now Q.ms).filter (fun a=>!isN num a):=by
  refine⟨_,vQ _ _ _,?_⟩
  show kJ now (jm Q num 0).ms=_
  rw[a0B Q h.nums,a7Z]
 unfold qp;rw[hQ];simp only[hf]
 cases hd:qS c Q.c with
 | none=>exact hR
 | some p=>
  obtain⟨j,T⟩:=p;simp only
  split
  ·have hji:i≠j:=fun e=>by
    subst e;unfold qS xl at hd;rcases h.c.d with h45|⟨jd',hj8,hne,hcd⟩
    ·rw[if_pos h45]at hd;exact absurd hd (by simp)
    ·have hn45:¬Q.c.d=45:=fun e=>by
      rw[e]at hcd;have:(45:UInt8).toNat=45:=rfl;omega
     rw[if_neg hn45,hcd,Nat.add_sub_cancel_left]at hd
     cases hx:c jd' with
     | none=>simp[hx]at hd
     | some t=>
      simp[hx]at hd;exact hne hd.1
   refine⟨{jm Q num 0 with ms:=(jm Q num 0).ms.filter (fun x=>!isG m.grp x)},?_,?_⟩
   ·have e1:∀(c:Nat->Option QM) (v:Option QM),jI c j v i=c i:=fun c v=>by unfold jI;rw[if_neg hji]
    rw[e1,vQ]
   ·show kJ now ((jm Q num 0).ms.filter (fun x=>!isG m.grp x))=_
    have e2:kJ now ((jm Q num 0).ms.filter (fun x=>!isG m.grp x))=(kJ now (jm Q num 0).ms).filter (fun x=>!isG m.grp x):=by
     unfold kJ;rw[List.filter_filter,List.filter_filter];congr 1;funext a;rw[Bool.and_comm]
    rw[e2,a0B Q h.nums,a7Z,List.filter_eq_self];intro a ha;obtain⟨h1,h2⟩:=List.mem_filter.1 ha;obtain⟨h3,h4⟩:=List.mem_filter.1 h1;have h5:=of_decide_eq_true h4
    cases hx:isG m.grp a with
    | false=>rfl
    | true=>
     exfalso;have h6:=(jY _ _).1 hx;have h7:=h.hd m hm ht a h3 h6;have h8:=h.hd a h3 h5.1 m hm h6.symm;have h9:isN num a=true:=(qO _ _).2 (by omega);rw[h9]at h2;exact absurd h2 (by decide)
  ·exact hR
theorem a8T {tl:List Ms}(hW:WFc c)(hi:i<8)(hQ:c i=some Q)(hd:xi now Q.ms=m::tl):WFc (qp c i m.num)/\∃Q',qp c i m.num i=some Q'/\xi now Q'.ms=tl:=by
 have h:=hW i Q hi hQ;have hmd:m∈xi now Q.ms:=by rw[hd];exact List.mem_cons_self
 obtain⟨hm,ht,_⟩:=a2D hmd;have hf:=xG Q.ms h.nums m hm;obtain⟨hw,_⟩:=a2l hW hi hQ hf ht;obtain⟨Q',h1,h2⟩:=b0n hW hi hQ hf ht now;refine⟨hw,Q',h1,?_⟩;have hp:(xi now Q.ms).Perm (kJ now Q.ms):=List.mergeSort_perm _ _;have hnd:=a2C (now:=now) h.nums;unfold a2f at hnd;have hpw:=a2E now Q.ms;rw[hd]at hp hnd hpw;have hnd2:=(List.nodup_cons.1 (by simpa using hnd:(m.num::tl.map Ms.num).Nodup)).1;symm;refine b0Q (hw i Q' hi h1).nums ?_ (List.pairwise_cons.1 hpw).2;rw[h2];have h3:=hp.filter (fun a=>!isN m.num a);have h4:(m::tl).filter (fun a=>!isN m.num a)=tl:=by
  rw[List.filter_cons,(qO _ _).2 rfl];simp only[Bool.not_true,Bool.false_eq_true,if_false];rw[List.filter_eq_self];intro a ha
  cases hx:isN m.num a with
  | false=>rfl
  | true=>exact absurd (List.mem_map.2 ⟨a,ha,(qO _ _).1 hx⟩) hnd2
 rw[h4]at h3;exact h3
theorem RG.setNow {w':World}(h:RG w rb now Z)(n:Int)(ht:Tch [] (w.setCell ⟨rb,0,none⟩ (.int .i64 n)) w'):RGS w w' rb Z n Z:=by
 have t1:Tch [rb] w (w.setCell ⟨rb,0,none⟩ (.int .i64 n)):=(Tch.refl _ _).setCell (by simp) _;have t2:Tch [rb] w w':=t1.trans (ht.sub (by simp)) (fun _ h _=>h);refine⟨⟨(h.st.set0 n).tch ht (by simp),fun i x hi hz=>(h.rr i x hi hz).tch t2 (fun k hk e=>?_),h.ap⟩,t2.sub (fun k hk _=>?_),fun k hk=>.inl hk⟩
 ·simp at e;subst e;exact h.rb hi hz hk
 ·simp at hk;subst hk;exact kY.2 (.inl rfl)
theorem b4Y (rb:Nat)(now:Int)(Z:RZ)(r:Wp.Rq)(x:Sl)(w:World)(h:RG w rb now Z)(hn:0<=now/\now<=60000)(ht:0<=r.tic/\r.tic<=1000)(hlt:60000<now+r.tic):
  Cp 185 #[zp rb,.agg (ja r x.v)] w fun e w'=>e=.returned (.string ⟨#[9]⟩)/\RGS w w' rb Z now Z:=by
 have HA:Hid (∀W,zT 140 #[.int .i64 9] W (.string ⟨#[9]⟩)):=fun W=>jL 9 W
 have HG:Hid (∀W w',Tch [] (bxR w r x) W->Tch [] W w'->RGS w w' rb Z now Z):=fun W w' ht ht'=>h.rgs (((jG w r x).trans ht (fun _ h _=>h)).trans ht' (fun _ h _=>h))
 have c8:=jN (w:=w) (r:=r) (x:=x) (Tch.refl [] _) 8 (.int .i64 r.tic) rfl;have lb:=a5t (w:=w) (r:=r) (x:=x) (Tch.refl [] _);have hst:=h.st.tch (jG w r x) (by simp);have cn:=hst.now;have lr:=hst.lt;have hwt:IntKind.i64.wrap (now+r.tic)=now+r.tic:=by rw[IntKind.wrap_i64];omega
 have e0:=zL r x.v;clear h hst;unfold bxR at*
 rw[e0]at c8 cn lr lb HG ⊢;clear e0;go_enter Tryz.func185,Tryz.ntmps185;go_wp2_with fail
 go_region
 all_goals
  go_wp2_with fail;refine(HA.out _).mono ?_;rintro e w2 ⟨rfl,h2⟩;have HG2:Hid (RGS w w2 rb Z now Z):=HG.out _ w2 (by first|exact Tch.refl _ _|exact(Tch.refl [] _).drew|exact(Tch.refl [] _).drewN _) h2;clear HG h2 HA;go_wp2_with fail;go_ret;exact⟨rfl,HG2.out⟩
theorem b1J (P:Nat->Prop):∀n,P n->∃m,P m/\∀k,P k->m<=k:=fun n=>by
 induction n using Nat.strongRecOn with
 | ind n ih=>
  intro hn
  by_cases h:∃k,k<n/\P k
  ·obtain⟨k,hk,hP⟩:=h;exact ih k hk hP
  ·refine⟨n,hn,fun k hk=>?_⟩
   by_cases e:n<=k
   ·exact e
   ·exact absurd ⟨k,by omega,hk⟩ h
theorem b8P (P:Nat->World->Prop):∃mu:World->Nat,∀w n,P n w->mu w<=n/\P (mu w) w:=by
 have h:∀w,∃m,∀n,P n w->m<=n/\P m w:=fun w=>by
  by_cases h:∃n,P n w
  ·obtain⟨n,h⟩:=h;obtain⟨m,h1,h2⟩:=b1J (fun n=>P n w) n h;exact⟨m,fun k hk=>⟨h2 k hk,h1⟩⟩
  ·exact⟨0,fun n hn=>absurd ⟨n,hn⟩ h⟩
 exact⟨fun w=>Classical.choose (h w),fun w=>Classical.choose_spec (h w)⟩
def cK (now:Int)(c:Nat->Option QM)(k:Nat):Nat->Option QM:=(List.range' 0 k).foldl (qm now) (kX now 8 c)
theorem a7U (now:Int)(c:Nat->Option QM)(k:Nat):cK now c (k+1)=qm now (cK now c k) k:=by
 unfold cK;rw[List.range'_1_concat,List.foldl_append];simp
theorem WFc.fgt (h:WFc c)(now:Int)(k:Nat):WFc (kX now k c):=fun i Q hi hQ=>by
 unfold kX at hQ
 split at hQ
 ·cases hc:c i with
  | none=>rw[hc]at hQ;exact absurd hQ (by simp)
  | some Q0=>
   rw[hc]at hQ;obtain rfl:=Option.some.inj hQ;exact(h i Q0 hi hc).forg now
 ·exact h i Q hi hQ
structure Brg (rb:Nat)(Z:RZ)(N:Nat)(w:World)(nw:Int)(k:Nat)(c2:Nat->Option QM)(n:Nat)(wr:World):Prop where
 ex:∃cm Qm,Lft rb Z N w wr nw cm (N+2550*k+51*(50-n))/\WFc cm/\cm k=some Qm/\(xi nw Qm.ms).length=n/\(a2f nw Qm.ms).foldl (fun c n=>qp c k n) cm=c2
 le:n<=50
theorem Brg.start (hk:k<8)(h:Lft rb Z N w wr nw c (N+2550*k))(hW:WFc c)(hQ:c k=some Q):∃n,Brg rb Z N w nw k (qm nw c k) n wr:=by
 have hl:(xi nw Q.ms).length<=50:=by
  have h1:(xi nw Q.ms).Perm (kJ nw Q.ms):=List.mergeSort_perm _ _;rw[h1.length_eq];exact Nat.le_trans (List.length_filter_le _ _) (hW k Q hk hQ).ml
 refine⟨(xi nw Q.ms).length,⟨c,Q,?_,hW,hQ,rfl,?_⟩,hl⟩
 ·obtain⟨Z',h1,h2,h3,h4⟩:=h;exact⟨Z',h1,h2,fun i x hi hx=>⟨(h3 i x hi hx).1,Nat.le_trans (h3 i x hi hx).2 (by omega)⟩,h4⟩
 ·unfold qm;rw[hQ]
theorem Brg.done (h:Brg rb Z N w nw k c2 0 wr):Lft rb Z N w wr nw c2 (N+2550*(k+1))/\WFc c2:=by
 obtain⟨⟨cm,Qm,h1,h2,h3,h4,h5⟩,_⟩:=h;have e:a2f nw Qm.ms=[]:=by
  unfold a2f;rw[List.length_eq_zero_iff.1 h4];rfl
 rw[e]at h5;have e2:=h5;subst e2;refine⟨?_,h2⟩;obtain⟨Z',h1,h2,h3,h4⟩:=h1;exact⟨Z',h1,h2,fun i x hi hx=>⟨(h3 i x hi hx).1,Nat.le_trans (h3 i x hi hx).2 (by omega)⟩,h4⟩
theorem Brg.step {n:Nat}(h:Brg rb Z N w nw k c2 n wr)(hk:k<8)(hN:N<=4611686018427300000)(y0:RQ)(hy0:Z k=some y0):∃(y:RQ) (P:Nat->Value),Rst wr rb nw P/\y.qb=y0.qb/\
  ((n=0/\zE 234 #[zp y.qb,.int .i64 nw] wr (.int .i64 (-1)))\/
  (∃j:Nat,0<n/\(zE 234 #[zp y.qb,.int .i64 nw] wr (.int .i64 (j:Int)))/\
   (Cp 232 #[zp rb,zp y.qb,.int .i64 (j:Int)] wr fun e w'=>e=.returned (.tuple #[])/\Brg rb Z N w nw k c2 (n-1) w'))):=by
 obtain⟨⟨cm,Qm,⟨Z',g1,g2,g3,g4⟩,hW,hQ,hl,hf⟩,hle⟩:=h;obtain⟨y,hy,rfl⟩:∃y,Z' k=some y/\y.Q=Qm:=by
  rw[<-g2]at hQ;unfold ctR at hQ
  cases hz:Z' k with
  | none=>rw[hz]at hQ;exact absurd hQ (by simp)
  | some y=>rw[hz]at hQ;exact⟨y,rfl,Option.some.inj hQ⟩
 have hr:=g1.rg.rr k y hk hy;have hov:=b2a y.Q.ms y.qb y.V.m nw wr (jb hr.blk 16 _ rfl) hr.m (by have:=(hW k _ hk hQ).ml;omega);refine⟨y,ptR Z',g1.rg.st,?_,?_⟩
 ·have h5:=g4 k;rw[hy,hy0]at h5;exact Option.some.inj h5
 rcases a9F nw y.Q.ms (hW k _ hk hQ).nums with ⟨h1,h2⟩|⟨j,hj,h1,h2,tl,h3⟩
 ·rw[h1]at hov;exact .inl ⟨by rw[<-hl,h2];rfl,hov⟩
 ·rw[h1]at hov;have hln:n=tl.length+1:=by rw[<-hl,h3];rfl
  refine .inr ⟨j,by omega,hov,?_⟩;have hix:jj (isN y.Q.ms[j].num) y.Q.ms=(j:Int):=vY _ _ j hj ((qO _ _).2 rfl) (fun i hi=>by
   cases hx:isN y.Q.ms[j].num (y.Q.ms[i]'(by omega)) with
   | false=>rfl
   | true=>
    have h4:=List.pairwise_iff_getElem.1 (hW k _ hk hQ).nums i j (by omega) hj hi;have h5:=(qO _ _).1 hx;omega)
  refine(a5q rb k j (N+2550*k+51*(50-n)) y.Q.ms[j].num nw Z' y wr g1.rg hk hy (by rw[g2];exact hW) g3 (by omega) hj hix h2).mono ?_;rintro e w' ⟨he,Z2,k1,k2,k3,k4⟩;obtain⟨hw2,Q2,q1,q2⟩:=a8T (i:=k) hW hk hQ h3;refine⟨he,⟨qp cm k y.Q.ms[j].num,Q2,⟨Z2,g1.trans k1,by rw[k2,g2],fun i x hi hx=>⟨(k3 i x hi hx).1,Nat.le_trans (k3 i x hi hx).2 (by omega)⟩,g4.trans k4⟩,hw2,q1,by rw[q2];omega,?_⟩,by omega⟩
  rw[<-hf];unfold a2f;rw[q2,h3];rfl
end Go.Proofs.YtbdobaapadlcjaaGreatDoor.Ref
