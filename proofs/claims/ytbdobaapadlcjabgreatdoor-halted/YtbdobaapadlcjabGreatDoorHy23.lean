import Derived.Test.YtbdobaapadlcjabGreatDoorHy22
set_option maxRecDepth 8000
set_option maxHeartbeats 2000000
set_option linter.unusedVariables false
set_option linter.unusedSimpArgs false
namespace Go.Proofs.YtbdobaapadlcjabGreatDoor
open Go.RowKit
variable {B st b i:Nat}{w W w':World}{col:Nat->Nat}{now:Int}{c:Nat->Option QM}{Z:Nat->Option BQ}
theorem eg160x:∀args w,(callFunc 120 args).run Tryz.prog w=.ok (.enter 120 args) w:=enters_of Tryz.func120 (by kernel_rfl) rfl
theorem eg202x:∀args w,(callFunc 155 args).run Tryz.prog w=.ok (.enter 155 args) w:=enters_of Tryz.func155 (by kernel_rfl) rfl
theorem eg205x:∀args w,(callFunc 158 args).run Tryz.prog w=.ok (.enter 158 args) w:=enters_of Tryz.func158 (by kernel_rfl) rfl
theorem ref_ans {x:Gh B}{J:World->Prop}(hb:Sk B w x st b now c col)(hB:B<=w.heap.size)(er:UInt8)(h0:0<er.toNat)(ht:Tch [] w W)(ht':Tch [] W w'){e:Ending}(he:e=.returned (.tuple #[.slice none 0 0,.nilFunc,.int .i64 (er.toNat:Int)])):
  Ans B (c=c) J (fun t w'=>t=⟨#[er]⟩/\Sd B x st b w col now c w') e w':=
 .inl ⟨er,h0,he,rfl,fun w2 ht2=>⟨rfl,did_same hb hB ((ht.trans ht' (by simp)).trans ht2 (by simp))⟩⟩
theorem op_T9 (B:Nat)(r:Wp.Rq)(x:Gh B)(st b:Nat)(now:Int)(c:Nat->Option QM)(col:Nat->Nat)(w:World)(hE:Env B w)(hb:Sk B w x st b now c col)(hop:r.op=84)(hn:0<=r.tic/\r.tic<=1000/\60000<now+r.tic)(Z:Nat->Option BQ)(o:Option ByteArray)(room:Int)(hs:SG B w st b now Z col)(hc:ctZ Z=c)(W:World)(y:Sl)(ht:Tch [] w W):
  Calls Tryz.prog 30 #[.pointer (some ⟨st,0,none⟩),.agg (cellsOf r y.v)] W fun e w'=>Tch [] W w'/\PlG B (c=c) (fun w'=>x.JO w col w') (fun t w'=>t=⟨#[9]⟩/\Sd B x st b w col now c w') e w':=by
 refine plan_p B _ _ r y st b 19 125 now _ W (by rw[hop];rfl) (by decide) (hs.tch ht).stb rfl eg165 ?_;intro W1 ht1;have tW:=ht.trans ht1 (by simp);have hnw:=hb.nw;refine(goOn_late r y st now W1 (hs.tch tW).stb.now ⟨hnw.1,hn.1,hn.2.2,by omega⟩).mono ?_;rintro e w1 ⟨he,ht2⟩;exact⟨ht2,ref_ans hb hE.size 9 (by decide) tW ht2 he⟩
theorem op_Sf (B:Nat)(r:Wp.Rq)(x:Gh B)(st b i p num:Nat)(now:Int)(c:Nat->Option QM)(col:Nat->Nat)(w:World)(hE:Env B w)(hb:Sk B w x st b now c col)(hop:r.op=83)(hi:i<8)(hq:r.q.toNat=97+i)(Q:QM)(hQ:c i=some Q)(hbod:r.bod.size<=40)(hid:idxL (isI (didS r)) Q.ds=(p:Int))(hp:p<Q.ds.length)(hnum:Q.ds[p].num=(num:Nat))
  (Z:Nat->Option BQ)(o:Option ByteArray)(room:Int)(hs:SG B w st b now Z col)(hc:ctZ Z=c)(W:World)(y:Sl)(ht:Tch [] w W):
  Calls Tryz.prog 30 #[.pointer (some ⟨st,0,none⟩),.agg (cellsOf r y.v)] W fun e w'=>Tch [] W w'/\PlG B (c=c) (fun w'=>x.JO w col w') (fun t w'=>t=okL (lowB num 4)/\Sd B x st b w col now c w') e w':=by
 have hQ':ctZ Z i=some Q:=by rw[hc];exact hQ
 obtain⟨z,hz,hzq⟩:=ctZ_get hQ';have hW:=hb.wf i Q hi hQ;have hdl:=hW.dl;have hdk:=(hW.dok _ (List.getElem_mem hp)).2.1;have hnx:=hW.nx;refine plan_w B _ _ r y st b 18 160 (b+3) now _ W (by rw[hop];rfl) (by decide) (hs.tch ht).stb rfl eg207 ?_;intro W1 ht1;have tW:=ht.trans ht1 (by simp);have hsW:=hs.tch tW;refine within_g B _ _ r y st b i 124 (b+3) z.qb now _ W1 hq hi hsW.stb (by show ptrV (ptZ Z i)=_;unfold ptZ;rw[hz];rfl) (hsW.tb 3 124 (by decide)) eg164 ?_;intro W2 ht2;have tW2:=tW.trans ht2 (by simp);have hqW:QR W2 z.qb z.V Q:=by rw[<-hzq];exact(hs.tch tW2).qr i z hi hz
 obtain⟨gd,cd,hvd⟩:∃g cp,z.V.d=.slice (some ⟨g,0,none⟩) Q.ds.length cp:=by
  rcases hqW.d.2 with ⟨_,h0⟩|⟨g,cap,cur,h0,_⟩
  ·omega
  ·exact⟨_,_,h0⟩
 have hbk:=hqW.blk;have hd:=hqW.d;rw[hvd]at hbk hd;have hz2:=tW2.size;have hE3:=hE.three;have hES:=hE.size;refine(sendg_found Q.c r y z.qb gd Q.ds.length cd p num Q.ds now (Q.next:Int) z.V.m z.V.r z.V.a W2 hbk hbod (hE.tab.tch tW2 (by simp) (by omega)) (by omega) hd rfl (by omega) hid hp hnum (by omega)).mono ?_;rintro e w' ⟨av,rfl,hown,hb'⟩;have t1:=Tch.of_below hb';exact⟨t1,.inr ⟨av,_,lowB num 4,rfl,.inr ⟨by rw[lowB_length];omega,by rw[lowB_length];omega,Rdb.of_own hown (by rw[lowB_length];omega)⟩,fun w1 ht1=>.inl ⟨rfl,rfl,fun w3 ht3=>⟨rfl,did_same hb hE.size (((tW2.trans t1 (by simp)).trans ht1 (by simp)).trans ht3 (by simp))⟩⟩⟩⟩
theorem op_Sr (B:Nat)(r:Wp.Rq)(x:Gh B)(st b i:Nat)(now:Int)(c:Nat->Option QM)(col:Nat->Nat)(w:World)(hE:Env B w)(hb:Sk B w x st b now c col)(hop:r.op=83)(hi:i<8)(hq:r.q.toNat=97+i)(Q:QM)(hQ:c i=some Q)(hid:idxL (isI (didS r)) Q.ds<0)(hbod:r.bod.size<=40)(er:UInt8)(her:er=5/\Q.c.quo<=(Q.ms.length:Int)\/er=6/\(Q.ms.length:Int)<Q.c.quo/\200<Q.next)
  (Z:Nat->Option BQ)(o:Option ByteArray)(room:Int)(hs:SG B w st b now Z col)(hc:ctZ Z=c)(W:World)(y:Sl)(ht:Tch [] w W):
  Calls Tryz.prog 30 #[.pointer (some ⟨st,0,none⟩),.agg (cellsOf r y.v)] W fun e w'=>Tch [] W w'/\PlG B (c=c) (fun w'=>x.JO w col w') (fun t w'=>t=⟨#[er]⟩/\Sd B x st b w col now c w') e w':=by
 have hQ':ctZ Z i=some Q:=by rw[hc];exact hQ
 obtain⟨z,hz,hzq⟩:=ctZ_get hQ';have hW:=hb.wf i Q hi hQ;have hdl:=hW.dl;have hnx:=hW.nx;refine plan_w B _ _ r y st b 18 160 (b+3) now _ W (by rw[hop];rfl) (by decide) (hs.tch ht).stb rfl eg207 ?_;intro W1 ht1;have tW:=ht.trans ht1 (by simp);have hsW:=hs.tch tW;refine within_g B _ _ r y st b i 124 (b+3) z.qb now _ W1 hq hi hsW.stb (by show ptrV (ptZ Z i)=_;unfold ptZ;rw[hz];rfl) (hsW.tb 3 124 (by decide)) eg164 ?_;intro W2 ht2;have tW2:=tW.trans ht2 (by simp);have hqW:QR W2 z.qb z.V Q:=by rw[<-hzq];exact(hs.tch tW2).qr i z hi hz
 obtain⟨am,cm,hvm⟩:=own_shape hqW.m;have hbk:=hqW.blk;rw[hvm]at hbk;have hz2:=tW2.size;have hE3:=hE.three;have hES:=hE.size;rcases her with ⟨rfl,hx⟩|⟨rfl,hx,hk⟩
 ·refine(send_quota Q.c r y z.qb Q.next Q.ms.length cm am Q.ds now z.V.r z.V.d z.V.a W2 hbk hbod (hE.tab.tch tW2 (by simp) (by omega)) (by omega) hqW.d (by omega) hid hx (by omega)).mono ?_;rintro e w' ⟨he,ht'⟩;exact⟨ht',ref_ans hb hE.size 5 (by decide) tW2 ht' he⟩
 ·refine(send_seq Q.c r y z.qb Q.next Q.ms.length cm am Q.ds now z.V.r z.V.d z.V.a W2 hbk hbod (hE.tab.tch tW2 (by simp) (by omega)) (by omega) hqW.d (by omega) hid hx ⟨hk,by omega⟩).mono ?_;rintro e w' ⟨he,ht'⟩;exact⟨ht',ref_ans hb hE.size 6 (by decide) tW2 ht' he⟩
theorem op_A8 (B:Nat)(r:Wp.Rq)(x:Gh B)(st b i num rcv:Nat)(now:Int)(c:Nat->Option QM)(col:Nat->Nat)(w:World)(hE:Env B w)(hb:Sk B w x st b now c col)(hop:r.op=65\/r.op=69)(hi:i<8)(hh:HanIs r.han i num rcv)(Q:QM)(hQ:c i=some Q)(hfl:fliesQ Q num rcv=false)
  (Z:Nat->Option BQ)(o:Option ByteArray)(room:Int)(hs:SG B w st b now Z col)(hc:ctZ Z=c)(W:World)(y:Sl)(ht:Tch [] w W):
  Calls Tryz.prog 30 #[.pointer (some ⟨st,0,none⟩),.agg (cellsOf r y.v)] W fun e w'=>Tch [] W w'/\PlG B (c=c) (fun w'=>x.JO w col w') (fun t w'=>t=⟨#[8]⟩/\Sd B x st b w col now c w') e w':=by
 have hQ':ctZ Z i=some Q:=by rw[hc];exact hQ
 obtain⟨z,hz,hzq⟩:=ctZ_get hQ';have hW:=hb.wf i Q hi hQ;have hml:=hW.ml;have hF:∀W1,Tch [] w W1->zT 147 #[.pointer (some ⟨st,0,none⟩),.string r.han] W1 (.tuple #[.pointer none,.int .i64 0,.int .i64 8]):=fun W1 t1=>by
  have h1:=find_sg B r.han st b i num rcv now Z col W1 (hE.tch t1 (by simp)) hh hi (hs.tch t1) z hz (by rw[hzq];omega);rw[hzq,hfl]at h1;exact h1
 rcases hop with hop|hop
 ·refine plan_p B _ _ r y st b 0 117 now _ W (by rw[hop];rfl) (by decide) (hs.tch ht).stb rfl eg157 ?_;intro W1 ht1;have tW:=ht.trans ht1 (by simp);refine(ack_no 8 (.inr rfl) r y st W1 (fun W2 ht2=>hF W2 (tW.trans ht2 (by simp)))).mono ?_;rintro e w1 ⟨he,ht2⟩;exact⟨ht2,ref_ans hb hE.size 8 (by decide) tW ht2 he⟩
 ·refine plan_p B _ _ r y st b 4 120 now _ W (by rw[hop];rfl) (by decide) (hs.tch ht).stb rfl eg160x ?_;intro W1 ht1;have tW:=ht.trans ht1 (by simp);refine(ext_no 8 (.inr rfl) r y st W1 (fun W2 ht2=>hF W2 (tW.trans ht2 (by simp)))).mono ?_;rintro e w1 ⟨he,ht2⟩;exact⟨ht2,ref_ans hb hE.size 8 (by decide) tW ht2 he⟩
def extC (c:Nat->Option QM)(i:Nat)(Q:QM)(num:Nat)(now tic:Int):Nat->Option QM:=if tic=0 then backC c i num else setC c i (some (tilQ Q num (now+tic)))
theorem op_E (B:Nat)(r:Wp.Rq)(x:Gh B)(st b i num rcv:Nat)(now:Int)(c:Nat->Option QM)(col:Nat->Nat)(w:World)(hE:Env B w)(hb:Sk B w x st b now c col)(hop:r.op=69)(hi:i<8)(hh:HanIs r.han i num rcv)(Q:QM)(hQ:c i=some Q)(hfl:fliesQ Q num rcv=true)(htic:0<=r.tic/\r.tic<=1000)
  (Z:Nat->Option BQ)(o:Option ByteArray)(room:Int)(hs:SG B w st b now Z col)(hc:ctZ Z=c)(W:World)(y:Sl)(ht:Tch [] w W):
  Calls Tryz.prog 30 #[.pointer (some ⟨st,0,none⟩),.agg (cellsOf r y.v)] W fun e w'=>Tch [] W w'/\PlG B ((extC c i Q num now r.tic)=c) (fun w'=>x.JO w col w') (fun t w'=>t=okL []/\Sd B x st b w col now (extC c i Q num now r.tic) w') e w':=by
 have hQ':ctZ Z i=some Q:=by rw[hc];exact hQ
 obtain⟨z,hz,hzq⟩:=ctZ_get hQ';have hW:=hb.wf i Q hi hQ;have hml:=hW.ml;have hnw:=hb.nw;obtain⟨m,hf,hft,hfr⟩:=flies_get hfl;refine plan_p B _ _ r y st b 4 120 now _ W (by rw[hop];rfl) (by decide) (hs.tch ht).stb rfl eg160x ?_;intro W1 ht1;have tW:=ht.trans ht1 (by simp);refine(ext_ok (num:Int) z.qb r y st W1 (fun W2 ht2=>?_)).mono ?_
 ·have tW2:=tW.trans ht2 (by simp);have h1:=find_sg B r.han st b i num rcv now Z col W2 (hE.tch tW2 (by simp)) hh hi (hs.tch tW2) z hz (by rw[hzq];omega);rw[hzq,hfl]at h1;exact h1
 ·rintro e w1 ⟨gs,gr,gq,gn,he,ht2,hgq,hgn,hgs,hgr⟩
  by_cases h0:r.tic=0
  ·rw[if_pos h0]at he;subst he;refine⟨ht2,.inr ⟨_,_,[],rfl,.inl ⟨rfl,rfl⟩,fun w2 ht3=>.inr ⟨155,_,rfl,eg202x,fun w3 w4 ht4 hf4 hJ4=>?_⟩⟩⟩
   have t23:=ht3.trans ht4 (by simp);have t3:=(tW.trans ht2 (by simp)).trans t23 (by simp);have hs4:=hs.lay t3 hf4;have hz3:=t3.size;have hz4:=hf4.size;have hES:=hE.size;have kgq:=hf4.keep _ _ _ ((t23.block _ (lt_of_block hgq) (by simp)).trans hgq) (by decide);have kgn:=hf4.keep _ _ _ ((t23.block _ (lt_of_block hgn) (by simp)).trans hgn) (by decide);have kgs:=hf4.keep _ _ _ ((t23.block _ (lt_of_block hgs) (by simp)).trans hgs) (by decide);have hdr:∀n,Tch [] w4 (w4.drewN n):=fun n=>(Tch.refl [] w4).drewN n
   have hap:∀{k:Nat} {C:Array Value} {t:TypeId} {S:List Nat},w4.heap[k]?=some (.cells C t (0,0))->t∉TQ->(∀k∈S,allK Z k)->k∉S:=fun {k C t S} hk hT hS hm=>by
    obtain⟨j,y,hj,hy,hky⟩:=hS k hm;exact(hs4.qr j y hj hy).nty hk hT hky
   have e0:extC c i Q num now r.tic=backC c i num:=if_pos h0;refine extB_walk _ (dvZ Z z.Q.c) (num:Int) st z.qb gq gn gs w4 kgq kgn kgs (fun n=>deadOf_sg (hs4.tch (hdr n)) hi hz (by rw[hzq];exact hW.c.d)) (fun n=>?_);refine(back_sg B st b i now Z col (w4.drewN n) (hs4.tch (hdr n)) (by show B<=w4.heap.size;omega) hi z hz num m (by rw[hzq];exact hf) (by rw[hzq];exact hW.c.d) (by rw[hc];exact hb.wf.bd)).mono ?_;rintro e w5 ⟨rfl,Z',col',k1,k2,k3,k4,k5,⟨S,k6,k7⟩,k8⟩;rw[hc]at k2;have k6':Tch S w4 w5:=((hdr n).sub (by simp)).trans k6 (fun k hk _=>hk);refine⟨rfl,⟨rfl,?_⟩,S,k6',hap kgq (by decide) k7,hap kgn (by decide) k7,hap kgs (by decide) k7⟩;rw[e0];have hwf:=(back_wf hb.wf hi hQ hf hft).1;exact did_of (now:=now) (Z:=Z) hE.size t3 hf4 hb.fut hJ4 k1 k2 hwf hnw ⟨fun k hk=>k4.1 k hk,k4.2⟩ ((FqT.of_nil col (hdr n) (by omega)).trans (Agr.refl _ _) k5)
  ·rw[if_neg h0]at he;subst he;refine⟨ht2,.inr ⟨_,_,[],rfl,.inl ⟨rfl,rfl⟩,fun w2 ht3=>.inr ⟨158,_,rfl,eg205x,fun w3 w4 ht4 hf4 hJ4=>?_⟩⟩⟩
   have t23:=ht3.trans ht4 (by simp);have t3:=(tW.trans ht2 (by simp)).trans t23 (by simp);have hs4:=hs.lay t3 hf4;have hz3:=t3.size;have hz4:=hf4.size;have hES:=hE.size;have kgq:=hf4.keep _ _ _ ((t23.block _ (lt_of_block hgq) (by simp)).trans hgq) (by decide);have kgn:=hf4.keep _ _ _ ((t23.block _ (lt_of_block hgn) (by simp)).trans hgn) (by decide);have kgs:=hf4.keep _ _ _ ((t23.block _ (lt_of_block hgs) (by simp)).trans hgs) (by decide);have kgr:TicBox w4 gr r.tic:=by
    obtain⟨C,k1,k2⟩:=hgr;exact⟨C,hf4.keep _ _ _ ((t23.block _ (lt_of_block k1) (by simp)).trans k1) (by decide),k2⟩
   have hdr:∀n,Tch [] w4 (w4.drewN n):=fun n=>(Tch.refl [] w4).drewN n
   have e0:extC c i Q num now r.tic=setC c i (some (tilQ Q num (now+r.tic))):=if_neg h0;obtain⟨p,hp,_⟩:=find_idx hf;refine extT_walk _ (num:Int) now r.tic st z.qb gq gn gs gr w4 kgq kgn kgs kgr hs4.stb.now ⟨by omega,by omega⟩ (fun n=>?_);have hqr:QR (w4.drewN n) z.qb z.V Q:=by rw[<-hzq];exact(hs4.tch (hdr n)).qr i z hi hz
   refine(extend_any Q z.V z.qb num (now+r.tic) (w4.drewN n) hqr (by omega) (by rw[hp];omega)).mono ?_;rintro e w5 ⟨rfl,hl⟩;have hl4:QL w4 w5 z.qb z.V (tilQ Q num (now+r.tic)):=by
    obtain⟨V',a1,a2,a3⟩:=hl;exact⟨V',a1,((hdr n).sub (by simp)).trans a2 (fun k hk _=>hk),a3⟩
   have hsn:=hs4.updn (by omega) hi hz hl4;obtain⟨V',a1,a2,a3⟩:=hl4;have hq4:QR w4 z.qb z.V Q:=by rw[<-hzq];exact hs4.qr i z hi hz
   have kgr':gr∉qbl z.qb z.V:=by
    obtain⟨C,k1,k2⟩:=kgr;exact hq4.nty k1 (by decide)
   refine⟨rfl,⟨rfl,?_⟩,qbl z.qb z.V,a2,hq4.nty kgq (by decide),hq4.nty kgn (by decide),hq4.nty kgs (by decide),kgr',hq4.nty hs4.stb (by decide)⟩;rw[e0];rw[hc]at hsn;exact did_n hE.size t3 hf4 hb.fut hJ4 hsn (hb.wf.set (hW.ext hf hft ⟨by omega,by omega⟩)) hnw
theorem rem_no (r:Wp.Rq)(y:Sl)(st:Nat)(w:World)
  (hA:∀W,Tch [] w W->zE 153 #[.pointer (some ⟨st,0,none⟩),.int .u8 (r.q.toNat:Int)] W (.pointer none)):
  zT 127 #[.pointer (some ⟨st,0,none⟩),.agg (cellsOf r y.v)] w (.tuple #[.slice none 0 0,.nilFunc,.int .i64 2]):=by
 rw[zM r y];have HT:Hid (Tch [] w ((w.alloc (.cells #[.pointer (some ⟨st,0,none⟩)] 57)).alloc (.cells #[.int .u8 (r.op.toNat:Int),.int .u8 (r.q.toNat:Int),.int .u8 (r.d.toNat:Int),.int .i64 r.vis,.int .i64 r.win,.int .i64 r.rcv,.int .i64 r.quo,.int .i64 r.mx,.int .i64 r.tic,.string r.grp,.string r.ded,.string r.bod,.string r.att,.string r.han,.slice y.a y.n y.c] 24))):=((Tch.refl _ _).alloc _).alloc _;have HA:Hid (Calls Tryz.prog 153 #[.pointer (some ⟨st,0,none⟩),.int .u8 (r.q.toNat:Int)] ((w.alloc (.cells #[.pointer (some ⟨st,0,none⟩)] 57)).alloc (.cells #[.int .u8 (r.op.toNat:Int),.int .u8 (r.q.toNat:Int),.int .u8 (r.d.toNat:Int),.int .i64 r.vis,.int .i64 r.win,.int .i64 r.rcv,.int .i64 r.quo,.int .i64 r.mx,.int .i64 r.tic,.string r.grp,.string r.ded,.string r.bod,.string r.att,.string r.han,.slice y.a y.n y.c] 24)) _):=hA _ HT.out;clear hA;go_enter Tryz.func127,Tryz.ntmps127;go_wp2_with fail;refine HA.out.mono ?_;rintro e w' ⟨rfl,h'⟩;have h'':=h'.symm;subst h'';go_wp2_with fail;go_ret3;exact⟨rfl,HT.out⟩
theorem rem_ok (r:Wp.Rq)(y:Sl)(st qb:Nat)(w:World)
  (hA:∀W,Tch [] w W->zE 153 #[.pointer (some ⟨st,0,none⟩),.int .u8 (r.q.toNat:Int)] W (.pointer (some ⟨qb,0,none⟩))):
  Calls Tryz.prog 127 #[.pointer (some ⟨st,0,none⟩),.agg (cellsOf r y.v)] w fun e w'=>∃gs gr,e=.returned (.tuple #[.slice none 0 0,.func (.func 175) #[] #[.pointer (some ⟨gs,0,none⟩),.pointer (some ⟨gr,0,none⟩)],.int .i64 0])/\Tch [] w w'/\w'.heap[gs]?=some (.cells #[.pointer (some ⟨st,0,none⟩)] 57 (0,0))/\w'.heap[gr]?=some (.cells #[.int .u8 (r.op.toNat:Int),.int .u8 (r.q.toNat:Int),.int .u8 (r.d.toNat:Int),.int .i64 r.vis,.int .i64 r.win,.int .i64 r.rcv,.int .i64 r.quo,.int .i64 r.mx,.int .i64 r.tic,.string r.grp,.string r.ded,.string r.bod,.string r.att,.string r.han,.slice y.a y.n y.c] 24 (0,0)):=by
 rw[zM r y];have HT:Hid (Tch [] w ((w.alloc (.cells #[.pointer (some ⟨st,0,none⟩)] 57)).alloc (.cells #[.int .u8 (r.op.toNat:Int),.int .u8 (r.q.toNat:Int),.int .u8 (r.d.toNat:Int),.int .i64 r.vis,.int .i64 r.win,.int .i64 r.rcv,.int .i64 r.quo,.int .i64 r.mx,.int .i64 r.tic,.string r.grp,.string r.ded,.string r.bod,.string r.att,.string r.han,.slice y.a y.n y.c] 24))):=((Tch.refl _ _).alloc _).alloc _;have HA:Hid (Calls Tryz.prog 153 #[.pointer (some ⟨st,0,none⟩),.int .u8 (r.q.toNat:Int)] ((w.alloc (.cells #[.pointer (some ⟨st,0,none⟩)] 57)).alloc (.cells #[.int .u8 (r.op.toNat:Int),.int .u8 (r.q.toNat:Int),.int .u8 (r.d.toNat:Int),.int .i64 r.vis,.int .i64 r.win,.int .i64 r.rcv,.int .i64 r.quo,.int .i64 r.mx,.int .i64 r.tic,.string r.grp,.string r.ded,.string r.bod,.string r.att,.string r.han,.slice y.a y.n y.c] 24)) _):=hA _ HT.out;clear hA;go_enter Tryz.func127,Tryz.ntmps127;go_wp2_with fail;refine HA.out.mono ?_;rintro e w' ⟨rfl,h'⟩;have h'':=h'.symm;subst h'';go_wp2_with fail;go_ret3;exact⟨w.heap.size,w.heap.size+1,rfl,HT.out,heap_alloc2_old _ _ _,heap_alloc2_new _ _ _⟩
theorem remd_any (st b i gs gr:Nat)(now:Int)(P:Nat->Value)(w:World)(h:Stb w st b now P)(hi:i<8)(hs:w.cell? ⟨gs,0,none⟩=some (.pointer (some ⟨st,0,none⟩)))(hr:w.cell? ⟨gr,1,none⟩=some (.int .u8 (97+(i:Int))))(n1:gs≠st)(n2:gr≠st):
  Calls Tryz.prog 175 #[.pointer (some ⟨gs,0,none⟩),.pointer (some ⟨gr,0,none⟩)] w fun e w'=>e=.returned (.tuple #[])/\Stb w' st b now (updP P i (.pointer none))/\Tch [st] w w':=by
 have hc:=h.cell i hi;have hz:=h.fz (1+i);have hw0:IntKind.u8.wrap (97+(i:Int)-97)=(i:Int):=by
  have e:(97+(i:Int)-97)=(i:Int):=by omega
  rw[e,IntKind.wrap_u8];omega
 have hi1:(i:Int)<8:=by omega
 have hi0:(0:Int)<=(i:Int):=by omega
 have HFI:Hid (Stb (w.setCell ⟨st,1+i,none⟩ (.pointer none)).drew st b now (updP P i (.pointer none))/\Tch [st] w (w.setCell ⟨st,1+i,none⟩ (.pointer none)).drew):=
  ⟨(h.set i hi _).tch (Tch.refl [] _).drew (by simp),((Tch.refl [st] w).setCell (fun _=>by simp) _).drew⟩
 have k1:(w.setCell ⟨st,1+i,none⟩ (.pointer none)).drew.cell? ⟨gs,0,none⟩=some (.pointer (some ⟨st,0,none⟩)):=(World.cell?_of_block (Below.heap_setCell w _ _ gs n1)).trans hs;have k2:(w.setCell ⟨st,1+i,none⟩ (.pointer none)).drew.cell? ⟨gr,1,none⟩=some (.int .u8 (97+(i:Int))):=(World.cell?_of_block (Below.heap_setCell w _ _ gr n2)).trans hr;clear h;generalize P i=v at hc;go_enter Tryz.func175,Tryz.ntmps175
 go_region_held3 (fun w'=>w'.cell? ⟨gs,0,none⟩=some (.pointer (some ⟨st,0,none⟩))/\w'.cell? ⟨gr,1,none⟩=some (.int .u8 (97+(i:Int)))) (go_keep) (fail)
 all_goals (go_wp2_with fail;go_end0;exact⟨rfl,HFI.out⟩)
theorem eg162x:∀args w,(callFunc 122 args).run Tryz.prog w=.ok (.enter 122 args) w:=enters_of Tryz.func122 (by kernel_rfl) rfl
theorem eg166x:∀args w,(callFunc 126 args).run Tryz.prog w=.ok (.enter 126 args) w:=enters_of Tryz.func126 (by kernel_rfl) rfl
theorem eg167x:∀args w,(callFunc 127 args).run Tryz.prog w=.ok (.enter 127 args) w:=enters_of Tryz.func127 (by kernel_rfl) rfl
theorem eg208x:∀args w,(callFunc 161 args).run Tryz.prog w=.ok (.enter 161 args) w:=enters_of Tryz.func161 (by kernel_rfl) rfl
theorem eg222x:∀args w,(callFunc 175 args).run Tryz.prog w=.ok (.enter 175 args) w:=enters_of Tryz.func175 (by kernel_rfl) rfl
theorem at_sg (hs:SG B W st b now Z col)(hi:i<8){r:Wp.Rq}(hq:r.q.toNat=97+i):zE 153 #[.pointer (some ⟨st,0,none⟩),.int .u8 (r.q.toNat:Int)] W (ptrV (ptZ Z i)):=by
 have h1:=at_g st b i now _ W hs.stb hi;have e:((r.q.toNat:Nat):Int)=97+(i:Int):=by rw[hq];omega
 rw[e];exact h1
theorem pt_no (h:Z i=none):ptrV (ptZ Z i)=.pointer none:=by unfold ptZ;rw[h];rfl
theorem pt_yes {x:BQ}(h:Z i=some x):ptrV (ptZ Z i)=.pointer (some ⟨x.qb,0,none⟩):=by unfold ptZ;rw[h];rfl
theorem op_C3 (B:Nat)(r:Wp.Rq)(x:Gh B)(st b i:Nat)(now:Int)(c:Nat->Option QM)(col:Nat->Nat)(w:World)(hE:Env B w)(hb:Sk B w x st b now c col)(hop:r.op=67)(hi:i<8)(hq:r.q.toNat=97+i)(Q:QM)(hQ:c i=some Q)(Z:Nat->Option BQ)(o:Option ByteArray)(room:Int)(hs:SG B w st b now Z col)(hc:ctZ Z=c)(W:World)(y:Sl)(ht:Tch [] w W):
  Calls Tryz.prog 30 #[.pointer (some ⟨st,0,none⟩),.agg (cellsOf r y.v)] W fun e w'=>Tch [] W w'/\PlG B (c=c) (fun w'=>x.JO w col w') (fun t w'=>t=⟨#[3]⟩/\Sd B x st b w col now c w') e w':=by
 have hQ':ctZ Z i=some Q:=by rw[hc];exact hQ
 obtain⟨z,hz,hzq⟩:=ctZ_get hQ';refine plan_p B _ _ r y st b 2 119 now _ W (by rw[hop];rfl) (by decide) (hs.tch ht).stb rfl eg159 ?_;intro W1 ht1;have tW:=ht.trans ht1 (by simp);refine(crt_no r y st z.qb W1 (fun W2 ht2=>?_)).mono ?_
 ·have h1:=at_sg (hs.tch (tW.trans ht2 (by simp))) hi hq;rw[pt_yes hz]at h1;exact h1
 ·rintro e w1 ⟨he,ht2⟩;exact⟨ht2,ref_ans hb hE.size 3 (by decide) tW ht2 he⟩
theorem op_X2 (B:Nat)(r:Wp.Rq)(x:Gh B)(st b i:Nat)(now:Int)(c:Nat->Option QM)(col:Nat->Nat)(w:World)(hE:Env B w)(hb:Sk B w x st b now c col)(hop:r.op=88)(hi:i<8)(hq:r.q.toNat=97+i)(hno:c i=none)(Z:Nat->Option BQ)(o:Option ByteArray)(room:Int)(hs:SG B w st b now Z col)(hc:ctZ Z=c)(W:World)(y:Sl)(ht:Tch [] w W):
  Calls Tryz.prog 30 #[.pointer (some ⟨st,0,none⟩),.agg (cellsOf r y.v)] W fun e w'=>Tch [] W w'/\PlG B (c=c) (fun w'=>x.JO w col w') (fun t w'=>t=⟨#[2]⟩/\Sd B x st b w col now c w') e w':=by
 refine plan_p B _ _ r y st b 23 127 now _ W (by rw[hop];rfl) (by decide) (hs.tch ht).stb rfl eg167x ?_;intro W1 ht1;have tW:=ht.trans ht1 (by simp);have hz:=pt_of hc hno;refine(rem_no r y st W1 (fun W2 ht2=>?_)).mono ?_
 ·have h1:=at_sg (hs.tch (tW.trans ht2 (by simp))) hi hq;rw[pt_no hz]at h1;exact h1
 ·rintro e w1 ⟨he,ht2⟩;exact⟨ht2,ref_ans hb hE.size 2 (by decide) tW ht2 he⟩
theorem op_no (B:Nat)(r:Wp.Rq)(x:Gh B)(st b i k q:Nat)(now:Int)(c:Nat->Option QM)(col:Nat->Nat)(w:World)(hE:Env B w)(hb:Sk B w x st b now c col)(hop:r.op.toNat=65+k)(hk:k<26)(hv:∀b:Nat,(deedsC b)[k]?=some (.func (.func 160) #[] #[.pointer (some ⟨b+q,0,none⟩)]))(hi:i<8)(hq:r.q.toNat=97+i)(hno:c i=none)(Z:Nat->Option BQ)(o:Option ByteArray)(room:Int)(hs:SG B w st b now Z col)(hc:ctZ Z=c)(W:World)(y:Sl)(ht:Tch [] w W):
  Calls Tryz.prog 30 #[.pointer (some ⟨st,0,none⟩),.agg (cellsOf r y.v)] W fun e w'=>Tch [] W w'/\PlG B (c=c) (fun w'=>x.JO w col w') (fun t w'=>t=⟨#[2]⟩/\Sd B x st b w col now c w') e w':=by
 have hz:=pt_of hc hno;refine plan_w B _ _ r y st b k 160 (b+q) now _ W hop hk (hs.tch ht).stb (hv b) eg207 ?_;intro W1 ht1;have tW:=ht.trans ht1 (by simp);refine(with_no r y st (.pointer (some ⟨b+q,0,none⟩)) W1 (fun W2 ht2=>?_)).mono ?_
 ·have h1:=at_sg (hs.tch (tW.trans ht2 (by simp))) hi hq;rw[pt_no hz]at h1;exact h1
 ·rintro e w1 ⟨he,ht2⟩;exact⟨ht2,ref_ans hb hE.size 2 (by decide) tW ht2 he⟩
theorem op_P (B:Nat)(r:Wp.Rq)(x:Gh B)(st b i:Nat)(now:Int)(c:Nat->Option QM)(col:Nat->Nat)(w:World)(hE:Env B w)(hb:Sk B w x st b now c col)(hop:r.op=80)(hi:i<8)(hq:r.q.toNat=97+i)(Q:QM)(hQ:c i=some Q)
  (Z:Nat->Option BQ)(o:Option ByteArray)(room:Int)(hs:SG B w st b now Z col)(hc:ctZ Z=c)(W:World)(y:Sl)(ht:Tch [] w W):
  Calls Tryz.prog 30 #[.pointer (some ⟨st,0,none⟩),.agg (cellsOf r y.v)] W fun e w'=>Tch [] W w'/\PlG B ((setC c i (some (purgQ Q)))=c) (fun w'=>x.JO w col w') (fun t w'=>t=okL []/\Sd B x st b w col now (setC c i (some (purgQ Q))) w') e w':=by
 have hQ':ctZ Z i=some Q:=by rw[hc];exact hQ
 obtain⟨z,hz,hzq⟩:=ctZ_get hQ';have hW:=hb.wf i Q hi hQ;refine plan_w B _ _ r y st b 15 160 (b+1) now _ W (by rw[hop];rfl) (by decide) (hs.tch ht).stb rfl eg207 ?_;intro W1 ht1;have tW:=ht.trans ht1 (by simp);have hsW:=hs.tch tW;refine within_g B _ _ r y st b i 122 (b+1) z.qb now _ W1 hq hi hsW.stb (pt_yes hz) (hsW.tb 1 122 (by decide)) eg162x ?_;intro W2 ht2;have tW2:=tW.trans ht2 (by simp);refine(purge_any z.qb now r y W2).mono ?_;rintro e w1 ⟨gq,rfl,ht3,hgq⟩;refine⟨ht3,.inr ⟨_,_,[],rfl,.inl ⟨rfl,rfl⟩,fun w2 ht4=>.inr ⟨161,_,rfl,eg208x,fun w3 w4 ht5 hf4 hJ4=>?_⟩⟩⟩
 have t23:=ht4.trans ht5 (by simp);have t3:=(tW2.trans ht3 (by simp)).trans t23 (by simp);have hs4:=hs.lay t3 hf4;have hz3:=t3.size;have hz4:=hf4.size;have kgq:=hf4.keep _ _ _ ((t23.block _ (lt_of_block hgq) (by simp)).trans hgq) (by decide);refine(purged_any Q z.V z.qb gq w4 (by rw[<-hzq];exact hs4.qr i z hi hz) kgq).mono ?_;rintro e w5 ⟨rfl,hl⟩;have hsn:=hs4.updn (by have:=hE.size;omega) hi hz hl;rw[hc]at hsn;exact⟨rfl,rfl,did_n hE.size t3 hf4 hb.fut hJ4 hsn (hb.wf.set hW.purg) hb.nw⟩
theorem op_V (B:Nat)(r:Wp.Rq)(x:Gh B)(st b i:Nat)(now:Int)(c:Nat->Option QM)(col:Nat->Nat)(w:World)(hE:Env B w)(hb:Sk B w x st b now c col)(hop:r.op=86)(hi:i<8)(hq:r.q.toNat=97+i)(Q:QM)(hQ:c i=some Q)
  (Z:Nat->Option BQ)(o:Option ByteArray)(room:Int)(hs:SG B w st b now Z col)(hc:ctZ Z=c)(W:World)(y:Sl)(ht:Tch [] w W):
  Calls Tryz.prog 30 #[.pointer (some ⟨st,0,none⟩),.agg (cellsOf r y.v)] W fun e w'=>Tch [] W w'/\PlG B (c=c) (fun w'=>x.JO w col w') (fun t w'=>t=okL (allB Q)/\Sd B x st b w col now c w') e w':=by
 have hQ':ctZ Z i=some Q:=by rw[hc];exact hQ
 obtain⟨z,hz,hzq⟩:=ctZ_get hQ';have hW:=hb.wf i Q hi hQ;have hal:=allB_len hW.ok;have hap:0<(allB Q).length:=by
  have h7:=setB_length Q.c;unfold allB;rw[List.length_append,List.length_append,List.length_append,List.length_append,List.length_append];omega
 refine plan_w B _ _ r y st b 21 160 (b+4) now _ W (by rw[hop];rfl) (by decide) (hs.tch ht).stb rfl eg207 ?_;intro W1 ht1;have tW:=ht.trans ht1 (by simp);have hsW:=hs.tch tW;refine within_g B _ _ r y st b i 126 (b+4) z.qb now _ W1 hq hi hsW.stb (pt_yes hz) (hsW.tb 4 126 (by decide)) eg166x ?_;intro W2 ht2;have tW2:=tW.trans ht2 (by simp);refine(show_any Q z.V z.qb now r y W2 (by rw[<-hzq];exact(hs.tch tW2).qr i z hi hz) hW.ok).mono ?_;rintro e w1 ⟨v,rfl,hown,ht3⟩;exact⟨ht3,.inr ⟨v,_,allB Q,rfl,.inr ⟨hap,by omega,Rdb.of_own hown hap⟩,fun w2 ht4=>.inl ⟨rfl,rfl,fun w3 ht5=>⟨rfl,did_same hb hE.size (((tW2.trans ht3 (by simp)).trans ht4 (by simp)).trans ht5 (by simp))⟩⟩⟩⟩
theorem op_Rf (B:Nat)(r:Wp.Rq)(x:Gh B)(st b i p:Nat)(now:Int)(c:Nat->Option QM)(col:Nat->Nat)(w:World)(hE:Env B w)(hb:Sk B w x st b now c col)(hop:r.op=82)(hi:i<8)(hq:r.q.toNat=97+i)(Q:QM)(hQ:c i=some Q)(hid:idxL (isA r.att) Q.ats=(p:Int))(a:At)(ha:Q.ats[p]?=some a)
  (Z:Nat->Option BQ)(o:Option ByteArray)(room:Int)(hs:SG B w st b now Z col)(hc:ctZ Z=c)(W:World)(y:Sl)(ht:Tch [] w W):
  Calls Tryz.prog 30 #[.pointer (some ⟨st,0,none⟩),.agg (cellsOf r y.v)] W fun e w'=>Tch [] W w'/\PlG B (c=c) (fun w'=>x.JO w col w') (fun t w'=>t=okL a.ans.data.toList/\Sd B x st b w col now c w') e w':=by
 have hQ':ctZ Z i=some Q:=by rw[hc];exact hQ
 obtain⟨z,hz,hzq⟩:=ctZ_get hQ';have hW:=hb.wf i Q hi hQ;have hal:=hW.al;have hao:=(hW.aok a (List.mem_of_getElem? ha)).2.1;have hlen:a.ans.data.toList.length=a.ans.size:=rfl;refine plan_w B _ _ r y st b 17 160 (b+2) now _ W (by rw[hop];rfl) (by decide) (hs.tch ht).stb rfl eg207 ?_;intro W1 ht1;have tW:=ht.trans ht1 (by simp);have hsW:=hs.tch tW;refine within_g B _ _ r y st b i 123 (b+2) z.qb now _ W1 hq hi hsW.stb (pt_yes hz) (hsW.tb 2 123 (by decide)) eg163 ?_;intro W2 ht2;have tW2:=tW.trans ht2 (by simp);refine(receive_found Q z.V r y z.qb p now W2 (by rw[<-hzq];exact(hs.tch tW2).qr i z hi hz) (by omega) hid a ha hao.1).mono ?_;rintro e w1 ⟨v,rfl,hr,ht3⟩;exact⟨ht3,.inr ⟨v,_,a.ans.data.toList,rfl,.inr ⟨by omega,by omega,hr⟩,fun w2 ht4=>.inl ⟨rfl,rfl,fun w3 ht5=>⟨rfl,did_same hb hE.size (((tW2.trans ht3 (by simp)).trans ht4 (by simp)).trans ht5 (by simp))⟩⟩⟩⟩
theorem op_Sb (B:Nat)(r:Wp.Rq)(x:Gh B)(st b i:Nat)(now:Int)(c:Nat->Option QM)(col:Nat->Nat)(w:World)(hE:Env B w)(hb:Sk B w x st b now c col)(hop:r.op=83)(hi:i<8)(hq:r.q.toNat=97+i)(Q:QM)(hQ:c i=some Q)(hbod:40<r.bod.size/\r.bod.size<=1000000)
  (Z:Nat->Option BQ)(o:Option ByteArray)(room:Int)(hs:SG B w st b now Z col)(hc:ctZ Z=c)(W:World)(y:Sl)(ht:Tch [] w W):
  Calls Tryz.prog 30 #[.pointer (some ⟨st,0,none⟩),.agg (cellsOf r y.v)] W fun e w'=>Tch [] W w'/\PlG B (c=c) (fun w'=>x.JO w col w') (fun t w'=>t=⟨#[4]⟩/\Sd B x st b w col now c w') e w':=by
 have hQ':ctZ Z i=some Q:=by rw[hc];exact hQ
 obtain⟨z,hz,hzq⟩:=ctZ_get hQ';refine plan_w B _ _ r y st b 18 160 (b+3) now _ W (by rw[hop];rfl) (by decide) (hs.tch ht).stb rfl eg207 ?_;intro W1 ht1;have tW:=ht.trans ht1 (by simp);have hsW:=hs.tch tW;refine within_g B _ _ r y st b i 124 (b+3) z.qb now _ W1 hq hi hsW.stb (pt_yes hz) (hsW.tb 3 124 (by decide)) eg164 ?_;intro W2 ht2;have tW2:=tW.trans ht2 (by simp);refine(send_body r y z.qb now W2 hbod.1 hbod.2).mono ?_;rintro e w' ⟨he,ht'⟩;exact⟨ht',ref_ans hb hE.size 4 (by decide) tW2 ht' he⟩
theorem op_Ae (B:Nat)(r:Wp.Rq)(x:Gh B)(st b:Nat)(now:Int)(c:Nat->Option QM)(col:Nat->Nat)(w:World)(hE:Env B w)(hb:Sk B w x st b now c col)(hop:r.op=65\/r.op=69)(er:UInt8)(her:er=7\/er=8)(Z:Nat->Option BQ)(o:Option ByteArray)(room:Int)(hs:SG B w st b now Z col)(hc:ctZ Z=c)
  (hF:∀W1,Tch [] w W1->zT 147 #[.pointer (some ⟨st,0,none⟩),.string r.han] W1 (.tuple #[.pointer none,.int .i64 0,.int .i64 (er.toNat:Int)]))(W:World)(y:Sl)(ht:Tch [] w W):
  Calls Tryz.prog 30 #[.pointer (some ⟨st,0,none⟩),.agg (cellsOf r y.v)] W fun e w'=>Tch [] W w'/\PlG B (c=c) (fun w'=>x.JO w col w') (fun t w'=>t=⟨#[er]⟩/\Sd B x st b w col now c w') e w':=by
 have hr:((er.toNat:Nat):Int)=7\/((er.toNat:Nat):Int)=8:=by rcases her with rfl|rfl<;>decide
 have h0:0<er.toNat:=by omega
 rcases hop with hop|hop
 ·refine plan_p B _ _ r y st b 0 117 now _ W (by rw[hop];rfl) (by decide) (hs.tch ht).stb rfl eg157 ?_;intro W1 ht1;have tW:=ht.trans ht1 (by simp);refine(ack_no _ hr r y st W1 (fun W2 ht2=>hF W2 (tW.trans ht2 (by simp)))).mono ?_;rintro e w1 ⟨he,ht2⟩;exact⟨ht2,ref_ans hb hE.size er h0 tW ht2 he⟩
 ·refine plan_p B _ _ r y st b 4 120 now _ W (by rw[hop];rfl) (by decide) (hs.tch ht).stb rfl eg160x ?_;intro W1 ht1;have tW:=ht.trans ht1 (by simp);refine(ext_no _ hr r y st W1 (fun W2 ht2=>hF W2 (tW.trans ht2 (by simp)))).mono ?_;rintro e w1 ⟨he,ht2⟩;exact⟨ht2,ref_ans hb hE.size er h0 tW ht2 he⟩
theorem op_A7 (B:Nat)(r:Wp.Rq)(x:Gh B)(st b:Nat)(now:Int)(c:Nat->Option QM)(col:Nat->Nat)(w:World)(hE:Env B w)(hb:Sk B w x st b now c col)(hop:r.op=65\/r.op=69)(hsz:r.han.size<=1000000)(hno:¬∃h8:r.han.size=8,r.han[0]=72/\isLet r.han[1]=true)(Z:Nat->Option BQ)(o:Option ByteArray)(room:Int)(hs:SG B w st b now Z col)(hc:ctZ Z=c)(W:World)(y:Sl)(ht:Tch [] w W):
  Calls Tryz.prog 30 #[.pointer (some ⟨st,0,none⟩),.agg (cellsOf r y.v)] W fun e w'=>Tch [] W w'/\PlG B (c=c) (fun w'=>x.JO w col w') (fun t w'=>t=⟨#[7]⟩/\Sd B x st b w col now c w') e w':=
 op_Ae B r x st b now c col w hE hb hop 7 (.inl rfl) Z o room hs hc (fun W1 t1=>by
  have hE1:=hE.tch t1 (by simp);exact find_bad st r.han W1 (read_no B r.han W1 hE1.lays hE1.size hsz hno)) W y ht
theorem op_An (B:Nat)(r:Wp.Rq)(x:Gh B)(st b i num rcv:Nat)(now:Int)(c:Nat->Option QM)(col:Nat->Nat)(w:World)(hE:Env B w)(hb:Sk B w x st b now c col)(hop:r.op=65\/r.op=69)(hi:i<8)(hh:HanIs r.han i num rcv)(hno:c i=none)(Z:Nat->Option BQ)(o:Option ByteArray)(room:Int)(hs:SG B w st b now Z col)(hc:ctZ Z=c)(W:World)(y:Sl)(ht:Tch [] w W):
  Calls Tryz.prog 30 #[.pointer (some ⟨st,0,none⟩),.agg (cellsOf r y.v)] W fun e w'=>Tch [] W w'/\PlG B (c=c) (fun w'=>x.JO w col w') (fun t w'=>t=⟨#[8]⟩/\Sd B x st b w col now c w') e w':=
 op_Ae B r x st b now c col w hE hb hop 8 (.inr rfl) Z o room hs hc (fun W1 t1=>by
  have hE1:=hE.tch t1 (by simp);obtain⟨h8,h0,h1,h2,h3,h4⟩:=hh;have hrd:=read_yes B r.han W1 hE1.lays hE1.size h8 h0 h1;rw[h3,h4]at hrd;refine find_nil st r.han ((r.han[1].toNat:Nat):Int) num rcv W1 ⟨hrd,fun W2 t2=>?_⟩
  have h5:=at_g st b i now _ W2 (hs.tch (t1.trans t2 (by simp))).stb hi;have e:((r.han[1].toNat:Nat):Int)=97+(i:Int):=by rw[h2];omega
  rw[e];have e2:=pt_no (pt_of hc hno);rw[e2]at h5;exact h5) W y ht
theorem SG.rem (h:SG B w st b now Z col)(hB:B<=w.heap.size)(hi:i<8)(ht:Tch [st] w w')(hs:Stb w' st b now (updP (fun i=>ptrV (ptZ Z i)) i (.pointer none))):
  SG B w' st b now (updZ Z i none) col/\Fq B col w w':=by
 have hst0:=h.stb;have hns:∀{k:Nat} {C:Array Value} {t:TypeId},w.heap[k]?=some (.cells C t (0,0))->t≠94->k∉[st]:=fun {k C t} hk hne hm=>by
  simp at hm;subst hm;rw[hst0]at hk;simp at hk;exact hne hk.2.symm
 have hor:∀q z,updZ Z i none q=some z->Z q=some z:=fun q z hz=>by
  by_cases e:q=i
  ·subst e;rw[updZ_same]at hz
   cases hz
  ·rw[updZ_ne _ _ e]at hz;exact hz
 refine⟨⟨?_,fun q f hq=>(ht.block _ (lt_of_block (h.tb q f hq)) (hns (h.tb q f hq) (by decide))).trans (h.tb q f hq),fun q z hq hz=>?_,fun q z hq hz=>h.cl q z hq (hor q z hz),fun q z hq hz=>h.lo q z hq (hor q z hz),h.ls,h.cs⟩,?_⟩
 ·have e:(fun j=>ptrV (ptZ (updZ Z i none) j))=updP (fun i=>ptrV (ptZ Z i)) i (.pointer none):=by
   funext j;unfold updP ptZ updZ
   by_cases e:j=i
   ·simp[e,ptrV]
   ·simp[e]
  rw[e];exact hs
 ·have h1:=h.qr q z hq (hor q z hz);exact h1.tch ht (fun k hk hm=>by
   simp at hm;subst hm;exact h1.nty h.stb (by decide) hk)
 ·refine FqT.of_tch ht hB (fun k hk=>?_) (fun k hk C t hC=>?_) (fun k hk=>?_)
  ·simp at hk;subst hk;exact h.ls
  ·simp at hk;subst hk;rw[hst0]at hC;simp at hC;rw[<-hC.2];decide
  ·simp at hk;subst hk;exact h.cs
theorem WFc.none (h:WFc c)(i:Nat):WFc (setC c i none):=fun j Q hj hQ=>by
 by_cases e:j=i
 ·subst e;rw[setC_same]at hQ
  cases hQ
 ·rw[setC_ne _ _ e]at hQ;exact h j Q hj hQ
theorem op_X (B:Nat)(r:Wp.Rq)(x:Gh B)(st b i:Nat)(now:Int)(c:Nat->Option QM)(col:Nat->Nat)(w:World)(hE:Env B w)(hb:Sk B w x st b now c col)(hop:r.op=88)(hi:i<8)(hq:r.q.toNat=97+i)(Q:QM)(hQ:c i=some Q)(Z:Nat->Option BQ)(o:Option ByteArray)(room:Int)(hs:SG B w st b now Z col)(hc:ctZ Z=c)(W:World)(y:Sl)(ht:Tch [] w W):
  Calls Tryz.prog 30 #[.pointer (some ⟨st,0,none⟩),.agg (cellsOf r y.v)] W fun e w'=>Tch [] W w'/\PlG B ((setC c i none)=c) (fun w'=>x.JO w col w') (fun t w'=>t=okL []/\Sd B x st b w col now (setC c i none) w') e w':=by
 have hQ':ctZ Z i=some Q:=by rw[hc];exact hQ
 obtain⟨z,hz,hzq⟩:=ctZ_get hQ';refine plan_p B _ _ r y st b 23 127 now _ W (by rw[hop];rfl) (by decide) (hs.tch ht).stb rfl eg167x ?_;intro W1 ht1;have tW:=ht.trans ht1 (by simp);refine(rem_ok r y st z.qb W1 (fun W2 ht2=>?_)).mono ?_
 ·have h1:=at_sg (hs.tch (tW.trans ht2 (by simp))) hi hq;rw[pt_yes hz]at h1;exact h1
 ·rintro e w1 ⟨gs,gr,rfl,ht2,hgs,hgr⟩;refine⟨ht2,.inr ⟨_,_,[],rfl,.inl ⟨rfl,rfl⟩,fun w2 ht3=>.inr ⟨175,_,rfl,eg222x,fun w3 w4 ht4 hf4 hJ4=>?_⟩⟩⟩
  have t23:=ht3.trans ht4 (by simp);have t3:=(tW.trans ht2 (by simp)).trans t23 (by simp);have hs4:=hs.lay t3 hf4;have hz3:=t3.size;have hz4:=hf4.size;have kgr:=hf4.keep _ _ _ ((t23.block _ (lt_of_block hgr) (by simp)).trans hgr) (by decide);have kgs:=hf4.keep _ _ _ ((t23.block _ (lt_of_block hgs) (by simp)).trans hgs) (by decide);have hst0:=hs4.stb;have n1:gs≠st:=fun e=>by
   rw[e,hst0]at kgs;simp at kgs
  have n2:gr≠st:=fun e=>by
   rw[e,hst0]at kgr;simp at kgr
  have e97:((r.q.toNat:Nat):Int)=97+(i:Int):=by rw[hq];omega
  refine(remd_any st b i gs gr now _ w4 hs4.stb hi (cell_qC kgs 0 _ rfl) (by rw[<-e97];exact cell_qC kgr 1 _ rfl) n1 n2).mono ?_;rintro e w5 ⟨rfl,k1,k2⟩;obtain⟨j1,j2⟩:=hs4.rem (by have:=hE.size;omega) hi k2 k1;refine⟨rfl,rfl,did_of (now:=now) (Z:=Z) hE.size t3 hf4 hb.fut hJ4 j1 ?_ (hb.wf.none i) hb.nw (Agr.refl _ _) j2⟩;rw[ctZ_upd,hc];rfl
end Go.Proofs.YtbdobaapadlcjabGreatDoor
