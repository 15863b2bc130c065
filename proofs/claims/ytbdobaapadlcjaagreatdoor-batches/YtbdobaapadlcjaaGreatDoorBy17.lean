import Derived.Test.YtbdobaapadlcjaaGreatDoorBy16
set_option maxRecDepth 8000
set_option maxHeartbeats 2000000
set_option linter.unusedVariables false
set_option linter.unusedSimpArgs false
namespace Go.Proofs.YtbdobaapadlcjaaGreatDoor
open Go.RowKit
variable {B st i n:Nat}{w W w':World}{col:Nat->Nat}{now:Int}{c:Nat->Option QM}{Z:Nat->Option BQ}{r:Wp.Rq}{s:ByteArray}
theorem a6G:∀args w,(callFunc 160 args).run Tryz.prog w=.ok (.enter 160 args) w:=enters_of Tryz.func160 (by kernel_rfl) rfl
theorem b6v:∀args w,(callFunc 202 args).run Tryz.prog w=.ok (.enter 202 args) w:=enters_of Tryz.func202 (by kernel_rfl) rfl
theorem b6w:∀args w,(callFunc 205 args).run Tryz.prog w=.ok (.enter 205 args) w:=enters_of Tryz.func205 (by kernel_rfl) rfl
theorem vB {x b:Nat}{J:World->Prop}(hb:Bk B w x st b now c col)(hB:B<=w.heap.size)(er:UInt8)(h0:0<er.toNat)(ht:Tch [] w W)(ht':Tch [] W w'){e:Ending}(he:e=.returned (.tuple #[.slice none 0 0,.nilFunc,.int .i64 (er.toNat:Int)])):
  Ans B (c=c) J (fun t w'=>t=⟨#[er]⟩/\Did B x st b w col now c w') e w':=
 .inl ⟨er,h0,he,rfl,fun w2 ht2=>⟨rfl,vW hb hB ((ht.trans ht' (by simp)).trans ht2 (by simp))⟩⟩
theorem b9g (B:Nat)(r:Wp.Rq)(x st b:Nat)(now:Int)(c:Nat->Option QM)(col:Nat->Nat)(w:World)(hE:Env B w)(hb:Bk B w x st b now c col)(hop:r.op=84)(hn:0<=r.tic/\r.tic<=1000/\60000<now+r.tic)(Z:Nat->Option BQ)(o:Option ByteArray)(room:Int)(hs:SG B w st b now Z col)(hc:ctZ Z=c)(W:World)(y:Sl)(ht:Tch [] w W):
  Cp 62 #[zp st,.agg (ja r y.v)] W fun e w'=>Tch [] W w'/\PlG B (c=c) (fun w'=>JgO B w col w' x st o room) (fun t w'=>t=⟨#[9]⟩/\Did B x st b w col now c w') e w':=by
 refine vN B _ _ r y st b 19 165 now _ W (by rw[hop];rfl) (by decide) (hs.tch ht).stb rfl b5w ?_;intro W1 ht1;have tW:=ht.trans ht1 (by simp);have hnw:=hb.nw;refine(a9p r y st now W1 (hs.tch tW).stb.now ⟨hnw.1,hn.1,hn.2.2,by omega⟩).mono ?_;rintro e w1 ⟨he,ht2⟩;exact⟨ht2,vB hb hE.size 9 (by decide) tW ht2 he⟩
theorem b9f (B:Nat)(r:Wp.Rq)(x st b i p num:Nat)(now:Int)(c:Nat->Option QM)(col:Nat->Nat)(w:World)(hE:Env B w)(hb:Bk B w x st b now c col)(hop:r.op=83)(hi:i<8)(hq:r.q.toNat=97+i)(Q:QM)(hQ:c i=some Q)(hbod:r.bod.size<=40)(hid:jj (isI (ks r)) Q.ds=(p:Int))(hp:p<Q.ds.length)(hnum:Q.ds[p].num=(num:Nat))
  (Z:Nat->Option BQ)(o:Option ByteArray)(room:Int)(hs:SG B w st b now Z col)(hc:ctZ Z=c)(W:World)(y:Sl)(ht:Tch [] w W):
  Cp 62 #[zp st,.agg (ja r y.v)] W fun e w'=>Tch [] W w'/\PlG B (c=c) (fun w'=>JgO B w col w' x st o room) (fun t w'=>t=okL (je num 4)/\Did B x st b w col now c w') e w':=by
 have hQ':ctZ Z i=some Q:=by rw[hc];exact hQ
 obtain⟨z,hz,hzq⟩:=qN hQ';have hW:=hb.wf i Q hi hQ;have hdl:=hW.dl;have hdk:=(hW.dok _ (List.getElem_mem hp)).2.1;have hnx:=hW.nx;refine zF B _ _ r y st b 18 207 (b+3) now _ W (by rw[hop];rfl) (by decide) (hs.tch ht).stb rfl a0Z ?_;intro W1 ht1;have tW:=ht.trans ht1 (by simp);have hsW:=hs.tch tW;refine xg B _ _ r y st b i 164 (b+3) z.qb now _ W1 hq hi hsW.stb (by show jB (ptZ Z i)=_;unfold ptZ;rw[hz];rfl) (hsW.tb 3 164 (by decide)) a8a ?_;intro W2 ht2;have tW2:=tW.trans ht2 (by simp);have hqW:QR W2 z.qb z.V Q:=by rw[<-hzq];exact(hs.tch tW2).qr i z hi hz
 obtain⟨gd,cd,hvd⟩:∃g cp,z.V.d=.slice (some ⟨g,0,none⟩) Q.ds.length cp:=by
  rcases hqW.d.2 with ⟨_,h0⟩|⟨g,cap,cur,h0,_⟩
  ·omega
  ·exact⟨_,_,h0⟩
 have hbk:=hqW.blk;have hd:=hqW.d;rw[hvd]at hbk hd;have hz2:=tW2.size;have hE3:=hE.three;have hES:=hE.size;refine(a6m Q.c r y z.qb gd Q.ds.length cd p num Q.ds now (Q.next:Int) z.V.m z.V.r z.V.a W2 hbk hbod (hE.tab.tch tW2 (by simp) (by omega)) (by omega) hd rfl (by omega) hid hp hnum (by omega)).mono ?_;rintro e w' ⟨av,rfl,hown,hb'⟩;have t1:=Tch.of_below hb';exact⟨t1,.inr ⟨av,_,je num 4,rfl,.inr ⟨by rw[jc];omega,by rw[jc];omega,Rdb.of_own hown (by rw[jc];omega)⟩,fun w1 ht1=>.inl ⟨rfl,rfl,fun w3 ht3=>⟨rfl,vW hb hE.size (((tW2.trans t1 (by simp)).trans ht1 (by simp)).trans ht3 (by simp))⟩⟩⟩⟩
theorem b5M (B:Nat)(r:Wp.Rq)(x st b i:Nat)(now:Int)(c:Nat->Option QM)(col:Nat->Nat)(w:World)(hE:Env B w)(hb:Bk B w x st b now c col)(hop:r.op=83)(hi:i<8)(hq:r.q.toNat=97+i)(Q:QM)(hQ:c i=some Q)(hid:jj (isI (ks r)) Q.ds<0)(hbod:r.bod.size<=40)(er:UInt8)(her:er=5/\Q.c.quo<=(Q.ms.length:Int)\/er=6/\(Q.ms.length:Int)<Q.c.quo/\200<Q.next)
  (Z:Nat->Option BQ)(o:Option ByteArray)(room:Int)(hs:SG B w st b now Z col)(hc:ctZ Z=c)(W:World)(y:Sl)(ht:Tch [] w W):
  Cp 62 #[zp st,.agg (ja r y.v)] W fun e w'=>Tch [] W w'/\PlG B (c=c) (fun w'=>JgO B w col w' x st o room) (fun t w'=>t=⟨#[er]⟩/\Did B x st b w col now c w') e w':=by
 have hQ':ctZ Z i=some Q:=by rw[hc];exact hQ
 obtain⟨z,hz,hzq⟩:=qN hQ';have hW:=hb.wf i Q hi hQ;have hdl:=hW.dl;have hnx:=hW.nx;refine zF B _ _ r y st b 18 207 (b+3) now _ W (by rw[hop];rfl) (by decide) (hs.tch ht).stb rfl a0Z ?_;intro W1 ht1;have tW:=ht.trans ht1 (by simp);have hsW:=hs.tch tW;refine xg B _ _ r y st b i 164 (b+3) z.qb now _ W1 hq hi hsW.stb (by show jB (ptZ Z i)=_;unfold ptZ;rw[hz];rfl) (hsW.tb 3 164 (by decide)) a8a ?_;intro W2 ht2;have tW2:=tW.trans ht2 (by simp);have hqW:QR W2 z.qb z.V Q:=by rw[<-hzq];exact(hs.tch tW2).qr i z hi hz
 obtain⟨am,cm,hvm⟩:=jl hqW.m;have hbk:=hqW.blk;rw[hvm]at hbk;have hz2:=tW2.size;have hE3:=hE.three;have hES:=hE.size;rcases her with ⟨rfl,hx⟩|⟨rfl,hx,hk⟩
 ·refine(a7x Q.c r y z.qb Q.next Q.ms.length cm am Q.ds now z.V.r z.V.d z.V.a W2 hbk hbod (hE.tab.tch tW2 (by simp) (by omega)) (by omega) hqW.d (by omega) hid hx (by omega)).mono ?_;rintro e w' ⟨he,ht'⟩;exact⟨ht',vB hb hE.size 5 (by decide) tW2 ht' he⟩
 ·refine(b2W Q.c r y z.qb Q.next Q.ms.length cm am Q.ds now z.V.r z.V.d z.V.a W2 hbk hbod (hE.tab.tch tW2 (by simp) (by omega)) (by omega) hqW.d (by omega) hid hx ⟨hk,by omega⟩).mono ?_;rintro e w' ⟨he,ht'⟩;exact⟨ht',vB hb hE.size 6 (by decide) tW2 ht' he⟩
theorem b9a (B:Nat)(r:Wp.Rq)(x st b i num rcv:Nat)(now:Int)(c:Nat->Option QM)(col:Nat->Nat)(w:World)(hE:Env B w)(hb:Bk B w x st b now c col)(hop:r.op=65\/r.op=69)(hi:i<8)(hh:vU r.han i num rcv)(Q:QM)(hQ:c i=some Q)(hfl:kr Q num rcv=false)
  (Z:Nat->Option BQ)(o:Option ByteArray)(room:Int)(hs:SG B w st b now Z col)(hc:ctZ Z=c)(W:World)(y:Sl)(ht:Tch [] w W):
  Cp 62 #[zp st,.agg (ja r y.v)] W fun e w'=>Tch [] W w'/\PlG B (c=c) (fun w'=>JgO B w col w' x st o room) (fun t w'=>t=⟨#[8]⟩/\Did B x st b w col now c w') e w':=by
 have hQ':ctZ Z i=some Q:=by rw[hc];exact hQ
 obtain⟨z,hz,hzq⟩:=qN hQ';have hW:=hb.wf i Q hi hQ;have hml:=hW.ml;have hF:∀W1,Tch [] w W1->zT 194 #[zp st,.string r.han] W1 (.tuple #[.pointer none,.int .i64 0,.int .i64 8]):=fun W1 t1=>by
  have h1:=a4C B r.han st b i num rcv now Z col W1 (hE.tch t1 (by simp)) hh hi (hs.tch t1) z hz (by rw[hzq];omega);rw[hzq,hfl]at h1;exact h1
 rcases hop with hop|hop
 ·refine vN B _ _ r y st b 0 157 now _ W (by rw[hop];rfl) (by decide) (hs.tch ht).stb rfl b0S ?_;intro W1 ht1;have tW:=ht.trans ht1 (by simp);refine(a4n 8 (.inr rfl) r y st W1 (fun W2 ht2=>hF W2 (tW.trans ht2 (by simp)))).mono ?_;rintro e w1 ⟨he,ht2⟩;exact⟨ht2,vB hb hE.size 8 (by decide) tW ht2 he⟩
 ·refine vN B _ _ r y st b 4 160 now _ W (by rw[hop];rfl) (by decide) (hs.tch ht).stb rfl a6G ?_;intro W1 ht1;have tW:=ht.trans ht1 (by simp);refine(a4z 8 (.inr rfl) r y st W1 (fun W2 ht2=>hF W2 (tW.trans ht2 (by simp)))).mono ?_;rintro e w1 ⟨he,ht2⟩;exact⟨ht2,vB hb hE.size 8 (by decide) tW ht2 he⟩
def zv (c:Nat->Option QM)(i:Nat)(Q:QM)(num:Nat)(now tic:Int):Nat->Option QM:=if tic=0 then qp c i num else jI c i (some (jm Q num (now+tic)))
theorem b9B (B:Nat)(r:Wp.Rq)(x st b i num rcv:Nat)(now:Int)(c:Nat->Option QM)(col:Nat->Nat)(w:World)(hE:Env B w)(hb:Bk B w x st b now c col)(hop:r.op=69)(hi:i<8)(hh:vU r.han i num rcv)(Q:QM)(hQ:c i=some Q)(hfl:kr Q num rcv=true)(htic:0<=r.tic/\r.tic<=1000)
  (Z:Nat->Option BQ)(o:Option ByteArray)(room:Int)(hs:SG B w st b now Z col)(hc:ctZ Z=c)(W:World)(y:Sl)(ht:Tch [] w W):
  Cp 62 #[zp st,.agg (ja r y.v)] W fun e w'=>Tch [] W w'/\PlG B ((zv c i Q num now r.tic)=c) (fun w'=>JgO B w col w' x st o room) (fun t w'=>t=okL []/\Did B x st b w col now (zv c i Q num now r.tic) w') e w':=by
 have hQ':ctZ Z i=some Q:=by rw[hc];exact hQ
 obtain⟨z,hz,hzq⟩:=qN hQ';have hW:=hb.wf i Q hi hQ;have hml:=hW.ml;have hnw:=hb.nw;obtain⟨m,hf,hft,hfr⟩:=a1v hfl;refine vN B _ _ r y st b 4 160 now _ W (by rw[hop];rfl) (by decide) (hs.tch ht).stb rfl a6G ?_;intro W1 ht1;have tW:=ht.trans ht1 (by simp);refine(b6B (num:Int) z.qb r y st W1 (fun W2 ht2=>?_)).mono ?_
 ·have tW2:=tW.trans ht2 (by simp);have h1:=a4C B r.han st b i num rcv now Z col W2 (hE.tch tW2 (by simp)) hh hi (hs.tch tW2) z hz (by rw[hzq];omega);rw[hzq,hfl]at h1;exact h1
 ·rintro e w1 ⟨gs,gr,gq,gn,he,ht2,hgq,hgn,hgs,hgr⟩
  by_cases h0:r.tic=0
  ·rw[if_pos h0]at he;subst he;refine⟨ht2,.inr ⟨_,_,[],rfl,.inl ⟨rfl,rfl⟩,fun w2 ht3=>.inr ⟨202,_,rfl,b6v,fun w3 w4 ht4 hf4 hJ4=>?_⟩⟩⟩
   have t23:=ht3.trans ht4 (by simp);have t3:=(tW.trans ht2 (by simp)).trans t23 (by simp);have hs4:=hs.lay t3 hf4;have hz3:=t3.size;have hz4:=hf4.size;have hES:=hE.size;have kgq:=hf4.keep _ _ _ ((t23.block _ (lt_of_block hgq) (by simp)).trans hgq) (by decide);have kgn:=hf4.keep _ _ _ ((t23.block _ (lt_of_block hgn) (by simp)).trans hgn) (by decide);have kgs:=hf4.keep _ _ _ ((t23.block _ (lt_of_block hgs) (by simp)).trans hgs) (by decide);have hdr:∀n,Tch [] w4 (w4.drewN n):=fun n=>(Tch.refl [] w4).drewN n
   have hap:∀{k:Nat} {C:Array Value} {t:TypeId} {S:List Nat},w4.heap[k]?=some (.cells C t (0,0))->t∉TQ->(∀k∈S,a2y Z k)->k∉S:=fun {k C t S} hk hT hS hm=>by
    obtain⟨j,y,hj,hy,hky⟩:=hS k hm;exact(hs4.qr j y hj hy).nty hk hT hky
   have e0:zv c i Q num now r.tic=qp c i num:=if_pos h0;refine a9h _ (dvZ Z z.Q.c) (num:Int) st z.qb gq gn gs w4 kgq kgn kgs (fun n=>a3I (hs4.tch (hdr n)) hi hz (by rw[hzq];exact hW.c.d)) (fun n=>?_);refine(a7R B st b i now Z col (w4.drewN n) (hs4.tch (hdr n)) (by show B<=w4.heap.size;omega) hi z hz num m (by rw[hzq];exact hf) (by rw[hzq];exact hW.c.d) (by rw[hc];exact hb.wf.bd)).mono ?_;rintro e w5 ⟨rfl,Z',col',k1,k2,k3,k4,k5,⟨S,k6,k7⟩,k8⟩;rw[hc]at k2;have k6':Tch S w4 w5:=((hdr n).sub (by simp)).trans k6 (fun k hk _=>hk);refine⟨rfl,⟨rfl,?_⟩,S,k6',hap kgq (by decide) k7,hap kgn (by decide) k7,hap kgs (by decide) k7⟩;rw[e0];have hwf:=(a2l hb.wf hi hQ hf hft).1;exact a2B (now:=now) (Z:=Z) hE.size t3 hf4 hb.fut hJ4 k1 k2 hwf hnw ⟨fun k hk=>k4.1 k hk,k4.2⟩ ((FqT.of_nil col (hdr n) (by omega)).trans (Agr.refl _ _) k5)
  ·rw[if_neg h0]at he;subst he;refine⟨ht2,.inr ⟨_,_,[],rfl,.inl ⟨rfl,rfl⟩,fun w2 ht3=>.inr ⟨205,_,rfl,b6w,fun w3 w4 ht4 hf4 hJ4=>?_⟩⟩⟩
   have t23:=ht3.trans ht4 (by simp);have t3:=(tW.trans ht2 (by simp)).trans t23 (by simp);have hs4:=hs.lay t3 hf4;have hz3:=t3.size;have hz4:=hf4.size;have hES:=hE.size;have kgq:=hf4.keep _ _ _ ((t23.block _ (lt_of_block hgq) (by simp)).trans hgq) (by decide);have kgn:=hf4.keep _ _ _ ((t23.block _ (lt_of_block hgn) (by simp)).trans hgn) (by decide);have kgs:=hf4.keep _ _ _ ((t23.block _ (lt_of_block hgs) (by simp)).trans hgs) (by decide);have kgr:TicBox w4 gr r.tic:=by
    obtain⟨C,k1,k2⟩:=hgr;exact⟨C,hf4.keep _ _ _ ((t23.block _ (lt_of_block k1) (by simp)).trans k1) (by decide),k2⟩
   have hdr:∀n,Tch [] w4 (w4.drewN n):=fun n=>(Tch.refl [] w4).drewN n
   have e0:zv c i Q num now r.tic=jI c i (some (jm Q num (now+r.tic))):=if_neg h0;obtain⟨p,hp,_⟩:=zY hf;refine a9i _ (num:Int) now r.tic st z.qb gq gn gs gr w4 kgq kgn kgs kgr hs4.stb.now ⟨by omega,by omega⟩ (fun n=>?_);have hqr:QR (w4.drewN n) z.qb z.V Q:=by rw[<-hzq];exact(hs4.tch (hdr n)).qr i z hi hz
   refine(a6I Q z.V z.qb num (now+r.tic) (w4.drewN n) hqr (by omega) (by rw[hp];omega)).mono ?_;rintro e w5 ⟨rfl,hl⟩;have hl4:QL w4 w5 z.qb z.V (jm Q num (now+r.tic)):=by
    obtain⟨V',a1,a2,a3⟩:=hl;exact⟨V',a1,((hdr n).sub (by simp)).trans a2 (fun k hk _=>hk),a3⟩
   have hsn:=hs4.updn (by omega) hi hz hl4;obtain⟨V',a1,a2,a3⟩:=hl4;have hq4:QR w4 z.qb z.V Q:=by rw[<-hzq];exact hs4.qr i z hi hz
   have kgr':gr∉qbl z.qb z.V:=by
    obtain⟨C,k1,k2⟩:=kgr;exact hq4.nty k1 (by decide)
   refine⟨rfl,⟨rfl,?_⟩,qbl z.qb z.V,a2,hq4.nty kgq (by decide),hq4.nty kgn (by decide),hq4.nty kgs (by decide),kgr',hq4.nty hs4.stb (by decide)⟩;rw[e0];rw[hc]at hsn;exact a5z hE.size t3 hf4 hb.fut hJ4 hsn (hb.wf.set (hW.ext hf hft ⟨by omega,by omega⟩)) hnw
theorem b7s (r:Wp.Rq)(y:Sl)(st:Nat)(w:World)
  (hA:∀W,Tch [] w W->zE 200 #[zp st,.int .u8 (r.q.toNat:Int)] W (.pointer none)):
  zT 167 #[zp st,.agg (ja r y.v)] w (.tuple #[.slice none 0 0,.nilFunc,.int .i64 2]):=by
 rw[zM r y];have HT:Hid (Tch [] w ((w.alloc (.cells #[zp st] 96)).alloc (.cells (zR r y) 27))):=((Tch.refl _ _).alloc _).alloc _;have HA:Hid (Cp 200 #[zp st,.int .u8 (r.q.toNat:Int)] ((w.alloc (.cells #[zp st] 96)).alloc (.cells (zR r y) 27)) _):=hA _ HT.out;clear hA;go_enter Tryz.func167,Tryz.ntmps167;go_wp2_with fail;refine HA.out.mono ?_;rintro e w' ⟨rfl,h'⟩;have h'':=h'.symm;subst h'';go_wp2_with fail;go_ret3;exact⟨rfl,HT.out⟩
theorem b7t (r:Wp.Rq)(y:Sl)(st qb:Nat)(w:World)
  (hA:∀W,Tch [] w W->zE 200 #[zp st,.int .u8 (r.q.toNat:Int)] W (zp qb)):
  Cp 167 #[zp st,.agg (ja r y.v)] w fun e w'=>∃gs gr,e=.returned (.tuple #[.slice none 0 0,.func (.func 222) #[] #[zp gs,zp gr],.int .i64 0])/\Tch [] w w'/\w'.heap[gs]?=some (.cells #[zp st] 96 (0,0))/\w'.heap[gr]?=some (.cells (zR r y) 27 (0,0)):=by
 rw[zM r y];have HT:Hid (Tch [] w ((w.alloc (.cells #[zp st] 96)).alloc (.cells (zR r y) 27))):=((Tch.refl _ _).alloc _).alloc _;have HA:Hid (Cp 200 #[zp st,.int .u8 (r.q.toNat:Int)] ((w.alloc (.cells #[zp st] 96)).alloc (.cells (zR r y) 27)) _):=hA _ HT.out;clear hA;go_enter Tryz.func167,Tryz.ntmps167;go_wp2_with fail;refine HA.out.mono ?_;rintro e w' ⟨rfl,h'⟩;have h'':=h'.symm;subst h'';go_wp2_with fail;go_ret3;exact⟨w.heap.size,w.heap.size+1,rfl,HT.out,heap_alloc2_old _ _ _,heap_alloc2_new _ _ _⟩
theorem b2z (st b i gs gr:Nat)(now:Int)(P:Nat->Value)(w:World)(h:Stb w st b now P)(hi:i<8)(hs:w.cell? ⟨gs,0,none⟩=some (zp st))(hr:w.cell? ⟨gr,1,none⟩=some (.int .u8 (97+(i:Int))))(n1:gs≠st)(n2:gr≠st):
  Cp 222 #[zp gs,zp gr] w fun e w'=>e=.returned (.tuple #[])/\Stb w' st b now (vE P i (.pointer none))/\Tch [st] w w':=by
 have hc:=h.cell i hi;have hz:=h.fz (1+i);have hw0:IntKind.u8.wrap (97+(i:Int)-97)=(i:Int):=by
  have e:(97+(i:Int)-97)=(i:Int):=by omega
  rw[e,IntKind.wrap_u8];omega
 have hi1:(i:Int)<8:=by omega
 have hi0:(0:Int)<=(i:Int):=by omega
 have HFI:Hid (Stb (w.setCell ⟨st,1+i,none⟩ (.pointer none)).drew st b now (vE P i (.pointer none))/\Tch [st] w (w.setCell ⟨st,1+i,none⟩ (.pointer none)).drew):=
  ⟨(h.set i hi _).tch (Tch.refl [] _).drew (by simp),((Tch.refl [st] w).setCell (fun _=>by simp) _).drew⟩
 have k1:(w.setCell ⟨st,1+i,none⟩ (.pointer none)).drew.cell? ⟨gs,0,none⟩=some (zp st):=(World.cell?_of_block (Below.heap_setCell w _ _ gs n1)).trans hs;have k2:(w.setCell ⟨st,1+i,none⟩ (.pointer none)).drew.cell? ⟨gr,1,none⟩=some (.int .u8 (97+(i:Int))):=(World.cell?_of_block (Below.heap_setCell w _ _ gr n2)).trans hr;clear h;generalize P i=v at hc;go_enter Tryz.func222,Tryz.ntmps222
 go_region_held3 (fun w'=>w'.cell? ⟨gs,0,none⟩=some (zp st)/\w'.cell? ⟨gr,1,none⟩=some (.int .u8 (97+(i:Int)))) (go_keep) (fail)
 all_goals (go_wp2_with fail;go_end0;exact⟨rfl,HFI.out⟩)
theorem b6t:∀args w,(callFunc 162 args).run Tryz.prog w=.ok (.enter 162 args) w:=enters_of Tryz.func162 (by kernel_rfl) rfl
theorem b6u:∀args w,(callFunc 166 args).run Tryz.prog w=.ok (.enter 166 args) w:=enters_of Tryz.func166 (by kernel_rfl) rfl
theorem b0T:∀args w,(callFunc 167 args).run Tryz.prog w=.ok (.enter 167 args) w:=enters_of Tryz.func167 (by kernel_rfl) rfl
theorem b6x:∀args w,(callFunc 208 args).run Tryz.prog w=.ok (.enter 208 args) w:=enters_of Tryz.func208 (by kernel_rfl) rfl
theorem b6y:∀args w,(callFunc 222 args).run Tryz.prog w=.ok (.enter 222 args) w:=enters_of Tryz.func222 (by kernel_rfl) rfl
theorem a7Q {b:Nat}(hs:SG B W st b now Z col)(hi:i<8){r:Wp.Rq}(hq:r.q.toNat=97+i):zE 200 #[zp st,.int .u8 (r.q.toNat:Int)] W (jB (ptZ Z i)):=by
 have h1:=a8Q st b i now _ W hs.stb hi;have e:((r.q.toNat:Nat):Int)=97+(i:Int):=by rw[hq];omega
 rw[e];exact h1
theorem b2h (h:Z i=none):jB (ptZ Z i)=.pointer none:=by unfold ptZ;rw[h];rfl
theorem a1I {x:BQ}(h:Z i=some x):jB (ptZ Z i)=zp x.qb:=by unfold ptZ;rw[h];rfl
theorem b9c (B:Nat)(r:Wp.Rq)(x st b i:Nat)(now:Int)(c:Nat->Option QM)(col:Nat->Nat)(w:World)(hE:Env B w)(hb:Bk B w x st b now c col)(hop:r.op=67)(hi:i<8)(hq:r.q.toNat=97+i)(Q:QM)(hQ:c i=some Q)(Z:Nat->Option BQ)(o:Option ByteArray)(room:Int)(hs:SG B w st b now Z col)(hc:ctZ Z=c)(W:World)(y:Sl)(ht:Tch [] w W):
  Cp 62 #[zp st,.agg (ja r y.v)] W fun e w'=>Tch [] W w'/\PlG B (c=c) (fun w'=>JgO B w col w' x st o room) (fun t w'=>t=⟨#[3]⟩/\Did B x st b w col now c w') e w':=by
 have hQ':ctZ Z i=some Q:=by rw[hc];exact hQ
 obtain⟨z,hz,hzq⟩:=qN hQ';refine vN B _ _ r y st b 2 159 now _ W (by rw[hop];rfl) (by decide) (hs.tch ht).stb rfl b5u ?_;intro W1 ht1;have tW:=ht.trans ht1 (by simp);refine(b6k r y st z.qb W1 (fun W2 ht2=>?_)).mono ?_
 ·have h1:=a7Q (hs.tch (tW.trans ht2 (by simp))) hi hq;rw[a1I hz]at h1;exact h1
 ·rintro e w1 ⟨he,ht2⟩;exact⟨ht2,vB hb hE.size 3 (by decide) tW ht2 he⟩
theorem b9h (B:Nat)(r:Wp.Rq)(x st b i:Nat)(now:Int)(c:Nat->Option QM)(col:Nat->Nat)(w:World)(hE:Env B w)(hb:Bk B w x st b now c col)(hop:r.op=88)(hi:i<8)(hq:r.q.toNat=97+i)(hno:c i=none)(Z:Nat->Option BQ)(o:Option ByteArray)(room:Int)(hs:SG B w st b now Z col)(hc:ctZ Z=c)(W:World)(y:Sl)(ht:Tch [] w W):
  Cp 62 #[zp st,.agg (ja r y.v)] W fun e w'=>Tch [] W w'/\PlG B (c=c) (fun w'=>JgO B w col w' x st o room) (fun t w'=>t=⟨#[2]⟩/\Did B x st b w col now c w') e w':=by
 refine vN B _ _ r y st b 23 167 now _ W (by rw[hop];rfl) (by decide) (hs.tch ht).stb rfl b0T ?_;intro W1 ht1;have tW:=ht.trans ht1 (by simp);have hz:=a8x hc hno;refine(b7s r y st W1 (fun W2 ht2=>?_)).mono ?_
 ·have h1:=a7Q (hs.tch (tW.trans ht2 (by simp))) hi hq;rw[b2h hz]at h1;exact h1
 ·rintro e w1 ⟨he,ht2⟩;exact⟨ht2,vB hb hE.size 2 (by decide) tW ht2 he⟩
theorem a8u (B:Nat)(r:Wp.Rq)(x st b i k q:Nat)(now:Int)(c:Nat->Option QM)(col:Nat->Nat)(w:World)(hE:Env B w)(hb:Bk B w x st b now c col)(hop:r.op.toNat=65+k)(hk:k<26)(hv:∀b:Nat,(xh b)[k]?=some (.func (.func 207) #[] #[zp (b+q)]))(hi:i<8)(hq:r.q.toNat=97+i)(hno:c i=none)(Z:Nat->Option BQ)(o:Option ByteArray)(room:Int)(hs:SG B w st b now Z col)(hc:ctZ Z=c)(W:World)(y:Sl)(ht:Tch [] w W):
  Cp 62 #[zp st,.agg (ja r y.v)] W fun e w'=>Tch [] W w'/\PlG B (c=c) (fun w'=>JgO B w col w' x st o room) (fun t w'=>t=⟨#[2]⟩/\Did B x st b w col now c w') e w':=by
 have hz:=a8x hc hno;refine zF B _ _ r y st b k 207 (b+q) now _ W hop hk (hs.tch ht).stb (hv b) a0Z ?_;intro W1 ht1;have tW:=ht.trans ht1 (by simp);refine(b5e r y st (zp (b+q)) W1 (fun W2 ht2=>?_)).mono ?_
 ·have h1:=a7Q (hs.tch (tW.trans ht2 (by simp))) hi hq;rw[b2h hz]at h1;exact h1
 ·rintro e w1 ⟨he,ht2⟩;exact⟨ht2,vB hb hE.size 2 (by decide) tW ht2 he⟩
theorem b9C (B:Nat)(r:Wp.Rq)(x st b i:Nat)(now:Int)(c:Nat->Option QM)(col:Nat->Nat)(w:World)(hE:Env B w)(hb:Bk B w x st b now c col)(hop:r.op=80)(hi:i<8)(hq:r.q.toNat=97+i)(Q:QM)(hQ:c i=some Q)
  (Z:Nat->Option BQ)(o:Option ByteArray)(room:Int)(hs:SG B w st b now Z col)(hc:ctZ Z=c)(W:World)(y:Sl)(ht:Tch [] w W):
  Cp 62 #[zp st,.agg (ja r y.v)] W fun e w'=>Tch [] W w'/\PlG B ((jI c i (some (xI Q)))=c) (fun w'=>JgO B w col w' x st o room) (fun t w'=>t=okL []/\Did B x st b w col now (jI c i (some (xI Q))) w') e w':=by
 have hQ':ctZ Z i=some Q:=by rw[hc];exact hQ
 obtain⟨z,hz,hzq⟩:=qN hQ';have hW:=hb.wf i Q hi hQ;refine zF B _ _ r y st b 15 207 (b+1) now _ W (by rw[hop];rfl) (by decide) (hs.tch ht).stb rfl a0Z ?_;intro W1 ht1;have tW:=ht.trans ht1 (by simp);have hsW:=hs.tch tW;refine xg B _ _ r y st b i 162 (b+1) z.qb now _ W1 hq hi hsW.stb (a1I hz) (hsW.tb 1 162 (by decide)) b6t ?_;intro W2 ht2;have tW2:=tW.trans ht2 (by simp);refine(a9J z.qb now r y W2).mono ?_;rintro e w1 ⟨gq,rfl,ht3,hgq⟩;refine⟨ht3,.inr ⟨_,_,[],rfl,.inl ⟨rfl,rfl⟩,fun w2 ht4=>.inr ⟨208,_,rfl,b6x,fun w3 w4 ht5 hf4 hJ4=>?_⟩⟩⟩
 have t23:=ht4.trans ht5 (by simp);have t3:=(tW2.trans ht3 (by simp)).trans t23 (by simp);have hs4:=hs.lay t3 hf4;have hz3:=t3.size;have hz4:=hf4.size;have kgq:=hf4.keep _ _ _ ((t23.block _ (lt_of_block hgq) (by simp)).trans hgq) (by decide);refine(a7k Q z.V z.qb gq w4 (by rw[<-hzq];exact hs4.qr i z hi hz) kgq).mono ?_;rintro e w5 ⟨rfl,hl⟩;have hsn:=hs4.updn (by have:=hE.size;omega) hi hz hl;rw[hc]at hsn;exact⟨rfl,rfl,a5z hE.size t3 hf4 hb.fut hJ4 hsn (hb.wf.set hW.purg) hb.nw⟩
theorem b9G (B:Nat)(r:Wp.Rq)(x st b i:Nat)(now:Int)(c:Nat->Option QM)(col:Nat->Nat)(w:World)(hE:Env B w)(hb:Bk B w x st b now c col)(hop:r.op=86)(hi:i<8)(hq:r.q.toNat=97+i)(Q:QM)(hQ:c i=some Q)
  (Z:Nat->Option BQ)(o:Option ByteArray)(room:Int)(hs:SG B w st b now Z col)(hc:ctZ Z=c)(W:World)(y:Sl)(ht:Tch [] w W):
  Cp 62 #[zp st,.agg (ja r y.v)] W fun e w'=>Tch [] W w'/\PlG B (c=c) (fun w'=>JgO B w col w' x st o room) (fun t w'=>t=okL (xD Q)/\Did B x st b w col now c w') e w':=by
 have hQ':ctZ Z i=some Q:=by rw[hc];exact hQ
 obtain⟨z,hz,hzq⟩:=qN hQ';have hW:=hb.wf i Q hi hQ;have hal:=a2x hW.ok;have hap:0<(xD Q).length:=by
  have h7:=vo Q.c;unfold xD;rw[List.length_append,List.length_append,List.length_append,List.length_append,List.length_append];omega
 refine zF B _ _ r y st b 21 207 (b+4) now _ W (by rw[hop];rfl) (by decide) (hs.tch ht).stb rfl a0Z ?_;intro W1 ht1;have tW:=ht.trans ht1 (by simp);have hsW:=hs.tch tW;refine xg B _ _ r y st b i 166 (b+4) z.qb now _ W1 hq hi hsW.stb (a1I hz) (hsW.tb 4 166 (by decide)) b6u ?_;intro W2 ht2;have tW2:=tW.trans ht2 (by simp);refine(b2X Q z.V z.qb now r y W2 (by rw[<-hzq];exact(hs.tch tW2).qr i z hi hz) hW.ok).mono ?_;rintro e w1 ⟨v,rfl,hown,ht3⟩;exact⟨ht3,.inr ⟨v,_,xD Q,rfl,.inr ⟨hap,by omega,Rdb.of_own hown hap⟩,fun w2 ht4=>.inl ⟨rfl,rfl,fun w3 ht5=>⟨rfl,vW hb hE.size (((tW2.trans ht3 (by simp)).trans ht4 (by simp)).trans ht5 (by simp))⟩⟩⟩⟩
theorem b9d (B:Nat)(r:Wp.Rq)(x st b i p:Nat)(now:Int)(c:Nat->Option QM)(col:Nat->Nat)(w:World)(hE:Env B w)(hb:Bk B w x st b now c col)(hop:r.op=82)(hi:i<8)(hq:r.q.toNat=97+i)(Q:QM)(hQ:c i=some Q)(hid:jj (isA r.att) Q.ats=(p:Int))(a:At)(ha:Q.ats[p]?=some a)
  (Z:Nat->Option BQ)(o:Option ByteArray)(room:Int)(hs:SG B w st b now Z col)(hc:ctZ Z=c)(W:World)(y:Sl)(ht:Tch [] w W):
  Cp 62 #[zp st,.agg (ja r y.v)] W fun e w'=>Tch [] W w'/\PlG B (c=c) (fun w'=>JgO B w col w' x st o room) (fun t w'=>t=okL a.ans.data.toList/\Did B x st b w col now c w') e w':=by
 have hQ':ctZ Z i=some Q:=by rw[hc];exact hQ
 obtain⟨z,hz,hzq⟩:=qN hQ';have hW:=hb.wf i Q hi hQ;have hal:=hW.al;have hao:=(hW.aok a (List.mem_of_getElem? ha)).2.1;have hlen:a.ans.data.toList.length=a.ans.size:=rfl;refine zF B _ _ r y st b 17 207 (b+2) now _ W (by rw[hop];rfl) (by decide) (hs.tch ht).stb rfl a0Z ?_;intro W1 ht1;have tW:=ht.trans ht1 (by simp);have hsW:=hs.tch tW;refine xg B _ _ r y st b i 163 (b+2) z.qb now _ W1 hq hi hsW.stb (a1I hz) (hsW.tb 2 163 (by decide)) b5v ?_;intro W2 ht2;have tW2:=tW.trans ht2 (by simp);refine(a3z Q z.V r y z.qb p now W2 (by rw[<-hzq];exact(hs.tch tW2).qr i z hi hz) (by omega) hid a ha hao.1).mono ?_;rintro e w1 ⟨v,rfl,hr,ht3⟩;exact⟨ht3,.inr ⟨v,_,a.ans.data.toList,rfl,.inr ⟨by omega,by omega,hr⟩,fun w2 ht4=>.inl ⟨rfl,rfl,fun w3 ht5=>⟨rfl,vW hb hE.size (((tW2.trans ht3 (by simp)).trans ht4 (by simp)).trans ht5 (by simp))⟩⟩⟩⟩
theorem b9e (B:Nat)(r:Wp.Rq)(x st b i:Nat)(now:Int)(c:Nat->Option QM)(col:Nat->Nat)(w:World)(hE:Env B w)(hb:Bk B w x st b now c col)(hop:r.op=83)(hi:i<8)(hq:r.q.toNat=97+i)(Q:QM)(hQ:c i=some Q)(hbod:40<r.bod.size/\r.bod.size<=1000000)
  (Z:Nat->Option BQ)(o:Option ByteArray)(room:Int)(hs:SG B w st b now Z col)(hc:ctZ Z=c)(W:World)(y:Sl)(ht:Tch [] w W):
  Cp 62 #[zp st,.agg (ja r y.v)] W fun e w'=>Tch [] W w'/\PlG B (c=c) (fun w'=>JgO B w col w' x st o room) (fun t w'=>t=⟨#[4]⟩/\Did B x st b w col now c w') e w':=by
 have hQ':ctZ Z i=some Q:=by rw[hc];exact hQ
 obtain⟨z,hz,hzq⟩:=qN hQ';refine zF B _ _ r y st b 18 207 (b+3) now _ W (by rw[hop];rfl) (by decide) (hs.tch ht).stb rfl a0Z ?_;intro W1 ht1;have tW:=ht.trans ht1 (by simp);have hsW:=hs.tch tW;refine xg B _ _ r y st b i 164 (b+3) z.qb now _ W1 hq hi hsW.stb (a1I hz) (hsW.tb 3 164 (by decide)) a8a ?_;intro W2 ht2;have tW2:=tW.trans ht2 (by simp);refine(a9U r y z.qb now W2 hbod.1 hbod.2).mono ?_;rintro e w' ⟨he,ht'⟩;exact⟨ht',vB hb hE.size 4 (by decide) tW2 ht' he⟩
theorem b5L (B:Nat)(r:Wp.Rq)(x st b:Nat)(now:Int)(c:Nat->Option QM)(col:Nat->Nat)(w:World)(hE:Env B w)(hb:Bk B w x st b now c col)(hop:r.op=65\/r.op=69)(er:UInt8)(her:er=7\/er=8)(Z:Nat->Option BQ)(o:Option ByteArray)(room:Int)(hs:SG B w st b now Z col)(hc:ctZ Z=c)
  (hF:∀W1,Tch [] w W1->zT 194 #[zp st,.string r.han] W1 (.tuple #[.pointer none,.int .i64 0,.int .i64 (er.toNat:Int)]))(W:World)(y:Sl)(ht:Tch [] w W):
  Cp 62 #[zp st,.agg (ja r y.v)] W fun e w'=>Tch [] W w'/\PlG B (c=c) (fun w'=>JgO B w col w' x st o room) (fun t w'=>t=⟨#[er]⟩/\Did B x st b w col now c w') e w':=by
 have hr:((er.toNat:Nat):Int)=7\/((er.toNat:Nat):Int)=8:=by rcases her with rfl|rfl<;>decide
 have h0:0<er.toNat:=by omega
 rcases hop with hop|hop
 ·refine vN B _ _ r y st b 0 157 now _ W (by rw[hop];rfl) (by decide) (hs.tch ht).stb rfl b0S ?_;intro W1 ht1;have tW:=ht.trans ht1 (by simp);refine(a4n _ hr r y st W1 (fun W2 ht2=>hF W2 (tW.trans ht2 (by simp)))).mono ?_;rintro e w1 ⟨he,ht2⟩;exact⟨ht2,vB hb hE.size er h0 tW ht2 he⟩
 ·refine vN B _ _ r y st b 4 160 now _ W (by rw[hop];rfl) (by decide) (hs.tch ht).stb rfl a6G ?_;intro W1 ht1;have tW:=ht.trans ht1 (by simp);refine(a4z _ hr r y st W1 (fun W2 ht2=>hF W2 (tW.trans ht2 (by simp)))).mono ?_;rintro e w1 ⟨he,ht2⟩;exact⟨ht2,vB hb hE.size er h0 tW ht2 he⟩
theorem b8Z (B:Nat)(r:Wp.Rq)(x st b:Nat)(now:Int)(c:Nat->Option QM)(col:Nat->Nat)(w:World)(hE:Env B w)(hb:Bk B w x st b now c col)(hop:r.op=65\/r.op=69)(hsz:r.han.size<=1000000)(hno:¬∃h8:r.han.size=8,r.han[0]=72/\zj r.han[1]=true)(Z:Nat->Option BQ)(o:Option ByteArray)(room:Int)(hs:SG B w st b now Z col)(hc:ctZ Z=c)(W:World)(y:Sl)(ht:Tch [] w W):
  Cp 62 #[zp st,.agg (ja r y.v)] W fun e w'=>Tch [] W w'/\PlG B (c=c) (fun w'=>JgO B w col w' x st o room) (fun t w'=>t=⟨#[7]⟩/\Did B x st b w col now c w') e w':=
 b5L B r x st b now c col w hE hb hop 7 (.inl rfl) Z o room hs hc (fun W1 t1=>by
  have hE1:=hE.tch t1 (by simp);exact b0Y st r.han W1 (b4F B r.han W1 hE1.lays hE1.size hsz hno)) W y ht
theorem b9b (B:Nat)(r:Wp.Rq)(x st b i num rcv:Nat)(now:Int)(c:Nat->Option QM)(col:Nat->Nat)(w:World)(hE:Env B w)(hb:Bk B w x st b now c col)(hop:r.op=65\/r.op=69)(hi:i<8)(hh:vU r.han i num rcv)(hno:c i=none)(Z:Nat->Option BQ)(o:Option ByteArray)(room:Int)(hs:SG B w st b now Z col)(hc:ctZ Z=c)(W:World)(y:Sl)(ht:Tch [] w W):
  Cp 62 #[zp st,.agg (ja r y.v)] W fun e w'=>Tch [] W w'/\PlG B (c=c) (fun w'=>JgO B w col w' x st o room) (fun t w'=>t=⟨#[8]⟩/\Did B x st b w col now c w') e w':=
 b5L B r x st b now c col w hE hb hop 8 (.inr rfl) Z o room hs hc (fun W1 t1=>by
  have hE1:=hE.tch t1 (by simp);obtain⟨h8,h0,h1,h2,h3,h4⟩:=hh;have hrd:=a6g B r.han W1 hE1.lays hE1.size h8 h0 h1;rw[h3,h4]at hrd;refine b0Z st r.han ((r.han[1].toNat:Nat):Int) num rcv W1 ⟨hrd,fun W2 t2=>?_⟩
  have h5:=a8Q st b i now _ W2 (hs.tch (t1.trans t2 (by simp))).stb hi;have e:((r.han[1].toNat:Nat):Int)=97+(i:Int):=by rw[h2];omega
  rw[e];have e2:=b2h (a8x hc hno);rw[e2]at h5;exact h5) W y ht
theorem SG.rem {b:Nat}(h:SG B w st b now Z col)(hB:B<=w.heap.size)(hi:i<8)(ht:Tch [st] w w')(hs:Stb w' st b now (vE (fun i=>jB (ptZ Z i)) i (.pointer none))):
  SG B w' st b now (xM Z i none) col/\Fq B col w w':=by
 have hst0:=h.stb;have hns:∀{k:Nat} {C:Array Value} {t:TypeId},w.heap[k]?=some (.cells C t (0,0))->t≠156->k∉[st]:=fun {k C t} hk hne hm=>by
  simp at hm;subst hm;rw[hst0]at hk;simp at hk;exact hne hk.2.symm
 have hor:∀q z,xM Z i none q=some z->Z q=some z:=fun q z hz=>by
  by_cases e:q=i
  ·subst e;rw[kz]at hz
   cases hz
  ·rw[kN _ _ e]at hz;exact hz
 refine⟨⟨?_,fun q f hq=>(ht.block _ (lt_of_block (h.tb q f hq)) (hns (h.tb q f hq) (by decide))).trans (h.tb q f hq),fun q z hq hz=>?_,fun q z hq hz=>h.cl q z hq (hor q z hz),fun q z hq hz=>h.lo q z hq (hor q z hz),h.ls,h.cs⟩,?_⟩
 ·have e:(fun j=>jB (ptZ (xM Z i none) j))=vE (fun i=>jB (ptZ Z i)) i (.pointer none):=by
   funext j;unfold vE ptZ xM
   by_cases e:j=i
   ·simp[e,jB]
   ·simp[e]
  rw[e];exact hs
 ·have h1:=h.qr q z hq (hor q z hz);exact h1.tch ht (fun k hk hm=>by
   simp at hm;subst hm;exact h1.nty h.stb (by decide) hk)
 ·refine FqT.of_tch ht hB (fun k hk=>?_) (fun k hk C t hC=>?_) (fun k hk=>?_)
  ·simp at hk;subst hk;exact h.ls
  ·simp at hk;subst hk;rw[hst0]at hC;simp at hC;rw[<-hC.2];decide
  ·simp at hk;subst hk;exact h.cs
theorem WFc.none (h:WFc c)(i:Nat):WFc (jI c i none):=fun j Q hj hQ=>by
 by_cases e:j=i
 ·subst e;rw[vQ]at hQ
  cases hQ
 ·rw[a2u _ _ e]at hQ;exact h j Q hj hQ
theorem b9H (B:Nat)(r:Wp.Rq)(x st b i:Nat)(now:Int)(c:Nat->Option QM)(col:Nat->Nat)(w:World)(hE:Env B w)(hb:Bk B w x st b now c col)(hop:r.op=88)(hi:i<8)(hq:r.q.toNat=97+i)(Q:QM)(hQ:c i=some Q)(Z:Nat->Option BQ)(o:Option ByteArray)(room:Int)(hs:SG B w st b now Z col)(hc:ctZ Z=c)(W:World)(y:Sl)(ht:Tch [] w W):
  Cp 62 #[zp st,.agg (ja r y.v)] W fun e w'=>Tch [] W w'/\PlG B ((jI c i none)=c) (fun w'=>JgO B w col w' x st o room) (fun t w'=>t=okL []/\Did B x st b w col now (jI c i none) w') e w':=by
 have hQ':ctZ Z i=some Q:=by rw[hc];exact hQ
 obtain⟨z,hz,hzq⟩:=qN hQ';refine vN B _ _ r y st b 23 167 now _ W (by rw[hop];rfl) (by decide) (hs.tch ht).stb rfl b0T ?_;intro W1 ht1;have tW:=ht.trans ht1 (by simp);refine(b7t r y st z.qb W1 (fun W2 ht2=>?_)).mono ?_
 ·have h1:=a7Q (hs.tch (tW.trans ht2 (by simp))) hi hq;rw[a1I hz]at h1;exact h1
 ·rintro e w1 ⟨gs,gr,rfl,ht2,hgs,hgr⟩;refine⟨ht2,.inr ⟨_,_,[],rfl,.inl ⟨rfl,rfl⟩,fun w2 ht3=>.inr ⟨222,_,rfl,b6y,fun w3 w4 ht4 hf4 hJ4=>?_⟩⟩⟩
  have t23:=ht3.trans ht4 (by simp);have t3:=(tW.trans ht2 (by simp)).trans t23 (by simp);have hs4:=hs.lay t3 hf4;have hz3:=t3.size;have hz4:=hf4.size;have kgr:=hf4.keep _ _ _ ((t23.block _ (lt_of_block hgr) (by simp)).trans hgr) (by decide);have kgs:=hf4.keep _ _ _ ((t23.block _ (lt_of_block hgs) (by simp)).trans hgs) (by decide);have hst0:=hs4.stb;have n1:gs≠st:=fun e=>by
   rw[e,hst0]at kgs;simp at kgs
  have n2:gr≠st:=fun e=>by
   rw[e,hst0]at kgr;simp at kgr
  have e97:((r.q.toNat:Nat):Int)=97+(i:Int):=by rw[hq];omega
  refine(b2z st b i gs gr now _ w4 hs4.stb hi (jb kgs 0 _ rfl) (by rw[<-e97];exact jb kgr 1 _ rfl) n1 n2).mono ?_;rintro e w5 ⟨rfl,k1,k2⟩;obtain⟨j1,j2⟩:=hs4.rem (by have:=hE.size;omega) hi k2 k1;refine⟨rfl,rfl,a2B (now:=now) (Z:=Z) hE.size t3 hf4 hb.fut hJ4 j1 ?_ (hb.wf.none i) hb.nw (Agr.refl _ _) j2⟩;rw[a0p,hc];rfl
def a2N (s:ByteArray):Option (Nat×Nat×Nat):=if h8:s.size=8 then (if s[0]=72/\zj s[1]=true then some (s[1].toNat-97,leN (tk (s.extract 2 8) 4).data.toList,leN (tk (lf (s.extract 2 8) 4) 2).data.toList) else none) else none
theorem a0s {num rcv:Nat}(h:a2N s=some (i,num,rcv)):vU s i num rcv/\i<8:=by
 unfold a2N at h
 by_cases h8:s.size=8
 ·rw[dif_pos h8]at h
  by_cases hc:s[0]=72/\zj s[1]=true
  ·rw[if_pos hc]at h;simp only[Option.some.injEq,Prod.mk.injEq]at h;obtain⟨rfl,rfl,rfl⟩:=h;have hl:=hc.2;unfold zj at hl;rw[Bool.and_eq_true,decide_eq_true_eq,decide_eq_true_eq]at hl;exact⟨⟨h8,hc.1,hc.2,by omega,rfl,rfl⟩,by omega⟩
  ·rw[if_neg hc]at h
   cases h
 ·rw[dif_neg h8]at h
  cases h
theorem a9s (h:a2N s=none):¬∃h8:s.size=8,s[0]=72/\zj s[1]=true:=by
 rintro ⟨h8,hc⟩;unfold a2N at h;rw[dif_pos h8,if_pos hc]at h
 cases h
abbrev qiR (r:Wp.Rq):Nat:=r.q.toNat-97
def doR (now:Int)(c:Nat->Option QM)(i:Nat)(Q:QM)(r:Wp.Rq):ByteArray×Int×(Nat->Option QM):=
 match Q.ats[(jj (isA r.att) Q.ats).toNat]? with
 | some a=>if 0<=jj (isA r.att) Q.ats then (okL a.ans.data.toList,now,c) else (okL (jQ Q (min r.mx.toNat Q.rs.length) (min r.mx.toNat Q.rs.length)),now,zP c i Q r.att (min r.mx.toNat Q.rs.length) now)
 | none=>(okL (jQ Q (min r.mx.toNat Q.rs.length) (min r.mx.toNat Q.rs.length)),now,zP c i Q r.att (min r.mx.toNat Q.rs.length) now)
def doS (now:Int)(c:Nat->Option QM)(i:Nat)(Q:QM)(r:Wp.Rq):ByteArray×Int×(Nat->Option QM):=
 if 40<r.bod.size then (⟨#[4]⟩,now,c)
 else if 0<=jj (isI (ks r)) Q.ds then (okL (je (((Q.ds[(jj (isI (ks r)) Q.ds).toNat]?).map Dd.num).getD 0).toNat 4),now,c)
 else if Q.c.quo<=(Q.ms.length:Int) then (⟨#[5]⟩,now,c)
 else if 200<Q.next then (⟨#[6]⟩,now,c)
 else (okL (je Q.next 4),now,jI c i (some (vl Q r now)))
def doA (now:Int)(c:Nat->Option QM)(r:Wp.Rq)(f:Nat->QM->Nat->(Nat->Option QM)):ByteArray×Int×(Nat->Option QM):=
 match a2N r.han with
 | none=>(⟨#[7]⟩,now,c)
 | some (i,num,rcv)=>match c i with
  | none=>(⟨#[8]⟩,now,c)
  | some Q=>if kr Q num rcv=true then (okL [],now,f i Q num) else (⟨#[8]⟩,now,c)
def doQ (now:Int)(c:Nat->Option QM)(r:Wp.Rq):ByteArray×Int×(Nat->Option QM):=
 if r.op=84 then (if 60000<now+r.tic then (⟨#[9]⟩,now,c) else (okL [],now+r.tic,b9M (now+r.tic) c))
 else if r.op=65 then doA now c r (fun i Q num=>jI c i (some (qw Q num)))
 else if r.op=69 then doA now c r (fun i Q num=>zv c i Q num now r.tic)
 else match c (qiR r) with
  | none=>if r.op=67 then (okL [],now,jI c (qiR r) (some (newM r))) else (⟨#[2]⟩,now,c)
  | some Q=>if r.op=67 then (⟨#[3]⟩,now,c)
   else if r.op=88 then (okL [],now,jI c (qiR r) none)
   else if r.op=80 then (okL [],now,jI c (qiR r) (some (xI Q)))
   else if r.op=86 then (okL (xD Q),now,c)
   else if r.op=82 then doR now c (qiR r) Q r
   else doS now c (qiR r) Q r
theorem a5G {b:Bool}{f:Nat}(h:r.fits n b f=true)(h1:f≠1):Wp.least f<=r.measure n f/\r.measure n f<=Wp.most f:=by
 unfold Wp.Rq.fits at h;rw[if_neg (fun e=>h1 e.1)]at h
 by_cases ha:r.measure n f<Wp.least f
 ·rw[if_pos ha]at h
  cases h
 ·rw[if_neg ha]at h
  by_cases hb:Wp.most f<r.measure n f
  ·rw[if_pos hb]at h
   cases h
  ·omega
theorem a3w {b:Bool}(h:r.fits n b 1=true):r.d=45\/(97<=r.d.toNat/\r.d.toNat<=104)/\r.d≠r.q:=by
 unfold Wp.Rq.fits at h
 by_cases hd:r.d=45
 ·exact .inl hd
 ·rw[if_neg (fun e=>hd e.2)]at h
  by_cases ha:r.measure n 1<Wp.least 1
  ·rw[if_pos ha]at h
   cases h
  ·rw[if_neg ha]at h
   by_cases hb:Wp.most 1<r.measure n 1
   ·rw[if_pos hb]at h
    cases h
   ·rw[if_neg hb,if_pos rfl]at h;have e1:r.measure n 1=(r.d.toNat:Int):=rfl;have e2:Wp.least 1=97:=rfl;have e3:Wp.most 1=104:=rfl;rw[e1,e2]at ha;rw[e1,e3]at hb;refine .inr ⟨by omega,fun e=>?_⟩
    rw[e]at h;simp at h
structure b0j (r:Wp.Rq):Prop where
 ops:∃i∈qT,r.op.toNat=65+i
 fq:r.op.toNat-65∈[2,15,17,18,21,23]->97<=r.q.toNat/\r.q.toNat<=104
 fc:r.op.toNat=67->CfW (qiR r) r
 fs:r.op.toNat=83->(1<=r.grp.size/\r.grp.size<=8)/\r.ded.size<=8/\r.bod.size<=255
 fr:r.op.toNat=82->(1<=r.mx/\r.mx<=10)/\r.att.size<=8
 fh:r.op.toNat=65\/r.op.toNat=69->r.han.size<=255
 ft:r.op.toNat=69\/r.op.toNat=84->0<=r.tic/\r.tic<=1000
theorem b3E (hq:r.q.toNat=97+i)(h:r.d=45\/(97<=r.d.toNat/\r.d.toNat<=104)/\r.d≠r.q):a4m i r:=by
 rcases h with h|⟨h1,h2⟩
 ·exact .inl h
 ·refine .inr ⟨r.d.toNat-97,by omega,fun e=>h2 ?_,by omega⟩
  have:r.d.toNat=r.q.toNat:=by omega
  exact UInt8.toNat_inj.1 this
theorem b2M (hw:Wf r)(h:jo r nil0 (Wp.short [])=true):b0j r:=by
 obtain⟨i,hi,hop,hf,_,_⟩:=(vj r nil0 _ hw).1 h;have hl:∀f,f∈Wp.lay i->r.fits nil0.n (Wp.short []) f=true:=List.all_eq_true.1 hf;have hF:∀f,f∈Wp.lay i->f≠1->Wp.least f<=r.measure nil0.n f/\r.measure nil0.n f<=Wp.most f:=fun f hm hn=>a5G (hl f hm) hn
 have hq:i∈[2,15,17,18,21,23]->97<=r.q.toNat/\r.q.toNat<=104:=fun hm=>by
  have h0:0∈Wp.lay i:=by
   simp only[List.mem_cons,List.not_mem_nil,or_false]at hm;rcases hm with rfl|rfl|rfl|rfl|rfl|rfl<;>decide
  have h1:=hF 0 h0 (by decide);have e1:r.measure nil0.n 0=(r.q.toNat:Int):=rfl;have e2:Wp.least 0=97:=rfl;have e3:Wp.most 0=104:=rfl;rw[e1,e2,e3]at h1;omega
 refine⟨⟨i,hi,hop⟩,fun hm=>hq (by rw[hop,Nat.add_sub_cancel_left]at hm;exact hm),fun ho=>?_,fun ho=>?_,fun ho=>?_,fun ho=>?_,fun ho=>?_⟩
 ·obtain rfl:i=2:=by omega
  have h2:(1:Int)<=r.vis/\r.vis<=1000:=hF 2 (by decide) (by decide);have h3:(0:Int)<=r.win/\r.win<=1000:=hF 3 (by decide) (by decide);have h4:(0:Int)<=r.rcv/\r.rcv<=9:=hF 4 (by decide) (by decide);have h5:(1:Int)<=r.quo/\r.quo<=50:=hF 5 (by decide) (by decide);have hq':=hq (by decide);have e:r.q.toNat=97+qiR r:=by unfold qiR;omega
  exact⟨e,b3E e (a3w (hl 1 (by decide))),h2,h3,h4,h5⟩
 ·obtain rfl:i=18:=by omega
  have h2:(1:Int)<=(r.grp.size:Int)/\(r.grp.size:Int)<=8:=hF 9 (by decide) (by decide);have h3:(0:Int)<=(r.ded.size:Int)/\(r.ded.size:Int)<=8:=hF 10 (by decide) (by decide);have h4:(0:Int)<=(r.bod.size:Int)/\(r.bod.size:Int)<=255:=hF 11 (by decide) (by decide);exact⟨by omega,by omega,by omega⟩
 ·obtain rfl:i=17:=by omega
  have h2:(0:Int)<=(r.att.size:Int)/\(r.att.size:Int)<=8:=hF 12 (by decide) (by decide);have h3:(1:Int)<=r.mx/\r.mx<=10:=hF 6 (by decide) (by decide);exact⟨h3,by omega⟩
 ·have hm:13∈Wp.lay i:=by
   rcases ho with ho|ho
   ·obtain rfl:i=0:=by omega
    decide
   ·obtain rfl:i=4:=by omega
    decide
  have h2:(0:Int)<=(r.han.size:Int)/\(r.han.size:Int)<=255:=hF 13 hm (by decide);omega
 ·rcases ho with ho|ho
  ·obtain rfl:i=4:=by omega
   have h2:(0:Int)<=r.tic/\r.tic<=1000:=hF 7 (by decide) (by decide);exact h2
  ·obtain rfl:i=19:=by omega
   have h2:(1:Int)<=r.tic/\r.tic<=1000:=hF 8 (by decide) (by decide);omega
theorem vG (h:r.op.toNat=n)(hn:n<256):r.op=UInt8.ofNat n:=by
 apply UInt8.toNat_inj.1;rw[h,UInt8.toNat_ofNat_of_lt' hn]
theorem b1U (B:Nat)(r:Wp.Rq)(x st b:Nat)(now:Int)(c:Nat->Option QM)(col:Nat->Nat)(w:World)(hE:Env B w)(hb:Bk B w x st b now c col)(hr:b0j r)(hnB:r.op.toNat≠66)(Z:Nat->Option BQ)(o:Option ByteArray)(room:Int)(hs:SG B w st b now Z col)(hc:ctZ Z=c)(W:World)(y:Sl)(ht:Tch [] w W):
  Cp 62 #[zp st,.agg (ja r y.v)] W fun e w'=>Tch [] W w'/\PlG B ((doQ now c r).2.2=c) (fun w'=>JgO B w col w' x st o room) (fun t w'=>t=(doQ now c r).1/\Did B x st b w col (doQ now c r).2.1 (doQ now c r).2.2 w') e w':=by
 obtain⟨k,hk,hop⟩:=hr.ops;simp only[qT,List.mem_cons,List.not_mem_nil,or_false]at hk;have hdead:∀(f:Nat->QM->Nat->(Nat->Option QM)),(r.op=65\/r.op=69)->doQ now c r=doA now c r f->(∀i num rcv Q,i<8->vU r.han i num rcv->c i=some Q->kr Q num rcv=true->Cp 62 #[zp st,.agg (ja r y.v)] W fun e w'=>Tch [] W w'/\PlG B ((f i Q num)=c) (fun w'=>JgO B w col w' x st o room) (fun t w'=>t=okL []/\Did B x st b w col now (f i Q num) w') e w')->
   Cp 62 #[zp st,.agg (ja r y.v)] W fun e w'=>Tch [] W w'/\PlG B ((doQ now c r).2.2=c) (fun w'=>JgO B w col w' x st o room) (fun t w'=>t=(doQ now c r).1/\Did B x st b w col (doQ now c r).2.1 (doQ now c r).2.2 w') e w':=fun f hop' hd hF=>by
  have hsz:=hr.fh (by rcases hop' with e|e<;>rw[e]<;>decide);rw[hd];unfold doA
  cases hh:a2N r.han with
  | none=>exact b8Z B r x st b now c col w hE hb hop' (by omega) (a9s hh) Z o room hs hc W y ht
  | some p=>
   obtain⟨i,num,rcv⟩:=p;obtain⟨hi,hi8⟩:=a0s hh;simp only
   cases hQ:c i with
   | none=>exact b9b B r x st b i num rcv now c col w hE hb hop' hi8 hi hQ Z o room hs hc W y ht
   | some Q=>
    simp only
    cases hf:kr Q num rcv with
    | true=>
     rw[if_pos rfl];exact hF i num rcv Q hi8 hi hQ hf
    | false=>
     rw[if_neg (by simp)];exact b9a B r x st b i num rcv now c col w hE hb hop' hi8 hi Q hQ hf Z o room hs hc W y ht
 rcases hk with rfl|rfl|rfl|rfl|rfl|rfl|rfl|rfl|rfl|rfl
 ·have ho:r.op=65:=vG hop (by decide);refine hdead (fun i Q num=>jI c i (some (qw Q num))) (.inl ho) ?_ (fun i num rcv Q hi8 hi hQ hf=>b9z B r x st b i num rcv now c col w hE hb ho hi8 hi Q hQ hf Z o room hs hc W y ht);unfold doQ;rw[ho];rfl
 ·exact absurd hop hnB
 ·have ho:r.op=67:=vG hop (by decide);have hq:=hr.fq (by rw[hop];decide);have hqi:r.q.toNat=97+qiR r:=by unfold qiR;omega
  have hi:qiR r<8:=by unfold qiR;omega
  cases hQ:c (qiR r) with
  | none=>
   have e:doQ now c r=(okL [],now,jI c (qiR r) (some (newM r))):=by
    unfold doQ;rw[ho,hQ];rfl
   rw[e];exact b9A B r x st b (qiR r) now c col w hE hb ho hi hqi (hr.fc (by rw[hop])) hQ Z o room hs hc W y ht
  | some Q=>
   have e:doQ now c r=(⟨#[3]⟩,now,c):=by
    unfold doQ;rw[ho,hQ];rfl
   rw[e];exact b9c B r x st b (qiR r) now c col w hE hb ho hi hqi Q hQ Z o room hs hc W y ht
 ·have ho:r.op=69:=vG hop (by decide);refine hdead (fun i Q num=>zv c i Q num now r.tic) (.inr ho) ?_ (fun i num rcv Q hi8 hi hQ hf=>b9B B r x st b i num rcv now c col w hE hb ho hi8 hi Q hQ hf (hr.ft (.inl (by rw[hop]))) Z o room hs hc W y ht);unfold doQ;rw[ho];rfl
 ·have ho:r.op=80:=vG hop (by decide);have hq:=hr.fq (by rw[hop];decide);have hqi:r.q.toNat=97+qiR r:=by unfold qiR;omega
  have hi:qiR r<8:=by unfold qiR;omega
  cases hQ:c (qiR r) with
  | none=>
   have e:doQ now c r=(⟨#[2]⟩,now,c):=by
    unfold doQ;rw[ho,hQ];rfl
   rw[e];exact a8u B r x st b (qiR r) 15 1 now c col w hE hb hop (by decide) (fun _=>rfl) hi hqi hQ Z o room hs hc W y ht
  | some Q=>
   have e:doQ now c r=(okL [],now,jI c (qiR r) (some (xI Q))):=by
    unfold doQ;rw[ho,hQ];rfl
   rw[e];exact b9C B r x st b (qiR r) now c col w hE hb ho hi hqi Q hQ Z o room hs hc W y ht
 ·have ho:r.op=82:=vG hop (by decide);have hq:=hr.fq (by rw[hop];decide);have hqi:r.q.toNat=97+qiR r:=by unfold qiR;omega
  have hi:qiR r<8:=by unfold qiR;omega
  obtain⟨hmx,hatt⟩:=hr.fr (by rw[hop])
  cases hQ:c (qiR r) with
  | none=>
   have e:doQ now c r=(⟨#[2]⟩,now,c):=by
    unfold doQ;rw[ho,hQ];rfl
   rw[e];exact a8u B r x st b (qiR r) 17 2 now c col w hE hb hop (by decide) (fun _=>rfl) hi hqi hQ Z o room hs hc W y ht
  | some Q=>
   have e:doQ now c r=doR now c (qiR r) Q r:=by
    unfold doQ;rw[ho,hQ];rfl
   rw[e];have hnew:jj (isA r.att) Q.ats<0->Cp 62 #[zp st,.agg (ja r y.v)] W fun e w'=>Tch [] W w'/\PlG B ((zP c (qiR r) Q r.att (min r.mx.toNat Q.rs.length) now)=c) (fun w'=>JgO B w col w' x st o room) (fun t w'=>t=okL (jQ Q (min r.mx.toNat Q.rs.length) (min r.mx.toNat Q.rs.length))/\Did B x st b w col now (zP c (qiR r) Q r.att (min r.mx.toNat Q.rs.length) now) w') e w':=fun hid=>
    b9D B r x st b (qiR r) r.mx.toNat (min r.mx.toNat Q.rs.length) now c col w hE hb ho hi hqi Q hQ hid hatt (by omega) (by omega) (by rw[Nat.min_def]) Z o room hs hc W y ht
   unfold doR
   cases ha:Q.ats[(jj (isA r.att) Q.ats).toNat]? with
   | none=>
    simp only;refine hnew ?_;have h1:=a0t (isA r.att) Q.ats;have h2:=List.getElem?_eq_none_iff.1 ha;omega
   | some a=>
    simp only
    by_cases hid:0<=jj (isA r.att) Q.ats
    ·rw[if_pos hid];exact b9d B r x st b (qiR r) (jj (isA r.att) Q.ats).toNat now c col w hE hb ho hi hqi Q hQ (Int.toNat_of_nonneg hid).symm a ha Z o room hs hc W y ht
    ·rw[if_neg hid];exact hnew (by omega)
 ·have ho:r.op=83:=vG hop (by decide);have hq:=hr.fq (by rw[hop];decide);have hqi:r.q.toNat=97+qiR r:=by unfold qiR;omega
  have hi:qiR r<8:=by unfold qiR;omega
  obtain⟨hgrp,hded,hbod⟩:=hr.fs (by rw[hop])
  cases hQ:c (qiR r) with
  | none=>
   have e:doQ now c r=(⟨#[2]⟩,now,c):=by
    unfold doQ;rw[ho,hQ];rfl
   rw[e];exact a8u B r x st b (qiR r) 18 3 now c col w hE hb hop (by decide) (fun _=>rfl) hi hqi hQ Z o room hs hc W y ht
  | some Q=>
   have e:doQ now c r=doS now c (qiR r) Q r:=by
    unfold doQ;rw[ho,hQ];rfl
   rw[e];unfold doS
   by_cases hb40:40<r.bod.size
   ·rw[if_pos hb40];exact b9e B r x st b (qiR r) now c col w hE hb ho hi hqi Q hQ ⟨hb40,by omega⟩ Z o room hs hc W y ht
   ·rw[if_neg hb40]
    by_cases hid:0<=jj (isI (ks r)) Q.ds
    ·rw[if_pos hid];have hlt:=a0t (isI (ks r)) Q.ds;have hpl:(jj (isI (ks r)) Q.ds).toNat<Q.ds.length:=by omega
     have hW:=hb.wf (qiR r) Q hi hQ;have hnm:=(hW.dok _ (List.getElem_mem hpl)).2.1;rw[List.getElem?_eq_getElem hpl];exact b9f B r x st b (qiR r) (jj (isI (ks r)) Q.ds).toNat _ now c col w hE hb ho hi hqi Q hQ (by omega) (Int.toNat_of_nonneg hid).symm hpl (by show _=((Q.ds[(jj (isI (ks r)) Q.ds).toNat].num.toNat:Nat):Int);omega) Z o room hs hc W y ht
    ·rw[if_neg hid]
     by_cases hqu:Q.c.quo<=(Q.ms.length:Int)
     ·rw[if_pos hqu];exact b5M B r x st b (qiR r) now c col w hE hb ho hi hqi Q hQ (by omega) (by omega) 5 (.inl ⟨rfl,hqu⟩) Z o room hs hc W y ht
     ·rw[if_neg hqu]
      by_cases hnx:200<Q.next
      ·rw[if_pos hnx];exact b5M B r x st b (qiR r) now c col w hE hb ho hi hqi Q hQ (by omega) (by omega) 6 (.inr ⟨rfl,by omega,hnx⟩) Z o room hs hc W y ht
      ·rw[if_neg hnx];exact b9E B r x st b (qiR r) now c col w hE hb ho hi hqi Q hQ (by omega) (by omega) hgrp hded (by omega) (by omega) Z o room hs hc W y ht
 ·have ho:r.op=84:=vG hop (by decide);have htc:=hr.ft (.inr (by rw[hop]))
  by_cases hl:60000<now+r.tic
  ·have e:doQ now c r=(⟨#[9]⟩,now,c):=by
    unfold doQ;rw[ho,if_pos rfl,if_pos hl]
   rw[e];exact b9g B r x st b now c col w hE hb ho ⟨htc.1,htc.2,hl⟩ Z o room hs hc W y ht
  ·have e:doQ now c r=(okL [],now+r.tic,b9M (now+r.tic) c):=by
    unfold doQ;rw[ho,if_pos rfl,if_neg hl]
   rw[e];exact b9F B r x st b now c col w hE hb ho ⟨htc.1,by omega⟩ Z o room hs hc W y ht
 ·have ho:r.op=86:=vG hop (by decide);have hq:=hr.fq (by rw[hop];decide);have hqi:r.q.toNat=97+qiR r:=by unfold qiR;omega
  have hi:qiR r<8:=by unfold qiR;omega
  cases hQ:c (qiR r) with
  | none=>
   have e:doQ now c r=(⟨#[2]⟩,now,c):=by
    unfold doQ;rw[ho,hQ];rfl
   rw[e];exact a8u B r x st b (qiR r) 21 4 now c col w hE hb hop (by decide) (fun _=>rfl) hi hqi hQ Z o room hs hc W y ht
  | some Q=>
   have e:doQ now c r=(okL (xD Q),now,c):=by
    unfold doQ;rw[ho,hQ];rfl
   rw[e];exact b9G B r x st b (qiR r) now c col w hE hb ho hi hqi Q hQ Z o room hs hc W y ht
 ·have ho:r.op=88:=vG hop (by decide);have hq:=hr.fq (by rw[hop];decide);have hqi:r.q.toNat=97+qiR r:=by unfold qiR;omega
  have hi:qiR r<8:=by unfold qiR;omega
  cases hQ:c (qiR r) with
  | none=>
   have e:doQ now c r=(⟨#[2]⟩,now,c):=by
    unfold doQ;rw[ho,hQ];rfl
   rw[e];exact b9h B r x st b (qiR r) now c col w hE hb ho hi hqi hQ Z o room hs hc W y ht
  | some Q=>
   have e:doQ now c r=(okL [],now,jI c (qiR r) none):=by
    unfold doQ;rw[ho,hQ];rfl
   rw[e];exact b9H B r x st b (qiR r) now c col w hE hb ho hi hqi Q hQ Z o room hs hc W y ht
theorem b7b:∀i∈qT,∀f∈Wp.lay i,f<15:=by decide
theorem b8K:∀i∈qT,(Wp.lay i).length<=6:=by decide
theorem b7a:∀i∈qT,i≠1->∀f∈Wp.lay i,f≠14:=by decide
theorem b5t (x:Sl):∀(fs:List Nat),(∀f∈fs,f≠14)->kD x fs=x
 | [],_=>rfl
 | f::fs,h=>by
  show kD (eb x f) fs=x
  have e:eb x f=x:=if_neg (h f List.mem_cons_self);rw[e];exact b5t x fs (fun g hg=>h g (List.mem_cons_of_mem _ hg))
theorem a9q (s:ByteArray)(hg:jk s=true):s.size<=90000:=by
 obtain⟨h1,h2,h3⟩:=zy s hg;obtain⟨i,hi,hop,hf,_,_⟩:=(vj _ _ _ (a1u s)).1 h3;have hl:=List.all_eq_true.1 hf;have h4:=vb (jU (jh s).r (jh s).bs) 2600 (Wp.lay i) (fun f hm=>a5C _ _ f (b7b i hi f hm) (hl f hm));have h6:=b8K i hi;rw[hop,Nat.add_sub_cancel_left]at h1;have h5:=congrArg ByteArray.size h1;rw[jH,List.length_cons]at h5;have h7:(kW (jh s).r (jh s).bs (Wp.lay i)).length<=2600*(Wp.lay i).length:=h4;omega
theorem a0R (s:ByteArray)(hg:jk s=true)(hnB:(jh s).r.op.toNat≠66):jo (jh s).r nil0 (Wp.short [])=true/\qc (jh s).r nil0 []=s:=by
 obtain⟨h1,h2,h3⟩:=zy s hg;obtain⟨i,hi,hop,hf,he,hn⟩:=(vj _ _ _ (a1u s)).1 h3;have h1i:i≠1:=fun e=>hnB (by rw[hop,e])
 rw[b5t _ _ (b7a i hi h1i)]at hn;have hbs:(jh s).bs=[]:=List.length_eq_zero_iff.1 hn;have h4:=(a0I s nil0 hg (by rw[hbs];rfl)).1;rw[hbs]at h3 h4;exact⟨h3,h4⟩
end Go.Proofs.YtbdobaapadlcjaaGreatDoor
