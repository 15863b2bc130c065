import Derived.Test.YtbdobaapadlcjaaGreatDoorRx17
set_option maxRecDepth 8000
set_option maxHeartbeats 4000000
set_option linter.unusedVariables false
set_option linter.unusedSimpArgs false
namespace Go.Proofs.YtbdobaapadlcjaaGreatDoor
open Go.RowKit
variable {B x st i qb:Nat}{w w' w2 w3:World}{now room til num:Int}{col:Nat->Nat}{o:Option ByteArray}{Z:Nat->Option BQ}{c':Nat->Option QM}{r:Wp.Rq}{V:QV}{Q:QM}{ms:List Ms}{m:Ms}
structure Bk (B:Nat)(w:World)(x st b:Nat)(now:Int)(c:Nat->Option QM)(col:Nat->Nat):Prop where
 sg:∃Z,SG B w st b now Z col/\ctZ Z=c
 wf:WFc c
 nw:0<=now/\now<=60000
 jg:∃o room,Jg B w x st o room col
 fut:∀k:Nat,w.heap.size<=k->col k≠9
theorem Bk.tch {b:Nat}{c:Nat->Option QM}(h:Bk B w x st b now c col)(ht:Tch [] w w'):Bk B w' x st b now c col:=by
 obtain⟨⟨Z,h1,h2⟩,h3,h4,⟨o,room,h5⟩,h6⟩:=h;exact⟨⟨Z,h1.tch ht,h2⟩,h3,h4,⟨o,room,h5.tch ht⟩,fun k hk=>h6 k (Nat.le_trans ht.size hk)⟩
def Did (B x st b:Nat)(w:World)(col:Nat->Nat)(now:Int)(c:Nat->Option QM)(w':World):Prop:=∃col',Bk B w' x st b now c col'/\Agr w col col'/\FqT TA B col w w'
theorem did_same {b:Nat}{c:Nat->Option QM}(h:Bk B w x st b now c col)(hB:B<=w.heap.size)(ht:Tch [] w w'):Did B x st b w col now c w':=⟨col,h.tch ht,Agr.refl _ _,FqT.of_nil col ht hB⟩
theorem Jg.fq {c:Nat->Nat}(h:Jg B w x st o room col)(ht:Fq B c w w'):Jg B w' x st o room col:=by
 obtain⟨j,d,v,n,k,h⟩:=h;exact⟨j,d,v,n,k,ht.keep _ _ _ h.hx (by decide),⟨ht.keep _ _ _ h.jr.hj (by decide),⟨ht.keep _ _ _ h.jr.dsk.blk (by decide),ht.own h.jr.dsk.own (by decide),h.jr.dsk.sep⟩,h.jr.gd⟩,h.lo,h.bd,h.cj⟩
theorem fr_fq (col:Nat->Nat)(h2:Tch [] w w2)(h3:Fr B TJ w2 w3)(hB:B<=w.heap.size)(ho:∀k:Nat,k<w.heap.size->col k=9->w3.heap[k]?=w.heap[k]?):FqT TA B col w w3:=FqT.of_fr (T:=TJ) ((Fr.of_nil TJ h2 hB).trans h3) (by decide) ho
theorem did_of {b:Nat}{now now':Int}{Z Z':Nat->Option BQ}{col':Nat->Nat}(hB:B<=w.heap.size)(h2:Tch [] w w2)(h3:Fr B TJ w2 w3)(hfu:∀k:Nat,w.heap.size<=k->col k≠9)(hJ:JgO B w col w3 x st o room)
  (hs:SG B w' st b now' Z' col')(hc:ctZ Z'=c')(hW:WFc c')(hn:0<=now'/\now'<=60000)(ha:Agr w3 col col')(hf:Fq B col w3 w'):Did B x st b w col now' c' w':=by
 have hsz:=h2.size;have hsz3:=h3.size;have hsz5:=hf.size;exact⟨col',⟨⟨Z',hs,hc⟩,hW,hn,⟨o,room,(hJ.1.recol (fun k _ e=>ha.2 k e)).fq hf⟩,fun k hk e=>hfu k (by omega) (ha.2 k e)⟩,⟨fun k hk=>ha.1 k (by omega),ha.2⟩,(fr_fq col h2 h3 hB hJ.2).trans (Agr.refl _ _) (hf.mono ts_ta)⟩
theorem did_n {b:Nat}(hB:B<=w.heap.size)(h2:Tch [] w w2)(h3:Fr B TJ w2 w3)(hfu:∀k:Nat,w.heap.size<=k->col k≠9)(hJ:JgO B w col w3 x st o room)(hn:SGn B st b now w3 w' Z col c')(hW:WFc c')(ht:0<=now/\now<=60000):Did B x st b w col now c' w':=by
 obtain⟨Z',col',k1,k2,k3,k4,k5,k6,k7⟩:=hn;exact did_of (now:=now) (Z:=Z) hB h2 h3 hfu hJ k1 k2 hW ht k4 k5
theorem SG.lay {b:Nat}(h:SG B w st b now Z col)(h2:Tch [] w w2)(h3:Fr B TJ w2 w3):SG B w3 st b now Z col:=(h.tch h2).fr h3 (by decide) (by decide) (by decide)
theorem eg159:∀args w,(callFunc 159 args).run Tryz.prog w=.ok (.enter 159 args) w:=enters_of Tryz.func159 (by kernel_rfl) rfl
theorem eg165:∀args w,(callFunc 165 args).run Tryz.prog w=.ok (.enter 165 args) w:=enters_of Tryz.func165 (by kernel_rfl) rfl
theorem eg157:∀args w,(callFunc 157 args).run Tryz.prog w=.ok (.enter 157 args) w:=enters_of Tryz.func157 (by kernel_rfl) rfl
theorem eg207:∀args w,(callFunc 207 args).run Tryz.prog w=.ok (.enter 207 args) w:=enters_of Tryz.func207 (by kernel_rfl) rfl
theorem eg163:∀args w,(callFunc 163 args).run Tryz.prog w=.ok (.enter 163 args) w:=enters_of Tryz.func163 (by kernel_rfl) rfl
theorem eg164:∀args w,(callFunc 164 args).run Tryz.prog w=.ok (.enter 164 args) w:=enters_of Tryz.func164 (by kernel_rfl) rfl
theorem eg201:∀args w,(callFunc 201 args).run Tryz.prog w=.ok (.enter 201 args) w:=enters_of Tryz.func201 (by kernel_rfl) rfl
theorem eg220:∀args w,(callFunc 220 args).run Tryz.prog w=.ok (.enter 220 args) w:=enters_of Tryz.func220 (by kernel_rfl) rfl
theorem eg195:∀args w,(callFunc 195 args).run Tryz.prog w=.ok (.enter 195 args) w:=enters_of Tryz.func195 (by kernel_rfl) rfl
def newM (r:Wp.Rq):QM:=⟨r,1,[],[],[],[]⟩
def nilV:QV:=⟨.slice none 0 0,.slice none 0 0,.slice none 0 0,.slice none 0 0⟩
theorem newM_wf (h:CfW i r):QW i (newM r):=
 {c:=h,nx:=⟨by show 1<=1;omega,by show 1<=201;omega⟩,mq:=by show ((0:Nat):Int)<=r.quo;have:=h.quo.1;omega,nums:=List.Pairwise.nil,mok:=fun m hm=>by simp[newM]at hm,hd:=fun m hm=>by simp[newM]at hm,rn:=List.nodup_nil,rr:=fun g=>by simp[newM],dn:=List.Pairwise.nil,dok:=fun m hm=>by simp[newM]at hm,al:=by simp[newM],aok:=fun m hm=>by simp[newM]at hm}
theorem SG.crt {b:Nat}(h:SG B w st b now Z col)(hB:B<=w.heap.size)(hi:i<8)(r:Wp.Rq)(ht:Tch [st] w w')(hz:w'.heap.size=w.heap.size+2)(hs:Stb w' st b now (updP (fun i=>ptrV (ptZ Z i)) i (.pointer (some ⟨w.heap.size+1,0,none⟩))))
  (hq:w'.heap[w.heap.size+1]?=some (.cells (qC r 1 (.slice none 0 0) (.slice none 0 0) (.slice none 0 0) (.slice none 0 0)) 191 (0,0))):
  ∃col',SG B w' st b now (updZ Z i (some ⟨w.heap.size+1,nilV,newM r⟩)) col'/\Agr w col col'/\Fq B col w w':=by
 have hst0:=h.stb;have hns:∀{k:Nat} {C:Array Value} {t:TypeId},w.heap[k]?=some (.cells C t (0,0))->t≠156->k∉[st]:=fun {k C t} hk hne hm=>by
  simp at hm;subst hm;rw[hst0]at hk;simp at hk;exact hne hk.2.symm
 have hbl:qbl (w.heap.size+1) nilV=[w.heap.size+1]:=rfl;refine⟨fun k=>if k<w.heap.size then col k else i,⟨?_,?_,?_,?_,?_,h.ls,by show (if st<w.heap.size then col st else i)≠9;rw[if_pos h.stb.lt];exact h.cs⟩,agr_new (by omega),?_⟩
 ·have e:(fun j=>ptrV (ptZ (updZ Z i (some ⟨w.heap.size+1,nilV,newM r⟩)) j))=updP (fun i=>ptrV (ptZ Z i)) i (.pointer (some ⟨w.heap.size+1,0,none⟩)):=by
   funext j;unfold updP ptZ updZ
   by_cases e:j=i
   ·simp[e,ptrV]
   ·simp[e]
  rw[e];exact hs
 ·exact fun q f hq=>(ht.block _ (lt_of_block (h.tb q f hq)) (hns (h.tb q f hq) (by decide))).trans (h.tb q f hq)
 ·intro q z hq' hz'
  by_cases e:q=i
  ·subst e;rw[updZ_same]at hz';injection hz' with hz';subst hz';exact⟨hq,World.ownsRow_nil _ _ _ _,World.ownsRow_nil _ _ _ _,World.ownsRow_nil _ _ _ _,World.ownsRow_nil _ _ _ _⟩
  ·rw[updZ_ne _ _ e]at hz';exact(h.qr q z hq' hz').tch ht (fun k hk hm=>by
    simp at hm;subst hm;exact(h.qr q z hq' hz').nty h.stb (by decide) hk)
 ·intro q z hq' hz' k hk
  by_cases e:q=i
  ·subst e;rw[updZ_same]at hz';injection hz' with hz';subst hz';rw[hbl]at hk;simp at hk;subst hk;exact if_neg (by omega)
  ·rw[updZ_ne _ _ e]at hz';simp[(h.qr q z hq' hz').lt k hk,h.cl q z hq' hz' k hk]
 ·intro q z hq' hz' k hk
  by_cases e:q=i
  ·subst e;rw[updZ_same]at hz';injection hz' with hz';subst hz';rw[hbl]at hk;simp at hk;omega
  ·rw[updZ_ne _ _ e]at hz';exact h.lo q z hq' hz' k hk
 ·refine FqT.of_tch ht hB (fun k hk=>?_) (fun k hk C t hC=>?_) (fun k hk=>?_)
  ·simp at hk;subst hk;exact h.ls
  ·simp at hk;subst hk;rw[hst0]at hC;simp at hC;rw[<-hC.2];decide
  ·simp at hk;subst hk;exact h.cs
theorem pt_of {c:Nat->Option QM}(hc:ctZ Z=c){i:Nat}(h:c i=none):Z i=none:=ctZ_none (by rw[hc];exact h)
theorem op_C (B:Nat)(r:Wp.Rq)(x st b i:Nat)(now:Int)(c:Nat->Option QM)(col:Nat->Nat)(w:World)(hE:Env B w)(hb:Bk B w x st b now c col)(hop:r.op=67)(hi:i<8)(hq:r.q.toNat=97+i)(hcf:CfW i r)(hno:c i=none)(Z:Nat->Option BQ)(o:Option ByteArray)(room:Int)(hs:SG B w st b now Z col)(hc:ctZ Z=c)(W:World)(y:Sl)(ht:Tch [] w W):
  Calls Tryz.prog 62 #[.pointer (some ⟨st,0,none⟩),.agg (cellsOf r y.v)] W fun e w'=>Tch [] W w'/\PlG B (fun w'=>JgO B w col w' x st o room) (fun t w'=>t=okL []/\Did B x st b w col now (setC c i (some (newM r))) w') e w':=by
 refine plan_p B _ _ r y st b 2 159 now _ W (by rw[hop];rfl) (by decide) (hs.tch ht).stb rfl eg159 ?_;intro W1 ht1;have tW:=ht.trans ht1 (by simp);have hz:=pt_of hc hno;refine(crt_ok r y st W1 (fun W2 ht2=>?_)).mono ?_
 ·have h1:=at_g st b i now _ W2 (hs.tch (tW.trans ht2 (by simp))).stb hi;have e:((r.q.toNat:Nat):Int)=97+(i:Int):=by rw[hq];omega
  rw[e];have e2:ptrV (ptZ Z i)=.pointer none:=by unfold ptZ;rw[hz];rfl
  rw[e2]at h1;exact h1
 ·rintro e w1 ⟨gr,gs,rfl,ht2,hgr,hgs⟩;refine⟨ht2,.inr ⟨_,_,[],rfl,.inl ⟨rfl,rfl⟩,fun w2 ht3=>.inr ⟨201,_,rfl,eg201,fun w3 w4 ht4 hf4 hJ4=>?_⟩⟩⟩
  have t23:=ht3.trans ht4 (by simp);have t3:=(tW.trans ht2 (by simp)).trans t23 (by simp);have hs4:=hs.lay t3 hf4;have hz3:=t3.size;have hz4:=hf4.size;have kgr:=hf4.keep _ _ _ ((t23.block _ (lt_of_block hgr) (by simp)).trans hgr) (by decide);have kgs:=hf4.keep _ _ _ ((t23.block _ (lt_of_block hgs) (by simp)).trans hgs) (by decide);refine(made_sg r y gr gs st b i now _ w4 hq hi hs4.stb kgr kgs).mono ?_;rintro e w5 ⟨rfl,k1,k2,k3,k4⟩;obtain⟨col',j1,j2,j3⟩:=hs4.crt (by have:=hE.size;omega) hi r k1 k2 k3 k4;refine⟨rfl,rfl,did_of (now:=now) (Z:=Z) hE.size t3 hf4 hb.fut hJ4 j1 ?_ (hb.wf.set (newM_wf hcf)) hb.nw j2 j3⟩;rw[ctZ_upd,hc];rfl
theorem op_T (B:Nat)(r:Wp.Rq)(x st b:Nat)(now:Int)(c:Nat->Option QM)(col:Nat->Nat)(w:World)(hE:Env B w)(hb:Bk B w x st b now c col)(hop:r.op=84)(hn:0<=r.tic/\now+r.tic<=60000)(Z:Nat->Option BQ)(o:Option ByteArray)(room:Int)(hs:SG B w st b now Z col)(hc:ctZ Z=c)(W:World)(y:Sl)(ht:Tch [] w W):
  Calls Tryz.prog 62 #[.pointer (some ⟨st,0,none⟩),.agg (cellsOf r y.v)] W fun e w'=>Tch [] W w'/\PlG B (fun w'=>JgO B w col w' x st o room) (fun t w'=>t=okL []/\Did B x st b w col (now+r.tic) (timeC (now+r.tic) c) w') e w':=by
 refine plan_p B _ _ r y st b 19 165 now _ W (by rw[hop];rfl) (by decide) (hs.tch ht).stb rfl eg165 ?_;intro W1 ht1;have tW:=ht.trans ht1 (by simp);have hnw:=hb.nw;refine(goOn_c r y st now W1 (hs.tch tW).stb.now ⟨hnw.1,hn.1,hn.2⟩).mono ?_;rintro e w1 ⟨gs,gl,rfl,ht2,hgs,hgl⟩;refine⟨ht2,.inr ⟨_,_,[],rfl,.inl ⟨rfl,rfl⟩,fun w2 ht3=>.inr ⟨220,_,rfl,eg220,fun w3 w4 ht4 hf4 hJ4=>?_⟩⟩⟩
 have t23:=ht3.trans ht4 (by simp);have t3:=(tW.trans ht2 (by simp)).trans t23 (by simp);have hs4:=hs.lay t3 hf4;have hz3:=t3.size;have hz4:=hf4.size;have kgs:=hf4.keep _ _ _ ((t23.block _ (lt_of_block hgs) (by simp)).trans hgs) (by decide);have kgl:=hf4.keep _ _ _ ((t23.block _ (lt_of_block hgl) (by simp)).trans hgl) (by decide);refine went_walk _ gs gl st (now+r.tic) w4 kgs kgl ((set_sg B st b now (now+r.tic) Z col w4 hs4 (by have:=hE.size;omega) (by rw[hc];exact hb.wf)).mono ?_);rintro e w5 ⟨rfl,Z',col',k1,k2,k3,k4,k5,k6⟩;refine⟨rfl,rfl,?_⟩;rw[hc]at k2;rw[k2]at k3;exact did_of (now:=now) (Z:=Z) hE.size t3 hf4 hb.fut hJ4 k1 k2 k3 ⟨by omega,hn.2⟩ k5 k6
def purgQ (Q:QM):QM:={Q with ms:=[],rs:=[],ats:=[]}
theorem purge_any (qb:Nat)(now:Int)(r:Wp.Rq)(y:Sl)(w:World):
  Calls Tryz.prog 162 #[.pointer (some ⟨qb,0,none⟩),.int .i64 now,.agg (cellsOf r y.v)] w fun e w'=>∃gq,e=.returned (.tuple #[.slice none 0 0,.func (.func 208) #[] #[.pointer (some ⟨gq,0,none⟩)],.int .i64 0])/\Tch [] w w'/\w'.heap[gq]?=some (.cells #[.pointer (some ⟨qb,0,none⟩)] 152 (0,0)):=by
 rw[zM r y];go_enter Tryz.func162,Tryz.ntmps162;go_wp2_with fail;go_ret3;exact⟨w.heap.size,rfl,((Tch.refl _ _).alloc _).alloc _,heap_alloc2_old _ _ _⟩
theorem QR.noA (h:QR w qb V Q):QS w (w.setCell ⟨qb,10,none⟩ (.slice none 0 0)) qb V {V with a:=.slice none 0 0} {Q with ats:=[]}:=by
 have t3:Tch [qb] w (w.setCell ⟨qb,10,none⟩ (.slice none 0 0)):=(Tch.refl _ _).setCell (fun _=>by simp) _;have nq:∀{t s n:Nat} {v:Value} {xs:List Value},w.ownsRow 0 t s v n xs->t≠191->∀k,v.ownBlock=some k->k∉[qb]:=fun hv hne k hk hm=>by
  simp at hm;subst hm;exact own_ne hv h.blk hne hk
 refine⟨⟨h.blk.set10 _,own_tch h.m t3 (nq h.m (by decide)),own_tch h.r t3 (nq h.r (by decide)),own_tch h.d t3 (nq h.d (by decide)),World.ownsRow_nil _ _ _ _⟩,t3.sub (fun x hx _=>by simp at hx;exact mem_qbl.2 (.inl hx)),fun b hb'=>?_⟩
 rcases mem_qbl.1 hb' with e|e|e|e|e
 ·exact .inl (mem_qbl.2 (.inl e))
 ·exact .inl (mem_qbl.2 (.inr (.inl e)))
 ·exact .inl (mem_qbl.2 (.inr (.inr (.inl e))))
 ·exact .inl (mem_qbl.2 (.inr (.inr (.inr (.inl e)))))
 ·simp[Value.ownBlock]at e
theorem purged_any (Q:QM)(V:QV)(qb gq:Nat)(w:World)(h:QR w qb V Q)(hq:w.heap[gq]?=some (.cells #[.pointer (some ⟨qb,0,none⟩)] 152 (0,0))):
  Calls Tryz.prog 208 #[.pointer (some ⟨gq,0,none⟩)] w fun e w'=>e=.returned (.tuple #[])/\QL w w' qb V (purgQ Q):=by
 have hne:gq≠qb:=fun e=>by
  have h1:=h.blk;unfold Qb at h1;rw[<-e,hq]at h1;simp at h1
 obtain⟨k7,z7,s7⟩:=h.newM (w2:=w) (v':=.slice none 0 0) (ms':=[]) (Tch.refl _ _) (World.ownsRow_nil _ _ _ _) (fun k hk=>by simp[Value.ownBlock]at hk);obtain⟨k8,z8,s8⟩:=s7.qr.newR (w2:=w.setCell ⟨qb,7,none⟩ (.slice none 0 0)) (v':=.slice none 0 0) (rs':=[]) (Tch.refl _ _) (World.ownsRow_nil _ _ _ _) (fun k hk=>by simp[Value.ownBlock]at hk);have s10:=s8.qr.noA;have HFI:=zH (((s7.trans s8).trans s10).ql);have k10:=cell_qC s8.qr.blk 10 _ rfl;have z10:=s8.qr.blk.fz 10;obtain⟨w1,hw1⟩:∃w1,w1=w.setCell ⟨qb,7,none⟩ (.slice none 0 0):=⟨_,rfl⟩;rw[<-hw1]at HFI k8 z8 k10 z10;obtain⟨w2,hw2⟩:∃w2,w2=w1.setCell ⟨qb,8,none⟩ (.slice none 0 0):=⟨_,rfl⟩;rw[<-hw2]at HFI k10 z10;have lq:=h.blk.lt;have c0:=cell_of_one hq;have zz1:w1.heap.size=w.heap.size:=by rw[hw1];exact World.size_setCell _ _ _
 have zz2:w2.heap.size=w.heap.size:=by rw[hw2,World.size_setCell];exact zz1
 have c1:w1.cell? ⟨gq,0,none⟩=some (.pointer (some ⟨qb,0,none⟩)):=by rw[hw1];exact(World.cell?_of_block (Below.heap_setCell w _ _ gq hne)).trans c0
 have c2:w2.cell? ⟨gq,0,none⟩=some (.pointer (some ⟨qb,0,none⟩)):=by rw[hw2];exact(World.cell?_of_block (Below.heap_setCell w1 _ _ gq hne)).trans c1
 clear h hq s7 s8 s10 hne zz1 zz2;go_enter Tryz.func208,Tryz.ntmps208
 go_upto_region 1 with fail
 rw[<-hw1];clear hw1
 go_upto_region 2 with fail
 rw[<-hw2];clear hw2;go_wp2_with fail;go_end0;exact⟨rfl,HFI.out⟩
theorem find_first {p:Ms->Bool}:∀(l:List Ms),Ups l->∀x,l.find? p=some x->∀y∈l,p y=true->x.num<=y.num
 | [],_,x,h,_,_,_=>by simp at h
 | a::r,hu,x,h,y,hy,hp=>by
  obtain⟨h1,h2⟩:=List.pairwise_cons.1 hu
  by_cases ha:p a=true
  ·rw[List.find?_cons,ha]at h;injection h with h;subst h;rcases List.mem_cons.1 hy with rfl|hy
   ·omega
   ·have:=h1 y hy;omega
  ·have ha':p a=false:=by simpa using ha
   rw[List.find?_cons,ha']at h;rcases List.mem_cons.1 hy with rfl|hy
   ·exact absurd hp ha
   ·exact find_first r h2 x h y hy hp
def isHead (ms:List Ms)(m:Ms):Bool:=(ms.find? (isG m.grp)).map Ms.num == some m.num
theorem isHead_find (hu:Ups ms){m:Ms}(hm:m∈ms):isHead ms m=true↔ms.find? (isG m.grp)=some m:=by
 unfold isHead;rw[beq_iff_eq];constructor
 ·intro h;obtain⟨x,h1,h2⟩:=Option.map_eq_some_iff.1 h;rw[h1,num_inj hu (List.mem_of_find?_eq_some h1) hm h2]
 ·intro h;rw[h];rfl
theorem isHead_iff (hu:Ups ms){m:Ms}(hm:m∈ms):isHead ms m=true↔∀y∈ms,y.grp=m.grp->m.num<=y.num:=by
 rw[isHead_find hu hm];constructor
 ·intro h y hy he;exact find_first ms hu m h y hy ((isG_iff _ _).2 he)
 ·intro h
  cases hf:ms.find? (isG m.grp) with
  | none=>exact absurd ((isG_iff m.grp m).2 rfl) (List.find?_eq_none.1 hf m hm)
  | some x=>
   have h1:=find_first ms hu x hf m hm ((isG_iff _ _).2 rfl);have h2:=List.mem_of_find?_eq_some hf;have h3:=(isG_iff _ _).1 (List.find?_some hf);have h4:=h x h2 h3;rw[num_inj hu h2 hm (by omega)]
def inG (gs:List ByteArray)(m:Ms):Bool:=gs.any (fun g=>isG g m)
theorem inG_iff (gs:List ByteArray)(m:Ms):inG gs m=true↔m.grp∈gs:=by
 unfold inG;rw[List.any_eq_true];constructor
 ·rintro ⟨g,hg,he⟩;rw[(isG_iff g m).1 he];exact hg
 ·intro h;exact⟨m.grp,h,(isG_iff _ _).2 rfl⟩
def flyH (til:Int)(ms:List Ms)(gs:List ByteArray)(m:Ms):Ms:=if inG gs m=true/\isHead ms m=true then flyM til m else m
theorem flyH_num (til:Int)(ms:List Ms)(gs:List ByteArray)(m:Ms):(flyH til ms gs m).num=m.num:=by unfold flyH;split<;>rfl
theorem flyH_grp (til:Int)(ms:List Ms)(gs:List ByteArray)(m:Ms):(flyH til ms gs m).grp=m.grp:=by unfold flyH;split<;>rfl
theorem flyH_bod (til:Int)(ms:List Ms)(gs:List ByteArray)(m:Ms):(flyH til ms gs m).bod=m.bod:=by unfold flyH;split<;>rfl
theorem flyH_til (til:Int)(ms:List Ms)(gs:List ByteArray)(m:Ms):(flyH til ms gs m).til=if inG gs m=true/\isHead ms m=true then til else m.til:=by unfold flyH;split<;>rfl
theorem ups_idx {l:List Ms}(h:Ups l){i j:Nat}(hi:i<l.length)(hj:j<l.length)(e:l[i].num=l[j].num):i=j:=by
 have h1:=List.pairwise_iff_getElem.1 h
 by_cases h2:i<j
 ·have:=h1 i j hi hj h2;omega
 ·by_cases h3:j<i
  ·have:=h1 j i hj hi h3;omega
  ·omega
theorem QW.hidx (h:QW i Q){g:ByteArray}(hg:g∈Q.rs):0<=idxL (isG g) Q.ms:=by
 obtain⟨m,hm,he⟩:=((h.rr g).1 hg).1;exact(idxL_ex _ _).2 ⟨m,hm,(isG_iff g m).2 he⟩
theorem fly_map (h:QW i Q)(til:Int):∀(k:Nat),k<=Q.rs.length->flyAll til Q.ms (hdsL Q k)=Q.ms.map (flyH til Q.ms (Q.rs.take k))
 | 0,_=>by
  have e:Q.ms.map (flyH til Q.ms (Q.rs.take 0))=Q.ms:=by
   rw[List.map_congr_left (g:=id) (fun x _=>?_),List.map_id];unfold flyH;rw[if_neg (by simp[inG])];rfl
  rw[e];rfl
 | k+1,hk=>by
  have hkl:k<Q.rs.length:=by omega
  have ih:=fly_map h til k (by omega);have e1:hdsL Q (k+1)=hdsL Q k++[idxL (isG Q.rs[k]) Q.ms]:=by
   unfold hdsL;rw[List.take_succ_eq_append_getElem hkl,List.map_append];rfl
  have hgm:Q.rs[k]∈Q.rs:=List.getElem_mem hkl;obtain⟨p,hp⟩:∃p:Nat,idxL (isG Q.rs[k]) Q.ms=(p:Int):=⟨_,(Int.toNat_of_nonneg (h.hidx hgm)).symm⟩;obtain⟨hpl,hpg,hpf⟩:=idxL_fnd _ _ p hp;have hgrp:=(isG_iff _ _).1 hpg;have hnot:Q.rs[k]∉Q.rs.take k:=fun hm=>by
   have h1:=h.rn;rw[<-List.take_append_drop k Q.rs,List.nodup_append]at h1;have h2:Q.rs[k]∈Q.rs.drop k:=by
    rw[List.drop_eq_getElem_cons hkl];exact List.mem_cons_self
   exact h1.2.2 _ hm _ h2 rfl
  rw[e1,flyAll_snoc,ih,hp];unfold flyAt;have e2:(Q.ms.map (flyH til Q.ms (Q.rs.take k)))[((p:Nat):Int).toNat]?=some Q.ms[p]:=by
   rw[Int.toNat_natCast,List.getElem?_map,List.getElem?_eq_getElem hpl]
   show some _=_
   unfold flyH;rw[if_neg (by rw[inG_iff,hgrp];exact fun hc=>hnot hc.1)]
  rw[e2]
  show (Q.ms.map _).set ((p:Nat):Int).toNat _=_
  rw[Int.toNat_natCast];apply List.ext_getElem (by simp);intro j h1 h2;have hjl:j<Q.ms.length:=by simpa using h2
  rw[List.getElem_set];simp only[List.getElem_map]
  by_cases e:p=j
  ·subst e;rw[if_pos rfl];unfold flyH;rw[if_pos ⟨by rw[inG_iff,hgrp,List.take_succ_eq_append_getElem hkl];exact List.mem_append.2 (.inr (List.mem_singleton.2 rfl)),(isHead_find h.nums (List.getElem_mem hpl)).2 (by rw[hgrp];exact hpf)⟩]
  ·rw[if_neg e];unfold flyH;have e3:(inG (Q.rs.take (k+1)) Q.ms[j]=true/\isHead Q.ms Q.ms[j]=true)↔(inG (Q.rs.take k) Q.ms[j]=true/\isHead Q.ms Q.ms[j]=true):=by
    rw[inG_iff,inG_iff,List.take_succ_eq_append_getElem hkl,List.mem_append];constructor
    ·rintro ⟨h3|h3,h4⟩
     ·exact⟨h3,h4⟩
     ·exfalso;simp at h3;have h5:=(isHead_find h.nums (List.getElem_mem hjl)).1 h4;rw[h3,hpf]at h5;injection h5 with h5;exact e (ups_idx h.nums hpl hjl (by rw[h5]))
    ·rintro ⟨h3,h4⟩;exact⟨.inl h3,h4⟩
   by_cases h6:inG (Q.rs.take k) Q.ms[j]=true/\isHead Q.ms Q.ms[j]=true
   ·rw[if_pos h6,if_pos (e3.2 h6)]
   ·rw[if_neg h6,if_neg (fun h7=>h6 (e3.1 h7))]
theorem QW.recv (h:QW i Q){cnt:Nat}(hc:cnt<=Q.rs.length){til:Int}(ht:0<til/\til<=61000):QW i {Q with ms:=flyAll til Q.ms (hdsL Q cnt),rs:=Q.rs.drop cnt}:=by
 rw[fly_map h til cnt hc];have hnd:=h.rn;rw[<-List.take_append_drop cnt Q.rs,List.nodup_append]at hnd;refine {c:=h.c,nx:=h.nx,mq:=by simpa using h.mq,nums:=ups_map h.nums _ (flyH_num _ _ _),mok:=fun x hx=>?_,hd:=fun x hx hf y hy he=>?_,rn:=hnd.2.1,rr:=fun g=>?_,dn:=h.dn,dok:=h.dok,al:=h.al,aok:=h.aok}
 ·obtain⟨a,ha,rfl⟩:=List.mem_map.1 hx;have h1:=h.mok a ha;refine⟨by rw[flyH_num];exact h1.num,by rw[flyH_grp];exact h1.grp,by rw[flyH_bod];exact h1.bod,?_,?_⟩
  ·unfold flyH
   split
   ·exact⟨by show (0:Int)<=((oft a.rcv.toNat:Nat):Int);omega,by show ((oft a.rcv.toNat:Nat):Int)<=65535;have:=oft_le a.rcv.toNat;omega⟩
   ·exact h1.rcv
  ·rw[flyH_til]
   split
   ·exact⟨by omega,ht.2⟩
   ·exact h1.til
 ·obtain⟨a,ha,rfl⟩:=List.mem_map.1 hx;obtain⟨b,hb,rfl⟩:=List.mem_map.1 hy;rw[flyH_grp,flyH_grp]at he;rw[flyH_num,flyH_num];rw[flyH_til]at hf
  split at hf
  ·rename_i h1
   exact(isHead_iff h.nums ha).1 h1.2 b hb he
  ·exact h.hd a ha hf b hb he
 ·show g∈Q.rs.drop cnt↔(∃x∈Q.ms.map (flyH til Q.ms (Q.rs.take cnt)),x.grp=g)/\∀x∈Q.ms.map (flyH til Q.ms (Q.rs.take cnt)),x.grp=g->x.til=0
  constructor
  ·intro hg;obtain⟨⟨a,ha,he⟩,hz⟩:=(h.rr g).1 (List.mem_of_mem_drop hg);have hnt:g∉Q.rs.take cnt:=fun hm=>hnd.2.2 g hm g hg rfl
   refine⟨⟨_,List.mem_map_of_mem ha,by rw[flyH_grp];exact he⟩,fun x hx he=>?_⟩
   obtain⟨b,hb,rfl⟩:=List.mem_map.1 hx;rw[flyH_grp]at he;rw[flyH_til,if_neg (by rw[inG_iff,he];exact fun hc=>hnt hc.1)];exact hz b hb he
  ·rintro ⟨⟨x,hx,hxg⟩,hz⟩;obtain⟨a,ha,rfl⟩:=List.mem_map.1 hx;rw[flyH_grp]at hxg;have hnt:g∉Q.rs.take cnt:=fun hm=>by
    cases hf:Q.ms.find? (isG g) with
    | none=>exact absurd ((isG_iff g a).2 hxg) (List.find?_eq_none.1 hf a ha)
    | some y=>
     have hy:=List.mem_of_find?_eq_some hf;have hyg:=(isG_iff _ _).1 (List.find?_some hf);have h1:=hz _ (List.mem_map_of_mem hy) (by rw[flyH_grp];exact hyg);rw[flyH_til,if_pos ⟨by rw[inG_iff,hyg];exact hm,(isHead_find h.nums hy).2 (by rw[hyg];exact hf)⟩]at h1;omega
   have hg:g∈Q.rs:=(h.rr g).2 ⟨⟨a,ha,hxg⟩,fun b hb he=>by
    have h1:=hz _ (List.mem_map_of_mem hb) (by rw[flyH_grp];exact he);rw[flyH_til,if_neg (by rw[inG_iff,he];exact fun hc=>hnt hc.1)]at h1;exact h1⟩
   rw[<-List.take_append_drop cnt Q.rs]at hg;rcases List.mem_append.1 hg with hg|hg
   ·exact absurd hg hnt
   ·exact hg
theorem drop_eq (h:QW i Q){num:Int}{m:Ms}(hf:Q.ms.find? (isN num)=some m):dropQ Q num={Q with ms:=Q.ms.filter (fun a=>!isN num a),rs:=if idxL (isG m.grp) (Q.ms.filter (fun a=>!isN num a))<0 then Q.rs else Q.rs++[m.grp]}:=by
 unfold dropQ;rw[hf];simp only[erase_filter num Q.ms m h.nums hf]
theorem QW.drop (h:QW i Q){num:Int}{m:Ms}(hf:Q.ms.find? (isN num)=some m)(ht:0<m.til):QW i (dropQ Q num):=by
 rw[drop_eq h hf];obtain⟨hm,hn⟩:=find_mem hf;subst hn;have hmem:∀x,x∈Q.ms.filter (fun a=>!isN m.num a)↔x∈Q.ms/\x.num≠m.num:=fun x=>by
  rw[List.mem_filter];refine and_congr_right (fun _=>?_);rw[Bool.not_eq_true',<-Bool.not_eq_true,isN_iff]
 have hzero:∀b∈Q.ms,b.grp=m.grp->b.num≠m.num->b.til=0:=fun b hb he hne=>by
  have h1:=(h.mok b hb).til
  by_cases h2:0<b.til
  ·exact absurd (congrArg Ms.num (h.one hb hm h2 ht he)) hne
  ·omega
 refine {c:=h.c,nx:=h.nx,mq:=?_,nums:=ups_filter h.nums _,mok:=fun x hx=>h.mok x ((hmem x).1 hx).1,hd:=fun x hx ht y hy he=>h.hd x ((hmem x).1 hx).1 ht y ((hmem y).1 hy).1 he,rn:=?_,rr:=fun g=>?_,dn:=h.dn,dok:=h.dok,al:=h.al,aok:=h.aok}
 ·have h1:=List.length_filter_le (fun a=>!isN m.num a) Q.ms;have h2:=h.mq
  show ((Q.ms.filter (fun a=>!isN m.num a)).length:Int)<=Q.c.quo
  omega
 ·show (if idxL (isG m.grp) (Q.ms.filter (fun a=>!isN m.num a))<0 then Q.rs else Q.rs++[m.grp]).Nodup
  split
  ·exact h.rn
  ·rw[List.nodup_append];refine⟨h.rn,by simp,fun a ha b hb=>?_⟩
   simp at hb;subst hb;exact fun e=>h.nr hm ht (e▸ha)
 ·show g∈(if idxL (isG m.grp) (Q.ms.filter (fun a=>!isN m.num a))<0 then Q.rs else Q.rs++[m.grp])↔(∃x∈Q.ms.filter (fun a=>!isN m.num a),x.grp=g)/\∀x∈Q.ms.filter (fun a=>!isN m.num a),x.grp=g->x.til=0
  have hin:g∈(if idxL (isG m.grp) (Q.ms.filter (fun a=>!isN m.num a))<0 then Q.rs else Q.rs++[m.grp])↔g∈Q.rs\/(g=m.grp/\∃x∈Q.ms.filter (fun a=>!isN m.num a),x.grp=m.grp):=by
   by_cases hneg:idxL (isG m.grp) (Q.ms.filter (fun a=>!isN m.num a))<0
   ·rw[if_pos hneg];constructor
    ·exact .inl
    ·rintro (h1|⟨_,x,hx,he⟩)
     ·exact h1
     ·have:=(idxL_neg _ _).1 hneg x hx;rw[(isG_iff _ _).2 he]at this;simp at this
   ·rw[if_neg hneg];obtain⟨x,hx,he⟩:=(idxL_ex _ _).1 (show 0<=idxL (isG m.grp) (Q.ms.filter (fun a=>!isN m.num a)) by omega);rw[List.mem_append];constructor
    ·rintro (h1|h1)
     ·exact .inl h1
     ·simp at h1;exact .inr ⟨h1,x,hx,(isG_iff _ _).1 he⟩
    ·rintro (h1|⟨h1,_⟩)
     ·exact .inl h1
     ·exact .inr (by simp[h1])
  rw[hin];constructor
  ·rintro (hg|⟨rfl,x,hx,he⟩)
   ·obtain⟨⟨a,ha,he⟩,hz⟩:=(h.rr g).1 hg;refine⟨⟨a,(hmem a).2 ⟨ha,fun e=>?_⟩,he⟩,fun x hx he=>hz x ((hmem x).1 hx).1 he⟩
    have:=num_inj h.nums ha hm e;subst this;have:=hz a ha he;omega
   ·exact⟨⟨x,hx,he⟩,fun y hy hye=>hzero y ((hmem y).1 hy).1 hye ((hmem y).1 hy).2⟩
  ·rintro ⟨⟨x,hx,hxg⟩,hz⟩
   by_cases e:g=m.grp
   ·exact .inr ⟨e,x,hx,by rw[hxg,e]⟩
   ·refine .inl ((h.rr g).2 ⟨⟨x,((hmem x).1 hx).1,hxg⟩,fun b hb he=>hz b ((hmem b).2 ⟨hb,fun en=>?_⟩) he⟩);have:=num_inj h.nums hb hm en;subst this;exact e he.symm
theorem QW.ext (h:QW i Q){num til:Int}{m:Ms}(hf:Q.ms.find? (isN num)=some m)(ht:0<m.til)(hl:0<til/\til<=61000):QW i (tilQ Q num til):=by
 obtain⟨hm,hn⟩:=find_mem hf;subst hn;rw[tilQ_eq Q h.nums];have hz0:∀a∈Q.ms,(tilM m.num til a).til=0↔a.til=0:=fun a ha=>by
  rw[tilM_til]
  split
  ·rename_i e
   have:=num_inj h.nums ha hm e;subst this;constructor<;>intro h1<;>omega
  ·exact Iff.rfl
 refine {c:=h.c,nx:=h.nx,mq:=by simpa using h.mq,nums:=ups_map h.nums _ (tilM_num _ _),mok:=h.msT ⟨by omega,hl.2⟩,hd:=fun x hx hf y hy he=>?_,rn:=h.rn,rr:=fun g=>?_,dn:=h.dn,dok:=h.dok,al:=h.al,aok:=h.aok}
 ·obtain⟨a,ha,rfl⟩:=List.mem_map.1 hx;obtain⟨b,hb,rfl⟩:=List.mem_map.1 hy;rw[tilM_grp,tilM_grp]at he;rw[tilM_num,tilM_num];have h1:=hz0 a ha;have h2:=(h.mok a ha).til;exact h.hd a ha (by omega) b hb he
 ·show g∈Q.rs↔(∃x∈Q.ms.map (tilM m.num til),x.grp=g)/\∀x∈Q.ms.map (tilM m.num til),x.grp=g->x.til=0
  rw[h.rr g];constructor
  ·rintro ⟨⟨a,ha,he⟩,hz⟩;refine⟨⟨_,List.mem_map_of_mem ha,by rw[tilM_grp];exact he⟩,fun x hx he=>?_⟩
   obtain⟨b,hb,rfl⟩:=List.mem_map.1 hx;rw[tilM_grp]at he;exact(hz0 b hb).2 (hz b hb he)
  ·rintro ⟨⟨x,hx,hxg⟩,hz⟩;obtain⟨a,ha,rfl⟩:=List.mem_map.1 hx;rw[tilM_grp]at hxg;exact⟨⟨a,ha,hxg⟩,fun b hb he=>(hz0 b hb).1 (hz _ (List.mem_map_of_mem hb) (by rw[tilM_grp];exact he))⟩
theorem QW.purg (h:QW i Q):QW i (purgQ Q):=
 {c:=h.c,nx:=h.nx,mq:=by show ((0:Nat):Int)<=Q.c.quo;have:=h.c.quo.1;omega,nums:=List.Pairwise.nil,mok:=fun m hm=>by simp[purgQ]at hm,hd:=fun m hm=>by simp[purgQ]at hm,rn:=List.nodup_nil,rr:=fun g=>by simp[purgQ],dn:=h.dn,dok:=h.dok,al:=by simp[purgQ],aok:=fun m hm=>by simp[purgQ]at hm}
theorem QW.send (h:QW i Q){r:Wp.Rq}{now:Int}(hq:(Q.ms.length:Int)<Q.c.quo)(hn:Q.next<=200)(hg:1<=r.grp.size/\r.grp.size<=8)(hb:r.bod.size<=40)(hid:(didS r).size<=8)(hnow:0<=now/\now<=60000):QW i (sendQ Q r now):=by
 have h1:=h.put (g:=r.grp) (b:=r.bod) (by omega) hn hg hb;have hnx:=h.nx;have hwin:=h.c.win;refine {c:=h1.c,nx:=h1.nx,mq:=h1.mq,nums:=h1.nums,mok:=h1.mok,hd:=h1.hd,rn:=h1.rn,rr:=h1.rr,dn:=?_,dok:=?_,al:=h1.al,aok:=h1.aok}
 ·show (if 0<Q.c.win then Q.ds++[⟨didS r,(Q.next:Nat),now+Q.c.win⟩] else Q.ds).Pairwise _
  split
  ·rw[List.pairwise_append];refine⟨h.dn,by simp,fun a ha b hb=>?_⟩
   simp at hb;subst hb;exact(h.dok a ha).2.1.2
  ·exact h.dn
 ·show ∀d∈(if 0<Q.c.win then Q.ds++[⟨didS r,(Q.next:Nat),now+Q.c.win⟩] else Q.ds),d.id.size<=8/\(1<=d.num/\d.num<((Q.next+1:Nat):Int))/\0<=d.til/\d.til<=62000
  have hold:∀d∈Q.ds,d.id.size<=8/\(1<=d.num/\d.num<((Q.next+1:Nat):Int))/\0<=d.til/\d.til<=62000:=fun d hd=>by
   have h2:=h.dok d hd;exact⟨h2.1,⟨h2.2.1.1,by have:=h2.2.1.2;omega⟩,h2.2.2⟩
  split
  ·intro d hd;rcases List.mem_append.1 hd with hd|hd
   ·exact hold d hd
   ·simp at hd;subst hd;exact⟨hid,⟨by show (1:Int)<=(Q.next:Nat);omega,by show ((Q.next:Nat):Int)<((Q.next+1:Nat):Int);omega⟩,by show (0:Int)<=now+Q.c.win;omega,by show now+Q.c.win<=62000;omega⟩
  ·exact hold
theorem own_shiftA (l:List At)(g c i:Nat)(cur:Array Value)(w:World)(hi:i<l.length)(hrow:w.heap[g]?=some (.cells cur 234 (0,0)))(hnc:l.length<=c)(hcm:c<=maxLen)(hcs:cur.size=c*3)(htake:cur.toList.take (l.length*3)=l.flatMap At.row):
  ∃xs:List Value,xs.take ((l.length-1)*3)=(l.eraseIdx i).flatMap At.row/\(w.setRow g (cur.toList.take (i*3)++(l.drop (i+1)).flatMap At.row++cur.toList.drop (i*3+((l.drop (i+1)).flatMap At.row).length)).toArray).ownsRow 0 234 3 (.slice (some ⟨g,0,none⟩) l.length c) l.length xs:=by
 have hln:((l.drop (i+1)).flatMap At.row).length=(l.length-(i+1))*3:=by rw[flat_len At.row 3 (fun _=>rfl),List.length_drop]
 have hcl:cur.toList.length=c*3:=by simpa using hcs
 have ht1:cur.toList.take (i*3)=(l.take i).flatMap At.row:=by
  have h1:=congrArg (List.take (i*3)) htake;rw[List.take_take,Nat.min_eq_left (by omega),flat_take At.row 3 (fun _=>rfl) l i (by omega)]at h1;exact h1
 have htl:(cur.toList.take (i*3)++(l.drop (i+1)).flatMap At.row).length=(l.length-1)*3:=by
  rw[List.length_append,hln,List.length_take,hcl];omega
 have hnl:(cur.toList.take (i*3)++(l.drop (i+1)).flatMap At.row++cur.toList.drop (i*3+((l.drop (i+1)).flatMap At.row).length)).length=c*3:=by
  rw[List.length_append,htl,List.length_drop,hln,hcl];omega
 refine⟨(cur.toList.take (i*3)++(l.drop (i+1)).flatMap At.row++cur.toList.drop (i*3+((l.drop (i+1)).flatMap At.row).length)).take (l.length*3),?_,?_,.inr ⟨g,c,_,rfl,Nat.zero_le _,setRow_heap w g cur _ 234 _ hrow,hnc,hcm,?_,?_⟩⟩
 ·rw[List.take_take,Nat.min_eq_left (by omega),List.take_append_of_le_length (by omega),List.take_of_length_le (by omega),ht1,<-List.flatMap_append,List.eraseIdx_eq_take_drop_succ]
 ·rw[List.length_take,hnl];omega
 ·rw[List.size_toArray,hnl]
 ·rfl
theorem erase_lenA (l:List At)(i:Nat)(hi:i<l.length):(l.eraseIdx i).length=l.length-1:=List.length_eraseIdx_of_lt hi
theorem delOneA_any (l:List At)(g c i:Nat)(w:World)(ho:w.ownsRow 0 234 3 (.slice (some ⟨g,0,none⟩) l.length c) l.length (l.flatMap At.row))(hi:i<l.length)(hl:l.length<=1000):
  Calls Tryz.prog 267 #[.slice (some ⟨g,0,none⟩) l.length c,.int .i64 (i:Int),.int .i64 ((i:Int)+1)] w fun e w'=>e=.returned (.slice (some ⟨g,0,none⟩) (l.length-1) c)/\w'.ownsRow 0 234 3 (.slice (some ⟨g,0,none⟩) (l.length-1) c) (l.eraseIdx i).length ((l.eraseIdx i).flatMap At.row)/\Tch [g] w w':=by
 obtain⟨cur,hrow,hnc,hcm,hcs,htake⟩:∃cur:Array Value,w.heap[g]?=some (.cells cur 234 (0,0))/\l.length<=c/\c<=maxLen/\cur.size=c*3/\cur.toList.take (l.length*3)=l.flatMap At.row:=by
  rcases ho.2 with ⟨h',_⟩|⟨g',cap',cur,h',hb,hg,hnc,hcm,hcs,htake⟩
  ·simp at h'
  ·simp only[Value.slice.injEq,Option.some.injEq,Addr.mk.injEq,and_true,true_and]at h';obtain⟨rfl,rfl⟩:=h';exact⟨cur,hg,hnc,hcm,hcs,htake⟩
 have hcm':c<=9223372036854775807:=by unfold maxLen at hcm;omega
 have HNW:Hid (∀j u,((l.drop (i+1)).flatMap At.row)[j]?=some u->w.cell? ((⟨g,(i+1)*3,none⟩:Addr).add j)=some u):=fun j u hj=>by
  have hj2:(l.flatMap At.row)[(i+1)*3+j]?=some u:=by
   have e1:=congrArg (fun z=>z.flatMap At.row) (List.take_append_drop (i+1) l);simp only[List.flatMap_append]at e1;have e2:((l.take (i+1)).flatMap At.row).length=(i+1)*3:=by rw[flat_len At.row 3 (fun _=>rfl),List.length_take];omega
   rw[<-e1,List.getElem?_append_right (by omega),e2,Nat.add_sub_cancel_left];exact hj
  have h1:=World.ownsRow.cells ho (g:=g) rfl ((i+1)*3+j) u hj2;have e3:(⟨g,0,none⟩:Addr).add ((i+1)*3+j)=(⟨g,(i+1)*3,none⟩:Addr).add j:=by unfold Addr.add;split<;>split<;>simp_all
  rw[e3]at h1;exact h1
 have HLN:Hid (((l.drop (i+1)).flatMap At.row).length=(l.length-(i+1))*3):=by
  show _=_
  rw[flat_len At.row 3 (fun _=>rfl),List.length_drop]
 have HON:Hid (∀u∈(l.drop (i+1)).flatMap At.row,u.oneCell'=true):=fun u hu=>by
  obtain⟨m,_,hm⟩:=List.mem_flatMap.1 hu;simp[At.row]at hm;rcases hm with rfl|rfl|rfl<;>rfl
 have HFIT:Hid (i*3+((l.drop (i+1)).flatMap At.row).length<=cur.size):=by
  show _<=_
  rw[HLN.out,hcs];omega
 obtain⟨news,HNE⟩:∃news,Hid (news=(l.drop (i+1)).flatMap At.row):=⟨_,rfl⟩;rw[<-HNE.out]at HNW HLN HON HFIT;go_enter Tryz.func267,Tryz.ntmps267;go_wp2_with fail;have hic:i<=c:=by omega
 have hi2:i+1<=c:=by omega
 have hz1:(0:Int)<=(i:Int)+1:=by omega
 have hz2:(i:Int)+1<=(l.length:Int):=by omega
 have hz3:(i:Int)<=(i:Int)+1:=by omega
 have HRW:=zH hrow;obtain⟨xs,hxs,hox⟩:=own_shiftA l g c i cur w.drew hi hrow hnc hcm hcs htake;rw[<-HNE.out]at hox;have HOX:=zH hox;have HT2:Hid (Tch [g] w (w.drew.setRow g (cur.toList.take (i*3)++news++cur.toList.drop (i*3+news.length)).toArray)):=(Tch.refl _ _).drew.setRow (fun _=>by simp) _;clear hox;generalize hW2:w.drew.setRow g (cur.toList.take (i*3)++news++cur.toList.drop (i*3+news.length)).toArray=w2 at*
 have hxl:=HOX.out.1;have hclr:=run_clearA w2 0 g (l.length-1) (l.length-(l.length-1)) (c-(l.length-1)) (fun j hj=>by
  have h1:(l.length-1)*3+j<xs.length:=by omega
  have h2:=World.ownsRow.cells HOX.out (g:=g) rfl ((l.length-1)*3+j) _ (List.getElem?_eq_getElem h1);have e:(⟨g,0,none⟩:Addr).add ((l.length-1)*3+j)=⟨g,(l.length-1)*3+j,none⟩:=by unfold Addr.add;split<;>simp_all
  rw[e]at h2;rw[h2];rfl) (fun j=>World.ownsRow.frozenAt HOX.out j) (by omega)
 have HF:Hid ((w2.setCells g ((l.length-1)*3) (Builtin.zeroCells #[.string ⟨#[]⟩,.int .i64 0,.string ⟨#[]⟩] (l.length-(l.length-1))).toList).ownsRow 0 234 3 (.slice (some ⟨g,0,none⟩) (l.length-1) c) (l.eraseIdx i).length ((l.eraseIdx i).flatMap At.row)/\Tch [g] w (w2.setCells g ((l.length-1)*3) (Builtin.zeroCells #[.string ⟨#[]⟩,.int .i64 0,.string ⟨#[]⟩] (l.length-(l.length-1))).toList)):=by
  refine⟨?_,HT2.out.trans (tch_setCells g _ _ _) (fun _ h _=>h)⟩;have h1:=own_cut (own_setCells (Builtin.zeroCells #[.string ⟨#[]⟩,.int .i64 0,.string ⟨#[]⟩] (l.length-(l.length-1))).toList ((l.length-1)*3) w2 _ HOX.out) (n':=l.length-1) (by omega);rw[putMany_take _ _ _ _ (Nat.le_refl _),hxs]at h1;rw[erase_lenA l i hi];exact h1
 generalize w2.setCells g ((l.length-1)*3) (Builtin.zeroCells #[.string ⟨#[]⟩,.int .i64 0,.string ⟨#[]⟩] (l.length-(l.length-1))).toList=w3 at*
 have el:i+(l.length-(i+1))=l.length-1:=by omega
 have hne2:¬(c=l.length-1):=by omega
 clear hxs hxl HT2 HNE
 by_cases hcc:c=i+1
 ·have hne:news=[]:=List.length_eq_zero_iff.1 (by rw[HLN.out];omega);subst hcc
  go_region_law (refine step_room rfl (.tmp 22) (.tmp 25) 189 234 rfl Tryz.underlying189 _ 3 40 info234 g i (i+1) cur HRW.out ⟨g,0,none⟩ (l.length-(i+1)) ((i+1)-(i+1)) news HLN.out (by rw[hne];intro j u hj;simp at hj) HON.out (by omega) HFIT.out (by simp[Act.eval,Act.put]) (by simp[Act.eval,Act.put];omega) ?_;rw[hW2,el])
  all_goals (clear hW2 el HFIT HON HLN HNW HRW hz1 hz2 hz3 htake hrow hne;go_wp2_with fail;go_ret;exact⟨rfl,HF.out.1,HF.out.2⟩)
 ·have hcc':=hcc
  go_region_law (refine step_room rfl (.tmp 22) (.tmp 25) 189 234 rfl Tryz.underlying189 _ 3 40 info234 g i c cur HRW.out ⟨g,(i+1)*3,none⟩ (l.length-(i+1)) (c-(i+1)) news HLN.out HNW.out HON.out (by omega) HFIT.out (by simp[Act.eval,Act.put]) (by simp[Act.eval,Act.put]) ?_;rw[hW2,el])
  all_goals (clear hW2 el HFIT HON HLN HNW HRW hz1 hz2 hz3 htake hrow hcc';go_wp2_with fail;go_ret;exact⟨rfl,HF.out.1,HF.out.2⟩)
def remG (Q:QM)(a:At):QM:=if a.id.size=0 then Q else {Q with ats:=if Q.ats.length<20 then Q.ats++[a] else (Q.ats++[a]).eraseIdx 0}
theorem QR.newA (h:QR w qb V Q){v':Value}{as':List At}(ht:Tch (bl V.a) w w2)(ho:w2.ownsRow 0 234 3 v' as'.length (as'.flatMap At.row))(hN:∀k,v'.ownBlock=some k->V.a.ownBlock=some k\/w.heap.size<=k):
  w2.cell? ⟨qb,10,none⟩=some V.a/\w2.frozen? ⟨qb,10,none⟩=false/\qb<w2.heap.size/\QS w (w2.setCell ⟨qb,10,none⟩ v') qb V {V with a:=v'} {Q with ats:=as'}:=by
 have hb:Qb w2 qb Q.c (Q.next:Int) V.m V.r V.d V.a:=(ht.block _ h.blk.lt h.nq.2.2.2).trans h.blk;have t3:Tch [qb] w2 (w2.setCell ⟨qb,10,none⟩ v'):=(Tch.refl _ _).setCell (fun _=>by simp) _;have hm:=own_tch h.m ht (own_sep h.m h.a (by decide));have hr:=own_tch h.r ht (own_sep h.r h.a (by decide));have hd:=own_tch h.d ht (own_sep h.d h.a (by decide));have nq:∀{t s n:Nat} {v:Value} {xs:List Value},w2.ownsRow 0 t s v n xs->t≠191->∀k,v.ownBlock=some k->k∉[qb]:=fun hv hne k hk hm=>by
  simp at hm;subst hm;exact own_ne hv hb hne hk
 have hq:QR (w2.setCell ⟨qb,10,none⟩ v') qb {V with a:=v'} {Q with ats:=as'}:=⟨hb.set10 v',own_tch hm t3 (nq hm (by decide)),own_tch hr t3 (nq hr (by decide)),own_tch hd t3 (nq hd (by decide)),own_tch ho t3 (nq ho (by decide))⟩;refine⟨cell_qC hb 10 _ rfl,hb.fz 10,hb.lt,hq,(ht.sub (fun x hx _=>?_)).trans t3 (fun x hx _=>?_),fun b hb'=>?_⟩
 ·exact mem_qbl.2 (.inr (.inr (.inr (.inr (mem_bl.1 hx)))))
 ·simp at hx;exact mem_qbl.2 (.inl hx)
 ·rcases mem_qbl.1 hb' with e|e|e|e|e
  ·exact .inl (mem_qbl.2 (.inl e))
  ·exact .inl (mem_qbl.2 (.inr (.inl e)))
  ·exact .inl (mem_qbl.2 (.inr (.inr (.inl e))))
  ·exact .inl (mem_qbl.2 (.inr (.inr (.inr (.inl e)))))
  ·exact(hN b e).imp (fun h=>mem_qbl.2 (.inr (.inr (.inr (.inr h))))) id
theorem ql_trans {a b c:World}{V1:QV}{Q1 Q2:QM}(h1:QS a b qb V V1 Q1)(h2:QL b c qb V1 Q2):QL a c qb V Q2:=by
 obtain⟨V2,k1,k2,k3⟩:=h2;exact(h1.trans ⟨k1,k2,k3⟩).ql
theorem rem20_fin (Q:QM)(V:QV)(l:List At)(qb g c:Nat)(w w1:World)(hl:0<l.length)(h:QL w w1 qb V {Q with ats:=l})(hc:w1.cell? ⟨qb,10,none⟩=some (.slice (some ⟨g,0,none⟩) l.length c))(hle:l.length<=1000):
  Calls Tryz.prog 267 #[.slice (some ⟨g,0,none⟩) l.length c,.int .i64 0,.int .i64 1] w1 fun e w2=>e=.returned (.slice (some ⟨g,0,none⟩) (l.length-1) c)/\w2.cell? ⟨qb,10,none⟩=some (.slice (some ⟨g,0,none⟩) l.length c)/\w2.frozen? ⟨qb,10,none⟩=false/\qb<w2.heap.size/\QL w (w2.setCell ⟨qb,10,none⟩ (.slice (some ⟨g,0,none⟩) (l.length-1) c)) qb V {Q with ats:=l.eraseIdx 0}:=by
 obtain⟨V1,hq,ht,hn⟩:=h;have hva:V1.a=.slice (some ⟨g,0,none⟩) l.length c:=by
  have h1:=cell_qC hq.blk 10 _ rfl;rw[h1]at hc;exact Option.some.inj hc
 have ho:w1.ownsRow 0 234 3 (.slice (some ⟨g,0,none⟩) l.length c) l.length (l.flatMap At.row):=by
  have:=hq.a;rw[hva]at this;exact this
 have hd:=delOneA_any l g c 0 w1 ho hl hle;refine hd.mono ?_;rintro e w2 ⟨rfl,ho2,ht2⟩;obtain⟨k1,k2,k3,k4⟩:=hq.newA (v':=.slice (some ⟨g,0,none⟩) (l.length-1) c) (as':=l.eraseIdx 0) (by rw[hva];exact ht2.sub (fun x hx _=>by simp at hx;simp[bl,Value.ownBlock,hx])) ho2 (fun k hk=>.inl (by rw[hva];exact hk));rw[hva]at k1;refine⟨rfl,k1,k2,k3,?_⟩;exact ql_trans ⟨hq,ht,hn⟩ k4.ql
theorem remember20 (Q:QM)(V:QV)(a:At)(qb:Nat)(w:World)(h:QR w qb V Q)(hn:Q.ats.length=20):
  Calls Tryz.prog 215 #[.pointer (some ⟨qb,0,none⟩),.agg #[.string a.id,.int .i64 a.til,.string a.ans]] w fun e w'=>e=.returned (.tuple #[])/\QL w w' qb V (remG Q a):=by
 have HQ:=zH h
 by_cases hz:a.id.size=0
 ·have e0:a.id=⟨#[]⟩:=toList_nil _ hz;have hr:Hid (remG Q a=Q):=by show _=_;unfold remG;rw[if_pos hz]
  rw[e0];clear h;go_enter Tryz.func215,Tryz.ntmps215;go_wp2_with fail;refine bodyPost_ret (results_none rfl _ _ _) rfl ⟨rfl,?_⟩;rw[hr.out];exact⟨V,HQ.out.tch ((Tch.refl [] w).alloc _) (by simp),((Tch.refl [] w).alloc _).sub (by simp),fun _ h=>.inl h⟩
 ·have hne:=ne_nil _ hz;have hr:Hid (remG Q a={Q with ats:=(Q.ats++[a]).eraseIdx 0}):=by show _=_;unfold remG;rw[if_neg hz,if_neg (by omega)]
  obtain⟨wa,hwa⟩:∃wa,wa=w.alloc (.cells #[.string a.id,.int .i64 a.til,.string a.ans] 234):=⟨_,rfl⟩;have ta:Tch [] w wa:=by rw[hwa];exact(Tch.refl [] w).alloc _
  have ha:=h.tch ta (by simp);have HWA:=zH ha;have hbx:wa.heap[w.heap.size]?=some (.cells #[.string a.id,.int .i64 a.til,.string a.ans] 234 (0,0)):=by rw[hwa];exact heap_alloc_new _ _
  have b0:wa.cell? ⟨w.heap.size,0,none⟩=some (.string a.id):=cell_qC hbx 0 _ rfl;have b1:wa.cell? ⟨w.heap.size,1,none⟩=some (.int .i64 a.til):=cell_qC hbx 1 _ rfl;have b2:wa.cell? ⟨w.heap.size,2,none⟩=some (.string a.ans):=cell_qC hbx 2 _ rfl;have q10:wa.cell? ⟨qb,10,none⟩=some V.a:=cell_qC ha.blk 10 _ rfl;have hlt:=ha.blk.lt;have HG:Hid (∀v' w',w'.ownsRow 0 234 3 v' (Q.ats.length+1) (Q.ats.flatMap At.row++atV a)->(wa.drew.alloc (.cells (atV a).toArray 234)).grownBy w' V.a.ownBlock->(v'.ownBlock=V.a.ownBlock\/v'.ownBlock=some (wa.drew.alloc (.cells (atV a).toArray 234)).heap.size)->_):=fun v' w'=>rem_fin Q V a qb w wa ta ha v' w'
  clear h ha ta hbx hz;go_enter Tryz.func215,Tryz.ntmps215;go_wp2_with fail;rw[<-hwa];clear hwa
  go_region_law (refine step_vals rfl (.tmp 11) (.tmp 13) 189 234 rfl Tryz.underlying189 (.agg #[.string ⟨#[]⟩,.int .i64 0,.string ⟨#[]⟩]) 3 40 info234 rfl (by decide) (by decide) V.a Q.ats.length (Q.ats.flatMap At.row) (by simp[Act.eval,Act.put]) (own_tch HWA.out.a ((Tch.refl [] _).drew.alloc _) (fun _ _=>by simp)) wa.heap.size (atV a) 1 (by simp[Act.eval,Act.put]) rfl (by decide) (heap_alloc_new _ _) (by intro u hu;simp at hu;rcases hu with rfl|rfl|rfl<;>rfl) (by omega) ?_;intro v' w9 ho3 hg3 hb3;obtain⟨g4,cap4,hv4,c9,z9,c10,l9,hfin⟩:=HG.out v' w9 ho3 hg3 hb3;subst hv4;clear ho3 hg3 hb3;have HFIN:Hid (QL _ _ _ _ _):=hfin;clear hfin)
  all_goals
   have hl21:(Q.ats++[a]).length=21:=by simp;omega
   have HR20:Hid (Calls Tryz.prog 267 _ (w9.setCell ⟨qb,10,none⟩ (.slice (some ⟨g4,0,none⟩) (Q.ats.length+1) cap4)) _):=rem20_fin Q V (Q.ats++[a]) qb g4 cap4 w _ (by omega) HFIN.out (c10.trans (by rw[hl21,hn])) (by omega);rw[hl21,hn]at HR20;rw[hn] at*
   clear HFIN;generalize w9.setCell ⟨qb,10,none⟩ (.slice (some ⟨g4,0,none⟩) (20+1) cap4)=w10 at*
   go_wp2_with fail;refine HR20.out.mono ?_;rintro e w11 ⟨rfl,k1,k2,k3,k4⟩;have HK:=zH k4;clear k4 HR20;go_wp2_with fail;go_end0;exact⟨rfl,by rw[hr.out];exact HK.out⟩
theorem rememberG_any (Q:QM)(V:QV)(a:At)(qb:Nat)(w:World)(h:QR w qb V Q)(hn:Q.ats.length<=20):
  Calls Tryz.prog 215 #[.pointer (some ⟨qb,0,none⟩),.agg #[.string a.id,.int .i64 a.til,.string a.ans]] w fun e w'=>e=.returned (.tuple #[])/\QL w w' qb V (remG Q a):=by
 by_cases hl:Q.ats.length<20
 ·have e:remG Q a=remQ Q a:=by
   unfold remG remQ;rw[if_pos hl]
  rw[e];exact remember_any Q V a qb w h hl
 ·exact remember20 Q V a qb w h (by omega)
def recvG (Q:QM)(att:ByteArray)(cnt:Nat)(til:Int)(ans:List UInt8):QM:=remG {Q with ms:=flyAll til Q.ms (hdsL Q cnt),rs:=Q.rs.drop cnt} ⟨att,til,⟨ans.toArray⟩⟩
theorem recvdG_any (Q:QM)(V:QV)(CC:Array Value)(att:ByteArray)(qb cnt g0 gc ga base:Nat)(til:Int)(av:Value)(ans:List UInt8)(w:World)(h:QR w qb V Q)(hcp:Cap w qb CC cnt g0 gc ga base til (hdsL Q cnt) av ans)(hatt:CC[12]?=some (.string att))(hc1:0<cnt/\cnt<=1000)(hcl:cnt<=Q.rs.length)(hrd:∀g∈Q.rs,0<=idxL (isG g) Q.ms)(hms:∀m∈Q.ms,MsOk m)(hnm:Q.ms.length<=1000)(hna:Q.ats.length<=20)(han:0<ans.length):
  Calls Tryz.prog 212 #[.pointer (some ⟨ga+1+1+1,0,none⟩),.pointer (some ⟨g0,0,none⟩),.pointer (some ⟨ga+1,0,none⟩),.pointer (some ⟨gc,0,none⟩),.pointer (some ⟨g0+1,0,none⟩),.pointer (some ⟨ga,0,none⟩)] w fun e w'=>e=.returned (.tuple #[])/\QL w w' qb V (recvG Q att cnt til ans):=by
 have HQ:=zH h;have HC:=zH hcp;have hhl:(hdsL Q cnt).length=cnt:=by simp[hdsL];omega
 obtain⟨gr0,cr,hvr⟩:∃g c,V.r=.slice (some ⟨g,0,none⟩) Q.rs.length c:=by
  rcases h.r.2 with ⟨h0,h1⟩|⟨g,cap,cur,h0,_⟩
  ·omega
  ·exact⟨_,_,h0⟩
 have hml:0<Q.ms.length:=by
  have hm0:Q.rs[0]'(by omega)∈Q.rs:=List.getElem_mem _;have h1:=hrd _ hm0;have h2:=idxL_lt (isG (Q.rs[0]'(by omega))) Q.ms;omega
 obtain⟨gm,cm,hvm⟩:∃g c,V.m=.slice (some ⟨g,0,none⟩) Q.ms.length c:=by
  rcases h.m.2 with ⟨h0,h1⟩|⟨g,cap,cur,h0,_⟩
  ·omega
  ·exact⟨_,_,h0⟩
 have y0:g0≠qb:=fun e=>by
  have h1:=hcp.hgq;have h2:=h.blk;rw[e,h2]at h1;simp at h1
 have y1:gc≠qb:=fun e=>by
  have h1:=hcp.hgc;have h2:=h.blk;rw[e,h2]at h1;simp at h1
 have c0:w.cell? ⟨ga+1+1+1,0,none⟩=some (.slice (some ⟨ga+1+1,0,none⟩) cnt cnt):=cell_of_one hcp.hgh;clear h hcp;go_enter Tryz.func212,Tryz.ntmps212;go_wp2_with fail
 go_loopw [11] (fun v wr=>∃k:Nat,k<=cnt/\v=.int .i64 (k:Int)/\QR wr qb V {Q with ms:=flyAll til Q.ms ((hdsL Q cnt).take k)}/\Cap wr qb CC cnt g0 gc ga base til (hdsL Q cnt) av ans/\Tch [gm] w wr) (fun v _=>cnt-(intOf v).toNat)
 case atStart=>exact⟨0,Nat.zero_le _,rfl,HQ.out,HC.out,Tch.refl _ _⟩
 case round=>
  obtain⟨k,hk,rfl,hqr,hcp,htc⟩:=hrel;have HCP:=zH hcp;have HTC:Hid (Tch [gm] w wr):=htc
  by_cases hlt:k<cnt
  ·have hkl:k<Q.rs.length:=by omega
   have hz0:=hrd Q.rs[k] (List.getElem_mem _);have hzl:=idxL_lt (isG Q.rs[k]) Q.ms;obtain⟨i,hi⟩:∃i:Nat,idxL (isG Q.rs[k]) Q.ms=(i:Int):=⟨_,(Int.toNat_of_nonneg hz0).symm⟩;have hzk:(hdsL Q cnt)[k]'(by omega)=(i:Int):=by simp[hdsL,hi]
   have hmk:∀m∈flyAll til Q.ms ((hdsL Q cnt).take k),MsOk m:=flyAll_ok til Q.ms _ hms;have hmkl:=flyAll_len til Q.ms ((hdsL Q cnt).take k);have hnext:Hid (flyAll til Q.ms ((hdsL Q cnt).take (k+1))=flyAt til (flyAll til Q.ms ((hdsL Q cnt).take k)) (i:Int)):=by
    show _=_
    rw[List.take_succ_eq_append_getElem (by omega),hzk,flyAll_snoc]
   generalize flyAll til Q.ms ((hdsL Q cnt).take k)=mk at hqr hmk hmkl hnext;have hil:i<mk.length:=by omega
   obtain⟨m,hm⟩:∃m,mk[i]?=some m:=⟨_,List.getElem?_eq_getElem hil⟩;have hmi:mk[i]=m:=by rw[List.getElem?_eq_getElem hil]at hm;exact Option.some.inj hm
   have hok:=hmk m (List.mem_of_getElem? hm);obtain⟨rcv,hrcv⟩:∃n:Nat,m.rcv=(n:Int):=⟨_,(Int.toNat_of_nonneg hok.rcv.1).symm⟩;have hvm':V.m=.slice (some ⟨gm,0,none⟩) mk.length cm:=by rw[hvm,hmkl]
   obtain⟨hq1,ht1,hf1⟩:=hqr.setM hvm' i 3 (.int .i64 (oft rcv:Nat)) {m with rcv:=(oft rcv:Nat)} hil (by decide) (by rw[hmi];rfl);have hset1:(mk.set i {m with rcv:=(oft rcv:Nat)})[i]'(by simpa using hil)={m with rcv:=(oft rcv:Nat)}:=by simp
   obtain⟨hq2,ht2,hf2⟩:=hq1.setM (Q:={Q with ms:=mk.set i {m with rcv:=(oft rcv:Nat)}}) (gm:=gm) (cm:=cm) (by rw[hvm'];simp) i 4 (.int .i64 til) (flyM til m) (by simpa using hil) (by decide) (by
    show (flyM til m).row=(Ms.row ((mk.set i {m with rcv:=(oft rcv:Nat)})[i]'_)).set 4 _
    rw[hset1];simp[flyM,Ms.row,hrcv])
   have HN:Hid (QR ((wr.setCell ⟨gm,i*5+3,none⟩ (.int .i64 (oft rcv:Nat))).setCell ⟨gm,i*5+4,none⟩ (.int .i64 til)) qb V {Q with ms:=flyAll til Q.ms ((hdsL Q cnt).take (k+1))}/\Cap ((wr.setCell ⟨gm,i*5+3,none⟩ (.int .i64 (oft rcv:Nat))).setCell ⟨gm,i*5+4,none⟩ (.int .i64 til)) qb CC cnt g0 gc ga base til (hdsL Q cnt) av ans/\Tch [gm] w ((wr.setCell ⟨gm,i*5+3,none⟩ (.int .i64 (oft rcv:Nat))).setCell ⟨gm,i*5+4,none⟩ (.int .i64 til))):=by
    refine⟨?_,(hcp.keep hf1 (by decide)).keep hf2 (by decide),(htc.trans ht1 (fun _ h _=>h)).trans ht2 (fun _ h _=>h)⟩;have e:flyAll til Q.ms ((hdsL Q cnt).take (k+1))=mk.set i (flyM til m):=by
     rw[hnext.out];unfold flyAt;rw[Int.toNat_natCast,hm]
    rw[e];simpa using hq2
   have HOF:Hid (∀W,zE 213 #[.int .i64 (rcv:Int)] W (.int .i64 (oft rcv:Nat))):=fun W=>oftener_any rcv W (by have:=hok.rcv;omega)
   have d1:wr.cell? ⟨ga+1+1,k,none⟩=some (.int .i64 (i:Int)):=by
    refine cell_qC hcp.hhb k _ ?_;rw[intRow_get _ _ k (by omega),hzk]
   have d2:wr.cell? ⟨g0,0,none⟩=some (.pointer (some ⟨qb,0,none⟩)):=cell_of_one hcp.hgq;have d3:wr.cell? ⟨qb,7,none⟩=some (.slice (some ⟨gm,0,none⟩) mk.length cm):=by rw[<-hvm'];exact cell_qC hqr.blk 7 _ rfl
   have hmrow:=hqr.m;rw[hvm']at hmrow;have d4:wr.cell? ⟨gm,i*5+3,none⟩=some (.int .i64 (rcv:Int)):=by
    have inh:Inhabited Ms:=⟨⟨0,⟨#[]⟩,⟨#[]⟩,0,0⟩⟩;have h1:=own_cells Ms.row 5 (fun _=>rfl) hmrow i hil 3 (.int .i64 (rcv:Int)) (by
     rw[List.getElem!_eq_getElem?_getD,hm];simp[Ms.row,hrcv])
    simpa using h1
   have d5:(wr.setCell ⟨gm,i*5+3,none⟩ (.int .i64 (oft rcv:Nat))).cell? ⟨gm,i*5+4,none⟩=some (.int .i64 m.til):=by
    have inh:Inhabited Ms:=⟨⟨0,⟨#[]⟩,⟨#[]⟩,0,0⟩⟩;have hr2:=hq1.m;rw[hvm']at hr2;have e0:mk.length=(mk.set i {m with rcv:=(oft rcv:Nat)}).length:=by simp
    rw[e0]at hr2;have h1:=own_cells Ms.row 5 (fun _=>rfl) hr2 i (by simpa using hil) 4 (.int .i64 m.til) (by
     show (Ms.row ((mk.set i {m with rcv:=(oft rcv:Nat)})[i]!))[4]?=_
     rw[List.getElem!_eq_getElem?_getD,List.getElem?_set_self hil];rfl)
    simpa using h1
   have f3:wr.frozen? ⟨gm,i*5+3,none⟩=false:=World.ownsRow.frozenAt hmrow _;have f4:(wr.setCell ⟨gm,i*5+3,none⟩ (.int .i64 (oft rcv:Nat))).frozen? ⟨gm,i*5+4,none⟩=false:=by
    have hr2:=hq1.m;rw[hvm']at hr2;have e0:mk.length=(mk.set i {m with rcv:=(oft rcv:Nat)}).length:=by simp
    rw[e0]at hr2;exact World.ownsRow.frozenAt hr2 _
   have d6:(wr.setCell ⟨gm,i*5+3,none⟩ (.int .i64 (oft rcv:Nat))).cell? ⟨ga+1,0,none⟩=some (.int .i64 til):=cell_of_one (hf1.keep _ _ _ hcp.hgu (by decide));clear hqr hcp htc hq1 ht1 hf1 hq2 ht2 hf2 hmrow hmk hok;go_wp2_with (go_at_call 213;refine(HOF.out _).mono ?_;rintro e w' ⟨rfl,h'⟩;have h'':=h'.symm;subst h'');go_roundw
   case rel=>exact⟨k+1,by omega,by go_num,HN.out⟩
   case measure=>simp[intOf];omega
  ·have hke:cnt=k:=by omega
   subst hke;have hmall:(hdsL Q cnt).take cnt=hdsL Q cnt:=List.take_of_length_le (by omega);rw[hmall]at hqr;generalize hMS:flyAll til Q.ms (hdsL Q cnt)=MS at hqr;have HMS:Hid (flyAll til Q.ms (hdsL Q cnt)=MS):=hMS;have HQR:Hid (QR wr qb V {Q with ms:=MS}):=hqr;have hrr:=hqr.r;rw[hvr]at hrr;have HRB:Hid (∃C,wr.heap[gr0]?=some (.cells C 9 (0,0))):=by
    rcases hrr.2 with ⟨e,_⟩|⟨g',cap',cur,e,_,hr,_⟩
    ·simp at e
    ·simp at e;obtain⟨e1,_⟩:=e;subst e1;exact⟨_,hr⟩
   have HDL:Hid (Calls Tryz.prog 214 #[.slice (some ⟨gr0,0,none⟩) Q.rs.length cr,.int .i64 0,.int .i64 (cnt:Int)] wr.drew fun e w'=>e=.returned (.slice (some ⟨gr0,0,none⟩) (Q.rs.length-cnt) cr)/\w'.ownsRow 0 9 1 (.slice (some ⟨gr0,0,none⟩) (Q.rs.length-cnt) cr) (Q.rs.length-cnt) ((Q.rs.drop cnt).map Value.string)/\Tch [gr0] wr.drew w'):=delete_ready Q.rs gr0 cr cnt wr.drew hrr hcl;have e0:wr.cell? ⟨g0,0,none⟩=some (.pointer (some ⟨qb,0,none⟩)):=cell_of_one hcp.hgq;have ec:wr.cell? ⟨gc,0,none⟩=some (.int .i64 (cnt:Int)):=cell_of_one hcp.hgc;have e8:wr.cell? ⟨qb,8,none⟩=some (.slice (some ⟨gr0,0,none⟩) Q.rs.length cr):=by rw[<-hvr];exact cell_qC hqr.blk 8 _ rfl
   clear hqr hcp htc hrr hmall c0;go_wp2_with fail;refine wp_region_noPanic ?_;refine wp_region_held_drew (S:=(fun w'=>w'.cell? ⟨g0,0,none⟩=some (.pointer (some ⟨qb,0,none⟩))/\w'.cell? ⟨gc,0,none⟩=some (.int .i64 (cnt:Int)))) (by kernel_rfl) (by go_keep) (fun hHeld=>?_);refine zK 0 (h:=?_);refine zK 1 (h:=?_);refine zK 2 (h:=?_);refine zK 3 (h:=?_);refine zK 5 (h:=?_)
   try simp only[Act.put,List.setIfInBounds_toArray,List.set_cons_zero,List.set_cons_succ]
   refine wpAnyH_ready (rs:=[4]) (by kernel_rfl) (by simp) ?_;refine AllReadyH.cons rfl (fun K' hK'=>?_) AllReadyH.nil;go_simp;refine hK'.out _ _ (by go_keep) (fun hHeld=>?_);clear hK' K'
   try simp only[Act.put,List.setIfInBounds_toArray,List.set_cons_zero,List.set_cons_succ]
   refine wpAnyH_ready (rs:=[6]) (by kernel_rfl) (by simp) ?_;refine AllReadyH.cons rfl (fun K' hK'=>?_) AllReadyH.nil;go_simp;refine HDL.out.mono ?_;rintro e w7 ⟨rfl,ho7,ht7⟩;have hf7:Fr 0 [9] wr w7:=(Fr.of_nil [9] (Tch.refl [] wr).drew (Nat.zero_le _)).trans (Fr.of_tch ht7 (Nat.zero_le _) (fun _ _=>Nat.zero_le _) (fun b hb C t hC=>by
    simp at hb;subst hb;obtain⟨C',hC'⟩:=HRB.out;have hC2:wr.heap[b]?=some (.cells C t (0,0)):=hC;rw[hC']at hC2;simp at hC2;rw[<-hC2.2];decide))
   have hq7:Qb w7 qb Q.c (Q.next:Int) V.m (.slice (some ⟨gr0,0,none⟩) Q.rs.length cr) V.d V.a:=hf7.keep _ _ _ (by rw[<-hvr];exact HQR.out.blk) (by decide);have s0:w7.cell? ⟨g0,0,none⟩=some (.pointer (some ⟨qb,0,none⟩)):=cell_of_one (hf7.keep _ _ _ HCP.out.hgq (by decide));have s1:w7.cell? ⟨gc,0,none⟩=some (.int .i64 (cnt:Int)):=cell_of_one (hf7.keep _ _ _ HCP.out.hgc (by decide));have s8:w7.cell? ⟨qb,8,none⟩=some (.slice (some ⟨gr0,0,none⟩) Q.rs.length cr):=cell_qC hq7 8 _ rfl;have z8:=hq7.fz 8;have H7:Hid (Fr 0 [9] wr w7/\Qb w7 qb Q.c (Q.next:Int) V.m (.slice (some ⟨gr0,0,none⟩) Q.rs.length cr) V.d V.a/\w7.ownsRow 0 9 1 (.slice (some ⟨gr0,0,none⟩) (Q.rs.length-cnt) cr) (Q.rs.length-cnt) ((Q.rs.drop cnt).map Value.string)/\Tch [gr0] wr w7):=⟨hf7,hq7,ho7,((Tch.refl [gr0] wr).drew).trans ht7 (fun _ h _=>h)⟩;clear ho7 ht7 hf7 hq7;go_wp2_with fail;refine hK'.out _ _ (by go_keep) (fun hHeld=>?_);clear hK' K'
   try simp only[Act.put,List.setIfInBounds_toArray,List.set_cons_zero,List.set_cons_succ]
   refine zK 7 (h:=?_);refine zK 8 (h:=?_)
   try simp only[Act.put,List.setIfInBounds_toArray,List.set_cons_zero,List.set_cons_succ]
   refine wpAnyH_ready (rs:=[9]) (by kernel_rfl) (by simp) ?_;refine AllReadyH.cons rfl (fun K' hK'=>?_) AllReadyH.nil;go_simp;have co:∀b o,b≠qb->(w7.setCell ⟨qb,8,none⟩ (.slice (some ⟨gr0,0,none⟩) (Q.rs.length-cnt) cr)).cell? ⟨b,o,none⟩=w7.cell? ⟨b,o,none⟩:=fun b o hne=>World.cell?_of_block (a:=⟨b,o,none⟩) (heap_setCell_other _ _ _ _ (show b≠qb from hne))
   refine hK'.out _ _ ⟨(co _ _ y0).trans s0,(co _ _ y1).trans s1⟩ (fun hHeld=>?_);clear hK' K'
   try simp only[Act.put,List.setIfInBounds_toArray,List.set_cons_zero,List.set_cons_succ]
   refine wpAnyH_done (by kernel_rfl) ?_ _;refine NoPanic.normal ?_;have H8:Hid (QR (w7.setCell ⟨qb,8,none⟩ (.slice (some ⟨gr0,0,none⟩) (Q.rs.length-cnt) cr)) qb ⟨V.m,.slice (some ⟨gr0,0,none⟩) (Q.rs.length-cnt) cr,V.d,V.a⟩ {Q with ms:=MS,rs:=Q.rs.drop cnt}/\Cap (w7.setCell ⟨qb,8,none⟩ (.slice (some ⟨gr0,0,none⟩) (Q.rs.length-cnt) cr)) qb CC cnt g0 gc ga base til (hdsL Q cnt) av ans/\Tch (qbl qb V) w (w7.setCell ⟨qb,8,none⟩ (.slice (some ⟨gr0,0,none⟩) (Q.rs.length-cnt) cr))):=by
    have hq7:=H7.out.2.1;have t8:Tch [qb] w7 (w7.setCell ⟨qb,8,none⟩ (.slice (some ⟨gr0,0,none⟩) (Q.rs.length-cnt) cr)):=(Tch.refl _ _).setCell (fun _=>by simp) _;have f8:Fr 0 [191] w7 (w7.setCell ⟨qb,8,none⟩ (.slice (some ⟨gr0,0,none⟩) (Q.rs.length-cnt) cr)):=Fr.one t8 (Nat.zero_le _) (Nat.zero_le _) hq7 (by decide);have h0:=HQR.out;refine⟨⟨hq7.set8 _,f8.own (H7.out.1.own h0.m (by decide)) (by decide),?_,f8.own (H7.out.1.own h0.d (by decide)) (by decide),f8.own (H7.out.1.own h0.a (by decide)) (by decide)⟩,(HCP.out.keep H7.out.1 (by decide)).keep f8 (by decide),?_⟩
    ·have h5:=f8.own H7.out.2.2.1 (by decide);have e5:(Q.rs.drop cnt).length=Q.rs.length-cnt:=by simp
     show World.ownsRow _ 0 9 1 _ (Q.rs.drop cnt).length ((Q.rs.drop cnt).map Value.string)
     rw[e5];exact h5
    ·refine(((HTC.out.sub (S':=qbl qb V) (fun x hx _=>?_)).trans H7.out.2.2.2 (fun x hx _=>?_))).trans t8 (fun x hx _=>?_)
     ·simp at hx;subst hx;exact mem_qbl.2 (.inr (.inl (by rw[hvm];rfl)))
     ·simp at hx;subst hx;exact mem_qbl.2 (.inr (.inr (.inl (by rw[hvr];rfl))))
     ·simp at hx;exact mem_qbl.2 (.inl hx)
   clear co s0 s1 s8 z8 e0 ec e8 HDL HRB H7;generalize hw8:w7.setCell ⟨qb,8,none⟩ (.slice (some ⟨gr0,0,none⟩) (Q.rs.length-cnt) cr)=w8 at*
   have r1:w8.cell? ⟨g0+1,12,none⟩=some (.string att):=cell_qC H8.out.2.1.hgr 12 _ hatt;have r2:w8.cell? ⟨ga+1,0,none⟩=some (.int .i64 til):=cell_of_one H8.out.2.1.hgu;have r3:w8.cell? ⟨ga,0,none⟩=some av:=cell_of_one H8.out.2.1.hga;have hstr:=OwnB.str H8.out.2.1.own han;have HRM:Hid (Calls Tryz.prog 215 #[.pointer (some ⟨qb,0,none⟩),.agg #[.string att,.int .i64 til,.string ⟨ans.toArray⟩]] w8 fun e w'=>e=.returned (.tuple #[])/\QL w8 w' qb ⟨V.m,.slice (some ⟨gr0,0,none⟩) (Q.rs.length-cnt) cr,V.d,V.a⟩ (remG {Q with ms:=MS,rs:=Q.rs.drop cnt} ⟨att,til,⟨ans.toArray⟩⟩)):=rememberG_any _ _ ⟨att,til,⟨ans.toArray⟩⟩ qb w8 H8.out.1 hna;clear hw8;go_wp2_with fail;refine HRM.out.mono ?_;rintro e w9 ⟨rfl,V9,hq9,ht9,hn9⟩;have HF:Hid (QL w w9 qb V (recvG Q att cnt til ans)):=by
    have hsub:∀x,x∈qbl qb ⟨V.m,.slice (some ⟨gr0,0,none⟩) (Q.rs.length-cnt) cr,V.d,V.a⟩->x∈qbl qb V:=fun x hx=>by
     rcases mem_qbl.1 hx with e|e|e|e|e
     ·exact mem_qbl.2 (.inl e)
     ·exact mem_qbl.2 (.inr (.inl e))
     ·exact mem_qbl.2 (.inr (.inr (.inl (by rw[hvr];exact e))))
     ·exact mem_qbl.2 (.inr (.inr (.inr (.inl e))))
     ·exact mem_qbl.2 (.inr (.inr (.inr (.inr e))))
    refine⟨V9,?_,H8.out.2.2.trans ht9 (fun x hx _=>hsub x hx),fun b hb=>?_⟩
    ·unfold recvG;rw[HMS.out];exact hq9
    ·rcases hn9 b hb with h1|h1
     ·exact .inl (hsub b h1)
     ·exact .inr (Nat.le_trans H8.out.2.2.size h1)
   clear hq9 ht9 hn9;go_wp2_with fail;go_end0;exact⟨rfl,HF.out⟩
theorem MsG.ok {nx:Nat}(h:MsG nx m)(hn:nx<=201):MsOk m:=⟨by have:=h.num;omega,h.rcv,by have:=h.grp;omega,by have:=h.bod;omega⟩
theorem QW.mso (h:QW i Q):∀m∈Q.ms,MsOk m:=fun m hm=>(h.mok m hm).ok h.nx.2
theorem QW.giv (h:QW i Q)(g:ByteArray):(givM Q g).length<=58:=by
 unfold givM
 split
 ·rename_i m hm
  have h1:=h.mok m (List.mem_of_getElem? hm);rw[givB_len];have:=h1.grp;have:=h1.bod;omega
 ·simp
theorem QW.ans (h:QW i Q)(cnt:Nat)(hc:cnt<=10):(ansL Q cnt cnt).length<=600:=by
 unfold ansL;rw[List.length_append,lowB_length];have h1:=flt_len (givM Q) 58 (Q.rs.take cnt) (fun g _=>h.giv g);rw[List.length_take]at h1;omega
theorem QW.rem (h:QW i Q)(a:At)(h1:a.id.size<=8)(h2:0<a.ans.size/\a.ans.size<=600)(h3:0<=a.til/\a.til<=62000):QW i (remG Q a):=by
 unfold remG
 split
 ·exact h
 ·rename_i hz
  have hal:=h.al;have hok:∀x∈Q.ats++[a],(1<=x.id.size/\x.id.size<=8)/\(0<x.ans.size/\x.ans.size<=600)/\0<=x.til/\x.til<=62000:=fun x hx=>by
   rcases List.mem_append.1 hx with hx|hx
   ·exact h.aok x hx
   ·simp at hx;subst hx;exact⟨⟨by omega,h1⟩,h2,h3⟩
  refine {c:=h.c,nx:=h.nx,mq:=h.mq,nums:=h.nums,mok:=h.mok,hd:=h.hd,rn:=h.rn,rr:=h.rr,dn:=h.dn,dok:=h.dok,al:=?_,aok:=fun x hx=>?_}
  ·show (if Q.ats.length<20 then Q.ats++[a] else (Q.ats++[a]).eraseIdx 0).length<=20
   split
   ·simp;omega
   ·rw[List.length_eraseIdx_of_lt (by simp)];simp;omega
  ·have hx':=hx
   split at hx'
   ·exact hok x hx'
   ·exact hok x (List.mem_of_mem_eraseIdx hx')
def recvC (c:Nat->Option QM)(i:Nat)(Q:QM)(att:ByteArray)(cnt:Nat)(now:Int):Nat->Option QM:=if cnt=0 then c else setC c i (some (recvG Q att cnt (now+Q.c.vis) (ansL Q cnt cnt)))
theorem op_R (B:Nat)(r:Wp.Rq)(x st b i mx cnt:Nat)(now:Int)(c:Nat->Option QM)(col:Nat->Nat)(w:World)(hE:Env B w)(hb:Bk B w x st b now c col)(hop:r.op=82)(hi:i<8)(hq:r.q.toNat=97+i)(Q:QM)(hQ:c i=some Q)(hid:idxL (isA r.att) Q.ats<0)(has:r.att.size<=8)(hmx:r.mx=(mx:Nat))(hm1:1<=mx/\mx<=10)(hcnt:cnt=if mx<=Q.rs.length then mx else Q.rs.length)
  (Z:Nat->Option BQ)(o:Option ByteArray)(room:Int)(hs:SG B w st b now Z col)(hc:ctZ Z=c)(W:World)(y:Sl)(ht:Tch [] w W):
  Calls Tryz.prog 62 #[.pointer (some ⟨st,0,none⟩),.agg (cellsOf r y.v)] W fun e w'=>Tch [] W w'/\PlG B (fun w'=>JgO B w col w' x st o room) (fun t w'=>t=okL (ansL Q cnt cnt)/\Did B x st b w col now (recvC c i Q r.att cnt now) w') e w':=by
 have hQ':ctZ Z i=some Q:=by rw[hc];exact hQ
 obtain⟨z,hz,hzq⟩:=ctZ_get hQ';have hW:=hb.wf i Q hi hQ;have hnw:=hb.nw;have hvis:=hW.c.vis;have hcl:cnt<=Q.rs.length/\cnt<=10:=by split at hcnt<;>omega
 have hrl:=hW.rl;have hml:=hW.ml;refine plan_w B _ _ r y st b 17 207 (b+2) now _ W (by rw[hop];rfl) (by decide) (hs.tch ht).stb rfl eg207 ?_;intro W1 ht1;have tW:=ht.trans ht1 (by simp);have hsW:=hs.tch tW;refine within_g B _ _ r y st b i 163 (b+2) z.qb now _ W1 hq hi hsW.stb (by show ptrV (ptZ Z i)=_;unfold ptZ;rw[hz];rfl) (hsW.tb 2 163 (by decide)) eg163 ?_;intro W2 ht2;have tW2:=tW.trans ht2 (by simp);have hqr:∀{W'},Tch [] w W'->QR W' z.qb z.V Q:=fun {W'} h=>by rw[<-hzq];exact(hs.tch h).qr i z hi hz
 refine(receive_some Q z.V r y z.qb now W2 (hqr tW2) (by have:=hW.al;omega) (by omega) hid mx cnt hmx hm1 hcnt hnw ⟨by omega,by omega⟩ (by omega) (fun g hg=>hW.hidx hg) hW.mso).mono ?_;rintro e w' ⟨gc,ga,base,av,⟨h0,rfl,hown,ht'⟩|⟨h0,rfl,hrc,hg1,hg2,hg3⟩⟩
 ·refine⟨ht',.inr ⟨av,.nilFunc,ansL Q cnt cnt,rfl,.inr ⟨ansL_pos Q cnt cnt,by have:=hW.ans cnt hcl.2;omega,Rdb.of_own hown (ansL_pos Q cnt cnt)⟩,fun w2 ht2=>.inl ⟨rfl,fun w3 ht3=>⟨rfl,?_⟩⟩⟩⟩
  have t3:=((tW2.trans ht' (by simp)).trans ht2 (by simp)).trans ht3 (by simp);unfold recvC;rw[if_pos h0];exact did_same hb hE.size t3
 ·refine⟨hrc.tch,.inr ⟨av,_,ansL Q cnt cnt,rfl,.inr ⟨ansL_pos Q cnt cnt,by have:=hW.ans cnt hcl.2;omega,Rdb.of_own hrc.own (ansL_pos Q cnt cnt)⟩,fun w1 ht1=>.inr ⟨212,_,rfl,eg212,fun w2 w3 ht2 hf3 hj3=>?_⟩⟩⟩
  have t2:=((tW2.trans hrc.tch (by simp)).trans ht1 (by simp)).trans ht2 (by simp);have hs3:=hs.lay t2 hf3;have hz2:=t2.size;have hz3:=hf3.size;have hcp:=(hrc.tch0 (ht1.trans ht2 (by simp))).cap.keep hf3 (by decide);refine(recvdG_any Q z.V (cellsOf r y.v) r.att z.qb cnt W2.heap.size gc ga base (now+Q.c.vis) av (ansL Q cnt cnt) w3 (by rw[<-hzq];exact hs3.qr i z hi hz) hcp rfl ⟨h0,by omega⟩ hcl.1 (fun g hg=>hW.hidx hg) hW.mso (by omega) hW.al (ansL_pos Q cnt cnt)).mono ?_;rintro e w4 ⟨rfl,hl⟩;have hsn:=hs3.updn (by have:=hE.size;omega) hi hz hl;rw[hc]at hsn;unfold recvC;rw[if_neg (by omega)];refine⟨rfl,rfl,did_n hE.size t2 hf3 hb.fut hj3 hsn (hb.wf.set ?_) hnw⟩;exact QW.rem (hW.recv hcl.1 ⟨by omega,by omega⟩) _ has ⟨by show 0<(ansL Q cnt cnt).toArray.size;simpa using ansL_pos Q cnt cnt,by show (ansL Q cnt cnt).toArray.size<=600;simpa using hW.ans cnt hcl.2⟩ ⟨by show (0:Int)<=now+Q.c.vis;omega,by show now+Q.c.vis<=62000;omega⟩
theorem op_S (B:Nat)(r:Wp.Rq)(x st b i:Nat)(now:Int)(c:Nat->Option QM)(col:Nat->Nat)(w:World)(hE:Env B w)(hb:Bk B w x st b now c col)(hop:r.op=83)(hi:i<8)(hq:r.q.toNat=97+i)(Q:QM)(hQ:c i=some Q)(hid:idxL (isI (didS r)) Q.ds<0)(hbod:r.bod.size<=40)(hgrp:1<=r.grp.size/\r.grp.size<=8)(hdd:r.ded.size<=8)(hquo:(Q.ms.length:Int)<Q.c.quo)(hk:Q.next<=200)
  (Z:Nat->Option BQ)(o:Option ByteArray)(room:Int)(hs:SG B w st b now Z col)(hc:ctZ Z=c)(W:World)(y:Sl)(ht:Tch [] w W):
  Calls Tryz.prog 62 #[.pointer (some ⟨st,0,none⟩),.agg (cellsOf r y.v)] W fun e w'=>Tch [] W w'/\PlG B (fun w'=>JgO B w col w' x st o room) (fun t w'=>t=okL (lowB Q.next 4)/\Did B x st b w col now (setC c i (some (sendQ Q r now))) w') e w':=by
 have hQ':ctZ Z i=some Q:=by rw[hc];exact hQ
 obtain⟨z,hz,hzq⟩:=ctZ_get hQ';have hW:=hb.wf i Q hi hQ;have hnw:=hb.nw;have hwin:=hW.c.win;have hrl:=hW.rl;have hml:=hW.ml;have hdl:=hW.dl;have hids:(didS r).size<=8:=by
  unfold didS
  split
  ·show (0::lowB _ 4).toArray.size<=8
   simp[lowB_length]
  ·exact hdd
 refine plan_w B _ _ r y st b 18 207 (b+3) now _ W (by rw[hop];rfl) (by decide) (hs.tch ht).stb rfl eg207 ?_;intro W1 ht1;have tW:=ht.trans ht1 (by simp);have hsW:=hs.tch tW;refine within_g B _ _ r y st b i 164 (b+3) z.qb now _ W1 hq hi hsW.stb (by show ptrV (ptZ Z i)=_;unfold ptZ;rw[hz];rfl) (hsW.tb 3 164 (by decide)) eg164 ?_;intro W2 ht2;have tW2:=tW.trans ht2 (by simp);have hqW:QR W2 z.qb z.V Q:=by rw[<-hzq];exact(hs.tch tW2).qr i z hi hz
 obtain⟨am,cm,hvm⟩:=own_shape hqW.m;have hbk:=hqW.blk;rw[hvm]at hbk;have hz2:=tW2.size;have hE3:=hE.three;have hES:=hE.size;refine(sendg_new Q.c r y z.qb Q.next Q.ms.length cm am Q.ds now z.V.r z.V.d z.V.a W2 hbk hbod (hE.tab.tch tW2 (by simp) (by omega)) (by omega) hqW.d (by omega) hid hquo hk).mono ?_;rintro e w' ⟨av,gi,rfl,hown,hb',b0,bi,b1,b2⟩;have t1:=Tch.of_below hb';refine⟨t1,.inr ⟨av,_,lowB Q.next 4,rfl,.inr ⟨by rw[lowB_length];omega,by rw[lowB_length];omega,Rdb.of_own hown (by rw[lowB_length];omega)⟩,fun w1 ht1=>.inr ⟨218,_,rfl,eg158,fun w2 w3 ht2 hf3 hj3=>?_⟩⟩⟩
 have t2:=((tW2.trans t1 (by simp)).trans ht1 (by simp)).trans ht2 (by simp);have hs3:=hs.lay t2 hf3;have hzz2:=t2.size;have hzz3:=hf3.size;have kp:∀(j:Nat) (C:Array Value) (t:TypeId),w'.heap[j]?=some (.cells C t (0,0))->t∉TJ->w3.heap[j]?=some (.cells C t (0,0)):=fun j C t hj hT=>hf3.keep j C t (((ht1.trans ht2 (by simp)).block j (lt_of_block hj) (by simp)).trans hj) hT
 refine(sent_q Q z.V r y z.qb W2.heap.size gi (W2.heap.size+1) (W2.heap.size+2) now w3 (by rw[<-hzq];exact hs3.qr i z hi hz) (by omega) (by omega) (by omega) hk ⟨by omega,by omega⟩ hnw (kp _ _ _ b0 (by decide)) (kp _ _ _ bi (by decide)) (kp _ _ _ b1 (by decide)) (kp _ _ _ b2 (by decide))).mono ?_;rintro e w4 ⟨rfl,hl⟩;have hsn:=hs3.updn (by omega) hi hz hl;rw[hc]at hsn;exact⟨rfl,rfl,did_n hE.size t2 hf3 hb.fut hj3 hsn (hb.wf.set (hW.send hquo hk hgrp hbod hids hnw)) hnw⟩
def HanIs (s:ByteArray)(i num rcv:Nat):Prop:=∃h8:s.size=8,s[0]=72/\isLet s[1]=true/\s[1].toNat=97+i/\leN (tk (s.extract 2 8) 4).data.toList=num/\leN (tk (lf (s.extract 2 8) 4) 2).data.toList=rcv
theorem find_sg (B:Nat)(s:ByteArray)(st b i num rcv:Nat)(now:Int)(Z:Nat->Option BQ)(col:Nat->Nat)(w:World)(hE:Env B w)(hh:HanIs s i num rcv)(hi:i<8)(hs:SG B w st b now Z col)(x:BQ)(hx:Z i=some x)(hl:x.Q.ms.length<=1000):
  zT 194 #[.pointer (some ⟨st,0,none⟩),.string s] w (.tuple #[if fliesQ x.Q num rcv=true then .pointer (some ⟨x.qb,0,none⟩) else .pointer none,.int .i64 (if fliesQ x.Q num rcv=true then (num:Int) else 0),.int .i64 (if fliesQ x.Q num rcv=true then 0 else 8)]):=by
 obtain⟨h8,h0,h1,h2,h3,h4⟩:=hh;have hrd:=read_yes B s w hE.lays hE.size h8 h0 h1;rw[h3,h4]at hrd;refine find_fl (fliesQ x.Q num rcv) st x.qb s ((s[1].toNat:Nat):Int) num rcv w ⟨hrd,fun W ht=>?_⟩ (fun W ht=>?_)
 ·have h5:=at_g st b i now _ W (hs.tch ht).stb hi;have e:((s[1].toNat:Nat):Int)=97+(i:Int):=by rw[h2];omega
  rw[e];have e2:ptrV (ptZ Z i)=.pointer (some ⟨x.qb,0,none⟩):=by unfold ptZ;rw[hx];rfl
  rw[e2]at h5;exact h5
 ·exact flies_any x.Q x.V x.qb s[1] num rcv W ((hs.tch ht).qr i x hi hx) hl
theorem flies_get {rcv:Int}(h:fliesQ Q num rcv=true):∃m,Q.ms.find? (isN num)=some m/\0<m.til/\m.rcv=rcv:=by
 unfold fliesQ at h
 cases hf:Q.ms.find? (isN num) with
 | none=>rw[hf]at h;simp at h
 | some m=>
  rw[hf]at h;simp at h;exact⟨m,rfl,h.1,h.2⟩
theorem op_A (B:Nat)(r:Wp.Rq)(x st b i num rcv:Nat)(now:Int)(c:Nat->Option QM)(col:Nat->Nat)(w:World)(hE:Env B w)(hb:Bk B w x st b now c col)(hop:r.op=65)(hi:i<8)(hh:HanIs r.han i num rcv)(Q:QM)(hQ:c i=some Q)(hfl:fliesQ Q num rcv=true)
  (Z:Nat->Option BQ)(o:Option ByteArray)(room:Int)(hs:SG B w st b now Z col)(hc:ctZ Z=c)(W:World)(y:Sl)(ht:Tch [] w W):
  Calls Tryz.prog 62 #[.pointer (some ⟨st,0,none⟩),.agg (cellsOf r y.v)] W fun e w'=>Tch [] W w'/\PlG B (fun w'=>JgO B w col w' x st o room) (fun t w'=>t=okL []/\Did B x st b w col now (setC c i (some (dropQ Q num))) w') e w':=by
 have hQ':ctZ Z i=some Q:=by rw[hc];exact hQ
 obtain⟨z,hz,hzq⟩:=ctZ_get hQ';have hW:=hb.wf i Q hi hQ;have hrl:=hW.rl;have hml:=hW.ml;obtain⟨m,hf,hft,hfr⟩:=flies_get hfl;refine plan_p B _ _ r y st b 0 157 now _ W (by rw[hop];rfl) (by decide) (hs.tch ht).stb rfl eg157 ?_;intro W1 ht1;have tW:=ht.trans ht1 (by simp);refine(ack_ok (num:Int) z.qb r y st W1 (fun W2 ht2=>?_)).mono ?_
 ·have tW2:=tW.trans ht2 (by simp);have h1:=find_sg B r.han st b i num rcv now Z col W2 (hE.tch tW2 (by simp)) hh hi (hs.tch tW2) z hz (by rw[hzq];omega);rw[hzq,hfl]at h1;exact h1
 ·rintro e w1 ⟨gq,gn,rfl,ht2,hgq,hgn⟩;refine⟨ht2,.inr ⟨_,_,[],rfl,.inl ⟨rfl,rfl⟩,fun w2 ht3=>.inr ⟨195,_,rfl,eg195,fun w3 w4 ht4 hf4 hJ4=>?_⟩⟩⟩
  have t23:=ht3.trans ht4 (by simp);have t3:=(tW.trans ht2 (by simp)).trans t23 (by simp);have hs4:=hs.lay t3 hf4;have hz3:=t3.size;have hz4:=hf4.size;have kgq:=hf4.keep _ _ _ ((t23.block _ (lt_of_block hgq) (by simp)).trans hgq) (by decide);have kgn:=hf4.keep _ _ _ ((t23.block _ (lt_of_block hgn) (by simp)).trans hgn) (by decide);obtain⟨p,hp,_⟩:=find_idx hf;refine ackd_walk _ (num:Int) z.qb gq gn w4 kgq kgn ((drop_any Q z.V z.qb num w4 (by rw[<-hzq];exact hs4.qr i z hi hz) (by omega) (by omega) (by rw[hp];omega)).mono ?_);rintro e w5 ⟨rfl,hl⟩;have hsn:=hs4.updn (by have:=hE.size;omega) hi hz hl;rw[hc]at hsn;exact⟨rfl,rfl,did_n hE.size t3 hf4 hb.fut hJ4 hsn (hb.wf.set (hW.drop hf hft)) hb.nw⟩
end Go.Proofs.YtbdobaapadlcjaaGreatDoor
