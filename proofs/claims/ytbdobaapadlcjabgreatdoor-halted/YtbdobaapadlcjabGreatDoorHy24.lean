import Derived.Test.YtbdobaapadlcjabGreatDoorHy23
set_option maxRecDepth 8000
set_option maxHeartbeats 4000000
set_option linter.unusedVariables false
set_option linter.unusedSimpArgs false
namespace Go.Proofs.YtbdobaapadlcjabGreatDoor
open Go.RowKit
variable {s:ByteArray}{i n size:Nat}{r:Wp.Rq}{b:Bool}{w:World}{v:Value}{xs:List Value}{te:TypeId}
def hanP (s:ByteArray):Option (Nat×Nat×Nat):=if h8:s.size=8 then (if s[0]=72/\isLet s[1]=true then some (s[1].toNat-97,leN (tk (s.extract 2 8) 4).data.toList,leN (tk (lf (s.extract 2 8) 4) 2).data.toList) else none) else none
theorem hanP_some {num rcv:Nat}(h:hanP s=some (i,num,rcv)):HanIs s i num rcv/\i<8:=by
 unfold hanP at h
 by_cases h8:s.size=8
 ·rw[dif_pos h8]at h
  by_cases hc:s[0]=72/\isLet s[1]=true
  ·rw[if_pos hc]at h;simp only[Option.some.injEq,Prod.mk.injEq]at h;obtain⟨rfl,rfl,rfl⟩:=h;have hl:=hc.2;unfold isLet at hl;rw[Bool.and_eq_true,decide_eq_true_eq,decide_eq_true_eq]at hl;exact⟨⟨h8,hc.1,hc.2,by omega,rfl,rfl⟩,by omega⟩
  ·rw[if_neg hc]at h
   cases h
 ·rw[dif_neg h8]at h
  cases h
theorem hanP_none (h:hanP s=none):¬∃h8:s.size=8,s[0]=72/\isLet s[1]=true:=by
 rintro ⟨h8,hc⟩;unfold hanP at h;rw[dif_pos h8,if_pos hc]at h
 cases h
abbrev qiR (r:Wp.Rq):Nat:=r.q.toNat-97
def doR (now:Int)(c:Nat->Option QM)(i:Nat)(Q:QM)(r:Wp.Rq):ByteArray×Int×(Nat->Option QM):=
 match Q.ats[(idxL (isA r.att) Q.ats).toNat]? with
 | some a=>if 0<=idxL (isA r.att) Q.ats then (okL a.ans.data.toList,now,c) else (okL (ansL Q (min r.mx.toNat Q.rs.length) (min r.mx.toNat Q.rs.length)),now,recvC c i Q r.att (min r.mx.toNat Q.rs.length) now)
 | none=>(okL (ansL Q (min r.mx.toNat Q.rs.length) (min r.mx.toNat Q.rs.length)),now,recvC c i Q r.att (min r.mx.toNat Q.rs.length) now)
def doS (now:Int)(c:Nat->Option QM)(i:Nat)(Q:QM)(r:Wp.Rq):ByteArray×Int×(Nat->Option QM):=
 if 40<r.bod.size then (⟨#[4]⟩,now,c)
 else if 0<=idxL (isI (didS r)) Q.ds then (okL (lowB (((Q.ds[(idxL (isI (didS r)) Q.ds).toNat]?).map Dd.num).getD 0).toNat 4),now,c)
 else if Q.c.quo<=(Q.ms.length:Int) then (⟨#[5]⟩,now,c)
 else if 200<Q.next then (⟨#[6]⟩,now,c)
 else (okL (lowB Q.next 4),now,setC c i (some (sendQ Q r now)))
def doA (now:Int)(c:Nat->Option QM)(r:Wp.Rq)(f:Nat->QM->Nat->(Nat->Option QM)):ByteArray×Int×(Nat->Option QM):=
 match hanP r.han with
 | none=>(⟨#[7]⟩,now,c)
 | some (i,num,rcv)=>match c i with
  | none=>(⟨#[8]⟩,now,c)
  | some Q=>if fliesQ Q num rcv=true then (okL [],now,f i Q num) else (⟨#[8]⟩,now,c)
def doQ (now:Int)(c:Nat->Option QM)(r:Wp.Rq):ByteArray×Int×(Nat->Option QM):=
 if r.op=84 then (if 60000<now+r.tic then (⟨#[9]⟩,now,c) else (okL [],now+r.tic,timeC (now+r.tic) c))
 else if r.op=65 then doA now c r (fun i Q num=>setC c i (some (dropQ Q num)))
 else if r.op=69 then doA now c r (fun i Q num=>extC c i Q num now r.tic)
 else match c (qiR r) with
  | none=>if r.op=67 then (okL [],now,setC c (qiR r) (some (newM r))) else (⟨#[2]⟩,now,c)
  | some Q=>if r.op=67 then (⟨#[3]⟩,now,c)
   else if r.op=88 then (okL [],now,setC c (qiR r) none)
   else if r.op=80 then (okL [],now,setC c (qiR r) (some (purgQ Q)))
   else if r.op=86 then (okL (allB Q),now,c)
   else if r.op=82 then doR now c (qiR r) Q r
   else doS now c (qiR r) Q r
theorem fits_inv {f:Nat}(h:r.fits n b f=true)(h1:f≠1):Wp.least f<=r.measure n f/\r.measure n f<=Wp.most f:=by
 unfold Wp.Rq.fits at h;rw[if_neg (fun e=>h1 e.1)]at h
 by_cases ha:r.measure n f<Wp.least f
 ·rw[if_pos ha]at h
  cases h
 ·rw[if_neg ha]at h
  by_cases hb:Wp.most f<r.measure n f
  ·rw[if_pos hb]at h
   cases h
  ·omega
theorem fits_dead_inv (h:r.fits n b 1=true):r.d=45\/(97<=r.d.toNat/\r.d.toNat<=104)/\r.d≠r.q:=by
 unfold Wp.Rq.fits at h
 by_cases hd:r.d=45
 ·exact .inl hd
 ·rw[if_neg (fun e=>hd e.2)]at h
  by_cases ha:r.measure n 1<Wp.least 1
  ·rw[if_pos ha]at h
   cases h
  ·rw[if_neg ha]at h
   by_cases hb:Wp.most 1<r.measure n 1
   ·rw[if_pos hb]at h
    cases h
   ·rw[if_neg hb,if_pos rfl]at h;have e1:r.measure n 1=(r.d.toNat:Int):=rfl;have e2:Wp.least 1=97:=rfl;have e3:Wp.most 1=104:=rfl;rw[e1,e2]at ha;rw[e1,e3]at hb;refine .inr ⟨by omega,fun e=>?_⟩
    rw[e]at h;simp at h
structure RqOk (r:Wp.Rq):Prop where
 ops:∃i∈opsAt,r.op.toNat=65+i
 fq:r.op.toNat-65∈[2,15,17,18,21,23]->97<=r.q.toNat/\r.q.toNat<=104
 fc:r.op.toNat=67->CfW (qiR r) r
 fs:r.op.toNat=83->(1<=r.grp.size/\r.grp.size<=8)/\r.ded.size<=8/\r.bod.size<=255
 fr:r.op.toNat=82->(1<=r.mx/\r.mx<=10)/\r.att.size<=8
 fh:r.op.toNat=65\/r.op.toNat=69->r.han.size<=255
 ft:r.op.toNat=69\/r.op.toNat=84->0<=r.tic/\r.tic<=1000
theorem dead_ok (hq:r.q.toNat=97+i)(h:r.d=45\/(97<=r.d.toNat/\r.d.toNat<=104)/\r.d≠r.q):DeadOk i r:=by
 rcases h with h|⟨h1,h2⟩
 ·exact .inl h
 ·refine .inr ⟨r.d.toNat-97,by omega,fun e=>h2 ?_,by omega⟩
  have:r.d.toNat=r.q.toNat:=by omega
  exact UInt8.toNat_inj.1 this
theorem rq_ok (hw:Wf r)(h:rightW r nil0 (Wp.short [])=true):RqOk r:=by
 obtain⟨i,hi,hop,hf,_,_⟩:=(right_iff r nil0 _ hw).1 h;have hl:∀f,f∈Wp.lay i->r.fits nil0.n (Wp.short []) f=true:=List.all_eq_true.1 hf;have hF:∀f,f∈Wp.lay i->f≠1->Wp.least f<=r.measure nil0.n f/\r.measure nil0.n f<=Wp.most f:=fun f hm hn=>fits_inv (hl f hm) hn
 have hq:i∈[2,15,17,18,21,23]->97<=r.q.toNat/\r.q.toNat<=104:=fun hm=>by
  have h0:0∈Wp.lay i:=by
   simp only[List.mem_cons,List.not_mem_nil,or_false]at hm;rcases hm with rfl|rfl|rfl|rfl|rfl|rfl<;>decide
  have h1:=hF 0 h0 (by decide);have e1:r.measure nil0.n 0=(r.q.toNat:Int):=rfl;have e2:Wp.least 0=97:=rfl;have e3:Wp.most 0=104:=rfl;rw[e1,e2,e3]at h1;omega
 refine⟨⟨i,hi,hop⟩,fun hm=>hq (by rw[hop,Nat.add_sub_cancel_left]at hm;exact hm),fun ho=>?_,fun ho=>?_,fun ho=>?_,fun ho=>?_,fun ho=>?_⟩
 ·obtain rfl:i=2:=by omega
  have h2:(1:Int)<=r.vis/\r.vis<=1000:=hF 2 (by decide) (by decide);have h3:(0:Int)<=r.win/\r.win<=1000:=hF 3 (by decide) (by decide);have h4:(0:Int)<=r.rcv/\r.rcv<=9:=hF 4 (by decide) (by decide);have h5:(1:Int)<=r.quo/\r.quo<=50:=hF 5 (by decide) (by decide);have hq':=hq (by decide);have e:r.q.toNat=97+qiR r:=by unfold qiR;omega
  exact⟨e,dead_ok e (fits_dead_inv (hl 1 (by decide))),h2,h3,h4,h5⟩
 ·obtain rfl:i=18:=by omega
  have h2:(1:Int)<=(r.grp.size:Int)/\(r.grp.size:Int)<=8:=hF 9 (by decide) (by decide);have h3:(0:Int)<=(r.ded.size:Int)/\(r.ded.size:Int)<=8:=hF 10 (by decide) (by decide);have h4:(0:Int)<=(r.bod.size:Int)/\(r.bod.size:Int)<=255:=hF 11 (by decide) (by decide);exact⟨by omega,by omega,by omega⟩
 ·obtain rfl:i=17:=by omega
  have h2:(0:Int)<=(r.att.size:Int)/\(r.att.size:Int)<=8:=hF 12 (by decide) (by decide);have h3:(1:Int)<=r.mx/\r.mx<=10:=hF 6 (by decide) (by decide);exact⟨h3,by omega⟩
 ·have hm:13∈Wp.lay i:=by
   rcases ho with ho|ho
   ·obtain rfl:i=0:=by omega
    decide
   ·obtain rfl:i=4:=by omega
    decide
  have h2:(0:Int)<=(r.han.size:Int)/\(r.han.size:Int)<=255:=hF 13 hm (by decide);omega
 ·rcases ho with ho|ho
  ·obtain rfl:i=4:=by omega
   have h2:(0:Int)<=r.tic/\r.tic<=1000:=hF 7 (by decide) (by decide);exact h2
  ·obtain rfl:i=19:=by omega
   have h2:(1:Int)<=r.tic/\r.tic<=1000:=hF 8 (by decide) (by decide);omega
theorem op_eq (h:r.op.toNat=n)(hn:n<256):r.op=UInt8.ofNat n:=by
 apply UInt8.toNat_inj.1;rw[h,UInt8.toNat_ofNat_of_lt' hn]
theorem op_any (B:Nat)(r:Wp.Rq)(x:Gh B)(st b:Nat)(now:Int)(c:Nat->Option QM)(col:Nat->Nat)(w:World)(hE:Env B w)(hb:Sk B w x st b now c col)(hr:RqOk r)(hnB:r.op.toNat≠66)(Z:Nat->Option BQ)(o:Option ByteArray)(room:Int)(hs:SG B w st b now Z col)(hc:ctZ Z=c)(W:World)(y:Sl)(ht:Tch [] w W):
  Calls Tryz.prog 30 #[.pointer (some ⟨st,0,none⟩),.agg (cellsOf r y.v)] W fun e w'=>Tch [] W w'/\PlG B ((doQ now c r).2.2=c) (fun w'=>x.JO w col w') (fun t w'=>t=(doQ now c r).1/\Sd B x st b w col (doQ now c r).2.1 (doQ now c r).2.2 w') e w':=by
 obtain⟨k,hk,hop⟩:=hr.ops;simp only[opsAt,List.mem_cons,List.not_mem_nil,or_false]at hk;have hdead:∀(f:Nat->QM->Nat->(Nat->Option QM)),(r.op=65\/r.op=69)->doQ now c r=doA now c r f->(∀i num rcv Q,i<8->HanIs r.han i num rcv->c i=some Q->fliesQ Q num rcv=true->Calls Tryz.prog 30 #[.pointer (some ⟨st,0,none⟩),.agg (cellsOf r y.v)] W fun e w'=>Tch [] W w'/\PlG B ((f i Q num)=c) (fun w'=>x.JO w col w') (fun t w'=>t=okL []/\Sd B x st b w col now (f i Q num) w') e w')->
   Calls Tryz.prog 30 #[.pointer (some ⟨st,0,none⟩),.agg (cellsOf r y.v)] W fun e w'=>Tch [] W w'/\PlG B ((doQ now c r).2.2=c) (fun w'=>x.JO w col w') (fun t w'=>t=(doQ now c r).1/\Sd B x st b w col (doQ now c r).2.1 (doQ now c r).2.2 w') e w':=fun f hop' hd hF=>by
  have hsz:=hr.fh (by rcases hop' with e|e<;>rw[e]<;>decide);rw[hd];unfold doA
  cases hh:hanP r.han with
  | none=>exact op_A7 B r x st b now c col w hE hb hop' (by omega) (hanP_none hh) Z o room hs hc W y ht
  | some p=>
   obtain⟨i,num,rcv⟩:=p;obtain⟨hi,hi8⟩:=hanP_some hh;simp only
   cases hQ:c i with
   | none=>exact op_An B r x st b i num rcv now c col w hE hb hop' hi8 hi hQ Z o room hs hc W y ht
   | some Q=>
    simp only
    cases hf:fliesQ Q num rcv with
    | true=>
     rw[if_pos rfl];exact hF i num rcv Q hi8 hi hQ hf
    | false=>
     rw[if_neg (by simp)];exact op_A8 B r x st b i num rcv now c col w hE hb hop' hi8 hi Q hQ hf Z o room hs hc W y ht
 rcases hk with rfl|rfl|rfl|rfl|rfl|rfl|rfl|rfl|rfl|rfl
 ·have ho:r.op=65:=op_eq hop (by decide);refine hdead (fun i Q num=>setC c i (some (dropQ Q num))) (.inl ho) ?_ (fun i num rcv Q hi8 hi hQ hf=>op_A B r x st b i num rcv now c col w hE hb ho hi8 hi Q hQ hf Z o room hs hc W y ht);unfold doQ;rw[ho];rfl
 ·exact absurd hop hnB
 ·have ho:r.op=67:=op_eq hop (by decide);have hq:=hr.fq (by rw[hop];decide);have hqi:r.q.toNat=97+qiR r:=by unfold qiR;omega
  have hi:qiR r<8:=by unfold qiR;omega
  cases hQ:c (qiR r) with
  | none=>
   have e:doQ now c r=(okL [],now,setC c (qiR r) (some (newM r))):=by
    unfold doQ;rw[ho,hQ];rfl
   rw[e];exact op_C B r x st b (qiR r) now c col w hE hb ho hi hqi (hr.fc (by rw[hop])) hQ Z o room hs hc W y ht
  | some Q=>
   have e:doQ now c r=(⟨#[3]⟩,now,c):=by
    unfold doQ;rw[ho,hQ];rfl
   rw[e];exact op_C3 B r x st b (qiR r) now c col w hE hb ho hi hqi Q hQ Z o room hs hc W y ht
 ·have ho:r.op=69:=op_eq hop (by decide);refine hdead (fun i Q num=>extC c i Q num now r.tic) (.inr ho) ?_ (fun i num rcv Q hi8 hi hQ hf=>op_E B r x st b i num rcv now c col w hE hb ho hi8 hi Q hQ hf (hr.ft (.inl (by rw[hop]))) Z o room hs hc W y ht);unfold doQ;rw[ho];rfl
 ·have ho:r.op=80:=op_eq hop (by decide);have hq:=hr.fq (by rw[hop];decide);have hqi:r.q.toNat=97+qiR r:=by unfold qiR;omega
  have hi:qiR r<8:=by unfold qiR;omega
  cases hQ:c (qiR r) with
  | none=>
   have e:doQ now c r=(⟨#[2]⟩,now,c):=by
    unfold doQ;rw[ho,hQ];rfl
   rw[e];exact op_no B r x st b (qiR r) 15 1 now c col w hE hb hop (by decide) (fun _=>rfl) hi hqi hQ Z o room hs hc W y ht
  | some Q=>
   have e:doQ now c r=(okL [],now,setC c (qiR r) (some (purgQ Q))):=by
    unfold doQ;rw[ho,hQ];rfl
   rw[e];exact op_P B r x st b (qiR r) now c col w hE hb ho hi hqi Q hQ Z o room hs hc W y ht
 ·have ho:r.op=82:=op_eq hop (by decide);have hq:=hr.fq (by rw[hop];decide);have hqi:r.q.toNat=97+qiR r:=by unfold qiR;omega
  have hi:qiR r<8:=by unfold qiR;omega
  obtain⟨hmx,hatt⟩:=hr.fr (by rw[hop])
  cases hQ:c (qiR r) with
  | none=>
   have e:doQ now c r=(⟨#[2]⟩,now,c):=by
    unfold doQ;rw[ho,hQ];rfl
   rw[e];exact op_no B r x st b (qiR r) 17 2 now c col w hE hb hop (by decide) (fun _=>rfl) hi hqi hQ Z o room hs hc W y ht
  | some Q=>
   have e:doQ now c r=doR now c (qiR r) Q r:=by
    unfold doQ;rw[ho,hQ];rfl
   rw[e];have hnew:idxL (isA r.att) Q.ats<0->Calls Tryz.prog 30 #[.pointer (some ⟨st,0,none⟩),.agg (cellsOf r y.v)] W fun e w'=>Tch [] W w'/\PlG B ((recvC c (qiR r) Q r.att (min r.mx.toNat Q.rs.length) now)=c) (fun w'=>x.JO w col w') (fun t w'=>t=okL (ansL Q (min r.mx.toNat Q.rs.length) (min r.mx.toNat Q.rs.length))/\Sd B x st b w col now (recvC c (qiR r) Q r.att (min r.mx.toNat Q.rs.length) now) w') e w':=fun hid=>
    op_R B r x st b (qiR r) r.mx.toNat (min r.mx.toNat Q.rs.length) now c col w hE hb ho hi hqi Q hQ hid hatt (by omega) (by omega) (by rw[Nat.min_def]) Z o room hs hc W y ht
   unfold doR
   cases ha:Q.ats[(idxL (isA r.att) Q.ats).toNat]? with
   | none=>
    simp only;refine hnew ?_;have h1:=idxL_lt (isA r.att) Q.ats;have h2:=List.getElem?_eq_none_iff.1 ha;omega
   | some a=>
    simp only
    by_cases hid:0<=idxL (isA r.att) Q.ats
    ·rw[if_pos hid];exact op_Rf B r x st b (qiR r) (idxL (isA r.att) Q.ats).toNat now c col w hE hb ho hi hqi Q hQ (Int.toNat_of_nonneg hid).symm a ha Z o room hs hc W y ht
    ·rw[if_neg hid];exact hnew (by omega)
 ·have ho:r.op=83:=op_eq hop (by decide);have hq:=hr.fq (by rw[hop];decide);have hqi:r.q.toNat=97+qiR r:=by unfold qiR;omega
  have hi:qiR r<8:=by unfold qiR;omega
  obtain⟨hgrp,hded,hbod⟩:=hr.fs (by rw[hop])
  cases hQ:c (qiR r) with
  | none=>
   have e:doQ now c r=(⟨#[2]⟩,now,c):=by
    unfold doQ;rw[ho,hQ];rfl
   rw[e];exact op_no B r x st b (qiR r) 18 3 now c col w hE hb hop (by decide) (fun _=>rfl) hi hqi hQ Z o room hs hc W y ht
  | some Q=>
   have e:doQ now c r=doS now c (qiR r) Q r:=by
    unfold doQ;rw[ho,hQ];rfl
   rw[e];unfold doS
   by_cases hb40:40<r.bod.size
   ·rw[if_pos hb40];exact op_Sb B r x st b (qiR r) now c col w hE hb ho hi hqi Q hQ ⟨hb40,by omega⟩ Z o room hs hc W y ht
   ·rw[if_neg hb40]
    by_cases hid:0<=idxL (isI (didS r)) Q.ds
    ·rw[if_pos hid];have hlt:=idxL_lt (isI (didS r)) Q.ds;have hpl:(idxL (isI (didS r)) Q.ds).toNat<Q.ds.length:=by omega
     have hW:=hb.wf (qiR r) Q hi hQ;have hnm:=(hW.dok _ (List.getElem_mem hpl)).2.1;rw[List.getElem?_eq_getElem hpl];exact op_Sf B r x st b (qiR r) (idxL (isI (didS r)) Q.ds).toNat _ now c col w hE hb ho hi hqi Q hQ (by omega) (Int.toNat_of_nonneg hid).symm hpl (by show _=((Q.ds[(idxL (isI (didS r)) Q.ds).toNat].num.toNat:Nat):Int);omega) Z o room hs hc W y ht
    ·rw[if_neg hid]
     by_cases hqu:Q.c.quo<=(Q.ms.length:Int)
     ·rw[if_pos hqu];exact op_Sr B r x st b (qiR r) now c col w hE hb ho hi hqi Q hQ (by omega) (by omega) 5 (.inl ⟨rfl,hqu⟩) Z o room hs hc W y ht
     ·rw[if_neg hqu]
      by_cases hnx:200<Q.next
      ·rw[if_pos hnx];exact op_Sr B r x st b (qiR r) now c col w hE hb ho hi hqi Q hQ (by omega) (by omega) 6 (.inr ⟨rfl,by omega,hnx⟩) Z o room hs hc W y ht
      ·rw[if_neg hnx];exact op_S B r x st b (qiR r) now c col w hE hb ho hi hqi Q hQ (by omega) (by omega) hgrp hded (by omega) (by omega) Z o room hs hc W y ht
 ·have ho:r.op=84:=op_eq hop (by decide);have htc:=hr.ft (.inr (by rw[hop]))
  by_cases hl:60000<now+r.tic
  ·have e:doQ now c r=(⟨#[9]⟩,now,c):=by
    unfold doQ;rw[ho,if_pos rfl,if_pos hl]
   rw[e];exact op_T9 B r x st b now c col w hE hb ho ⟨htc.1,htc.2,hl⟩ Z o room hs hc W y ht
  ·have e:doQ now c r=(okL [],now+r.tic,timeC (now+r.tic) c):=by
    unfold doQ;rw[ho,if_pos rfl,if_neg hl]
   rw[e];exact op_T B r x st b now c col w hE hb ho ⟨htc.1,by omega⟩ Z o room hs hc W y ht
 ·have ho:r.op=86:=op_eq hop (by decide);have hq:=hr.fq (by rw[hop];decide);have hqi:r.q.toNat=97+qiR r:=by unfold qiR;omega
  have hi:qiR r<8:=by unfold qiR;omega
  cases hQ:c (qiR r) with
  | none=>
   have e:doQ now c r=(⟨#[2]⟩,now,c):=by
    unfold doQ;rw[ho,hQ];rfl
   rw[e];exact op_no B r x st b (qiR r) 21 4 now c col w hE hb hop (by decide) (fun _=>rfl) hi hqi hQ Z o room hs hc W y ht
  | some Q=>
   have e:doQ now c r=(okL (allB Q),now,c):=by
    unfold doQ;rw[ho,hQ];rfl
   rw[e];exact op_V B r x st b (qiR r) now c col w hE hb ho hi hqi Q hQ Z o room hs hc W y ht
 ·have ho:r.op=88:=op_eq hop (by decide);have hq:=hr.fq (by rw[hop];decide);have hqi:r.q.toNat=97+qiR r:=by unfold qiR;omega
  have hi:qiR r<8:=by unfold qiR;omega
  cases hQ:c (qiR r) with
  | none=>
   have e:doQ now c r=(⟨#[2]⟩,now,c):=by
    unfold doQ;rw[ho,hQ];rfl
   rw[e];exact op_X2 B r x st b (qiR r) now c col w hE hb ho hi hqi hQ Z o room hs hc W y ht
  | some Q=>
   have e:doQ now c r=(okL [],now,setC c (qiR r) none):=by
    unfold doQ;rw[ho,hQ];rfl
   rw[e];exact op_X B r x st b (qiR r) now c col w hE hb ho hi hqi Q hQ Z o room hs hc W y ht
theorem lay_15:∀i∈opsAt,∀f∈Wp.lay i,f<15:=by decide
theorem lay_6:∀i∈opsAt,(Wp.lay i).length<=6:=by decide
theorem lay_14:∀i∈opsAt,i≠1->∀f∈Wp.lay i,f≠14:=by decide
theorem eb_id (x:Sl):∀(fs:List Nat),(∀f∈fs,f≠14)->ebAll x fs=x
 | [],_=>rfl
 | f::fs,h=>by
  show ebAll (eb x f) fs=x
  have e:eb x f=x:=if_neg (h f List.mem_cons_self);rw[e];exact eb_id x fs (fun g hg=>h g (List.mem_cons_of_mem _ hg))
theorem good_size (s:ByteArray)(hg:parseGood s=true):s.size<=90000:=by
 obtain⟨h1,h2,h3⟩:=good_bytes s hg;obtain⟨i,hi,hop,hf,_,_⟩:=(right_iff _ _ _ (end_wf s)).1 h3;have hl:=List.all_eq_true.1 hf;have h4:=flt_len (encF (endSt s).r (endSt s).bs) 2600 (Wp.lay i) (fun f hm=>encF_length _ _ f (lay_15 i hi f hm) (hl f hm));have h6:=lay_6 i hi;rw[hop,Nat.add_sub_cancel_left]at h1;have h5:=congrArg ByteArray.size h1;rw[BA_size,List.length_cons]at h5;have h7:(encL (endSt s).r (endSt s).bs (Wp.lay i)).length<=2600*(Wp.lay i).length:=h4;omega
theorem good_right (s:ByteArray)(hg:parseGood s=true)(hnB:(endSt s).r.op.toNat≠66):rightW (endSt s).r nil0 (Wp.short [])=true/\printS (endSt s).r nil0 []=s:=by
 obtain⟨h1,h2,h3⟩:=good_bytes s hg;obtain⟨i,hi,hop,hf,he,hn⟩:=(right_iff _ _ _ (end_wf s)).1 h3;have h1i:i≠1:=fun e=>hnB (by rw[hop,e])
 rw[eb_id _ _ (lay_14 i hi h1i)]at hn;have hbs:(endSt s).bs=[]:=List.length_eq_zero_iff.1 hn;have h4:=(print_of_good s nil0 hg (by rw[hbs];rfl)).1;rw[hbs]at h3 h4;exact⟨h3,h4⟩
theorem own0 {base t:Nat}(h:w.ownsRow base t size v n xs):w.ownsRow 0 t size v n xs:=⟨h.1,h.2.imp id (fun ⟨g,cap,cur,a,_,r⟩=>⟨g,cap,cur,a,Nat.zero_le _,r⟩)⟩
theorem blk_st {qb o:Nat}{C C':Array Value}{t:TypeId}(h:w.heap[qb]?=some (.cells C t (0,0)))(v:Value)(hC:C.setIfInBounds o v=C'):(w.setCell ⟨qb,o,none⟩ v).heap[qb]?=some (.cells C' t (0,0)):=by
 rw[<-hC];exact heap_setCell_same w qb o C t v h
def ClOut (te:TypeId)(size n:Nat)(xs:List Value)(w:World)(e:Ending)(w':World):Prop:=∃v',e=.returned v'/\w'.ownsRow 0 te size v' n xs/\(∀k,v'.ownBlock=some k->w.heap.size<=k)/\Tch [] w w'
theorem cl_nil (h:w.ownsRow 0 te size (.slice none 0 0) n xs)(h0:n=0):ClOut te size n xs w (.returned (.slice none 0 0)) w:=⟨_,rfl,h,fun k hk=>by simp[Value.ownBlock]at hk,Tch.refl _ _⟩
theorem cl_row {w2:World}(ho:w2.ownsRow w.heap.size te size v n xs)(hg:(w.alloc (.cells #[] te)).grownBy w2 (some w.heap.size)):ClOut te size n xs w (.returned v) w2:=by
 refine⟨v,rfl,own0 ho,fun k hk=>(ho.lt k hk).1,((Tch.refl [] w).alloc _).grown hg (fun k hk hl=>?_)⟩
 simp at hk;omega
theorem cloneM (v:Value)(n:Nat)(xs:List Value)(w:World)(h:w.ownsRow 0 191 5 v n xs)(h1:∀u∈xs,u.oneCell'=true)(hn:n<=1000000):Calls Tryz.prog 203 #[v] w (ClOut 191 5 n xs w):=by
 obtain⟨i0,hi,hz0,hz1,hz2⟩:=info_parts info214;have q:∀(w:World) (a:Option Addr) (n c n' c':Nat),(binOp .eql 133 (.slice a n c) (.slice none n' c')).run Tryz.prog w=.ok (.bool a.isNone) w:=fun w a n c n' c'=>Lib.run_eql_slice_nil w _ _ a n c n' c' Tryz.underlying133
 rcases id h.2 with ⟨e0,e1⟩|⟨g,cap,cur,rfl,_⟩
 ·subst e0;have HF:=zH (cl_nil h e1);clear h;go_enter Tryz.func203,Tryz.ntmps203;go_wp2_with fail;go_ret;exact HF.out
 ·have HC:=zH (h.cells rfl);have hl:=h.1;clear h;go_enter Tryz.func203,Tryz.ntmps203;go_wp2_with (at_builtin;refine wpList_append_own _ rfl _ _ 133 rfl w.heap.size 191 i0 _ 5 _ Tryz.underlying133 hi hz0 hz1 hz2 rfl (by decide) _ _ _ rfl (World.ownsRow_made w #[] 0 (Nat.le_refl _) (Nat.zero_le _) (by simp)) ⟨g,0,none⟩ n cap xs rfl hl (fun j u hu=>Lib.cell?_alloc_some _ (HC.out j u hu)) h1 (by unfold maxLen;omega) (by omega) (by simp) ?_);intro v' w1 ho hg _;have HF:=zH (cl_row ho hg);clear ho hg;go_wp2_with fail;go_ret;exact HF.out
theorem cloneR (v:Value)(n:Nat)(xs:List Value)(w:World)(h:w.ownsRow 0 9 1 v n xs)(h1:∀u∈xs,u.oneCell'=true)(hn:n<=1000000):Calls Tryz.prog 204 #[v] w (ClOut 9 1 n xs w):=by
 obtain⟨i0,hi,hz0,hz1,hz2⟩:=info_parts info9;have q:∀(w:World) (a:Option Addr) (n c n' c':Nat),(binOp .eql 22 (.slice a n c) (.slice none n' c')).run Tryz.prog w=.ok (.bool a.isNone) w:=fun w a n c n' c'=>Lib.run_eql_slice_nil w _ _ a n c n' c' Tryz.underlying22
 rcases id h.2 with ⟨e0,e1⟩|⟨g,cap,cur,rfl,_⟩
 ·subst e0;have HF:=zH (cl_nil h e1);clear h;go_enter Tryz.func204,Tryz.ntmps204;go_wp2_with fail;go_ret;exact HF.out
 ·have HC:=zH (h.cells rfl);have hl:=h.1;clear h;go_enter Tryz.func204,Tryz.ntmps204;go_wp2_with (at_builtin;refine wpList_append_own _ rfl _ _ 22 rfl w.heap.size 9 i0 _ 1 _ Tryz.underlying22 hi hz0 hz1 hz2 rfl (by decide) _ _ _ rfl (World.ownsRow_made w #[] 0 (Nat.le_refl _) (Nat.zero_le _) (by simp)) ⟨g,0,none⟩ n cap xs rfl hl (fun j u hu=>Lib.cell?_alloc_some _ (HC.out j u hu)) h1 (by unfold maxLen;omega) (by omega) (by simp) ?_);intro v' w1 ho hg _;have HF:=zH (cl_row ho hg);clear ho hg;go_wp2_with fail;go_ret;exact HF.out
theorem cloneD (v:Value)(n:Nat)(xs:List Value)(w:World)(h:w.ownsRow 0 195 3 v n xs)(h1:∀u∈xs,u.oneCell'=true)(hn:n<=1000000):Calls Tryz.prog 205 #[v] w (ClOut 195 3 n xs w):=by
 obtain⟨i0,hi,hz0,hz1,hz2⟩:=info_parts info219;have q:∀(w:World) (a:Option Addr) (n c n' c':Nat),(binOp .eql 134 (.slice a n c) (.slice none n' c')).run Tryz.prog w=.ok (.bool a.isNone) w:=fun w a n c n' c'=>Lib.run_eql_slice_nil w _ _ a n c n' c' Tryz.underlying134
 rcases id h.2 with ⟨e0,e1⟩|⟨g,cap,cur,rfl,_⟩
 ·subst e0;have HF:=zH (cl_nil h e1);clear h;go_enter Tryz.func205,Tryz.ntmps205;go_wp2_with fail;go_ret;exact HF.out
 ·have HC:=zH (h.cells rfl);have hl:=h.1;clear h;go_enter Tryz.func205,Tryz.ntmps205;go_wp2_with (at_builtin;refine wpList_append_own _ rfl _ _ 134 rfl w.heap.size 195 i0 _ 3 _ Tryz.underlying134 hi hz0 hz1 hz2 rfl (by decide) _ _ _ rfl (World.ownsRow_made w #[] 0 (Nat.le_refl _) (Nat.zero_le _) (by simp)) ⟨g,0,none⟩ n cap xs rfl hl (fun j u hu=>Lib.cell?_alloc_some _ (HC.out j u hu)) h1 (by unfold maxLen;omega) (by omega) (by simp) ?_);intro v' w1 ho hg _;have HF:=zH (cl_row ho hg);clear ho hg;go_wp2_with fail;go_ret;exact HF.out
theorem cloneA (v:Value)(n:Nat)(xs:List Value)(w:World)(h:w.ownsRow 0 199 3 v n xs)(h1:∀u∈xs,u.oneCell'=true)(hn:n<=1000000):Calls Tryz.prog 206 #[v] w (ClOut 199 3 n xs w):=by
 obtain⟨i0,hi,hz0,hz1,hz2⟩:=info_parts info234;have q:∀(w:World) (a:Option Addr) (n c n' c':Nat),(binOp .eql 135 (.slice a n c) (.slice none n' c')).run Tryz.prog w=.ok (.bool a.isNone) w:=fun w a n c n' c'=>Lib.run_eql_slice_nil w _ _ a n c n' c' Tryz.underlying135
 rcases id h.2 with ⟨e0,e1⟩|⟨g,cap,cur,rfl,_⟩
 ·subst e0;have HF:=zH (cl_nil h e1);clear h;go_enter Tryz.func206,Tryz.ntmps206;go_wp2_with fail;go_ret;exact HF.out
 ·have HC:=zH (h.cells rfl);have hl:=h.1;clear h;go_enter Tryz.func206,Tryz.ntmps206;go_wp2_with (at_builtin;refine wpList_append_own _ rfl _ _ 135 rfl w.heap.size 199 i0 _ 3 _ Tryz.underlying135 hi hz0 hz1 hz2 rfl (by decide) _ _ _ rfl (World.ownsRow_made w #[] 0 (Nat.le_refl _) (Nat.zero_le _) (by simp)) ⟨g,0,none⟩ n cap xs rfl hl (fun j u hu=>Lib.cell?_alloc_some _ (HC.out j u hu)) h1 (by unfold maxLen;omega) (by omega) (by simp) ?_);intro v' w1 ho hg _;have HF:=zH (cl_row ho hg);clear ho hg;go_wp2_with fail;go_ret;exact HF.out
theorem inner_yes (op:Int)(w:World)(h:op=83\/op=65\/op=69):zE 185 #[.int .u8 op] w (.bool true):=by
 rcases h with rfl|rfl|rfl
 all_goals
  go_enter Tryz.func185,Tryz.ntmps185;go_wp2_with fail;go_ret;exact⟨rfl,rfl⟩
theorem inner_no (op:Int)(w:World)(h1:op≠83)(h2:op≠65)(h3:op≠69):zE 185 #[.int .u8 op] w (.bool false):=by
 have e1:(op == 83)=false:=beq_eq_false_iff_ne.2 h1;have e2:(op == 65)=false:=beq_eq_false_iff_ne.2 h2;have e3:(op == 69)=false:=beq_eq_false_iff_ne.2 h3;go_enter Tryz.func185,Tryz.ntmps185;go_wp2_with fail;go_ret;exact⟨rfl,rfl⟩
theorem one_flat {α:Type}(f:α->List Value)(h:∀a,∀u∈f a,u.oneCell'=true)(l:List α):∀u∈l.flatMap f,u.oneCell'=true:=fun u hu=>by
 obtain⟨a,_,ha⟩:=List.mem_flatMap.1 hu;exact h a u ha
theorem info191:(Tryz.prog.info? 137).map (·.size)=some 11:=by kernel_rfl
theorem qcopy_any (Q:QM)(V:QV)(qb:Nat)(w:World)(h:QR w qb V Q)(hm:Q.ms.length<=1000000)(hr:Q.rs.length<=1000000)(hd:Q.ds.length<=1000000)(ha:Q.ats.length<=1000000):
  Calls Tryz.prog 184 #[.pointer (some ⟨qb,0,none⟩)] w fun e w'=>∃qb' V',e=.returned (.pointer (some ⟨qb',0,none⟩))/\QR w' qb' V' Q/\(∀k∈qbl qb' V',w.heap.size<=k)/\Tch [] w w':=by
 have HCM:Hid (∀W,Tch [] w W->Calls Tryz.prog 203 #[V.m] W (ClOut 191 5 Q.ms.length (Q.ms.flatMap Ms.row) W)):=fun W ht=>cloneM _ _ _ W (own_tch h.m ht (by simp)) (one_flat _ (fun a u hu=>by simp[Ms.row]at hu;rcases hu with rfl|rfl|rfl|rfl|rfl<;>rfl) _) hm
 have HCR:Hid (∀W,Tch [] w W->Calls Tryz.prog 204 #[V.r] W (ClOut 9 1 Q.rs.length (Q.rs.map Value.string) W)):=fun W ht=>cloneR _ _ _ W (own_tch h.r ht (by simp)) (fun u hu=>by obtain⟨a,_,rfl⟩:=List.mem_map.1 hu;rfl) hr
 have HCD:Hid (∀W,Tch [] w W->Calls Tryz.prog 205 #[V.d] W (ClOut 195 3 Q.ds.length (Q.ds.flatMap Dd.row) W)):=fun W ht=>cloneD _ _ _ W (own_tch h.d ht (by simp)) (one_flat _ (fun a u hu=>by simp[Dd.row]at hu;rcases hu with rfl|rfl|rfl<;>rfl) _) hd
 have HCA:Hid (∀W,Tch [] w W->Calls Tryz.prog 206 #[V.a] W (ClOut 199 3 Q.ats.length (Q.ats.flatMap At.row) W)):=fun W ht=>cloneA _ _ _ W (own_tch h.a ht (by simp)) (one_flat _ (fun a u hu=>by simp[At.row]at hu;rcases hu with rfl|rfl|rfl<;>rfl) _) ha
 obtain⟨c,nx,ms,rs,ds,ats⟩:=Q;obtain⟨vm,vr,vd,va⟩:=V;have hblk:w.heap[qb]?=some (.cells (qC c (nx:Int) vm vr vd va) 137 (0,0)):=h.blk;obtain⟨am,cm,em⟩:=own_shape h.m;obtain⟨ar,cr,er⟩:=own_shape h.r;obtain⟨ad,cd,ed⟩:=own_shape h.d;obtain⟨aa,ca,ea⟩:=own_shape h.a;simp only at em er ed ea;subst em er ed ea;clear h hm hr hd ha;have HQ:Hid (∀W,Tch [] w W->W.cell? ⟨qb,7,none⟩=some (.slice am ms.length cm)/\W.cell? ⟨qb,8,none⟩=some (.slice ar rs.length cr)/\W.cell? ⟨qb,9,none⟩=some (.slice ad ds.length cd)/\W.cell? ⟨qb,10,none⟩=some (.slice aa ats.length ca)/\qb<W.heap.size):=fun W ht=>by
  have hb:=(ht.block _ (lt_of_block hblk) (by simp)).trans hblk;exact⟨cell_qC hb 7 _ rfl,cell_qC hb 8 _ rfl,cell_qC hb 9 _ rfl,cell_qC hb 10 _ rfl,lt_of_block hb⟩
 have HG:Hid (∀(W:World) (a b d e:Value),W.heap[w.heap.size]?=some (.cells (qC c (nx:Int) a b d e) 137 (0,0))->(W.cell? ⟨w.heap.size,7,none⟩=some a/\W.cell? ⟨w.heap.size,8,none⟩=some b/\W.cell? ⟨w.heap.size,9,none⟩=some d/\W.cell? ⟨w.heap.size,10,none⟩=some e)/\(∀j,W.frozen? ⟨w.heap.size,j,none⟩=false)/\w.heap.size<W.heap.size):=fun W a b d e hb=>⟨⟨cell_qC hb 7 _ rfl,cell_qC hb 8 _ rfl,cell_qC hb 9 _ rfl,cell_qC hb 10 _ rfl⟩,fun j=>frozen_of_row W _ j _ 137 hb,lt_of_block hb⟩
 obtain⟨w1,hw1⟩:∃w1,w1=(w.alloc (.cells #[.int .u8 0,.int .u8 0,.int .i64 0,.int .i64 0,.int .i64 0,.int .i64 0,.int .i64 0,.slice none 0 0,.slice none 0 0,.slice none 0 0,.slice none 0 0] 137)).setRow w.heap.size (qC c (nx:Int) (.slice am ms.length cm) (.slice ar rs.length cr) (.slice ad ds.length cd) (.slice aa ats.length ca)):=⟨_,rfl⟩;have HB1:Hid (w1.heap[w.heap.size]?=some (.cells (qC c (nx:Int) (.slice am ms.length cm) (.slice ar rs.length cr) (.slice ad ds.length cd) (.slice aa ats.length ca)) 137 (0,0))):=by
  show _=_
  rw[hw1];exact setRow_heap _ _ _ _ 137 (0,0) (heap_alloc_new _ _)
 have HT1:Hid (Tch [] w w1):=by
  show Tch _ _ _
  rw[hw1];exact((Tch.refl _ _).alloc _).setRow (fun h=>absurd h (Nat.lt_irrefl _)) _
 have hone:(qC c (nx:Int) (.slice am ms.length cm) (.slice ar rs.length cr) (.slice ad ds.length cd) (.slice aa ats.length ca)).all (·.oneCell')=true:=by simp[qC,Value.oneCell']
 have HW1:=zH hw1;obtain⟨⟨p7,p8,p9,p10⟩,pz,pl⟩:=HG.out w1 _ _ _ _ HB1.out;obtain⟨q7,q8,q9,q10,ql⟩:=HQ.out w1 HT1.out;clear hw1;go_enter Tryz.func184,Tryz.ntmps184;go_wp2_with (first|(refine wpList_load_row rfl 137 _ rfl qb rfl 137 (qC c (nx:Int) (.slice am ms.length cm) (.slice ar rs.length cr) (.slice ad ds.length cd) (.slice aa ats.length ca)) (0,0) _ hblk Tryz.underlying137 rfl info191 ?_)|(refine wpList_store_row rfl 137 _ _ rfl w.heap.size (qC c (nx:Int) (.slice am ms.length cm) (.slice ar rs.length cr) (.slice ad ds.length cd) (.slice aa ats.length ca)) rfl rfl 137 _ (heap_alloc_new _ _) info191 rfl hone ?_;rw[<-HW1.out]));refine(HCM.out w1 HT1.out).mono ?_;rintro e u1 ⟨v,rfl,ho,hk,ht⟩;obtain⟨b1,c1,rfl⟩:=own_shape ho;have HO1:=zH ho;have HK1:Hid (∀k,(Value.slice b1 ms.length c1).ownBlock=some k->w.heap.size<k):=fun k h=>Nat.lt_of_lt_of_le pl (hk k h)
 have HU1:Hid (Tch [] w u1):=HT1.out.trans ht (by simp);have HV1:Hid (u1.heap[w.heap.size]?=_):=(ht.block _ pl (by simp)).trans HB1.out;clear p7 p8 p9 p10 pz pl q7 q8 q9 q10 ql ho hk ht HCM;obtain⟨⟨p7,p8,p9,p10⟩,pz,pl⟩:=HG.out u1 _ _ _ _ HV1.out;obtain⟨q7,q8,q9,q10,ql⟩:=HQ.out u1 HU1.out;have p:=pz 7;obtain⟨w2,hw⟩:∃w2,w2=u1.setCell ⟨w.heap.size,7,none⟩ (.slice b1 ms.length c1):=⟨_,rfl⟩;have HS1:Hid (Tch [w.heap.size] u1 w2):=by
  show Tch _ _ _
  rw[hw];exact(Tch.refl _ _).setCell (fun _=>by simp) _
 have HB2:Hid (w2.heap[w.heap.size]?=some (.cells (qC c (nx:Int) (.slice b1 ms.length c1) (.slice ar rs.length cr) (.slice ad ds.length cd) (.slice aa ats.length ca)) 137 (0,0))):=by
  show _=_
  rw[hw];exact blk_st HV1.out _ rfl
 have HT2:Hid (Tch [] w w2):=by
  show Tch _ _ _
  rw[hw];exact HU1.out.setCell (fun h=>absurd h (Nat.lt_irrefl _)) _
 have HW2:=zH hw;clear hw;go_wp2_with (rw[<-HW2.out];clear p p7 p8 p9 p10 pz pl q7 q8 q9 q10 ql;obtain⟨⟨p7,p8,p9,p10⟩,pz,pl⟩:=HG.out w2 _ _ _ _ HB2.out;obtain⟨q7,q8,q9,q10,ql⟩:=HQ.out w2 HT2.out);refine(HCR.out w2 HT2.out).mono ?_;rintro e u2 ⟨v,rfl,ho,hk,ht⟩;obtain⟨b2,c2,rfl⟩:=own_shape ho;have HO2:=zH ho;have HK2:Hid (∀k,(Value.slice b2 rs.length c2).ownBlock=some k->w.heap.size<k):=fun k h=>Nat.lt_of_lt_of_le pl (hk k h)
 have HU2:Hid (Tch [] w u2):=HT2.out.trans ht (by simp);have HX2:Hid (Tch [w.heap.size] w2 u2):=ht.sub (by simp);have HV2:Hid (u2.heap[w.heap.size]?=_):=(ht.block _ pl (by simp)).trans HB2.out;clear p7 p8 p9 p10 pz pl q7 q8 q9 q10 ql ho hk ht HCR;obtain⟨⟨p7,p8,p9,p10⟩,pz,pl⟩:=HG.out u2 _ _ _ _ HV2.out;obtain⟨q7,q8,q9,q10,ql⟩:=HQ.out u2 HU2.out;have p:=pz 8;obtain⟨w3,hw⟩:∃w3,w3=u2.setCell ⟨w.heap.size,8,none⟩ (.slice b2 rs.length c2):=⟨_,rfl⟩;have HS2:Hid (Tch [w.heap.size] u2 w3):=by
  show Tch _ _ _
  rw[hw];exact(Tch.refl _ _).setCell (fun _=>by simp) _
 have HB3:Hid (w3.heap[w.heap.size]?=some (.cells (qC c (nx:Int) (.slice b1 ms.length c1) (.slice b2 rs.length c2) (.slice ad ds.length cd) (.slice aa ats.length ca)) 137 (0,0))):=by
  show _=_
  rw[hw];exact blk_st HV2.out _ rfl
 have HT3:Hid (Tch [] w w3):=by
  show Tch _ _ _
  rw[hw];exact HU2.out.setCell (fun h=>absurd h (Nat.lt_irrefl _)) _
 have HW3:=zH hw;clear hw;go_wp2_with (rw[<-HW3.out];clear p p7 p8 p9 p10 pz pl q7 q8 q9 q10 ql;obtain⟨⟨p7,p8,p9,p10⟩,pz,pl⟩:=HG.out w3 _ _ _ _ HB3.out;obtain⟨q7,q8,q9,q10,ql⟩:=HQ.out w3 HT3.out);refine(HCD.out w3 HT3.out).mono ?_;rintro e u3 ⟨v,rfl,ho,hk,ht⟩;obtain⟨b3,c3,rfl⟩:=own_shape ho;have HO3:=zH ho;have HK3:Hid (∀k,(Value.slice b3 ds.length c3).ownBlock=some k->w.heap.size<k):=fun k h=>Nat.lt_of_lt_of_le pl (hk k h)
 have HU3:Hid (Tch [] w u3):=HT3.out.trans ht (by simp);have HX3:Hid (Tch [w.heap.size] w3 u3):=ht.sub (by simp);have HV3:Hid (u3.heap[w.heap.size]?=_):=(ht.block _ pl (by simp)).trans HB3.out;clear p7 p8 p9 p10 pz pl q7 q8 q9 q10 ql ho hk ht HCD;obtain⟨⟨p7,p8,p9,p10⟩,pz,pl⟩:=HG.out u3 _ _ _ _ HV3.out;obtain⟨q7,q8,q9,q10,ql⟩:=HQ.out u3 HU3.out;have p:=pz 9;obtain⟨w4,hw⟩:∃w4,w4=u3.setCell ⟨w.heap.size,9,none⟩ (.slice b3 ds.length c3):=⟨_,rfl⟩;have HS3:Hid (Tch [w.heap.size] u3 w4):=by
  show Tch _ _ _
  rw[hw];exact(Tch.refl _ _).setCell (fun _=>by simp) _
 have HB4:Hid (w4.heap[w.heap.size]?=some (.cells (qC c (nx:Int) (.slice b1 ms.length c1) (.slice b2 rs.length c2) (.slice b3 ds.length c3) (.slice aa ats.length ca)) 137 (0,0))):=by
  show _=_
  rw[hw];exact blk_st HV3.out _ rfl
 have HT4:Hid (Tch [] w w4):=by
  show Tch _ _ _
  rw[hw];exact HU3.out.setCell (fun h=>absurd h (Nat.lt_irrefl _)) _
 have HW4:=zH hw;clear hw;go_wp2_with (rw[<-HW4.out];clear p p7 p8 p9 p10 pz pl q7 q8 q9 q10 ql;obtain⟨⟨p7,p8,p9,p10⟩,pz,pl⟩:=HG.out w4 _ _ _ _ HB4.out;obtain⟨q7,q8,q9,q10,ql⟩:=HQ.out w4 HT4.out);refine(HCA.out w4 HT4.out).mono ?_;rintro e u4 ⟨v,rfl,ho,hk,ht⟩;obtain⟨b4,c4,rfl⟩:=own_shape ho;have HO4:=zH ho;have HK4:Hid (∀k,(Value.slice b4 ats.length c4).ownBlock=some k->w.heap.size<k):=fun k h=>Nat.lt_of_lt_of_le pl (hk k h)
 have HU4:Hid (Tch [] w u4):=HT4.out.trans ht (by simp);have HX4:Hid (Tch [w.heap.size] w4 u4):=ht.sub (by simp);have HV4:Hid (u4.heap[w.heap.size]?=_):=(ht.block _ pl (by simp)).trans HB4.out;clear p7 p8 p9 p10 pz pl q7 q8 q9 q10 ql ho hk ht HCA;obtain⟨⟨p7,p8,p9,p10⟩,pz,pl⟩:=HG.out u4 _ _ _ _ HV4.out;obtain⟨q7,q8,q9,q10,ql⟩:=HQ.out u4 HU4.out;have p:=pz 10;obtain⟨w5,hw⟩:∃w5,w5=u4.setCell ⟨w.heap.size,10,none⟩ (.slice b4 ats.length c4):=⟨_,rfl⟩;have HS4:Hid (Tch [w.heap.size] u4 w5):=by
  show Tch _ _ _
  rw[hw];exact(Tch.refl _ _).setCell (fun _=>by simp) _
 have HB5:Hid (w5.heap[w.heap.size]?=some (.cells (qC c (nx:Int) (.slice b1 ms.length c1) (.slice b2 rs.length c2) (.slice b3 ds.length c3) (.slice b4 ats.length c4)) 137 (0,0))):=by
  show _=_
  rw[hw];exact blk_st HV4.out _ rfl
 have HT5:Hid (Tch [] w w5):=by
  show Tch _ _ _
  rw[hw];exact HU4.out.setCell (fun h=>absurd h (Nat.lt_irrefl _)) _
 have HW5:=zH hw;clear hw;go_wp2_with (rw[<-HW5.out];clear p p7 p8 p9 p10 pz pl q7 q8 q9 q10 ql;obtain⟨⟨p7,p8,p9,p10⟩,pz,pl⟩:=HG.out w5 _ _ _ _ HB5.out;obtain⟨q7,q8,q9,q10,ql⟩:=HQ.out w5 HT5.out);go_ret;have k4:=HS4.out;have k3:=(HS3.out.trans HX4.out (fun _ h _=>h)).trans k4 (fun _ h _=>h);have k2:=(HS2.out.trans HX3.out (fun _ h _=>h)).trans k3 (fun _ h _=>h);have k1:=(HS1.out.trans HX2.out (fun _ h _=>h)).trans k2 (fun _ h _=>h);have nn:∀{v:Value},(∀k,v.ownBlock=some k->w.heap.size<k)->∀k,v.ownBlock=some k->k∉[w.heap.size]:=fun hv k hk hm=>by
  have:=hv k hk;simp at hm;omega
 refine⟨w.heap.size,⟨_,_,_,_⟩,rfl,⟨HB5.out,own_tch HO1.out k1 (nn HK1.out),own_tch HO2.out k2 (nn HK2.out),own_tch HO3.out k3 (nn HK3.out),own_tch HO4.out k4 (nn HK4.out)⟩,fun k hk=>?_,HT5.out⟩
 rcases mem_qbl.1 hk with e|e|e|e|e
 ·omega
 ·exact Nat.le_of_lt (HK1.out k e)
 ·exact Nat.le_of_lt (HK2.out k e)
 ·exact Nat.le_of_lt (HK3.out k e)
 ·exact Nat.le_of_lt (HK4.out k e)
end Go.Proofs.YtbdobaapadlcjabGreatDoor
