import Derived.Test.YtbdobaapadlcjabGreatDoorHy20
set_option maxRecDepth 8000
set_option maxHeartbeats 2000000
set_option linter.unusedVariables false
set_option linter.unusedSimpArgs false
namespace Go.Proofs.YtbdobaapadlcjabGreatDoor
open Go.RowKit
variable {ms:List Ms}{m:Ms}{i qb:Nat}{Q:QM}{til num:Int}{V:QV}
theorem find_first {p:Ms->Bool}:∀(l:List Ms),Ups l->∀x,l.find? p=some x->∀y∈l,p y=true->x.num<=y.num
 | [],_,x,h,_,_,_=>by simp at h
 | a::r,hu,x,h,y,hy,hp=>by
  obtain⟨h1,h2⟩:=List.pairwise_cons.1 hu
  by_cases ha:p a=true
  ·rw[List.find?_cons,ha]at h;injection h with h;subst h;rcases List.mem_cons.1 hy with rfl|hy
   ·omega
   ·have:=h1 y hy;omega
  ·have ha':p a=false:=by simpa using ha
   rw[List.find?_cons,ha']at h;rcases List.mem_cons.1 hy with rfl|hy
   ·exact absurd hp ha
   ·exact find_first r h2 x h y hy hp
def isHead (ms:List Ms)(m:Ms):Bool:=(ms.find? (isG m.grp)).map Ms.num == some m.num
theorem isHead_find (hu:Ups ms){m:Ms}(hm:m∈ms):isHead ms m=true↔ms.find? (isG m.grp)=some m:=by
 unfold isHead;rw[beq_iff_eq];constructor
 ·intro h;obtain⟨x,h1,h2⟩:=Option.map_eq_some_iff.1 h;rw[h1,num_inj hu (List.mem_of_find?_eq_some h1) hm h2]
 ·intro h;rw[h];rfl
theorem isHead_iff (hu:Ups ms){m:Ms}(hm:m∈ms):isHead ms m=true↔∀y∈ms,y.grp=m.grp->m.num<=y.num:=by
 rw[isHead_find hu hm];constructor
 ·intro h y hy he;exact find_first ms hu m h y hy ((isG_iff _ _).2 he)
 ·intro h
  cases hf:ms.find? (isG m.grp) with
  | none=>exact absurd ((isG_iff m.grp m).2 rfl) (List.find?_eq_none.1 hf m hm)
  | some x=>
   have h1:=find_first ms hu x hf m hm ((isG_iff _ _).2 rfl);have h2:=List.mem_of_find?_eq_some hf;have h3:=(isG_iff _ _).1 (List.find?_some hf);have h4:=h x h2 h3;rw[num_inj hu h2 hm (by omega)]
def inG (gs:List ByteArray)(m:Ms):Bool:=gs.any (fun g=>isG g m)
theorem inG_iff (gs:List ByteArray)(m:Ms):inG gs m=true↔m.grp∈gs:=by
 unfold inG;rw[List.any_eq_true];constructor
 ·rintro ⟨g,hg,he⟩;rw[(isG_iff g m).1 he];exact hg
 ·intro h;exact⟨m.grp,h,(isG_iff _ _).2 rfl⟩
def flyH (til:Int)(ms:List Ms)(gs:List ByteArray)(m:Ms):Ms:=if inG gs m=true/\isHead ms m=true then flyM til m else m
theorem flyH_num (til:Int)(ms:List Ms)(gs:List ByteArray)(m:Ms):(flyH til ms gs m).num=m.num:=by unfold flyH;split<;>rfl
theorem flyH_grp (til:Int)(ms:List Ms)(gs:List ByteArray)(m:Ms):(flyH til ms gs m).grp=m.grp:=by unfold flyH;split<;>rfl
theorem flyH_bod (til:Int)(ms:List Ms)(gs:List ByteArray)(m:Ms):(flyH til ms gs m).bod=m.bod:=by unfold flyH;split<;>rfl
theorem flyH_til (til:Int)(ms:List Ms)(gs:List ByteArray)(m:Ms):(flyH til ms gs m).til=if inG gs m=true/\isHead ms m=true then til else m.til:=by unfold flyH;split<;>rfl
theorem ups_idx {l:List Ms}(h:Ups l){i j:Nat}(hi:i<l.length)(hj:j<l.length)(e:l[i].num=l[j].num):i=j:=by
 have h1:=List.pairwise_iff_getElem.1 h
 by_cases h2:i<j
 ·have:=h1 i j hi hj h2;omega
 ·by_cases h3:j<i
  ·have:=h1 j i hj hi h3;omega
  ·omega
theorem QW.hidx (h:QW i Q){g:ByteArray}(hg:g∈Q.rs):0<=idxL (isG g) Q.ms:=by
 obtain⟨m,hm,he⟩:=((h.rr g).1 hg).1;exact(idxL_ex _ _).2 ⟨m,hm,(isG_iff g m).2 he⟩
theorem fly_map (h:QW i Q)(til:Int):∀(k:Nat),k<=Q.rs.length->flyAll til Q.ms (hdsL Q k)=Q.ms.map (flyH til Q.ms (Q.rs.take k))
 | 0,_=>by
  have e:Q.ms.map (flyH til Q.ms (Q.rs.take 0))=Q.ms:=by
   rw[List.map_congr_left (g:=id) (fun x _=>?_),List.map_id];unfold flyH;rw[if_neg (by simp[inG])];rfl
  rw[e];rfl
 | k+1,hk=>by
  have hkl:k<Q.rs.length:=by omega
  have ih:=fly_map h til k (by omega);have e1:hdsL Q (k+1)=hdsL Q k++[idxL (isG Q.rs[k]) Q.ms]:=by
   unfold hdsL;rw[List.take_succ_eq_append_getElem hkl,List.map_append];rfl
  have hgm:Q.rs[k]∈Q.rs:=List.getElem_mem hkl;obtain⟨p,hp⟩:∃p:Nat,idxL (isG Q.rs[k]) Q.ms=(p:Int):=⟨_,(Int.toNat_of_nonneg (h.hidx hgm)).symm⟩;obtain⟨hpl,hpg,hpf⟩:=idxL_fnd _ _ p hp;have hgrp:=(isG_iff _ _).1 hpg;have hnot:Q.rs[k]∉Q.rs.take k:=fun hm=>by
   have h1:=h.rn;rw[<-List.take_append_drop k Q.rs,List.nodup_append]at h1;have h2:Q.rs[k]∈Q.rs.drop k:=by
    rw[List.drop_eq_getElem_cons hkl];exact List.mem_cons_self
   exact h1.2.2 _ hm _ h2 rfl
  rw[e1,flyAll_snoc,ih,hp];unfold flyAt;have e2:(Q.ms.map (flyH til Q.ms (Q.rs.take k)))[((p:Nat):Int).toNat]?=some Q.ms[p]:=by
   rw[Int.toNat_natCast,List.getElem?_map,List.getElem?_eq_getElem hpl]
   show some _=_
   unfold flyH;rw[if_neg (by rw[inG_iff,hgrp];exact fun hc=>hnot hc.1)]
  rw[e2]
  show (Q.ms.map _).set ((p:Nat):Int).toNat _=_
  rw[Int.toNat_natCast];apply List.ext_getElem (by simp);intro j h1 h2;have hjl:j<Q.ms.length:=by simpa using h2
  rw[List.getElem_set];simp only[List.getElem_map]
  by_cases e:p=j
  ·subst e;rw[if_pos rfl];unfold flyH;rw[if_pos ⟨by rw[inG_iff,hgrp,List.take_succ_eq_append_getElem hkl];exact List.mem_append.2 (.inr (List.mem_singleton.2 rfl)),(isHead_find h.nums (List.getElem_mem hpl)).2 (by rw[hgrp];exact hpf)⟩]
  ·rw[if_neg e];unfold flyH;have e3:(inG (Q.rs.take (k+1)) Q.ms[j]=true/\isHead Q.ms Q.ms[j]=true)↔(inG (Q.rs.take k) Q.ms[j]=true/\isHead Q.ms Q.ms[j]=true):=by
    rw[inG_iff,inG_iff,List.take_succ_eq_append_getElem hkl,List.mem_append];constructor
    ·rintro ⟨h3|h3,h4⟩
     ·exact⟨h3,h4⟩
     ·exfalso;simp at h3;have h5:=(isHead_find h.nums (List.getElem_mem hjl)).1 h4;rw[h3,hpf]at h5;injection h5 with h5;exact e (ups_idx h.nums hpl hjl (by rw[h5]))
    ·rintro ⟨h3,h4⟩;exact⟨.inl h3,h4⟩
   by_cases h6:inG (Q.rs.take k) Q.ms[j]=true/\isHead Q.ms Q.ms[j]=true
   ·rw[if_pos h6,if_pos (e3.2 h6)]
   ·rw[if_neg h6,if_neg (fun h7=>h6 (e3.1 h7))]
theorem QW.recv (h:QW i Q){cnt:Nat}(hc:cnt<=Q.rs.length){til:Int}(ht:0<til/\til<=61000):QW i {Q with ms:=flyAll til Q.ms (hdsL Q cnt),rs:=Q.rs.drop cnt}:=by
 rw[fly_map h til cnt hc];have hnd:=h.rn;rw[<-List.take_append_drop cnt Q.rs,List.nodup_append]at hnd;refine {c:=h.c,nx:=h.nx,mq:=by simpa using h.mq,nums:=ups_map h.nums _ (flyH_num _ _ _),mok:=fun x hx=>?_,hd:=fun x hx hf y hy he=>?_,rn:=hnd.2.1,rr:=fun g=>?_,dn:=h.dn,dok:=h.dok,al:=h.al,aok:=h.aok}
 ·obtain⟨a,ha,rfl⟩:=List.mem_map.1 hx;have h1:=h.mok a ha;refine⟨by rw[flyH_num];exact h1.num,by rw[flyH_grp];exact h1.grp,by rw[flyH_bod];exact h1.bod,?_,?_⟩
  ·unfold flyH
   split
   ·exact⟨by show (0:Int)<=((oft a.rcv.toNat:Nat):Int);omega,by show ((oft a.rcv.toNat:Nat):Int)<=65535;have:=oft_le a.rcv.toNat;omega⟩
   ·exact h1.rcv
  ·rw[flyH_til]
   split
   ·exact⟨by omega,ht.2⟩
   ·exact h1.til
 ·obtain⟨a,ha,rfl⟩:=List.mem_map.1 hx;obtain⟨b,hb,rfl⟩:=List.mem_map.1 hy;rw[flyH_grp,flyH_grp]at he;rw[flyH_num,flyH_num];rw[flyH_til]at hf
  split at hf
  ·rename_i h1
   exact(isHead_iff h.nums ha).1 h1.2 b hb he
  ·exact h.hd a ha hf b hb he
 ·show g∈Q.rs.drop cnt↔(∃x∈Q.ms.map (flyH til Q.ms (Q.rs.take cnt)),x.grp=g)/\∀x∈Q.ms.map (flyH til Q.ms (Q.rs.take cnt)),x.grp=g->x.til=0
  constructor
  ·intro hg;obtain⟨⟨a,ha,he⟩,hz⟩:=(h.rr g).1 (List.mem_of_mem_drop hg);have hnt:g∉Q.rs.take cnt:=fun hm=>hnd.2.2 g hm g hg rfl
   refine⟨⟨_,List.mem_map_of_mem ha,by rw[flyH_grp];exact he⟩,fun x hx he=>?_⟩
   obtain⟨b,hb,rfl⟩:=List.mem_map.1 hx;rw[flyH_grp]at he;rw[flyH_til,if_neg (by rw[inG_iff,he];exact fun hc=>hnt hc.1)];exact hz b hb he
  ·rintro ⟨⟨x,hx,hxg⟩,hz⟩;obtain⟨a,ha,rfl⟩:=List.mem_map.1 hx;rw[flyH_grp]at hxg;have hnt:g∉Q.rs.take cnt:=fun hm=>by
    cases hf:Q.ms.find? (isG g) with
    | none=>exact absurd ((isG_iff g a).2 hxg) (List.find?_eq_none.1 hf a ha)
    | some y=>
     have hy:=List.mem_of_find?_eq_some hf;have hyg:=(isG_iff _ _).1 (List.find?_some hf);have h1:=hz _ (List.mem_map_of_mem hy) (by rw[flyH_grp];exact hyg);rw[flyH_til,if_pos ⟨by rw[inG_iff,hyg];exact hm,(isHead_find h.nums hy).2 (by rw[hyg];exact hf)⟩]at h1;omega
   have hg:g∈Q.rs:=(h.rr g).2 ⟨⟨a,ha,hxg⟩,fun b hb he=>by
    have h1:=hz _ (List.mem_map_of_mem hb) (by rw[flyH_grp];exact he);rw[flyH_til,if_neg (by rw[inG_iff,he];exact fun hc=>hnt hc.1)]at h1;exact h1⟩
   rw[<-List.take_append_drop cnt Q.rs]at hg;rcases List.mem_append.1 hg with hg|hg
   ·exact absurd hg hnt
   ·exact hg
theorem drop_eq (h:QW i Q){num:Int}{m:Ms}(hf:Q.ms.find? (isN num)=some m):dropQ Q num={Q with ms:=Q.ms.filter (fun a=>!isN num a),rs:=if idxL (isG m.grp) (Q.ms.filter (fun a=>!isN num a))<0 then Q.rs else Q.rs++[m.grp]}:=by
 unfold dropQ;rw[hf];simp only[erase_filter num Q.ms m h.nums hf]
theorem QW.drop (h:QW i Q){num:Int}{m:Ms}(hf:Q.ms.find? (isN num)=some m)(ht:0<m.til):QW i (dropQ Q num):=by
 rw[drop_eq h hf];obtain⟨hm,hn⟩:=find_mem hf;subst hn;have hmem:∀x,x∈Q.ms.filter (fun a=>!isN m.num a)↔x∈Q.ms/\x.num≠m.num:=fun x=>by
  rw[List.mem_filter];refine and_congr_right (fun _=>?_);rw[Bool.not_eq_true',<-Bool.not_eq_true,isN_iff]
 have hzero:∀b∈Q.ms,b.grp=m.grp->b.num≠m.num->b.til=0:=fun b hb he hne=>by
  have h1:=(h.mok b hb).til
  by_cases h2:0<b.til
  ·exact absurd (congrArg Ms.num (h.one hb hm h2 ht he)) hne
  ·omega
 refine {c:=h.c,nx:=h.nx,mq:=?_,nums:=ups_filter h.nums _,mok:=fun x hx=>h.mok x ((hmem x).1 hx).1,hd:=fun x hx ht y hy he=>h.hd x ((hmem x).1 hx).1 ht y ((hmem y).1 hy).1 he,rn:=?_,rr:=fun g=>?_,dn:=h.dn,dok:=h.dok,al:=h.al,aok:=h.aok}
 ·have h1:=List.length_filter_le (fun a=>!isN m.num a) Q.ms;have h2:=h.mq
  show ((Q.ms.filter (fun a=>!isN m.num a)).length:Int)<=Q.c.quo
  omega
 ·show (if idxL (isG m.grp) (Q.ms.filter (fun a=>!isN m.num a))<0 then Q.rs else Q.rs++[m.grp]).Nodup
  split
  ·exact h.rn
  ·rw[List.nodup_append];refine⟨h.rn,by simp,fun a ha b hb=>?_⟩
   simp at hb;subst hb;exact fun e=>h.nr hm ht (e▸ha)
 ·show g∈(if idxL (isG m.grp) (Q.ms.filter (fun a=>!isN m.num a))<0 then Q.rs else Q.rs++[m.grp])↔(∃x∈Q.ms.filter (fun a=>!isN m.num a),x.grp=g)/\∀x∈Q.ms.filter (fun a=>!isN m.num a),x.grp=g->x.til=0
  have hin:g∈(if idxL (isG m.grp) (Q.ms.filter (fun a=>!isN m.num a))<0 then Q.rs else Q.rs++[m.grp])↔g∈Q.rs\/(g=m.grp/\∃x∈Q.ms.filter (fun a=>!isN m.num a),x.grp=m.grp):=by
   by_cases hneg:idxL (isG m.grp) (Q.ms.filter (fun a=>!isN m.num a))<0
   ·rw[if_pos hneg];constructor
    ·exact .inl
    ·rintro (h1|⟨_,x,hx,he⟩)
     ·exact h1
     ·have:=(idxL_neg _ _).1 hneg x hx;rw[(isG_iff _ _).2 he]at this;simp at this
   ·rw[if_neg hneg];obtain⟨x,hx,he⟩:=(idxL_ex _ _).1 (show 0<=idxL (isG m.grp) (Q.ms.filter (fun a=>!isN m.num a)) by omega);rw[List.mem_append];constructor
    ·rintro (h1|h1)
     ·exact .inl h1
     ·simp at h1;exact .inr ⟨h1,x,hx,(isG_iff _ _).1 he⟩
    ·rintro (h1|⟨h1,_⟩)
     ·exact .inl h1
     ·exact .inr (by simp[h1])
  rw[hin];constructor
  ·rintro (hg|⟨rfl,x,hx,he⟩)
   ·obtain⟨⟨a,ha,he⟩,hz⟩:=(h.rr g).1 hg;refine⟨⟨a,(hmem a).2 ⟨ha,fun e=>?_⟩,he⟩,fun x hx he=>hz x ((hmem x).1 hx).1 he⟩
    have:=num_inj h.nums ha hm e;subst this;have:=hz a ha he;omega
   ·exact⟨⟨x,hx,he⟩,fun y hy hye=>hzero y ((hmem y).1 hy).1 hye ((hmem y).1 hy).2⟩
  ·rintro ⟨⟨x,hx,hxg⟩,hz⟩
   by_cases e:g=m.grp
   ·exact .inr ⟨e,x,hx,by rw[hxg,e]⟩
   ·refine .inl ((h.rr g).2 ⟨⟨x,((hmem x).1 hx).1,hxg⟩,fun b hb he=>hz b ((hmem b).2 ⟨hb,fun en=>?_⟩) he⟩);have:=num_inj h.nums hb hm en;subst this;exact e he.symm
theorem QW.ext (h:QW i Q){num til:Int}{m:Ms}(hf:Q.ms.find? (isN num)=some m)(ht:0<m.til)(hl:0<til/\til<=61000):QW i (tilQ Q num til):=by
 obtain⟨hm,hn⟩:=find_mem hf;subst hn;rw[tilQ_eq Q h.nums];have hz0:∀a∈Q.ms,(tilM m.num til a).til=0↔a.til=0:=fun a ha=>by
  rw[tilM_til]
  split
  ·rename_i e
   have:=num_inj h.nums ha hm e;subst this;constructor<;>intro h1<;>omega
  ·exact Iff.rfl
 refine {c:=h.c,nx:=h.nx,mq:=by simpa using h.mq,nums:=ups_map h.nums _ (tilM_num _ _),mok:=h.msT ⟨by omega,hl.2⟩,hd:=fun x hx hf y hy he=>?_,rn:=h.rn,rr:=fun g=>?_,dn:=h.dn,dok:=h.dok,al:=h.al,aok:=h.aok}
 ·obtain⟨a,ha,rfl⟩:=List.mem_map.1 hx;obtain⟨b,hb,rfl⟩:=List.mem_map.1 hy;rw[tilM_grp,tilM_grp]at he;rw[tilM_num,tilM_num];have h1:=hz0 a ha;have h2:=(h.mok a ha).til;exact h.hd a ha (by omega) b hb he
 ·show g∈Q.rs↔(∃x∈Q.ms.map (tilM m.num til),x.grp=g)/\∀x∈Q.ms.map (tilM m.num til),x.grp=g->x.til=0
  rw[h.rr g];constructor
  ·rintro ⟨⟨a,ha,he⟩,hz⟩;refine⟨⟨_,List.mem_map_of_mem ha,by rw[tilM_grp];exact he⟩,fun x hx he=>?_⟩
   obtain⟨b,hb,rfl⟩:=List.mem_map.1 hx;rw[tilM_grp]at he;exact(hz0 b hb).2 (hz b hb he)
  ·rintro ⟨⟨x,hx,hxg⟩,hz⟩;obtain⟨a,ha,rfl⟩:=List.mem_map.1 hx;rw[tilM_grp]at hxg;exact⟨⟨a,ha,hxg⟩,fun b hb he=>(hz0 b hb).1 (hz _ (List.mem_map_of_mem hb) (by rw[tilM_grp];exact he))⟩
theorem QW.purg (h:QW i Q):QW i (purgQ Q):=
 {c:=h.c,nx:=h.nx,mq:=by show ((0:Nat):Int)<=Q.c.quo;have:=h.c.quo.1;omega,nums:=List.Pairwise.nil,mok:=fun m hm=>by simp[purgQ]at hm,hd:=fun m hm=>by simp[purgQ]at hm,rn:=List.nodup_nil,rr:=fun g=>by simp[purgQ],dn:=h.dn,dok:=h.dok,al:=by simp[purgQ],aok:=fun m hm=>by simp[purgQ]at hm}
theorem QW.send (h:QW i Q){r:Wp.Rq}{now:Int}(hq:(Q.ms.length:Int)<Q.c.quo)(hn:Q.next<=200)(hg:1<=r.grp.size/\r.grp.size<=8)(hb:r.bod.size<=40)(hid:(didS r).size<=8)(hnow:0<=now/\now<=60000):QW i (sendQ Q r now):=by
 have h1:=h.put (g:=r.grp) (b:=r.bod) (by omega) hn hg hb;have hnx:=h.nx;have hwin:=h.c.win;refine {c:=h1.c,nx:=h1.nx,mq:=h1.mq,nums:=h1.nums,mok:=h1.mok,hd:=h1.hd,rn:=h1.rn,rr:=h1.rr,dn:=?_,dok:=?_,al:=h1.al,aok:=h1.aok}
 ·show (if 0<Q.c.win then Q.ds++[⟨didS r,(Q.next:Nat),now+Q.c.win⟩] else Q.ds).Pairwise _
  split
  ·rw[List.pairwise_append];refine⟨h.dn,by simp,fun a ha b hb=>?_⟩
   simp at hb;subst hb;exact(h.dok a ha).2.1.2
  ·exact h.dn
 ·show ∀d∈(if 0<Q.c.win then Q.ds++[⟨didS r,(Q.next:Nat),now+Q.c.win⟩] else Q.ds),d.id.size<=8/\(1<=d.num/\d.num<((Q.next+1:Nat):Int))/\0<=d.til/\d.til<=62000
  have hold:∀d∈Q.ds,d.id.size<=8/\(1<=d.num/\d.num<((Q.next+1:Nat):Int))/\0<=d.til/\d.til<=62000:=fun d hd=>by
   have h2:=h.dok d hd;exact⟨h2.1,⟨h2.2.1.1,by have:=h2.2.1.2;omega⟩,h2.2.2⟩
  split
  ·intro d hd;rcases List.mem_append.1 hd with hd|hd
   ·exact hold d hd
   ·simp at hd;subst hd;exact⟨hid,⟨by show (1:Int)<=(Q.next:Nat);omega,by show ((Q.next:Nat):Int)<((Q.next+1:Nat):Int);omega⟩,by show (0:Int)<=now+Q.c.win;omega,by show now+Q.c.win<=62000;omega⟩
  ·exact hold
theorem own_shiftA (l:List At)(g c i:Nat)(cur:Array Value)(w:World)(hi:i<l.length)(hrow:w.heap[g]?=some (.cells cur 199 (0,0)))(hnc:l.length<=c)(hcm:c<=maxLen)(hcs:cur.size=c*3)(htake:cur.toList.take (l.length*3)=l.flatMap At.row):
  ∃xs:List Value,xs.take ((l.length-1)*3)=(l.eraseIdx i).flatMap At.row/\(w.setRow g (cur.toList.take (i*3)++(l.drop (i+1)).flatMap At.row++cur.toList.drop (i*3+((l.drop (i+1)).flatMap At.row).length)).toArray).ownsRow 0 199 3 (.slice (some ⟨g,0,none⟩) l.length c) l.length xs:=by
 have hln:((l.drop (i+1)).flatMap At.row).length=(l.length-(i+1))*3:=by rw[flat_len At.row 3 (fun _=>rfl),List.length_drop]
 have hcl:cur.toList.length=c*3:=by simpa using hcs
 have ht1:cur.toList.take (i*3)=(l.take i).flatMap At.row:=by
  have h1:=congrArg (List.take (i*3)) htake;rw[List.take_take,Nat.min_eq_left (by omega),flat_take At.row 3 (fun _=>rfl) l i (by omega)]at h1;exact h1
 have htl:(cur.toList.take (i*3)++(l.drop (i+1)).flatMap At.row).length=(l.length-1)*3:=by
  rw[List.length_append,hln,List.length_take,hcl];omega
 have hnl:(cur.toList.take (i*3)++(l.drop (i+1)).flatMap At.row++cur.toList.drop (i*3+((l.drop (i+1)).flatMap At.row).length)).length=c*3:=by
  rw[List.length_append,htl,List.length_drop,hln,hcl];omega
 refine⟨(cur.toList.take (i*3)++(l.drop (i+1)).flatMap At.row++cur.toList.drop (i*3+((l.drop (i+1)).flatMap At.row).length)).take (l.length*3),?_,?_,.inr ⟨g,c,_,rfl,Nat.zero_le _,setRow_heap w g cur _ 199 _ hrow,hnc,hcm,?_,?_⟩⟩
 ·rw[List.take_take,Nat.min_eq_left (by omega),List.take_append_of_le_length (by omega),List.take_of_length_le (by omega),ht1,<-List.flatMap_append,List.eraseIdx_eq_take_drop_succ]
 ·rw[List.length_take,hnl];omega
 ·rw[List.size_toArray,hnl]
 ·rfl
theorem erase_lenA (l:List At)(i:Nat)(hi:i<l.length):(l.eraseIdx i).length=l.length-1:=List.length_eraseIdx_of_lt hi
theorem delOneA_any (l:List At)(g c i:Nat)(w:World)(ho:w.ownsRow 0 199 3 (.slice (some ⟨g,0,none⟩) l.length c) l.length (l.flatMap At.row))(hi:i<l.length)(hl:l.length<=1000):
  Calls Tryz.prog 196 #[.slice (some ⟨g,0,none⟩) l.length c,.int .i64 (i:Int),.int .i64 ((i:Int)+1)] w fun e w'=>e=.returned (.slice (some ⟨g,0,none⟩) (l.length-1) c)/\w'.ownsRow 0 199 3 (.slice (some ⟨g,0,none⟩) (l.length-1) c) (l.eraseIdx i).length ((l.eraseIdx i).flatMap At.row)/\Tch [g] w w':=by
 obtain⟨cur,hrow,hnc,hcm,hcs,htake⟩:∃cur:Array Value,w.heap[g]?=some (.cells cur 199 (0,0))/\l.length<=c/\c<=maxLen/\cur.size=c*3/\cur.toList.take (l.length*3)=l.flatMap At.row:=by
  rcases ho.2 with ⟨h',_⟩|⟨g',cap',cur,h',hb,hg,hnc,hcm,hcs,htake⟩
  ·simp at h'
  ·simp only[Value.slice.injEq,Option.some.injEq,Addr.mk.injEq,and_true,true_and]at h';obtain⟨rfl,rfl⟩:=h';exact⟨cur,hg,hnc,hcm,hcs,htake⟩
 have hcm':c<=9223372036854775807:=by unfold maxLen at hcm;omega
 have HNW:Hid (∀j u,((l.drop (i+1)).flatMap At.row)[j]?=some u->w.cell? ((⟨g,(i+1)*3,none⟩:Addr).add j)=some u):=fun j u hj=>by
  have hj2:(l.flatMap At.row)[(i+1)*3+j]?=some u:=by
   have e1:=congrArg (fun z=>z.flatMap At.row) (List.take_append_drop (i+1) l);simp only[List.flatMap_append]at e1;have e2:((l.take (i+1)).flatMap At.row).length=(i+1)*3:=by rw[flat_len At.row 3 (fun _=>rfl),List.length_take];omega
   rw[<-e1,List.getElem?_append_right (by omega),e2,Nat.add_sub_cancel_left];exact hj
  have h1:=World.ownsRow.cells ho (g:=g) rfl ((i+1)*3+j) u hj2;have e3:(⟨g,0,none⟩:Addr).add ((i+1)*3+j)=(⟨g,(i+1)*3,none⟩:Addr).add j:=by unfold Addr.add;split<;>split<;>simp_all
  rw[e3]at h1;exact h1
 have HLN:Hid (((l.drop (i+1)).flatMap At.row).length=(l.length-(i+1))*3):=by
  show _=_
  rw[flat_len At.row 3 (fun _=>rfl),List.length_drop]
 have HON:Hid (∀u∈(l.drop (i+1)).flatMap At.row,u.oneCell'=true):=fun u hu=>by
  obtain⟨m,_,hm⟩:=List.mem_flatMap.1 hu;simp[At.row]at hm;rcases hm with rfl|rfl|rfl<;>rfl
 have HFIT:Hid (i*3+((l.drop (i+1)).flatMap At.row).length<=cur.size):=by
  show _<=_
  rw[HLN.out,hcs];omega
 obtain⟨news,HNE⟩:∃news,Hid (news=(l.drop (i+1)).flatMap At.row):=⟨_,rfl⟩;rw[<-HNE.out]at HNW HLN HON HFIT;go_enter Tryz.func196,Tryz.ntmps196;go_wp2_with fail;have hic:i<=c:=by omega
 have hi2:i+1<=c:=by omega
 have hz1:(0:Int)<=(i:Int)+1:=by omega
 have hz2:(i:Int)+1<=(l.length:Int):=by omega
 have hz3:(i:Int)<=(i:Int)+1:=by omega
 have HRW:=zH hrow;obtain⟨xs,hxs,hox⟩:=own_shiftA l g c i cur w.drew hi hrow hnc hcm hcs htake;rw[<-HNE.out]at hox;have HOX:=zH hox;have HT2:Hid (Tch [g] w (w.drew.setRow g (cur.toList.take (i*3)++news++cur.toList.drop (i*3+news.length)).toArray)):=(Tch.refl _ _).drew.setRow (fun _=>by simp) _;clear hox;generalize hW2:w.drew.setRow g (cur.toList.take (i*3)++news++cur.toList.drop (i*3+news.length)).toArray=w2 at*
 have hxl:=HOX.out.1;have hclr:=run_clearA w2 0 g (l.length-1) (l.length-(l.length-1)) (c-(l.length-1)) (fun j hj=>by
  have h1:(l.length-1)*3+j<xs.length:=by omega
  have h2:=World.ownsRow.cells HOX.out (g:=g) rfl ((l.length-1)*3+j) _ (List.getElem?_eq_getElem h1);have e:(⟨g,0,none⟩:Addr).add ((l.length-1)*3+j)=⟨g,(l.length-1)*3+j,none⟩:=by unfold Addr.add;split<;>simp_all
  rw[e]at h2;rw[h2];rfl) (fun j=>World.ownsRow.frozenAt HOX.out j) (by omega)
 have HF:Hid ((w2.setCells g ((l.length-1)*3) (Builtin.zeroCells #[.string ⟨#[]⟩,.int .i64 0,.string ⟨#[]⟩] (l.length-(l.length-1))).toList).ownsRow 0 199 3 (.slice (some ⟨g,0,none⟩) (l.length-1) c) (l.eraseIdx i).length ((l.eraseIdx i).flatMap At.row)/\Tch [g] w (w2.setCells g ((l.length-1)*3) (Builtin.zeroCells #[.string ⟨#[]⟩,.int .i64 0,.string ⟨#[]⟩] (l.length-(l.length-1))).toList)):=by
  refine⟨?_,HT2.out.trans (tch_setCells g _ _ _) (fun _ h _=>h)⟩;have h1:=own_cut (own_setCells (Builtin.zeroCells #[.string ⟨#[]⟩,.int .i64 0,.string ⟨#[]⟩] (l.length-(l.length-1))).toList ((l.length-1)*3) w2 _ HOX.out) (n':=l.length-1) (by omega);rw[putMany_take _ _ _ _ (Nat.le_refl _),hxs]at h1;rw[erase_lenA l i hi];exact h1
 generalize w2.setCells g ((l.length-1)*3) (Builtin.zeroCells #[.string ⟨#[]⟩,.int .i64 0,.string ⟨#[]⟩] (l.length-(l.length-1))).toList=w3 at*
 have el:i+(l.length-(i+1))=l.length-1:=by omega
 have hne2:¬(c=l.length-1):=by omega
 clear hxs hxl HT2 HNE
 by_cases hcc:c=i+1
 ·have hne:news=[]:=List.length_eq_zero_iff.1 (by rw[HLN.out];omega);subst hcc
  go_region_law (refine step_room rfl (.tmp 22) (.tmp 25) 135 199 rfl Tryz.underlying135 _ 3 40 info234 g i (i+1) cur HRW.out ⟨g,0,none⟩ (l.length-(i+1)) ((i+1)-(i+1)) news HLN.out (by rw[hne];intro j u hj;simp at hj) HON.out (by omega) HFIT.out (by simp[Act.eval,Act.put]) (by simp[Act.eval,Act.put];omega) ?_;rw[hW2,el])
  all_goals (clear hW2 el HFIT HON HLN HNW HRW hz1 hz2 hz3 htake hrow hne;go_wp2_with fail;go_ret;exact⟨rfl,HF.out.1,HF.out.2⟩)
 ·have hcc':=hcc
  go_region_law (refine step_room rfl (.tmp 22) (.tmp 25) 135 199 rfl Tryz.underlying135 _ 3 40 info234 g i c cur HRW.out ⟨g,(i+1)*3,none⟩ (l.length-(i+1)) (c-(i+1)) news HLN.out HNW.out HON.out (by omega) HFIT.out (by simp[Act.eval,Act.put]) (by simp[Act.eval,Act.put]) ?_;rw[hW2,el])
  all_goals (clear hW2 el HFIT HON HLN HNW HRW hz1 hz2 hz3 htake hrow hcc';go_wp2_with fail;go_ret;exact⟨rfl,HF.out.1,HF.out.2⟩)
def remG (Q:QM)(a:At):QM:=if a.id.size=0 then Q else {Q with ats:=if Q.ats.length<20 then Q.ats++[a] else (Q.ats++[a]).eraseIdx 0}
theorem QR.newA {w w2:World}(h:QR w qb V Q){v':Value}{as':List At}(ht:Tch (bl V.a) w w2)(ho:w2.ownsRow 0 199 3 v' as'.length (as'.flatMap At.row))(hN:∀k,v'.ownBlock=some k->V.a.ownBlock=some k\/w.heap.size<=k):
  w2.cell? ⟨qb,10,none⟩=some V.a/\w2.frozen? ⟨qb,10,none⟩=false/\qb<w2.heap.size/\QS w (w2.setCell ⟨qb,10,none⟩ v') qb V {V with a:=v'} {Q with ats:=as'}:=by
 have hb:Qb w2 qb Q.c (Q.next:Int) V.m V.r V.d V.a:=(ht.block _ h.blk.lt h.nq.2.2.2).trans h.blk;have t3:Tch [qb] w2 (w2.setCell ⟨qb,10,none⟩ v'):=(Tch.refl _ _).setCell (fun _=>by simp) _;have hm:=own_tch h.m ht (own_sep h.m h.a (by decide));have hr:=own_tch h.r ht (own_sep h.r h.a (by decide));have hd:=own_tch h.d ht (own_sep h.d h.a (by decide));have nq:∀{t s n:Nat} {v:Value} {xs:List Value},w2.ownsRow 0 t s v n xs->t≠137->∀k,v.ownBlock=some k->k∉[qb]:=fun hv hne k hk hm=>by
  simp at hm;subst hm;exact own_ne hv hb hne hk
 have hq:QR (w2.setCell ⟨qb,10,none⟩ v') qb {V with a:=v'} {Q with ats:=as'}:=⟨hb.set10 v',own_tch hm t3 (nq hm (by decide)),own_tch hr t3 (nq hr (by decide)),own_tch hd t3 (nq hd (by decide)),own_tch ho t3 (nq ho (by decide))⟩;refine⟨cell_qC hb 10 _ rfl,hb.fz 10,hb.lt,hq,(ht.sub (fun x hx _=>?_)).trans t3 (fun x hx _=>?_),fun b hb'=>?_⟩
 ·exact mem_qbl.2 (.inr (.inr (.inr (.inr (mem_bl.1 hx)))))
 ·simp at hx;exact mem_qbl.2 (.inl hx)
 ·rcases mem_qbl.1 hb' with e|e|e|e|e
  ·exact .inl (mem_qbl.2 (.inl e))
  ·exact .inl (mem_qbl.2 (.inr (.inl e)))
  ·exact .inl (mem_qbl.2 (.inr (.inr (.inl e))))
  ·exact .inl (mem_qbl.2 (.inr (.inr (.inr (.inl e)))))
  ·exact(hN b e).imp (fun h=>mem_qbl.2 (.inr (.inr (.inr (.inr h))))) id
theorem ql_trans {a b c:World}{V1:QV}{Q1 Q2:QM}(h1:QS a b qb V V1 Q1)(h2:QL b c qb V1 Q2):QL a c qb V Q2:=by
 obtain⟨V2,k1,k2,k3⟩:=h2;exact(h1.trans ⟨k1,k2,k3⟩).ql
theorem rem20_fin (Q:QM)(V:QV)(l:List At)(qb g c:Nat)(w w1:World)(hl:0<l.length)(h:QL w w1 qb V {Q with ats:=l})(hc:w1.cell? ⟨qb,10,none⟩=some (.slice (some ⟨g,0,none⟩) l.length c))(hle:l.length<=1000):
  Calls Tryz.prog 196 #[.slice (some ⟨g,0,none⟩) l.length c,.int .i64 0,.int .i64 1] w1 fun e w2=>e=.returned (.slice (some ⟨g,0,none⟩) (l.length-1) c)/\w2.cell? ⟨qb,10,none⟩=some (.slice (some ⟨g,0,none⟩) l.length c)/\w2.frozen? ⟨qb,10,none⟩=false/\qb<w2.heap.size/\QL w (w2.setCell ⟨qb,10,none⟩ (.slice (some ⟨g,0,none⟩) (l.length-1) c)) qb V {Q with ats:=l.eraseIdx 0}:=by
 obtain⟨V1,hq,ht,hn⟩:=h;have hva:V1.a=.slice (some ⟨g,0,none⟩) l.length c:=by
  have h1:=cell_qC hq.blk 10 _ rfl;rw[h1]at hc;exact Option.some.inj hc
 have ho:w1.ownsRow 0 199 3 (.slice (some ⟨g,0,none⟩) l.length c) l.length (l.flatMap At.row):=by
  have:=hq.a;rw[hva]at this;exact this
 have hd:=delOneA_any l g c 0 w1 ho hl hle;refine hd.mono ?_;rintro e w2 ⟨rfl,ho2,ht2⟩;obtain⟨k1,k2,k3,k4⟩:=hq.newA (v':=.slice (some ⟨g,0,none⟩) (l.length-1) c) (as':=l.eraseIdx 0) (by rw[hva];exact ht2.sub (fun x hx _=>by simp at hx;simp[bl,Value.ownBlock,hx])) ho2 (fun k hk=>.inl (by rw[hva];exact hk));rw[hva]at k1;refine⟨rfl,k1,k2,k3,?_⟩;exact ql_trans ⟨hq,ht,hn⟩ k4.ql
theorem remember20 (Q:QM)(V:QV)(a:At)(qb:Nat)(w:World)(h:QR w qb V Q)(hn:Q.ats.length=20):
  Calls Tryz.prog 168 #[.pointer (some ⟨qb,0,none⟩),.agg #[.string a.id,.int .i64 a.til,.string a.ans]] w fun e w'=>e=.returned (.tuple #[])/\QL w w' qb V (remG Q a):=by
 have HQ:=zH h
 by_cases hz:a.id.size=0
 ·have e0:a.id=⟨#[]⟩:=toList_nil _ hz;have hr:Hid (remG Q a=Q):=by show _=_;unfold remG;rw[if_pos hz]
  rw[e0];clear h;go_enter Tryz.func168,Tryz.ntmps168;go_wp2_with fail;refine bodyPost_ret (results_none rfl _ _ _) rfl ⟨rfl,?_⟩;rw[hr.out];exact⟨V,HQ.out.tch ((Tch.refl [] w).alloc _) (by simp),((Tch.refl [] w).alloc _).sub (by simp),fun _ h=>.inl h⟩
 ·have hne:=ne_nil _ hz;have hr:Hid (remG Q a={Q with ats:=(Q.ats++[a]).eraseIdx 0}):=by show _=_;unfold remG;rw[if_neg hz,if_neg (by omega)]
  obtain⟨wa,hwa⟩:∃wa,wa=w.alloc (.cells #[.string a.id,.int .i64 a.til,.string a.ans] 199):=⟨_,rfl⟩;have ta:Tch [] w wa:=by rw[hwa];exact(Tch.refl [] w).alloc _
  have ha:=h.tch ta (by simp);have HWA:=zH ha;have hbx:wa.heap[w.heap.size]?=some (.cells #[.string a.id,.int .i64 a.til,.string a.ans] 199 (0,0)):=by rw[hwa];exact heap_alloc_new _ _
  have b0:wa.cell? ⟨w.heap.size,0,none⟩=some (.string a.id):=cell_qC hbx 0 _ rfl;have b1:wa.cell? ⟨w.heap.size,1,none⟩=some (.int .i64 a.til):=cell_qC hbx 1 _ rfl;have b2:wa.cell? ⟨w.heap.size,2,none⟩=some (.string a.ans):=cell_qC hbx 2 _ rfl;have q10:wa.cell? ⟨qb,10,none⟩=some V.a:=cell_qC ha.blk 10 _ rfl;have hlt:=ha.blk.lt;have HG:Hid (∀v' w',w'.ownsRow 0 199 3 v' (Q.ats.length+1) (Q.ats.flatMap At.row++atV a)->(wa.drew.alloc (.cells (atV a).toArray 199)).grownBy w' V.a.ownBlock->(v'.ownBlock=V.a.ownBlock\/v'.ownBlock=some (wa.drew.alloc (.cells (atV a).toArray 199)).heap.size)->_):=fun v' w'=>rem_fin Q V a qb w wa ta ha v' w'
  clear h ha ta hbx hz;go_enter Tryz.func168,Tryz.ntmps168;go_wp2_with fail;rw[<-hwa];clear hwa
  go_region_law (refine step_vals rfl (.tmp 11) (.tmp 13) 135 199 rfl Tryz.underlying135 (.agg #[.string ⟨#[]⟩,.int .i64 0,.string ⟨#[]⟩]) 3 40 info234 rfl (by decide) (by decide) V.a Q.ats.length (Q.ats.flatMap At.row) (by simp[Act.eval,Act.put]) (own_tch HWA.out.a ((Tch.refl [] _).drew.alloc _) (fun _ _=>by simp)) wa.heap.size (atV a) 1 (by simp[Act.eval,Act.put]) rfl (by decide) (heap_alloc_new _ _) (by intro u hu;simp at hu;rcases hu with rfl|rfl|rfl<;>rfl) (by omega) ?_;intro v' w9 ho3 hg3 hb3;obtain⟨g4,cap4,hv4,c9,z9,c10,l9,hfin⟩:=HG.out v' w9 ho3 hg3 hb3;subst hv4;clear ho3 hg3 hb3;have HFIN:Hid (QL _ _ _ _ _):=hfin;clear hfin)
  all_goals
   have hl21:(Q.ats++[a]).length=21:=by simp;omega
   have HR20:Hid (Calls Tryz.prog 196 _ (w9.setCell ⟨qb,10,none⟩ (.slice (some ⟨g4,0,none⟩) (Q.ats.length+1) cap4)) _):=rem20_fin Q V (Q.ats++[a]) qb g4 cap4 w _ (by omega) HFIN.out (c10.trans (by rw[hl21,hn])) (by omega);rw[hl21,hn]at HR20;rw[hn] at*
   clear HFIN;generalize w9.setCell ⟨qb,10,none⟩ (.slice (some ⟨g4,0,none⟩) (20+1) cap4)=w10 at*
   go_wp2_with fail;refine HR20.out.mono ?_;rintro e w11 ⟨rfl,k1,k2,k3,k4⟩;have HK:=zH k4;clear k4 HR20;go_wp2_with fail;go_end0;exact⟨rfl,by rw[hr.out];exact HK.out⟩
theorem rememberG_any (Q:QM)(V:QV)(a:At)(qb:Nat)(w:World)(h:QR w qb V Q)(hn:Q.ats.length<=20):
  Calls Tryz.prog 168 #[.pointer (some ⟨qb,0,none⟩),.agg #[.string a.id,.int .i64 a.til,.string a.ans]] w fun e w'=>e=.returned (.tuple #[])/\QL w w' qb V (remG Q a):=by
 by_cases hl:Q.ats.length<20
 ·have e:remG Q a=remQ Q a:=by
   unfold remG remQ;rw[if_pos hl]
  rw[e];exact remember_any Q V a qb w h hl
 ·exact remember20 Q V a qb w h (by omega)
end Go.Proofs.YtbdobaapadlcjabGreatDoor
