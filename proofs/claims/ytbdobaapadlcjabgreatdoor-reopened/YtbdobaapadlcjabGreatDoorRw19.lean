import Derived.Test.YtbdobaapadlcjabGreatDoorRw18
set_option maxHeartbeats 1000000
set_option linter.unusedVariables false
set_option linter.unusedSimpArgs false
namespace Go.Proofs.YtbdobaapadlcjabGreatDoor
open Go.RowKit
variable {i j q t d:Nat}{Q:QM}{num now:Int}{m:Ms}{l:List Ms}{w:World}{Z Z':Nat->Option BQ}{x:BQ}{P:Nat->Option Nat}{v:Value}
theorem tilQ_eq (Q:QM)(h:Ups Q.ms)(num til:Int):tilQ Q num til={Q with ms:=Q.ms.map (tilM num til)}:=by
 have h1:=til_map Q h num til;unfold tilQ at h1 ⊢
 cases hf:Q.ms.find? (isN num) with
 | none=>
  simp only[hf]at h1 ⊢;rw[<-h1]
 | some m=>
  simp only[hf]at h1 ⊢;rw[<-h1]
theorem QW.msT (h:QW i Q){num til:Int}(ht:0<=til/\til<=61000):∀x∈Q.ms.map (tilM num til),MsG Q.next x:=fun x hx=>by
 obtain⟨a,ha,rfl⟩:=List.mem_map.1 hx;have h1:=h.mok a ha;refine⟨by rw[tilM_num];exact h1.num,by rw[tilM_grp];exact h1.grp,by rw[tilM_bod];exact h1.bod,by rw[tilM_rcv];exact h1.rcv,?_⟩;rw[tilM_til]
 split
 ·exact ht
 ·exact h1.til
theorem QW.nr (h:QW i Q){m:Ms}(hm:m∈Q.ms)(ht:0<m.til):m.grp∉Q.rs:=fun hg=>by
 have:=((h.rr _).1 hg).2 m hm rfl;omega
theorem QW.zero (h:QW i Q){m:Ms}(hm:m∈Q.ms)(ht:0<m.til){b:Ms}(hb:b∈Q.ms)(hg:b.grp=m.grp):(tilM m.num 0 b).til=0:=by
 rw[tilM_til]
 split
 ·rfl
 ·rename_i hne
  have h1:=(h.mok b hb).til
  by_cases h2:0<b.til
  ·exact absurd (congrArg Ms.num (h.one hb hm h2 ht hg)) hne
  ·omega
theorem QW.hdT (h:QW i Q)(num:Int):∀x∈Q.ms.map (tilM num 0),0<x.til->∀y∈Q.ms.map (tilM num 0),y.grp=x.grp->x.num<=y.num:=fun x hx ht y hy he=>by
 obtain⟨a,ha,rfl⟩:=List.mem_map.1 hx;obtain⟨b,hb,rfl⟩:=List.mem_map.1 hy;rw[tilM_grp,tilM_grp]at he;rw[tilM_num,tilM_num];rw[tilM_til]at ht
 split at ht
 ·omega
 ·exact h.hd a ha ht b hb he
theorem QW.ready (h:QW i Q){num:Int}{m:Ms}(hf:Q.ms.find? (isN num)=some m)(ht:0<m.til):QW i (readyQ (tilQ Q num 0) m.grp):=by
 obtain⟨hm,hn⟩:=find_mem hf;subst hn;rw[tilQ_eq Q h.nums];refine {c:=h.c,nx:=h.nx,mq:=by simpa [readyQ]using h.mq,nums:=ups_map h.nums _ (tilM_num _ _),mok:=h.msT ⟨by omega,by omega⟩,hd:=h.hdT m.num,rn:=?_,rr:=?_,dn:=h.dn,dok:=h.dok,al:=h.al,aok:=h.aok}
 ·show (Q.rs++[m.grp]).Nodup
  rw[List.nodup_append];refine⟨h.rn,by simp,fun a ha b hb=>?_⟩
  simp at hb;subst hb;exact fun e=>h.nr hm ht (e▸ha)
 ·intro g
  show g∈Q.rs++[m.grp]↔(∃x∈Q.ms.map (tilM m.num 0),x.grp=g)/\∀x∈Q.ms.map (tilM m.num 0),x.grp=g->x.til=0
  constructor
  ·intro hg;rcases List.mem_append.1 hg with hg|hg
   ·obtain⟨⟨a,ha,he⟩,hz⟩:=(h.rr g).1 hg;refine⟨⟨tilM m.num 0 a,List.mem_map_of_mem ha,by rw[tilM_grp];exact he⟩,fun x hx he=>?_⟩
    obtain⟨b,hb,rfl⟩:=List.mem_map.1 hx;rw[tilM_grp]at he;rw[tilM_til]
    split
    ·rfl
    ·exact hz b hb he
   ·simp at hg;subst hg;refine⟨⟨tilM m.num 0 m,List.mem_map_of_mem hm,tilM_grp _ _ _⟩,fun x hx he=>?_⟩
    obtain⟨b,hb,rfl⟩:=List.mem_map.1 hx;rw[tilM_grp]at he;exact h.zero hm ht hb he
  ·rintro ⟨⟨x,hx,hxg⟩,hz⟩
   by_cases e:g=m.grp
   ·exact List.mem_append.2 (.inr (by simp[e]))
   ·refine List.mem_append.2 (.inl ((h.rr g).2 ⟨?_,fun b hb he=>?_⟩))
    ·obtain⟨a,ha,rfl⟩:=List.mem_map.1 hx;rw[tilM_grp]at hxg;exact⟨a,ha,hxg⟩
    ·have h1:=hz _ (List.mem_map_of_mem hb) (by rw[tilM_grp];exact he);rw[tilM_til]at h1
     split at h1
     ·rename_i hn
      have:=num_inj h.nums hb hm hn;subst this;exact absurd he.symm e
     ·exact h1
theorem QW.out (h:QW i Q){num:Int}{m:Ms}(hf:Q.ms.find? (isN num)=some m)(ht:0<m.til):QW i {tilQ Q num 0 with ms:=(tilQ Q num 0).ms.filter (fun x=>!isG m.grp x)}:=by
 obtain⟨hm,hn⟩:=find_mem hf;subst hn;rw[tilQ_eq Q h.nums];have hmem:∀x,x∈(Q.ms.map (tilM m.num 0)).filter (fun x=>!isG m.grp x)↔x∈Q.ms.map (tilM m.num 0)/\x.grp≠m.grp:=fun x=>by
  rw[List.mem_filter];refine and_congr_right (fun _=>?_);rw[Bool.not_eq_true',<-Bool.not_eq_true,isG_iff]
 refine {c:=h.c,nx:=h.nx,mq:=?_,nums:=ups_filter (ups_map h.nums _ (tilM_num _ _)) _,mok:=fun x hx=>h.msT ⟨by omega,by omega⟩ x ((hmem x).1 hx).1,hd:=fun x hx ht y hy he=>h.hdT m.num x ((hmem x).1 hx).1 ht y ((hmem y).1 hy).1 he,rn:=h.rn,rr:=?_,dn:=h.dn,dok:=h.dok,al:=h.al,aok:=h.aok}
 ·have h1:=List.length_filter_le (fun x=>!isG m.grp x) (Q.ms.map (tilM m.num 0));have h2:=h.mq;rw[List.length_map]at h1
  show (((Q.ms.map (tilM m.num 0)).filter (fun x=>!isG m.grp x)).length:Int)<=Q.c.quo
  omega
 ·intro g
  show g∈Q.rs↔(∃x∈(Q.ms.map (tilM m.num 0)).filter (fun x=>!isG m.grp x),x.grp=g)/\∀x∈(Q.ms.map (tilM m.num 0)).filter (fun x=>!isG m.grp x),x.grp=g->x.til=0
  constructor
  ·intro hg;obtain⟨⟨a,ha,he⟩,hz⟩:=(h.rr g).1 hg;have hne:g≠m.grp:=fun e=>h.nr hm ht (e▸hg)
   refine⟨⟨tilM m.num 0 a,(hmem _).2 ⟨List.mem_map_of_mem ha,by rw[tilM_grp,he];exact hne⟩,by rw[tilM_grp];exact he⟩,fun x hx he=>?_⟩
   obtain⟨b,hb,rfl⟩:=List.mem_map.1 ((hmem x).1 hx).1;rw[tilM_grp]at he;rw[tilM_til]
   split
   ·rfl
   ·exact hz b hb he
  ·rintro ⟨⟨x,hx,hxg⟩,hz⟩;obtain⟨h1,h2⟩:=(hmem x).1 hx;obtain⟨a,ha,rfl⟩:=List.mem_map.1 h1;rw[tilM_grp]at hxg h2;refine(h.rr g).2 ⟨⟨a,ha,hxg⟩,fun b hb he=>?_⟩
   have h3:=hz (tilM m.num 0 b) ((hmem _).2 ⟨List.mem_map_of_mem hb,by rw[tilM_grp,he,<-hxg];exact h2⟩) (by rw[tilM_grp];exact he);rw[tilM_til]at h3
   split at h3
   ·rename_i hn
    have:=num_inj h.nums hb hm hn;subst this;rw[hxg]at h2;exact absurd he.symm h2
   ·exact h3
theorem QW.put (h:QW i Q){g b:ByteArray}(hq:(Q.ms.length:Int)+1<=Q.c.quo)(hn:Q.next<=200)(hg:1<=g.size/\g.size<=8)(hb:b.size<=40):QW i (putQ Q g b):=by
 have hmem:∀x,x∈Q.ms++[⟨(Q.next:Nat),g,b,0,0⟩]↔x∈Q.ms\/x=⟨(Q.next:Nat),g,b,0,0⟩:=fun x=>by simp
 have hnx:=h.nx;refine {c:=h.c,nx:=⟨by show 1<=Q.next+1;omega,by show Q.next+1<=201;omega⟩,mq:=by show ((Q.ms++[_]).length:Int)<=Q.c.quo;simpa using hq,nums:=?_,mok:=fun x hx=>?_,hd:=fun x hx ht y hy he=>?_,rn:=?_,rr:=?_,dn:=h.dn,dok:=fun d hd=>⟨(h.dok d hd).1,⟨(h.dok d hd).2.1.1,by have:=(h.dok d hd).2.1.2;show d.num<((Q.next+1:Nat):Int);omega⟩,(h.dok d hd).2.2⟩,al:=h.al,aok:=h.aok}
 ·show Ups (Q.ms++[_])
  rw[Ups,List.pairwise_append];refine⟨h.nums,by simp,fun a ha c hc=>?_⟩
  simp at hc;subst hc;exact(h.mok a ha).num.2
 ·rcases(hmem x).1 hx with hx|rfl
  ·exact(h.mok x hx).mono (by show Q.next<=Q.next+1;omega)
  ·exact⟨⟨by show (1:Int)<=(Q.next:Nat);omega,by show ((Q.next:Nat):Int)<((Q.next+1:Nat):Int);omega⟩,hg,hb,⟨by show (0:Int)<=0;omega,by show (0:Int)<=65535;omega⟩,⟨by show (0:Int)<=0;omega,by show (0:Int)<=61000;omega⟩⟩
 ·rcases(hmem x).1 hx with hx|rfl
  ·rcases(hmem y).1 hy with hy|rfl
   ·exact h.hd x hx ht y hy he
   ·have:=(h.mok x hx).num.2
    show x.num<=((Q.next:Nat):Int)
    omega
  ·exact absurd ht (by show ¬(0:Int)<0;omega)
 ·show (if idxL (isG g) Q.ms<0 then Q.rs++[g] else Q.rs).Nodup
  split
  ·rename_i hneg
   rw[List.nodup_append];refine⟨h.rn,by simp,fun a ha c hc=>?_⟩
   simp at hc;subst hc;intro e;subst e;obtain⟨⟨m,hm,he⟩,_⟩:=(h.rr a).1 ha;have:=(idxL_neg _ _).1 hneg m hm;rw[(isG_iff a m).2 he]at this;simp at this
  ·exact h.rn
 ·intro g'
  show g'∈(if idxL (isG g) Q.ms<0 then Q.rs++[g] else Q.rs)↔(∃x∈Q.ms++[⟨(Q.next:Nat),g,b,0,0⟩],x.grp=g')/\∀x∈Q.ms++[⟨(Q.next:Nat),g,b,0,0⟩],x.grp=g'->x.til=0
  have hall:(∀x∈Q.ms++[(⟨(Q.next:Nat),g,b,0,0⟩:Ms)],x.grp=g'->x.til=0)↔∀x∈Q.ms,x.grp=g'->x.til=0:=by
   constructor
   ·intro h1 x hx;exact h1 x ((hmem x).2 (.inl hx))
   ·intro h1 x hx he;rcases(hmem x).1 hx with hx|rfl
    ·exact h1 x hx he
    ·rfl
  rw[hall]
  by_cases hneg:idxL (isG g) Q.ms<0
  ·rw[if_pos hneg];have hno:∀m∈Q.ms,m.grp≠g:=fun m hm he=>by
    have:=(idxL_neg _ _).1 hneg m hm;rw[(isG_iff g m).2 he]at this;simp at this
   constructor
   ·intro hg';rcases List.mem_append.1 hg' with hg'|hg'
    ·obtain⟨⟨m,hm,he⟩,hz⟩:=(h.rr g').1 hg';exact⟨⟨m,(hmem m).2 (.inl hm),he⟩,hz⟩
    ·simp at hg';subst hg';exact⟨⟨_,(hmem _).2 (.inr rfl),rfl⟩,fun x hx he=>absurd he (hno x hx)⟩
   ·rintro ⟨⟨x,hx,he⟩,hz⟩;rcases(hmem x).1 hx with hx|rfl
    ·exact List.mem_append.2 (.inl ((h.rr g').2 ⟨⟨x,hx,he⟩,hz⟩))
    ·exact List.mem_append.2 (.inr (by simp[<-he]))
  ·rw[if_neg hneg];obtain⟨m0,hm0,he0⟩:=(idxL_ex (isG g) Q.ms).1 (by omega);rw[isG_iff]at he0;constructor
   ·intro hg';obtain⟨⟨m,hm,he⟩,hz⟩:=(h.rr g').1 hg';exact⟨⟨m,(hmem m).2 (.inl hm),he⟩,hz⟩
   ·rintro ⟨⟨x,hx,he⟩,hz⟩;refine(h.rr g').2 ⟨?_,hz⟩;rcases(hmem x).1 hx with hx|rfl
    ·exact⟨x,hx,he⟩
    ·exact⟨m0,hm0,he0.trans he⟩
theorem QW.putL:∀(l:List Ms) {T:QM},QW j T->(T.ms.length:Int)+l.length<=T.c.quo->T.next+l.length<=201->(∀m∈l,(1<=m.grp.size/\m.grp.size<=8)/\m.bod.size<=40)->QW j (putL T l)
 | [],T,h,_,_,_=>h
 | m::l,T,h,h1,h2,h3=>by
  rw[List.length_cons]at h1 h2;have h4:=h3 m List.mem_cons_self;have hp:=h.put (g:=m.grp) (b:=m.bod) (by omega) (by omega) h4.1 h4.2;refine QW.putL l (T:=putQ T m.grp m.bod) hp ?_ ?_ (fun x hx=>h3 x (List.mem_cons_of_mem _ hx))
  ·show ((T.ms++[_]).length:Int)+l.length<=T.c.quo
   rw[List.length_append];simp;omega
  ·show T.next+1+l.length<=201
   omega
def WFc (c:Nat->Option QM):Prop:=∀i Q,i<8->c i=some Q->QW i Q
theorem WFc.set {c:Nat->Option QM}(h:WFc c){i:Nat}{Q:QM}(hQ:QW i Q):WFc (setC c i (some Q)):=fun j T hj hT=>by
 by_cases e:j=i
 ·subst e;rw[setC_same]at hT;injection hT with hT;exact hT▸hQ
 ·rw[setC_ne _ _ e]at hT;exact h j T hj hT
theorem find_til (h:Ups l){num num':Int}(hne:num'≠num){m:Ms}(hf:l.find? (isN num')=some m):(l.map (tilM num 0)).find? (isN num')=some m:=by
 obtain⟨hm,hn⟩:=find_mem hf;have e:tilM num 0 m=m:=by
  unfold tilM;rw[if_neg];intro e;have:=(isN_iff num m).1 e;omega
 have h1:=find_num _ (ups_map h (tilM num 0) (tilM_num _ _)) m (by rw[<-e];exact List.mem_map_of_mem hm);rw[<-hn];exact h1
theorem back_wf {c:Nat->Option QM}(hW:WFc c)(hi:i<8)(hQ:c i=some Q)(hf:Q.ms.find? (isN num)=some m)(ht:0<m.til):
  WFc (backC c i num)/\(∃Q',backC c i num i=some Q'/\Q'.c=Q.c/\∀num',num'≠num->∀m',Q.ms.find? (isN num')=some m'->0<m'.til->Q'.ms.find? (isN num')=some m'):=by
 have h:=hW i Q hi hQ;obtain⟨hm,hn⟩:=find_mem hf;have hb:backC c i num=match deadC c Q.c with
   | none=>setC c i (some (readyQ (tilQ Q num 0) m.grp))
   | some (j,T)=>if upQ Q.c m.rcv=true/\roomQ T (cntG m.grp (tilQ Q num 0).ms)=true then
     setC (setC c i (some {tilQ Q num 0 with ms:=(tilQ Q num 0).ms.filter (fun x=>!isG m.grp x)})) j (some (putL T ((tilQ Q num 0).ms.filter (isG m.grp))))
    else setC c i (some (readyQ (tilQ Q num 0) m.grp)):=by
  unfold backC;rw[hQ];simp only[hf];rfl
 have hR:WFc (setC c i (some (readyQ (tilQ Q num 0) m.grp)))/\(∃Q',setC c i (some (readyQ (tilQ Q num 0) m.grp)) i=some Q'/\Q'.c=Q.c/\∀num',num'≠num->∀m',Q.ms.find? (isN num')=some m'->0<m'.til->Q'.ms.find? (isN num')=some m'):=by
  refine⟨hW.set (h.ready hf ht),_,setC_same _ _ _,tilQ_c _ _ _,fun num' hne m' hf' _=>?_⟩
  show (tilQ Q num 0).ms.find? (isN num')=some m'
  rw[til_map Q h.nums];exact find_til h.nums hne hf'
 rw[hb]
 cases hd:deadC c Q.c with
 | none=>exact hR
 | some p=>
  obtain⟨j,T⟩:=p
  show WFc (if _ then _ else _)/\_
  by_cases hc:upQ Q.c m.rcv=true/\roomQ T (cntG m.grp (tilQ Q num 0).ms)=true
  ·simp only[hc,and_self,if_true];have hjT:deadJ Q.c=some j/\c j=some T:=by
    unfold deadC at hd;obtain⟨j',h1,h2⟩:=Option.bind_eq_some_iff.1 hd;obtain⟨T',h3,h4⟩:=Option.map_eq_some_iff.1 h2;injection h4 with h5 h6;subst h5;subst h6;exact⟨h1,h3⟩
   have hj:j<8/\j≠i:=by
    have h1:=hjT.1;rcases h.c.d with h2|⟨j',h2,h3,h4⟩
    ·unfold deadJ at h1;rw[if_pos h2]at h1;simp at h1
    ·unfold deadJ at h1
     split at h1
     ·simp at h1
     ·injection h1 with h1;constructor<;>omega
   have hT:=hW j T hj.1 hjT.2;have hroom:=hc.2;unfold roomQ at hroom;simp only[Bool.and_eq_true,decide_eq_true_eq]at hroom;refine⟨(hW.set (h.out hf ht)).set (QW.putL _ hT ?_ ?_ (fun x hx=>?_)),{tilQ Q num 0 with ms:=(tilQ Q num 0).ms.filter (fun x=>!isG m.grp x)},by rw[setC_ne _ _ (Ne.symm hj.2),setC_same],tilQ_c _ _ _,fun num' hne m' hf' ht'=>?_⟩
   ·show (T.ms.length:Int)+(cntG m.grp (tilQ Q num 0).ms:Nat)<=T.c.quo
    omega
   ·exact hroom.2
   ·rw[til_map Q h.nums]at hx;have h1:=h.msT (num:=num) (til:=0) ⟨by omega,by omega⟩ x (List.mem_filter.1 hx).1;exact⟨h1.grp,h1.bod⟩
   ·show ((tilQ Q num 0).ms.filter (fun x=>!isG m.grp x)).find? (isN num')=some m'
    rw[til_map Q h.nums];have h1:=find_til h.nums hne hf';obtain⟨h2,h3⟩:=find_mem h1;have h4:=find_num _ (ups_filter (ups_map h.nums (tilM num 0) (tilM_num _ _)) (fun x=>!isG m.grp x)) m' (List.mem_filter.2 ⟨h2,by
     rw[Bool.not_eq_true',<-Bool.not_eq_true,isG_iff];intro he;have h5:=h.one (find_mem hf').1 hm ht' ht he;rw[h5]at h3;omega⟩)
    rw[h3]at h4;exact h4
  ·simp only[hc,if_false];exact hR
def leMs (a b:Ms):Bool:=decide (a.til<b.til\/a.til=b.til/\a.num<=b.num)
def dueS (now:Int)(l:List Ms):List Ms:=(dueL now l).mergeSort leMs
def dueN (now:Int)(l:List Ms):List Int:=(dueS now l).map Ms.num
theorem asc_pair (h:Asc l):l.Pairwise (fun a b=>leMs a b=true):=by
 rw[List.pairwise_iff_getElem];intro i j hi hj hij;have h1:=h i j hi hj hij;unfold ltMs at h1;unfold leMs;rw[decide_eq_true_eq];omega
theorem due_unique {l':List Ms}(hu:Ups l)(hp:l'.Perm (dueL now l))(ha:Asc l'):l'=dueS now l:=by
 have h1:(dueS now l).Perm (dueL now l):=List.mergeSort_perm _ _;have h2:(dueS now l).Pairwise (fun a b=>leMs a b=true):=List.pairwise_mergeSort (fun a b c h1 h2=>by
  unfold leMs at*
  rw[decide_eq_true_eq] at*
  omega) (fun a b=>by
  unfold leMs;rw[Bool.or_eq_true,decide_eq_true_eq,decide_eq_true_eq];omega) _
 refine List.Perm.eq_of_pairwise (le:=fun a b=>leMs a b=true) (fun a b hla hlb hab hba=>?_) (asc_pair ha) h2 (hp.trans h1.symm);have ma:a∈l:=(List.mem_filter.1 (hp.subset hla)).1;have mb:b∈l:=(List.mem_filter.1 (h1.subset hlb)).1;refine num_inj hu ma mb ?_;unfold leMs at hab hba;rw[decide_eq_true_eq]at hab hba;omega
theorem dueS_mem (h:m∈dueS now l):m∈l/\0<m.til/\m.til<=now:=by
 have h1:(dueS now l).Perm (dueL now l):=List.mergeSort_perm _ _;have h2:=List.mem_filter.1 (h1.subset h);exact⟨h2.1,by simpa using h2.2⟩
theorem ups_nodup (h:Ups l):(l.map Ms.num).Nodup:=by
 rw[List.Nodup,List.pairwise_map];exact h.imp (fun {a b} hab=>by omega)
theorem dueN_nodup (h:Ups l):(dueN now l).Nodup:=by
 have h1:(dueS now l).Perm (dueL now l):=List.mergeSort_perm _ _;exact(h1.map Ms.num).nodup_iff.2 (ups_nodup (ups_filter h _))
def bringC (now:Int)(c:Nat->Option QM)(i:Nat):Nat->Option QM:=
 match c i with
 | none=>c
 | some Q=>(dueN now Q.ms).foldl (fun c n=>backC c i n) c
theorem deadOf_sg {B:Nat}{st b:Nat}{col:Nat->Nat}(h:SG B w st b now Z col){i:Nat}(hi:i<8){x:BQ}(hx:Z i=some x)(hd:DeadOk i x.Q.c):
  zE 157 #[.pointer (some ⟨st,0,none⟩),.pointer (some ⟨x.qb,0,none⟩)] w (dvZ Z x.Q.c):=by
 have hq:=h.qr i x hi hx;have c1:w.cell? ⟨x.qb,1,none⟩=some (.int .u8 (x.Q.c.d.toNat:Int)):=cell_qC hq.blk 1 _ rfl;rcases hd with hd|⟨j,hj,hji,hd⟩
 ·have e1:deadJ x.Q.c=none:=if_pos hd;have e3:dvZ Z x.Q.c=.pointer none:=by unfold dvZ;rw[e1];rfl
  rw[e3];rw[hd]at c1;exact deadOf_none st x.qb w c1
 ·have hne:x.Q.c.d≠45:=fun e=>by rw[e]at hd;simp at hd;omega
  have e1:deadJ x.Q.c=some j:=by unfold deadJ;rw[if_neg hne,hd];congr 1;omega
  have e3:dvZ Z x.Q.c=ptrV (ptZ Z j):=by unfold dvZ;rw[e1];rfl
  rw[e3];rw[hd]at c1;exact deadOf_some st b x.qb j now (fun i=>ptrV (ptZ Z i)) w h.stb hj (by rw[c1];congr 2)
theorem dvZ_eq (h:ptZ Z'=ptZ Z)(c:Wp.Rq):dvZ Z' c=dvZ Z c:=by unfold dvZ;rw[h]
theorem ptZ_get (h:ptZ Z'=ptZ Z){i:Nat}{x:BQ}(hx:Z i=some x):∃x',Z' i=some x'/\x'.qb=x.qb:=by
 have h1:=congrFun h i;unfold ptZ at h1;rw[hx]at h1;obtain⟨x',h2,h3⟩:=Option.map_eq_some_iff.1 h1;exact⟨x',h2,h3⟩
theorem WFc.bd {c:Nat->Option QM}(h:WFc c):∀j T,j<8->c j=some T->T.ms.length<=100/\T.rs.length<=100/\T.next<=201:=fun j T hj hT=>by
 have h1:=h j T hj hT;have h2:=h1.ml;have h3:=h1.rl;exact⟨by omega,by omega,h1.nx.2⟩
theorem bring_sg (B st b i:Nat)(now:Int)(Z:Nat->Option BQ)(col:Nat->Nat)(w:World)(h:SG B w st b now Z col)(hB:B<=w.heap.size)(hi:i<8)(x:BQ)(hx:Z i=some x)(hW:WFc (ctZ Z)):
  Calls Tryz.prog 200 #[.pointer (some ⟨st,0,none⟩),.pointer (some ⟨x.qb,0,none⟩)] w fun e w'=>e=.returned (.tuple #[])/\SGn B st b now w w' Z col (bringC now (ctZ Z) i)/\WFc (bringC now (ctZ Z) i):=by
 have hcx:=ctZ_some hx;have hQ:=hW i x.Q hi hcx;have hqr:=h.qr i x hi hx;have hbr:bringC now (ctZ Z) i=(dueN now x.Q.ms).foldl (fun c n=>backC c i n) (ctZ Z):=by unfold bringC;rw[hcx]
 refine bring_walk (fun B' ns W=>∃Z' col',SG B W st b now Z' col'/\ns.foldl (fun c n=>backC c i n) (ctZ Z')=bringC now (ctZ Z) i/\WFc (ctZ Z')/\ptZ Z'=ptZ Z/\Agr w col col'/\Fq B col w W/\(∃S,Tch S w W/\∀k∈S,allK Z k)/\(∀k,allK Z' k->allK Z k\/B'<=k)/\B'<=W.heap.size/\w.heap.size<=B'/\ns.Nodup/\∃Q',ctZ Z' i=some Q'/\Q'.c=x.Q.c/\∀n∈ns,∃m,Q'.ms.find? (isN n)=some m/\0<m.til)
  (fun w'=>SGn B st b now w w' Z col (bringC now (ctZ Z) i)/\WFc (bringC now (ctZ Z) i)) st x.qb now (dvZ Z x.Q.c) w h.stb.now (deadOf_sg h hi hx hQ.c.d) ?_ ?_ ?_
 ·refine(due_any x.Q.ms x.V.m x.qb now w (cell_qC hqr.blk 7 _ rfl) hqr.m (by have:=hQ.ml;omega)).mono ?_;rintro e w' ⟨v',l',rfl,hp,ha,hown,ht⟩;have e1:=due_unique hQ.nums hp ha;subst e1;refine⟨v',dueN now x.Q.ms,rfl,?_,?_,Z,col,h.tch ht,hbr.symm,hW,rfl,Agr.refl _ _,FqT.of_nil col ht hB,⟨[],ht,by simp⟩,fun k hk=>.inl hk,Nat.le_refl _,ht.size,dueN_nodup hQ.nums,x.Q,hcx,rfl,fun n hn=>?_⟩
  ·unfold dueN;rw[List.length_map,List.map_map];exact hown
  ·unfold dueN;rw[List.length_map];have h1:(dueS now x.Q.ms).Perm (dueL now x.Q.ms):=List.mergeSort_perm _ _;rw[h1.length_eq];have h2:=List.length_filter_le (fun m:Ms=>decide (0<m.til/\m.til<=now)) x.Q.ms;have h3:=hQ.ml
   show (List.filter _ _).length<=_
   omega
  ·obtain⟨m,hm,rfl⟩:=List.mem_map.1 hn;obtain⟨h1,h2,_⟩:=dueS_mem hm;exact⟨m,find_num _ hQ.nums m h1,h2⟩
 ·rintro B' n ns W ⟨Z',col',k1,k2,k3,k4,k5,k6,⟨S0,k7,k7'⟩,k8,k9,k10,k11,Q',k12,k13,k14⟩;obtain⟨x',hx',hq'⟩:=ptZ_get k4 hx;have hcx':=ctZ_some hx';rw[hcx']at k12;injection k12 with k12;obtain⟨m,hf,htm⟩:=k14 n List.mem_cons_self;rw[<-k12]at hf;have hdv:dvZ Z x.Q.c=dvZ Z' x'.Q.c:=by rw[dvZ_eq k4,k12,k13]
  rw[hdv,<-hq'];have hQx:=k3 i x'.Q hi hcx';refine(back_sg B st b i now Z' col' W k1 (by omega) hi x' hx' n m hf hQx.c.d k3.bd).mono ?_;rintro e w' ⟨rfl,hn⟩;obtain⟨hwf,Q2,hQ2,hc2,hfl⟩:=back_wf k3 hi hcx' hf htm;obtain⟨Z2,col2,j1,j2,j3,j4,j5,⟨S2,j6,j7⟩,j8⟩:=hn;obtain⟨hnn,hnd⟩:=List.nodup_cons.1 k11;have hsz:=k7.size;have hsz2:=j6.size;have hcomb:∃S,Tch S w w'/\∀k∈S,allK Z k:=by
   refine⟨S0++S2.filter (fun k=>decide (k<w.heap.size)),?_,fun k hk=>?_⟩
   ·exact(k7.sub (S':=S0++S2.filter (fun k=>decide (k<w.heap.size))) (fun y hy _=>List.mem_append.2 (.inl hy))).trans j6 (fun y hy hlt=>List.mem_append.2 (.inr (List.mem_filter.2 ⟨hy,by simpa using hlt⟩)))
   ·rcases List.mem_append.1 hk with hk|hk
    ·exact k7' k hk
    ·obtain⟨h1,h2⟩:=List.mem_filter.1 hk;rcases k8 k (j7 k h1) with h3|h3
     ·exact h3
     ·simp at h2;omega
  refine⟨rfl,⟨Z2,col2,j1,?_,by rw[j2];exact hwf,j3.trans k4,k5.trans j4 hsz,k6.trans k5 j5,hcomb,fun k hk=>?_,by omega,k10,hnd,Q2,by rw[j2];exact hQ2,by rw[hc2,k12,k13],fun n' hn'=>?_⟩,S2,j6,fun k hk=>?_⟩
  ·rw[j2];rw[List.foldl_cons]at k2;exact k2
  ·rcases j8 k hk with h1|h1
   ·exact k8 k h1
   ·exact .inr (by omega)
  ·obtain⟨m',hf',ht'⟩:=k14 n' (List.mem_cons_of_mem _ hn');rw[<-k12]at hf';exact⟨m',hfl n' (fun e=>hnn (e▸hn')) m' hf' ht',ht'⟩
  ·rcases k8 k (j7 k hk) with h1|h1
   ·exact .inl (h.allLt h1)
   ·exact .inr h1
 ·rintro B' W ⟨Z',col',k1,k2,k3,k4,k5,k6,k7,k8,k9,k10,k11,Q',k12,k13,k14⟩;refine⟨⟨Z',col',k1,k2,k4,k5,k6,k7,fun k hk=>?_⟩,by rw[<-k2];exact k3⟩
  rcases k8 k hk with h1|h1
  ·exact .inl h1
  ·exact .inr (by omega)
theorem QW.forg (h:QW i Q)(now:Int):QW i (forgQ now Q):=
 {c:=h.c,nx:=h.nx,mq:=h.mq,nums:=h.nums,mok:=h.mok,hd:=h.hd,rn:=h.rn,rr:=h.rr,dn:=List.Pairwise.sublist List.filter_sublist h.dn,dok:=fun d hd=>h.dok d (List.mem_filter.1 hd).1,al:=Nat.le_trans (List.length_filter_le _ _) h.al,aok:=fun a ha=>h.aok a (List.mem_filter.1 ha).1}
def fgtTo (now:Int)(j:Nat)(c:Nat->Option QM):Nat->Option QM:=fun i=>if i<j then (c i).map (forgQ now) else c i
def timeC (now:Int)(c:Nat->Option QM):Nat->Option QM:=(List.range' 0 8).foldl (bringC now) (fgtTo now 8 c)
def rest8 (P:Nat->Option Nat)(j:Nat):List Nat:=(List.range' j (8-j)).filterMap P
theorem rest_cons' (P:Nat->Option Nat):∀(n j:Nat),j+n=8->∀q qs,(List.range' j n).filterMap P=q::qs->∃j',j<=j'/\j'<8/\P j'=some q/\qs=rest8 P (j'+1)/\∀t,j<=t->t<j'->P t=none
 | 0,j,_,q,qs,h=>by simp at h
 | n+1,j,hn,q,qs,h=>by
  rw[List.range'_succ,List.filterMap_cons]at h
  cases hp:P j with
  | none=>
   rw[hp]at h;obtain⟨j',h1,h2,h3,h4,h5⟩:=rest_cons' P n (j+1) (by omega) q qs h;refine⟨j',by omega,h2,h3,h4,fun t ht1 ht2=>?_⟩
   by_cases e:t=j
   ·rw[e];exact hp
   ·exact h5 t (by omega) ht2
  | some v=>
   rw[hp]at h;injection h with h1 h2;subst h1;refine⟨j,Nat.le_refl _,by omega,hp,?_,fun t ht1 ht2=>by omega⟩
   rw[<-h2];unfold rest8;have e:8-(j+1)=n:=by omega
   rw[e]
theorem rest_cons (hj:j<=8){q:Nat}{qs:List Nat}(h:q::qs=rest8 P j):∃j',j<=j'/\j'<8/\P j'=some q/\qs=rest8 P (j'+1)/\∀t,j<=t->t<j'->P t=none:=
 rest_cons' P (8-j) j (by omega) q qs h.symm
theorem rest_nil (hj:j<=8)(h:[]=rest8 P j):∀t,j<=t->t<8->P t=none:=fun t h1 h2=>by
 have h3:=List.filterMap_eq_nil_iff.1 h.symm t (List.mem_range'.2 ⟨t-j,by omega,by omega⟩);exact h3
theorem qsL_rest (P:Nat->Option Nat):qsL P 8=rest8 P 0:=by
 unfold qsL rest8;rw[List.range_eq_range']
theorem fold_skip (now:Int)(c:Nat->Option QM):∀(n j:Nat),j+n<=8->(∀t,j<=t->t<j+n->c t=none)->(List.range' j (8-j)).foldl (bringC now) c=(List.range' (j+n) (8-(j+n))).foldl (bringC now) c
 | 0,j,_,_=>rfl
 | n+1,j,hj,h=>by
  have e:8-j=(8-(j+1))+1:=by omega
  rw[e,List.range'_succ,List.foldl_cons];have e2:bringC now c j=c:=by
   unfold bringC;rw[h j (Nat.le_refl _) (by omega)]
  rw[e2,fold_skip now c n (j+1) (by omega) (fun t h1 h2=>h t (by omega) (by omega))];have e3:j+1+n=j+(n+1):=by omega
  rw[e3]
theorem pt_ct (h:ptZ Z t=none):ctZ Z t=none:=by
 unfold ptZ at h;unfold ctZ
 cases hz:Z t with
 | none=>rfl
 | some x=>rw[hz]at h;simp at h
theorem pt_get (h:ptZ Z t=some q):∃x,Z t=some x/\x.qb=q:=Option.map_eq_some_iff.1 h
theorem pt_none (h:ptZ Z'=ptZ Z){t:Nat}(ht:ptZ Z t=none):ctZ Z' t=none:=pt_ct (by rw[h];exact ht)
theorem set_sg (B st b:Nat)(now0 now:Int)(Z:Nat->Option BQ)(col:Nat->Nat)(w:World)(h:SG B w st b now0 Z col)(hB:B<=w.heap.size)(hW:WFc (ctZ Z)):
  Calls Tryz.prog 174 #[.pointer (some ⟨st,0,none⟩),.int .i64 now] w fun e w'=>e=.returned (.tuple #[])/\∃Z' col',SG B w' st b now Z' col'/\ctZ Z'=timeC now (ctZ Z)/\WFc (ctZ Z')/\ptZ Z'=ptZ Z/\Agr w col col'/\Fq B col w w':=by
 have hWf:WFc (fgtTo now 8 (ctZ Z)):=fun i Q hi hQ=>by
  unfold fgtTo at hQ;rw[if_pos hi]at hQ;obtain⟨Q0,h1,h2⟩:=Option.map_eq_some_iff.1 hQ;rw[<-h2];exact(hW i Q0 hi h1).forg now
 refine setg_walk
  (fun B' qs W=>∃j,j<=8/\qs=rest8 (ptZ Z) j/\∃Z' col',SG B W st b now Z' col'/\ctZ Z'=fgtTo now j (ctZ Z)/\ptZ Z'=ptZ Z/\Agr w col col'/\Fq B col w W/\(∀k,allK Z' k->k<w.heap.size\/B'<=k)/\B'<=W.heap.size)
  (fun A B' qs W=>∃j,j<=8/\qs=rest8 (ptZ Z) j/\∃Z' col',SG B W st b now Z' col'/\(List.range' j (8-j)).foldl (bringC now) (ctZ Z')=timeC now (ctZ Z)/\WFc (ctZ Z')/\ptZ Z'=ptZ Z/\Agr w col col'/\Fq B col w W/\(∀k,allK Z' k->k<A\/B'<=k)/\B'<=W.heap.size)
  (fun w'=>∃Z' col',SG B w' st b now Z' col'/\ctZ Z'=timeC now (ctZ Z)/\WFc (ctZ Z')/\ptZ Z'=ptZ Z/\Agr w col col'/\Fq B col w w') st b now0 now (ptZ Z) w h.stb ?_ ?_ ?_ ?_ ?_
 ·intro W ht;refine⟨0,by omega,qsL_rest _,Z,col,(h.time now).tch ht,?_,rfl,Agr.refl _ _,(h.timeF hB now).trans (Agr.refl _ _) (FqT.of_nil col ht (by rw[World.size_setCell];exact hB)),fun k hk=>.inl (h.allLt hk),Nat.le_refl _⟩
  funext t;unfold fgtTo;rw[if_neg (by omega)]
 ·rintro B' q qs W ⟨j,hj,hqs,Z',col',k1,k2,k3,k4,k5,k6,k7⟩;obtain⟨j',h1,h2,h3,h4,h5⟩:=rest_cons hj hqs;have h3':ptZ Z' j'=some q:=by rw[k3];exact h3
  obtain⟨x',hx',rfl⟩:=pt_get h3';have hcx':=ctZ_some hx';have hcz:ctZ Z j'=some x'.Q:=by
   rw[k2]at hcx';unfold fgtTo at hcx';rw[if_neg (by omega)]at hcx';exact hcx'
  have hQ:=hW j' x'.Q h2 hcz;have hsz:=k5.size;refine(forget_any x'.Q x'.V x'.qb now W (k1.qr j' x' h2 hx') (by have:=hQ.dl;omega) (by have:=hQ.al;omega)).mono ?_;rintro e w' ⟨rfl,hql⟩;obtain⟨Z2,col2,j1,j2,j3,j4,j5,⟨S2,j6,j7⟩,j8⟩:=k1.updn (by omega) h2 hx' hql;have hsz2:=j6.size;refine⟨rfl,⟨j'+1,by omega,h4,Z2,col2,j1,?_,j3.trans k3,k4.trans j4 hsz,k5.trans k4 j5,fun k hk=>?_,by omega⟩,S2,j6,fun k hk=>k6 k (j7 k hk)⟩
  ·rw[j2,k2];funext t
   by_cases e1:t=j'
   ·subst e1;rw[setC_same];unfold fgtTo;rw[if_pos (by omega),hcz];rfl
   ·rw[setC_ne _ _ e1];unfold fgtTo
    by_cases e2:t<j
    ·rw[if_pos e2,if_pos (by omega)]
    ·rw[if_neg e2]
     by_cases e3:t<j'
     ·rw[if_pos (by omega),pt_ct (h5 t (by omega) e3)];rfl
     ·rw[if_neg (by omega)]
  ·rcases j8 k hk with h6|h6
   ·exact k6 k h6
   ·exact .inr (by omega)
 ·rintro B' W ⟨j,hj,hqs,Z',col',k1,k2,k3,k4,k5,k6,k7⟩;have hall:ctZ Z'=fgtTo now 8 (ctZ Z):=by
   rw[k2];funext t;unfold fgtTo
   by_cases e2:t<j
   ·rw[if_pos e2,if_pos (by omega)]
   ·rw[if_neg e2]
    by_cases e3:t<8
    ·rw[if_pos e3,pt_ct (rest_nil hj hqs t (by omega) e3)];rfl
    ·rw[if_neg e3]
  refine⟨by rw[<-k3];exact k1.stb,fun W' ht=>⟨0,by omega,qsL_rest _,Z',col',k1.tch ht,?_,by rw[hall];exact hWf,k3,k4,k5.trans k4 (FqT.of_nil col' ht (by have:=k5.size;omega)),fun k hk=>.inl (k1.allLt hk),Nat.le_refl _⟩⟩
  rw[hall];rfl
 ·rintro A B' q qs W ⟨j,hj,hqs,Z',col',k1,k2,kw,k3,k4,k5,k6,k7⟩;obtain⟨j',h1,h2,h3,h4,h5⟩:=rest_cons hj hqs;have h3':ptZ Z' j'=some q:=by rw[k3];exact h3
  obtain⟨x',hx',rfl⟩:=pt_get h3';have hsz:=k5.size;refine(bring_sg B st b j' now Z' col' W k1 (by omega) h2 x' hx' kw).mono ?_;rintro e w' ⟨rfl,⟨Z2,col2,j1,j2,j3,j4,j5,⟨S2,j6,j7⟩,j8⟩,hwf⟩;have hsz2:=j6.size;refine⟨rfl,⟨j'+1,by omega,h4,Z2,col2,j1,?_,by rw[j2];exact hwf,j3.trans k3,k4.trans j4 hsz,k5.trans k4 j5,fun k hk=>?_,by omega⟩,S2,j6,fun k hk=>k6 k (j7 k hk)⟩
  ·rw[j2,<-k2];have e0:j+(j' - j)=j':=by omega
   have e1:=fold_skip now (ctZ Z') (j' - j) j (by omega) (fun t ht1 ht2=>pt_none k3 (h5 t ht1 (by omega)));rw[e1,e0];have e:8-j'=(8-(j'+1))+1:=by omega
   rw[e,List.range'_succ,List.foldl_cons]
  ·rcases j8 k hk with h6|h6
   ·exact k6 k h6
   ·exact .inr (by omega)
 ·rintro A B' W ⟨j,hj,hqs,Z',col',k1,k2,kw,k3,k4,k5,k6,k7⟩;refine⟨Z',col',k1,?_,kw,k3,k4,k5⟩;have e1:=fold_skip now (ctZ Z') (8-j) j (by omega) (fun t ht1 ht2=>pt_none k3 (rest_nil hj hqs t ht1 (by omega)));rw[e1]at k2;have e0:j+(8-j)=8:=by omega
  rw[e0]at k2;exact k2
def fileO:Option ByteArray->List Dk.DF
 | none=>[]
 | some data=>[⟨jn,data,data.size⟩]
def datO (o:Option ByteArray):ByteArray:=o.getD ⟨#[]⟩
def Stx (w w':World)(d:Nat)(v:Value)(fs:List Dk.DF)(n k:Nat):Prop:=∃v',Dd0 w' d v' fs/\Gd0 fs n k/\Tch (Dk.bl d v) w w'/\∀b,v'.ownBlock=some b->v.ownBlock=some b\/w.heap.size<=b
theorem app_x (d:Nat)(v:Value)(fs:List Dk.DF)(n k:Nat)(name data:ByteArray)(w:World)(h:Dd0 w d v fs)(hg:Gd0 fs n k)(hn:n<=1000)(hk:k+data.size<=1073741824):
  Calls Tryz.prog 69 #[.pointer (some ⟨d,0,none⟩),.string name,.string data] w fun e w'=>e=.returned (.bool true)/\Stx w w' d v (Dk.appF name data fs) (n+1) (k+data.size):=by
 refine(Dk.append_d d v ⟨fs,-1,false⟩ name data w h hg.left (by have:=hg.fs;omega) (fun f hf=>by have:=(hg.sz f hf).2;omega) (by omega)).mono ?_;rintro e w' ⟨rfl,v',hd,ht,hb⟩;exact⟨rfl,v',hd,Dk.good_app hg name data,ht,hb⟩
theorem sync_x (d:Nat)(v:Value)(fs:List Dk.DF)(n k:Nat)(name:ByteArray)(w:World)(h:Dd0 w d v fs)(hg:Gd0 fs n k)(hn:n<=1001)(hk:k<=1073741824):
  Calls Tryz.prog 70 #[.pointer (some ⟨d,0,none⟩),.string name] w fun e w'=>e=.returned (.bool true)/\Stx w w' d v (Dk.syncF name fs) n k:=by
 refine(Dk.sync_d d v ⟨fs,-1,false⟩ name w h hg.left (by have:=hg.fs;omega) (fun f hf=>by have:=(hg.sz f hf).2;omega)).mono ?_;rintro e w' ⟨rfl,v',hd,ht,hb⟩;exact⟨rfl,v',hd,Dk.good_sync hg name,ht,hb⟩
theorem ren_x (d:Nat)(v:Value)(fs:List Dk.DF)(n k:Nat)(frm tu:ByteArray)(w:World)(h:Dd0 w d v fs)(hg:Gd0 fs n k)(hn:n<=1001):
  Calls Tryz.prog 93 #[.pointer (some ⟨d,0,none⟩),.string frm,.string tu] w fun e w'=>e=.returned (.bool true)/\Stx w w' d v (Dk.renF frm tu fs) n k:=by
 refine(Dk.rename_d d v ⟨fs,-1,false⟩ frm tu w h hg.left (by have:=hg.fs;omega)).mono ?_;rintro e w' ⟨rfl,v',hd,ht,hb⟩;exact⟨rfl,v',hd,Dk.good_ren hg frm tu,ht,hb⟩
def Jy (w w':World)(j d:Nat)(v:Value)(room:Int)(fs:List Dk.DF):Prop:=∃v' n k,Jr w' j d room v' fs n k/\Tch (jbl j d v) w w'/\∀b,v'.ownBlock=some b->v.ownBlock=some b\/w.heap.size<=b
theorem Stx.jy {w':World}{room:Int}{fs fs':List Dk.DF}{n k n' k':Nat}(h:Jr w j d room v fs n k)(hs:Stx w w' d v fs' n' k'):∃v',Jr w' j d room v' fs' n' k'/\Tch (jbl j d v) w w'/\∀b,v'.ownBlock=some b->v.ownBlock=some b\/w.heap.size<=b:=by
 obtain⟨v',hd,hg,ht,hb⟩:=hs;exact⟨v',⟨(ht.block _ (lt_of_block h.hj) h.ne).trans h.hj,hd,hg⟩,ht.sub (fun x hx _=>List.mem_cons_of_mem _ hx),hb⟩
theorem Jy.trans {a b c:World}{v1:Value}{r2:Int}{fs2:List Dk.DF}(h1:Tch (jbl j d v) a b)(hv:∀x,v1.ownBlock=some x->v.ownBlock=some x\/a.heap.size<=x)(h2:Jy b c j d v1 r2 fs2):Jy a c j d v r2 fs2:=by
 obtain⟨v',n',k',hj,ht,hb⟩:=h2;refine⟨v',n',k',hj,h1.trans ht (fun x hx hlt=>?_),fun x hx=>?_⟩
 ·rcases List.mem_cons.1 hx with e|e
  ·rw[e];simp[jbl]
  ·rcases List.mem_cons.1 e with e|e
   ·rw[e];simp[jbl,Dk.bl]
   ·rcases hv x (by simpa [Option.mem_toList]using e) with h|h
    ·simp[jbl,Dk.bl,h]
    ·omega
 ·rcases hb x hx with h|h
  ·exact hv x h
  ·exact .inr (Nat.le_trans h1.size h)
theorem add_x (j d:Nat)(room:Int)(v:Value)(fs:List Dk.DF)(n k:Nat)(bytes:ByteArray)(w:World)(h:Jr w j d room v fs n k)(hn:n<=900)(hk:k+bytes.size<=1073741824)(hr:-1073741824<=room/\room<=1073741824)(hb:bytes.size<=1073741824):
  Calls Tryz.prog 45 #[.pointer (some ⟨j,0,none⟩),.string bytes] w fun e w'=>e=.returned (.bool true)/\Jy w w' j d v (room-bytes.size) (Dk.syncF jn (Dk.appF jn bytes fs)):=by
 have hJ1:=h.set1 (room-bytes.size);have HA:Hid (Calls Tryz.prog 69 #[.pointer (some ⟨d,0,none⟩),.string jn,.string bytes] (w.setCell ⟨j,1,none⟩ (.int .i64 (room-bytes.size))) fun e w'=>e=.returned (.bool true)/\Stx (w.setCell ⟨j,1,none⟩ (.int .i64 (room-bytes.size))) w' d v (Dk.appF jn bytes fs) (n+1) (k+bytes.size)):=app_x d v fs n k jn bytes _ hJ1.dsk hJ1.gd (by omega) hk;have HJ1:=zH hJ1;have c0:=h.c0;have c1:=h.c1;have f1:=h.fz 1;clear h hJ1;go_enter Tryz.func45,Tryz.ntmps45;go_wp2_with fail;refine HA.out.mono ?_;rintro e w2 ⟨rfl,hs⟩;obtain⟨v2,hj2,ht2,hb2⟩:=hs.jy HJ1.out;have HS:Hid (Calls Tryz.prog 70 #[.pointer (some ⟨d,0,none⟩),.string jn] w2 fun e w'=>e=.returned (.bool true)/\Stx w2 w' d v2 (Dk.syncF jn (Dk.appF jn bytes fs)) (n+1) (k+bytes.size)):=sync_x d v2 _ _ _ jn w2 hj2.dsk hj2.gd (by omega) hk;have HJ2:=zH hj2;have HT2:Hid (Tch (jbl j d v) w w2/\∀b,v2.ownBlock=some b->v.ownBlock=some b\/w.heap.size<=b):=by
  refine⟨((Tch.refl _ _).setCell (fun _=>by simp[jbl]) _).trans ht2 (fun _ h _=>h),fun b hb=>?_⟩
  have:=hb2 b hb;simpa using this
 have d0:=hj2.c0;clear hs hj2 ht2 hb2 c0 c1 f1;go_wp2_with fail;refine HS.out.mono ?_;rintro e w3 ⟨rfl,hs⟩;have HL:Hid (Jy w2 w3 j d v2 (room-bytes.size) (Dk.syncF jn (Dk.appF jn bytes fs))):=by
  obtain⟨v3,hj3,ht3,hb3⟩:=hs.jy HJ2.out;exact⟨v3,_,_,hj3,ht3,hb3⟩
 clear hs d0;go_wp2_with fail;go_ret;exact⟨rfl,Jy.trans HT2.out.1 HT2.out.2 HL.out⟩
theorem replace_x (j d:Nat)(room:Int)(v:Value)(fs:List Dk.DF)(n k:Nat)(bytes:ByteArray)(w:World)(h:Jr w j d room v fs n k)(hn:n<=900)(hk:k+bytes.size<=1073741824):
  Calls Tryz.prog 68 #[.pointer (some ⟨j,0,none⟩),.string bytes] w fun e w'=>e=.returned (.bool true)/\Jy w w' j d v room (Dk.renF jw jn (Dk.syncF jw (Dk.appF jw bytes fs))):=by
 have HA:Hid (Calls Tryz.prog 69 #[.pointer (some ⟨d,0,none⟩),.string jw,.string bytes] w fun e w'=>e=.returned (.bool true)/\Stx w w' d v (Dk.appF jw bytes fs) (n+1) (k+bytes.size)):=app_x d v fs n k jw bytes _ h.dsk h.gd (by omega) hk;have HJ:=zH h;have c0:=h.c0;clear h;go_enter Tryz.func68,Tryz.ntmps68;go_wp2_with fail;refine HA.out.mono ?_;rintro e w2 ⟨rfl,hs⟩;obtain⟨v2,hj2,ht2,hb2⟩:=hs.jy HJ.out;have HS:Hid (Calls Tryz.prog 70 #[.pointer (some ⟨d,0,none⟩),.string jw] w2 fun e w'=>e=.returned (.bool true)/\Stx w2 w' d v2 (Dk.syncF jw (Dk.appF jw bytes fs)) (n+1) (k+bytes.size)):=sync_x d v2 _ _ _ jw w2 hj2.dsk hj2.gd (by omega) hk;have HJ2:=zH hj2;have HT2:Hid (Tch (jbl j d v) w w2/\∀b,v2.ownBlock=some b->v.ownBlock=some b\/w.heap.size<=b):=⟨ht2,hb2⟩;have d0:=hj2.c0;clear hs hj2 ht2 hb2 c0;go_wp2_with fail;refine HS.out.mono ?_;rintro e w3 ⟨rfl,hs⟩;obtain⟨v3,hj3,ht3,hb3⟩:=hs.jy HJ2.out;have HR:Hid (Calls Tryz.prog 93 #[.pointer (some ⟨d,0,none⟩),.string jw,.string jn] w3 fun e w'=>e=.returned (.bool true)/\Stx w3 w' d v3 (Dk.renF jw jn (Dk.syncF jw (Dk.appF jw bytes fs))) (n+1) (k+bytes.size)):=ren_x d v3 _ _ _ jw jn w3 hj3.dsk hj3.gd (by omega);have HJ3:=zH hj3;have HT3:Hid (Tch (jbl j d v2) w2 w3/\∀b,v3.ownBlock=some b->v2.ownBlock=some b\/w2.heap.size<=b):=⟨ht3,hb3⟩;have e0:=hj3.c0;clear hs hj3 ht3 hb3 d0;go_wp2_with fail;refine HR.out.mono ?_;rintro e w4 ⟨rfl,hs⟩;have HL:Hid (Jy w3 w4 j d v3 room (Dk.renF jw jn (Dk.syncF jw (Dk.appF jw bytes fs)))):=by
  obtain⟨v4,hj4,ht4,hb4⟩:=hs.jy HJ3.out;exact⟨v4,_,_,hj4,ht4,hb4⟩
 clear hs e0;go_wp2_with fail;go_ret;exact⟨rfl,Jy.trans HT2.out.1 HT2.out.2 (Jy.trans HT3.out.1 HT3.out.2 HL.out)⟩
theorem isN_jj (data:ByteArray)(s:Nat):Dk.isN jn ⟨jn,data,s⟩=true:=by unfold Dk.isN;simp
theorem isN_ww (data:ByteArray)(s:Nat):Dk.isN jw ⟨jw,data,s⟩=true:=by unfold Dk.isN;simp
theorem isN_wj (data:ByteArray)(s:Nat):Dk.isN jw ⟨jn,data,s⟩=false:=by unfold Dk.isN;rw[ByteArray.toList_eq,ByteArray.toList_eq];rfl
theorem isN_jw (data:ByteArray)(s:Nat):Dk.isN jn ⟨jw,data,s⟩=false:=by unfold Dk.isN;rw[ByteArray.toList_eq,ByteArray.toList_eq];rfl
theorem nm_ne:(jw.toList == jn.toList)=false:=by rw[ByteArray.toList_eq,ByteArray.toList_eq];rfl
theorem fnd_jw (o:Option ByteArray):Dk.fnd jw (fileO o)=-1:=by
 cases o with
 | none=>rfl
 | some data=>simp[Dk.fnd,fileO,List.findIdx?_cons,isN_wj]
theorem add_fs (o:Option ByteArray)(bytes:ByteArray):Dk.syncF jn (Dk.appF jn bytes (fileO o))=fileO (some (datO o++bytes)):=by
 have f1:∀(d:ByteArray) (s:Nat),Dk.fnd jn [⟨jn,d,s⟩]=0:=fun d s=>by simp[Dk.fnd,List.findIdx?_cons,isN_jj]
 cases o with
 | none=>
  have e:datO none++bytes=bytes:=Dk.empty_cat bytes;rw[e]
  show Dk.onF jn _ [⟨jn,bytes,0⟩]=_
  simp[Dk.onF,f1,fileO]
 | some data=>
  simp[Dk.syncF,Dk.appF,Dk.onF,f1,fileO,datO]
theorem rep_fs (o:Option ByteArray)(bytes:ByteArray):Dk.renF jw jn (Dk.syncF jw (Dk.appF jw bytes (fileO o)))=fileO (some bytes):=by
 have f1:∀(d:ByteArray) (s:Nat),Dk.fnd jw [⟨jw,d,s⟩]=0:=fun d s=>by simp[Dk.fnd,List.findIdx?_cons,isN_ww]
 have f2:∀(d d':ByteArray) (s s':Nat),Dk.fnd jw [⟨jn,d',s'⟩,⟨jw,d,s⟩]=1:=fun d d' s s'=>by simp[Dk.fnd,List.findIdx?_cons,isN_ww,isN_wj]
 have f0:Dk.fnd jw []=-1:=rfl;have f3:∀(d:ByteArray) (s:Nat),Dk.fnd jw [⟨jn,d,s⟩]=-1:=fun d s=>by simp[Dk.fnd,List.findIdx?_cons,isN_wj]
 cases o with
 | none=>
  have e:Dk.syncF jw (Dk.appF jw bytes (fileO none))=[⟨jw,bytes,bytes.size⟩]:=by simp[Dk.syncF,Dk.appF,Dk.onF,f1,f0,fileO]
  rw[e,Dk.renF_some (k:=0) (f1 _ _) rfl nm_ne];simp[Dk.remF,isN_ww,isN_jw,fileO]
 | some data=>
  have e:Dk.syncF jw (Dk.appF jw bytes (fileO (some data)))=[⟨jn,data,data.size⟩,⟨jw,bytes,bytes.size⟩]:=by simp[Dk.syncF,Dk.appF,Dk.onF,f2,f3,fileO]
  rw[e,Dk.renF_some (k:=1) (f2 _ _ _ _) rfl nm_ne];simp[Dk.remF,isN_ww,isN_jw,isN_wj,isN_jj,fileO]
theorem sweep_x (j d:Nat)(room:Int)(v:Value)(n k:Nat)(w:World)(o:Option ByteArray)(h:Jr w j d room v (fileO o) n k):
  zE 67 #[.pointer (some ⟨j,0,none⟩)] w (.bool true):=by
 have HH:Hid (zE 61 #[.pointer (some ⟨d,0,none⟩),.string jw] w (.bool false)):=by
  have h1:=Dk.has_d d v (-1) false (fileO o) jw w h.dsk.blk h.dsk.own (by cases o<;>simp[fileO]);rw[fnd_jw]at h1;exact h1
 have c0:=h.c0;clear h;go_enter Tryz.func67,Tryz.ntmps67;go_wp2_with fail;refine HH.out.mono ?_;rintro e w2 ⟨rfl,rfl⟩;go_wp2_with fail;go_ret;exact⟨rfl,rfl⟩
theorem room_yx (j d:Nat)(room:Int)(v:Value)(fs:List Dk.DF)(n k:Nat)(size:Nat)(F:Value)(w:World)(h:Jr w j d room v fs n k)(hs:(size:Int)<=room):
  Calls Tryz.prog 44 #[.pointer (some ⟨j,0,none⟩),.int .i64 (size:Int),F] w fun e w'=>e=.returned (.bool true)/\Jy w w' j d v room fs:=by
 have HJ:=zH h;have c1:=h.c1;clear h;go_enter Tryz.func44,Tryz.ntmps44;go_wp2_with fail;go_ret;exact⟨rfl,v,_,_,HJ.out,Tch.refl _ _,fun _ h=>.inl h⟩
theorem room_x (j d st:Nat)(v:Value)(n k:Nat)(size:Nat)(w:World)(room:Int)(o:Option ByteArray)(t:ByteArray)(h:Jr w j d room v (fileO o) n k)(hs:room<(size:Int))(hsz:size<=1048576)(hn:n<=900)(hk:k<=1000000000)(htz:t.size<=1048576)(hT:Tab w)(h3:3<=w.heap.size)(hj3:3<=j)
  (hW:∀W,Tch [j] w W->zT 25 #[.pointer (some ⟨st,0,none⟩)] W (.string t)):
  Calls Tryz.prog 44 #[.pointer (some ⟨j,0,none⟩),.int .i64 (size:Int),.func (.func 25) #[.pointer (some ⟨st,0,none⟩)] #[]] w fun e w'=>e=.returned (.bool true)/\Jy w w' j d v 16384 (fileO (some ⟨(recB t).toArray⟩)):=by
 have hJ1:=h.set1 16384;have t1:Tch [j] w (w.setCell ⟨j,1,none⟩ (.int .i64 16384)):=(Tch.refl _ _).setCell (fun _=>by simp) _;have HSW:Hid (Calls Tryz.prog 67 #[.pointer (some ⟨j,0,none⟩)] (w.setCell ⟨j,1,none⟩ (.int .i64 16384)) fun e w'=>e=.returned (.bool true)/\w'=w.setCell ⟨j,1,none⟩ (.int .i64 16384)):=sweep_x j d 16384 v n k _ o hJ1;have HWH:Hid (zT 25 #[.pointer (some ⟨st,0,none⟩)] (w.setCell ⟨j,1,none⟩ (.int .i64 16384)) (.string t)):=hW _ t1;have HJ1:=zH hJ1;have HT1:=zH t1;have HTB:=zH hT;have eg65:∀args w,(callFunc 25 args).run Tryz.prog w=.ok (.enter 25 args) w:=enters_of Tryz.func25 (by kernel_rfl) rfl;have c1:=h.c1;have f1:=h.fz 1;clear h hJ1 hT hW t1;go_enter Tryz.func44,Tryz.ntmps44;go_wp2_with fail;refine HSW.out.mono ?_;rintro e w2 ⟨rfl,hw2⟩;rw[<-hw2]at HWH HJ1 HT1;clear hw2 c1 f1 HSW;go_wp2_with fail;refine HWH.out.mono ?_;rintro e w3 ⟨rfl,ht3⟩;have hw3:=HT1.out.trans ht3 (by simp);have hJ3:=HJ1.out.tch ht3 (by simp);have hz3:=hw3.size;clear HWH;go_wp2_with fail;refine(record_any t w3 (by omega) (HTB.out.below (B:=3) (hw3.below (by simpa using hj3) h3) (by decide)) (by omega)).mono ?_;rintro e w4 ⟨rv,rfl,ho,hb4⟩;have hstr:(convert 54 9 rv).run Tryz.prog w4=.ok (.string ⟨(recB t).toArray⟩) w4:=OwnB.str ho (by rw[recB_length];omega);have hJ4:=hJ3.tch (Tch.of_below hb4) (by simp);have hrz:(⟨(recB t).toArray⟩:ByteArray).size=8+t.size:=by show (recB t).toArray.size=_;rw[List.size_toArray,recB_length]
 have HRP:Hid (Calls Tryz.prog 68 #[.pointer (some ⟨j,0,none⟩),.string ⟨(recB t).toArray⟩] w4 fun e w'=>e=.returned (.bool true)/\Jy w4 w' j d v 16384 (fileO (some ⟨(recB t).toArray⟩))):=by
  have h1:=replace_x j d 16384 v (fileO o) n k ⟨(recB t).toArray⟩ w4 hJ4 hn (by omega);rw[rep_fs]at h1;exact h1
 have HT4:=zH (hw3.trans (Tch.of_below hb4) (by simp));clear ho hb4 hJ4 hJ3 hw3 ht3 hrz;generalize hRR:(⟨(recB t).toArray⟩:ByteArray)=R at*
 go_wp2_with fail;refine HRP.out.mono ?_;rintro e w5 ⟨rfl,hl⟩;have HL:=zH hl;clear hl hstr;go_wp2_with fail;go_ret;obtain⟨v',n',k',hj',ht',hb'⟩:=HL.out
 try rw[hRR]
 have hz:=HT4.out.size;refine⟨rfl,v',n',k',hj',(HT4.out.sub (by simp[jbl])).trans ht' (fun _ h _=>h),fun b hb=>?_⟩
 rcases hb' b hb with h|h
 ·exact .inl h
 ·exact .inr (by omega)
theorem lay_xw (j d:Nat)(room room2:Int)(v:Value)(fs fs2:List Dk.DF)(n k base:Nat)(rv F:Value)(rec:List UInt8)(w:World)(h:Jr w j d room v fs n k)(ho:OwnB w base rv rec)(hpos:0<rec.length)(hrl:rec.length<=1048576)(hl2:fs2.length<=10)(hk2:∀f∈fs2,f.safe<=f.data.size/\f.data.size+rec.length<=1073741824)(hr:-1000000000<=room2/\room2<=1048576)
  (hM:Calls Tryz.prog 44 #[.pointer (some ⟨j,0,none⟩),.int .i64 (rec.length:Int),F] w fun e w'=>e=.returned (.bool true)/\Jy w w' j d v room2 fs2):
  Calls Tryz.prog 24 #[.pointer (some ⟨j,0,none⟩),rv,F] w fun e w'=>e=.returned (.bool true)/\Jy w w' j d v (room2-rec.length) (Dk.syncF jn (Dk.appF jn ⟨rec.toArray⟩ fs2)):=by
 have HM:=zH hM;have hne:rv.ownBlock≠some j:=own_ne ho h.hj (by decide);have HAP:Hid (∀b,rv.ownBlock=some b->b∉jbl j d v):=fun b hb hm=>by
  rcases List.mem_cons.1 hm with e|e
  ·exact hne (e▸hb)
  ·rcases List.mem_cons.1 e with e|e
   ·exact own_ne ho h.dsk.blk (by decide) (e▸hb)
   ·rcases ho.2 with ⟨rfl,_⟩|⟨g,cap,cur,rfl,_,hg,_⟩
    ·simp[Value.ownBlock]at hb
    ·simp[Value.ownBlock]at hb;subst hb;exact own_ne h.dsk.own hg (by decide) (by simpa [Option.mem_toList]using e)
 obtain⟨g,cap,hrv⟩:=OwnB.slc ho hpos;have HO:=zH ho;have HRV:=zH hrv;subst hrv;have HK2:=zH hk2;have c2:=h.c2;clear h hM ho hne hk2;generalize hL:rec.length=L at*
 go_enter Tryz.func24,Tryz.ntmps24;go_wp2_with fail;refine HM.out.mono ?_;rintro e w1 ⟨rfl,v1,n1,k1,hj1,ht1,hb1⟩;have ho1:=own_tch HO.out ht1 HAP.out;have hstr:=OwnB.str ho1 (by omega);have hrz:(⟨rec.toArray⟩:ByteArray).size=L:=by show rec.toArray.size=_;rw[List.size_toArray,hL]
 have HAD:Hid (Calls Tryz.prog 45 #[.pointer (some ⟨j,0,none⟩),.string ⟨rec.toArray⟩] w1 fun e w'=>e=.returned (.bool true)/\Jy w1 w' j d v1 (room2-L) (Dk.syncF jn (Dk.appF jn ⟨rec.toArray⟩ fs2))):=by
  have hj2:Jr w1 j d room2 v1 fs2 10 (1073741824-L):=⟨hj1.hj,hj1.dsk,⟨hj1.gd.left,hl2,fun f hf=>⟨(HK2.out f hf).1,by have:=(HK2.out f hf).2;omega⟩⟩⟩
  have h1:=add_x j d room2 v1 fs2 10 (1073741824-L) ⟨rec.toArray⟩ w1 hj2 (by decide) (by omega) (by omega) (by omega);rw[hrz]at h1;exact h1
 have HT1:Hid (Tch (jbl j d v) w w1/\∀b,v1.ownBlock=some b->v.ownBlock=some b\/w.heap.size<=b):=⟨ht1,hb1⟩;clear hj1 ht1 hb1 ho1 c2;generalize hRR:(⟨rec.toArray⟩:ByteArray)=R at*
 go_wp2_with fail;refine HAD.out.mono ?_;rintro e w2 ⟨rfl,hl⟩;obtain⟨v2,n2,k2,hj2,ht2,hb2⟩:=Jy.trans HT1.out.1 HT1.out.2 hl;have HJ2:=zH hj2;have HT2:Hid (Tch (jbl j d v) w w2/\∀b,v2.ownBlock=some b->v.ownBlock=some b\/w.heap.size<=b):=⟨ht2,hb2⟩;have d2:=hj2.c2;have f2:=hj2.fz 2;clear hl hj2 ht2 hb2 hstr;go_wp2_with fail;go_ret
 try rw[hRR]
 exact⟨rfl,v2,n2,k2,HJ2.out.set2,HT2.out.1.setCell (fun _=>by simp[jbl]) _,HT2.out.2⟩
def layO (o:Option ByteArray)(room:Int)(rec:List UInt8)(t:ByteArray):ByteArray×Int:=
 if (rec.length:Int)<=room then (datO o++⟨rec.toArray⟩,room-rec.length) else (⟨(recB t).toArray⟩++⟨rec.toArray⟩,16384-rec.length)
theorem lay_x (j d st:Nat)(room:Int)(v:Value)(o:Option ByteArray)(n k base:Nat)(t:ByteArray)(rv:Value)(rec:List UInt8)(w:World)(h:Jr w j d room v (fileO o) n k)(ho:OwnB w base rv rec)(hpos:0<rec.length)(hrl:rec.length<=1048576)(hr:-1000000000<=room/\room<=16384)(hsz:(datO o).size<=500000000)(htz:t.size<=1048576)(hT:Tab w)(h3:3<=w.heap.size)(hj3:3<=j)
  (hW:∀W,Tch [j] w W->zT 25 #[.pointer (some ⟨st,0,none⟩)] W (.string t)):
  Calls Tryz.prog 24 #[.pointer (some ⟨j,0,none⟩),rv,.func (.func 25) #[.pointer (some ⟨st,0,none⟩)] #[]] w fun e w'=>e=.returned (.bool true)/\Jy w w' j d v (layO o room rec t).2 (fileO (some (layO o room rec t).1)):=by
 have hd:∀f∈fileO o,f.safe<=f.data.size/\f.data.size<=500000000:=fun f hf=>by
  cases o with
  | none=>simp[fileO]at hf
  | some data=>
   simp only[fileO,List.mem_singleton]at hf;subst hf;exact⟨Nat.le_refl _,hsz⟩
 have hlen:(fileO o).length<=10:=by cases o<;>simp[fileO]
 have hj:Jr w j d room v (fileO o) 10 500000000:=⟨h.hj,h.dsk,⟨h.gd.left,hlen,hd⟩⟩
 by_cases hc:(rec.length:Int)<=room
 ·have e:layO o room rec t=(datO o++⟨rec.toArray⟩,room-rec.length):=if_pos hc;rw[e];have h1:=lay_xw j d room room v (fileO o) (fileO o) 10 500000000 base rv (.func (.func 25) #[.pointer (some ⟨st,0,none⟩)] #[]) rec w hj ho hpos hrl hlen (fun f hf=>⟨(hd f hf).1,by have:=(hd f hf).2;omega⟩) (by omega) (room_yx j d room v (fileO o) 10 500000000 rec.length _ w hj hc);rw[add_fs]at h1;exact h1
 ·have e:layO o room rec t=((⟨(recB t).toArray⟩:ByteArray)++(⟨rec.toArray⟩:ByteArray),(16384-rec.length:Int)):=if_neg hc;rw[e];have hrz:(⟨(recB t).toArray⟩:ByteArray).size=8+t.size:=by show (recB t).toArray.size=_;rw[List.size_toArray,recB_length]
  have h1:=lay_xw j d room 16384 v (fileO o) (fileO (some ⟨(recB t).toArray⟩)) 10 500000000 base rv (.func (.func 25) #[.pointer (some ⟨st,0,none⟩)] #[]) rec w hj ho hpos hrl (by simp[fileO]) (fun f hf=>by
   simp only[fileO,List.mem_singleton]at hf;subst hf;refine⟨Nat.le_refl _,?_⟩
   show (⟨(recB t).toArray⟩:ByteArray).size+_<=_
   omega) (by omega) (room_x j d st v 10 500000000 rec.length w room o t hj (by omega) hrl (by decide) (by decide) htz hT h3 hj3 hW)
  rw[add_fs]at h1;exact h1
end Go.Proofs.YtbdobaapadlcjabGreatDoor
