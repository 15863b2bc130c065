import Derived.Test.YtbdobaapadlcjabGreatDoorHy17
set_option maxRecDepth 8000
set_option maxHeartbeats 4000000
set_option linter.unusedVariables false
set_option linter.unusedSimpArgs false
namespace Go.Proofs.YtbdobaapadlcjabGreatDoor
open Go.RowKit
variable {l:List Ms}{now:Int}{B st b i j q t:Nat}{w:World}{Z Z':Nat->Option BQ}{x:BQ}
def leMs (a b:Ms):Bool:=decide (a.til<b.til\/a.til=b.til/\a.num<=b.num)
def dueS (now:Int)(l:List Ms):List Ms:=(dueL now l).mergeSort leMs
def dueN (now:Int)(l:List Ms):List Int:=(dueS now l).map Ms.num
theorem asc_pair (h:Asc l):l.Pairwise (fun a b=>leMs a b=true):=by
 rw[List.pairwise_iff_getElem];intro i j hi hj hij;have h1:=h i j hi hj hij;unfold ltMs at h1;unfold leMs;rw[decide_eq_true_eq];omega
theorem due_unique {l':List Ms}(hu:Ups l)(hp:l'.Perm (dueL now l))(ha:Asc l'):l'=dueS now l:=by
 have h1:(dueS now l).Perm (dueL now l):=List.mergeSort_perm _ _;have h2:(dueS now l).Pairwise (fun a b=>leMs a b=true):=List.pairwise_mergeSort (fun a b c h1 h2=>by
  unfold leMs at*
  rw[decide_eq_true_eq] at*
  omega) (fun a b=>by
  unfold leMs;rw[Bool.or_eq_true,decide_eq_true_eq,decide_eq_true_eq];omega) _
 refine List.Perm.eq_of_pairwise (le:=fun a b=>leMs a b=true) (fun a b hla hlb hab hba=>?_) (asc_pair ha) h2 (hp.trans h1.symm);have ma:a∈l:=(List.mem_filter.1 (hp.subset hla)).1;have mb:b∈l:=(List.mem_filter.1 (h1.subset hlb)).1;refine num_inj hu ma mb ?_;unfold leMs at hab hba;rw[decide_eq_true_eq]at hab hba;omega
theorem dueS_mem {m:Ms}(h:m∈dueS now l):m∈l/\0<m.til/\m.til<=now:=by
 have h1:(dueS now l).Perm (dueL now l):=List.mergeSort_perm _ _;have h2:=List.mem_filter.1 (h1.subset h);exact⟨h2.1,by simpa using h2.2⟩
theorem ups_nodup (h:Ups l):(l.map Ms.num).Nodup:=by
 rw[List.Nodup,List.pairwise_map];exact h.imp (fun {a b} hab=>by omega)
theorem dueN_nodup (h:Ups l):(dueN now l).Nodup:=by
 have h1:(dueS now l).Perm (dueL now l):=List.mergeSort_perm _ _;exact(h1.map Ms.num).nodup_iff.2 (ups_nodup (ups_filter h _))
def bringC (now:Int)(c:Nat->Option QM)(i:Nat):Nat->Option QM:=
 match c i with
 | none=>c
 | some Q=>(dueN now Q.ms).foldl (fun c n=>backC c i n) c
theorem deadOf_sg {col:Nat->Nat}(h:SG B w st b now Z col){i:Nat}(hi:i<8){x:BQ}(hx:Z i=some x)(hd:DeadOk i x.Q.c):
  zE 157 #[.pointer (some ⟨st,0,none⟩),.pointer (some ⟨x.qb,0,none⟩)] w (dvZ Z x.Q.c):=by
 have hq:=h.qr i x hi hx;have c1:w.cell? ⟨x.qb,1,none⟩=some (.int .u8 (x.Q.c.d.toNat:Int)):=cell_qC hq.blk 1 _ rfl;rcases hd with hd|⟨j,hj,hji,hd⟩
 ·have e1:deadJ x.Q.c=none:=if_pos hd;have e3:dvZ Z x.Q.c=.pointer none:=by unfold dvZ;rw[e1];rfl
  rw[e3];rw[hd]at c1;exact deadOf_none st x.qb w c1
 ·have hne:x.Q.c.d≠45:=fun e=>by rw[e]at hd;simp at hd;omega
  have e1:deadJ x.Q.c=some j:=by unfold deadJ;rw[if_neg hne,hd];congr 1;omega
  have e3:dvZ Z x.Q.c=ptrV (ptZ Z j):=by unfold dvZ;rw[e1];rfl
  rw[e3];rw[hd]at c1;exact deadOf_some st b x.qb j now (fun i=>ptrV (ptZ Z i)) w h.stb hj (by rw[c1];congr 2)
theorem dvZ_eq (h:ptZ Z'=ptZ Z)(c:Wp.Rq):dvZ Z' c=dvZ Z c:=by unfold dvZ;rw[h]
theorem ptZ_get (h:ptZ Z'=ptZ Z){i:Nat}{x:BQ}(hx:Z i=some x):∃x',Z' i=some x'/\x'.qb=x.qb:=by
 have h1:=congrFun h i;unfold ptZ at h1;rw[hx]at h1;obtain⟨x',h2,h3⟩:=Option.map_eq_some_iff.1 h1;exact⟨x',h2,h3⟩
theorem WFc.bd {c:Nat->Option QM}(h:WFc c):∀j T,j<8->c j=some T->T.ms.length<=100/\T.rs.length<=100/\T.next<=201:=fun j T hj hT=>by
 have h1:=h j T hj hT;have h2:=h1.ml;have h3:=h1.rl;exact⟨by omega,by omega,h1.nx.2⟩
theorem bring_sg (B st b i:Nat)(now:Int)(Z:Nat->Option BQ)(col:Nat->Nat)(w:World)(h:SG B w st b now Z col)(hB:B<=w.heap.size)(hi:i<8)(x:BQ)(hx:Z i=some x)(hW:WFc (ctZ Z)):
  Calls Tryz.prog 200 #[.pointer (some ⟨st,0,none⟩),.pointer (some ⟨x.qb,0,none⟩)] w fun e w'=>e=.returned (.tuple #[])/\SGn B st b now w w' Z col (bringC now (ctZ Z) i)/\WFc (bringC now (ctZ Z) i):=by
 have hcx:=ctZ_some hx;have hQ:=hW i x.Q hi hcx;have hqr:=h.qr i x hi hx;have hbr:bringC now (ctZ Z) i=(dueN now x.Q.ms).foldl (fun c n=>backC c i n) (ctZ Z):=by unfold bringC;rw[hcx]
 refine bring_walk (fun B' ns W=>∃Z' col',SG B W st b now Z' col'/\ns.foldl (fun c n=>backC c i n) (ctZ Z')=bringC now (ctZ Z) i/\WFc (ctZ Z')/\ptZ Z'=ptZ Z/\Agr w col col'/\Fq B col w W/\(∃S,Tch S w W/\∀k∈S,allK Z k)/\(∀k,allK Z' k->allK Z k\/B'<=k)/\B'<=W.heap.size/\w.heap.size<=B'/\ns.Nodup/\∃Q',ctZ Z' i=some Q'/\Q'.c=x.Q.c/\∀n∈ns,∃m,Q'.ms.find? (isN n)=some m/\0<m.til)
  (fun w'=>SGn B st b now w w' Z col (bringC now (ctZ Z) i)/\WFc (bringC now (ctZ Z) i)) st x.qb now (dvZ Z x.Q.c) w h.stb.now (deadOf_sg h hi hx hQ.c.d) ?_ ?_ ?_
 ·refine(due_any x.Q.ms x.V.m x.qb now w (cell_qC hqr.blk 7 _ rfl) hqr.m (by have:=hQ.ml;omega)).mono ?_;rintro e w' ⟨v',l',rfl,hp,ha,hown,ht⟩;have e1:=due_unique hQ.nums hp ha;subst e1;refine⟨v',dueN now x.Q.ms,rfl,?_,?_,Z,col,h.tch ht,hbr.symm,hW,rfl,Agr.refl _ _,FqT.of_nil col ht hB,⟨[],ht,by simp⟩,fun k hk=>.inl hk,Nat.le_refl _,ht.size,dueN_nodup hQ.nums,x.Q,hcx,rfl,fun n hn=>?_⟩
  ·unfold dueN;rw[List.length_map,List.map_map];exact hown
  ·unfold dueN;rw[List.length_map];have h1:(dueS now x.Q.ms).Perm (dueL now x.Q.ms):=List.mergeSort_perm _ _;rw[h1.length_eq];have h2:=List.length_filter_le (fun m:Ms=>decide (0<m.til/\m.til<=now)) x.Q.ms;have h3:=hQ.ml
   show (List.filter _ _).length<=_
   omega
  ·obtain⟨m,hm,rfl⟩:=List.mem_map.1 hn;obtain⟨h1,h2,_⟩:=dueS_mem hm;exact⟨m,find_num _ hQ.nums m h1,h2⟩
 ·rintro B' n ns W ⟨Z',col',k1,k2,k3,k4,k5,k6,⟨S0,k7,k7'⟩,k8,k9,k10,k11,Q',k12,k13,k14⟩;obtain⟨x',hx',hq'⟩:=ptZ_get k4 hx;have hcx':=ctZ_some hx';rw[hcx']at k12;injection k12 with k12;obtain⟨m,hf,htm⟩:=k14 n List.mem_cons_self;rw[<-k12]at hf;have hdv:dvZ Z x.Q.c=dvZ Z' x'.Q.c:=by rw[dvZ_eq k4,k12,k13]
  rw[hdv,<-hq'];have hQx:=k3 i x'.Q hi hcx';refine(back_sg B st b i now Z' col' W k1 (by omega) hi x' hx' n m hf hQx.c.d k3.bd).mono ?_;rintro e w' ⟨rfl,hn⟩;obtain⟨hwf,Q2,hQ2,hc2,hfl⟩:=back_wf k3 hi hcx' hf htm;obtain⟨Z2,col2,j1,j2,j3,j4,j5,⟨S2,j6,j7⟩,j8⟩:=hn;obtain⟨hnn,hnd⟩:=List.nodup_cons.1 k11;have hsz:=k7.size;have hsz2:=j6.size;have hcomb:∃S,Tch S w w'/\∀k∈S,allK Z k:=by
   refine⟨S0++S2.filter (fun k=>decide (k<w.heap.size)),?_,fun k hk=>?_⟩
   ·exact(k7.sub (S':=S0++S2.filter (fun k=>decide (k<w.heap.size))) (fun y hy _=>List.mem_append.2 (.inl hy))).trans j6 (fun y hy hlt=>List.mem_append.2 (.inr (List.mem_filter.2 ⟨hy,by simpa using hlt⟩)))
   ·rcases List.mem_append.1 hk with hk|hk
    ·exact k7' k hk
    ·obtain⟨h1,h2⟩:=List.mem_filter.1 hk;rcases k8 k (j7 k h1) with h3|h3
     ·exact h3
     ·simp at h2;omega
  refine⟨rfl,⟨Z2,col2,j1,?_,by rw[j2];exact hwf,j3.trans k4,k5.trans j4 hsz,k6.trans k5 j5,hcomb,fun k hk=>?_,by omega,k10,hnd,Q2,by rw[j2];exact hQ2,by rw[hc2,k12,k13],fun n' hn'=>?_⟩,S2,j6,fun k hk=>?_⟩
  ·rw[j2];rw[List.foldl_cons]at k2;exact k2
  ·rcases j8 k hk with h1|h1
   ·exact k8 k h1
   ·exact .inr (by omega)
  ·obtain⟨m',hf',ht'⟩:=k14 n' (List.mem_cons_of_mem _ hn');rw[<-k12]at hf';exact⟨m',hfl n' (fun e=>hnn (e▸hn')) m' hf' ht',ht'⟩
  ·rcases k8 k (j7 k hk) with h1|h1
   ·exact .inl (h.allLt h1)
   ·exact .inr h1
 ·rintro B' W ⟨Z',col',k1,k2,k3,k4,k5,k6,k7,k8,k9,k10,k11,Q',k12,k13,k14⟩;refine⟨⟨Z',col',k1,k2,k4,k5,k6,k7,fun k hk=>?_⟩,by rw[<-k2];exact k3⟩
  rcases k8 k hk with h1|h1
  ·exact .inl h1
  ·exact .inr (by omega)
theorem QW.forg {Q:QM}(h:QW i Q)(now:Int):QW i (forgQ now Q):=
 {c:=h.c,nx:=h.nx,mq:=h.mq,nums:=h.nums,mok:=h.mok,hd:=h.hd,rn:=h.rn,rr:=h.rr,dn:=List.Pairwise.sublist List.filter_sublist h.dn,dok:=fun d hd=>h.dok d (List.mem_filter.1 hd).1,al:=Nat.le_trans (List.length_filter_le _ _) h.al,aok:=fun a ha=>h.aok a (List.mem_filter.1 ha).1}
def fgtTo (now:Int)(j:Nat)(c:Nat->Option QM):Nat->Option QM:=fun i=>if i<j then (c i).map (forgQ now) else c i
def timeC (now:Int)(c:Nat->Option QM):Nat->Option QM:=(List.range' 0 8).foldl (bringC now) (fgtTo now 8 c)
def rest8 (P:Nat->Option Nat)(j:Nat):List Nat:=(List.range' j (8-j)).filterMap P
theorem rest_cons' (P:Nat->Option Nat):∀(n j:Nat),j+n=8->∀q qs,(List.range' j n).filterMap P=q::qs->∃j',j<=j'/\j'<8/\P j'=some q/\qs=rest8 P (j'+1)/\∀t,j<=t->t<j'->P t=none
 | 0,j,_,q,qs,h=>by simp at h
 | n+1,j,hn,q,qs,h=>by
  rw[List.range'_succ,List.filterMap_cons]at h
  cases hp:P j with
  | none=>
   rw[hp]at h;obtain⟨j',h1,h2,h3,h4,h5⟩:=rest_cons' P n (j+1) (by omega) q qs h;refine⟨j',by omega,h2,h3,h4,fun t ht1 ht2=>?_⟩
   by_cases e:t=j
   ·rw[e];exact hp
   ·exact h5 t (by omega) ht2
  | some v=>
   rw[hp]at h;injection h with h1 h2;subst h1;refine⟨j,Nat.le_refl _,by omega,hp,?_,fun t ht1 ht2=>by omega⟩
   rw[<-h2];unfold rest8;have e:8-(j+1)=n:=by omega
   rw[e]
theorem rest_cons {P:Nat->Option Nat}(hj:j<=8){q:Nat}{qs:List Nat}(h:q::qs=rest8 P j):∃j',j<=j'/\j'<8/\P j'=some q/\qs=rest8 P (j'+1)/\∀t,j<=t->t<j'->P t=none:=
 rest_cons' P (8-j) j (by omega) q qs h.symm
theorem rest_nil {P:Nat->Option Nat}(hj:j<=8)(h:[]=rest8 P j):∀t,j<=t->t<8->P t=none:=fun t h1 h2=>by
 have h3:=List.filterMap_eq_nil_iff.1 h.symm t (List.mem_range'.2 ⟨t-j,by omega,by omega⟩);exact h3
theorem qsL_rest (P:Nat->Option Nat):qsL P 8=rest8 P 0:=by
 unfold qsL rest8;rw[List.range_eq_range']
theorem fold_skip (now:Int)(c:Nat->Option QM):∀(n j:Nat),j+n<=8->(∀t,j<=t->t<j+n->c t=none)->(List.range' j (8-j)).foldl (bringC now) c=(List.range' (j+n) (8-(j+n))).foldl (bringC now) c
 | 0,j,_,_=>rfl
 | n+1,j,hj,h=>by
  have e:8-j=(8-(j+1))+1:=by omega
  rw[e,List.range'_succ,List.foldl_cons];have e2:bringC now c j=c:=by
   unfold bringC;rw[h j (Nat.le_refl _) (by omega)]
  rw[e2,fold_skip now c n (j+1) (by omega) (fun t h1 h2=>h t (by omega) (by omega))];have e3:j+1+n=j+(n+1):=by omega
  rw[e3]
theorem pt_ct (h:ptZ Z t=none):ctZ Z t=none:=by
 unfold ptZ at h;unfold ctZ
 cases hz:Z t with
 | none=>rfl
 | some x=>rw[hz]at h;simp at h
theorem pt_get (h:ptZ Z t=some q):∃x,Z t=some x/\x.qb=q:=Option.map_eq_some_iff.1 h
theorem pt_none (h:ptZ Z'=ptZ Z){t:Nat}(ht:ptZ Z t=none):ctZ Z' t=none:=pt_ct (by rw[h];exact ht)
theorem set_sg (B st b:Nat)(now0 now:Int)(Z:Nat->Option BQ)(col:Nat->Nat)(w:World)(h:SG B w st b now0 Z col)(hB:B<=w.heap.size)(hW:WFc (ctZ Z)):
  Calls Tryz.prog 174 #[.pointer (some ⟨st,0,none⟩),.int .i64 now] w fun e w'=>e=.returned (.tuple #[])/\∃Z' col',SG B w' st b now Z' col'/\ctZ Z'=timeC now (ctZ Z)/\WFc (ctZ Z')/\ptZ Z'=ptZ Z/\Agr w col col'/\Fq B col w w':=by
 have hWf:WFc (fgtTo now 8 (ctZ Z)):=fun i Q hi hQ=>by
  unfold fgtTo at hQ;rw[if_pos hi]at hQ;obtain⟨Q0,h1,h2⟩:=Option.map_eq_some_iff.1 hQ;rw[<-h2];exact(hW i Q0 hi h1).forg now
 refine setg_walk
  (fun B' qs W=>∃j,j<=8/\qs=rest8 (ptZ Z) j/\∃Z' col',SG B W st b now Z' col'/\ctZ Z'=fgtTo now j (ctZ Z)/\ptZ Z'=ptZ Z/\Agr w col col'/\Fq B col w W/\(∀k,allK Z' k->k<w.heap.size\/B'<=k)/\B'<=W.heap.size)
  (fun A B' qs W=>∃j,j<=8/\qs=rest8 (ptZ Z) j/\∃Z' col',SG B W st b now Z' col'/\(List.range' j (8-j)).foldl (bringC now) (ctZ Z')=timeC now (ctZ Z)/\WFc (ctZ Z')/\ptZ Z'=ptZ Z/\Agr w col col'/\Fq B col w W/\(∀k,allK Z' k->k<A\/B'<=k)/\B'<=W.heap.size)
  (fun w'=>∃Z' col',SG B w' st b now Z' col'/\ctZ Z'=timeC now (ctZ Z)/\WFc (ctZ Z')/\ptZ Z'=ptZ Z/\Agr w col col'/\Fq B col w w') st b now0 now (ptZ Z) w h.stb ?_ ?_ ?_ ?_ ?_
 ·intro W ht;refine⟨0,by omega,qsL_rest _,Z,col,(h.time now).tch ht,?_,rfl,Agr.refl _ _,(h.timeF hB now).trans (Agr.refl _ _) (FqT.of_nil col ht (by rw[World.size_setCell];exact hB)),fun k hk=>.inl (h.allLt hk),Nat.le_refl _⟩
  funext t;unfold fgtTo;rw[if_neg (by omega)]
 ·rintro B' q qs W ⟨j,hj,hqs,Z',col',k1,k2,k3,k4,k5,k6,k7⟩;obtain⟨j',h1,h2,h3,h4,h5⟩:=rest_cons hj hqs;have h3':ptZ Z' j'=some q:=by rw[k3];exact h3
  obtain⟨x',hx',rfl⟩:=pt_get h3';have hcx':=ctZ_some hx';have hcz:ctZ Z j'=some x'.Q:=by
   rw[k2]at hcx';unfold fgtTo at hcx';rw[if_neg (by omega)]at hcx';exact hcx'
  have hQ:=hW j' x'.Q h2 hcz;have hsz:=k5.size;refine(forget_any x'.Q x'.V x'.qb now W (k1.qr j' x' h2 hx') (by have:=hQ.dl;omega) (by have:=hQ.al;omega)).mono ?_;rintro e w' ⟨rfl,hql⟩;obtain⟨Z2,col2,j1,j2,j3,j4,j5,⟨S2,j6,j7⟩,j8⟩:=k1.updn (by omega) h2 hx' hql;have hsz2:=j6.size;refine⟨rfl,⟨j'+1,by omega,h4,Z2,col2,j1,?_,j3.trans k3,k4.trans j4 hsz,k5.trans k4 j5,fun k hk=>?_,by omega⟩,S2,j6,fun k hk=>k6 k (j7 k hk)⟩
  ·rw[j2,k2];funext t
   by_cases e1:t=j'
   ·subst e1;rw[setC_same];unfold fgtTo;rw[if_pos (by omega),hcz];rfl
   ·rw[setC_ne _ _ e1];unfold fgtTo
    by_cases e2:t<j
    ·rw[if_pos e2,if_pos (by omega)]
    ·rw[if_neg e2]
     by_cases e3:t<j'
     ·rw[if_pos (by omega),pt_ct (h5 t (by omega) e3)];rfl
     ·rw[if_neg (by omega)]
  ·rcases j8 k hk with h6|h6
   ·exact k6 k h6
   ·exact .inr (by omega)
 ·rintro B' W ⟨j,hj,hqs,Z',col',k1,k2,k3,k4,k5,k6,k7⟩;have hall:ctZ Z'=fgtTo now 8 (ctZ Z):=by
   rw[k2];funext t;unfold fgtTo
   by_cases e2:t<j
   ·rw[if_pos e2,if_pos (by omega)]
   ·rw[if_neg e2]
    by_cases e3:t<8
    ·rw[if_pos e3,pt_ct (rest_nil hj hqs t (by omega) e3)];rfl
    ·rw[if_neg e3]
  refine⟨by rw[<-k3];exact k1.stb,fun W' ht=>⟨0,by omega,qsL_rest _,Z',col',k1.tch ht,?_,by rw[hall];exact hWf,k3,k4,k5.trans k4 (FqT.of_nil col' ht (by have:=k5.size;omega)),fun k hk=>.inl (k1.allLt hk),Nat.le_refl _⟩⟩
  rw[hall];rfl
 ·rintro A B' q qs W ⟨j,hj,hqs,Z',col',k1,k2,kw,k3,k4,k5,k6,k7⟩;obtain⟨j',h1,h2,h3,h4,h5⟩:=rest_cons hj hqs;have h3':ptZ Z' j'=some q:=by rw[k3];exact h3
  obtain⟨x',hx',rfl⟩:=pt_get h3';have hsz:=k5.size;refine(bring_sg B st b j' now Z' col' W k1 (by omega) h2 x' hx' kw).mono ?_;rintro e w' ⟨rfl,⟨Z2,col2,j1,j2,j3,j4,j5,⟨S2,j6,j7⟩,j8⟩,hwf⟩;have hsz2:=j6.size;refine⟨rfl,⟨j'+1,by omega,h4,Z2,col2,j1,?_,by rw[j2];exact hwf,j3.trans k3,k4.trans j4 hsz,k5.trans k4 j5,fun k hk=>?_,by omega⟩,S2,j6,fun k hk=>k6 k (j7 k hk)⟩
  ·rw[j2,<-k2];have e0:j+(j' - j)=j':=by omega
   have e1:=fold_skip now (ctZ Z') (j' - j) j (by omega) (fun t ht1 ht2=>pt_none k3 (h5 t ht1 (by omega)));rw[e1,e0];have e:8-j'=(8-(j'+1))+1:=by omega
   rw[e,List.range'_succ,List.foldl_cons]
  ·rcases j8 k hk with h6|h6
   ·exact k6 k h6
   ·exact .inr (by omega)
 ·rintro A B' W ⟨j,hj,hqs,Z',col',k1,k2,kw,k3,k4,k5,k6,k7⟩;refine⟨Z',col',k1,?_,kw,k3,k4,k5⟩;have e1:=fold_skip now (ctZ Z') (8-j) j (by omega) (fun t ht1 ht2=>pt_none k3 (rest_nil hj hqs t ht1 (by omega)));rw[e1]at k2;have e0:j+(8-j)=8:=by omega
  rw[e0]at k2;exact k2
theorem one_str (c:UInt8)(W:World)(g cap:Nat)(h:W.cell? ⟨g,0,none⟩=some (.int .u8 (c.toNat:Int))):(convert 54 9 (.slice (some ⟨g,0,none⟩) 1 cap)).run Tryz.prog W=.ok (.string ⟨#[c]⟩) W:=by
 refine run_convert_bytes_back (P:=Tryz.prog) W 54 9 5 ⟨g,0,none⟩ cap [c] Tryz.underlying54 Tryz.underlying5 Tryz.underlying9 ?_;intro j hj;have hj0:j=0:=by simpa using hj
 subst hj0;exact h
theorem refusal_any (c:UInt8)(w:World):zT 29 #[.int .i64 (c.toNat:Int)] w (.string ⟨#[c]⟩):=by
 have hc:=c.toNat_lt;have hw:IntKind.u8.wrap ((c.toNat:Nat):Int)=((c.toNat:Nat):Int):=by rw[IntKind.wrap_u8];omega
 have hs:=one_str c;have hl:(w.alloc (.cells #[.int .u8 ((c.toNat:Nat):Int)] 5)).cell? ⟨w.heap.size,0,none⟩=some (.int .u8 ((c.toNat:Nat):Int)):=cell_of_one (heap_alloc_new _ _);generalize ((c.toNat:Nat):Int)=n at*
 go_enter Tryz.func29,Tryz.ntmps29;go_wp2_with fail;go_ret;exact⟨rfl,(Tch.refl _ _).alloc _⟩
def ChgG (B:Nat)(N:Prop)(J:World->Prop)(K:ByteArray->World->Prop)(t:ByteArray)(chg:Value)(w:World):Prop:=
 (chg=.nilFunc/\N/\∀w2,Tch [] w w2->K t w2)\/∃f cap,chg=.func (.func f) #[] cap/\(∀args w,(callFunc f args).run Tryz.prog w=.ok (.enter f args) w)/\∀w2 w3,Tch [] w w2->Fr B TJ w2 w3->J w3->Calls Tryz.prog f cap w3 fun e w'=>e=.returned (.tuple #[])/\K t w'
def RdN (w:World)(v:Value)(l:List UInt8):Prop:=(v=.slice none 0 0/\l=[])\/(0<l.length/\l.length<=100000/\Rdb w v l)
def Ans (B:Nat)(N:Prop)(J:World->Prop)(K:ByteArray->World->Prop)(e:Ending)(w:World):Prop:=
 (∃c:UInt8,0<c.toNat/\e=.returned (.tuple #[.slice none 0 0,.nilFunc,.int .i64 (c.toNat:Int)])/\N/\∀w2,Tch [] w w2->K ⟨#[c]⟩ w2)\/
 (∃av chg l,e=.returned (.tuple #[av,chg,.int .i64 0])/\RdN w av l/\∀w2,Tch [] w w2->ChgG B N J K (okL l) chg w2)
theorem Ans.shape {N:Prop}{J:World->Prop}{K:ByteArray->World->Prop}{e:Ending}(h:Ans B N J K e w):∃av chg n,e=.returned (.tuple #[av,chg,.int .i64 n]):=by
 rcases h with ⟨c,_,h,_⟩|⟨av,chg,l,h,_⟩
 ·exact⟨_,_,_,h⟩
 ·exact⟨_,_,_,h⟩
theorem cellsI (r:Wp.Rq)(x:Sl)(i:Nat)(hop:r.op.toNat=65+i):cellsOf r x.v=#[.int .u8 (65+(i:Int)),.int .u8 (r.q.toNat:Int),.int .u8 (r.d.toNat:Int),.int .i64 r.vis,.int .i64 r.win,.int .i64 r.rcv,.int .i64 r.quo,.int .i64 r.mx,.int .i64 r.tic,.string r.grp,.string r.ded,.string r.bod,.string r.att,.string r.han,.slice x.a x.n x.c]:=by
 have ho':((r.op.toNat:Nat):Int)=65+(i:Int):=by rw[hop];omega
 unfold cellsOf Sl.v;rw[ho']
theorem stG_deed {P:Nat->Value}{v:Value}(h:Stb w st b now P)(hv:(deedsC b)[i]?=some v):w.cell? ⟨st,9+i,none⟩=some v:=by
 rw[cell_of_row w st (9+i) _ 94 (0,0) h];unfold stG;rw[Array.getElem?_append_right (by rw[stH_size];omega),stH_size];simpa using hv
theorem plan_x {N:Prop}(B:Nat)(J:World->Prop)(K:ByteArray->World->Prop)(r:Wp.Rq)(x:Sl)(cs:Array Value)(st b i fn:Nat)(now:Int)(P:Nat->Value)(w:World)(hop:r.op.toNat=65+i)(hi:i<26)(hst:Stb w st b now P)(hv:(deedsC b)[i]?=some (.func (.func fn) #[] cs))
  (eg:∀args w,(callFunc fn args).run Tryz.prog w=.ok (.enter fn args) w)
  (hS:∀W,Tch [] w W->Calls Tryz.prog fn (#[.pointer (some ⟨st,0,none⟩),.agg (cellsOf r x.v)]++cs) W fun e w'=>Tch [] W w'/\Ans B N J K e w'):
  Calls Tryz.prog 30 #[.pointer (some ⟨st,0,none⟩),.agg (cellsOf r x.v)] w fun e w'=>Tch [] w w'/\PlG B N J K e w':=by
 have hlt:=hst.lt;have HST:=zH hst;have HV:=zH hv;have HN:=zH hS;rw[cellsI r x i hop]at HN;rw[cellsI r x i hop];clear hS hv;obtain⟨i0,hi0,hz0,hz1,hz2⟩:=info_parts info5;have hb1:(0:Int)<=(i:Int):=Int.natCast_nonneg i;have hb2:(i:Int)<26:=by omega
 have hwi:IntKind.u8.wrap (65+(i:Int)-65)=(i:Int):=by
  have e:(65+(i:Int)-65)=(i:Int):=by omega
  rw[e,IntKind.wrap_u8];omega
 go_enter Tryz.func30,Tryz.ntmps30;go_wp2_with fail;obtain⟨wb,hwb⟩:∃wb,wb=w.alloc (.cells #[.int .u8 (65+(i:Int)),.int .u8 (r.q.toNat:Int),.int .u8 (r.d.toNat:Int),.int .i64 r.vis,.int .i64 r.win,.int .i64 r.rcv,.int .i64 r.quo,.int .i64 r.mx,.int .i64 r.tic,.string r.grp,.string r.ded,.string r.bod,.string r.att,.string r.han,.slice x.a x.n x.c] 24):=⟨_,rfl⟩;rw[<-hwb];have hrow:wb.heap[w.heap.size]?=some (.cells #[.int .u8 (65+(i:Int)),.int .u8 (r.q.toNat:Int),.int .u8 (r.d.toNat:Int),.int .i64 r.vis,.int .i64 r.win,.int .i64 r.rcv,.int .i64 r.quo,.int .i64 r.mx,.int .i64 r.tic,.string r.grp,.string r.ded,.string r.bod,.string r.att,.string r.han,.slice x.a x.n x.c] 24 (0,0)):=by rw[hwb];exact heap_alloc_new _ _
 have TB:Hid (Tch [] w wb):=by rw[hwb];exact(Tch.refl _ _).alloc _
 have hsb:=HST.out.tch TB.out (by simp);have e0:wb.cell? ⟨w.heap.size,0,none⟩=some (.int .u8 (65+(i:Int))):=by simp[World.cell?,hrow]
 have e1:wb.cell? ⟨w.heap.size,1,none⟩=some (.int .u8 (r.q.toNat:Int)):=by simp[World.cell?,hrow]
 have e2:wb.cell? ⟨w.heap.size,2,none⟩=some (.int .u8 (r.d.toNat:Int)):=by simp[World.cell?,hrow]
 have e3:wb.cell? ⟨w.heap.size,3,none⟩=some (.int .i64 r.vis):=by simp[World.cell?,hrow]
 have e4:wb.cell? ⟨w.heap.size,4,none⟩=some (.int .i64 r.win):=by simp[World.cell?,hrow]
 have e5:wb.cell? ⟨w.heap.size,5,none⟩=some (.int .i64 r.rcv):=by simp[World.cell?,hrow]
 have e6:wb.cell? ⟨w.heap.size,6,none⟩=some (.int .i64 r.quo):=by simp[World.cell?,hrow]
 have e7:wb.cell? ⟨w.heap.size,7,none⟩=some (.int .i64 r.mx):=by simp[World.cell?,hrow]
 have e8:wb.cell? ⟨w.heap.size,8,none⟩=some (.int .i64 r.tic):=by simp[World.cell?,hrow]
 have e9:wb.cell? ⟨w.heap.size,9,none⟩=some (.string r.grp):=by simp[World.cell?,hrow]
 have e10:wb.cell? ⟨w.heap.size,10,none⟩=some (.string r.ded):=by simp[World.cell?,hrow]
 have e11:wb.cell? ⟨w.heap.size,11,none⟩=some (.string r.bod):=by simp[World.cell?,hrow]
 have e12:wb.cell? ⟨w.heap.size,12,none⟩=some (.string r.att):=by simp[World.cell?,hrow]
 have e13:wb.cell? ⟨w.heap.size,13,none⟩=some (.string r.han):=by simp[World.cell?,hrow]
 have e14:wb.cell? ⟨w.heap.size,14,none⟩=some (.slice x.a x.n x.c):=by simp[World.cell?,hrow]
 have cx2:=stG_deed hsb HV.out;have hlL:w.heap.size<wb.heap.size:=lt_of_block hrow;have hlX:=hsb.lt;have HN1:Hid (Calls Tryz.prog fn _ wb.drew _):=HN.out wb.drew TB.out.drew;clear hrow hsb hwb hst
 go_region_held3 (fun w'=>w'.cell? ⟨w.heap.size,0,none⟩=some (.int .u8 (65+(i:Int)))/\w'.cell? ⟨w.heap.size,1,none⟩=some (.int .u8 (r.q.toNat:Int))/\w'.cell? ⟨w.heap.size,2,none⟩=some (.int .u8 (r.d.toNat:Int))/\w'.cell? ⟨w.heap.size,3,none⟩=some (.int .i64 r.vis)/\w'.cell? ⟨w.heap.size,4,none⟩=some (.int .i64 r.win)/\w'.cell? ⟨w.heap.size,5,none⟩=some (.int .i64 r.rcv)/\w'.cell? ⟨w.heap.size,6,none⟩=some (.int .i64 r.quo)/\w'.cell? ⟨w.heap.size,7,none⟩=some (.int .i64 r.mx)/\w'.cell? ⟨w.heap.size,8,none⟩=some (.int .i64 r.tic)/\w'.cell? ⟨w.heap.size,9,none⟩=some (.string r.grp)/\w'.cell? ⟨w.heap.size,10,none⟩=some (.string r.ded)/\w'.cell? ⟨w.heap.size,11,none⟩=some (.string r.bod)/\w'.cell? ⟨w.heap.size,12,none⟩=some (.string r.att)/\w'.cell? ⟨w.heap.size,13,none⟩=some (.string r.han)/\w'.cell? ⟨w.heap.size,14,none⟩=some (.slice x.a x.n x.c)/\w'.cell? ⟨st,9+i,none⟩=some (.func (.func fn) #[] cs)) (go_keep) (first|(go_at_fn fn;refine HN1.out.mono ?_;rintro e w1 ⟨ht,ha⟩;obtain⟨av,chg,en,rfl⟩:=ha.shape;have k0:=(ht.cell (a:=⟨w.heap.size,0,none⟩) hlL (by simp)).trans e0;have k1:=(ht.cell (a:=⟨w.heap.size,1,none⟩) hlL (by simp)).trans e1;have k2:=(ht.cell (a:=⟨w.heap.size,2,none⟩) hlL (by simp)).trans e2;have k3:=(ht.cell (a:=⟨w.heap.size,3,none⟩) hlL (by simp)).trans e3;have k4:=(ht.cell (a:=⟨w.heap.size,4,none⟩) hlL (by simp)).trans e4;have k5:=(ht.cell (a:=⟨w.heap.size,5,none⟩) hlL (by simp)).trans e5;have k6:=(ht.cell (a:=⟨w.heap.size,6,none⟩) hlL (by simp)).trans e6;have k7:=(ht.cell (a:=⟨w.heap.size,7,none⟩) hlL (by simp)).trans e7;have k8:=(ht.cell (a:=⟨w.heap.size,8,none⟩) hlL (by simp)).trans e8;have k9:=(ht.cell (a:=⟨w.heap.size,9,none⟩) hlL (by simp)).trans e9;have k10:=(ht.cell (a:=⟨w.heap.size,10,none⟩) hlL (by simp)).trans e10;have k11:=(ht.cell (a:=⟨w.heap.size,11,none⟩) hlL (by simp)).trans e11;have k12:=(ht.cell (a:=⟨w.heap.size,12,none⟩) hlL (by simp)).trans e12;have k13:=(ht.cell (a:=⟨w.heap.size,13,none⟩) hlL (by simp)).trans e13;have k14:=(ht.cell (a:=⟨w.heap.size,14,none⟩) hlL (by simp)).trans e14;have kx:=(ht.cell (a:=⟨st,9+i,none⟩) hlX (by simp)).trans cx2))
 have HTW:Hid (Tch [] w w1):=TB.out.drew.trans ht (by simp);clear e0 k0 e1 k1 e2 k2 e3 k3 e4 k4 e5 k5 e6 k6 e7 k7 e8 k8 e9 k9 e10 k10 e11 k11 e12 k12 e13 k13 e14 k14 kx cx2 ht HN1 HN;rcases ha with ⟨c,hc0,he,hN,hk⟩|⟨av',chg',l,he,hrd,hk⟩
 ·simp only[Ending.returned.injEq,Value.tuple.injEq,Array.mk.injEq,List.cons.injEq,Value.int.injEq,and_true,true_and]at he;obtain⟨rfl,rfl,rfl⟩:=he;have hne:(((c.toNat:Nat):Int) == 0)=false:=beq_eq_false_iff_ne.2 (by omega);have hne2:(((c.toNat:Nat):Int) != 0)=true:=by simp[bne,hne]
  have HK:Hid (∀w2,Tch [] w1 w2->K ⟨#[c]⟩ w2):=hk;have HRF:Hid (zT 29 #[.int .i64 ((c.toNat:Nat):Int)] w1 (.string ⟨#[c]⟩)):=refusal_any c w1;clear hk;generalize ((c.toNat:Nat):Int)=n at*
  go_wp2_with fail;refine HRF.out.mono ?_;rintro e w2 ⟨rfl,ht2⟩;have HT2:=zH ht2;clear ht2 HRF;go_wp2_with fail;go_ret2;exact⟨HTW.out.trans HT2.out (by simp),⟨#[c]⟩,.inl ⟨rfl,hN,fun w3 h3=>HK.out w3 (HT2.out.trans h3 (by simp))⟩⟩
 ·simp only[Ending.returned.injEq,Value.tuple.injEq,Array.mk.injEq,List.cons.injEq,Value.int.injEq,and_true,true_and]at he;obtain⟨rfl,rfl,rfl⟩:=he;have HK:=zH hk;clear hk;rcases hrd with ⟨rfl,rfl⟩|⟨hl0,hl1,g,cap,hav,hcell⟩
  ·have HT2:Hid (Tch [] w1 (w1.alloc (.cells #[.int .u8 0] 5))):=(Tch.refl _ _).alloc _;have hzs:=zero_str;go_wp2_with fail;rcases HK.out _ HT2.out with ⟨rfl,hN,hk⟩|⟨f,fc,rfl,eg2,hk⟩
   ·go_ret2;exact⟨HTW.out.trans HT2.out (by simp),okL [],.inl ⟨rfl,hN,hk⟩⟩
   ·go_ret2;exact⟨HTW.out.trans HT2.out (by simp),okL [],.inr ⟨f,fc,rfl,eg2,hk⟩⟩
  ·subst hav;have HC:=zH hcell;have HOW:Hid (∀W:World,(W.alloc (.cells #[.int .u8 0] 5)).ownsRow W.heap.size 5 1 (.slice (some ⟨W.heap.size,0,none⟩) 1 1) 1 [.int .u8 0]):=fun W=>⟨rfl,.inr ⟨W.heap.size,1,#[.int .u8 0],rfl,Nat.le_refl _,heap_alloc_new _ _,by decide,by decide,rfl,rfl⟩⟩
   clear hcell;go_wp2_with (at_builtin;refine wpList_append_own _ rfl _ _ 54 rfl w1.heap.size 5 i0 (.int .u8 0) 1 1 Tryz.underlying54 hi0 hz0 hz1 hz2 rfl (by decide) _ _ _ rfl (HOW.out w1) ⟨g,0,none⟩ l.length cap (bytesV l) rfl ?c0 ?c1 ?c2 ?c3 ?c4 ?c5 ?_)
   case c0=>simp[bytesV]
   case c1=>exact fun j u hu=>Lib.cell?_alloc_some _ (HC.out j u hu)
   case c2=>intro u hu;obtain⟨z,_,rfl⟩:=List.mem_map.1 hu;rfl
   case c3=>unfold maxLen;omega
   case c4=>omega
   case c5=>simp
   intro v' w2 hown' hgrow _;have hstr:(convert 54 9 v').run Tryz.prog w2=.ok (.string (okL l)) w2:=OwnB.str (l:=0::l) (by
    have h:=hown';unfold OwnB;rw[List.length_cons,Nat.add_comm];exact h) (by simp)
   have HT2:Hid (Tch [] w1 w2):=((Tch.refl [] w1).alloc _).grown hgrow (fun j hj hlt=>by
    simp[Value.ownBlock]at hj;omega)
   clear hown' hgrow;go_wp2_with fail;rcases HK.out _ HT2.out with ⟨rfl,hN,hk⟩|⟨f,fc,rfl,eg2,hk⟩
   ·go_ret2;exact⟨HTW.out.trans HT2.out (by simp),okL l,.inl ⟨rfl,hN,hk⟩⟩
   ·go_ret2;exact⟨HTW.out.trans HT2.out (by simp),okL l,.inr ⟨f,fc,rfl,eg2,hk⟩⟩
theorem plan_p {N:Prop}(B:Nat)(J:World->Prop)(K:ByteArray->World->Prop)(r:Wp.Rq)(x:Sl)(st b i fn:Nat)(now:Int)(P:Nat->Value)(w:World)(hop:r.op.toNat=65+i)(hi:i<26)(hst:Stb w st b now P)(hv:(deedsC b)[i]?=some (.func (.func fn) #[] #[]))
  (eg:∀args w,(callFunc fn args).run Tryz.prog w=.ok (.enter fn args) w)
  (hS:∀W,Tch [] w W->Calls Tryz.prog fn #[.pointer (some ⟨st,0,none⟩),.agg (cellsOf r x.v)] W fun e w'=>Tch [] W w'/\Ans B N J K e w'):
  Calls Tryz.prog 30 #[.pointer (some ⟨st,0,none⟩),.agg (cellsOf r x.v)] w fun e w'=>Tch [] w w'/\PlG B N J K e w':=
 plan_x B J K r x #[] st b i fn now P w hop hi hst hv eg hS
theorem plan_w {N:Prop}(B:Nat)(J:World->Prop)(K:ByteArray->World->Prop)(r:Wp.Rq)(x:Sl)(st b i fn bb:Nat)(now:Int)(P:Nat->Value)(w:World)(hop:r.op.toNat=65+i)(hi:i<26)(hst:Stb w st b now P)(hv:(deedsC b)[i]?=some (.func (.func fn) #[] #[.pointer (some ⟨bb,0,none⟩)]))
  (eg:∀args w,(callFunc fn args).run Tryz.prog w=.ok (.enter fn args) w)
  (hS:∀W,Tch [] w W->Calls Tryz.prog fn #[.pointer (some ⟨st,0,none⟩),.agg (cellsOf r x.v),.pointer (some ⟨bb,0,none⟩)] W fun e w'=>Tch [] W w'/\Ans B N J K e w'):
  Calls Tryz.prog 30 #[.pointer (some ⟨st,0,none⟩),.agg (cellsOf r x.v)] w fun e w'=>Tch [] w w'/\PlG B N J K e w':=
 plan_x B J K r x _ st b i fn now P w hop hi hst hv eg hS
end Go.Proofs.YtbdobaapadlcjabGreatDoor
