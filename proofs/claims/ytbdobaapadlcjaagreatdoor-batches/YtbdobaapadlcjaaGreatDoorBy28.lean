import Derived.Test.YtbdobaapadlcjaaGreatDoorBy27
set_option maxRecDepth 8000
set_option maxHeartbeats 8000000
set_option linter.unusedVariables false
set_option linter.unusedSimpArgs false
namespace Go.Proofs.YtbdobaapadlcjaaGreatDoor.Ref
open Go.RowKit Go.Proofs.YtbdobaapadlcjaaGreatDoor
variable {i:Nat}{Q:QM}
theorem a5H (h:QW i Q)(til:Int)(k:Nat)(hkl:k<Q.rs.length):∃(j:Nat) (hj:j<Q.ms.length),ixG Q Q.rs[k]=(j:Int)/\(jP til Q.ms (kc Q k)).length=Q.ms.length/\(jP til Q.ms (kc Q k))[j]?=some Q.ms[j]/\jP til Q.ms (kc Q (k+1))=(jP til Q.ms (kc Q k)).set j (a0c til Q.ms[j])/\a2h Q Q.rs[k]=a2g Q.c.q Q.ms[j].num.toNat Q.ms[j].rcv.toNat Q.ms[j].grp Q.ms[j].bod:=by
 have e1:kc Q (k+1)=kc Q k++[jj (isG Q.rs[k]) Q.ms]:=by
  unfold kc;rw[List.take_succ_eq_append_getElem hkl,List.map_append];rfl
 have hgm:Q.rs[k]∈Q.rs:=List.getElem_mem hkl;obtain⟨p,hp⟩:∃p:Nat,jj (isG Q.rs[k]) Q.ms=(p:Int):=⟨_,(Int.toNat_of_nonneg (h.hidx hgm)).symm⟩;obtain⟨hpl,hpg,hpf⟩:=qA _ _ p hp;have hgrp:=(jY _ _).1 hpg;have hnot:Q.rs[k]∉Q.rs.take k:=fun hm=>by
  have h1:=h.rn;rw[<-List.take_append_drop k Q.rs,List.nodup_append]at h1;have h2:Q.rs[k]∈Q.rs.drop k:=by
   rw[List.drop_eq_getElem_cons hkl];exact List.mem_cons_self
  exact h1.2.2 _ hm _ h2 rfl
 have e2:(jP til Q.ms (kc Q k))[p]?=some Q.ms[p]:=by
  rw[a4E h til k (by omega),List.getElem?_map,List.getElem?_eq_getElem hpl]
  show some _=_
  unfold zx;rw[if_neg (by rw[xQ,hgrp];exact fun hc=>hnot hc.1)]
 refine⟨p,hpl,hp,a2M _ _ _,e2,?_,?_⟩
 ·rw[e1,a0a,hp];unfold zO;rw[Int.toNat_natCast,e2]
 ·unfold a2h;rw[hp,Int.toNat_natCast,List.getElem?_eq_getElem hpl]
theorem a3D (Q:QM)(cnt k:Nat)(hk:k<Q.rs.length):jQ Q cnt (k+1)=jQ Q cnt k++a2h Q Q.rs[k]:=by
 unfold jQ;rw[List.take_succ_eq_append_getElem hk,List.flatMap_append,<-List.append_assoc];simp
theorem a2z (h:QW i Q)(cnt k:Nat)(hk:k<=Q.rs.length):(jQ Q cnt k).length<=1+58*k:=by
 induction k with
 | zero=>simp[jQ,jc]
 | succ k ih=>
  have hkl:k<Q.rs.length:=by omega
  obtain⟨j,hj,_,_,_,_,hg⟩:=a5H h 0 k hkl;have hm:=h.mok _ (List.getElem_mem hj);have:=hm.grp;have:=hm.bod;have:=ih (by omega);rw[a3D Q cnt k hkl,List.length_append,hg,a1e];omega
theorem b5K (n:Int)(h0:0<=n)(h1:n<=65535):((oft n.toNat:Nat):Int)=if n<65535 then n+1 else n:=by
 unfold oft
 split<;>split<;>omega
theorem a5V {w:World}{base size n:Nat}{t:TypeId}{v:Value}{xs:List Value}(h:w.ownsRow base t size v n xs):w.ownsRow 0 t size v n xs:=⟨h.1,by
 rcases h.2 with h|⟨g,c,cu,e,_,r⟩
 ·exact .inl h
 ·exact .inr ⟨g,c,cu,e,Nat.zero_le _,r⟩⟩
theorem a2J {α:Type}(f:α->Value)(l:List α):l.flatMap (fun a=>[f a])=l.map f:=by
 induction l with
 | nil=>rfl
 | cons a t ih=>rw[List.flatMap_cons,ih];rfl
def b2q (Q:QM)(att:ByteArray)(cnt:Nat)(til:Int):QM:=if cnt=0 then Q else vA Q att cnt til (jQ Q cnt cnt)
theorem b4P {α:Type}(l:List α)(j:Nat)(a b:α):(l.set j a).set j b=l.set j b:=by
 apply List.ext_getElem?;intro n;rw[List.getElem?_set,List.getElem?_set,List.getElem?_set]
 split<;>simp_all
theorem b7r (K:Ending->World->Prop)(rb i cnt:Nat)(now:Int)(Z:RZ)(r:Wp.Rq)(x:Sl)(y:RQ)(w:World)(h:RG w rb now Z)(hi:i<8)(hq:r.q.toNat=97+i)(hz:Z i=some y)(hmx:1<=r.mx/\r.mx<=10)(hct:cnt=min r.mx.toNat y.Q.rs.length)(hW:QW i y.Q)(hT:TR y.Q y.ts y.cnt)(hnow:0<=now/\now<=60000)(has:r.att.size<=8)
  (kf:∀j (hj:j<y.Q.ats.length),jj (isA r.att) y.Q.ats=(j:Int)->∀w',Tch [] w w'->K (.returned (.string (okL y.Q.ats[j].ans.data.toList))) w')
  (kn:jj (isA r.att) y.Q.ats<0->∀w' V',RS w w' y.qb y.V V' y.sl.v (b2q y.Q r.att cnt (now+y.Q.c.vis)) y.ts y.cnt->K (.returned (.string (okL (jQ y.Q cnt cnt)))) w'):
  Cp 182 #[zp rb,.agg (ja r x.v)] w K:=by
 have HS:=zH (h.st.tch (jG w r x) (by simp));have HQ:Hid (Cp 224 #[zp rb,.int .u8 (r.q.toNat:Int)] (bxR w r x) fun e w'=>e=.returned (zp y.qb)/\w'=bxR w r x):=by
  have h5:=kL rb now (ptR Z) r.q (bxR w r x) HS.out;rw[vz hi hq,kS hz]at h5;exact h5
 have HA0:Hid (∀W,zT 140 #[.int .i64 0] W (.string ⟨#[0]⟩)):=fun W=>jL 0 W
 have c1:=jN (w:=w) (r:=r) (x:=x) (Tch.refl [] _) 1 (.int .u8 (r.q.toNat:Int)) rfl;have HRR:=zH (h.rr i y hi hz);have HST:Hid (Rst w rb now (ptR Z)/\rb∉rbl y.qb y.V):=⟨h.st,h.rb hi hz⟩;have HKF:=zH kf;have HKN:=zH kn;have HW:=zH hW;have HQC:Hid (y.Q.c.q=r.q):=by
  apply UInt8.toNat_inj.1;rw[hq];exact hW.c.q
 have HBX:Hid (∀W,Tch [] (bxR w r x) W->Tch [] w W):=fun W ht=>(jG w r x).trans ht (fun _ h _=>h)
 have HBC:Hid (∀S W,Tch S (bxR w r x) W->w.heap.size∉S->W.cell? ⟨w.heap.size,1,none⟩=some (.int .u8 (r.q.toNat:Int))/\W.cell? ⟨w.heap.size,7,none⟩=some (.int .i64 r.mx)/\W.cell? ⟨w.heap.size,12,none⟩=some (.string r.att)/\w.heap.size<W.heap.size):=fun S W ht hS=>⟨zU ht hS 1 _ rfl,zU ht hS 7 _ rfl,zU ht hS 12 _ rfl,Nat.lt_of_lt_of_le (by simp) ht.size⟩
 have HRB:Hid (RR (bxR w r x) y.qb y.V y.sl.v y.Q y.ts y.cnt/\RS w (bxR w r x) y.qb y.V y.V y.sl.v y.Q y.ts y.cnt/\w.heap.size∉rbl y.qb y.V/\∀k∈rbl y.qb y.V,k<w.heap.size):=⟨HRR.out.tch (jG w r x) (by simp),HRR.out.rs (jG w r x),fun hm=>by have:=HRR.out.lt _ hm;omega,HRR.out.lt⟩
 have HHD:Hid (∀W,Tch [] (bxR w r x) W->Cp 226 #[zp y.qb] W fun e w'=>∃sa sc,e=.returned (.slice sa y.Q.rs.length sc)/\w'.ownsRow W.heap.size 3 1 (.slice sa y.Q.rs.length sc) y.Q.rs.length (y.Q.rs.map (ixV y.Q))/\Tch [] W w'):=fun W ht=>(a3O i y.Q y.ts y.cnt y.V y.sl.v y.qb W (HRB.out.1.tch ht (by simp)) hW hT).mono (by
  rintro e w' ⟨v,he,ho,ht'⟩;obtain⟨sa,sc,rfl⟩:=jl ho;exact⟨sa,sc,he,ho,ht'⟩)
 have HLW:Hid (∀n W,n<4294967296->zT 138 #[.int .i64 ((n:Nat):Int),.int .i64 1] W (.string (BA (je n 1)))):=fun n W h1=>(qe n 1 W h1 (by decide) (by decide)).mono (by rintro e w' ⟨he,hb⟩;exact⟨he,Tch.of_below hb⟩)
 have HTX:Hid (∀s W,s.size<=255->zT 139 #[.string s] W (.string (BA (jx s)))):=fun s W h1=>(qh s W h1).mono (by rintro e w' ⟨he,hb⟩;exact⟨he,Tch.of_below hb⟩)
 have hal20:=hW.al;have hrl:=hW.ok.rl;obtain⟨mx,hmxe⟩:∃mx:Nat,r.mx=(mx:Int):=⟨r.mx.toNat,(Int.toNat_of_nonneg (by omega)).symm⟩;have hct2:cnt=min mx y.Q.rs.length:=by rw[hct,hmxe,Int.toNat_natCast]
 have hmb:1<=mx/\mx<=10:=by omega
 have hcl:cnt<=mx/\cnt<=y.Q.rs.length:=by omega
 have HCT:=zH hct2;have hvs:=hW.c.vis;have e0:=zL r x.v;clear h hq HS kf kn hW hT hct hct2 hmx;generalize hbx:bxR w r x=wb at*
 have hal:w.alloc (.cells #[.int .u8 (r.op.toNat:Int),.int .u8 (r.q.toNat:Int),.int .u8 (r.d.toNat:Int),.int .i64 r.vis,.int .i64 r.win,.int .i64 r.rcv,.int .i64 r.quo,.int .i64 r.mx,.int .i64 r.tic,.string r.grp,.string r.ded,.string r.bod,.string r.att,.string r.han,x.v] 27)=wb:=by rw[<-hbx];rfl
 have c1a:=c1;rw[<-hal]at c1a;rw[e0];clear e0 hbx;rw[hmxe]at HBC;have HMX:=zH hmxe;clear hmxe;go_enter Tryz.func182,Tryz.ntmps182;go_wp2_with fail
 try rw[hal]
 clear hal c1 c1a;refine HQ.out.mono ?_;rintro e w1 ⟨rfl,h'⟩;have h'':=h'.symm;subst h'';clear HQ;go_wp2_with fail;refine(HA0.out _).mono ?_;rintro e w3 ⟨rfl,t3⟩;have TB3:=zH t3;have T3:=zH (HBX.out _ t3);clear t3 HA0;obtain⟨sat,atc,hva⟩:=xL HRR.out.a;have HVA:=zH hva;have HR3:=zH (HRR.out.tch T3.out (by simp));have q20:w3.cell? ⟨y.qb,20,none⟩=some (.slice sat y.Q.ats.length atc):=by rw[<-hva];exact jb HR3.out.blk 20 _ rfl
 have HOA:Hid (rowO w3 267 4 (.slice sat y.Q.ats.length atc) y.Q.ats.length (y.Q.ats.flatMap atK)):=by rw[<-hva];exact HR3.out.a
 obtain⟨b1,b7,b12,lw⟩:=HBC.out _ _ TB3.out (by simp);clear hva;go_wp2_with fail
 go_loopw [7] (fun v wr=>∃j:Nat,j<=y.Q.ats.length/\v=.int .i64 (j:Int)/\(∀i (hi:i<j) (hl:i<y.Q.ats.length),isA r.att y.Q.ats[i]=false)/\Tch [] w3 wr) (fun v _=>y.Q.ats.length-(intOf v).toNat)
 case atStart=>exact⟨0,Nat.zero_le _,rfl,fun i hi=>by omega,Tch.refl _ _⟩
 case round=>
  obtain⟨j,hj,rfl,hno,htr⟩:=hrel;have HNO:Hid (∀i (hi:i<j) (hl:i<y.Q.ats.length),isA r.att y.Q.ats[i]=false):=hno;have TBR:Hid (Tch [] wb wr):=TB3.out.trans htr (fun _ h _=>h);have HTR:Hid (Tch [] w3 wr):=htr;have HRR':Hid (RR wr y.qb y.V y.sl.v y.Q y.ts y.cnt):=HRB.out.1.tch TBR.out (by simp);have HOR:Hid (rowO wr 267 4 (.slice sat y.Q.ats.length atc) y.Q.ats.length (y.Q.ats.flatMap atK)):=HOA.out.tch htr;clear hno htr q20 b1 b7 b12 lw;have q20:wr.cell? ⟨y.qb,20,none⟩=some (.slice sat y.Q.ats.length atc):=by rw[<-HVA.out];exact jb HRR'.out.blk 20 _ rfl
  obtain⟨b1,b7,b12,lw⟩:=HBC.out _ _ TBR.out (by simp)
  by_cases hlt:j<y.Q.ats.length
  ·obtain⟨gb,o,cap,hv,lg,hcs⟩:=a2t atK 4 (fun _=>rfl) HOR.out j hlt;simp only[Value.slice.injEq,true_and]at hv;obtain⟨rfl,rfl⟩:=hv;have d0:wr.cell? ⟨gb,o+j*4,none⟩=some (.string y.Q.ats[j].id):=hcs 0 _ rfl;have d2:wr.cell? ⟨gb,o+j*4+2,none⟩=some (.string y.Q.ats[j].ans):=hcs 2 _ rfl;have hao:=HW.out.aok _ (List.getElem_mem hlt);have z2:y.Q.ats[j].ans.size<=600:=hao.2.1.2;clear hcs HKN HHD
   by_cases hat0:r.att.size=0
   ·have hae:=vR r.att hat0;have HE:Hid (isA r.att y.Q.ats[j]=false):=by
     show (_ == _)=false
     rw[hae];have:=a0h y.Q.ats[j].id (by omega)
     cases hx:y.Q.ats[j].id.toList with
     | nil=>rw[hx]at this;simp at this
     | cons a t=>rw[show (⟨#[]⟩:ByteArray).toList=[] by rw[Lib.toList_data]];rfl
    rw[hae]at b12;clear hae hat0 HKF hao;generalize y.Q.ats[j].id=idj at*
    generalize y.Q.ats[j].ans=ansj at*
    go_wp2_with fail;go_quiet (fail);go_wp2_with fail;go_roundw
    case rel=>exact⟨j+1,by omega,by go_num,fun i hi hl=>by
     by_cases hij:i=j
     ·subst hij;exact HE.out
     ·exact HNO.out i (by omega) hl,HTR.out.drewN _⟩
    case measure=>simp[intOf];omega
   ·have hae:=a0h r.att hat0
    cases he:(y.Q.ats[j].id.toList == r.att.toList) with
    | true=>
     have HFD:Hid (∀w',Tch [] w w'->K (.returned (.string (okL y.Q.ats[j].ans.data.toList))) w'):=HKF.out j hlt (vY _ _ j hlt he (fun i hi=>HNO.out i hi (by omega)));clear HKF HNO hao;generalize y.Q.ats[j].id=idj at*
     generalize y.Q.ats[j].ans=ansj at*
     go_wp2_with fail;go_quiet (fail);go_wp2_with fail
     show K (.returned (.string ((⟨#[0]⟩:ByteArray)++ansj))) _
     have e1:=a0i ansj.data.toList;rw[a2j]at e1;rw[e1];exact HFD.out _ (T3.out.trans (HTR.out.drewN _) (fun _ h _=>h))
    | false=>
     have HE:Hid (isA r.att y.Q.ats[j]=false):=he;clear HKF hao;generalize y.Q.ats[j].id=idj at*
     generalize y.Q.ats[j].ans=ansj at*
     go_wp2_with fail;go_quiet (fail);go_wp2_with fail;go_roundw
     case rel=>exact⟨j+1,by omega,by go_num,fun i hi hl=>by
      by_cases hij:i=j
      ·subst hij;exact HE.out
      ·exact HNO.out i (by omega) hl,HTR.out.drewN _⟩
     case measure=>simp[intOf];omega
  ·have HID:Hid (jj (isA r.att) y.Q.ats<0):=(qq _ _).2 (fun d hd=>by
    obtain⟨i,hi,rfl⟩:=List.mem_iff_getElem.1 hd;exact HNO.out i (by omega) hi)
   have HKM:=zH (HKN.out HID.out);clear HNO HKF HKN HOA HOR HID;generalize wr=wa at*
   go_wp2_with fail;refine(HHD.out _ TBR.out).mono ?_;rintro e w5 ⟨sa,sc,rfl,ho5,t5⟩;have HO5:=zH ho5;have TB5:Hid (Tch [] wb w5):=TBR.out.trans t5 (fun _ h _=>h);have hsz:=lw;clear ho5 t5 HHD q20 b1 b7 b12 lw HRR' HR3;obtain⟨b1,b7,b12,lw⟩:=HBC.out _ _ TB5.out (by simp)
   go_upto_if 64 with fail
   go_cut [8] (fun s8 wx=>s8=.slice sa cnt sc/\wx=w5)
   case first=>
    have HC2:=HCT.out
    by_cases hgt:mx<y.Q.rs.length
    ·have hgI:(mx:Int)<(y.Q.rs.length:Int):=by omega
     have hce:cnt=mx:=by omega
     obtain⟨ga,hsa⟩:∃ga,sa=some ⟨ga,0,none⟩/\y.Q.rs.length<=sc:=by
      rcases HO5.out.2 with ⟨e,_⟩|⟨g,cap,cur,e,_,_,hcap,_⟩
      ·simp at e;omega
      ·simp only[Value.slice.injEq,true_and]at e;obtain⟨e1,e2⟩:=e;exact⟨g,e1,by omega⟩
     obtain⟨rfl,hscl⟩:=hsa;have hsc2:mx<=sc:=by omega
     have hscI:(mx:Int)<=(sc:Int):=by omega
     clear HC2 HCT;subst hce;go_wp2_with fail;go_meet;exact⟨rfl,rfl⟩
    ·have hgI:¬(mx:Int)<(y.Q.rs.length:Int):=by omega
     have hce:cnt=y.Q.rs.length:=by omega
     clear HC2 HCT;go_wp2_with fail;go_meet;exact⟨by rw[hce],rfl⟩
   case rest=>
    obtain⟨rfl,hwc⟩:=hcut;subst hwc;have HL1:Hid (∀W,zT 138 #[.int .i64 (cnt:Int),.int .i64 1] W (.string (BA (je cnt 1)))):=fun W=>HLW.out cnt W (by omega)
    have HS0:Hid (BA (je cnt 1)=BA (jQ y.Q cnt 0)):=by
     show _=_
     unfold jQ;simp
    clear HLW b1 b7 b12 lw;go_wp2_with fail;refine(HL1.out _).mono ?_;rintro e w6 ⟨rfl,t6⟩;rw[HS0.out];have TB6:Hid (Tch [] wb w6):=TB5.out.trans t6 (fun _ h _=>h);have HO6:Hid (w6.ownsRow wa.heap.size 3 1 (.slice sa y.Q.rs.length sc) y.Q.rs.length (y.Q.rs.map (ixV y.Q))):=jf HO5.out t6 (fun _ _=>by simp);have HR6:Hid (RR w6 y.qb y.V y.sl.v y.Q y.ts y.cnt/\RS w w6 y.qb y.V y.V y.sl.v y.Q y.ts y.cnt):=⟨HRB.out.1.tch TB6.out (by simp),HRB.out.2.1.trans (HRB.out.1.rs TB6.out)⟩;have HAT:Hid (∀W Q',RS w6 W y.qb y.V y.V y.sl.v Q' y.ts y.cnt->Q'.c=y.Q.c->(W.cell? ⟨w.heap.size,1,none⟩=some (.int .u8 (r.q.toNat:Int))/\W.cell? ⟨w.heap.size,12,none⟩=some (.string r.att)/\w.heap.size<W.heap.size)/\(W.cell? ⟨rb,0,none⟩=some (.int .i64 now)/\rb<W.heap.size)/\(W.cell? ⟨y.qb,3,none⟩=some (.int .i64 y.Q.c.vis)/\W.cell? ⟨y.qb,16,none⟩=some y.V.m/\W.cell? ⟨y.qb,20,none⟩=some y.V.a/\y.qb<W.heap.size)/\W.ownsRow wa.heap.size 3 1 (.slice sa y.Q.rs.length sc) y.Q.rs.length (y.Q.rs.map (ixV y.Q))):=fun W Q' hs hc=>by
     have tb:Tch (rbl y.qb y.V) wb W:=(TB6.out.sub (by simp)).trans hs.tch (fun x hx _=>hx);have tw:=((HBX.out _ TB6.out).sub (by simp)).trans hs.tch (fun x hx _=>hx);obtain⟨a1,a2,a3,a4⟩:=HBC.out _ _ tb HRB.out.2.2.1;have hst:=HST.out.1.tch tw HST.out.2;have hb:=hs.rr.blk;rw[hc]at hb;refine⟨⟨a1,a3,a4⟩,⟨hst.now,hst.lt⟩,⟨jb hb 3 _ rfl,jb hb 16 _ rfl,jb hb 20 _ rfl,lt_of_block hb⟩,?_⟩;exact jf HO6.out hs.tch (fun k hk hm=>by
      have h1:=xk HO6.out k hk;have h2:=HRB.out.2.2.2 k hm;omega)
    have HSZ:Hid (∀k,k<=cnt->(BA (jQ y.Q cnt k)).size<=600):=fun k hk=>by
     rw[jH];have:=a2z HW.out cnt k (by omega);omega
    clear t6 HL1 HO5 HS0 HO6 TB5 HBC;go_wp2_with fail
    go_loopw [9,10] (fun sv v wx=>∃k:Nat,k<=cnt/\sv=.string (BA (jQ y.Q cnt k))/\v=.int .i64 (k:Int)/\RS w6 wx y.qb y.V y.V y.sl.v {y.Q with ms:=jP (now+y.Q.c.vis) y.Q.ms (kc y.Q k)} y.ts y.cnt) (fun _ v _=>cnt-(intOf v).toNat)
    case atStart=>exact⟨0,Nat.zero_le _,rfl,rfl,HR6.out.1.rs (Tch.refl _ _)⟩
    case round=>
     obtain⟨k,hk,rfl,rfl,hrs⟩:=hrel;generalize hwx:wr=wk at*
     have HRS:=zH hrs;obtain⟨⟨b1,b12,lw⟩,⟨r0,lr⟩,⟨q3,q16,q20,lq⟩,hoh⟩:=HAT.out wk _ hrs rfl;clear hrs
     by_cases hlt:k<cnt
     ·have hkr:k<y.Q.rs.length:=by omega
      obtain⟨j,hj,hix,hfl,hfj,hfs,hgv⟩:=a5H HW.out (now+y.Q.c.vis) k hkr;have hmo:=HW.out.mok _ (List.getElem_mem hj);have hnx:=HW.out.nx;have HFJ:=zH hfj;have HFS:=zH hfs;have HAN:Hid (jQ y.Q cnt (k+1)=jQ y.Q cnt k++a2g r.q y.Q.ms[j].num.toNat y.Q.ms[j].rcv.toNat y.Q.ms[j].grp y.Q.ms[j].bod):=by
       show _=_
       rw[a3D _ _ _ hkr,hgv,HQC.out]
      obtain⟨F,HF⟩:∃F,Hid (F=jP (now+y.Q.c.vis) y.Q.ms (kc y.Q k)):=⟨_,rfl⟩;rw[<-HF.out]at hfl HFJ HFS HRS;have hjF:j<F.length:=by rw[hfl];exact hj
      have hFj:F[j]=y.Q.ms[j]:=by
       have:=HFJ.out;rw[List.getElem?_eq_getElem hjF]at this;exact Option.some.inj this
      obtain⟨gm,cm,hvm,lgm,hcs⟩:=kA Ms.row 5 (fun _=>rfl) HRS.out.rr.m j hjF;rw[hfl]at hvm;rw[hvm]at q16;have HVM:Hid (y.V.m=.slice (some ⟨gm,0,none⟩) F.length cm):=by rw[hfl];exact hvm
      rw[hFj]at hcs;have d3:wk.cell? ⟨gm,j*5+3,none⟩=some (.int .i64 y.Q.ms[j].rcv):=hcs 3 _ rfl;obtain⟨gh,ch,hvh,lgh,hch⟩:=kA (fun g=>[ixV y.Q g]) 1 (fun _=>rfl) (l:=y.Q.rs) (by rw[a2J];exact a5V hoh) k hkr;simp only[Value.slice.injEq,true_and]at hvh;obtain⟨hsa,hsc⟩:=hvh;have d0:wk.cell? ⟨gh,k,none⟩=some (.int .i64 (j:Int)):=by
       have:=hch 0 _ rfl;rw[Nat.mul_one,Nat.add_zero]at this;rw[this];unfold ixV;rw[hix]
      subst hsa;subst hsc;have HM1:Hid (RS wk (wk.setCell ⟨gm,j*5+3,none⟩ (.int .i64 (y.Q.ms[j].rcv+1))) y.qb y.V y.V y.sl.v {y.Q with ms:=F.set j {y.Q.ms[j] with rcv:=y.Q.ms[j].rcv+1}} y.ts y.cnt/\wk.frozen? ⟨gm,j*5+3,none⟩=false):=by
       obtain⟨f1,f2,f3,f4⟩:=HRS.out.rr.setMs (gm:=gm) (cm:=cm) HVM.out j hjF 3 (by decide) (.int .i64 (y.Q.ms[j].rcv+1)) {y.Q.ms[j] with rcv:=y.Q.ms[j].rcv+1} (by
        show _=(F[j]).row.set 3 _
        rw[hFj];rfl)
       exact⟨f4,f1⟩
      have z3:=HM1.out.2;have hrb:=hmo.rcv;have hw1:IntKind.i64.wrap (y.Q.ms[j].rcv+1)=y.Q.ms[j].rcv+1:=by rw[IntKind.wrap_i64];omega
      have HM0:Hid (¬y.Q.ms[j].rcv<65535->F.set j {y.Q.ms[j] with rcv:=((oft y.Q.ms[j].rcv.toNat:Nat):Int)}=F):=fun hc=>by
       rw[b5K _ hrb.1 hrb.2,if_neg hc]
       show F.set j y.Q.ms[j]=F
       rw[<-hFj];exact List.set_getElem_self _
      have HMP:Hid (y.Q.ms[j].rcv<65535->F.set j {y.Q.ms[j] with rcv:=((oft y.Q.ms[j].rcv.toNat:Nat):Int)}=F.set j {y.Q.ms[j] with rcv:=y.Q.ms[j].rcv+1}):=fun hc=>by
       rw[b5K _ hrb.1 hrb.2,if_pos hc]
      have hkI:(k:Int)<(cnt:Int):=by omega
      have hjI:(j:Int)<(y.Q.ms.length:Int):=by omega
      have hj0:(0:Int)<=(j:Int):=by omega
      clear hcs hch hoh hix hfj hfs hgv hvm hfl;go_wp2_with fail;go_quiet (fail)
      go_upto_if 91 with fail
      go_cut [] (fun wy=>RS w6 wy y.qb y.V y.V y.sl.v {y.Q with ms:=F.set j {y.Q.ms[j] with rcv:=((oft y.Q.ms[j].rcv.toNat:Nat):Int)}} y.ts y.cnt)
      case first=>
       by_cases hc:y.Q.ms[j].rcv<65535
       ·have HE:=HMP.out hc;go_wp2_with fail;go_meet;rw[HE];exact HRS.out.trans (HM1.out.1.trans (HM1.out.1.rr.rs ((Tch.refl [] _).drewN _)))
       ·have HE:=HM0.out (by omega);go_wp2_with fail;go_meet;rw[HE];exact HRS.out.trans (HRS.out.rr.rs ((Tch.refl [] _).drewN _))
      case rest=>
       generalize wc=wp at*
       have HRP:=zH hcut;clear hcut b1 b12 lw r0 lr q3 q16 q20 lq d0 d3 z3 HMP HM0 HM1 lgm lgh;obtain⟨⟨b1,b12,lw⟩,⟨r0,lr⟩,⟨q3,q16,q20,lq⟩,hoh⟩:=HAT.out wp _ HRP.out rfl;clear hoh q16 q20;have HM2:Hid (wp.frozen? ⟨gm,j*5+4,none⟩=false/\gm<wp.heap.size/\(∃v,wp.cell? ⟨gm,j*5+4,none⟩=some v)/\RS w6 (wp.setCell ⟨gm,j*5+4,none⟩ (.int .i64 (now+y.Q.c.vis))) y.qb y.V y.V y.sl.v {y.Q with ms:=F.set j (a0c (now+y.Q.c.vis) y.Q.ms[j])} y.ts y.cnt):=by
        have hjs:j<(F.set j {y.Q.ms[j] with rcv:=((oft y.Q.ms[j].rcv.toNat:Nat):Int)}).length:=by rw[List.length_set];exact hjF
        obtain⟨f1,f2,f3,f4⟩:=HRP.out.rr.setMs (gm:=gm) (cm:=cm) (by rw[List.length_set];exact HVM.out) j hjs 4 (by decide) (.int .i64 (now+y.Q.c.vis)) (a0c (now+y.Q.c.vis) y.Q.ms[j]) (by
         show _=((F.set j _)[j]).row.set 4 _
         rw[List.getElem_set_self];rfl)
        rw[b4P]at f4;exact⟨f1,f2,f3,HRP.out.trans f4⟩
       obtain⟨z4,lgm,⟨v4,d4⟩,_⟩:=HM2.out;have hw4:IntKind.i64.wrap (now+y.Q.c.vis)=now+y.Q.c.vis:=by rw[IntKind.wrap_i64];omega
       go_upto_region 20 with fail
       go_cut [] (fun wy=>RS w6 wy y.qb y.V y.V y.sl.v {y.Q with ms:=F.set j (a0c (now+y.Q.c.vis) y.Q.ms[j])} y.ts y.cnt)
       case first=>
        go_region
        all_goals (go_wp2_with fail;go_meet)
        all_goals exact HM2.out.2.2.2.trans (HM2.out.2.2.2.rr.rs ((Tch.refl [] _).drewN _))
       case rest=>
        generalize wc=wq at*
        have HRQ:=zH hcut;clear hcut b1 b12 lw r0 lr q3 lq z4 d4 HM2 lgm hw4 HRP;have HCS:Hid (∀W,Tch [] wq W->RS w6 W y.qb y.V y.V y.sl.v {y.Q with ms:=F.set j (a0c (now+y.Q.c.vis) y.Q.ms[j])} y.ts y.cnt/\(W.cell? ⟨gm,j*5,none⟩=some (.int .i64 y.Q.ms[j].num)/\W.cell? ⟨gm,j*5+1,none⟩=some (.string y.Q.ms[j].grp)/\W.cell? ⟨gm,j*5+2,none⟩=some (.string y.Q.ms[j].bod)/\W.cell? ⟨gm,j*5+3,none⟩=some (.int .i64 ((oft y.Q.ms[j].rcv.toNat:Nat):Int))/\W.cell? ⟨gm,j*5+4,none⟩=some (.int .i64 (now+y.Q.c.vis)))/\gm<W.heap.size/\W.cell? ⟨w.heap.size,1,none⟩=some (.int .u8 (r.q.toNat:Int))/\w.heap.size<W.heap.size):=fun W ht=>by
         have hs:=HRQ.out.trans (HRQ.out.rr.rs ht);obtain⟨⟨a1,a12,lw⟩,_⟩:=HAT.out W _ hs rfl;have hjs:j<(F.set j (a0c (now+y.Q.c.vis) y.Q.ms[j])).length:=by rw[List.length_set];exact hjF
         obtain⟨gm',cm',hvm',lgm',hcs⟩:=kA Ms.row 5 (fun _=>rfl) hs.rr.m j hjs;have hvm2:=HVM.out;rw[hvm2]at hvm';simp only[Value.slice.injEq,Option.some.injEq,Addr.mk.injEq,and_true,true_and]at hvm';obtain⟨rfl,_⟩:=hvm';rw[show (F.set j (a0c (now+y.Q.c.vis) y.Q.ms[j]))[j]=a0c (now+y.Q.c.vis) y.Q.ms[j] from List.getElem_set_self _]at hcs
         exact⟨hs,⟨hcs 0 _ rfl,hcs 1 _ rfl,hcs 2 _ rfl,hcs 3 _ rfl,hcs 4 _ rfl⟩,lgm',a1,lw⟩
        have HN2:Hid (∀W,zT 227 #[.int .u8 (r.q.toNat:Int),.agg #[.int .i64 y.Q.ms[j].num,.string y.Q.ms[j].grp,.string y.Q.ms[j].bod,.int .i64 ((oft y.Q.ms[j].rcv.toNat:Nat):Int),.int .i64 (now+y.Q.c.vis)]] W (.string (BA (qG r.q y.Q.ms[j].num.toNat (oft y.Q.ms[j].rcv.toNat))))):=fun W=>by
         have a1:=hmo.num;exact a2O r.q (a0c (now+y.Q.c.vis) y.Q.ms[j]) y.Q.ms[j].num.toNat (oft y.Q.ms[j].rcv.toNat) (show y.Q.ms[j].num=_ from (Int.toNat_of_nonneg (by omega)).symm) rfl (by omega) (by have:=a4S y.Q.ms[j].rcv.toNat;omega) W
        have HT1:Hid (∀W,zT 139 #[.string y.Q.ms[j].grp] W (.string (BA (jx y.Q.ms[j].grp)))):=fun W=>HTX.out _ W (by have:=hmo.grp;omega)
        have HT2:Hid (∀W,zT 139 #[.string y.Q.ms[j].bod] W (.string (BA (jx y.Q.ms[j].bod)))):=fun W=>HTX.out _ W (by have:=hmo.bod;omega)
        have HEQ:Hid (BA (jQ y.Q cnt k)++BA (qG r.q y.Q.ms[j].num.toNat (oft y.Q.ms[j].rcv.toNat))++BA (jx y.Q.ms[j].grp)++BA (jx y.Q.ms[j].bod)=BA (jQ y.Q cnt (k+1))):=by
         show _=_
         rw[HAN.out,kT,kT,kT];unfold a2g;simp only[List.append_assoc]
        have z0:=HSZ.out k hk;have z1:(BA (qG r.q y.Q.ms[j].num.toNat (oft y.Q.ms[j].rcv.toNat))).size<=8:=by rw[jH];simp[qG,jc]
        have z2:(BA (jx y.Q.ms[j].grp)).size<=9:=by rw[jH,jp];have:=hmo.grp;omega
        have z3:(BA (jx y.Q.ms[j].bod)).size<=41:=by rw[jH,jp];have:=hmo.bod;omega
        have HFIN:Hid (∀W,Tch [] wq W->RS w6 W y.qb y.V y.V y.sl.v {y.Q with ms:=jP (now+y.Q.c.vis) y.Q.ms (kc y.Q (k+1))} y.ts y.cnt):=fun W ht=>by
         rw[HFS.out];exact(HCS.out W ht).1
        obtain⟨_,⟨d0,d1,d2,d3,d4⟩,lgm,b1,lw⟩:=HCS.out wq (Tch.refl _ _);clear hmo HAN HFS HFJ HF hFj HVM hjF hw1 hrb;generalize BA (jQ y.Q cnt k)=S0 at*
        generalize BA (qG r.q y.Q.ms[j].num.toNat (oft y.Q.ms[j].rcv.toNat))=S1 at*
        generalize BA (jx y.Q.ms[j].grp)=S2 at*
        generalize BA (jx y.Q.ms[j].bod)=S3 at*
        generalize ((oft y.Q.ms[j].rcv.toNat:Nat):Int)=orc at*
        go_wp2_with fail
        go_region_held3 (fun w'=>w'.cell? ⟨gm,j*5,none⟩=some (.int .i64 y.Q.ms[j].num)/\w'.cell? ⟨gm,j*5+1,none⟩=some (.string y.Q.ms[j].grp)/\w'.cell? ⟨gm,j*5+2,none⟩=some (.string y.Q.ms[j].bod)/\w'.cell? ⟨gm,j*5+3,none⟩=some (.int .i64 orc)/\w'.cell? ⟨gm,j*5+4,none⟩=some (.int .i64 (now+y.Q.c.vis))/\w'.cell? ⟨w.heap.size,1,none⟩=some (.int .u8 (r.q.toNat:Int))) (go_keep) (first|(go_at_call 227;refine(HN2.out _).mono ?_;rintro e wh ⟨rfl,hh⟩;have TH:Hid (Tch [] wq wh):=(show Tch [] wq _ by first|exact Tch.refl _ _|exact(Tch.refl [] _).drew|exact(Tch.refl [] _).drewN _).trans hh (fun _ h _=>h);obtain⟨_,⟨k0,k1,k2,k3,k4⟩,klg,kb1,klw⟩:=HCS.out wh TH.out;clear hh))
        all_goals
         clear d0 d1 d2 d3 d4 lgm b1 lw k0 k2 k3 k4 kb1 klw HN2;go_wp2_with fail;refine(HT1.out _).mono ?_;rintro e wi ⟨rfl,ti⟩;have TI:Hid (Tch [] wq wi):=TH.out.trans ti (fun _ h _=>h);obtain⟨_,⟨k0,k1,k2,k3,k4⟩,klg,kb1,klw⟩:=HCS.out wi TI.out;clear k0 k1 k3 k4 kb1 klw ti HT1;go_wp2_with fail;refine(HT2.out _).mono ?_;rintro e wj ⟨rfl,tj⟩;have TJ:Hid (Tch [] wq wj):=TI.out.trans tj (fun _ h _=>h);clear k2 klg tj HT2 HCS;go_wp2_with fail;go_roundw
         case rel=>exact⟨k+1,by omega,by rw[HEQ.out],by go_num,HFIN.out _ TJ.out⟩
         case measure=>simp[intOf];omega
     ·have hke:k=cnt:=by omega
      have HRK:Hid (RS w wk y.qb y.V y.V y.sl.v {y.Q with ms:=jP (now+y.Q.c.vis) y.Q.ms (kc y.Q cnt)} y.ts y.cnt):=by
       have h1:=HR6.out.2.trans HRS.out;rw[hke]at h1;exact h1
      have z0:=HSZ.out cnt (Nat.le_refl _);have HEK:Hid (BA (jQ y.Q cnt k)=BA (jQ y.Q cnt cnt)):=by
       show _=_
       rw[hke]
      rw[HEK.out]
      by_cases hat0:r.att.size=0
      ·have hae:=vR r.att hat0;have HFN:Hid (∀w',Tch [] wk w'->K (.returned (.string (okL (jQ y.Q cnt cnt)))) w'):=fun w' ht=>by
        refine HKM.out w' y.V ?_;unfold b2q
        by_cases hc0:cnt=0
        ·rw[if_pos hc0];have h1:=HRK.out.trans (HRK.out.rr.rs ht);rw[show kc y.Q cnt=[] by unfold kc;rw[hc0];rfl]at h1
         exact h1
        ·rw[if_neg hc0];have e1:vA y.Q r.att cnt (now+y.Q.c.vis) (jQ y.Q cnt cnt)={y.Q with ms:=jP (now+y.Q.c.vis) y.Q.ms (kc y.Q cnt),rs:=y.Q.rs.drop cnt}:=by
          unfold vA b9N;exact if_pos hat0
         rw[e1];exact(HRK.out.trans (HRK.out.rr.rs ht)).rdy (y.Q.rs.drop cnt)
       rw[hae]at b12;clear hae hat0 HKM HRK HRS HAT;have HOK:=zH (a0i (jQ y.Q cnt cnt));generalize BA (jQ y.Q cnt cnt)=S0 at*
       go_wp2_with fail
       show K (.returned (.string ((⟨#[0]⟩:ByteArray)++S0))) wk
       rw[HOK.out];exact HFN.out _ (Tch.refl _ _)
      ·have hae:=a0h r.att hat0
       by_cases hc0:cnt=0
       ·have HFN:Hid (∀w',Tch [] wk w'->K (.returned (.string (okL (jQ y.Q cnt cnt)))) w'):=fun w' ht=>by
         refine HKM.out w' y.V ?_;unfold b2q;rw[if_pos hc0];have h1:=HRK.out.trans (HRK.out.rr.rs ht);rw[show kc y.Q cnt=[] by unfold kc;rw[hc0];rfl]at h1
         exact h1
        have hcI:¬(0:Int)<(cnt:Int):=by omega
        clear hat0 HKM HRK HRS HAT hc0;have HOK:=zH (a0i (jQ y.Q cnt cnt));generalize BA (jQ y.Q cnt cnt)=S0 at*
        go_wp2_with fail
        show K (.returned (.string ((⟨#[0]⟩:ByteArray)++S0))) wk
        rw[HOK.out];exact HFN.out _ (Tch.refl _ _)
       ·have hcI:(0:Int)<(cnt:Int):=by omega
        have HVA2:=HVA.out;rw[HVA2]at q20;have HOA:Hid (rowO wk 267 4 (.slice sat y.Q.ats.length atc) y.Q.ats.length (y.Q.ats.flatMap atK)):=by rw[<-HVA2];exact HRK.out.rr.a
        have hw4:IntKind.i64.wrap (now+y.Q.c.vis)=now+y.Q.c.vis:=by rw[IntKind.wrap_i64];omega
        have HOK:=zH (a0i (jQ y.Q cnt cnt));have HFN:Hid (∀w' V' l',RS w w' y.qb y.V V' y.sl.v {y.Q with ms:=jP (now+y.Q.c.vis) y.Q.ms (kc y.Q cnt),ats:=l'} y.ts y.cnt->l'=(if y.Q.ats.length<20 then y.Q.ats++[(⟨r.att,now+y.Q.c.vis,BA (jQ y.Q cnt cnt)⟩:At)] else (y.Q.ats++[(⟨r.att,now+y.Q.c.vis,BA (jQ y.Q cnt cnt)⟩:At)]).eraseIdx 0)->K (.returned (.string (okL (jQ y.Q cnt cnt)))) w'):=fun w' V' l' hs hl=>by
         refine HKM.out w' V' ?_;unfold b2q;rw[if_neg hc0];have e1:vA y.Q r.att cnt (now+y.Q.c.vis) (jQ y.Q cnt cnt)={y.Q with ms:=jP (now+y.Q.c.vis) y.Q.ms (kc y.Q cnt),ats:=l',rs:=y.Q.rs.drop cnt}:=by
          rw[hl];unfold vA b9N;exact if_neg hat0
         rw[e1];exact hs.rdy (y.Q.rs.drop cnt)
        have HVS:Hid (∃vs:Int,vs=y.Q.c.vis):=⟨_,rfl⟩;obtain⟨vs,hvse⟩:=HVS.out;have HVE:=zH hvse;rw[<-hvse]at q3 hw4 HFN hvs;have HRK2:=HRK.out;rw[<-hvse]at HRK2;have HRV:=zH HRK2;have HBQ:=zH HRK2.rr.blk;have HRT:Hid (Rst wk rb now (ptR Z)/\rb∉rbl y.qb y.V):=⟨HST.out.1.tch HRK2.tch HST.out.2,HST.out.2⟩;have HB12:Hid (∀S W,Tch S wk W->w.heap.size∉S->W.cell? ⟨w.heap.size,12,none⟩=some (.string r.att)):=fun S W ht hS=>(ht.cell (a:=⟨w.heap.size,12,none⟩) lw hS).trans b12
        clear hvse HRK2 HRK HVS;have HG:Hid (∀v' w9,rowO w9 267 4 v' (y.Q.ats.length+1) (y.Q.ats.flatMap atK++[.string r.att,.int .i64 0,.string (BA (jQ y.Q cnt cnt)),.int .i64 (now+vs)])->Tch (bl (Value.slice sat y.Q.ats.length atc)) (wk.drew.alloc (.cells #[.string r.att,.int .i64 0,.string (BA (jQ y.Q cnt cnt)),.int .i64 (now+vs)] 267)) w9->(∀k,v'.ownBlock=some k->(Value.slice sat y.Q.ats.length atc).ownBlock=some k\/(wk.drew.alloc (.cells #[.string r.att,.int .i64 0,.string (BA (jQ y.Q cnt cnt)),.int .i64 (now+vs)] 267)).heap.size<=k)->∃g4 o4 cap4,v'=.slice (some ⟨g4,o4,none⟩) (y.Q.ats.length+1) cap4/\(w9.cell? ⟨w.heap.size,12,none⟩=some (.string r.att)/\w9.cell? ⟨rb,0,none⟩=some (.int .i64 now)/\w9.cell? ⟨y.qb,3,none⟩=some (.int .i64 vs)/\w9.frozen? ⟨y.qb,20,none⟩=false)/\w9.cell? ⟨y.qb,20,none⟩=some (.slice sat y.Q.ats.length atc)/\y.qb<w9.heap.size/\y.Q.ats.length+1<=cap4/\((w9.setCell ⟨y.qb,20,none⟩ v').cell? ⟨w.heap.size,12,none⟩=some (.string r.att)/\(w9.setCell ⟨y.qb,20,none⟩ v').cell? ⟨rb,0,none⟩=some (.int .i64 now)/\(w9.setCell ⟨y.qb,20,none⟩ v').cell? ⟨y.qb,3,none⟩=some (.int .i64 vs)/\(w9.setCell ⟨y.qb,20,none⟩ v').frozen? ⟨y.qb,20,none⟩=false)/\RS w (w9.setCell ⟨y.qb,20,none⟩ v') y.qb y.V {y.V with a:=v'} y.sl.v {y.Q with ms:=jP (now+vs) y.Q.ms (kc y.Q cnt),ats:=y.Q.ats++[(⟨r.att,now+vs,BA (jQ y.Q cnt cnt)⟩:At)]} y.ts y.cnt):=fun v' w9 ho ht hn=>by
         have t1:Tch [] wk (wk.drew.alloc (.cells #[.string r.att,.int .i64 0,.string (BA (jQ y.Q cnt cnt)),.int .i64 (now+vs)] 267)):=(Tch.refl _ _).drew.alloc _;rw[<-HVA2]at ht hn;have t2:Tch (bl y.V.a) wk w9:=(t1.sub (by simp)).trans ht (fun x hx _=>hx);obtain⟨k1,k2,k3,k4⟩:=HRV.out.rr.newA (v':=v') (l':=y.Q.ats++[(⟨r.att,now+vs,BA (jQ y.Q cnt cnt)⟩:At)]) t2 (by simpa [atK]using ho) (fun k hk=>by
          rcases hn k hk with e|e
          ·exact .inl e
          ·have:=t1.size;exact .inr (by omega)) (fun k hk hkd=>by
          rcases hn k hk with e|e
          ·exact HRV.out.rr.sep k hkd e
          ·have:=t1.size;have:=vM HRV.out.rr.d hkd;omega)
         have b9:w9.heap[y.qb]?=some (.cells (rqC y.Q.c y.sl.v (y.Q.next:Int) y.V.m y.V.t (y.cnt:Int) y.V.d y.V.a) 216 (0,0)):=(t2.block _ (lt_of_block HBQ.out) (fun hm=>HRV.out.rr.kq (.inr (.inr (.inr (jq.1 hm)))) rfl)).trans HBQ.out
         have b10:=k4.rr.blk;have hsub:∀k∈bl y.V.a,k∈rbl y.qb y.V:=fun k hk=>ju.2 (.inr (.inr (.inr (.inr (jq.1 hk)))))
         have t3:=t2.sub (S':=rbl y.qb y.V) (fun k hk _=>hsub k hk);have r9:=HRT.out.1.tch t3 HRT.out.2;have r10:=HRT.out.1.tch k4.tch HRT.out.2;have hbw:some (Value.int .i64 y.Q.c.vis)=some (.int .i64 vs):=by rw[HVE.out]
         have f10:(w9.setCell ⟨y.qb,20,none⟩ v').frozen? ⟨y.qb,20,none⟩=false:=frozen_of_row _ _ _ _ 216 b10;rw[HVA2]at k1;rcases ho with ⟨_,h0,_⟩|⟨g4,o4,cap4,cur,hv,_,hc,_⟩
         ·omega
         ·exact⟨g4,o4,cap4,hv,⟨HB12.out _ _ t3 HRB.out.2.2.1,r9.now,(jb b9 3 _ rfl).trans hbw,k2⟩,k1,k3,hc,⟨HB12.out _ _ k4.tch HRB.out.2.2.1,r10.now,(jb b10 3 _ rfl).trans hbw,f10⟩,HRV.out.trans k4⟩
        have HZ:Hid (wk.frozen? ⟨y.qb,20,none⟩=false):=frozen_of_row wk _ _ _ 216 HBQ.out;have HZB:Hid (∀o,(wk.drew.alloc o).frozen? ⟨y.qb,20,none⟩=false):=fun o=>frozen_of_row _ y.qb 20 _ 216 ((Below.heap_alloc _ _ _ lq).trans HBQ.out)
        clear HKM HRS HAT HVA2 HRT HRB HST HBQ HB12 has;generalize BA (jQ y.Q cnt cnt)=S0 at*
        go_wp2_with fail;have z9a:=HZ.out;have z9c:∀o,(wk.alloc o).drew.frozen? ⟨y.qb,20,none⟩=false:=fun o=>HZB.out o
        refine wp_region_noPanic ?_;refine wp_region_held_drew (S:=(fun w'=>w'.cell? ⟨w.heap.size,12,none⟩=some (.string r.att)/\w'.cell? ⟨rb,0,none⟩=some (.int .i64 now)/\w'.cell? ⟨y.qb,3,none⟩=some (.int .i64 vs)/\w'.frozen? ⟨y.qb,20,none⟩=false)) (by kernel_rfl) (by go_keep) (fun hHeld=>?_);refine zK 0 (h:=?_);refine zK 1 (h:=?_);refine zK 2 (h:=?_);refine zK 3 (h:=?_);refine zK 5 (h:=?_);refine zK 6 (h:=?_);refine zK 7 (h:=?_);refine zK 8 (h:=?_);refine zK 9 (h:=?_);refine zK 10 (h:=?_);refine zK 11 (h:=?_);refine zK 12 (h:=?_);refine zK 13 (h:=?_);refine zK 14 (h:=?_);refine zK 15 (h:=?_);refine zK 16 (h:=?_);refine zK 17 (h:=?_);refine zK 18 (h:=?_)
        try simp only[Act.put,List.setIfInBounds_toArray,List.set_cons_zero,List.set_cons_succ]
        refine wpAnyH_ready (rs:=[4,19]) (by kernel_rfl) (by simp) ?_;refine AllReadyH.cons rfl (fun K' hK'=>?_) (AllReadyH.cons rfl (fun K' hK'=>?_) AllReadyH.nil)
        ·go_simp;refine hK'.out _ _ (by go_keep) (fun hHeld=>?_);clear hK' K'
         try simp only[Act.put,List.setIfInBounds_toArray,List.set_cons_zero,List.set_cons_succ]
         refine wpAnyH_ready (rs:=[19]) (by kernel_rfl) (by simp) ?_;refine AllReadyH.cons rfl (fun K' hK'=>?_) AllReadyH.nil;go_simp;refine hK'.out _ _ (by go_keep) (fun hHeld=>?_);clear hK' K'
         try simp only[Act.put,List.setIfInBounds_toArray,List.set_cons_zero,List.set_cons_succ]
         refine wpAnyH_ready (rs:=[20]) (by kernel_rfl) (by simp) ?_;refine AllReadyH.cons rfl (fun K' hK'=>?_) AllReadyH.nil;refine a3s rfl (.tmp 147) (.tmp 162) 214 267 rfl Tryz.underlying214 (.agg #[.string ⟨#[]⟩,.int .i64 0,.string ⟨#[]⟩,.int .i64 0]) 4 48 a1g rfl (by decide) (by decide) (.slice sat y.Q.ats.length atc) y.Q.ats.length (y.Q.ats.flatMap atK) (by simp[Act.eval,Act.put]) (by first|exact HOA.out.tch ((Tch.refl [] _).alloc _).drew|exact HOA.out.tch ((Tch.refl [] _).drew.alloc _)) wk.heap.size [.string r.att,.int .i64 0,.string S0,.int .i64 (now+vs)] 1 (by simp[Act.eval,Act.put]) rfl (by decide) (by first|exact heap_alloc_new _ _|exact heap_alloc_new wk _) (by intro u hu;simp at hu;rcases hu with rfl|rfl|rfl|rfl<;>rfl) (by omega) ?_;intro v' w9 ho3 hg3 hb3;obtain⟨g4,o4,cap4,hv4,⟨s1,s2,s3,s4⟩,c9,l9,hcap,⟨u1,u2,u3,u4⟩,hfin⟩:=HG.out v' w9 ho3 hg3 hb3;subst hv4;clear ho3 hg3 hb3;have HFI:Hid (RS _ _ _ _ _ _ _ _ _):=hfin;clear hfin;refine hK'.out _ _ (by go_keep) (fun hHeld=>?_);clear hK' K'
         try simp only[Act.put,List.setIfInBounds_toArray,List.set_cons_zero,List.set_cons_succ]
         refine zK 21 (h:=?_);refine zK 22 (h:=?_)
         try simp only[Act.put,List.setIfInBounds_toArray,List.set_cons_zero,List.set_cons_succ]
         refine wpAnyH_ready (rs:=[23]) (by kernel_rfl) (by simp) ?_;refine AllReadyH.cons rfl (fun K' hK'=>?_) AllReadyH.nil;go_simp;refine hK'.out _ _ (by go_keep) (fun hHeld=>?_);clear hK' K'
         try simp only[Act.put,List.setIfInBounds_toArray,List.set_cons_zero,List.set_cons_succ]
         refine wpAnyH_done (by kernel_rfl) ?_ _;refine NoPanic.normal ?_;generalize hW9:w9.setCell ⟨y.qb,20,none⟩ (.slice (some ⟨g4,o4,none⟩) (y.Q.ats.length+1) cap4)=w10 at*
         have c20:w10.cell? ⟨y.qb,20,none⟩=some (.slice (some ⟨g4,o4,none⟩) (y.Q.ats.length+1) cap4):=jb HFI.out.rr.blk 20 _ rfl;clear HG HOA q20 c9 l9 s1 s2 s3 s4 u1 u2 u3 u4 z9a z9c HZ HZB r0 lr q3 lq b12 lw
         by_cases hfull:y.Q.ats.length<20
         ·have HK1:Hid (K (.returned (.string (okL (jQ y.Q cnt cnt)))) w10):=HFN.out w10 _ _ HFI.out (by rw[if_pos hfull]);have hn21:¬(20:Int)<(y.Q.ats.length:Int)+1:=by omega
          clear HFN HFI;go_wp2_with fail
          show K (.returned (.string ((⟨#[0]⟩:ByteArray)++S0))) w10
          rw[HOK.out];exact HK1.out
         ·have hlen:y.Q.ats.length=20:=by omega
          obtain⟨m1,m2,m3,m4⟩:=HFI.out.rr.newA (v':=.slice (some ⟨g4,o4+4,none⟩) y.Q.ats.length (cap4-1)) (l':=(y.Q.ats++[(⟨r.att,now+vs,S0⟩:At)]).eraseIdx 0) ((Tch.refl [] _).sub (by simp)) (by
           have h1:=HFI.out.rr.a;have h2:rowO w10 267 4 (.slice (some ⟨g4,o4,none⟩) (y.Q.ats.length+1) cap4) (y.Q.ats.length+1) ((y.Q.ats++[(⟨r.att,now+vs,S0⟩:At)]).flatMap atK):=by
            have e:(y.Q.ats++[(⟨r.att,now+vs,S0⟩:At)]).length=y.Q.ats.length+1:=by simp
            have h3:=h1;rw[e]at h3;exact h3
           have h3:=h2.tail;have e2:∀l:List At,0<l.length->(l.flatMap atK).drop 4=(l.eraseIdx 0).flatMap atK:=fun l hl=>by
            cases l with
            | nil=>simp at hl
            | cons a t=>rfl
           rw[e2 _ (by simp)]at h3;have e3:((y.Q.ats++[(⟨r.att,now+vs,S0⟩:At)]).eraseIdx 0).length=y.Q.ats.length:=by rw[List.length_eraseIdx];simp
           rw[e3];exact h3) (fun k hk=>.inl hk) (fun k hk hkd=>HFI.out.rr.sep k hkd hk)
          have HK1:Hid (K (.returned (.string (okL (jQ y.Q cnt cnt)))) (w10.setCell ⟨y.qb,20,none⟩ (.slice (some ⟨g4,o4+4,none⟩) y.Q.ats.length (cap4-1)))):=HFN.out _ _ _ (HFI.out.trans m4) (by rw[if_neg hfull]);have hn21:(20:Int)<(y.Q.ats.length:Int)+1:=by omega
          have hcp4:¬cap4=1:=by omega
          clear HFN HFI m1 m4 hlen;go_wp2_with fail
          show K (.returned (.string ((⟨#[0]⟩:ByteArray)++S0))) _
          rw[HOK.out];exact HK1.out
        ·go_simp;refine hK'.out _ _ (by go_keep) (fun hHeld=>?_);clear hK' K'
         try simp only[Act.put,List.setIfInBounds_toArray,List.set_cons_zero,List.set_cons_succ]
         refine wpAnyH_ready (rs:=[4]) (by kernel_rfl) (by simp) ?_;refine AllReadyH.cons rfl (fun K' hK'=>?_) AllReadyH.nil;go_simp;refine hK'.out _ _ (by go_keep) (fun hHeld=>?_);clear hK' K'
         try simp only[Act.put,List.setIfInBounds_toArray,List.set_cons_zero,List.set_cons_succ]
         refine wpAnyH_ready (rs:=[20]) (by kernel_rfl) (by simp) ?_;refine AllReadyH.cons rfl (fun K' hK'=>?_) AllReadyH.nil;refine a3s rfl (.tmp 147) (.tmp 162) 214 267 rfl Tryz.underlying214 (.agg #[.string ⟨#[]⟩,.int .i64 0,.string ⟨#[]⟩,.int .i64 0]) 4 48 a1g rfl (by decide) (by decide) (.slice sat y.Q.ats.length atc) y.Q.ats.length (y.Q.ats.flatMap atK) (by simp[Act.eval,Act.put]) (by first|exact HOA.out.tch ((Tch.refl [] _).alloc _).drew|exact HOA.out.tch ((Tch.refl [] _).drew.alloc _)) wk.heap.size [.string r.att,.int .i64 0,.string S0,.int .i64 (now+vs)] 1 (by simp[Act.eval,Act.put]) rfl (by decide) (by first|exact heap_alloc_new _ _|exact heap_alloc_new wk _) (by intro u hu;simp at hu;rcases hu with rfl|rfl|rfl|rfl<;>rfl) (by omega) ?_;intro v' w9 ho3 hg3 hb3;obtain⟨g4,o4,cap4,hv4,⟨s1,s2,s3,s4⟩,c9,l9,hcap,⟨u1,u2,u3,u4⟩,hfin⟩:=HG.out v' w9 ho3 hg3 hb3;subst hv4;clear ho3 hg3 hb3;have HFI:Hid (RS _ _ _ _ _ _ _ _ _):=hfin;clear hfin;refine hK'.out _ _ (by go_keep) (fun hHeld=>?_);clear hK' K'
         try simp only[Act.put,List.setIfInBounds_toArray,List.set_cons_zero,List.set_cons_succ]
         refine zK 21 (h:=?_);refine zK 22 (h:=?_)
         try simp only[Act.put,List.setIfInBounds_toArray,List.set_cons_zero,List.set_cons_succ]
         refine wpAnyH_ready (rs:=[23]) (by kernel_rfl) (by simp) ?_;refine AllReadyH.cons rfl (fun K' hK'=>?_) AllReadyH.nil;go_simp;refine hK'.out _ _ (by go_keep) (fun hHeld=>?_);clear hK' K'
         try simp only[Act.put,List.setIfInBounds_toArray,List.set_cons_zero,List.set_cons_succ]
         refine wpAnyH_done (by kernel_rfl) ?_ _;refine NoPanic.normal ?_;generalize hW9:w9.setCell ⟨y.qb,20,none⟩ (.slice (some ⟨g4,o4,none⟩) (y.Q.ats.length+1) cap4)=w10 at*
         have c20:w10.cell? ⟨y.qb,20,none⟩=some (.slice (some ⟨g4,o4,none⟩) (y.Q.ats.length+1) cap4):=jb HFI.out.rr.blk 20 _ rfl;clear HG HOA q20 c9 l9 s1 s2 s3 s4 u1 u2 u3 u4 z9a z9c HZ HZB r0 lr q3 lq b12 lw
         by_cases hfull:y.Q.ats.length<20
         ·have HK1:Hid (K (.returned (.string (okL (jQ y.Q cnt cnt)))) w10):=HFN.out w10 _ _ HFI.out (by rw[if_pos hfull]);have hn21:¬(20:Int)<(y.Q.ats.length:Int)+1:=by omega
          clear HFN HFI;go_wp2_with fail
          show K (.returned (.string ((⟨#[0]⟩:ByteArray)++S0))) w10
          rw[HOK.out];exact HK1.out
         ·have hlen:y.Q.ats.length=20:=by omega
          obtain⟨m1,m2,m3,m4⟩:=HFI.out.rr.newA (v':=.slice (some ⟨g4,o4+4,none⟩) y.Q.ats.length (cap4-1)) (l':=(y.Q.ats++[(⟨r.att,now+vs,S0⟩:At)]).eraseIdx 0) ((Tch.refl [] _).sub (by simp)) (by
           have h1:=HFI.out.rr.a;have h2:rowO w10 267 4 (.slice (some ⟨g4,o4,none⟩) (y.Q.ats.length+1) cap4) (y.Q.ats.length+1) ((y.Q.ats++[(⟨r.att,now+vs,S0⟩:At)]).flatMap atK):=by
            have e:(y.Q.ats++[(⟨r.att,now+vs,S0⟩:At)]).length=y.Q.ats.length+1:=by simp
            have h3:=h1;rw[e]at h3;exact h3
           have h3:=h2.tail;have e2:∀l:List At,0<l.length->(l.flatMap atK).drop 4=(l.eraseIdx 0).flatMap atK:=fun l hl=>by
            cases l with
            | nil=>simp at hl
            | cons a t=>rfl
           rw[e2 _ (by simp)]at h3;have e3:((y.Q.ats++[(⟨r.att,now+vs,S0⟩:At)]).eraseIdx 0).length=y.Q.ats.length:=by rw[List.length_eraseIdx];simp
           rw[e3];exact h3) (fun k hk=>.inl hk) (fun k hk hkd=>HFI.out.rr.sep k hkd hk)
          have HK1:Hid (K (.returned (.string (okL (jQ y.Q cnt cnt)))) (w10.setCell ⟨y.qb,20,none⟩ (.slice (some ⟨g4,o4+4,none⟩) y.Q.ats.length (cap4-1)))):=HFN.out _ _ _ (HFI.out.trans m4) (by rw[if_neg hfull]);have hn21:(20:Int)<(y.Q.ats.length:Int)+1:=by omega
          have hcp4:¬cap4=1:=by omega
          clear HFN HFI m1 m4 hlen;go_wp2_with fail
          show K (.returned (.string ((⟨#[0]⟩:ByteArray)++S0))) _
          rw[HOK.out];exact HK1.out
end Go.Proofs.YtbdobaapadlcjaaGreatDoor.Ref
