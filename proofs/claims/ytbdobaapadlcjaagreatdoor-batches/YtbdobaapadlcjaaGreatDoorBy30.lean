import Derived.Test.YtbdobaapadlcjaaGreatDoorBy29
set_option maxRecDepth 8000
set_option maxHeartbeats 8000000
set_option linter.unusedVariables false
set_option linter.unusedSimpArgs false
namespace Go.Proofs.YtbdobaapadlcjaaGreatDoor.Ref
open Go.RowKit Go.Proofs.YtbdobaapadlcjaaGreatDoor
variable {w:World}{qb cnt:Nat}{V:RV}{sl:Value}{Q:QM}{ts:List Tn}
theorem b9v (now:Int)(c:Nat->Option QM):kX now 0 c=c:=by
 funext i;unfold kX;rw[if_neg (by omega)]
theorem b0W (now:Int)(c:Nat->Option QM)(k:Nat)(h:c k=none):kX now (k+1) c=kX now k c:=by
 funext i;unfold kX
 by_cases e:i=k
 ·subst e;rw[if_pos (by omega),if_neg (by omega),h];rfl
 ·by_cases e2:i<k
  ·rw[if_pos (by omega),if_pos e2]
  ·rw[if_neg (by omega),if_neg e2]
theorem b0X (now:Int)(c:Nat->Option QM)(k:Nat)(Q:QM)(h:c k=some Q):kX now (k+1) c=jI (kX now k c) k (some (a1V now Q)):=by
 funext i;unfold kX jI
 by_cases e:i=k
 ·subst e;rw[if_pos (by omega),if_pos rfl,h];rfl
 ·rw[if_neg e]
  show _=(if i<k then (c i).map (a1V now) else c i)
  by_cases e2:i<k
  ·rw[if_pos (by omega),if_pos e2]
  ·rw[if_neg (by omega),if_neg e2]
theorem b6C (now:Int)(c:Nat->Option QM)(k:Nat):kX now k c k=c k:=by
 unfold kX;rw[if_neg (Nat.lt_irrefl _)]
theorem b7T (now:Int)(l:List Dd):(l.map mkD).filter (alF now)=(l.filter (fun x=>!decide (x.til<=now))).map mkD:=by
 induction l with
 | nil=>rfl
 | cons a r ih=>
  rw[List.map_cons,List.filter_cons,List.filter_cons,ih];have e:alF now (mkD a)=!decide (a.til<=now):=by
   show decide (now<a.til)=_
   rw[Bool.eq_iff_iff,decide_eq_true_eq,Bool.not_eq_true',decide_eq_false_iff_not];omega
  rw[e]
  split<;>rfl
theorem b7S (now:Int)(l:List At):(l.map mkA).filter (alF now)=(l.filter (fun x=>!decide (x.til<=now))).map mkA:=by
 induction l with
 | nil=>rfl
 | cons a r ih=>
  rw[List.map_cons,List.filter_cons,List.filter_cons,ih];have e:alF now (mkA a)=!decide (a.til<=now):=by
   show decide (now<a.til)=_
   rw[Bool.eq_iff_iff,decide_eq_true_eq,Bool.not_eq_true',decide_eq_false_iff_not];omega
  rw[e]
  split<;>rfl
theorem RR.fgD (h:RR w qb V sl Q ts cnt)(now:Int)(hl:Q.ds.length<=1000):
  Cp 233 #[V.d,.int .i64 now] w fun e w'=>∃v',e=.returned v'/\Tch [] w w'/\(∃a n c,v'=.slice a n c)/\w'.cell? ⟨qb,19,none⟩=some V.d/\w'.frozen? ⟨qb,19,none⟩=false/\qb<w'.heap.size/\Hid (RS w (w'.setCell ⟨qb,19,none⟩ v') qb V {V with d:=v'} sl {Q with ds:=Q.ds.filter (fun x=>!decide (x.til<=now))} ts cnt):=by
 have ho:rowO w 267 4 V.d (Q.ds.map mkD).length ((Q.ds.map mkD).flatMap Mk.row):=by
  rw[<-a2I,List.length_map];exact rowO.of_own h.d
 refine(a3C (Q.ds.map mkD) V.d now w ho (by rw[List.length_map];exact hl)).mono ?_;rintro e w' ⟨v',rfl,h1,h2⟩;rw[b7T,<-a2I,List.length_map]at h1;obtain⟨a,c,hv⟩:=jl h1;obtain⟨k1,k2,k3,k4⟩:=h.newD (v':=v') (l':=Q.ds.filter (fun x=>!decide (x.til<=now))) (h2.sub (by simp)) (a1F h1 (Nat.zero_le _)) (fun k hk=>.inr (xk h1 k hk)) (fun k hk e=>by
  obtain⟨C,hC⟩:=h.a.ty e;have:=lt_of_block hC;have:=xk h1 k hk;omega)
 exact⟨v',rfl,h2,⟨_,_,_,hv⟩,k1,k2,k3,k4⟩
theorem RR.fgA (h:RR w qb V sl Q ts cnt)(now:Int)(hl:Q.ats.length<=1000):
  Cp 233 #[V.a,.int .i64 now] w fun e w'=>∃v',e=.returned v'/\Tch [] w w'/\(∃a n c,v'=.slice a n c)/\w'.cell? ⟨qb,20,none⟩=some V.a/\w'.frozen? ⟨qb,20,none⟩=false/\qb<w'.heap.size/\Hid (RS w (w'.setCell ⟨qb,20,none⟩ v') qb V {V with a:=v'} sl {Q with ats:=Q.ats.filter (fun x=>!decide (x.til<=now))} ts cnt):=by
 have ho:rowO w 267 4 V.a (Q.ats.map mkA).length ((Q.ats.map mkA).flatMap Mk.row):=by
  rw[<-a2H,List.length_map];exact h.a
 refine(a3C (Q.ats.map mkA) V.a now w ho (by rw[List.length_map];exact hl)).mono ?_;rintro e w' ⟨v',rfl,h1,h2⟩;rw[b7S,<-a2H,List.length_map]at h1;obtain⟨a,c,hv⟩:=jl h1;obtain⟨k1,k2,k3,k4⟩:=h.newA (v':=v') (l':=Q.ats.filter (fun x=>!decide (x.til<=now))) (h2.sub (by simp)) (rowO.of_own (a1F h1 (Nat.zero_le _))) (fun k hk=>.inr (xk h1 k hk)) (fun k hk e=>by
  obtain⟨C,hC⟩:=jV h.d e;have:=lt_of_block hC;have:=xk h1 k hk;omega)
 exact⟨v',rfl,h2,⟨_,_,_,hv⟩,k1,k2,k3,k4⟩
theorem b4Z (rb N:Nat)(now:Int)(Z:RZ)(r:Wp.Rq)(x:Sl)(w:World)(h:RG w rb now Z)(hWc:WFc (ctR Z))(hTZ:TRZ Z N)(hN:N<=4611686018427300000)(hn:0<=now/\now<=60000)(ht:0<=r.tic/\r.tic<=1000)(hlt:¬60000<now+r.tic):
  Cp 185 #[zp rb,.agg (ja r x.v)] w fun e w'=>e=.returned (.string ⟨#[0]⟩)/\Lft rb Z N w w' (now+r.tic) (b9M (now+r.tic) (ctR Z)) (N+40000):=by
 have HA:Hid (∀W,zT 140 #[.int .i64 0] W (.string ⟨#[0]⟩)):=fun W=>jL 0 W
 have c8:=jN (w:=w) (r:=r) (x:=x) (Tch.refl [] _) 8 (.int .i64 r.tic) rfl;have lb:=a5t (w:=w) (r:=r) (x:=x) (Tch.refl [] _);have hst:=h.st.tch (jG w r x) (by simp);have cn:=hst.now;have lr:=hst.lt;have fz:=hst.fz 0;have hwt:IntKind.i64.wrap (now+r.tic)=now+r.tic:=by rw[IntKind.wrap_i64];omega
 have HL0:Hid (∀W w',Tch [] (bxR w r x) W->Tch [] (W.setCell ⟨rb,0,none⟩ (.int .i64 (now+r.tic))) w'->Lft rb Z N w w' (now+r.tic) (kX (now+r.tic) 0 (ctR Z)) N):=fun W w' ht ht'=>by
  have t1:Tch [] w W:=(jG w r x).trans ht (fun _ h _=>h);refine⟨Z,(h.rgs t1).trans ((h.tch t1 (by simp)).setNow (now+r.tic) ht'),?_,hTZ,QB.refl _⟩;rw[b9v]
 have HL3:Hid (Lft rb Z N w ((bxR w r x).setCell ⟨rb,0,none⟩ (.int .i64 (now+r.tic))).drew.drew (now+r.tic) (kX (now+r.tic) 0 (ctR Z)) N):=HL0.out _ _ (Tch.refl _ _) ((Tch.refl [] _).drew.drew);clear HL0;have e0:=zL r x.v;clear h hst;unfold bxR at*
 rw[e0]at c8 cn lr lb fz HL3 ⊢;clear e0;go_enter Tryz.func185,Tryz.ntmps185;go_wp2_with fail
 go_region
 go_wp2_with fail
 go_region
 generalize World.drew (World.drew _)=w3 at*
 obtain⟨nw,HNW⟩:∃nw,Hid (nw=now+r.tic):=⟨_,rfl⟩;rw[<-HNW.out]at HL3 ⊢;have HW0:=zH hWc;clear c8 cn lr lb fz hwt hlt hWc hTZ;go_wp2_with fail
 go_loopw [5] (fun v wr=>∃k:Nat,k<=8/\v=.int .i64 (k:Int)/\Lft rb Z N w wr nw (kX nw k (ctR Z)) N) (fun v _=>8-(intOf v).toNat)
 case atStart=>exact⟨0,Nat.zero_le _,rfl,HL3.out⟩
 case round=>
  obtain⟨k,hk,rfl,hlf⟩:=hrel;have HLF:=zH hlf
  by_cases hlt:k<8
  ·obtain⟨Z',hg,hct,htr,hqb⟩:=hlf;have HQB:=zH hqb;have HGS:=zH hg;have HCT:=zH hct;have HTR:=zH htr;have ck:=hg.rg.st.cell k hlt;have lr:=hg.rg.st.lt;have hk0:(0:Int)<=(k:Int):=by omega
   have hk8:(k:Int)<8:=by omega
   have HZK:Hid ((Z' k).map RQ.Q=ctR Z k):=by
    have:=congrFun hct k;rw[b6C]at this;exact this
   clear hg hct htr hqb
   cases hz:Z' k with
   | none=>
    rw[zl hz]at ck;have HN:Hid (Lft rb Z N w wr nw (kX nw (k+1) (ctR Z)) N):=by
     show Lft _ _ _ _ _ _ _ _
     rw[b0W nw (ctR Z) k (by rw[<-HZK.out,hz];rfl)];exact HLF.out
    clear hz;go_wp2_with fail;go_roundw
    case rel=>exact⟨k+1,by omega,by go_num,HN.out⟩
    case measure=>simp[intOf];omega
   | some y=>
    have hQk:ctR Z k=some y.Q:=by rw[<-HZK.out,hz];rfl
    have hQW:=HW0.out k y.Q hlt hQk;have HRK:Hid (∀W,Tch [] wr W->RR W y.qb y.V y.sl.v y.Q y.ts y.cnt):=fun W ht=>(HGS.out.rg.rr k y hlt hz).tch ht (by simp)
    have hdl:y.Q.ds.length<=1000:=Nat.le_trans hQW.dl (by decide);have hal:y.Q.ats.length<=1000:=Nat.le_trans hQW.al (by decide);have HQK:=zH hQk;have HAD:Hid (∀W,Tch [] wr W->Cp 233 #[y.V.d,.int .i64 nw] W fun e w'=>∃v',e=.returned v'/\Tch [] W w'/\(∃a n c,v'=.slice a n c)/\w'.cell? ⟨y.qb,19,none⟩=some y.V.d/\w'.frozen? ⟨y.qb,19,none⟩=false/\y.qb<w'.heap.size/\Hid (RS W (w'.setCell ⟨y.qb,19,none⟩ v') y.qb y.V {y.V with d:=v'} y.sl.v {y.Q with ds:=y.Q.ds.filter (fun x=>!decide (x.til<=nw))} y.ts y.cnt)):=fun W ht=>RR.fgD (HRK.out W ht) nw hdl
    have c19:wr.cell? ⟨y.qb,19,none⟩=some y.V.d:=jb (HRK.out wr (Tch.refl _ _)).blk 19 _ rfl;have c0:=HGS.out.rg.st.now;obtain⟨da,dc,hvd⟩:=jl (HRK.out wr (Tch.refl _ _)).d;rw[hvd]at c19 HAD;rw[kS hz]at ck;have HZ:=zH hz;clear hz hvd hQk hQW;go_wp2_with fail
    go_region_with (go_at_call 233;refine(HAD.out _ (by first|exact Tch.refl _ _|exact(Tch.refl [] _).drew|exact(Tch.refl [] _).drewN _)).mono ?_;rintro e w5 ⟨v',rfl,ht5,⟨va,vn,vc,hv'⟩,k1,k2,k3,KR⟩;subst hv')
    all_goals
     have H9:Hid (∃V9,RS wr (w5.setCell ⟨y.qb,19,none⟩ (.slice va vn vc)) y.qb y.V V9 y.sl.v {y.Q with ds:=y.Q.ds.filter (fun x=>!decide (x.til<=nw))} y.ts y.cnt):=by
      refine⟨{y.V with d:=.slice va vn vc},?_⟩;have t0:RS wr _ y.qb y.V y.V y.sl.v y.Q y.ts y.cnt:=(HRK.out wr (Tch.refl _ _)).rs (by first|exact(Tch.refl [] _).drew|exact(Tch.refl [] _).drewN _|exact Tch.refl _ _);exact t0.trans KR.out
     generalize hw9:w5.setCell ⟨y.qb,19,none⟩ (.slice va vn vc)=w9 at*
     clear KR k1 k2 k3 ht5 c19 c0 ck hw9;obtain⟨V9,hs9⟩:=H9.out;have HS9:Hid _:=hs9;have HRL:Hid (∀W,Tch [] w9 W->RR W y.qb V9 y.sl.v {y.Q with ds:=y.Q.ds.filter (fun x=>!decide (x.til<=nw))} y.ts y.cnt):=fun W ht=>HS9.out.rr.tch ht (by simp)
     have HAA:Hid (∀W,Tch [] w9 W->Cp 233 #[V9.a,.int .i64 nw] W fun e w'=>∃v',e=.returned v'/\Tch [] W w'/\(∃a n c,v'=.slice a n c)/\w'.cell? ⟨y.qb,20,none⟩=some V9.a/\w'.frozen? ⟨y.qb,20,none⟩=false/\y.qb<w'.heap.size/\Hid (RS W (w'.setCell ⟨y.qb,20,none⟩ v') y.qb V9 {V9 with a:=v'} y.sl.v (a1V nw y.Q) y.ts y.cnt)):=fun W ht=>RR.fgA (HRL.out W ht) nw hal
     have c20:w9.cell? ⟨y.qb,20,none⟩=some V9.a:=jb (HRL.out w9 (Tch.refl _ _)).blk 20 _ rfl;have g9:=(HGS.out.trans (HGS.out.rg.one hlt HZ.out HS9.out)).rg.st;have c0:=g9.now;obtain⟨aa,ac,hva⟩:=xL (HRL.out w9 (Tch.refl _ _)).a;rw[hva]at c20 HAA;clear hva hs9 g9 H9;go_wp2_with fail
     go_region_with (go_at_call 233;refine(HAA.out _ (by first|exact Tch.refl _ _|exact(Tch.refl [] _).drew|exact(Tch.refl [] _).drewN _)).mono ?_;rintro e w7 ⟨v',rfl,ht7,⟨va,vn,vc,hv'⟩,k1,k2,k3,KR⟩;subst hv')
     all_goals
      have HN:Hid (Lft rb Z N w (w7.setCell ⟨y.qb,20,none⟩ (.slice va vn vc)) nw (kX nw (k+1) (ctR Z)) N):=by
       have t0:RS w9 _ y.qb V9 V9 y.sl.v _ y.ts y.cnt:=(HRL.out w9 (Tch.refl _ _)).rs (by first|exact(Tch.refl [] _).drew|exact(Tch.refl [] _).drewN _|exact Tch.refl _ _);have t1:=HS9.out.trans (t0.trans KR.out);refine⟨_,HGS.out.trans (HGS.out.rg.one hlt HZ.out t1),?_,TRZ.upd HTR.out (Nat.le_refl _) (fun q hq=>?_),HQB.out.trans (QB.one HZ.out rfl)⟩
       ·rw[qM,HCT.out,b0X nw (ctR Z) k y.Q HQK.out];rfl
       ·obtain rfl:=Option.some.inj hq;have h5:=HTR.out k y hlt HZ.out;exact⟨h5.1.sub (List.Sublist.refl _) (Nat.le_refl _) (fun m hm=>⟨m,hm,rfl⟩),h5.2⟩
      clear KR k1 k2 k3 ht7 c20 c0;go_wp2_with fail;go_roundw
      case rel=>exact⟨k+1,by omega,by go_num,HN.out⟩
      case measure=>simp[intOf];omega
  ·have hke:k=8:=by omega
   have HO:Hid (Lft rb Z N w wr nw (cK nw (ctR Z) 0) (N+2550*0)/\WFc (cK nw (ctR Z) 0)):=by
    have h5:=HLF.out;rw[hke]at h5;exact⟨h5,WFc.fgt HW0.out nw 8⟩
   have hkI:¬(k:Int)<8:=by omega
   clear hke HLF hk;obtain⟨k1,hk1⟩:∃k1:Int,k1=(k:Int):=⟨_,rfl⟩;rw[<-hk1]at hkI ⊢;clear hk1 hlt;have HEN:Hid (b9M nw (ctR Z)=cK nw (ctR Z) 8):=rfl;clear hlf;go_wp2_with fail
   go_loopw [7] (fun v wr=>∃k:Nat,k<=8/\v=.int .i64 (k:Int)/\Lft rb Z N w wr nw (cK nw (ctR Z) k) (N+2550*k)/\WFc (cK nw (ctR Z) k)) (fun v _=>8-(intOf v).toNat)
   case atStart=>exact⟨0,Nat.zero_le _,rfl,HO.out⟩
   case round=>
    obtain⟨k,hk,rfl,hlf,hwf⟩:=hrel;have HLF:=zH hlf;have HWF:=zH hwf
    by_cases hlt:k<8
    ·obtain⟨Z',hg,hct,htr,hqb⟩:=hlf;have HCT:=zH hct;have ck:=hg.rg.st.cell k hlt;have lr:=hg.rg.st.lt;have hk0:(0:Int)<=(k:Int):=by omega
     have hk8:(k:Int)<8:=by omega
     clear hg hct htr hwf;have HQB:=zH hqb;clear hqb
     cases hz:Z' k with
     | none=>
      rw[zl hz]at ck;have HN:Hid (Lft rb Z N w wr nw (cK nw (ctR Z) (k+1)) (N+2550*(k+1))/\WFc (cK nw (ctR Z) (k+1))):=by
       have e1:cK nw (ctR Z) k k=none:=by rw[<-HCT.out];unfold ctR;rw[hz];rfl
       have e2:cK nw (ctR Z) (k+1)=cK nw (ctR Z) k:=by rw[a7U];unfold qm;rw[e1]
       show _/\_
       rw[e2];obtain⟨Z2,h1,h2,h3,h4⟩:=HLF.out;exact⟨⟨Z2,h1,h2,fun i x hi hx=>⟨(h3 i x hi hx).1,Nat.le_trans (h3 i x hi hx).2 (by omega)⟩,h4⟩,HWF.out⟩
      clear hz;go_wp2_with fail;go_roundw
      case rel=>exact⟨k+1,by omega,by go_num,HN.out⟩
      case measure=>simp[intOf];omega
     | some y=>
      have hQ0:cK nw (ctR Z) k k=some y.Q:=by rw[<-HCT.out];unfold ctR;rw[hz];rfl
      rw[kS hz]at ck;obtain⟨n0,hb0⟩:=Brg.start hlt HLF.out HWF.out hQ0;obtain⟨y0,hy0,hyq⟩:∃y0,Z k=some y0/\y.qb=y0.qb:=by
       have h5:=HQB.out k;rw[hz]at h5
       cases hz0:Z k with
       | none=>rw[hz0]at h5;exact absurd h5 (by simp)
       | some y0=>rw[hz0]at h5;exact⟨y0,rfl,Option.some.inj h5⟩
      obtain⟨c2,HC2⟩:∃c2,Hid (c2=qm nw (cK nw (ctR Z) k) k):=⟨_,rfl⟩;rw[<-HC2.out]at hb0;have HB0:=zH hb0;have HST:Hid (∀n W,Brg rb Z N w nw k c2 n W->∃(y':RQ) (P:Nat->Value),Rst W rb nw P/\y'.qb=y0.qb/\_):=fun n W hB=>hB.step hlt hN y0 hy0
      rw[hyq]at ck;clear hz hQ0 hb0 HQB;generalize y0.qb=qb at*
      go_wp2_with fail;obtain⟨mu,HMU⟩:∃mu:World->Nat,Hid (∀W n,Brg rb Z N w nw k c2 n W->mu W<=n/\Brg rb Z N w nw k c2 (mu W) W):=b8P _
      go_loopw [] (fun wr=>∃n,Brg rb Z N w nw k c2 n wr) (fun wr=>mu wr)
      case atStart=>exact⟨n0,HB0.out⟩
      case round=>
       obtain⟨n1,hB1⟩:=hrel;have hB:=(HMU.out _ _ hB1).2;obtain⟨y',P',hst,hqe,hor⟩:=HST.out _ wr hB;have c0:=hst.now;have HBB:=zH hB;obtain⟨nn,HNN⟩:∃nn,Hid (nn=mu wr):=⟨_,rfl⟩;rw[<-HNN.out]at HBB hor;rw[hqe]at hor;clear hB hB1 hst hqe HST HB0;rcases hor with ⟨hn0,hc1⟩|⟨j,hn1,hc1,hc2⟩
       ·have HCA:=zH hc1;subst hn0;have HN:Hid (Lft rb Z N w wr nw (cK nw (ctR Z) (k+1)) (N+2550*(k+1))/\WFc (cK nw (ctR Z) (k+1))):=by
         rw[a7U,<-HC2.out];exact HBB.out.done
        clear hc1;go_wp2_with fail;refine HCA.out.mono ?_;rintro e w5 ⟨rfl,h5⟩;have h6:=h5.symm;subst h6;clear HCA;go_wp2_with fail;go_roundw
        case rel=>exact⟨k+1,by omega,by go_num,HN.out⟩
        case measure=>simp[intOf];omega
       ·have HCA:=zH hc1;have HCB:=zH hc2;clear hc1 hc2;go_wp2_with fail;refine HCA.out.mono ?_;rintro e w5 ⟨rfl,h5⟩;have h6:=h5.symm;subst h6;clear HCA;go_wp2_with fail;refine HCB.out.mono ?_;rintro e w6 ⟨rfl,h6⟩;have H6:=zH h6;clear h6 HCB c0;go_wp2_with fail;go_roundw
        case rel=>exact⟨nn-1,H6.out⟩
        case measure=>
         have m1:=(HMU.out w6 _ H6.out).1;have m2:=HNN.out;omega
    ·have hk8:k=8:=by omega
     subst hk8;have HFI:Hid (Lft rb Z N w wr nw (b9M nw (ctR Z)) (N+40000)):=by
      show Lft _ _ _ _ _ _ _ _
      rw[HEN.out];obtain⟨Z2,h1,h2,h3,h4⟩:=HLF.out;exact⟨Z2,h1,h2,fun i x hi hx=>⟨(h3 i x hi hx).1,Nat.le_trans (h3 i x hi hx).2 (by omega)⟩,h4⟩
     clear hlf hwf;go_wp2_with fail;refine(HA.out _).mono ?_;rintro e w9 ⟨rfl,h9⟩;have HF9:=zH (Lft.tch HFI.out h9);clear h9 HA;go_wp2_with fail;go_ret;exact⟨rfl,by rw[<-HNW.out];exact HF9.out⟩
def LQ (rb:Nat)(Z:RZ)(w w':World)(now':Int)(c':Nat->Option QM)(N':Nat):Prop:=∃Z',RGS w w' rb Z now' Z'/\ctR Z'=c'/\TRZ Z' N'
theorem Lft.lq {rb:Nat}{Z:RZ}{N:Nat}{W w':World}{now now':Int}{c':Nat->Option QM}{N' N'':Nat}(hl:Lft rb Z N W w' now' c' N')(h:RG w rb now Z)(ht:Tch [] w W)(hN:N'<=N''):LQ rb Z w w' now' c' N'':=by
 obtain⟨Z',h1,h2,h3,_⟩:=hl;exact⟨Z',(h.rgs ht).trans h1,h2,h3.mono hN⟩
theorem b2x (rb i N:Nat)(now:Int)(Z:RZ)(r:Wp.Rq)(x:Sl)(y:RQ)(w:World)(h:RG w rb now Z)(hi:i<8)(hq:r.q.toNat=97+i)(hz:Z i=some y)(hW:WFc (ctR Z))(hT:TRZ Z N)(hnow:0<=now/\now<=60000)(hmx:1<=r.mx/\r.mx<=10)(has:r.att.size<=8):
  Cp 182 #[zp rb,.agg (ja r x.v)] w fun e w'=>e=.returned (.string (doR now (ctR Z) i y.Q r).1)/\Lft rb Z N w w' (doR now (ctR Z) i y.Q r).2.1 (doR now (ctR Z) i y.Q r).2.2 (N+40000):=by
 have hcz:ctR Z i=some y.Q:=by unfold ctR;rw[hz];rfl
 have hWy:=hW i y.Q hi hcz;obtain⟨hTy,hcy⟩:=hT i y hi hz;have hsame:∀w',RGS w w' rb Z now Z->Lft rb Z N w w' now (ctR Z) (N+40000):=fun w' hs=>⟨Z,hs,rfl,hT.mono (by omega),QB.refl Z⟩
 refine b7r _ rb i (min r.mx.toNat y.Q.rs.length) now Z r x y w h hi hq hz hmx rfl hWy hTy hnow has ?_ ?_
 ·intro j hj hix w' ht;unfold doR;rw[hix,Int.toNat_natCast,List.getElem?_eq_getElem hj];simp only;rw[if_pos (by omega)];exact⟨rfl,hsame w' (h.rgs ht)⟩
 ·intro hid w' V' hs;have hne:doR now (ctR Z) i y.Q r=(okL (jQ y.Q (min r.mx.toNat y.Q.rs.length) (min r.mx.toNat y.Q.rs.length)),now,zP (ctR Z) i y.Q r.att (min r.mx.toNat y.Q.rs.length) now):=by
   unfold doR
   split
   ·rw[if_neg (by omega)]
   ·rfl
  rw[hne];refine⟨rfl,?_⟩;unfold zP;unfold b2q at hs
  by_cases hc:min r.mx.toNat y.Q.rs.length=0
  ·rw[if_pos hc]at hs ⊢;refine⟨_,h.one hi hz hs,?_,hT.upd (by omega) (fun t ht=>?_),QB.one hz rfl⟩
   ·rw[qM];funext j
    show jI (ctR Z) i (some y.Q) j=ctR Z j
    unfold jI
    split
    ·rename_i e
     rw[e,hcz]
    ·rfl
   ·obtain rfl:=Option.some.inj ht;exact⟨hTy,by show y.cnt<=_;omega⟩
  ·rw[if_neg hc]at hs ⊢;refine⟨_,h.one hi hz hs,?_,hT.upd (by omega) (fun t ht=>?_),QB.one hz rfl⟩
   ·rw[qM];rfl
   ·obtain rfl:=Option.some.inj ht;refine⟨?_,by show y.cnt<=_;omega⟩
    generalize hA:jQ y.Q (min r.mx.toNat y.Q.rs.length) (min r.mx.toNat y.Q.rs.length)=A;generalize hC:min r.mx.toNat y.Q.rs.length=C;have e1:(vA y.Q r.att C (now+y.Q.c.vis) A).rs=y.Q.rs.drop C:=by unfold vA b9N;split<;>rfl
    have e2:(vA y.Q r.att C (now+y.Q.c.vis) A).next=y.Q.next:=by unfold vA b9N;split<;>rfl
    have e3:(vA y.Q r.att C (now+y.Q.c.vis) A).ms=jP (now+y.Q.c.vis) y.Q.ms (kc y.Q C):=by unfold vA b9N;split<;>rfl
    refine hTy.sub ?_ ?_ (fun m hm=>?_)
    ·show (vA y.Q r.att C (now+y.Q.c.vis) A).rs.Sublist _
     rw[e1];exact List.drop_sublist _ _
    ·show _<=(vA y.Q r.att C (now+y.Q.c.vis) A).next
     rw[e2];exact Nat.le_refl _
    ·have hm':m∈(vA y.Q r.att C (now+y.Q.c.vis) A).ms:=hm;rw[e3]at hm';have hg:m.grp∈(jP (now+y.Q.c.vis) y.Q.ms (kc y.Q C)).map Ms.grp:=List.mem_map.2 ⟨m,hm',rfl⟩;rw[a6K]at hg;obtain⟨m',h1,h2⟩:=List.mem_map.1 hg;exact⟨m',h1,h2⟩
theorem a5B (rb N:Nat)(now:Int)(Z:RZ)(r:Wp.Rq)(x:Sl)(w:World)(h:RG w rb now Z)(hW:WFc (ctR Z))(hO:OpC (ctR Z))(hT:TRZ Z N)(hN:N<=4611686018427300000)(hn:0<=now/\now<=60000)(hr:b0j r)(hnB:r.op.toNat≠66):
  Cp 141 #[zp rb,.agg (ja r x.v)] w fun e w'=>∃s,e=.returned (.string s)/\(s=(doQ now (ctR Z) r).1/\LQ rb Z w w' (doQ now (ctR Z) r).2.1 (doQ now (ctR Z) r).2.2 (N+40000)):=by
 obtain⟨k,hk,hop⟩:=hr.ops;simp only[qT,List.mem_cons,List.not_mem_nil,or_false]at hk;have hRG:∀W,Tch [] w W->RG W rb now Z:=fun W ht=>h.tch ht (by simp)
 have hsame:∀W w',Tch [] w W->RGS W w' rb Z now Z->LQ rb Z w w' now (ctR Z) (N+40000):=fun W w' ht hs=>⟨Z,(h.rgs ht).trans hs,rfl,hT.mono (by omega)⟩
 have hct:∀i y,Z i=some y->ctR Z i=some y.Q:=fun i y hz=>by unfold ctR;rw[hz];rfl
 have hcn:∀i,Z i=none->ctR Z i=none:=fun i hz=>by unfold ctR;rw[hz];rfl
 rcases hk with rfl|rfl|rfl|rfl|rfl|rfl|rfl|rfl|rfl|rfl
 ·-- A
  have ho:r.op=65:=vG hop (by decide);have e:doQ now (ctR Z) r=doA now (ctR Z) r (fun i Q num=>jI (ctR Z) i (some (qw Q num))):=by
   unfold doQ;rw[ho];rfl
  refine vT 65 183 (by unfold a3f;decide) (fun s w'=>s=(doQ now (ctR Z) r).1/\LQ rb Z w w' (doQ now (ctR Z) r).2.1 (doQ now (ctR Z) r).2.2 (N+40000)) rb r x w hop (fun W ht=>?_);rw[e];have hno:∀c:UInt8,c.toNat≠0->a0L rb r.han c.toNat W->Cp 183 #[zp rb,.agg (ja r x.v)] W fun e w'=>∃s,e=.returned (.string s)/\(s=⟨#[c]⟩/\LQ rb Z w w' now (ctR Z) (N+40000)):=fun c hc hH=>(a4n rb now Z r x c hc W (hRG W ht) hH).mono (by
   rintro e w' ⟨he,hs⟩;exact⟨_,he,rfl,hsame W w' ht hs⟩)
  unfold doA
  cases hh:a2N r.han with
  | none=>exact hno 7 (by decide) (a5O hh)
  | some p=>
   obtain⟨i,num,rcv⟩:=p;obtain⟨hHi,hi8⟩:=a0s hh;simp only
   cases hz:Z i with
   | none=>
    rw[hcn i hz];exact hno 8 (by decide) (a5P (hRG W ht) hHi hi8 hz)
   | some y=>
    rw[hct i y hz];simp only;have hWy:=hW i y.Q hi8 (hct i y hz);obtain⟨hTy,hcy⟩:=hT i y hi8 hz
    cases hf:kr y.Q num rcv with
    | false=>
     rw[if_neg (by simp)];exact hno 8 (by decide) (a3P (hRG W ht) hHi hi8 hz hWy hf)
    | true=>
     rw[if_pos rfl];refine(a6v rb i num rcv now Z r x y W (hRG W ht) hi8 hz hHi hWy hTy (by omega) hf).mono ?_;rintro e w' ⟨he,V',ts',cnt',hs,hT',hc'⟩;refine⟨_,he,rfl,_,(h.rgs ht).trans hs,?_,hT.upd (by omega) (fun t hq=>?_)⟩
     ·rw[qM];rfl
     ·obtain rfl:=Option.some.inj hq;exact⟨hT',by show cnt'<=_;omega⟩
 ·exact absurd hop hnB
 ·-- C
  have ho:r.op=67:=vG hop (by decide);have hq:=hr.fq (by rw[hop];decide);have hqi:r.q.toNat=97+qiR r:=by unfold qiR;omega
  have hi:qiR r<8:=by unfold qiR;omega
  refine vT 67 178 (by unfold a3f;decide) (fun s w'=>s=(doQ now (ctR Z) r).1/\LQ rb Z w w' (doQ now (ctR Z) r).2.1 (doQ now (ctR Z) r).2.2 (N+40000)) rb r x w hop (fun W ht=>?_)
  cases hz:Z (qiR r) with
  | none=>
   have e:doQ now (ctR Z) r=(okL [],now,jI (ctR Z) (qiR r) (some (newM r))):=by
    unfold doQ;rw[ho,hcn _ hz];rfl
   rw[e];refine(a9e rb (qiR r) now Z r x W (hRG W ht) hi hqi hz).mono ?_;rintro e w' ⟨he,qb,hs⟩;refine⟨_,he,rfl,_,(h.rgs ht).trans hs,?_,hT.upd (by omega) (fun t hq=>?_)⟩
   ·rw[qM];rfl
   ·obtain rfl:=Option.some.inj hq;refine⟨⟨List.Pairwise.nil,fun g hg=>by simp[newM]at hg,fun t ht=>by simp at ht,by show 0<1;decide,fun m hm=>by simp[newM]at hm⟩,Nat.zero_le _⟩
  | some y=>
   have e:doQ now (ctR Z) r=(⟨#[3]⟩,now,ctR Z):=by
    unfold doQ;rw[ho,hct _ _ hz];rfl
   rw[e];exact(a9d rb (qiR r) now Z r x y W (hRG W ht) hi hqi hz).mono (by
    rintro e w' ⟨he,hs⟩;exact⟨_,he,rfl,hsame W w' ht hs⟩)
 ·-- E
  have ho:r.op=69:=vG hop (by decide);have htic:=hr.ft (.inl (by rw[hop]));have e:doQ now (ctR Z) r=doA now (ctR Z) r (fun i Q num=>zv (ctR Z) i Q num now r.tic):=by
   unfold doQ;rw[ho];rfl
  refine vT 69 184 (by unfold a3f;decide) (fun s w'=>s=(doQ now (ctR Z) r).1/\LQ rb Z w w' (doQ now (ctR Z) r).2.1 (doQ now (ctR Z) r).2.2 (N+40000)) rb r x w hop (fun W ht=>?_);rw[e];have hno:∀c:UInt8,c.toNat≠0->a0L rb r.han c.toNat W->Cp 184 #[zp rb,.agg (ja r x.v)] W fun e w'=>∃s,e=.returned (.string s)/\(s=⟨#[c]⟩/\LQ rb Z w w' now (ctR Z) (N+40000)):=fun c hc hH=>(a4z rb now Z r x c hc W (hRG W ht) hH).mono (by
   rintro e w' ⟨he,hs⟩;exact⟨_,he,rfl,hsame W w' ht hs⟩)
  unfold doA
  cases hh:a2N r.han with
  | none=>exact hno 7 (by decide) (a5O hh)
  | some p=>
   obtain⟨i,num,rcv⟩:=p;obtain⟨hHi,hi8⟩:=a0s hh;simp only
   cases hz:Z i with
   | none=>
    rw[hcn i hz];exact hno 8 (by decide) (a5P (hRG W ht) hHi hi8 hz)
   | some y=>
    rw[hct i y hz];simp only;have hWy:=hW i y.Q hi8 (hct i y hz)
    cases hf:kr y.Q num rcv with
    | false=>
     rw[if_neg (by simp)];exact hno 8 (by decide) (a3P (hRG W ht) hHi hi8 hz hWy hf)
    | true=>
     rw[if_pos rfl];have hfin:Cp 184 #[zp rb,.agg (ja r x.v)] W fun e w'=>e=.returned (.string ⟨#[0]⟩)/\Lft rb Z N W w' now (zv (ctR Z) i y.Q num now r.tic) (N+51):=by
      by_cases ht0:r.tic=0
      ·exact b8x rb i num rcv N now Z r x y W (hRG W ht) hi8 hz hHi hW hT (by omega) hf ht0
      ·exact b8y rb i num rcv N now Z r x y W (hRG W ht) hi8 hz hHi hW hT (by omega) hf (by omega) hn
     refine hfin.mono ?_;rintro e w' ⟨he,hl⟩;exact⟨_,he,rfl,hl.lq h ht (by omega)⟩
 ·-- P
  have ho:r.op=80:=vG hop (by decide);have hq:=hr.fq (by rw[hop];decide);have hqi:r.q.toNat=97+qiR r:=by unfold qiR;omega
  have hi:qiR r<8:=by unfold qiR;omega
  refine vT 80 180 (by unfold a3f;decide) (fun s w'=>s=(doQ now (ctR Z) r).1/\LQ rb Z w w' (doQ now (ctR Z) r).2.1 (doQ now (ctR Z) r).2.2 (N+40000)) rb r x w hop (fun W ht=>?_)
  cases hz:Z (qiR r) with
  | none=>
   have e:doQ now (ctR Z) r=(⟨#[2]⟩,now,ctR Z):=by
    unfold doQ;rw[ho,hcn _ hz];rfl
   rw[e];exact(b1S 180 (by decide) rb (qiR r) now Z r x W (hRG W ht) hi hqi hz).mono (by
    rintro e w' ⟨he,hs⟩;exact⟨_,he,rfl,hsame W w' ht hs⟩)
  | some y=>
   have e:doQ now (ctR Z) r=(okL [],now,jI (ctR Z) (qiR r) (some (xI y.Q))):=by
    unfold doQ;rw[ho,hct _ _ hz];rfl
   rw[e];obtain⟨hTy,hcy⟩:=hT (qiR r) y hi hz;refine(b2i rb (qiR r) now Z r x y W (hRG W ht) hi hqi hz).mono ?_;rintro e w' ⟨he,V',hs⟩;refine⟨_,he,rfl,_,(h.rgs ht).trans hs,?_,hT.upd (by omega) (fun t hq=>?_)⟩
   ·rw[qM];rfl
   ·obtain rfl:=Option.some.inj hq;refine⟨hTy.sub (List.nil_sublist _) (Nat.le_refl _) (fun m hm=>by simp[xI]at hm),by show y.cnt<=_;omega⟩
 ·-- R
  have ho:r.op=82:=vG hop (by decide);have hq:=hr.fq (by rw[hop];decide);have hqi:r.q.toNat=97+qiR r:=by unfold qiR;omega
  have hi:qiR r<8:=by unfold qiR;omega
  obtain⟨hmx,hatt⟩:=hr.fr (by rw[hop]);refine vT 82 182 (by unfold a3f;decide) (fun s w'=>s=(doQ now (ctR Z) r).1/\LQ rb Z w w' (doQ now (ctR Z) r).2.1 (doQ now (ctR Z) r).2.2 (N+40000)) rb r x w hop (fun W ht=>?_)
  cases hz:Z (qiR r) with
  | none=>
   have e:doQ now (ctR Z) r=(⟨#[2]⟩,now,ctR Z):=by
    unfold doQ;rw[ho,hcn _ hz];rfl
   rw[e];exact(b1S 182 (by decide) rb (qiR r) now Z r x W (hRG W ht) hi hqi hz).mono (by
    rintro e w' ⟨he,hs⟩;exact⟨_,he,rfl,hsame W w' ht hs⟩)
  | some y=>
   have e:doQ now (ctR Z) r=doR now (ctR Z) (qiR r) y.Q r:=by
    unfold doQ;rw[ho,hct _ _ hz];rfl
   rw[e];refine(b2x rb (qiR r) N now Z r x y W (hRG W ht) hi hqi hz hW hT hn hmx hatt).mono ?_;rintro e w' ⟨he,hl⟩;exact⟨_,he,rfl,hl.lq h ht (Nat.le_refl _)⟩
 ·-- S
  have ho:r.op=83:=vG hop (by decide);have hq:=hr.fq (by rw[hop];decide);have hqi:r.q.toNat=97+qiR r:=by unfold qiR;omega
  have hi:qiR r<8:=by unfold qiR;omega
  refine vT 83 181 (by unfold a3f;decide) (fun s w'=>s=(doQ now (ctR Z) r).1/\LQ rb Z w w' (doQ now (ctR Z) r).2.1 (doQ now (ctR Z) r).2.2 (N+40000)) rb r x w hop (fun W ht=>?_)
  cases hz:Z (qiR r) with
  | none=>
   have e:doQ now (ctR Z) r=(⟨#[2]⟩,now,ctR Z):=by
    unfold doQ;rw[ho,hcn _ hz];rfl
   rw[e];exact(b1S 181 (by decide) rb (qiR r) now Z r x W (hRG W ht) hi hqi hz).mono (by
    rintro e w' ⟨he,hs⟩;exact⟨_,he,rfl,hsame W w' ht hs⟩)
  | some y=>
   have e:doQ now (ctR Z) r=doS now (ctR Z) (qiR r) y.Q r:=by
    unfold doQ;rw[ho,hct _ _ hz];rfl
   rw[e];refine(b2V rb (qiR r) N now Z r x y W (hRG W ht) hi hqi hz hW hT (by omega) hn).mono ?_;rintro e w' ⟨he,hl⟩;exact⟨_,he,rfl,hl.lq h ht (Nat.le_refl _)⟩
 ·-- T
  have ho:r.op=84:=vG hop (by decide);have htc:=hr.ft (.inr (by rw[hop]));refine vT 84 185 (by unfold a3f;decide) (fun s w'=>s=(doQ now (ctR Z) r).1/\LQ rb Z w w' (doQ now (ctR Z) r).2.1 (doQ now (ctR Z) r).2.2 (N+40000)) rb r x w hop (fun W ht=>?_)
  by_cases hl:60000<now+r.tic
  ·have e:doQ now (ctR Z) r=(⟨#[9]⟩,now,ctR Z):=by
    unfold doQ;rw[ho,if_pos rfl,if_pos hl]
   rw[e];exact(b4Y rb now Z r x W (hRG W ht) hn htc hl).mono (by
    rintro e w' ⟨he,hs⟩;exact⟨_,he,rfl,hsame W w' ht hs⟩)
  ·have e:doQ now (ctR Z) r=(okL [],now+r.tic,b9M (now+r.tic) (ctR Z)):=by
    unfold doQ;rw[ho,if_pos rfl,if_neg hl]
   rw[e];refine(b4Z rb N now Z r x W (hRG W ht) hW hT hN hn htc hl).mono ?_;rintro e w' ⟨he,hL⟩;exact⟨_,he,rfl,hL.lq h ht (Nat.le_refl _)⟩
 ·-- V
  have ho:r.op=86:=vG hop (by decide);have hq:=hr.fq (by rw[hop];decide);have hqi:r.q.toNat=97+qiR r:=by unfold qiR;omega
  have hi:qiR r<8:=by unfold qiR;omega
  refine vT 86 186 (by unfold a3f;decide) (fun s w'=>s=(doQ now (ctR Z) r).1/\LQ rb Z w w' (doQ now (ctR Z) r).2.1 (doQ now (ctR Z) r).2.2 (N+40000)) rb r x w hop (fun W ht=>?_)
  cases hz:Z (qiR r) with
  | none=>
   have e:doQ now (ctR Z) r=(⟨#[2]⟩,now,ctR Z):=by
    unfold doQ;rw[ho,hcn _ hz];rfl
   rw[e];exact(b1S 186 (by decide) rb (qiR r) now Z r x W (hRG W ht) hi hqi hz).mono (by
    rintro e w' ⟨he,hs⟩;exact⟨_,he,rfl,hsame W w' ht hs⟩)
  | some y=>
   have e:doQ now (ctR Z) r=(okL (xD y.Q),now,ctR Z):=by
    unfold doQ;rw[ho,hct _ _ hz];rfl
   rw[e];obtain⟨hTy,hcy⟩:=hT (qiR r) y hi hz;refine(b5c rb (qiR r) now Z r x y W (hRG W ht) hi hqi hz (hW _ _ hi (hct _ _ hz)) hTy (by rw[hO _ _ (hct _ _ hz)];rfl)).mono ?_;rintro e w' ⟨he,hs⟩;exact⟨_,he,rfl,hsame W w' ht hs⟩
 ·-- X
  have ho:r.op=88:=vG hop (by decide);have hq:=hr.fq (by rw[hop];decide);have hqi:r.q.toNat=97+qiR r:=by unfold qiR;omega
  have hi:qiR r<8:=by unfold qiR;omega
  refine vT 88 179 (by unfold a3f;decide) (fun s w'=>s=(doQ now (ctR Z) r).1/\LQ rb Z w w' (doQ now (ctR Z) r).2.1 (doQ now (ctR Z) r).2.2 (N+40000)) rb r x w hop (fun W ht=>?_)
  cases hz:Z (qiR r) with
  | none=>
   have e:doQ now (ctR Z) r=(⟨#[2]⟩,now,ctR Z):=by
    unfold doQ;rw[ho,hcn _ hz];rfl
   rw[e];exact(b1S 179 (by decide) rb (qiR r) now Z r x W (hRG W ht) hi hqi hz).mono (by
    rintro e w' ⟨he,hs⟩;exact⟨_,he,rfl,hsame W w' ht hs⟩)
  | some y=>
   have e:doQ now (ctR Z) r=(okL [],now,jI (ctR Z) (qiR r) none):=by
    unfold doQ;rw[ho,hct _ _ hz];rfl
   rw[e];refine(b3I rb (qiR r) now Z r x y W (hRG W ht) hi hqi hz).mono ?_;rintro e w' ⟨he,hs⟩;refine⟨_,he,rfl,_,(h.rgs ht).trans hs,?_,hT.upd (by omega) (fun t hq=>by cases hq)⟩;rw[qM];rfl
end Go.Proofs.YtbdobaapadlcjaaGreatDoor.Ref
