import Derived.Test.YtbdobaapadlcjaaGreatDoorBy26
import Derived.Deep.CutBlock
set_option maxRecDepth 8000
set_option maxHeartbeats 4000000
set_option linter.unusedVariables false
set_option linter.unusedSimpArgs false
namespace Go.Proofs.YtbdobaapadlcjaaGreatDoor.Ref
open Go.RowKit Go.Proofs.YtbdobaapadlcjaaGreatDoor
variable {w:World}{n size cap:Nat}{xs:List Value}
theorem zU {W:World}{r:Wp.Rq}{x:Sl}{S:List Nat}(ht:Tch S (bxR w r x) W)(hS:w.heap.size∉S)(j:Nat)(v:Value)(hv:(ja r x.v)[j]?=some v):W.cell? ⟨w.heap.size,j,none⟩=some v:=by
 have hl:w.heap.size<(bxR w r x).heap.size:=by simp
 exact(ht.cell (a:=⟨w.heap.size,j,none⟩) hl hS).trans ((cell_of_row _ w.heap.size j _ 27 (0,0) (b0u w r x)).trans hv)
theorem a0i (l:List UInt8):(⟨#[0]⟩:ByteArray)++BA l=okL l:=by
 have h:=kT [0] l;exact h
theorem TRZ.mono {Z:RZ}{N N':Nat}(h:TRZ Z N)(hN:N<=N'):TRZ Z N':=fun i x hi hx=>⟨(h i x hi hx).1,Nat.le_trans (h i x hi hx).2 hN⟩
def sdQ (Q:QM)(r:Wp.Rq)(now:Int):QM:={Q with ds:=if 0<Q.c.win then Q.ds++[⟨ks r,(Q.next:Nat),now+Q.c.win⟩] else Q.ds}
theorem b7G (rb i:Nat)(now:Int)(Z:RZ)(r:Wp.Rq)(x:Sl)(y:RQ)(w:World)(h:RG w rb now Z)(hi:i<8)(hq:r.q.toNat=97+i)(hz:Z i=some y)(hb:40<r.bod.size):
  Cp 181 #[zp rb,.agg (ja r x.v)] w fun e w'=>e=.returned (.string ⟨#[4]⟩)/\RGS w w' rb Z now Z:=by
 have HS:=zH (h.st.tch (jG w r x) (by simp));have HQ:Hid (Cp 224 #[zp rb,.int .u8 (r.q.toNat:Int)] (bxR w r x) fun e w'=>e=.returned (zp y.qb)/\w'=bxR w r x):=by
  have h5:=kL rb now (ptR Z) r.q (bxR w r x) HS.out;rw[vz hi hq,kS hz]at h5;exact h5
 have HA:Hid (∀(c:UInt8) W,zT 140 #[.int .i64 (c.toNat:Int)] W (.string ⟨#[c]⟩)):=fun c W=>jL c W
 have c11:=jN (w:=w) (r:=r) (x:=x) (Tch.refl [] _) 11 (.string r.bod) rfl;have HG:Hid (∀w',Tch [] (bxR w r x) w'->RGS w w' rb Z now Z):=fun w' ht=>h.rgs ((jG w r x).trans ht (fun _ h _=>h))
 have e0:=zL r x.v;have HA4:Hid (∀W,zT 140 #[.int .i64 4] W (.string ⟨#[4]⟩)):=fun W=>HA.out 4 W
 have hbI:(40:Int)<(r.bod.size:Int):=by omega
 clear h hq HS HA;unfold bxR at*
 rw[e0] at*
 clear e0;go_enter Tryz.func181,Tryz.ntmps181;go_wp2_with fail;refine HQ.out.mono ?_;rintro e w1 ⟨rfl,h'⟩;have h'':=h'.symm;subst h'';clear HQ;go_wp2_with fail;refine(HA4.out _).mono ?_;rintro e w2 ⟨rfl,h2⟩;have HG2:=zH (HG.out w2 h2);clear HG h2 HA4;go_wp2_with fail;go_ret;exact⟨rfl,HG2.out⟩
theorem b7H (K:Ending->World->Prop)(rb i N:Nat)(now:Int)(Z:RZ)(r:Wp.Rq)(x:Sl)(y:RQ)(w:World)(h:RG w rb now Z)(hi:i<8)(hq:r.q.toNat=97+i)(hz:Z i=some y)(hb:r.bod.size<=40)(hW:QW i y.Q)(hT:TR y.Q y.ts y.cnt)(hcn:y.cnt<=4611686018427387000)(hnow:0<=now/\now<=60000)
  (kf:∀j (hj:j<y.Q.ds.length),jj (isI (ks r)) y.Q.ds=(j:Int)->∀w',Tch [] w w'->K (.returned (.string (okL (je y.Q.ds[j].num.toNat 4)))) w')
  (k5:jj (isI (ks r)) y.Q.ds<0->y.Q.c.quo<=(y.Q.ms.length:Int)->∀w',Tch [] w w'->K (.returned (.string ⟨#[5]⟩)) w')
  (k6:jj (isI (ks r)) y.Q.ds<0->¬y.Q.c.quo<=(y.Q.ms.length:Int)->200<y.Q.next->∀w',Tch [] w w'->K (.returned (.string ⟨#[6]⟩)) w')
  (ko:jj (isI (ks r)) y.Q.ds<0->¬y.Q.c.quo<=(y.Q.ms.length:Int)->y.Q.next<=200->∀w' V',RS w w' y.qb y.V V' y.sl.v (a5X (sdQ y.Q r now) r.grp r.bod) (a0J y.Q y.ts y.cnt r.grp) (xU y.Q y.cnt r.grp)->K (.returned (.string (okL (je y.Q.next 4)))) w'):
  Cp 181 #[zp rb,.agg (ja r x.v)] w K:=by
 have HS:=zH (h.st.tch (jG w r x) (by simp));have HQ:Hid (Cp 224 #[zp rb,.int .u8 (r.q.toNat:Int)] (bxR w r x) fun e w'=>e=.returned (zp y.qb)/\w'=bxR w r x):=by
  have h5:=kL rb now (ptR Z) r.q (bxR w r x) HS.out;rw[vz hi hq,kS hz]at h5;exact h5
 have HA:Hid (∀(c:UInt8) W,zT 140 #[.int .i64 (c.toNat:Int)] W (.string ⟨#[c]⟩)):=fun c W=>jL c W
 have c1:=jN (w:=w) (r:=r) (x:=x) (Tch.refl [] _) 1 (.int .u8 (r.q.toNat:Int)) rfl;have c11:=jN (w:=w) (r:=r) (x:=x) (Tch.refl [] _) 11 (.string r.bod) rfl;have c10:=jN (w:=w) (r:=r) (x:=x) (Tch.refl [] _) 10 (.string r.ded) rfl;have HRR:=zH (h.rr i y hi hz);have HST:Hid (Rst w rb now (ptR Z)/\rb∉rbl y.qb y.V):=⟨h.st,h.rb hi hz⟩;have HKF:=zH kf;have HK5:=zH k5;have HK6:=zH k6;have HKO:=zH ko;have HW:=zH hW;have HT:=zH hT;have HBX:Hid (∀W,Tch [] (bxR w r x) W->Tch [] w W):=fun W ht=>(jG w r x).trans ht (fun _ h _=>h)
 have HBC:Hid (∀S W,Tch S (bxR w r x) W->w.heap.size∉S->W.cell? ⟨w.heap.size,9,none⟩=some (.string r.grp)/\W.cell? ⟨w.heap.size,11,none⟩=some (.string r.bod)/\w.heap.size<W.heap.size):=fun S W ht hS=>⟨zU ht hS 9 _ rfl,zU ht hS 11 _ rfl,Nat.lt_of_lt_of_le (by simp) ht.size⟩
 have HRB:Hid (RR (bxR w r x) y.qb y.V y.sl.v y.Q y.ts y.cnt/\RS w (bxR w r x) y.qb y.V y.V y.sl.v y.Q y.ts y.cnt/\w.heap.size∉rbl y.qb y.V):=⟨HRR.out.tch (jG w r x) (by simp),HRR.out.rs (jG w r x),fun hm=>by have:=HRR.out.lt _ hm;omega⟩
 have HCK:Hid (∀W,zE 69 #[.string r.bod] W (.int .i64 (Crc.crc r.bod.data.toList:Nat))):=fun W=>a9L r.bod W (Nat.le_trans hb (by decide))
 have HLW:Hid (∀n W,n<4294967296->zT 138 #[.int .i64 ((n:Nat):Int),.int .i64 4] W (.string (BA (je n 4)))):=fun n W h1=>(qe n 4 W h1 (by decide) (by decide)).mono (by rintro e w' ⟨he,hb⟩;exact⟨he,Tch.of_below hb⟩)
 have hcr:Crc.crc r.bod.data.toList<4294967296:=a6B _;have HDE:Hid (r.ded.size=0->(⟨#[0]⟩:ByteArray)++BA (je (Crc.crc r.bod.data.toList) 4)=ks r):=fun hd=>by
  unfold ks;rw[if_pos hd];exact a0i _
 have HDN:Hid (¬r.ded.size=0->r.ded=ks r):=fun hd=>by
  unfold ks;rw[if_neg hd]
 have HDZ:Hid (r.ded.size=0->r.ded=⟨#[]⟩):=vR _;have e0:=zL r x.v;clear h hq HS kf k5 k6 ko hW hT;generalize Crc.crc r.bod.data.toList=crc at*
 generalize hbx:bxR w r x=wb at*
 have hal:w.alloc (.cells #[.int .u8 (r.op.toNat:Int),.int .u8 (r.q.toNat:Int),.int .u8 (r.d.toNat:Int),.int .i64 r.vis,.int .i64 r.win,.int .i64 r.rcv,.int .i64 r.quo,.int .i64 r.mx,.int .i64 r.tic,.string r.grp,.string r.ded,.string r.bod,.string r.att,.string r.han,x.v] 27)=wb:=by rw[<-hbx];rfl
 have c1a:=c1;rw[<-hal]at c1a;rw[e0];clear e0 hbx;go_enter Tryz.func181,Tryz.ntmps181;go_wp2_with fail
 try rw[hal]
 clear hal;refine HQ.out.mono ?_;rintro e w1 ⟨rfl,h'⟩;have h'':=h'.symm;subst h'';clear HQ
 go_upto_if 28 with fail
 go_cut [6] from 27 to 28 (fun s6 wx=>s6=.string (ks r)/\Tch [] wb wx)
 case first=>
  by_cases hd:r.ded.size=0
  ·have hde:=HDZ.out hd;have HE:=zH (HDE.out hd);have z4:(BA (je crc 4)).size=4:=by rw[jH,jc]
   have HL4:Hid (∀W,zT 138 #[.int .i64 ((crc:Nat):Int),.int .i64 4] W (.string (BA (je crc 4)))):=fun W=>HLW.out crc W hcr
   have hdt:r.ded.toList.isEmpty=true:=by rw[Lib.toList_data,hde];rfl
   rw[hdt];clear HDE HDN HDZ hd hde HLW hdt;go_wp2_with fail;refine(HCK.out _).mono ?_;rintro e w2 ⟨rfl,h'⟩;have h'':=h'.symm;subst h'';go_wp2_with fail;refine(HL4.out _).mono ?_;rintro e w2 ⟨rfl,t2⟩;go_wp2_with fail;go_meet;exact⟨congrArg Value.string HE.out,t2⟩
  ·have hde:=a0h r.ded hd;have HE:=zH (HDN.out hd);rw[hde];clear HDE HDN HDZ hd HLW hde;go_wp2_with fail;go_meet;exact⟨congrArg Value.string HE.out,Tch.refl _ _⟩
 case rest=>
  obtain⟨rfl,ht2⟩:=hcut;generalize wc=w2 at*
  have TB2:=zH ht2;have HA0:Hid (∀W,zT 140 #[.int .i64 0] W (.string ⟨#[0]⟩)):=fun W=>HA.out 0 W
  have HA5:Hid (∀W,zT 140 #[.int .i64 5] W (.string ⟨#[5]⟩)):=fun W=>HA.out 5 W
  have HA6:Hid (∀W,zT 140 #[.int .i64 6] W (.string ⟨#[6]⟩)):=fun W=>HA.out 6 W
  clear ht2 HA HCK c1 c10 c11 HDE HDN HDZ hcr;go_wp2_with fail;refine(HA0.out _).mono ?_;rintro e w3 ⟨rfl,t3⟩;have TB3:Hid (Tch [] wb w3):=TB2.out.trans t3 (fun _ h _=>h);have T3:=zH (HBX.out _ TB3.out);clear t3 HA0;obtain⟨sd,dc,hvd⟩:=jl HRR.out.d;have HVD:=zH hvd;obtain⟨sm,mc,hvm⟩:=jl HRR.out.m;have HR3:=zH (HRR.out.tch T3.out (by simp));have q19:w3.cell? ⟨y.qb,19,none⟩=some (.slice sd y.Q.ds.length dc):=by rw[<-hvd];exact jb HR3.out.blk 19 _ rfl
  have q16:w3.cell? ⟨y.qb,16,none⟩=some (.slice sm y.Q.ms.length mc):=by rw[<-hvm];exact jb HR3.out.blk 16 _ rfl
  have HOD:Hid (w3.ownsRow 0 267 4 (.slice sd y.Q.ds.length dc) y.Q.ds.length (y.Q.ds.flatMap ddK)):=by rw[<-hvd];exact HR3.out.d
  have l3:=lt_of_block HR3.out.blk;have hdl:=HW.out.dl;have hml:y.Q.ms.length<=1000:=by have:=HW.out.mq;have:=HW.out.c.quo;omega
  clear hvd hvm;go_wp2_with fail
  go_loopw [10] (fun v wr=>∃j:Nat,j<=y.Q.ds.length/\v=.int .i64 (j:Int)/\(∀i (hi:i<j) (hl:i<y.Q.ds.length),isI (ks r) y.Q.ds[i]=false)/\wr=w3) (fun v _=>y.Q.ds.length-(intOf v).toNat)
  case atStart=>exact⟨0,Nat.zero_le _,rfl,fun i hi=>by omega,rfl⟩
  case round=>
   obtain⟨j,hj,rfl,hno,rfl⟩:=hrel;have HNO:=zH hno;clear hno
   by_cases hlt:j<y.Q.ds.length
   ·obtain⟨gb,cap,hv,lg,hcs⟩:=kA ddK 4 (fun _=>rfl) HOD.out j hlt;simp only[Value.slice.injEq,true_and]at hv;obtain⟨rfl,rfl⟩:=hv;have d0:wr.cell? ⟨gb,j*4,none⟩=some (.string y.Q.ds[j].id):=hcs 0 _ rfl;have hnm:=(HW.out.dok _ (List.getElem_mem hlt)).2.1;have d1:wr.cell? ⟨gb,j*4+1,none⟩=some (.int .i64 ((y.Q.ds[j].num.toNat:Nat):Int)):=by
     rw[Int.toNat_of_nonneg (by omega)];exact hcs 1 _ rfl
    have hnl:y.Q.ds[j].num.toNat<4294967296:=by have:=HW.out.nx;omega
    clear hcs hnm
    cases he:(y.Q.ds[j].id.toList == (ks r).toList) with
    | true=>
     have HFD:=zH (HKF.out j hlt (vY _ _ j hlt he (fun i hi=>HNO.out i hi (by omega))));have HL4:Hid (∀W,zT 138 #[.int .i64 ((y.Q.ds[j].num.toNat:Nat):Int),.int .i64 4] W (.string (BA (je y.Q.ds[j].num.toNat 4)))):=fun W=>HLW.out _ W hnl
     clear HKF HK5 HK6 HKO HNO hnl;generalize y.Q.ds[j].num.toNat=nm at*
     have z4:(BA (je nm 4)).size=4:=by rw[jH,jc]
     go_wp2_with fail;refine(HL4.out _).mono ?_;rintro e w4 ⟨rfl,t4⟩;have HK:=zH (HFD.out w4 (T3.out.trans t4 (fun _ h _=>h)));clear t4 HFD HL4;go_wp2_with fail
     show K (.returned (.string ((⟨#[0]⟩:ByteArray)++BA (je nm 4)))) w4
     rw[a0i];exact HK.out
    | false=>
     have HE:=zH he;clear HKF HK5 HK6 HKO hnl;generalize y.Q.ds[j].num.toNat=nm at*
     go_wp2_with fail;go_roundw
     case rel=>exact⟨j+1,by omega,by go_num,fun i hi hl=>by
      by_cases hij:i=j
      ·subst hij;exact HE.out
      ·exact HNO.out i (by omega) hl,by trivial⟩
     case measure=>simp[intOf];omega
   ·have HID:Hid (jj (isI (ks r)) y.Q.ds<0):=(qq _ _).2 (fun d hd=>by
     obtain⟨i,hi,rfl⟩:=List.mem_iff_getElem.1 hd;exact HNO.out i (by omega) hi)
    have q6:wr.cell? ⟨y.qb,6,none⟩=some (.int .i64 y.Q.c.quo):=jb HR3.out.blk 6 _ rfl;have q15:wr.cell? ⟨y.qb,15,none⟩=some (.int .i64 (y.Q.next:Int)):=jb HR3.out.blk 15 _ rfl;clear HNO HKF
    by_cases hqu:y.Q.c.quo<=(y.Q.ms.length:Int)
    ·have HK:=zH (HK5.out HID.out (by omega));clear HK5 HK6 HKO;go_wp2_with fail;go_quiet (fail);go_wp2_with fail;refine(HA5.out _).mono ?_;rintro e w4 ⟨rfl,t4⟩;have HK2:=zH (HK.out w4 ((T3.out.drewN _).trans t4 (fun _ h _=>h)));clear t4 HK;go_wp2_with fail;exact HK2.out
    ·clear HK5
     by_cases hnx:200<y.Q.next
     ·have HK:=zH (HK6.out HID.out (by omega) hnx);have hnI:(200:Int)<(y.Q.next:Int):=by omega
      clear HK6 HKO;go_wp2_with fail;go_quiet (fail);go_wp2_with fail;refine(HA6.out _).mono ?_;rintro e w4 ⟨rfl,t4⟩;have HK2:=zH (HK.out w4 ((T3.out.drewN _).trans t4 (fun _ h _=>h)));clear t4 HK;go_wp2_with fail;exact HK2.out
     ·clear HK6;have hnI:¬(200:Int)<(y.Q.next:Int):=by omega
      have HLX:Hid (∀W,zT 138 #[.int .i64 (y.Q.next:Int),.int .i64 4] W (.string (BA (je y.Q.next 4)))):=fun W=>HLW.out _ W (by omega)
      have z4:(BA (je y.Q.next 4)).size=4:=by rw[jH,jc]
      clear HLW;go_wp2_with fail;go_quiet (fail);go_wp2_with fail;refine(HLX.out _).mono ?_;rintro e w4 ⟨rfl,t4⟩;have TB4:Hid (Tch [] wb w4):=(TB3.out.drewN _).trans t4 (fun _ h _=>h);have HR4:Hid (RR w4 y.qb y.V y.sl.v y.Q y.ts y.cnt/\RS wb w4 y.qb y.V y.V y.sl.v y.Q y.ts y.cnt):=⟨HRB.out.1.tch TB4.out (by simp),HRB.out.1.rs TB4.out⟩;have htl:y.ts.length<=1000:=by have:=HT.out.len;omega
      clear t4 HLX HR3 q6 q15 q16 q19 l3 HOD;have q4:w4.cell? ⟨y.qb,4,none⟩=some (.int .i64 y.Q.c.win):=jb HR4.out.1.blk 4 _ rfl;have l4:=lt_of_block HR4.out.1.blk
      go_upto_if 96 with fail
      go_cut [] (fun wy=>∃V',RS wb wy y.qb y.V V' y.sl.v (sdQ y.Q r now) y.ts y.cnt)
      case first=>
       by_cases hwin:0<y.Q.c.win
       ·obtain⟨nx,hnx'⟩:∃nx:Int,nx=(y.Q.next:Int):=⟨_,rfl⟩;have HNX:=zH hnx';have q15:w4.cell? ⟨y.qb,15,none⟩=some (.int .i64 nx):=by rw[hnx'];exact jb HR4.out.1.blk 15 _ rfl
        have q19:w4.cell? ⟨y.qb,19,none⟩=some (.slice sd y.Q.ds.length dc):=by rw[<-HVD.out];exact jb HR4.out.1.blk 19 _ rfl
        have HRT:Hid (Rst w4 rb now (ptR Z)/\rb∉rbl y.qb y.V):=⟨HST.out.1.tch (HBX.out _ TB4.out) (by simp),HST.out.2⟩;have r0:=HRT.out.1.now;have hwb:=HW.out.c.win;clear hnx';obtain⟨wn,hwn⟩:∃wn:Int,wn=y.Q.c.win:=⟨_,rfl⟩;have HWN:=zH hwn;have hwin0:=hwin;rw[<-hwn]at q4 hwb hwin;clear hwn;have hw0:IntKind.i64.wrap (now+wn)=now+wn:=by rw[IntKind.wrap_i64];omega
        have HOW:Hid (w4.ownsRow 0 267 4 (.slice sd y.Q.ds.length dc) y.Q.ds.length (y.Q.ds.flatMap ddK)):=by rw[<-HVD.out];exact HR4.out.1.d
        have HSD:Hid (sdQ y.Q r now={y.Q with ds:=y.Q.ds++[⟨ks r,nx,now+wn⟩]}):=by
         show _=_
         unfold sdQ;rw[if_pos (by rw[<-HWN.out];exact hwin),HNX.out,HWN.out]
        have HBQ:=zH HR4.out.1.blk;have HG:Hid (∀v' w9,w9.ownsRow 0 267 4 v' (y.Q.ds.length+1) (y.Q.ds.flatMap ddK++[.string (ks r),.int .i64 nx,.string ⟨#[]⟩,.int .i64 (now+wn)])->(w4.drew.alloc (.cells #[.string (ks r),.int .i64 nx,.string ⟨#[]⟩,.int .i64 (now+wn)] 267)).grownBy w9 (Value.slice sd y.Q.ds.length dc).ownBlock->(v'.ownBlock=(Value.slice sd y.Q.ds.length dc).ownBlock\/v'.ownBlock=some (w4.drew.alloc (.cells #[.string (ks r),.int .i64 nx,.string ⟨#[]⟩,.int .i64 (now+wn)] 267)).heap.size)->∃g4 cap4,v'=.slice (some ⟨g4,0,none⟩) (y.Q.ds.length+1) cap4/\(w9.cell? ⟨y.qb,15,none⟩=some (.int .i64 nx)/\w9.cell? ⟨rb,0,none⟩=some (.int .i64 now)/\w9.cell? ⟨y.qb,4,none⟩=some (.int .i64 wn)/\w9.frozen? ⟨y.qb,19,none⟩=false)/\w9.cell? ⟨y.qb,19,none⟩=some (.slice sd y.Q.ds.length dc)/\y.qb<w9.heap.size/\((w9.setCell ⟨y.qb,19,none⟩ v').cell? ⟨y.qb,15,none⟩=some (.int .i64 nx)/\(w9.setCell ⟨y.qb,19,none⟩ v').cell? ⟨rb,0,none⟩=some (.int .i64 now)/\(w9.setCell ⟨y.qb,19,none⟩ v').cell? ⟨y.qb,4,none⟩=some (.int .i64 wn)/\(w9.setCell ⟨y.qb,19,none⟩ v').frozen? ⟨y.qb,19,none⟩=false)/\RS wb (w9.setCell ⟨y.qb,19,none⟩ v') y.qb y.V {y.V with d:=v'} y.sl.v (sdQ y.Q r now) y.ts y.cnt):=fun v' w9 ho hg hb=>by
         obtain⟨g4,cap4,hv4⟩:=qB ho;rw[<-HVD.out]at hg hb;have t1:Tch [] w4 (w4.drew.alloc (.cells #[.string (ks r),.int .i64 nx,.string ⟨#[]⟩,.int .i64 (now+wn)] 267)):=(Tch.refl _ _).drew.alloc _;have t2:Tch (bl y.V.d) w4 w9:=(t1.sub (by simp)).trans (kK hg) (fun x hx _=>hx);obtain⟨k1,k2,k3,k4⟩:=HR4.out.1.newD (v':=v') (l':=y.Q.ds++[⟨ks r,nx,now+wn⟩]) t2 (by simpa [ddK]using ho) (fun k hk=>by
          rcases hb with e|e
          ·exact .inl (e▸hk)
          ·rw[hk]at e;injection e with e;have:=t1.size;omega) (fun k hk hka=>by
          rcases hb with e|e
          ·exact HR4.out.1.sep k (e▸hk) hka
          ·rw[hk]at e;injection e with e;have:=t1.size;obtain⟨C,hC⟩:=HR4.out.1.a.ty hka;have:=lt_of_block hC;omega)
         have b9:w9.heap[y.qb]?=some (.cells (rqC y.Q.c y.sl.v (y.Q.next:Int) y.V.m y.V.t (y.cnt:Int) y.V.d y.V.a) 216 (0,0)):=(t2.block _ (lt_of_block HBQ.out) (fun hm=>HR4.out.1.kq (.inr (.inr (.inl (jq.1 hm)))) rfl)).trans HBQ.out
         have b10:=k4.rr.blk;have hsub:∀k∈bl y.V.d,k∈rbl y.qb y.V:=fun k hk=>ju.2 (.inr (.inr (.inr (.inl (jq.1 hk)))))
         have r9:=HRT.out.1.tch (t2.sub (fun k hk _=>hsub k hk)) HRT.out.2;have r10:=HRT.out.1.tch k4.tch HRT.out.2;have hbn:some (Value.int .i64 (y.Q.next:Int))=some (.int .i64 nx):=by rw[HNX.out]
         have hbw:some (Value.int .i64 y.Q.c.win)=some (.int .i64 wn):=by rw[HWN.out]
         have f10:(w9.setCell ⟨y.qb,19,none⟩ v').frozen? ⟨y.qb,19,none⟩=false:=frozen_of_row _ _ _ _ 216 b10;rw[HVD.out]at k1;rw[HSD.out];exact⟨g4,cap4,hv4,⟨(jb b9 15 _ rfl).trans hbn,r9.now,(jb b9 4 _ rfl).trans hbw,k2⟩,k1,k3,⟨(jb b10 15 _ rfl).trans hbn,r10.now,(jb b10 4 _ rfl).trans hbw,f10⟩,HR4.out.2.trans k4⟩
        have HZ:Hid (w4.frozen? ⟨y.qb,19,none⟩=false):=frozen_of_row w4 _ _ _ 216 HBQ.out;have HZB:Hid (∀o,(w4.drew.alloc o).frozen? ⟨y.qb,19,none⟩=false):=fun o=>frozen_of_row _ y.qb 19 _ 216 ((Below.heap_alloc _ _ _ l4).trans HBQ.out)
        clear hb HRR HST HKO HA5 HA6 HBC HRB HR4;go_wp2_with fail;have z9a:=HZ.out;have z9c:∀o,(w4.alloc o).drew.frozen? ⟨y.qb,19,none⟩=false:=fun o=>HZB.out o
        refine wp_region_noPanic ?_;refine wp_region_held_drew (S:=(fun w'=>w'.cell? ⟨y.qb,15,none⟩=some (.int .i64 nx)/\w'.cell? ⟨rb,0,none⟩=some (.int .i64 now)/\w'.cell? ⟨y.qb,4,none⟩=some (.int .i64 wn)/\w'.frozen? ⟨y.qb,19,none⟩=false)) (by kernel_rfl) (by go_keep) (fun hHeld=>?_);refine zK 0 (h:=?_);refine zK 1 (h:=?_);refine zK 2 (h:=?_);refine zK 3 (h:=?_);refine zK 5 (h:=?_);refine zK 6 (h:=?_);refine zK 7 (h:=?_);refine zK 8 (h:=?_);refine zK 9 (h:=?_);refine zK 10 (h:=?_);refine zK 11 (h:=?_);refine zK 12 (h:=?_);refine zK 13 (h:=?_);refine zK 14 (h:=?_);refine zK 15 (h:=?_);refine zK 16 (h:=?_);refine zK 17 (h:=?_);refine zK 18 (h:=?_);refine zK 19 (h:=?_);refine zK 20 (h:=?_)
        try simp only[Act.put,List.setIfInBounds_toArray,List.set_cons_zero,List.set_cons_succ]
        refine wpAnyH_ready (rs:=[4,21]) (by kernel_rfl) (by simp) ?_;refine AllReadyH.cons rfl (fun K' hK'=>?_) (AllReadyH.cons rfl (fun K' hK'=>?_) AllReadyH.nil)
        ·go_simp;refine hK'.out _ _ (by go_keep) (fun hHeld=>?_);clear hK' K'
         try simp only[Act.put,List.setIfInBounds_toArray,List.set_cons_zero,List.set_cons_succ]
         refine wpAnyH_ready (rs:=[21]) (by kernel_rfl) (by simp) ?_;refine AllReadyH.cons rfl (fun K' hK'=>?_) AllReadyH.nil;go_simp;refine hK'.out _ _ (by go_keep) (fun hHeld=>?_);clear hK' K'
         try simp only[Act.put,List.setIfInBounds_toArray,List.set_cons_zero,List.set_cons_succ]
         refine wpAnyH_ready (rs:=[22]) (by kernel_rfl) (by simp) ?_;refine AllReadyH.cons rfl (fun K' hK'=>?_) AllReadyH.nil;refine qu rfl (.tmp 101) (.tmp 118) 214 267 rfl Tryz.underlying214 (.agg #[.string ⟨#[]⟩,.int .i64 0,.string ⟨#[]⟩,.int .i64 0]) 4 48 a1g rfl (by decide) (by decide) (.slice sd y.Q.ds.length dc) y.Q.ds.length (y.Q.ds.flatMap ddK) (by simp[Act.eval,Act.put]) (by first|exact jf HOW.out ((Tch.refl [] _).alloc _).drew (fun _ _=>by simp)|exact jf HOW.out ((Tch.refl [] _).drew.alloc _) (fun _ _=>by simp)) w4.heap.size [.string (ks r),.int .i64 nx,.string ⟨#[]⟩,.int .i64 (now+wn)] 1 (by simp[Act.eval,Act.put]) rfl (by decide) (by first|exact heap_alloc_new _ _|exact heap_alloc_new w4 _) (by intro u hu;simp at hu;rcases hu with rfl|rfl|rfl|rfl<;>rfl) (by omega) ?_;intro v' w9 ho3 hg3 hb3;obtain⟨g4,cap4,hv4,⟨s1,s2,s3,s4⟩,c9,l9,⟨u1,u2,u3,u4⟩,hfin⟩:=HG.out v' w9 ho3 hg3 hb3;subst hv4;clear ho3 hg3 hb3;have HFIN:Hid (RS _ _ _ _ _ _ _ _ _):=hfin;clear hfin;refine hK'.out _ _ (by go_keep) (fun hHeld=>?_);clear hK' K'
         try simp only[Act.put,List.setIfInBounds_toArray,List.set_cons_zero,List.set_cons_succ]
         refine zK 23 (h:=?_);refine zK 24 (h:=?_)
         try simp only[Act.put,List.setIfInBounds_toArray,List.set_cons_zero,List.set_cons_succ]
         refine wpAnyH_ready (rs:=[25]) (by kernel_rfl) (by simp) ?_;refine AllReadyH.cons rfl (fun K' hK'=>?_) AllReadyH.nil;go_simp;refine hK'.out _ _ (by go_keep) (fun hHeld=>?_);clear hK' K'
         try simp only[Act.put,List.setIfInBounds_toArray,List.set_cons_zero,List.set_cons_succ]
         refine wpAnyH_done (by kernel_rfl) ?_ _;refine NoPanic.normal ?_;go_wp2_with fail;go_meet;exact⟨_,HFIN.out⟩
        ·go_simp;refine hK'.out _ _ (by go_keep) (fun hHeld=>?_);clear hK' K'
         try simp only[Act.put,List.setIfInBounds_toArray,List.set_cons_zero,List.set_cons_succ]
         refine wpAnyH_ready (rs:=[4]) (by kernel_rfl) (by simp) ?_;refine AllReadyH.cons rfl (fun K' hK'=>?_) AllReadyH.nil;go_simp;refine hK'.out _ _ (by go_keep) (fun hHeld=>?_);clear hK' K'
         try simp only[Act.put,List.setIfInBounds_toArray,List.set_cons_zero,List.set_cons_succ]
         refine wpAnyH_ready (rs:=[22]) (by kernel_rfl) (by simp) ?_;refine AllReadyH.cons rfl (fun K' hK'=>?_) AllReadyH.nil;refine qu rfl (.tmp 101) (.tmp 118) 214 267 rfl Tryz.underlying214 (.agg #[.string ⟨#[]⟩,.int .i64 0,.string ⟨#[]⟩,.int .i64 0]) 4 48 a1g rfl (by decide) (by decide) (.slice sd y.Q.ds.length dc) y.Q.ds.length (y.Q.ds.flatMap ddK) (by simp[Act.eval,Act.put]) (by first|exact jf HOW.out ((Tch.refl [] _).alloc _).drew (fun _ _=>by simp)|exact jf HOW.out ((Tch.refl [] _).drew.alloc _) (fun _ _=>by simp)) w4.heap.size [.string (ks r),.int .i64 nx,.string ⟨#[]⟩,.int .i64 (now+wn)] 1 (by simp[Act.eval,Act.put]) rfl (by decide) (by first|exact heap_alloc_new _ _|exact heap_alloc_new w4 _) (by intro u hu;simp at hu;rcases hu with rfl|rfl|rfl|rfl<;>rfl) (by omega) ?_;intro v' w9 ho3 hg3 hb3;obtain⟨g4,cap4,hv4,⟨s1,s2,s3,s4⟩,c9,l9,⟨u1,u2,u3,u4⟩,hfin⟩:=HG.out v' w9 ho3 hg3 hb3;subst hv4;clear ho3 hg3 hb3;have HFIN:Hid (RS _ _ _ _ _ _ _ _ _):=hfin;clear hfin;refine hK'.out _ _ (by go_keep) (fun hHeld=>?_);clear hK' K'
         try simp only[Act.put,List.setIfInBounds_toArray,List.set_cons_zero,List.set_cons_succ]
         refine zK 23 (h:=?_);refine zK 24 (h:=?_)
         try simp only[Act.put,List.setIfInBounds_toArray,List.set_cons_zero,List.set_cons_succ]
         refine wpAnyH_ready (rs:=[25]) (by kernel_rfl) (by simp) ?_;refine AllReadyH.cons rfl (fun K' hK'=>?_) AllReadyH.nil;go_simp;refine hK'.out _ _ (by go_keep) (fun hHeld=>?_);clear hK' K'
         try simp only[Act.put,List.setIfInBounds_toArray,List.set_cons_zero,List.set_cons_succ]
         refine wpAnyH_done (by kernel_rfl) ?_ _;refine NoPanic.normal ?_;go_wp2_with fail;go_meet;exact⟨_,HFIN.out⟩
       ·have HSD:Hid (sdQ y.Q r now=y.Q):=by
         show _=_
         unfold sdQ;rw[if_neg hwin]
        have HE:Hid (RS wb w4 y.qb y.V y.V y.sl.v (sdQ y.Q r now) y.ts y.cnt):=by
         rw[HSD.out];exact HR4.out.2
        go_wp2_with fail;go_meet;exact⟨_,HE.out⟩
      case rest=>
       obtain⟨V1,hV1⟩:=hcut;have HFIN:=zH hV1;generalize wc=w10 at*
       clear hV1;obtain⟨b9,b11,lw⟩:=HBC.out _ _ HFIN.out.tch HRB.out.2.2;have HP:Hid (Cp 225 #[zp y.qb,.string r.grp,.string r.bod] w10 fun e w'=>e=.returned (.tuple #[])/\∃V',RS w w' y.qb y.V V' y.sl.v (a5X (sdQ y.Q r now) r.grp r.bod) (a0J y.Q y.ts y.cnt r.grp) (xU y.Q y.cnt r.grp)):=(a8y (sdQ y.Q r now) y.ts y.cnt _ _ y.qb r.grp r.bod w10 HFIN.out.rr hml (by show y.Q.next<=1000;omega) htl (by omega)).mono (by
        rintro e w' ⟨he,V',hv⟩;exact⟨he,V',(HRB.out.2.1.trans HFIN.out).trans hv⟩)
       clear HFIN q4 l4;go_wp2_with fail;refine HP.out.mono ?_;rintro e w11 ⟨rfl,V',hrs⟩;have HK:=zH (HKO.out HID.out (by omega) (by omega) w11 V' hrs);clear hrs HP HKO;go_wp2_with fail
       show K (.returned (.string ((⟨#[0]⟩:ByteArray)++BA (je y.Q.next 4)))) w11
       rw[a0i];exact HK.out
theorem b2V (rb i N:Nat)(now:Int)(Z:RZ)(r:Wp.Rq)(x:Sl)(y:RQ)(w:World)(h:RG w rb now Z)(hi:i<8)(hq:r.q.toNat=97+i)(hz:Z i=some y)(hW:WFc (ctR Z))(hT:TRZ Z N)(hN:N<=4611686018427387000)(hnow:0<=now/\now<=60000):
  Cp 181 #[zp rb,.agg (ja r x.v)] w fun e w'=>e=.returned (.string (doS now (ctR Z) i y.Q r).1)/\Lft rb Z N w w' (doS now (ctR Z) i y.Q r).2.1 (doS now (ctR Z) i y.Q r).2.2 (N+40000):=by
 have hcz:ctR Z i=some y.Q:=by unfold ctR;rw[hz];rfl
 have hWy:=hW i y.Q hi hcz;obtain⟨hTy,hcy⟩:=hT i y hi hz;have hsame:∀w',RGS w w' rb Z now Z->Lft rb Z N w w' now (ctR Z) (N+40000):=fun w' hs=>⟨Z,hs,rfl,hT.mono (by omega),QB.refl Z⟩
 unfold doS
 by_cases hb:40<r.bod.size
 ·rw[if_pos hb];refine(b7G rb i now Z r x y w h hi hq hz hb).mono ?_;rintro e w' ⟨he,hs⟩;exact⟨he,hsame w' hs⟩
 ·rw[if_neg hb];refine b7H _ rb i N now Z r x y w h hi hq hz (by omega) hWy hTy (by omega) hnow ?_ ?_ ?_ ?_
  ·intro j hj hix w' ht;rw[if_pos (by omega),hix,Int.toNat_natCast,List.getElem?_eq_getElem hj];exact⟨rfl,hsame w' (h.rgs ht)⟩
  ·intro hid hqu w' ht;rw[if_neg (by omega),if_pos hqu];exact⟨rfl,hsame w' (h.rgs ht)⟩
  ·intro hid hqu hnx w' ht;rw[if_neg (by omega),if_neg hqu,if_pos hnx];exact⟨rfl,hsame w' (h.rgs ht)⟩
  ·intro hid hqu hnx w' V' hs;rw[if_neg (by omega),if_neg hqu,if_neg (by omega)];have e1:vl y.Q r now={a5X (sdQ y.Q r now) r.grp r.bod with rs:=(vl y.Q r now).rs}:=rfl;have hs2:RS w w' y.qb y.V V' y.sl.v (vl y.Q r now) (a0J y.Q y.ts y.cnt r.grp) (xU y.Q y.cnt r.grp):=by
    rw[e1];exact hs.rdy _
   have hP:=hTy.put (QW.rm hWy) r.grp r.bod;refine⟨rfl,_,h.one hi hz hs2,?_,hT.upd (by omega) (fun t ht=>?_),QB.one hz rfl⟩
   ·rw[qM];rfl
   ·obtain rfl:=Option.some.inj ht;refine⟨⟨hP.up,hP.pos,hP.le,hP.len,hP.has⟩,?_⟩
    show xU y.Q y.cnt r.grp<=N+40000
    unfold xU
    split<;>omega
def a5W:Array Value->Nat->List Value->Array Value
 | c,_,[]=>c
 | c,o,v::r=>a5W (c.setIfInBounds o v) (o+1) r
theorem a3Z:∀(vs:List Value) (c:Array Value) (o:Nat),(a5W c o vs).size=c.size
 | [],c,o=>rfl
 | v::r,c,o=>by
  unfold a5W;rw[a3Z r];simp
theorem a3Y:∀(vs:List Value) (c:Array Value) (o:Nat),o+vs.length<=c.size->(a5W c o vs).toList=c.toList.take o++(vs++c.toList.drop (o+vs.length))
 | [],c,o,h=>by
  unfold a5W;simp
 | v::r,c,o,h=>by
  have hl:(v::r).length=r.length+1:=rfl;rw[hl]at h;unfold a5W;rw[a3Y r (c.setIfInBounds o v) (o+1) (by simp;omega),Array.toList_setIfInBounds];have ho:o<c.toList.length:=by simp;omega
  have e1:(c.toList.set o v).take (o+1)=c.toList.take o++[v]:=by
   rw[List.take_succ_eq_append_getElem (by simpa using ho),List.take_set_of_le (Nat.le_refl _)];simp
  have e2:(c.toList.set o v).drop (o+1+r.length)=c.toList.drop (o+(v::r).length):=by
   rw[List.drop_set_of_lt (by omega),hl];congr 1;omega
  rw[e1,e2];simp
theorem a0F (g:Nat)(t:TypeId):∀(vs:List Value) (o:Nat) (w:World) (cur:Array Value),w.heap[g]?=some (.cells cur t (0,0))->(w.setCells g o vs).heap[g]?=some (.cells (a5W cur o vs) t (0,0))
 | [],o,w,cur,h=>h
 | v::r,o,w,cur,h=>a0F g t r (o+1) _ _ (heap_setCell_same w g o cur t v h)
theorem b2j {c:Array Value}{off:Nat}{vs:List Value}{m:Nat}(hs:c.size=off+cap*size)(hnc:n+m<=cap)(ht:(c.toList.drop off).take (n*size)=xs)(hl:xs.length=n*size)(hv:vs.length=m*size):((a5W c (off+n*size) vs).toList.drop off).take ((n+m)*size)=xs++vs:=by
 have h1:(n+m)*size<=cap*size:=Nat.mul_le_mul_right _ hnc;rw[Nat.add_mul]at h1;rw[a3Y vs c (off+n*size) (by omega)];have hlen:(c.toList.take (off+n*size)).length=off+n*size:=by rw[List.length_take];simp;omega
 have e1:(c.toList.take (off+n*size)).drop off=xs:=by
  rw[List.drop_take,Nat.add_sub_cancel_left];exact ht
 rw[List.drop_append_of_le_length (by omega),e1,<-List.append_assoc,Nat.add_mul];rw[List.take_left' (by rw[List.length_append,hl,hv])]
theorem b2Q {P:Program}(w:World)(t ty e:TypeId)(i:TypeInfo)(z:Value)(size bytes:Nat)(ht:P.underlying t=some (.slice e))(hi:P.info? e=some i)(hz:i.zero=some z)
  (hsize:i.size=size)(hby:i.bytes=bytes)(hzs:z.cells.size=size)(hsz:0<size)
  (v:Value)(n:Nat)(xs:List Value)(hown:rowO w e size v n xs)
  (a:Addr)(m c:Nat)(news:List Value)(hl:news.length=m*size)(hnews:∀j u,news[j]?=some u->w.cell? (a.add j)=some u)(h1:∀u∈news,u.oneCell'=true)
  (h63:n+m<=maxLen)(hbytes:(n+m)*bytes<=140737488355328)(hm:0<m):
  ∃v' w',(Builtin.append_ #[t,t] ty #[v,.slice (some a) m c]).run P w=.ok v' w'/\rowO w' e size v' (n+m) (xs++news)/\Tch (bl v) w w'/\(∀k,v'.ownBlock=some k->v.ownBlock=some k\/w.heap.size<=k):=by
 rcases hown with ⟨rfl,rfl,rfl⟩|⟨g,o,cap,cur,rfl,hg,hnc,hcm,hcs,htk,hxl⟩
 ·obtain⟨v',w',hr,h2,h3,h4⟩:=a1p (P:=P) w 0 t ty e i z size bytes ht hi hz hsize hby hzs hsz (.slice none 0 0) 0 [] (World.ownsRow_nil _ _ _ _) a m c news hl hnews h1 h63 hbytes (Nat.zero_le _) hm;refine⟨v',w',hr,rowO.of_own h2,kK h3,fun k hk=>?_⟩
  rcases h4 with e|e
  ·exact .inl (e▸hk)
  ·rw[hk]at e;injection e with e;exact .inr (by omega)
 ·by_cases hroom:n+m<=cap
  ·have hle:(n+m)*size<=cap*size:=Nat.mul_le_mul_right _ hroom;rw[Nat.add_mul]at hle;have hr:=run_append_room_cells (P:=P) (w:=w) t ty e i ht hi g o n cap a m c news (by rw[hsize];exact hl) hnews h1 hroom (fun j hj=>by
    rw[cell_of_row w g _ cur e (0,0) hg,hsize,Array.getElem?_eq_getElem (by omega)];rfl) (fun j hj=>frozen_of_row w g _ cur e hg)
   rw[hsize]at hr;refine⟨_,_,hr,.inr ⟨g,o,cap,_,rfl,a0F g e news _ w cur hg,hroom,hcm,by rw[a3Z];exact hcs,b2j hcs hroom htk hxl hl,by rw[List.length_append,hxl,hl,Nat.add_mul]⟩,?_,fun k hk=>.inl hk⟩
   exact(qg g news _ w).sub (fun k hk _=>by
    simp at hk;exact jq.2 (by rw[hk];rfl))
  ·obtain⟨v',w',hr,h2,h3⟩:=run_append_arg_grows (P:=P) (w:=w) t ty e i z size bytes ht hi hz hsize hby hzs hsz ⟨g,o,none⟩ n cap xs hxl (fun j u hj=>by
    have e1:(⟨g,o,none⟩:Addr).add j=⟨g,o+j,none⟩:=by unfold Addr.add;split<;>simp_all
    rw[e1,cell_of_row w g _ cur e (0,0) hg,<-hj,<-htk];have hjl:=(List.getElem?_eq_some_iff.1 hj).1;rw[List.getElem?_take_of_lt (by omega),List.getElem?_drop];simp) a m c news hl hnews (by omega) h63 hbytes
   refine⟨v',w',hr,rowO.of_own ⟨h2.1,?_⟩,(kK (v:=.slice none 0 0) h3).sub (fun k hk _=>by simp[bl,Value.ownBlock]at hk),fun k hk=>.inr (xk h2 k hk)⟩
   rcases h2.2 with h|⟨g',c',cu,e',_,hr'⟩
   ·exact .inl h
   ·exact .inr ⟨g',c',cu,e',Nat.zero_le _,hr'⟩
theorem a3s {ops:Array Oper}{o:Oper}{a:Act}{w:World}{K:Act->World->Prop}{Q:Exit->Act->World->Prop}{E:Prop}(hgd:o.guard=none)(s x:Operand)(t te:TypeId)
  (ho:o.op=.call {callee:=.builtin .append,args:=#[s,x],argTypes:=#[t,t]})(ht:Tryz.prog.underlying t=some (.slice te))(z:Value)(size bytes:Nat)
  (hinfo:(Tryz.prog.info? te).map (fun i=>(i.zero,i.size,i.bytes))=some (some z,size,bytes))(hzs:z.cells.size=size)(hsz:0<size)(hby:bytes<=100)
  (v:Value)(n:Nat)(xs:List Value)(hs:a.eval s=v)(hown:rowO w te size v n xs)(g:Nat)(news:List Value)(m:Nat)(hx:a.eval x=.slice (some ⟨g,0,none⟩) m m)(hm:news.length=m*size)(hm0:0<m)(hg:w.heap[g]?=some (.cells news.toArray te (0,0)))(hone:∀u∈news,u.oneCell'=true)(hn:n+m<=1073741824)
  (h:∀v' w',rowO w' te size v' (n+m) (xs++news)->Tch (bl v) w w'->(∀k,v'.ownBlock=some k->v.ownBlock=some k\/w.heap.size<=k)->K (a.put o.dst v') w'):
  if Region.wanted o (yielded ops a.tmps)=true then Oper.wp Tryz.prog o a w K Q else E:=by
 have hw:Region.wanted o (yielded ops a.tmps)=true:=by simp[Region.wanted,hgd]
 rw[if_pos hw];obtain⟨i0,hi,hz0,hz1,hz2⟩:=info_parts hinfo;obtain⟨v',w',hr,h2,h3,h4⟩:=b2Q (P:=Tryz.prog) w t o.type te i0 _ size bytes ht hi hz0 hz1 hz2 hzs hsz v n xs hown ⟨g,0,none⟩ m m news hm (fun j u hj=>by
  have e:(⟨g,0,none⟩:Addr).add j=⟨g,j,none⟩:=by unfold Addr.add;split<;>simp_all
  rw[e,cell_of_row w g j _ te (0,0) hg,<-hj];simp) hone (by unfold maxLen;omega) (by
   have h1:(n+m)*bytes<=1073741824*100:=Nat.mul_le_mul hn hby
   omega) hm0
 unfold Oper.wp execOp;simp only[ho,resolve,invoke,builtin,Sem.run_bind,Sem.run_pure,Result.andThen_ok,List.map_toArray,List.map_cons,List.map_nil,hs,hx,hr];exact h v' w' h2 h3 h4
theorem rowO.tail {t:TypeId}{g o:Nat}(h:rowO w t size (.slice (some ⟨g,o,none⟩) (n+1) cap) (n+1) xs):rowO w t size (.slice (some ⟨g,o+size,none⟩) n (cap-1)) n (xs.drop size):=by
 rcases h with ⟨e,_⟩|⟨g',o',cap',cur,e,hg,hnc,hcm,hcs,htk,hxl⟩
 ·simp at e
 ·simp only[Value.slice.injEq,Option.some.injEq,Addr.mk.injEq,true_and,and_true]at e;obtain⟨⟨rfl,rfl⟩,rfl⟩:=e;obtain⟨c1,rfl⟩:∃c1,cap=c1+1:=⟨cap-1,by omega⟩;refine .inr ⟨g,o+size,c1,cur,by simp,hg,by omega,by omega,by rw[hcs,Nat.add_mul];omega,?_,by rw[List.length_drop,hxl,Nat.add_mul];omega⟩;rw[<-htk,List.drop_take,List.drop_drop,Nat.add_mul,Nat.one_mul,Nat.add_sub_cancel]
end Go.Proofs.YtbdobaapadlcjaaGreatDoor.Ref
