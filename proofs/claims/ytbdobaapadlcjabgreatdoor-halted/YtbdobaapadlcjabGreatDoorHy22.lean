import Derived.Test.YtbdobaapadlcjabGreatDoorHy21
set_option maxRecDepth 8000
set_option maxHeartbeats 4000000
set_option linter.unusedVariables false
set_option linter.unusedSimpArgs false
namespace Go.Proofs.YtbdobaapadlcjabGreatDoor
open Go.RowKit
variable {i:Nat}{Q:QM}
def recvG (Q:QM)(att:ByteArray)(cnt:Nat)(til:Int)(ans:List UInt8):QM:=remG {Q with ms:=flyAll til Q.ms (hdsL Q cnt),rs:=Q.rs.drop cnt} ⟨att,til,⟨ans.toArray⟩⟩
theorem recvdG_any (Q:QM)(V:QV)(CC:Array Value)(att:ByteArray)(qb cnt g0 gc ga base:Nat)(til:Int)(av:Value)(ans:List UInt8)(w:World)(h:QR w qb V Q)(hcp:Cap w qb CC cnt g0 gc ga base til (hdsL Q cnt) av ans)(hatt:CC[12]?=some (.string att))(hc1:0<cnt/\cnt<=1000)(hcl:cnt<=Q.rs.length)(hrd:∀g∈Q.rs,0<=idxL (isG g) Q.ms)(hms:∀m∈Q.ms,MsOk m)(hnm:Q.ms.length<=1000)(hna:Q.ats.length<=20)(han:0<ans.length):
  Calls Tryz.prog 165 #[.pointer (some ⟨ga+1+1+1,0,none⟩),.pointer (some ⟨g0,0,none⟩),.pointer (some ⟨ga+1,0,none⟩),.pointer (some ⟨gc,0,none⟩),.pointer (some ⟨g0+1,0,none⟩),.pointer (some ⟨ga,0,none⟩)] w fun e w'=>e=.returned (.tuple #[])/\QL w w' qb V (recvG Q att cnt til ans):=by
 have HQ:=zH h;have HC:=zH hcp;have hhl:(hdsL Q cnt).length=cnt:=by simp[hdsL];omega
 obtain⟨gr0,cr,hvr⟩:∃g c,V.r=.slice (some ⟨g,0,none⟩) Q.rs.length c:=by
  rcases h.r.2 with ⟨h0,h1⟩|⟨g,cap,cur,h0,_⟩
  ·omega
  ·exact⟨_,_,h0⟩
 have hml:0<Q.ms.length:=by
  have hm0:Q.rs[0]'(by omega)∈Q.rs:=List.getElem_mem _;have h1:=hrd _ hm0;have h2:=idxL_lt (isG (Q.rs[0]'(by omega))) Q.ms;omega
 obtain⟨gm,cm,hvm⟩:∃g c,V.m=.slice (some ⟨g,0,none⟩) Q.ms.length c:=by
  rcases h.m.2 with ⟨h0,h1⟩|⟨g,cap,cur,h0,_⟩
  ·omega
  ·exact⟨_,_,h0⟩
 have y0:g0≠qb:=fun e=>by
  have h1:=hcp.hgq;have h2:=h.blk;rw[e,h2]at h1;simp at h1
 have y1:gc≠qb:=fun e=>by
  have h1:=hcp.hgc;have h2:=h.blk;rw[e,h2]at h1;simp at h1
 have c0:w.cell? ⟨ga+1+1+1,0,none⟩=some (.slice (some ⟨ga+1+1,0,none⟩) cnt cnt):=cell_of_one hcp.hgh;clear h hcp;go_enter Tryz.func165,Tryz.ntmps165;go_wp2_with fail
 go_loopw [11] (fun v wr=>∃k:Nat,k<=cnt/\v=.int .i64 (k:Int)/\QR wr qb V {Q with ms:=flyAll til Q.ms ((hdsL Q cnt).take k)}/\Cap wr qb CC cnt g0 gc ga base til (hdsL Q cnt) av ans/\Tch [gm] w wr) (fun v _=>cnt-(intOf v).toNat)
 case atStart=>exact⟨0,Nat.zero_le _,rfl,HQ.out,HC.out,Tch.refl _ _⟩
 case round=>
  obtain⟨k,hk,rfl,hqr,hcp,htc⟩:=hrel;have HCP:=zH hcp;have HTC:Hid (Tch [gm] w wr):=htc
  by_cases hlt:k<cnt
  ·have hkl:k<Q.rs.length:=by omega
   have hz0:=hrd Q.rs[k] (List.getElem_mem _);have hzl:=idxL_lt (isG Q.rs[k]) Q.ms;obtain⟨i,hi⟩:∃i:Nat,idxL (isG Q.rs[k]) Q.ms=(i:Int):=⟨_,(Int.toNat_of_nonneg hz0).symm⟩;have hzk:(hdsL Q cnt)[k]'(by omega)=(i:Int):=by simp[hdsL,hi]
   have hmk:∀m∈flyAll til Q.ms ((hdsL Q cnt).take k),MsOk m:=flyAll_ok til Q.ms _ hms;have hmkl:=flyAll_len til Q.ms ((hdsL Q cnt).take k);have hnext:Hid (flyAll til Q.ms ((hdsL Q cnt).take (k+1))=flyAt til (flyAll til Q.ms ((hdsL Q cnt).take k)) (i:Int)):=by
    show _=_
    rw[List.take_succ_eq_append_getElem (by omega),hzk,flyAll_snoc]
   generalize flyAll til Q.ms ((hdsL Q cnt).take k)=mk at hqr hmk hmkl hnext;have hil:i<mk.length:=by omega
   obtain⟨m,hm⟩:∃m,mk[i]?=some m:=⟨_,List.getElem?_eq_getElem hil⟩;have hmi:mk[i]=m:=by rw[List.getElem?_eq_getElem hil]at hm;exact Option.some.inj hm
   have hok:=hmk m (List.mem_of_getElem? hm);obtain⟨rcv,hrcv⟩:∃n:Nat,m.rcv=(n:Int):=⟨_,(Int.toNat_of_nonneg hok.rcv.1).symm⟩;have hvm':V.m=.slice (some ⟨gm,0,none⟩) mk.length cm:=by rw[hvm,hmkl]
   obtain⟨hq1,ht1,hf1⟩:=hqr.setM hvm' i 3 (.int .i64 (oft rcv:Nat)) {m with rcv:=(oft rcv:Nat)} hil (by decide) (by rw[hmi];rfl);have hset1:(mk.set i {m with rcv:=(oft rcv:Nat)})[i]'(by simpa using hil)={m with rcv:=(oft rcv:Nat)}:=by simp
   obtain⟨hq2,ht2,hf2⟩:=hq1.setM (Q:={Q with ms:=mk.set i {m with rcv:=(oft rcv:Nat)}}) (gm:=gm) (cm:=cm) (by rw[hvm'];simp) i 4 (.int .i64 til) (flyM til m) (by simpa using hil) (by decide) (by
    show (flyM til m).row=(Ms.row ((mk.set i {m with rcv:=(oft rcv:Nat)})[i]'_)).set 4 _
    rw[hset1];simp[flyM,Ms.row,hrcv])
   have HN:Hid (QR ((wr.setCell ⟨gm,i*5+3,none⟩ (.int .i64 (oft rcv:Nat))).setCell ⟨gm,i*5+4,none⟩ (.int .i64 til)) qb V {Q with ms:=flyAll til Q.ms ((hdsL Q cnt).take (k+1))}/\Cap ((wr.setCell ⟨gm,i*5+3,none⟩ (.int .i64 (oft rcv:Nat))).setCell ⟨gm,i*5+4,none⟩ (.int .i64 til)) qb CC cnt g0 gc ga base til (hdsL Q cnt) av ans/\Tch [gm] w ((wr.setCell ⟨gm,i*5+3,none⟩ (.int .i64 (oft rcv:Nat))).setCell ⟨gm,i*5+4,none⟩ (.int .i64 til))):=by
    refine⟨?_,(hcp.keep hf1 (by decide)).keep hf2 (by decide),(htc.trans ht1 (fun _ h _=>h)).trans ht2 (fun _ h _=>h)⟩;have e:flyAll til Q.ms ((hdsL Q cnt).take (k+1))=mk.set i (flyM til m):=by
     rw[hnext.out];unfold flyAt;rw[Int.toNat_natCast,hm]
    rw[e];simpa using hq2
   have HOF:Hid (∀W,zE 166 #[.int .i64 (rcv:Int)] W (.int .i64 (oft rcv:Nat))):=fun W=>oftener_any rcv W (by have:=hok.rcv;omega)
   have d1:wr.cell? ⟨ga+1+1,k,none⟩=some (.int .i64 (i:Int)):=by
    refine cell_qC hcp.hhb k _ ?_;rw[intRow_get _ _ k (by omega),hzk]
   have d2:wr.cell? ⟨g0,0,none⟩=some (.pointer (some ⟨qb,0,none⟩)):=cell_of_one hcp.hgq;have d3:wr.cell? ⟨qb,7,none⟩=some (.slice (some ⟨gm,0,none⟩) mk.length cm):=by rw[<-hvm'];exact cell_qC hqr.blk 7 _ rfl
   have hmrow:=hqr.m;rw[hvm']at hmrow;have d4:wr.cell? ⟨gm,i*5+3,none⟩=some (.int .i64 (rcv:Int)):=by
    have inh:Inhabited Ms:=⟨⟨0,⟨#[]⟩,⟨#[]⟩,0,0⟩⟩;have h1:=own_cells Ms.row 5 (fun _=>rfl) hmrow i hil 3 (.int .i64 (rcv:Int)) (by
     rw[List.getElem!_eq_getElem?_getD,hm];simp[Ms.row,hrcv])
    simpa using h1
   have d5:(wr.setCell ⟨gm,i*5+3,none⟩ (.int .i64 (oft rcv:Nat))).cell? ⟨gm,i*5+4,none⟩=some (.int .i64 m.til):=by
    have inh:Inhabited Ms:=⟨⟨0,⟨#[]⟩,⟨#[]⟩,0,0⟩⟩;have hr2:=hq1.m;rw[hvm']at hr2;have e0:mk.length=(mk.set i {m with rcv:=(oft rcv:Nat)}).length:=by simp
    rw[e0]at hr2;have h1:=own_cells Ms.row 5 (fun _=>rfl) hr2 i (by simpa using hil) 4 (.int .i64 m.til) (by
     show (Ms.row ((mk.set i {m with rcv:=(oft rcv:Nat)})[i]!))[4]?=_
     rw[List.getElem!_eq_getElem?_getD,List.getElem?_set_self hil];rfl)
    simpa using h1
   have f3:wr.frozen? ⟨gm,i*5+3,none⟩=false:=World.ownsRow.frozenAt hmrow _;have f4:(wr.setCell ⟨gm,i*5+3,none⟩ (.int .i64 (oft rcv:Nat))).frozen? ⟨gm,i*5+4,none⟩=false:=by
    have hr2:=hq1.m;rw[hvm']at hr2;have e0:mk.length=(mk.set i {m with rcv:=(oft rcv:Nat)}).length:=by simp
    rw[e0]at hr2;exact World.ownsRow.frozenAt hr2 _
   have d6:(wr.setCell ⟨gm,i*5+3,none⟩ (.int .i64 (oft rcv:Nat))).cell? ⟨ga+1,0,none⟩=some (.int .i64 til):=cell_of_one (hf1.keep _ _ _ hcp.hgu (by decide));clear hqr hcp htc hq1 ht1 hf1 hq2 ht2 hf2 hmrow hmk hok;go_wp2_with (go_at_call 166;refine(HOF.out _).mono ?_;rintro e w' ⟨rfl,h'⟩;have h'':=h'.symm;subst h'');go_roundw
   case rel=>exact⟨k+1,by omega,by go_num,HN.out⟩
   case measure=>simp[intOf];omega
  ·have hke:cnt=k:=by omega
   subst hke;have hmall:(hdsL Q cnt).take cnt=hdsL Q cnt:=List.take_of_length_le (by omega);rw[hmall]at hqr;generalize hMS:flyAll til Q.ms (hdsL Q cnt)=MS at hqr;have HMS:Hid (flyAll til Q.ms (hdsL Q cnt)=MS):=hMS;have HQR:Hid (QR wr qb V {Q with ms:=MS}):=hqr;have hrr:=hqr.r;rw[hvr]at hrr;have HRB:Hid (∃C,wr.heap[gr0]?=some (.cells C 9 (0,0))):=by
    rcases hrr.2 with ⟨e,_⟩|⟨g',cap',cur,e,_,hr,_⟩
    ·simp at e
    ·simp at e;obtain⟨e1,_⟩:=e;subst e1;exact⟨_,hr⟩
   have HDL:Hid (Calls Tryz.prog 167 #[.slice (some ⟨gr0,0,none⟩) Q.rs.length cr,.int .i64 0,.int .i64 (cnt:Int)] wr.drew fun e w'=>e=.returned (.slice (some ⟨gr0,0,none⟩) (Q.rs.length-cnt) cr)/\w'.ownsRow 0 9 1 (.slice (some ⟨gr0,0,none⟩) (Q.rs.length-cnt) cr) (Q.rs.length-cnt) ((Q.rs.drop cnt).map Value.string)/\Tch [gr0] wr.drew w'):=delete_ready Q.rs gr0 cr cnt wr.drew hrr hcl;have e0:wr.cell? ⟨g0,0,none⟩=some (.pointer (some ⟨qb,0,none⟩)):=cell_of_one hcp.hgq;have ec:wr.cell? ⟨gc,0,none⟩=some (.int .i64 (cnt:Int)):=cell_of_one hcp.hgc;have e8:wr.cell? ⟨qb,8,none⟩=some (.slice (some ⟨gr0,0,none⟩) Q.rs.length cr):=by rw[<-hvr];exact cell_qC hqr.blk 8 _ rfl
   clear hqr hcp htc hrr hmall c0;go_wp2_with fail;refine wp_region_noPanic ?_;refine wp_region_held_drew (S:=(fun w'=>w'.cell? ⟨g0,0,none⟩=some (.pointer (some ⟨qb,0,none⟩))/\w'.cell? ⟨gc,0,none⟩=some (.int .i64 (cnt:Int)))) (by kernel_rfl) (by go_keep) (fun hHeld=>?_);refine zK 0 (h:=?_);refine zK 1 (h:=?_);refine zK 2 (h:=?_);refine zK 3 (h:=?_);refine zK 5 (h:=?_)
   try simp only[Act.put,List.setIfInBounds_toArray,List.set_cons_zero,List.set_cons_succ]
   refine wpAnyH_ready (rs:=[4]) (by kernel_rfl) (by simp) ?_;refine AllReadyH.cons rfl (fun K' hK'=>?_) AllReadyH.nil;go_simp;refine hK'.out _ _ (by go_keep) (fun hHeld=>?_);clear hK' K'
   try simp only[Act.put,List.setIfInBounds_toArray,List.set_cons_zero,List.set_cons_succ]
   refine wpAnyH_ready (rs:=[6]) (by kernel_rfl) (by simp) ?_;refine AllReadyH.cons rfl (fun K' hK'=>?_) AllReadyH.nil;go_simp;refine HDL.out.mono ?_;rintro e w7 ⟨rfl,ho7,ht7⟩;have hf7:Fr 0 [9] wr w7:=(Fr.of_nil [9] (Tch.refl [] wr).drew (Nat.zero_le _)).trans (Fr.of_tch ht7 (Nat.zero_le _) (fun _ _=>Nat.zero_le _) (fun b hb C t hC=>by
    simp at hb;subst hb;obtain⟨C',hC'⟩:=HRB.out;have hC2:wr.heap[b]?=some (.cells C t (0,0)):=hC;rw[hC']at hC2;simp at hC2;rw[<-hC2.2];decide))
   have hq7:Qb w7 qb Q.c (Q.next:Int) V.m (.slice (some ⟨gr0,0,none⟩) Q.rs.length cr) V.d V.a:=hf7.keep _ _ _ (by rw[<-hvr];exact HQR.out.blk) (by decide);have s0:w7.cell? ⟨g0,0,none⟩=some (.pointer (some ⟨qb,0,none⟩)):=cell_of_one (hf7.keep _ _ _ HCP.out.hgq (by decide));have s1:w7.cell? ⟨gc,0,none⟩=some (.int .i64 (cnt:Int)):=cell_of_one (hf7.keep _ _ _ HCP.out.hgc (by decide));have s8:w7.cell? ⟨qb,8,none⟩=some (.slice (some ⟨gr0,0,none⟩) Q.rs.length cr):=cell_qC hq7 8 _ rfl;have z8:=hq7.fz 8;have H7:Hid (Fr 0 [9] wr w7/\Qb w7 qb Q.c (Q.next:Int) V.m (.slice (some ⟨gr0,0,none⟩) Q.rs.length cr) V.d V.a/\w7.ownsRow 0 9 1 (.slice (some ⟨gr0,0,none⟩) (Q.rs.length-cnt) cr) (Q.rs.length-cnt) ((Q.rs.drop cnt).map Value.string)/\Tch [gr0] wr w7):=⟨hf7,hq7,ho7,((Tch.refl [gr0] wr).drew).trans ht7 (fun _ h _=>h)⟩;clear ho7 ht7 hf7 hq7;go_wp2_with fail;refine hK'.out _ _ (by go_keep) (fun hHeld=>?_);clear hK' K'
   try simp only[Act.put,List.setIfInBounds_toArray,List.set_cons_zero,List.set_cons_succ]
   refine zK 7 (h:=?_);refine zK 8 (h:=?_)
   try simp only[Act.put,List.setIfInBounds_toArray,List.set_cons_zero,List.set_cons_succ]
   refine wpAnyH_ready (rs:=[9]) (by kernel_rfl) (by simp) ?_;refine AllReadyH.cons rfl (fun K' hK'=>?_) AllReadyH.nil;go_simp;have co:∀b o,b≠qb->(w7.setCell ⟨qb,8,none⟩ (.slice (some ⟨gr0,0,none⟩) (Q.rs.length-cnt) cr)).cell? ⟨b,o,none⟩=w7.cell? ⟨b,o,none⟩:=fun b o hne=>World.cell?_of_block (a:=⟨b,o,none⟩) (heap_setCell_other _ _ _ _ (show b≠qb from hne))
   refine hK'.out _ _ ⟨(co _ _ y0).trans s0,(co _ _ y1).trans s1⟩ (fun hHeld=>?_);clear hK' K'
   try simp only[Act.put,List.setIfInBounds_toArray,List.set_cons_zero,List.set_cons_succ]
   refine wpAnyH_done (by kernel_rfl) ?_ _;refine NoPanic.normal ?_;have H8:Hid (QR (w7.setCell ⟨qb,8,none⟩ (.slice (some ⟨gr0,0,none⟩) (Q.rs.length-cnt) cr)) qb ⟨V.m,.slice (some ⟨gr0,0,none⟩) (Q.rs.length-cnt) cr,V.d,V.a⟩ {Q with ms:=MS,rs:=Q.rs.drop cnt}/\Cap (w7.setCell ⟨qb,8,none⟩ (.slice (some ⟨gr0,0,none⟩) (Q.rs.length-cnt) cr)) qb CC cnt g0 gc ga base til (hdsL Q cnt) av ans/\Tch (qbl qb V) w (w7.setCell ⟨qb,8,none⟩ (.slice (some ⟨gr0,0,none⟩) (Q.rs.length-cnt) cr))):=by
    have hq7:=H7.out.2.1;have t8:Tch [qb] w7 (w7.setCell ⟨qb,8,none⟩ (.slice (some ⟨gr0,0,none⟩) (Q.rs.length-cnt) cr)):=(Tch.refl _ _).setCell (fun _=>by simp) _;have f8:Fr 0 [137] w7 (w7.setCell ⟨qb,8,none⟩ (.slice (some ⟨gr0,0,none⟩) (Q.rs.length-cnt) cr)):=Fr.one t8 (Nat.zero_le _) (Nat.zero_le _) hq7 (by decide);have h0:=HQR.out;refine⟨⟨hq7.set8 _,f8.own (H7.out.1.own h0.m (by decide)) (by decide),?_,f8.own (H7.out.1.own h0.d (by decide)) (by decide),f8.own (H7.out.1.own h0.a (by decide)) (by decide)⟩,(HCP.out.keep H7.out.1 (by decide)).keep f8 (by decide),?_⟩
    ·have h5:=f8.own H7.out.2.2.1 (by decide);have e5:(Q.rs.drop cnt).length=Q.rs.length-cnt:=by simp
     show World.ownsRow _ 0 9 1 _ (Q.rs.drop cnt).length ((Q.rs.drop cnt).map Value.string)
     rw[e5];exact h5
    ·refine(((HTC.out.sub (S':=qbl qb V) (fun x hx _=>?_)).trans H7.out.2.2.2 (fun x hx _=>?_))).trans t8 (fun x hx _=>?_)
     ·simp at hx;subst hx;exact mem_qbl.2 (.inr (.inl (by rw[hvm];rfl)))
     ·simp at hx;subst hx;exact mem_qbl.2 (.inr (.inr (.inl (by rw[hvr];rfl))))
     ·simp at hx;exact mem_qbl.2 (.inl hx)
   clear co s0 s1 s8 z8 e0 ec e8 HDL HRB H7;generalize hw8:w7.setCell ⟨qb,8,none⟩ (.slice (some ⟨gr0,0,none⟩) (Q.rs.length-cnt) cr)=w8 at*
   have r1:w8.cell? ⟨g0+1,12,none⟩=some (.string att):=cell_qC H8.out.2.1.hgr 12 _ hatt;have r2:w8.cell? ⟨ga+1,0,none⟩=some (.int .i64 til):=cell_of_one H8.out.2.1.hgu;have r3:w8.cell? ⟨ga,0,none⟩=some av:=cell_of_one H8.out.2.1.hga;have hstr:=OwnB.str H8.out.2.1.own han;have HRM:Hid (Calls Tryz.prog 168 #[.pointer (some ⟨qb,0,none⟩),.agg #[.string att,.int .i64 til,.string ⟨ans.toArray⟩]] w8 fun e w'=>e=.returned (.tuple #[])/\QL w8 w' qb ⟨V.m,.slice (some ⟨gr0,0,none⟩) (Q.rs.length-cnt) cr,V.d,V.a⟩ (remG {Q with ms:=MS,rs:=Q.rs.drop cnt} ⟨att,til,⟨ans.toArray⟩⟩)):=rememberG_any _ _ ⟨att,til,⟨ans.toArray⟩⟩ qb w8 H8.out.1 hna;clear hw8;go_wp2_with fail;refine HRM.out.mono ?_;rintro e w9 ⟨rfl,V9,hq9,ht9,hn9⟩;have HF:Hid (QL w w9 qb V (recvG Q att cnt til ans)):=by
    have hsub:∀x,x∈qbl qb ⟨V.m,.slice (some ⟨gr0,0,none⟩) (Q.rs.length-cnt) cr,V.d,V.a⟩->x∈qbl qb V:=fun x hx=>by
     rcases mem_qbl.1 hx with e|e|e|e|e
     ·exact mem_qbl.2 (.inl e)
     ·exact mem_qbl.2 (.inr (.inl e))
     ·exact mem_qbl.2 (.inr (.inr (.inl (by rw[hvr];exact e))))
     ·exact mem_qbl.2 (.inr (.inr (.inr (.inl e))))
     ·exact mem_qbl.2 (.inr (.inr (.inr (.inr e))))
    refine⟨V9,?_,H8.out.2.2.trans ht9 (fun x hx _=>hsub x hx),fun b hb=>?_⟩
    ·unfold recvG;rw[HMS.out];exact hq9
    ·rcases hn9 b hb with h1|h1
     ·exact .inl (hsub b h1)
     ·exact .inr (Nat.le_trans H8.out.2.2.size h1)
   clear hq9 ht9 hn9;go_wp2_with fail;go_end0;exact⟨rfl,HF.out⟩
theorem MsG.ok {nx:Nat}{m:Ms}(h:MsG nx m)(hn:nx<=201):MsOk m:=⟨by have:=h.num;omega,h.rcv,by have:=h.grp;omega,by have:=h.bod;omega⟩
theorem QW.mso (h:QW i Q):∀m∈Q.ms,MsOk m:=fun m hm=>(h.mok m hm).ok h.nx.2
theorem QW.giv (h:QW i Q)(g:ByteArray):(givM Q g).length<=58:=by
 unfold givM
 split
 ·rename_i m hm
  have h1:=h.mok m (List.mem_of_getElem? hm);rw[givB_len];have:=h1.grp;have:=h1.bod;omega
 ·simp
theorem QW.ans (h:QW i Q)(cnt:Nat)(hc:cnt<=10):(ansL Q cnt cnt).length<=600:=by
 unfold ansL;rw[List.length_append,lowB_length];have h1:=flt_len (givM Q) 58 (Q.rs.take cnt) (fun g _=>h.giv g);rw[List.length_take]at h1;omega
theorem QW.rem (h:QW i Q)(a:At)(h1:a.id.size<=8)(h2:0<a.ans.size/\a.ans.size<=600)(h3:0<=a.til/\a.til<=62000):QW i (remG Q a):=by
 unfold remG
 split
 ·exact h
 ·rename_i hz
  have hal:=h.al;have hok:∀x∈Q.ats++[a],(1<=x.id.size/\x.id.size<=8)/\(0<x.ans.size/\x.ans.size<=600)/\0<=x.til/\x.til<=62000:=fun x hx=>by
   rcases List.mem_append.1 hx with hx|hx
   ·exact h.aok x hx
   ·simp at hx;subst hx;exact⟨⟨by omega,h1⟩,h2,h3⟩
  refine {c:=h.c,nx:=h.nx,mq:=h.mq,nums:=h.nums,mok:=h.mok,hd:=h.hd,rn:=h.rn,rr:=h.rr,dn:=h.dn,dok:=h.dok,al:=?_,aok:=fun x hx=>?_}
  ·show (if Q.ats.length<20 then Q.ats++[a] else (Q.ats++[a]).eraseIdx 0).length<=20
   split
   ·simp;omega
   ·rw[List.length_eraseIdx_of_lt (by simp)];simp;omega
  ·have hx':=hx
   split at hx'
   ·exact hok x hx'
   ·exact hok x (List.mem_of_mem_eraseIdx hx')
def recvC (c:Nat->Option QM)(i:Nat)(Q:QM)(att:ByteArray)(cnt:Nat)(now:Int):Nat->Option QM:=if cnt=0 then c else setC c i (some (recvG Q att cnt (now+Q.c.vis) (ansL Q cnt cnt)))
theorem op_R (B:Nat)(r:Wp.Rq)(x:Gh B)(st b i mx cnt:Nat)(now:Int)(c:Nat->Option QM)(col:Nat->Nat)(w:World)(hE:Env B w)(hb:Sk B w x st b now c col)(hop:r.op=82)(hi:i<8)(hq:r.q.toNat=97+i)(Q:QM)(hQ:c i=some Q)(hid:idxL (isA r.att) Q.ats<0)(has:r.att.size<=8)(hmx:r.mx=(mx:Nat))(hm1:1<=mx/\mx<=10)(hcnt:cnt=if mx<=Q.rs.length then mx else Q.rs.length)
  (Z:Nat->Option BQ)(o:Option ByteArray)(room:Int)(hs:SG B w st b now Z col)(hc:ctZ Z=c)(W:World)(y:Sl)(ht:Tch [] w W):
  Calls Tryz.prog 30 #[.pointer (some ⟨st,0,none⟩),.agg (cellsOf r y.v)] W fun e w'=>Tch [] W w'/\PlG B ((recvC c i Q r.att cnt now)=c) (fun w'=>x.JO w col w') (fun t w'=>t=okL (ansL Q cnt cnt)/\Sd B x st b w col now (recvC c i Q r.att cnt now) w') e w':=by
 have hQ':ctZ Z i=some Q:=by rw[hc];exact hQ
 obtain⟨z,hz,hzq⟩:=ctZ_get hQ';have hW:=hb.wf i Q hi hQ;have hnw:=hb.nw;have hvis:=hW.c.vis;have hcl:cnt<=Q.rs.length/\cnt<=10:=by split at hcnt<;>omega
 have hrl:=hW.rl;have hml:=hW.ml;refine plan_w B _ _ r y st b 17 160 (b+2) now _ W (by rw[hop];rfl) (by decide) (hs.tch ht).stb rfl eg207 ?_;intro W1 ht1;have tW:=ht.trans ht1 (by simp);have hsW:=hs.tch tW;refine within_g B _ _ r y st b i 123 (b+2) z.qb now _ W1 hq hi hsW.stb (by show ptrV (ptZ Z i)=_;unfold ptZ;rw[hz];rfl) (hsW.tb 2 123 (by decide)) eg163 ?_;intro W2 ht2;have tW2:=tW.trans ht2 (by simp);have hqr:∀{W'},Tch [] w W'->QR W' z.qb z.V Q:=fun {W'} h=>by rw[<-hzq];exact(hs.tch h).qr i z hi hz
 refine(receive_some Q z.V r y z.qb now W2 (hqr tW2) (by have:=hW.al;omega) (by omega) hid mx cnt hmx hm1 hcnt hnw ⟨by omega,by omega⟩ (by omega) (fun g hg=>hW.hidx hg) hW.mso).mono ?_;rintro e w' ⟨gc,ga,base,av,⟨h0,rfl,hown,ht'⟩|⟨h0,rfl,hrc,hg1,hg2,hg3⟩⟩
 ·refine⟨ht',.inr ⟨av,.nilFunc,ansL Q cnt cnt,rfl,.inr ⟨ansL_pos Q cnt cnt,by have:=hW.ans cnt hcl.2;omega,Rdb.of_own hown (ansL_pos Q cnt cnt)⟩,fun w2 ht2=>.inl ⟨rfl,if_pos h0,fun w3 ht3=>⟨rfl,?_⟩⟩⟩⟩
  have t3:=((tW2.trans ht' (by simp)).trans ht2 (by simp)).trans ht3 (by simp);unfold recvC;rw[if_pos h0];exact did_same hb hE.size t3
 ·refine⟨hrc.tch,.inr ⟨av,_,ansL Q cnt cnt,rfl,.inr ⟨ansL_pos Q cnt cnt,by have:=hW.ans cnt hcl.2;omega,Rdb.of_own hrc.own (ansL_pos Q cnt cnt)⟩,fun w1 ht1=>.inr ⟨165,_,rfl,eg212,fun w2 w3 ht2 hf3 hj3=>?_⟩⟩⟩
  have t2:=((tW2.trans hrc.tch (by simp)).trans ht1 (by simp)).trans ht2 (by simp);have hs3:=hs.lay t2 hf3;have hz2:=t2.size;have hz3:=hf3.size;have hcp:=(hrc.tch0 (ht1.trans ht2 (by simp))).cap.keep hf3 (by decide);refine(recvdG_any Q z.V (cellsOf r y.v) r.att z.qb cnt W2.heap.size gc ga base (now+Q.c.vis) av (ansL Q cnt cnt) w3 (by rw[<-hzq];exact hs3.qr i z hi hz) hcp rfl ⟨h0,by omega⟩ hcl.1 (fun g hg=>hW.hidx hg) hW.mso (by omega) hW.al (ansL_pos Q cnt cnt)).mono ?_;rintro e w4 ⟨rfl,hl⟩;have hsn:=hs3.updn (by have:=hE.size;omega) hi hz hl;rw[hc]at hsn;unfold recvC;rw[if_neg (by omega)];refine⟨rfl,rfl,did_n hE.size t2 hf3 hb.fut hj3 hsn (hb.wf.set ?_) hnw⟩;exact QW.rem (hW.recv hcl.1 ⟨by omega,by omega⟩) _ has ⟨by show 0<(ansL Q cnt cnt).toArray.size;simpa using ansL_pos Q cnt cnt,by show (ansL Q cnt cnt).toArray.size<=600;simpa using hW.ans cnt hcl.2⟩ ⟨by show (0:Int)<=now+Q.c.vis;omega,by show now+Q.c.vis<=62000;omega⟩
theorem op_S (B:Nat)(r:Wp.Rq)(x:Gh B)(st b i:Nat)(now:Int)(c:Nat->Option QM)(col:Nat->Nat)(w:World)(hE:Env B w)(hb:Sk B w x st b now c col)(hop:r.op=83)(hi:i<8)(hq:r.q.toNat=97+i)(Q:QM)(hQ:c i=some Q)(hid:idxL (isI (didS r)) Q.ds<0)(hbod:r.bod.size<=40)(hgrp:1<=r.grp.size/\r.grp.size<=8)(hdd:r.ded.size<=8)(hquo:(Q.ms.length:Int)<Q.c.quo)(hk:Q.next<=200)
  (Z:Nat->Option BQ)(o:Option ByteArray)(room:Int)(hs:SG B w st b now Z col)(hc:ctZ Z=c)(W:World)(y:Sl)(ht:Tch [] w W):
  Calls Tryz.prog 30 #[.pointer (some ⟨st,0,none⟩),.agg (cellsOf r y.v)] W fun e w'=>Tch [] W w'/\PlG B ((setC c i (some (sendQ Q r now)))=c) (fun w'=>x.JO w col w') (fun t w'=>t=okL (lowB Q.next 4)/\Sd B x st b w col now (setC c i (some (sendQ Q r now))) w') e w':=by
 have hQ':ctZ Z i=some Q:=by rw[hc];exact hQ
 obtain⟨z,hz,hzq⟩:=ctZ_get hQ';have hW:=hb.wf i Q hi hQ;have hnw:=hb.nw;have hwin:=hW.c.win;have hrl:=hW.rl;have hml:=hW.ml;have hdl:=hW.dl;have hids:(didS r).size<=8:=by
  unfold didS
  split
  ·show (0::lowB _ 4).toArray.size<=8
   simp[lowB_length]
  ·exact hdd
 refine plan_w B _ _ r y st b 18 160 (b+3) now _ W (by rw[hop];rfl) (by decide) (hs.tch ht).stb rfl eg207 ?_;intro W1 ht1;have tW:=ht.trans ht1 (by simp);have hsW:=hs.tch tW;refine within_g B _ _ r y st b i 124 (b+3) z.qb now _ W1 hq hi hsW.stb (by show ptrV (ptZ Z i)=_;unfold ptZ;rw[hz];rfl) (hsW.tb 3 124 (by decide)) eg164 ?_;intro W2 ht2;have tW2:=tW.trans ht2 (by simp);have hqW:QR W2 z.qb z.V Q:=by rw[<-hzq];exact(hs.tch tW2).qr i z hi hz
 obtain⟨am,cm,hvm⟩:=own_shape hqW.m;have hbk:=hqW.blk;rw[hvm]at hbk;have hz2:=tW2.size;have hE3:=hE.three;have hES:=hE.size;refine(sendg_new Q.c r y z.qb Q.next Q.ms.length cm am Q.ds now z.V.r z.V.d z.V.a W2 hbk hbod (hE.tab.tch tW2 (by simp) (by omega)) (by omega) hqW.d (by omega) hid hquo hk).mono ?_;rintro e w' ⟨av,gi,rfl,hown,hb',b0,bi,b1,b2⟩;have t1:=Tch.of_below hb';refine⟨t1,.inr ⟨av,_,lowB Q.next 4,rfl,.inr ⟨by rw[lowB_length];omega,by rw[lowB_length];omega,Rdb.of_own hown (by rw[lowB_length];omega)⟩,fun w1 ht1=>.inr ⟨171,_,rfl,eg158,fun w2 w3 ht2 hf3 hj3=>?_⟩⟩⟩
 have t2:=((tW2.trans t1 (by simp)).trans ht1 (by simp)).trans ht2 (by simp);have hs3:=hs.lay t2 hf3;have hzz2:=t2.size;have hzz3:=hf3.size;have kp:∀(j:Nat) (C:Array Value) (t:TypeId),w'.heap[j]?=some (.cells C t (0,0))->t∉TJ->w3.heap[j]?=some (.cells C t (0,0)):=fun j C t hj hT=>hf3.keep j C t (((ht1.trans ht2 (by simp)).block j (lt_of_block hj) (by simp)).trans hj) hT
 refine(sent_q Q z.V r y z.qb W2.heap.size gi (W2.heap.size+1) (W2.heap.size+2) now w3 (by rw[<-hzq];exact hs3.qr i z hi hz) (by omega) (by omega) (by omega) hk ⟨by omega,by omega⟩ hnw (kp _ _ _ b0 (by decide)) (kp _ _ _ bi (by decide)) (kp _ _ _ b1 (by decide)) (kp _ _ _ b2 (by decide))).mono ?_;rintro e w4 ⟨rfl,hl⟩;have hsn:=hs3.updn (by omega) hi hz hl;rw[hc]at hsn;exact⟨rfl,rfl,did_n hE.size t2 hf3 hb.fut hj3 hsn (hb.wf.set (hW.send hquo hk hgrp hbod hids hnw)) hnw⟩
def HanIs (s:ByteArray)(i num rcv:Nat):Prop:=∃h8:s.size=8,s[0]=72/\isLet s[1]=true/\s[1].toNat=97+i/\leN (tk (s.extract 2 8) 4).data.toList=num/\leN (tk (lf (s.extract 2 8) 4) 2).data.toList=rcv
theorem find_sg (B:Nat)(s:ByteArray)(st b i num rcv:Nat)(now:Int)(Z:Nat->Option BQ)(col:Nat->Nat)(w:World)(hE:Env B w)(hh:HanIs s i num rcv)(hi:i<8)(hs:SG B w st b now Z col)(x:BQ)(hx:Z i=some x)(hl:x.Q.ms.length<=1000):
  zT 147 #[.pointer (some ⟨st,0,none⟩),.string s] w (.tuple #[if fliesQ x.Q num rcv=true then .pointer (some ⟨x.qb,0,none⟩) else .pointer none,.int .i64 (if fliesQ x.Q num rcv=true then (num:Int) else 0),.int .i64 (if fliesQ x.Q num rcv=true then 0 else 8)]):=by
 obtain⟨h8,h0,h1,h2,h3,h4⟩:=hh;have hrd:=read_yes B s w hE.lays hE.size h8 h0 h1;rw[h3,h4]at hrd;refine find_fl (fliesQ x.Q num rcv) st x.qb s ((s[1].toNat:Nat):Int) num rcv w ⟨hrd,fun W ht=>?_⟩ (fun W ht=>?_)
 ·have h5:=at_g st b i now _ W (hs.tch ht).stb hi;have e:((s[1].toNat:Nat):Int)=97+(i:Int):=by rw[h2];omega
  rw[e];have e2:ptrV (ptZ Z i)=.pointer (some ⟨x.qb,0,none⟩):=by unfold ptZ;rw[hx];rfl
  rw[e2]at h5;exact h5
 ·exact flies_any x.Q x.V x.qb s[1] num rcv W ((hs.tch ht).qr i x hi hx) hl
theorem flies_get {num rcv:Int}(h:fliesQ Q num rcv=true):∃m,Q.ms.find? (isN num)=some m/\0<m.til/\m.rcv=rcv:=by
 unfold fliesQ at h
 cases hf:Q.ms.find? (isN num) with
 | none=>rw[hf]at h;simp at h
 | some m=>
  rw[hf]at h;simp at h;exact⟨m,rfl,h.1,h.2⟩
theorem op_A (B:Nat)(r:Wp.Rq)(x:Gh B)(st b i num rcv:Nat)(now:Int)(c:Nat->Option QM)(col:Nat->Nat)(w:World)(hE:Env B w)(hb:Sk B w x st b now c col)(hop:r.op=65)(hi:i<8)(hh:HanIs r.han i num rcv)(Q:QM)(hQ:c i=some Q)(hfl:fliesQ Q num rcv=true)
  (Z:Nat->Option BQ)(o:Option ByteArray)(room:Int)(hs:SG B w st b now Z col)(hc:ctZ Z=c)(W:World)(y:Sl)(ht:Tch [] w W):
  Calls Tryz.prog 30 #[.pointer (some ⟨st,0,none⟩),.agg (cellsOf r y.v)] W fun e w'=>Tch [] W w'/\PlG B ((setC c i (some (dropQ Q num)))=c) (fun w'=>x.JO w col w') (fun t w'=>t=okL []/\Sd B x st b w col now (setC c i (some (dropQ Q num))) w') e w':=by
 have hQ':ctZ Z i=some Q:=by rw[hc];exact hQ
 obtain⟨z,hz,hzq⟩:=ctZ_get hQ';have hW:=hb.wf i Q hi hQ;have hrl:=hW.rl;have hml:=hW.ml;obtain⟨m,hf,hft,hfr⟩:=flies_get hfl;refine plan_p B _ _ r y st b 0 117 now _ W (by rw[hop];rfl) (by decide) (hs.tch ht).stb rfl eg157 ?_;intro W1 ht1;have tW:=ht.trans ht1 (by simp);refine(ack_ok (num:Int) z.qb r y st W1 (fun W2 ht2=>?_)).mono ?_
 ·have tW2:=tW.trans ht2 (by simp);have h1:=find_sg B r.han st b i num rcv now Z col W2 (hE.tch tW2 (by simp)) hh hi (hs.tch tW2) z hz (by rw[hzq];omega);rw[hzq,hfl]at h1;exact h1
 ·rintro e w1 ⟨gq,gn,rfl,ht2,hgq,hgn⟩;refine⟨ht2,.inr ⟨_,_,[],rfl,.inl ⟨rfl,rfl⟩,fun w2 ht3=>.inr ⟨148,_,rfl,eg195,fun w3 w4 ht4 hf4 hJ4=>?_⟩⟩⟩
  have t23:=ht3.trans ht4 (by simp);have t3:=(tW.trans ht2 (by simp)).trans t23 (by simp);have hs4:=hs.lay t3 hf4;have hz3:=t3.size;have hz4:=hf4.size;have kgq:=hf4.keep _ _ _ ((t23.block _ (lt_of_block hgq) (by simp)).trans hgq) (by decide);have kgn:=hf4.keep _ _ _ ((t23.block _ (lt_of_block hgn) (by simp)).trans hgn) (by decide);obtain⟨p,hp,_⟩:=find_idx hf;refine ackd_walk _ (num:Int) z.qb gq gn w4 kgq kgn ((drop_any Q z.V z.qb num w4 (by rw[<-hzq];exact hs4.qr i z hi hz) (by omega) (by omega) (by rw[hp];omega)).mono ?_);rintro e w5 ⟨rfl,hl⟩;have hsn:=hs4.updn (by have:=hE.size;omega) hi hz hl;rw[hc]at hsn;exact⟨rfl,rfl,did_n hE.size t3 hf4 hb.fut hJ4 hsn (hb.wf.set (hW.drop hf hft)) hb.nw⟩
theorem send_full (c r:Wp.Rq)(y:Sl)(qb k nm cm:Nat)(am:Option Addr)(ds:List Dd)(now:Int)(rs vd at_:Value)(w:World)
  (hq:w.heap[qb]?=some (.cells (qC c (k:Int) (.slice am nm cm) rs vd at_) 137 (0,0)))(hbod:r.bod.size<=40)(hT:Tab w)(h2:2<w.heap.size)
  (ho:w.ownsRow 0 195 3 vd ds.length (ds.flatMap Dd.row))(hl:ds.length<=1000)(hid:idxL (isI (didS r)) ds<0)(d:Int)(hd:c.quo<=(nm:Int)/\d=5\/((nm:Int)<c.quo/\200<k)/\d=6)(hk:k<=1000):
  zT 124 #[.pointer (some ⟨qb,0,none⟩),.int .i64 now,.agg (cellsOf r y.v)] w (.tuple #[.slice none 0 0,.nilFunc,.int .i64 d]):=by
 have hlt:=lt_of_block hq;have HQ:=zH hq;have HID:Hid (∀W,Below w.heap.size w W->zB 169 #[.agg (cellsOf r y.v)] W (.string (didS r))):=fun W hb=>dedupID_any r y W (Nat.le_trans hbod (by decide)) (hT.below hb h2) (by have:=hb.size;omega)
 rw[zM r y]at HID;have hbz:¬(40:Int)<(r.bod.size:Int):=by omega
 have HD:=zH hd;have HOW:=zH ho;have hge:=idxL_ge (isI (didS r)) ds;have HII:Hid (idxL (isI (didS r)) ds=-1):=by show _=_;omega
 clear hq hT ho hid hge hd;generalize didS r=id at*
 rw[zM r y];go_enter Tryz.func124,Tryz.ntmps124;go_wp2_with fail;refine(HID.out _ (((((Below.refl _ _).alloc (Nat.le_refl _) _).alloc (by simp) _)).alloc (by simp;omega) _)).mono ?_;rintro e w4 ⟨rfl,hb4⟩;have t4:Tch [] w w4:=(sbox_tch w qb now #[.int .u8 (r.op.toNat:Int),.int .u8 (r.q.toNat:Int),.int .u8 (r.d.toNat:Int),.int .i64 r.vis,.int .i64 r.win,.int .i64 r.rcv,.int .i64 r.quo,.int .i64 r.mx,.int .i64 r.tic,.string r.grp,.string r.ded,.string r.bod,.string r.att,.string r.han,.slice y.a y.n y.c]).trans (Tch.of_below hb4) (by simp);have hb4':Below (sbox w qb now #[.int .u8 (r.op.toNat:Int),.int .u8 (r.q.toNat:Int),.int .u8 (r.d.toNat:Int),.int .i64 r.vis,.int .i64 r.win,.int .i64 r.rcv,.int .i64 r.quo,.int .i64 r.mx,.int .i64 r.tic,.string r.grp,.string r.ded,.string r.bod,.string r.att,.string r.han,.slice y.a y.n y.c]).heap.size (sbox w qb now #[.int .u8 (r.op.toNat:Int),.int .u8 (r.q.toNat:Int),.int .u8 (r.d.toNat:Int),.int .i64 r.vis,.int .i64 r.win,.int .i64 r.rcv,.int .i64 r.quo,.int .i64 r.mx,.int .i64 r.tic,.string r.grp,.string r.ded,.string r.bod,.string r.att,.string r.han,.slice y.a y.n y.c]) w4:=hb4;rw[sbox_size]at hb4';have z4:w.heap.size+3<=w4.heap.size:=by have:=hb4'.size;rw[sbox_size]at this;exact this
 have B0:=(hb4'.block _ (by omega)).trans (sbox_0 w qb now #[.int .u8 (r.op.toNat:Int),.int .u8 (r.q.toNat:Int),.int .u8 (r.d.toNat:Int),.int .i64 r.vis,.int .i64 r.win,.int .i64 r.rcv,.int .i64 r.quo,.int .i64 r.mx,.int .i64 r.tic,.string r.grp,.string r.ded,.string r.bod,.string r.att,.string r.han,.slice y.a y.n y.c]);have HB1:=zH ((hb4'.block _ (by omega)).trans (sbox_1 w qb now #[.int .u8 (r.op.toNat:Int),.int .u8 (r.q.toNat:Int),.int .u8 (r.d.toNat:Int),.int .i64 r.vis,.int .i64 r.win,.int .i64 r.rcv,.int .i64 r.quo,.int .i64 r.mx,.int .i64 r.tic,.string r.grp,.string r.ded,.string r.bod,.string r.att,.string r.han,.slice y.a y.n y.c]));have HB2:=zH ((hb4'.block _ (by omega)).trans (sbox_2 w qb now #[.int .u8 (r.op.toNat:Int),.int .u8 (r.q.toNat:Int),.int .u8 (r.d.toNat:Int),.int .i64 r.vis,.int .i64 r.win,.int .i64 r.rcv,.int .i64 r.quo,.int .i64 r.mx,.int .i64 r.tic,.string r.grp,.string r.ded,.string r.bod,.string r.att,.string r.han,.slice y.a y.n y.c]));have k0:=cell_of_one B0;have HB0:=zH B0;have hn0:w.heap.size<w4.heap.size:=by omega
 have hq4:(w4.alloc (.cells #[.string id] 9)).heap[qb]?=some (.cells (qC c (k:Int) (.slice am nm cm) rs vd at_) 137 (0,0)):=(Below.heap_alloc _ _ _ (by omega)).trans ((t4.block _ hlt (by simp)).trans HQ.out);have HF:Hid (zB 170 #[.pointer (some ⟨qb,0,none⟩),.string id] (w4.alloc (.cells #[.string id] 9)) (.int .i64 (-1))):=by
  have h:=findDedup_gen id qb _ ds (w4.alloc (.cells #[.string id] 9)) (cell_qC hq4 9 _ rfl) (own_tch HOW.out (t4.alloc _) (fun _ _=>by simp)) (by omega);rw[HII.out]at h;exact h
 have HQ4:=zH hq4;have T4:=zH t4;clear hb4 hb4' hq4 t4 B0;go_wp2_with fail;refine HF.out.mono ?_;rintro e w6 ⟨rfl,hb6⟩;have t6:Tch [] w w6:=(T4.out.alloc _).trans (Tch.of_below hb6) (by simp);have z6:=hb6.size;rw[World.size_alloc]at z6;have BL:∀i o,i<w4.heap.size->w4.heap[i]?=some o->w6.heap[i]?=some o:=fun i o hi ho=>(hb6.block i (by simp;omega)).trans ((Below.heap_alloc _ _ _ hi).trans ho)
 have HC0:Hid (w6.heap[w.heap.size]?=_):=BL _ _ hn0 HB0.out;have hq6:=(hb6.block qb (by simp;omega)).trans HQ4.out;have k6:w6.cell? ⟨w.heap.size,0,none⟩=some (.pointer (some ⟨qb,0,none⟩)):=cell_of_one HC0.out;have q5:w6.cell? ⟨qb,5,none⟩=some (.int .i64 c.quo):=cell_qC hq6 5 _ rfl;have q6:w6.cell? ⟨qb,6,none⟩=some (.int .i64 (k:Int)):=cell_qC hq6 6 _ rfl;have q7:w6.cell? ⟨qb,7,none⟩=some (.slice am nm cm):=cell_qC hq6 7 _ rfl;have T6:=zH t6;have z6':=zH z6;clear hb6 t6 k0 hq6 BL;rcases HD.out with ⟨hquo,rfl⟩|⟨⟨h1,h3⟩,rfl⟩
 ·clear HD;go_wp2_with fail;go_quiet (fail);go_wp2_with fail;go_ret3;exact⟨rfl,T6.out.drewN _⟩
 ·have hquo':¬c.quo<=(nm:Int):=by omega
  have hk':(200:Int)<(k:Int):=by omega
  clear HD h1 h3;go_wp2_with fail;go_quiet (fail);go_wp2_with fail;go_ret3;exact⟨rfl,T6.out.drewN _⟩
theorem send_quota (c r:Wp.Rq)(y:Sl)(qb k nm cm:Nat)(am:Option Addr)(ds:List Dd)(now:Int)(rs vd at_:Value)(w:World)
  (hq:w.heap[qb]?=some (.cells (qC c (k:Int) (.slice am nm cm) rs vd at_) 137 (0,0)))(hbod:r.bod.size<=40)(hT:Tab w)(h2:2<w.heap.size)
  (ho:w.ownsRow 0 195 3 vd ds.length (ds.flatMap Dd.row))(hl:ds.length<=1000)(hid:idxL (isI (didS r)) ds<0)(hquo:c.quo<=(nm:Int))(hk:k<=1000):
  zT 124 #[.pointer (some ⟨qb,0,none⟩),.int .i64 now,.agg (cellsOf r y.v)] w (.tuple #[.slice none 0 0,.nilFunc,.int .i64 5]):=
 send_full c r y qb k nm cm am ds now rs vd at_ w hq hbod hT h2 ho hl hid 5 (Or.inl ⟨hquo,rfl⟩) hk
theorem send_seq (c r:Wp.Rq)(y:Sl)(qb k nm cm:Nat)(am:Option Addr)(ds:List Dd)(now:Int)(rs vd at_:Value)(w:World)
  (hq:w.heap[qb]?=some (.cells (qC c (k:Int) (.slice am nm cm) rs vd at_) 137 (0,0)))(hbod:r.bod.size<=40)(hT:Tab w)(h2:2<w.heap.size)
  (ho:w.ownsRow 0 195 3 vd ds.length (ds.flatMap Dd.row))(hl:ds.length<=1000)(hid:idxL (isI (didS r)) ds<0)(hquo:(nm:Int)<c.quo)(hk:200<k/\k<=1000):
  zT 124 #[.pointer (some ⟨qb,0,none⟩),.int .i64 now,.agg (cellsOf r y.v)] w (.tuple #[.slice none 0 0,.nilFunc,.int .i64 6]):=
 send_full c r y qb k nm cm am ds now rs vd at_ w hq hbod hT h2 ho hl hid 6 (Or.inr ⟨⟨hquo,hk.1⟩,rfl⟩) hk.2
theorem send_body (r:Wp.Rq)(y:Sl)(qb:Nat)(now:Int)(w:World)(hbod:40<r.bod.size)(hb2:r.bod.size<=1000000):
  zT 124 #[.pointer (some ⟨qb,0,none⟩),.int .i64 now,.agg (cellsOf r y.v)] w (.tuple #[.slice none 0 0,.nilFunc,.int .i64 4]):=by
 have hbz:(40:Int)<(r.bod.size:Int):=by omega
 have HT:Hid (∀a b c,Tch [] w (((w.alloc a).alloc b).alloc c)):=fun a b c=>(((Tch.refl _ _).alloc _).alloc _).alloc _
 rw[zM r y];go_enter Tryz.func124,Tryz.ntmps124;go_wp2_with fail;go_ret3;exact⟨rfl,HT.out _ _ _⟩
theorem with_no (r:Wp.Rq)(y:Sl)(st:Nat)(bx:Value)(w:World)
  (hA:∀W,Tch [] w W->zE 153 #[.pointer (some ⟨st,0,none⟩),.int .u8 (r.q.toNat:Int)] W (.pointer none)):
  zT 160 #[.pointer (some ⟨st,0,none⟩),.agg (cellsOf r y.v),bx] w (.tuple #[.slice none 0 0,.nilFunc,.int .i64 2]):=by
 rw[zM r y];have HT:Hid (Tch [] w (w.alloc (.cells #[.int .u8 (r.op.toNat:Int),.int .u8 (r.q.toNat:Int),.int .u8 (r.d.toNat:Int),.int .i64 r.vis,.int .i64 r.win,.int .i64 r.rcv,.int .i64 r.quo,.int .i64 r.mx,.int .i64 r.tic,.string r.grp,.string r.ded,.string r.bod,.string r.att,.string r.han,.slice y.a y.n y.c] 24))):=(Tch.refl _ _).alloc _;have HA:Hid (Calls Tryz.prog 153 #[.pointer (some ⟨st,0,none⟩),.int .u8 (r.q.toNat:Int)] (w.alloc (.cells #[.int .u8 (r.op.toNat:Int),.int .u8 (r.q.toNat:Int),.int .u8 (r.d.toNat:Int),.int .i64 r.vis,.int .i64 r.win,.int .i64 r.rcv,.int .i64 r.quo,.int .i64 r.mx,.int .i64 r.tic,.string r.grp,.string r.ded,.string r.bod,.string r.att,.string r.han,.slice y.a y.n y.c] 24)) _):=hA _ HT.out;clear hA;go_enter Tryz.func160,Tryz.ntmps160;go_wp2_with fail;refine HA.out.mono ?_;rintro e w' ⟨rfl,h'⟩;have h'':=h'.symm;subst h'';go_wp2_with fail;go_ret3;exact⟨rfl,HT.out⟩
def TicBox (w:World)(gr:Nat)(tic:Int):Prop:=∃C:Array Value,w.heap[gr]?=some (.cells C 24 (0,0))/\C[8]?=some (.int .i64 tic)
theorem TicBox.cell {w:World}{gr:Nat}{tic:Int}(h:TicBox w gr tic):w.cell? ⟨gr,8,none⟩=some (.int .i64 tic):=by
 obtain⟨C,h1,h2⟩:=h;exact cell_qC h1 8 _ h2
theorem ext_no (er:Int)(her:er=7\/er=8)(r:Wp.Rq)(y:Sl)(st:Nat)(w:World)
  (hF:∀W,Tch [] w W->zT 147 #[.pointer (some ⟨st,0,none⟩),.string r.han] W (.tuple #[.pointer none,.int .i64 0,.int .i64 er])):
  zT 120 #[.pointer (some ⟨st,0,none⟩),.agg (cellsOf r y.v)] w (.tuple #[.slice none 0 0,.nilFunc,.int .i64 er]):=by
 have HF:=zH hF;have hne:(er != 0)=true:=by rcases her with rfl|rfl<;>rfl
 clear hF;rw[zM r y];go_enter Tryz.func120,Tryz.ntmps120;go_wp2_with fail;refine(HF.out _ (((Tch.refl _ _).alloc _).alloc _)).mono ?_;rintro e w1 ⟨rfl,ht1⟩;have HT:Hid (Tch [] w w1):=(((Tch.refl [] w).alloc _).alloc _).trans ht1 (by simp);clear ht1 HF;go_wp2_with fail;go_ret3;exact⟨rfl,(HT.out.alloc _).alloc _⟩
theorem ext_ok (num:Int)(qb:Nat)(r:Wp.Rq)(y:Sl)(st:Nat)(w:World)
  (hF:∀W,Tch [] w W->zT 147 #[.pointer (some ⟨st,0,none⟩),.string r.han] W (.tuple #[.pointer (some ⟨qb,0,none⟩),.int .i64 num,.int .i64 0])):
  Calls Tryz.prog 120 #[.pointer (some ⟨st,0,none⟩),.agg (cellsOf r y.v)] w fun e w'=>∃gs gr gq gn,(e=.returned (.tuple #[.slice none 0 0,if r.tic=0 then .func (.func 155) #[] #[.pointer (some ⟨gq,0,none⟩),.pointer (some ⟨gn,0,none⟩),.pointer (some ⟨gs,0,none⟩)] else .func (.func 158) #[] #[.pointer (some ⟨gq,0,none⟩),.pointer (some ⟨gn,0,none⟩),.pointer (some ⟨gs,0,none⟩),.pointer (some ⟨gr,0,none⟩)],.int .i64 0]))/\Tch [] w w'/\w'.heap[gq]?=some (.cells #[.pointer (some ⟨qb,0,none⟩)] 88 (0,0))/\w'.heap[gn]?=some (.cells #[.int .i64 num] 3 (0,0))/\w'.heap[gs]?=some (.cells #[.pointer (some ⟨st,0,none⟩)] 57 (0,0))/\TicBox w' gr r.tic:=by
 have HF:=zH hF;clear hF;rw[zM r y];obtain⟨wb,hwb⟩:∃wb,wb=(w.alloc (.cells #[.pointer (some ⟨st,0,none⟩)] 57)).alloc (.cells #[.int .u8 (r.op.toNat:Int),.int .u8 (r.q.toNat:Int),.int .u8 (r.d.toNat:Int),.int .i64 r.vis,.int .i64 r.win,.int .i64 r.rcv,.int .i64 r.quo,.int .i64 r.mx,.int .i64 r.tic,.string r.grp,.string r.ded,.string r.bod,.string r.att,.string r.han,.slice y.a y.n y.c] 24):=⟨_,rfl⟩;have t1:Tch [] w wb:=by rw[hwb];exact((Tch.refl _ _).alloc _).alloc _
 have h1:wb.heap[w.heap.size]?=some (.cells #[.pointer (some ⟨st,0,none⟩)] 57 (0,0)):=by rw[hwb];exact heap_alloc2_old _ _ _
 have h2:wb.heap[w.heap.size+1]?=some (.cells #[.int .u8 (r.op.toNat:Int),.int .u8 (r.q.toNat:Int),.int .u8 (r.d.toNat:Int),.int .i64 r.vis,.int .i64 r.win,.int .i64 r.rcv,.int .i64 r.quo,.int .i64 r.mx,.int .i64 r.tic,.string r.grp,.string r.ded,.string r.bod,.string r.att,.string r.han,.slice y.a y.n y.c] 24 (0,0)):=by rw[hwb];exact heap_alloc2_new _ _ _
 have e1:=cell_of_one h1;have e8:wb.cell? ⟨w.heap.size+1,8,none⟩=some (.int .i64 r.tic):=cell_qC h2 8 _ rfl;have e13:wb.cell? ⟨w.heap.size+1,13,none⟩=some (.string r.han):=cell_qC h2 13 _ rfl;have l1:=lt_of_block h1;have l2:=lt_of_block h2;have H1:=zH h1;have T1:=zH t1;have H2:Hid (TicBox wb (w.heap.size+1) r.tic):=⟨_,h2,rfl⟩;have HF1:=zH (HF.out wb t1);clear h1 h2 t1 HF;go_enter Tryz.func120,Tryz.ntmps120
 go_upto_region 1 with fail
 rw[<-hwb];clear hwb;go_wp2_with fail;refine HF1.out.mono ?_;rintro e w1 ⟨rfl,ht1⟩;have HT:=zH (T1.out.trans ht1 (by simp));have H1':=zH ((ht1.block _ l1 (by simp)).trans H1.out);have q8:=(ht1.cell (a:=⟨w.heap.size+1,8,none⟩) l2 (by simp)).trans e8;have l3:w.heap.size+1<w1.heap.size:=by have:=ht1.size;omega
 have H2':Hid (TicBox w1 (w.heap.size+1) r.tic):=by
  obtain⟨C,k1,k2⟩:=H2.out;exact⟨C,(ht1.block _ l2 (by simp)).trans k1,k2⟩
 clear ht1 HF1 H1 H2 e1 e8 e13 l1 l2 T1;obtain⟨w2,hw2⟩:∃w2,w2=(w1.alloc (.cells #[.pointer (some ⟨qb,0,none⟩)] 88)).alloc (.cells #[.int .i64 num] 3):=⟨_,rfl⟩;have p8:w2.cell? ⟨w.heap.size+1,8,none⟩=some (.int .i64 r.tic):=by rw[hw2];exact Lib.cell?_alloc_some _ (Lib.cell?_alloc_some _ q8)
 have HFI:Hid (Tch [] w w2/\w2.heap[w1.heap.size]?=some (.cells #[.pointer (some ⟨qb,0,none⟩)] 88 (0,0))/\w2.heap[w1.heap.size+1]?=some (.cells #[.int .i64 num] 3 (0,0))/\w2.heap[w.heap.size]?=some (.cells #[.pointer (some ⟨st,0,none⟩)] 57 (0,0))/\TicBox w2 (w.heap.size+1) r.tic):=by
  refine⟨by rw[hw2];exact(HT.out.alloc _).alloc _,by rw[hw2];exact heap_alloc2_old _ _ _,by rw[hw2];exact heap_alloc2_new _ _ _,?_,?_⟩
  ·rw[hw2];exact(Below.heap_alloc _ _ _ (by simp;omega)).trans ((Below.heap_alloc _ _ _ (by omega)).trans H1'.out)
  ·obtain⟨C,k1,k2⟩:=H2'.out;exact⟨C,by rw[hw2];exact(Below.heap_alloc _ _ _ (by simp;omega)).trans ((Below.heap_alloc _ _ _ (by omega)).trans k1),k2⟩
 clear HT H1' H2' q8
 go_upto_region 2 with fail
 rw[<-hw2];clear hw2
 by_cases ht0:r.tic=0
 ·rw[ht0]at p8 HFI;go_wp2_with fail;go_ret3;exact⟨w.heap.size,w.heap.size+1,w1.heap.size,w1.heap.size+1,rfl,HFI.out⟩
 ·have hb:(r.tic == 0)=false:=by simpa using ht0
  go_wp2_with fail;go_ret3;exact⟨w.heap.size,w.heap.size+1,w1.heap.size,w1.heap.size+1,rfl,HFI.out⟩
theorem extB_walk (K:World->Prop)(dv:Value)(num:Int)(st qb gq gn gs:Nat)(w:World)(hq:w.heap[gq]?=some (.cells #[.pointer (some ⟨qb,0,none⟩)] 88 (0,0)))(hn:w.heap[gn]?=some (.cells #[.int .i64 num] 3 (0,0)))(hs:w.heap[gs]?=some (.cells #[.pointer (some ⟨st,0,none⟩)] 57 (0,0)))
  (hD:∀n,Calls Tryz.prog 157 #[.pointer (some ⟨st,0,none⟩),.pointer (some ⟨qb,0,none⟩)] (w.drewN n) fun e w'=>e=.returned dv/\w'=w.drewN n)
  (hB:∀n,Calls Tryz.prog 156 #[.pointer (some ⟨qb,0,none⟩),.int .i64 num,dv] (w.drewN n) fun e w'=>e=.returned (.tuple #[])/\K w'/\∃S,Tch S w w'/\gq∉S/\gn∉S/\gs∉S):
  Calls Tryz.prog 155 #[.pointer (some ⟨gq,0,none⟩),.pointer (some ⟨gn,0,none⟩),.pointer (some ⟨gs,0,none⟩)] w fun e w'=>e=.returned (.tuple #[])/\K w':=by
 have c0:=cell_of_one hq;have c1:=cell_of_one hn;have c2:=cell_of_one hs;have l0:=lt_of_block hq;have l1:=lt_of_block hn;have l2:=lt_of_block hs;have HD:=zH (hD 1);have HB:=zH (hB 1);clear hD hB hq hn hs;go_enter Tryz.func155,Tryz.ntmps155
 go_region_held3 (fun w'=>w'.cell? ⟨gq,0,none⟩=some (.pointer (some ⟨qb,0,none⟩))/\w'.cell? ⟨gn,0,none⟩=some (.int .i64 num)/\w'.cell? ⟨gs,0,none⟩=some (.pointer (some ⟨st,0,none⟩))) (go_keep) (first|(go_at_call 157;refine HD.out.mono ?_;rintro e w1 ⟨rfl,h9⟩;have h8:=h9.symm;subst h8)|(go_at_call 156;refine HB.out.mono ?_;rintro e w2 ⟨rfl,hk,S,hS,s0,s1,s2⟩;have HK:Hid (K w2):=hk;have d0:w2.cell? ⟨gq,0,none⟩=some (.pointer (some ⟨qb,0,none⟩)):=(hS.cell (a:=⟨gq,0,none⟩) l0 s0).trans c0;have d1:w2.cell? ⟨gn,0,none⟩=some (.int .i64 num):=(hS.cell (a:=⟨gn,0,none⟩) l1 s1).trans c1;have d2:w2.cell? ⟨gs,0,none⟩=some (.pointer (some ⟨st,0,none⟩)):=(hS.cell (a:=⟨gs,0,none⟩) l2 s2).trans c2;clear hk hS s0 s1 s2))
 all_goals (go_wp2_with fail;go_end0;exact⟨rfl,HK.out⟩)
theorem extT_walk (K:World->Prop)(num now tic:Int)(st qb gq gn gs gr:Nat)(w:World)(hq:w.heap[gq]?=some (.cells #[.pointer (some ⟨qb,0,none⟩)] 88 (0,0)))(hn:w.heap[gn]?=some (.cells #[.int .i64 num] 3 (0,0)))(hs:w.heap[gs]?=some (.cells #[.pointer (some ⟨st,0,none⟩)] 57 (0,0)))(hr:TicBox w gr tic)(c0:w.cell? ⟨st,0,none⟩=some (.int .i64 now))(hb:0<=now+tic/\now+tic<=1000000)
  (hB:∀n,Calls Tryz.prog 159 #[.pointer (some ⟨qb,0,none⟩),.int .i64 num,.int .i64 (now+tic)] (w.drewN n) fun e w'=>e=.returned (.tuple #[])/\K w'/\∃S,Tch S w w'/\gq∉S/\gn∉S/\gs∉S/\gr∉S/\st∉S):
  Calls Tryz.prog 158 #[.pointer (some ⟨gq,0,none⟩),.pointer (some ⟨gn,0,none⟩),.pointer (some ⟨gs,0,none⟩),.pointer (some ⟨gr,0,none⟩)] w fun e w'=>e=.returned (.tuple #[])/\K w':=by
 have a0:=cell_of_one hq;have a1:=cell_of_one hn;have a2:=cell_of_one hs;have a3:=hr.cell;have l0:=lt_of_block hq;have l1:=lt_of_block hn;have l2:=lt_of_block hs;have l3:gr<w.heap.size:=World.block_lt_of_cell? _ _ a3;have l4:st<w.heap.size:=World.block_lt_of_cell? _ _ c0;have hwr:IntKind.i64.wrap (now+tic)=now+tic:=by rw[IntKind.wrap_i64];omega
 have HB:=zH (hB 1);clear hB hq hn hs hr;go_enter Tryz.func158,Tryz.ntmps158
 go_region_held3 (fun w'=>w'.cell? ⟨gq,0,none⟩=some (.pointer (some ⟨qb,0,none⟩))/\w'.cell? ⟨gn,0,none⟩=some (.int .i64 num)/\w'.cell? ⟨gs,0,none⟩=some (.pointer (some ⟨st,0,none⟩))/\w'.cell? ⟨gr,8,none⟩=some (.int .i64 tic)/\w'.cell? ⟨st,0,none⟩=some (.int .i64 now)) (go_keep) (first|(go_at_call 159;refine HB.out.mono ?_;rintro e w2 ⟨rfl,hk,S,hS,s0,s1,s2,s3,s4⟩;have HK:Hid (K w2):=hk;have d0:w2.cell? ⟨gq,0,none⟩=some (.pointer (some ⟨qb,0,none⟩)):=(hS.cell (a:=⟨gq,0,none⟩) l0 s0).trans a0;have d1:w2.cell? ⟨gn,0,none⟩=some (.int .i64 num):=(hS.cell (a:=⟨gn,0,none⟩) l1 s1).trans a1;have d2:w2.cell? ⟨gs,0,none⟩=some (.pointer (some ⟨st,0,none⟩)):=(hS.cell (a:=⟨gs,0,none⟩) l2 s2).trans a2;have d3:w2.cell? ⟨gr,8,none⟩=some (.int .i64 tic):=(hS.cell (a:=⟨gr,8,none⟩) l3 s3).trans a3;have d4:w2.cell? ⟨st,0,none⟩=some (.int .i64 now):=(hS.cell (a:=⟨st,0,none⟩) l4 s4).trans c0;clear hk hS s0 s1 s2 s3 s4))
 all_goals (go_wp2_with fail;go_end0;exact⟨rfl,HK.out⟩)
end Go.Proofs.YtbdobaapadlcjabGreatDoor
