import Derived.Test.YtbdobaapadlcjabGreatDoorSx16
set_option maxRecDepth 8000
set_option maxHeartbeats 4000000
set_option linter.unusedVariables false
set_option linter.unusedSimpArgs false
namespace Go.Proofs.YtbdobaapadlcjabGreatDoor
open Go.RowKit
def putL (T:QM)(l:List Ms):QM:=l.foldl (fun T m=>putQ T m.grp m.bod) T
theorem putL_snoc (T:QM)(l:List Ms)(m:Ms):putL T (l++[m])=putQ (putL T l) m.grp m.bod:=by simp[putL,List.foldl_append]
theorem putL_next (T:QM)(l:List Ms):(putL T l).next=T.next+l.length:=by
 unfold putL
 induction l generalizing T with
 | nil=>rfl
 | cons m l ih=>rw[List.foldl_cons,ih,List.length_cons];show T.next+1+l.length=_;omega
theorem putL_len (T:QM)(l:List Ms):(putL T l).ms.length=T.ms.length+l.length:=by
 unfold putL
 induction l generalizing T with
 | nil=>rfl
 | cons m l ih=>
  rw[List.foldl_cons,ih,List.length_cons]
  show (T.ms++_).length+l.length=_
  rw[List.length_append,List.length_singleton];omega
theorem putL_rs (T:QM)(l:List Ms):(putL T l).rs.length<=T.rs.length+l.length:=by
 unfold putL
 induction l generalizing T with
 | nil=>exact Nat.le_refl _
 | cons m l ih=>
  rw[List.foldl_cons,List.length_cons];have h1:=ih (putQ T m.grp m.bod);have h2:(putQ T m.grp m.bod).rs.length<=T.rs.length+1:=by
   show (if _ then T.rs++[m.grp] else T.rs).length<=_
   rw[rs_len]
   split<;>omega
  omega
theorem filt_succ (g:ByteArray)(l:List Ms)(j:Nat)(hj:j<l.length):(l.take (j+1)).filter (isG g)=(l.take j).filter (isG g)++if isG g l[j]=true then [l[j]] else []:=by
 rw[List.take_succ_eq_append_getElem hj,List.filter_append];congr 1
 by_cases h:isG g l[j]=true
 ·simp[h]
 ·simp[h]
def Apart (qb:Nat)(V:QV)(qt:Nat)(VT:QV):Prop:=∀k∈qbl qb V,k∉qbl qt VT
theorem move_any (Q T:QM)(V VT:QV)(qb qt:Nat)(gr:ByteArray)(w:World)(h:QR w qb V Q)(hT:QR w qt VT T)(hap:Apart qb V qt VT)(hl:Q.ms.length<=1000)(hm:T.ms.length+cntG gr Q.ms<=1000)(hr:T.rs.length+cntG gr Q.ms<=1000)(hn:T.next+cntG gr Q.ms<=201):
  Calls Tryz.prog 189 #[.pointer (some ⟨qb,0,none⟩),.string gr,.pointer (some ⟨qt,0,none⟩)] w fun e w'=>e=.returned (.tuple #[])/\∃V' VT',QR w' qb V' {Q with ms:=Q.ms.filter (fun x=>!isG gr x)}/\QR w' qt VT' (putL T (Q.ms.filter (isG gr)))/\Tch (qbl qb V++qbl qt VT) w w'/\(∀k∈qbl qb V',k∈qbl qb V)/\(∀k∈qbl qt VT',k∈qbl qt VT\/w.heap.size<=k):=by
 obtain⟨am,cm,hvm⟩:=own_shape h.m;obtain⟨wb,hwb⟩:∃wb,wb=w.alloc (.cells #[.string gr] 9):=⟨_,rfl⟩;have tb:Tch [] w wb:=by rw[hwb];exact(Tch.refl _ _).alloc _
 have HBX:Hid (wb.heap[w.heap.size]?=some (.cells #[.string gr] 9 (0,0))):=by rw[hwb];exact heap_alloc_new _ _
 have c7:w.cell? ⟨qb,7,none⟩=some (.slice am Q.ms.length cm):=by rw[<-hvm];exact cell_qC h.blk 7 _ rfl
 have lq:=h.blk.lt;have zb:wb.heap.size=w.heap.size+1:=by rw[hwb];simp
 have HQ:=zH h;have HT:=zH hT;have HV:=zH hvm;have HAP:=zH hap;have TB:=zH tb;have HLT:=zH h.lt;have HTT:=zH hT.lt;clear h hT hvm tb hap;go_enter Tryz.func189,Tryz.ntmps189;go_wp2_with fail;rw[<-hwb];clear hwb
 go_loopw [13] (fun jv wr=>∃(j:Nat) (VT':QV),j<=Q.ms.length/\jv=.int .i64 (j:Int)/\QS wb wr qt VT VT' (putL T ((Q.ms.take j).filter (isG gr)))/\wr.heap[w.heap.size]?=some (.cells #[.string gr] 9 (0,0))/\QR wr qb V Q) (fun jv _=>Q.ms.length-(intOf jv).toNat)
 case atStart=>exact⟨0,VT,Nat.zero_le _,rfl,(HT.out.tch TB.out (by simp)).qs (Tch.refl _ _),HBX.out,HQ.out.tch TB.out (by simp)⟩
 case round=>
  obtain⟨j,VT',hj,rfl,hqs,hbx,hqr⟩:=hrel;have HQS:=zH hqs;have HBR:Hid (wr.heap[w.heap.size]?=some (.cells #[.string gr] 9 (0,0))):=hbx;have HQR:Hid (QR wr qb V Q):=hqr
  by_cases hlt:j<Q.ms.length
  ·obtain⟨g,c,hv,hg,hc⟩:=hqr.msc j hlt;rw[HV.out]at hv;simp only[Value.slice.injEq,true_and]at hv;obtain⟨rfl,rfl⟩:=hv;have g0:wr.cell? ⟨g,j*5,none⟩=some (.int .i64 Q.ms[j].num):=hc 0 _ rfl;have g1:wr.cell? ⟨g,j*5+1,none⟩=some (.string Q.ms[j].grp):=hc 1 _ rfl;have g2:wr.cell? ⟨g,j*5+2,none⟩=some (.string Q.ms[j].bod):=hc 2 _ rfl;have g3:wr.cell? ⟨g,j*5+3,none⟩=some (.int .i64 Q.ms[j].rcv):=hc 3 _ rfl;have g4:wr.cell? ⟨g,j*5+4,none⟩=some (.int .i64 Q.ms[j].til):=hc 4 _ rfl;have b0:wr.cell? ⟨w.heap.size,0,none⟩=some (.string gr):=cell_of_one hbx;have lb:=lt_of_block hbx;have HC:Hid ((Q.ms.take (j+1)).filter (isG gr)=(Q.ms.take j).filter (isG gr)++if isG gr Q.ms[j]=true then [Q.ms[j]] else []):=filt_succ gr Q.ms j hlt;have hcs:=cntG_succ gr Q.ms j hlt;have hcle:cntG gr (Q.ms.take (j+1))<=cntG gr Q.ms:=by
    unfold cntG;exact(List.Sublist.filter _ (List.take_sublist _ _)).length_le
   have ecn:((Q.ms.take j).filter (isG gr)).length=cntG gr (Q.ms.take j):=rfl;clear hc
   by_cases he:(Q.ms[j].grp.toList == gr.toList)=true
   ·have HE:Hid (isG gr Q.ms[j]=true):=he;rw[if_pos he]at hcs;have hx1:=putL_next T ((Q.ms.take j).filter (isG gr));have hx2:=putL_len T ((Q.ms.take j).filter (isG gr));have hx3:=putL_rs T ((Q.ms.take j).filter (isG gr));rw[ecn]at hx1 hx2 hx3;have HPT:Hid (∀W,Tch [] wr W->Calls Tryz.prog 172 #[.pointer (some ⟨qt,0,none⟩),.string Q.ms[j].grp,.string Q.ms[j].bod] W fun e w'=>e=.returned (.tuple #[])/\(∃VT2,QS wb w' qt VT VT2 (putL T ((Q.ms.take (j+1)).filter (isG gr))))/\w'.heap[w.heap.size]?=some (.cells #[.string gr] 9 (0,0))/\QR w' qb V Q):=fun W hW=>by
     refine(put_q _ VT' qt Q.ms[j].grp Q.ms[j].bod W (HQS.out.qr.tch hW (by simp)) (by rw[hx2];omega) (by omega) (by rw[hx1];omega)).mono ?_;rintro e w' ⟨he2,VT2,hq2,ht2,hn2⟩;refine⟨he2,⟨VT2,?_⟩,?_,?_⟩
     ·rw[HC.out,if_pos HE.out,putL_snoc];exact(HQS.out.trans (HQS.out.qr.qs hW)).trans ⟨hq2,ht2,hn2⟩
     ·have h1:=(hW.block _ (lt_of_block HBR.out) (by simp)).trans HBR.out;refine(ht2.block _ (lt_of_block h1) (fun hm=>?_)).trans h1;rcases HQS.out.new _ hm with h2|h2
      ·have:=HTT.out _ h2;omega
      ·omega
     ·refine(HQR.out.tch hW (by simp)).tch ht2 (fun k hk hm=>?_);rcases HQS.out.new _ hm with h2|h2
      ·exact HAP.out k hk h2
      ·have:=HLT.out k hk;omega
    clear hcs hcle ecn hx1 hx2 hx3 hqs hbx hqr;go_wp2_with fail;refine(HPT.out _ ((Tch.refl [] _).alloc _)).mono ?_;rintro e w2 ⟨rfl,⟨VT2,hqs2⟩,hbx2,hqr2⟩;have HR2:Hid (QS wb w2 qt VT VT2 (putL T ((Q.ms.take (j+1)).filter (isG gr)))/\w2.heap[w.heap.size]?=some (.cells #[.string gr] 9 (0,0))/\QR w2 qb V Q):=⟨hqs2,hbx2,hqr2⟩;clear hqs2 hbx2 hqr2 HPT g0 g1 g2 g3 g4 b0;go_wp2_with fail;go_roundw
    case rel=>exact⟨j+1,VT2,by omega,by go_num,HR2.out.1,HR2.out.2.1,HR2.out.2.2⟩
    case measure=>simp[intOf];omega
   ·have he':(Q.ms[j].grp.toList == gr.toList)=false:=by simpa using he
    have HE:Hid (isG gr Q.ms[j]=false):=he';have HR2:Hid (∀o:Obj,QS wb (wr.alloc o) qt VT VT' (putL T ((Q.ms.take (j+1)).filter (isG gr)))/\(wr.alloc o).heap[w.heap.size]?=some (.cells #[.string gr] 9 (0,0))/\QR (wr.alloc o) qb V Q):=fun o=>by
     have t:Tch [] wr (wr.alloc o):=(Tch.refl _ _).alloc _;refine⟨?_,(t.block _ (lt_of_block HBR.out) (by simp)).trans HBR.out,HQR.out.tch t (by simp)⟩;rw[HC.out,HE.out,if_neg (by decide),List.append_nil];exact HQS.out.trans (HQS.out.qr.qs t)
    clear he hcs hcle ecn hqs hbx hqr;go_wp2_with fail;go_roundw
    case rel=>exact⟨j+1,VT',by omega,by go_num,(HR2.out _).1,(HR2.out _).2.1,(HR2.out _).2.2⟩
    case measure=>simp[intOf];omega
  ·have hje:j=Q.ms.length:=by omega
   subst hje;have HDL:Hid (Calls Tryz.prog 207 #[.slice am Q.ms.length cm,.func (.func 208) #[] #[.pointer (some ⟨w.heap.size,0,none⟩)]] wr fun e w'=>∃v',e=.returned v'/\v'.ownBlock=(Value.slice am Q.ms.length cm).ownBlock/\w'.ownsRow 0 191 5 v' (Q.ms.filter (fun x=>!isG gr x)).length ((Q.ms.filter (fun x=>!isG gr x)).flatMap Ms.row)/\Tch (bl (.slice am Q.ms.length cm)) wr w'):=by
    have h9:=hqr.m;rw[HV.out]at h9;exact delM_any (.slice am Q.ms.length cm) Q.ms gr w.heap.size wr h9 (by omega) hbx
   have k7:wr.cell? ⟨qb,7,none⟩=some (.slice am Q.ms.length cm):=by rw[<-HV.out];exact cell_qC hqr.blk 7 _ rfl
   clear hqs hbx hqr c7;go_wp2_with fail;refine HDL.out.mono ?_;rintro e w2 ⟨v2,rfl,hvb,ho2,ht2⟩;obtain⟨k72,z72,hqs2⟩:=HQR.out.newM (v':=v2) (ms':=Q.ms.filter (fun x=>!isG gr x)) (by rw[HV.out];exact ht2) ho2 (fun k hk=>.inl (by rw[HV.out,<-hvb];exact hk));have HFN:Hid (∃V' VT',QR (w2.setCell ⟨qb,7,none⟩ v2) qb V' {Q with ms:=Q.ms.filter (fun x=>!isG gr x)}/\QR (w2.setCell ⟨qb,7,none⟩ v2) qt VT' (putL T (Q.ms.filter (isG gr)))/\Tch (qbl qb V++qbl qt VT) w (w2.setCell ⟨qb,7,none⟩ v2)/\(∀k∈qbl qb V',k∈qbl qb V)/\(∀k∈qbl qt VT',k∈qbl qt VT\/w.heap.size<=k)):=by
    have hQS:=HQS.out;rw[List.take_length]at hQS;refine⟨_,VT',hqs2.qr,hQS.qr.tch hqs2.tch (fun k hk hm=>?_),((TB.out.sub (by simp)).trans (hQS.tch.sub (fun x hx _=>List.mem_append.2 (.inr hx))) (fun x hx _=>hx)).trans hqs2.tch (fun x hx _=>List.mem_append.2 (.inl hx)),fun k hk=>?_,fun k hk=>?_⟩
    ·rcases hQS.new k hk with h2|h2
     ·exact HAP.out k hm h2
     ·have:=HLT.out k hm;omega
    ·rcases mem_qbl.1 hk with e|e|e|e|e
     ·exact mem_qbl.2 (.inl e)
     ·exact mem_qbl.2 (.inr (.inl (by rw[HV.out,<-hvb];exact e)))
     ·exact mem_qbl.2 (.inr (.inr (.inl e)))
     ·exact mem_qbl.2 (.inr (.inr (.inr (.inl e))))
     ·exact mem_qbl.2 (.inr (.inr (.inr (.inr e))))
    ·rcases hQS.new k hk with h2|h2
     ·exact .inl h2
     ·exact .inr (by omega)
   rw[HV.out]at k72;obtain⟨a2,c2,hv2⟩:=own_shape ho2;subst hv2;clear hqs2 ho2 ht2 hvb HDL k7;go_wp2_with fail;go_end0;exact⟨rfl,HFN.out⟩
def readyQ (Q:QM)(g:ByteArray):QM:={Q with rs:=Q.rs++[g]}
theorem QR.rdy {w:World}{qb:Nat}{V:QV}{Q:QM}(h:QR w qb V Q)(gr:ByteArray)(v':Value)(w9:World)(ho:w9.ownsRow 0 9 1 v' (Q.rs.length+1) (Q.rs.map Value.string++[.string gr]))(hg:(w.drew.alloc (.cells #[.string gr] 9)).grownBy w9 V.r.ownBlock)(hb:v'.ownBlock=V.r.ownBlock\/v'.ownBlock=some (w.drew.alloc (.cells #[.string gr] 9)).heap.size):
  ∃g4 cap4,v'=.slice (some ⟨g4,0,none⟩) (Q.rs.length+1) cap4/\w9.cell? ⟨qb,8,none⟩=some V.r/\w9.frozen? ⟨qb,8,none⟩=false/\QL w (w9.setCell ⟨qb,8,none⟩ v') qb V (readyQ Q gr):=by
 obtain⟨g4,cap4,hv⟩:=own_some ho;have t1:Tch [] w (w.drew.alloc (.cells #[.string gr] 9)):=(Tch.refl _ _).drew.alloc _;obtain⟨k8,z8,hqs⟩:=h.newR (w2:=w9) (v':=v') (rs':=Q.rs++[gr]) ((t1.sub (by simp)).trans (grown_tch hg) (fun x hx _=>hx)) (by simpa using ho) (fun k hk=>by
  rcases hb with e|e
  ·exact .inl (e.symm.trans hk)
  ·rw[hk]at e;injection e with e;have:=t1.size;exact .inr (by omega))
 exact⟨g4,cap4,hv,k8,z8,hqs.ql⟩
theorem back_walk (K:World->Prop)(Q:QM)(V:QV)(qb:Nat)(num:Int)(dv:Value)(w:World)(h:QR w qb V Q)(hl:Q.ms.length<=1000)(hr:Q.rs.length<=1000)(i:Nat)(hi:idxL (isN num) Q.ms=(i:Int))(hil:i<Q.ms.length)
  (hdv:dv=.pointer none\/∃qt,dv=.pointer (some ⟨qt,0,none⟩))
  (hcase:(upQ Q.c Q.ms[i].rcv=false\/dv=.pointer none)/\(∀w',QL w w' qb V (readyQ (tilQ Q num 0) Q.ms[i].grp)->K w')\/
   ∃qt rm,upQ Q.c Q.ms[i].rcv=true/\dv=.pointer (some ⟨qt,0,none⟩)/\
    (∀W,QS w W qb V V (tilQ Q num 0)->zT 187 #[.pointer (some ⟨qt,0,none⟩),.int .i64 (cntG Q.ms[i].grp (tilQ Q num 0).ms:Nat)] W (.bool rm))/\
    (if rm=true then ∀W,QS w W qb V V (tilQ Q num 0)->Calls Tryz.prog 189 #[.pointer (some ⟨qb,0,none⟩),.string Q.ms[i].grp,.pointer (some ⟨qt,0,none⟩)] W fun e w'=>e=.returned (.tuple #[])/\K w' else ∀w',QL w w' qb V (readyQ (tilQ Q num 0) Q.ms[i].grp)->K w')):
  Calls Tryz.prog 156 #[.pointer (some ⟨qb,0,none⟩),.int .i64 num,dv] w fun e w'=>e=.returned (.tuple #[])/\K w':=by
 have hfi:Q.ms.find? (isN num)=some Q.ms[i]:=(idxL_fnd _ _ i hi).2.2;have hdq:tilQ Q num 0={Q with ms:=Q.ms.set i {Q.ms[i] with til:=0}}:=by
  unfold tilQ;rw[hfi,hi];rfl
 obtain⟨g,c,hv,hg,hc⟩:=h.msc i hil;have HF:Hid (Calls Tryz.prog 182 #[.pointer (some ⟨qb,0,none⟩),.int .i64 num] w.drew fun e w'=>e=.returned (.int .i64 (i:Int))/\w'.cell? ⟨qb,7,none⟩=some (.slice (some ⟨g,0,none⟩) Q.ms.length c)/\w'.cell? ⟨g,i*5+4,none⟩=some (.int .i64 Q.ms[i].til)/\w'.frozen? ⟨g,i*5+4,none⟩=false/\g<w'.heap.size/\QS w (w'.setCell ⟨g,i*5+4,none⟩ (.int .i64 0)) qb V V (tilQ Q num 0)):=by
  have h1:=find_gen num qb V.m Q.ms w.drew (cell_qC h.blk 7 _ rfl) (own_tch h.m (Tch.refl [] w).drew (by simp)) (by omega);rw[hi]at h1;refine h1.mono ?_;rintro e w' ⟨he,hb⟩;have t:Tch [] w w':=(Tch.refl [] w).drew.trans (Tch.of_below hb) (by simp);have hq:=h.tch t (by simp);obtain⟨g2,c2,hv2,hg2,hc2⟩:=hq.msc i hil;rw[hv]at hv2;simp only[Value.slice.injEq,Option.some.injEq,Addr.mk.injEq,and_true,true_and]at hv2;obtain⟨rfl,rfl⟩:=hv2;have hs:=hq.setQ hv i 0 hil;refine⟨he,by rw[<-hv];exact cell_qC hq.blk 7 _ rfl,hc2 4 _ rfl,hq.fzM hv _,hg2,?_⟩;rw[hdq];exact(h.qs t).trans hs
 have c7:w.cell? ⟨qb,7,none⟩=some (.slice (some ⟨g,0,none⟩) Q.ms.length c):=by rw[<-hv];exact cell_qC h.blk 7 _ rfl
 have HV:=zH hv;have HCS:=zH hcase;have HI:Hid ((tilQ Q num 0).ms.length=Q.ms.length/\(tilQ Q num 0).rs=Q.rs/\(tilQ Q num 0).c=Q.c/\(tilQ Q num 0).ms[i]?=some {Q.ms[i] with til:=0}):=by
  show _/\_
  rw[hdq];exact⟨by simp,rfl,rfl,by simp[hil]⟩
 clear hi hfi hdq hc h hcase hv;go_enter Tryz.func156,Tryz.ntmps156;go_wp2_with fail
 go_region_held3 (fun w'=>w'.cell? ⟨qb,7,none⟩=some (.slice (some ⟨g,0,none⟩) Q.ms.length c)) (go_keep) (first|(go_at_call 182;refine HF.out.mono ?_;rintro e w1 ⟨rfl,k7,k4,z4,lg,hqs⟩;have HQS:Hid (QS w (w1.setCell ⟨g,i*5+4,none⟩ (.int .i64 0)) qb V V (tilQ Q num 0)):=hqs;clear hqs))
 have hq1:=HQS.out.qr;have hm1:∀j u,(({Q.ms[i] with til:=0}:Ms).row)[j]?=some u->(w1.setCell ⟨g,i*5+4,none⟩ (.int .i64 0)).cell? ⟨g,i*5+j,none⟩=some u:=fun j u hj=>by
  have hil2:i<(tilQ Q num 0).ms.length:=by rw[HI.out.1];exact hil
  obtain⟨g2,c2,hv2,hg2,hc2⟩:=hq1.msc i hil2;rw[HV.out,HI.out.1]at hv2;simp only[Value.slice.injEq,Option.some.injEq,Addr.mk.injEq,and_true,true_and]at hv2;obtain⟨rfl,rfl⟩:=hv2;have e:(tilQ Q num 0).ms[i]={Q.ms[i] with til:=0}:=by
   have:=HI.out.2.2.2;rw[List.getElem?_eq_getElem hil2]at this;exact Option.some.inj this
  refine hc2 j u ?_;rw[e];exact hj
 have hzz:(w1.setCell ⟨g,i*5+4,none⟩ (.int .i64 0)).heap.size=w1.heap.size:=World.size_setCell _ _ _;have m0:(w1.setCell ⟨g,i*5+4,none⟩ (.int .i64 0)).cell? ⟨g,i*5,none⟩=some (.int .i64 Q.ms[i].num):=hm1 0 _ rfl;have m1:(w1.setCell ⟨g,i*5+4,none⟩ (.int .i64 0)).cell? ⟨g,i*5+1,none⟩=some (.string Q.ms[i].grp):=hm1 1 _ rfl;have m2:(w1.setCell ⟨g,i*5+4,none⟩ (.int .i64 0)).cell? ⟨g,i*5+2,none⟩=some (.string Q.ms[i].bod):=hm1 2 _ rfl;have m3:(w1.setCell ⟨g,i*5+4,none⟩ (.int .i64 0)).cell? ⟨g,i*5+3,none⟩=some (.int .i64 Q.ms[i].rcv):=hm1 3 _ rfl;have m4:(w1.setCell ⟨g,i*5+4,none⟩ (.int .i64 0)).cell? ⟨g,i*5+4,none⟩=some (.int .i64 0):=hm1 4 _ rfl;have HGU:Hid (zT 186 #[.pointer (some ⟨qb,0,none⟩),.agg #[.int .i64 Q.ms[i].num,.string Q.ms[i].grp,.string Q.ms[i].bod,.int .i64 Q.ms[i].rcv,.int .i64 0]] (w1.setCell ⟨g,i*5+4,none⟩ (.int .i64 0)) (.bool (upQ Q.c Q.ms[i].rcv))):=by
  have h9:=givesUp_any (tilQ Q num 0) V qb {Q.ms[i] with til:=0} _ hq1;rw[HI.out.2.2.1]at h9;exact h9
 clear hm1 hq1 HF;have HRD:Hid (∀(W:World),QS w W qb V V (tilQ Q num 0)->W.cell? ⟨qb,8,none⟩=some V.r/\W.ownsRow 0 9 1 V.r Q.rs.length (Q.rs.map Value.string)/\∀v' w9,w9.ownsRow 0 9 1 v' (Q.rs.length+1) (Q.rs.map Value.string++[.string Q.ms[i].grp])->(W.drew.alloc (.cells #[.string Q.ms[i].grp] 9)).grownBy w9 V.r.ownBlock->(v'.ownBlock=V.r.ownBlock\/v'.ownBlock=some (W.drew.alloc (.cells #[.string Q.ms[i].grp] 9)).heap.size)->∃g4 cap4,v'=.slice (some ⟨g4,0,none⟩) (Q.rs.length+1) cap4/\w9.cell? ⟨qb,8,none⟩=some V.r/\w9.frozen? ⟨qb,8,none⟩=false/\QL w (w9.setCell ⟨qb,8,none⟩ v') qb V (readyQ (tilQ Q num 0) Q.ms[i].grp)):=fun W hW=>by
  have e8:=HI.out.2.1;refine⟨cell_qC hW.qr.blk 8 _ rfl,by have:=hW.qr.r;rw[e8]at this;exact this,fun v' w9 ho hg hb=>?_⟩
  obtain⟨g4,cap4,h1,h2,h3,V4,h4,h5,h6⟩:=hW.qr.rdy Q.ms[i].grp v' w9 (by rw[e8];exact ho) hg hb;rw[e8]at h1;exact⟨g4,cap4,h1,h2,h3,(hW.trans ⟨h4,h5,h6⟩).ql⟩
 have HCN:Hid (∀W,QS w W qb V V (tilQ Q num 0)->zT 188 #[.pointer (some ⟨qb,0,none⟩),.string Q.ms[i].grp] W (.int .i64 (cntG Q.ms[i].grp (tilQ Q num 0).ms:Nat))):=fun W hW=>count_any (tilQ Q num 0) V qb Q.ms[i].grp W hW.qr (by rw[HI.out.1];exact hl)
 obtain⟨res,HRS⟩:∃res:Bool,Hid ((res=false/\(upQ Q.c Q.ms[i].rcv=false\/dv=.pointer none)/\(∀w',QL w w' qb V (readyQ (tilQ Q num 0) Q.ms[i].grp)->K w'))\/(∃qt,upQ Q.c Q.ms[i].rcv=true/\dv=.pointer (some ⟨qt,0,none⟩)/\
    (∀W,QS w W qb V V (tilQ Q num 0)->zT 187 #[.pointer (some ⟨qt,0,none⟩),.int .i64 (cntG Q.ms[i].grp (tilQ Q num 0).ms:Nat)] W (.bool res))/\
    (if res=true then ∀W,QS w W qb V V (tilQ Q num 0)->Calls Tryz.prog 189 #[.pointer (some ⟨qb,0,none⟩),.string Q.ms[i].grp,.pointer (some ⟨qt,0,none⟩)] W fun e w'=>e=.returned (.tuple #[])/\K w' else ∀w',QL w w' qb V (readyQ (tilQ Q num 0) Q.ms[i].grp)->K w'))):=by
  rcases HCS.out with ⟨hor,hK⟩|⟨qt,rm,hup,hdq,hRM,hK⟩
  ·exact⟨false,.inl ⟨rfl,hor,hK⟩⟩
  ·exact⟨rm,.inr ⟨qt,hup,hdq,hRM,hK⟩⟩
 generalize hgr:Q.ms[i].grp=gr at*
 generalize hwx:w1.setCell ⟨g,i*5+4,none⟩ (.int .i64 0)=wx1 at*
 clear HCS
 go_upto_region 2 with fail
 try rw[hwx]
 clear hwx
 go_cut [36] (fun s wx=>s=.bool res/\QS w wx qb V V (tilQ Q num 0)/\wx.cell? ⟨g,i*5+1,none⟩=some (.string gr))
 case first=>
  go_wp2_with fail;refine HGU.out.mono ?_;rintro e w3 ⟨rfl,ht3⟩;have HQ3:=zH (HQS.out.trans (HQS.out.qr.qs ht3));have n1:w3.cell? ⟨g,i*5+1,none⟩=some (.string gr):=by rw[ht3.cell (a:=⟨g,i*5+1,none⟩) (by rw[hzz];exact lg) (by simp)];exact m1
  have lg3:g<w3.heap.size:=by have:=ht3.size;omega
  rcases HRS.out with ⟨hres,hor,hK⟩|⟨qt,hup,rfl,hRM,hK⟩
  ·subst hres;rcases hor with hup|rfl
   ·rw[hup];clear hK ht3 HRD HCN HGU HRS;go_wp2_with fail;go_meet;exact⟨rfl,HQ3.out,n1⟩
   ·clear hK ht3 HRD HCN HGU HRS
    by_cases hup:upQ Q.c Q.ms[i].rcv=true
    ·rw[hup];go_wp2_with fail;go_meet;exact⟨rfl,HQ3.out,n1⟩
    ·have hup':upQ Q.c Q.ms[i].rcv=false:=by simpa using hup
     rw[hup'];go_wp2_with fail;go_meet;exact⟨rfl,HQ3.out,n1⟩
  ·rw[hup];have HCC:=zH (HCN.out w3 HQ3.out);have HRM:=zH hRM;clear hK ht3 HRD HCN HGU HRS hRM;go_wp2_with fail;refine HCC.out.mono ?_;rintro e w4 ⟨rfl,ht4⟩;have HQ4:=zH (HQ3.out.trans (HQ3.out.qr.qs ht4));have HC4:=zH (HRM.out w4 HQ4.out);have n4:w4.cell? ⟨g,i*5+1,none⟩=some (.string gr):=by rw[ht4.cell (a:=⟨g,i*5+1,none⟩) lg3 (by simp)];exact n1
   have lg4:g<w4.heap.size:=by have:=ht4.size;omega
   clear ht4 HCC HRM n1;go_wp2_with fail;refine HC4.out.mono ?_;rintro e w5 ⟨rfl,ht5⟩;have HQ5:Hid (QS w w5 qb V V (tilQ Q num 0)/\w5.cell? ⟨g,i*5+1,none⟩=some (.string gr)):=⟨HQ4.out.trans (HQ4.out.qr.qs ht5),by rw[ht5.cell (a:=⟨g,i*5+1,none⟩) lg4 (by simp)];exact n4⟩;clear ht5 HC4 n4;go_wp2_with fail;go_meet;exact⟨rfl,HQ5.out⟩
 case rest=>
  obtain⟨rfl,hqs5,n5⟩:=hcut;generalize wc=w5 at*
  have HQ5:=zH hqs5;clear hqs5 m0 m1 m2 m3 m4 HGU HCN;have HTWO:Hid ((res=true/\∃qt,dv=.pointer (some ⟨qt,0,none⟩)/\Calls Tryz.prog 189 #[.pointer (some ⟨qb,0,none⟩),.string gr,.pointer (some ⟨qt,0,none⟩)] w5 fun e w'=>e=.returned (.tuple #[])/\K w')\/(res=false/\∀w',QL w w' qb V (readyQ (tilQ Q num 0) gr)->K w')):=by
   rcases HRS.out with ⟨hres,_,hK⟩|⟨qt,hup,hdq,_,hK⟩
   ·exact .inr ⟨hres,hK⟩
   ·cases res with
    | true=>exact .inl ⟨rfl,qt,hdq,hK w5 HQ5.out⟩
    | false=>exact .inr ⟨rfl,hK⟩
  clear HRS;rcases HTWO.out with ⟨rfl,qt,rfl,hM⟩|⟨rfl,hK⟩
  ·have HM:=zH hM;clear hM HTWO HRD;go_wp2_with fail;refine HM.out.mono ?_;rintro e w6 ⟨rfl,hk6⟩;have HK6:=zH hk6;clear hk6 HM;go_wp2_with fail;refine bodyPost_ret (results_none rfl _ _ _) rfl ?_;exact⟨rfl,HK6.out⟩
  ·have HK:=zH hK;obtain⟨q8,ow8,hfin⟩:=HRD.out w5 HQ5.out;have HOW:=zH ow8;have HFI:=zH hfin;have q8a:(w5.alloc (.cells #[.string gr] 9)).cell? ⟨qb,8,none⟩=some V.r:=Lib.cell?_alloc_some _ q8;clear ow8 hfin HRD hK HTWO;go_wp2_with fail
   go_region_law (refine step_vals rfl (.tmp 48) (.tmp 53) 22 9 rfl Tryz.underlying22 (.string ⟨#[]⟩) 1 16 info9 rfl (by decide) (by decide) V.r Q.rs.length (Q.rs.map Value.string) (by simp[Act.eval,Act.put]) (own_tch HOW.out ((Tch.refl [] _).drew.alloc _) (fun _ _=>by simp)) w5.heap.size [.string gr] 1 (by simp[Act.eval,Act.put]) rfl (by decide) (heap_alloc_new _ _) (by intro u hu;simp at hu;subst hu;rfl) (by omega) ?_;intro v' w9 ho3 hg3 hb3;obtain⟨g4,cap4,hv4,c9,z9,hfin⟩:=HFI.out v' w9 ho3 hg3 hb3;subst hv4;clear ho3 hg3 hb3;have HFI2:Hid (K _):=HK.out _ hfin;clear hfin)
   all_goals (go_wp2_with fail;go_end0;exact⟨rfl,HFI2.out⟩)
end Go.Proofs.YtbdobaapadlcjabGreatDoor
