import Derived.Test.YtbdobaapadlcjaaGreatDoorBy06
set_option maxRecDepth 8000
set_option maxHeartbeats 4000000
set_option linter.unusedVariables false
set_option linter.unusedSimpArgs false
namespace Go.Proofs.YtbdobaapadlcjaaGreatDoor
open Go.RowKit
variable {B n qb:Nat}{T:List TypeId}{S:List Nat}{w w':World}{v:Value}
theorem a6a (K:World->Prop)(c:Wp.Rq)(g bd:ByteArray)(qb k nm nr:Nat)(ms rs0 rs ds at_:Value)(xm xr:List Value)(w W:World)(ht:Tch (qb::bl rs0) w W)
  (hq:Qb W qb c (k:Int) ms rs ds at_)(hm:W.ownsRow 0 226 5 ms nm xm)(hr:W.ownsRow 0 9 1 rs nr xr)
  (hK:∀w' ms' rs',Qb w' qb c ((k+1:Nat):Int) ms' rs' ds at_->w'.ownsRow 0 226 5 ms' (nm+1) (xm++msV k g bd)->w'.ownsRow 0 9 1 rs' nr xr->NewOr w ms ms'->NewOr w rs0 rs'->Tch (qb::(bl ms++bl rs0)) w w'->K w')(hNr:NewOr w rs0 rs)
  (v':Value)(w':World)(ho:w'.ownsRow 0 226 5 v' (nm+1) (xm++msV k g bd))(hg:(W.drew.alloc (.cells (msV k g bd).toArray 226)).grownBy w' ms.ownBlock)(hb:v'.ownBlock=ms.ownBlock\/v'.ownBlock=some (W.drew.alloc (.cells (msV k g bd).toArray 226)).heap.size):
  ∃g4 cap4,v'=.slice (some ⟨g4,0,none⟩) (nm+1) cap4/\w'.cell? ⟨qb,7,none⟩=some ms/\w'.frozen? ⟨qb,7,none⟩=false/\(w'.setCell ⟨qb,7,none⟩ v').cell? ⟨qb,6,none⟩=some (.int .i64 (k:Int))/\(w'.setCell ⟨qb,7,none⟩ v').frozen? ⟨qb,6,none⟩=false/\
   K ((w'.setCell ⟨qb,7,none⟩ v').setCell ⟨qb,6,none⟩ (.int .i64 ((k:Int)+1))):=by
 obtain⟨g4,cap4,hv⟩:=qB ho;have t1:Tch [] W (W.drew.alloc (.cells (msV k g bd).toArray 226)):=(Tch.refl _ _).drew.alloc _;have t2:Tch (bl ms) W w':=(t1.sub (by simp)).trans (kK hg) (fun x hx _=>hx);have hq1:Qb w' qb c (k:Int) ms rs ds at_:=(t2.block _ hq.lt (fun e=>jA hm hq (by decide) (jq.1 e))).trans hq;have hq2:=hq1.set7 v';have t3:Tch [qb] w' ((w'.setCell ⟨qb,7,none⟩ v').setCell ⟨qb,6,none⟩ (.int .i64 ((k:Int)+1))):=((Tch.refl _ _).setCell (fun _=>by simp) _).setCell (fun _=>by simp) _;have hr':w'.ownsRow 0 9 1 rs nr xr:=jf hr t2 (fun j hj hm'=>by
  have e:=jq.1 hm';rcases hr.2 with ⟨rfl,_⟩|⟨g',cap',cur',rfl,_,hg',_⟩
  ·simp[Value.ownBlock]at hj
  ·simp only[Value.ownBlock,Option.some.injEq]at hj;subst hj;exact jA hm hg' (by decide) e)
 refine⟨g4,cap4,hv,jb hq1 7 _ rfl,hq1.fz 7,jb hq2 6 _ rfl,hq2.fz 6,hK _ v' rs (hq2.set6 _) (jf ho t3 (fun j hj hm'=>?_)) (jf hr' t3 (fun j hj hm'=>?_)) (NewOr.of (Nat.le_trans ht.size t1.size) hb) hNr ?_⟩
 ·simp at hm';subst hm';exact jA ho hq1 (by decide) hj
 ·simp at hm';subst hm';exact jA hr' hq1 (by decide) hj
 ·refine((ht.sub (S':=qb::(bl ms++bl rs0)) (fun x hx _=>?_)).trans t2 (fun x hx _=>?_)).trans t3 (fun x hx _=>?_)
  ·rcases List.mem_cons.1 hx with h|h
   ·exact List.mem_cons.2 (.inl h)
   ·exact List.mem_cons.2 (.inr (List.mem_append.2 (.inr h)))
  ·exact List.mem_cons.2 (.inr (List.mem_append.2 (.inl hx)))
  ·exact List.mem_cons.2 (.inl (by simpa using hx))
theorem a1J (K:World->Prop)(c:Wp.Rq)(g bd:ByteArray)(qb k nr:Nat)(ms rs ds at_:Value)(l:List Ms)(xr:List Value)(w:World)
  (hq:Qb w qb c (k:Int) ms rs ds at_)(hm:w.ownsRow 0 226 5 ms l.length (l.flatMap Ms.row))(hr:w.ownsRow 0 9 1 rs nr xr)(hnm:l.length<=1000)(hnr:nr<=1000)(hk:k<=200)
  (hK:∀w' ms' rs',Qb w' qb c ((k+1:Nat):Int) ms' rs' ds at_->w'.ownsRow 0 226 5 ms' (l.length+1) (l.flatMap Ms.row++msV k g bd)->w'.ownsRow 0 9 1 rs' (if jj (isG g) l<0 then nr+1 else nr) (if jj (isG g) l<0 then xr++[.string g] else xr)->NewOr w ms ms'->NewOr w rs rs'->Tch (qb::(bl ms++bl rs)) w w'->K w'):
  Cp 219 #[zp qb,.string g,.string bd] w fun e w'=>e=.returned (.tuple #[])/\K w':=by
 have hlt:=hq.lt;have HQ:=zH hq;have HH:Hid (Cp 210 _ w _):=a2P g qb ms l w (jb hq 7 _ rfl) hm (by omega);generalize jj (isG g) l=z at HH hK;generalize l.flatMap Ms.row=xm at*
 generalize l.length=nm at*
 have HM:=zH hm;have HR:=zH hr;have HK0:=zH hK;clear hq hm hr hK;go_enter Tryz.func219,Tryz.ntmps219;go_wp2_with fail;refine HH.out.mono ?_;rintro e w1 ⟨rfl,hb1⟩;have t1:=Tch.of_below hb1;have hq1:Qb w1 qb c (k:Int) ms rs ds at_:=(t1.block _ hlt (by simp)).trans HQ.out;have HQ1:=zH hq1;have HM1:Hid (w1.ownsRow 0 226 5 ms nm xm):=jf HM.out t1 (fun _ _=>by simp);have HR1:Hid (w1.ownsRow 0 9 1 rs nr xr):=jf HR.out t1 (fun _ _=>by simp);have T1:=zH t1;have hlt1:=hq1.lt;have hK:=HK0.out
 by_cases hz:z<0
 ·simp only[hz,if_true]at hK;have HK:=zH hK;clear hK;have q8:w1.cell? ⟨qb,8,none⟩=some rs:=jb hq1 8 _ rfl;clear hq1 hb1 t1;go_wp2_with (at_builtin;refine a0m _ rfl _ _ 25 9 rfl Tryz.underlying25 (.string ⟨#[]⟩) 1 16 a2T rfl (by decide) (by decide) rs nr xr ?hs ?own w1.heap.size [.string g] 1 ?hx rfl (by decide) ?hg ?one (by omega) ?k)
  case hs=>simp[Act.eval,Act.put]
  case own=>exact jf HR1.out ((Tch.refl [] _).alloc _) (fun _ _=>by simp)
  case hx=>simp[Act.eval,Act.put]
  case hg=>exact heap_alloc_new _ _
  case one=>intro u hu;simp at hu;subst hu;rfl
  intro v2 w2 ho2 hg2 hb2;have t2:Tch (bl rs) w1 w2:=(((Tch.refl [] w1).alloc _).sub (by simp)).trans (kK hg2) (fun x hx _=>hx);have hq2:Qb w2 qb c (k:Int) ms rs ds at_:=(t2.block _ hlt1 (fun e=>jA HR1.out HQ1.out (by decide) (jq.1 e))).trans HQ1.out;obtain⟨g2,cap2,hv2⟩:=qB ho2;subst hv2;have t3:Tch [qb] w2 (w2.setCell ⟨qb,8,none⟩ (.slice (some ⟨g2,0,none⟩) (nr+1) cap2)):=(Tch.refl _ _).setCell (fun _=>by simp) _;have HQ3:Hid (Qb (w2.setCell ⟨qb,8,none⟩ (.slice (some ⟨g2,0,none⟩) (nr+1) cap2)) qb c (k:Int) ms (.slice (some ⟨g2,0,none⟩) (nr+1) cap2) ds at_):=hq2.set8 _;have HM2:w2.ownsRow 0 226 5 ms nm xm:=jf HM1.out t2 (fun j hj hm'=>by
   have e:=jq.1 hm';rcases HM1.out.2 with ⟨rfl,_⟩|⟨g',cap',cur',rfl,_,hg',_⟩
   ·simp[Value.ownBlock]at hj
   ·simp only[Value.ownBlock,Option.some.injEq]at hj;subst hj;exact jA HR1.out hg' (by decide) e)
  have HM3:Hid ((w2.setCell ⟨qb,8,none⟩ (.slice (some ⟨g2,0,none⟩) (nr+1) cap2)).ownsRow 0 226 5 ms nm xm):=jf HM2 t3 (fun j hj hm'=>by
   simp at hm';subst hm';exact jA HM2 hq2 (by decide) hj)
  have HR3:Hid ((w2.setCell ⟨qb,8,none⟩ (.slice (some ⟨g2,0,none⟩) (nr+1) cap2)).ownsRow 0 9 1 (.slice (some ⟨g2,0,none⟩) (nr+1) cap2) (nr+1) (xr++[.string g])):=jf ho2 t3 (fun j hj hm'=>by
   simp at hm';subst hm';exact jA ho2 hq2 (by decide) hj)
  have T3:Hid (Tch (qb::bl rs) w (w2.setCell ⟨qb,8,none⟩ (.slice (some ⟨g2,0,none⟩) (nr+1) cap2))):=((T1.out.sub (by simp)).trans t2 (fun x hx _=>List.mem_cons.2 (.inr hx))).trans t3 (fun x hx _=>List.mem_cons.2 (.inl (by simpa using hx)));have HNR:Hid (NewOr w rs (.slice (some ⟨g2,0,none⟩) (nr+1) cap2)):=fun j hj=>by
   rcases hb2 with h|h
   ·exact .inl (h.symm.trans hj)
   ·rw[hj]at h;injection h with h;have:=T1.out.size;exact .inr (by omega)
  have c8:w2.cell? ⟨qb,8,none⟩=some rs:=jb hq2 8 _ rfl;have z8:=hq2.fz 8;clear ho2 hg2 hb2 t2 hq2 t3 HM2 q8;go_wp2_with fail;generalize hWW:w2.setCell ⟨qb,8,none⟩ (.slice (some ⟨g2,0,none⟩) (nr+1) cap2)=WW at HQ3 HM3 HR3 T3 ⊢;have HQW:Hid (Qb WW qb c (k:Int) ms (.slice (some ⟨g2,0,none⟩) (nr+1) cap2) ds at_):=HQ3;have HMW:Hid (WW.ownsRow 0 226 5 ms nm xm):=HM3;have HRW:Hid (WW.ownsRow 0 9 1 (.slice (some ⟨g2,0,none⟩) (nr+1) cap2) (nr+1) (xr++[.string g])):=HR3;have TW:Hid (Tch (qb::bl rs) w WW):=T3;clear HQ3 HM3 HR3 T3 hWW c8 z8;have q6:WW.cell? ⟨qb,6,none⟩=some (.int .i64 (k:Int)):=jb HQW.out 6 _ rfl;have q7:WW.cell? ⟨qb,7,none⟩=some ms:=jb HQW.out 7 _ rfl;have q7a:(WW.alloc (.cells (msV k g bd).toArray 226)).cell? ⟨qb,7,none⟩=some ms:=Lib.cell?_alloc_some _ q7;have HG:Hid (∀v' w',w'.ownsRow 0 226 5 v' (nm+1) (xm++msV k g bd)->(WW.drew.alloc (.cells (msV k g bd).toArray 226)).grownBy w' ms.ownBlock->(v'.ownBlock=ms.ownBlock\/v'.ownBlock=some (WW.drew.alloc (.cells (msV k g bd).toArray 226)).heap.size)->_):=fun v' w'=>a6a K c g bd qb k nm (nr+1) ms rs (.slice (some ⟨g2,0,none⟩) (nr+1) cap2) ds at_ xm (xr++[.string g]) w WW TW.out HQW.out HMW.out HRW.out HK.out HNR.out v' w'
  go_region_law (refine qu rfl (.tmp 24) (.tmp 32) 187 226 rfl Tryz.underlying187 (.agg #[.int .i64 0,.string ⟨#[]⟩,.string ⟨#[]⟩,.int .i64 0,.int .i64 0]) 5 56 a0u rfl (by decide) (by decide) ms nm xm (by simp[Act.eval,Act.put]) (jf HMW.out ((Tch.refl [] _).drew.alloc _) (fun _ _=>by simp)) WW.heap.size (msV k g bd) 1 (by simp[Act.eval,Act.put]) rfl (by decide) (heap_alloc_new _ _) (by intro u hu;simp at hu;rcases hu with rfl|rfl|rfl|rfl|rfl<;>rfl) (by omega) ?_;intro v' w9 ho3 hg3 hb3;obtain⟨g4,cap4,hv4,c9,z9,c6,z6,hfin⟩:=HG.out v' w9 ho3 hg3 hb3;subst hv4;clear ho3 hg3 hb3;have HFIN:Hid (K _):=hfin;clear hfin)
  all_goals (go_wp2_with fail;go_end0;exact⟨rfl,HFIN.out⟩)
 ·simp only[hz,if_false]at hK;have HK:=zH hK;clear hK hq1 hb1 t1;go_wp2_with fail;have HQW:=zH HQ1;have HMW:=zH HM1;have HRW:=zH HR1;have TW:Hid (Tch (qb::bl rs) w w1):=T1.out.sub (by simp);have HNR:Hid (NewOr w rs rs):=NewOr.refl _ _;have q6:w1.cell? ⟨qb,6,none⟩=some (.int .i64 (k:Int)):=jb HQW.out 6 _ rfl;have q7:w1.cell? ⟨qb,7,none⟩=some ms:=jb HQW.out 7 _ rfl;have q7a:(w1.alloc (.cells (msV k g bd).toArray 226)).cell? ⟨qb,7,none⟩=some ms:=Lib.cell?_alloc_some _ q7;have HG:Hid (∀v' w',w'.ownsRow 0 226 5 v' (nm+1) (xm++msV k g bd)->(w1.drew.alloc (.cells (msV k g bd).toArray 226)).grownBy w' ms.ownBlock->(v'.ownBlock=ms.ownBlock\/v'.ownBlock=some (w1.drew.alloc (.cells (msV k g bd).toArray 226)).heap.size)->_):=fun v' w'=>a6a K c g bd qb k nm nr ms rs rs ds at_ xm xr w w1 TW.out HQW.out HMW.out HRW.out HK.out HNR.out v' w'
  go_region_law (refine qu rfl (.tmp 24) (.tmp 32) 187 226 rfl Tryz.underlying187 (.agg #[.int .i64 0,.string ⟨#[]⟩,.string ⟨#[]⟩,.int .i64 0,.int .i64 0]) 5 56 a0u rfl (by decide) (by decide) ms nm xm (by simp[Act.eval,Act.put]) (jf HMW.out ((Tch.refl [] _).drew.alloc _) (fun _ _=>by simp)) w1.heap.size (msV k g bd) 1 (by simp[Act.eval,Act.put]) rfl (by decide) (heap_alloc_new _ _) (by intro u hu;simp at hu;rcases hu with rfl|rfl|rfl|rfl|rfl<;>rfl) (by omega) ?_;intro v' w9 ho3 hg3 hb3;obtain⟨g4,cap4,hv4,c9,z9,c6,z6,hfin⟩:=HG.out v' w9 ho3 hg3 hb3;subst hv4;clear ho3 hg3 hb3;have HFIN:Hid (K _):=hfin;clear hfin)
  all_goals (go_wp2_with fail;go_end0;exact⟨rfl,HFIN.out⟩)
theorem a9W (K:World->Prop)(c r:Wp.Rq)(y:Sl)(id:ByteArray)(qb k nr nd gq gi gn gr:Nat)(now til:Int)(vd ms rs at_:Value)(l:List Ms)(xr xd:List Value)(w:World)
  (hq:Qb w qb c (k:Int) ms rs vd at_)(hm:w.ownsRow 0 226 5 ms l.length (l.flatMap Ms.row))(hr:w.ownsRow 0 9 1 rs nr xr)(hd:w.ownsRow 0 230 3 vd nd xd)(hnm:l.length<=1000)(hnd:nd<=1000)(hnr:nr<=1000)(hk:k<=200)
  (hgq:w.heap[gq]?=some (.cells #[zp qb] 152 (0,0)))(hgr:w.heap[gr]?=some (.cells (ja r y.v) 27 (0,0)))
  (hgi:w.heap[gi]?=some (.cells #[.string id] 9 (0,0)))(hgn:w.heap[gn]?=some (.cells #[.int .i64 now] 3 (0,0)))
  (hK:∀w' ms' rs' ds',Qb w' qb c ((k+1:Nat):Int) ms' rs' ds' at_->w'.ownsRow 0 226 5 ms' (l.length+1) (l.flatMap Ms.row++msV k r.grp r.bod)->w'.ownsRow 0 9 1 rs' (if jj (isG r.grp) l<0 then nr+1 else nr) (if jj (isG r.grp) l<0 then xr++[.string r.grp] else xr)->w'.ownsRow 0 230 3 ds' (nd+1) (xd++ddV id k til)->NewOr w ms ms'->NewOr w rs rs'->(∀j,ds'.ownBlock=some j->vd.ownBlock=some j\/w.heap.size<=j)->Tch (qb::(bl vd++(bl ms++bl rs))) w w'->K w')
  (v':Value)(w':World)(ho:w'.ownsRow 0 230 3 v' (nd+1) (xd++ddV id k til))(hg:(w.drew.alloc (.cells (ddV id k til).toArray 230)).grownBy w' vd.ownBlock)(hb:v'.ownBlock=vd.ownBlock\/v'.ownBlock=some (w.drew.alloc (.cells (ddV id k til).toArray 230)).heap.size):
  ∃g4 cap4,v'=.slice (some ⟨g4,0,none⟩) (nd+1) cap4/\Sf w' gq gi gn qb id now c.win k/\w'.cell? ⟨qb,9,none⟩=some vd/\
   Sf (w'.setCell ⟨qb,9,none⟩ v') gq gi gn qb id now c.win k/\(w'.setCell ⟨qb,9,none⟩ v').cell? ⟨gr,9,none⟩=some (.string r.grp)/\(w'.setCell ⟨qb,9,none⟩ v').cell? ⟨gr,11,none⟩=some (.string r.bod)/\
   Cp 219 #[zp qb,.string r.grp,.string r.bod] (w'.setCell ⟨qb,9,none⟩ v') fun e w2=>e=.returned (.tuple #[])/\K w2:=by
 obtain⟨g4,cap4,hv4⟩:=qB ho;have t1:Tch [] w (w.drew.alloc (.cells (ddV id k til).toArray 230)):=(Tch.refl _ _).drew.alloc _;have t2:Tch (bl vd) w w':=(t1.sub (by simp)).trans (kK hg) (fun x hx _=>hx);have hq1:Qb w' qb c (k:Int) ms rs vd at_:=(t2.block _ hq.lt (fun e=>jA hd hq (by decide) (jq.1 e))).trans hq;have hgq1:w'.heap[gq]?=some (.cells #[zp qb] 152 (0,0)):=(t2.block _ (lt_of_block hgq) (fun e=>jA hd hgq (by decide) (jq.1 e))).trans hgq;have hgr1:w'.heap[gr]?=some (.cells (ja r y.v) 27 (0,0)):=(t2.block _ (lt_of_block hgr) (fun e=>jA hd hgr (by decide) (jq.1 e))).trans hgr;have hgi1:w'.heap[gi]?=some (.cells #[.string id] 9 (0,0)):=(t2.block _ (lt_of_block hgi) (fun e=>jA hd hgi (by decide) (jq.1 e))).trans hgi;have hgn1:w'.heap[gn]?=some (.cells #[.int .i64 now] 3 (0,0)):=(t2.block _ (lt_of_block hgn) (fun e=>jA hd hgn (by decide) (jq.1 e))).trans hgn;have hm1:=a3X hm hd (by decide) t2;have hr1:=a3X hr hd (by decide) t2;have hq2:=hq1.set9 v';have t3:Tch [qb] w' (w'.setCell ⟨qb,9,none⟩ v'):=(Tch.refl _ _).setCell (fun _=>by simp) _;have hnq:gq≠qb:=fun e=>by rw[e,hq]at hgq;simp at hgq
 have hnr':gr≠qb:=fun e=>by rw[e,hq]at hgr;simp at hgr
 have hniq:gi≠qb:=fun e=>by rw[e,hq]at hgi;simp at hgi
 have hnnq:gn≠qb:=fun e=>by rw[e,hq]at hgn;simp at hgn
 have hgi2:=(t3.block _ (lt_of_block hgi1) (by simpa using hniq)).trans hgi1;have hgn2:=(t3.block _ (lt_of_block hgn1) (by simpa using hnnq)).trans hgn1;have hgq2:=(t3.block _ (lt_of_block hgq1) (by simpa using hnq)).trans hgq1;have hgr2:=(t3.block _ (lt_of_block hgr1) (by simpa using hnr')).trans hgr1;have hd2:(w'.setCell ⟨qb,9,none⟩ v').ownsRow 0 230 3 v' (nd+1) (xd++ddV id k til):=a4V ho hq1 (by decide) t3;have hm2:=a4V hm1 hq1 (by decide) t3;have hr2:=a4V hr1 hq1 (by decide) t3;refine⟨g4,cap4,hv4,⟨cell_of_one hgq1,cell_of_one hgi1,cell_of_one hgn1,jb hq1 3 _ rfl,jb hq1 6 _ rfl,hq1.fz 9⟩,jb hq1 9 _ rfl,⟨cell_of_one hgq2,cell_of_one hgi2,cell_of_one hgn2,jb hq2 3 _ rfl,jb hq2 6 _ rfl,hq2.fz 9⟩,gr9 hgr2,b8D hgr2,?_⟩;refine a1J K c r.grp r.bod qb k nr ms rs v' at_ l xr _ hq2 hm2 hr2 hnm hnr hk ?_;intro w3 ms3 rs3 hq3 hm3 hr3 hN1 hN2 ht3;refine hK w3 ms3 rs3 v' hq3 hm3 hr3 (jf hd2 ht3 (fun j hj hm'=>?_)) (hN1.mono (Nat.le_trans t2.size t3.size)) (hN2.mono (Nat.le_trans t2.size t3.size)) (fun j hj=>?_) ?_
 ·rcases List.mem_cons.1 hm' with h|h
  ·subst h;exact jA hd2 hq2 (by decide) hj
  ·obtain⟨C,hjj⟩:∃C,(w'.setCell ⟨qb,9,none⟩ v').heap[j]?=some (.cells C 230 (0,0)):=by
    rcases hd2.2 with ⟨h0,_⟩|⟨g',cap',cur',h0,_,hg',_⟩
    ·rw[h0]at hj;simp[Value.ownBlock]at hj
    ·rw[h0]at hj;simp only[Value.ownBlock,Option.some.injEq]at hj;subst hj;exact⟨_,hg'⟩
   rcases List.mem_append.1 h with h|h
   ·exact jA hm2 hjj (by decide) (jq.1 h)
   ·exact jA hr2 hjj (by decide) (jq.1 h)
 ·rcases hb with h|h
  ·exact .inl (h.symm.trans hj)
  ·right;rw[hj]at h;injection h with h;have:=t1.size;omega
 ·refine((t2.sub (S':=qb::(bl vd++(bl ms++bl rs))) (fun x hx _=>?_)).trans t3 (fun x hx _=>?_)).trans ht3 (fun x hx _=>?_)
  ·exact List.mem_cons.2 (.inr (List.mem_append.2 (.inl hx)))
  ·exact List.mem_cons.2 (.inl (by simpa using hx))
  ·rcases List.mem_cons.1 hx with h|h
   ·exact List.mem_cons.2 (.inl h)
   ·exact List.mem_cons.2 (.inr (List.mem_append.2 (.inr h)))
theorem a7y (K:World->Prop)(c r:Wp.Rq)(y:Sl)(id:ByteArray)(qb k nr nd gq gi gn gr:Nat)(now:Int)(vd ms rs at_:Value)(l:List Ms)(xr xd:List Value)(w:World)
  (hq:Qb w qb c (k:Int) ms rs vd at_)(hm:w.ownsRow 0 226 5 ms l.length (l.flatMap Ms.row))(hr:w.ownsRow 0 9 1 rs nr xr)(hd:w.ownsRow 0 230 3 vd nd xd)(hnm:l.length<=1000)(hnd:nd<=1000)(hnr:nr<=1000)(hk:k<=200)
  (hwin:0<c.win/\c.win<=1001)(hnow:0<=now/\now<=60000)
  (hgq:w.heap[gq]?=some (.cells #[zp qb] 152 (0,0)))(hgi:w.heap[gi]?=some (.cells #[.string id] 9 (0,0)))(hgn:w.heap[gn]?=some (.cells #[.int .i64 now] 3 (0,0)))(hgr:w.heap[gr]?=some (.cells (ja r y.v) 27 (0,0)))
  (hK:∀w' ms' rs' ds',Qb w' qb c ((k+1:Nat):Int) ms' rs' ds' at_->w'.ownsRow 0 226 5 ms' (l.length+1) (l.flatMap Ms.row++msV k r.grp r.bod)->w'.ownsRow 0 9 1 rs' (if jj (isG r.grp) l<0 then nr+1 else nr) (if jj (isG r.grp) l<0 then xr++[.string r.grp] else xr)->w'.ownsRow 0 230 3 ds' (nd+1) (xd++ddV id k (now+c.win))->NewOr w ms ms'->NewOr w rs rs'->(∀j,ds'.ownBlock=some j->vd.ownBlock=some j\/w.heap.size<=j)->Tch (qb::(bl vd++(bl ms++bl rs))) w w'->K w'):
  Cp 218 #[zp gq,zp gi,zp gn,zp gr] w fun e w'=>e=.returned (.tuple #[])/\K w':=by
 have HG:Hid (∀v' w',w'.ownsRow 0 230 3 v' (nd+1) (xd++ddV id k (now+c.win))->(w.drew.alloc (.cells (ddV id k (now+c.win)).toArray 230)).grownBy w' vd.ownBlock->(v'.ownBlock=vd.ownBlock\/v'.ownBlock=some (w.drew.alloc (.cells (ddV id k (now+c.win)).toArray 230)).heap.size)->_):=fun v' w'=>a9W K c r y id qb k nr nd gq gi gn gr now (now+c.win) vd ms rs at_ l xr xd w hq hm hr hd hnm hnd hnr hk hgq hgr hgi hgn hK v' w'
 have q3:w.cell? ⟨qb,3,none⟩=some (.int .i64 c.win):=jb hq 3 _ rfl;have q6:w.cell? ⟨qb,6,none⟩=some (.int .i64 (k:Int)):=jb hq 6 _ rfl;have q9:w.cell? ⟨qb,9,none⟩=some vd:=jb hq 9 _ rfl;have cq:=cell_of_one hgq;have ci:=cell_of_one hgi;have cn:=cell_of_one hgn;have l1:=hq.lt;have HD:=zH hd;have hw1:=hwin.1;have hwr:IntKind.i64.wrap (now+c.win)=now+c.win:=by rw[IntKind.wrap_i64];omega
 have HZ:=zH (hq.fz 9);have HZB:Hid (∀o,(w.drew.alloc o).frozen? ⟨qb,9,none⟩=false):=fun o=>frozen_of_row _ qb 9 _ 191 ((Below.heap_alloc _ _ _ hq.lt).trans hq)
 clear hq hm hr hd hgq hgi hgn hgr hK hwin hnow;go_enter Tryz.func218,Tryz.ntmps218;go_wp2_with fail;have z9a:=HZ.out;have z9c:∀o,(w.alloc o).drew.frozen? ⟨qb,9,none⟩=false:=fun o=>HZB.out o
 refine wp_region_noPanic ?_;refine wp_region_held_drew (S:=(fun w'=>w'.cell? ⟨gq,0,none⟩=some (zp qb)/\w'.cell? ⟨gi,0,none⟩=some (.string id)/\w'.cell? ⟨gn,0,none⟩=some (.int .i64 now)/\w'.cell? ⟨qb,3,none⟩=some (.int .i64 c.win)/\w'.cell? ⟨qb,6,none⟩=some (.int .i64 (k:Int))/\w'.frozen? ⟨qb,9,none⟩=false)) (by kernel_rfl) (by go_keep) (fun hHeld=>?_);refine zK 0 (h:=?_);refine zK 1 (h:=?_);refine zK 2 (h:=?_);refine zK 3 (h:=?_);refine zK 5 (h:=?_);refine zK 6 (h:=?_);refine zK 7 (h:=?_);refine zK 8 (h:=?_);refine zK 9 (h:=?_);refine zK 10 (h:=?_);refine zK 11 (h:=?_);refine zK 12 (h:=?_);refine zK 13 (h:=?_);refine zK 14 (h:=?_);refine zK 15 (h:=?_);refine zK 16 (h:=?_)
 try simp only[Act.put,List.setIfInBounds_toArray,List.set_cons_zero,List.set_cons_succ]
 refine wpAnyH_ready (rs:=[4,17]) (by kernel_rfl) (by simp) ?_;refine AllReadyH.cons rfl (fun K' hK'=>?_) (AllReadyH.cons rfl (fun K' hK'=>?_) AllReadyH.nil)
 ·go_simp;refine hK'.out _ _ (by go_keep) (fun hHeld=>?_);clear hK' K'
  try simp only[Act.put,List.setIfInBounds_toArray,List.set_cons_zero,List.set_cons_succ]
  refine wpAnyH_ready (rs:=[17]) (by kernel_rfl) (by simp) ?_;refine AllReadyH.cons rfl (fun K' hK'=>?_) AllReadyH.nil;go_simp;refine hK'.out _ _ (by go_keep) (fun hHeld=>?_);clear hK' K'
  try simp only[Act.put,List.setIfInBounds_toArray,List.set_cons_zero,List.set_cons_succ]
  refine wpAnyH_ready (rs:=[18]) (by kernel_rfl) (by simp) ?_;refine AllReadyH.cons rfl (fun K' hK'=>?_) AllReadyH.nil;refine qu rfl (.tmp 13) (.tmp 26) 188 230 rfl Tryz.underlying188 (.agg #[.string ⟨#[]⟩,.int .i64 0,.int .i64 0]) 3 32 a4K rfl (by decide) (by decide) vd nd xd (by simp[Act.eval,Act.put]) (by first|exact jf HD.out ((Tch.refl [] _).alloc _).drew (fun _ _=>by simp)|exact jf HD.out ((Tch.refl [] _).drew.alloc _) (fun _ _=>by simp)) w.heap.size (ddV id k (now+c.win)) 1 (by simp[Act.eval,Act.put]) rfl (by decide) (by first|exact heap_alloc_new _ _|exact heap_alloc_new w _) (by intro u hu;simp at hu;rcases hu with rfl|rfl|rfl<;>rfl) (by omega) ?_;intro v' w9 ho3 hg3 hb3;obtain⟨g4,cap4,hv4,⟨s1,s2,s3,s4,s5,s6⟩,d9,⟨u1,u2,u3,u4,u5,u6⟩,d10,e10,hfin⟩:=HG.out v' w9 ho3 hg3 hb3;subst hv4;clear ho3 hg3 hb3;have HFIN:Hid (Cp 219 _ _ _):=hfin;clear hfin;refine hK'.out _ _ (by go_keep) (fun hHeld=>?_);clear hK' K'
  try simp only[Act.put,List.setIfInBounds_toArray,List.set_cons_zero,List.set_cons_succ]
  refine zK 19 (h:=?_);refine zK 20 (h:=?_)
  try simp only[Act.put,List.setIfInBounds_toArray,List.set_cons_zero,List.set_cons_succ]
  refine wpAnyH_ready (rs:=[21]) (by kernel_rfl) (by simp) ?_;refine AllReadyH.cons rfl (fun K' hK'=>?_) AllReadyH.nil;go_simp;refine hK'.out _ _ (by go_keep) (fun hHeld=>?_);clear hK' K'
  try simp only[Act.put,List.setIfInBounds_toArray,List.set_cons_zero,List.set_cons_succ]
  refine wpAnyH_done (by kernel_rfl) ?_ _;refine NoPanic.normal ?_;go_wp2_with fail;refine HFIN.out.mono ?_;rintro e w2 ⟨rfl,hk2⟩;go_wp2_with fail;go_end0;exact⟨rfl,hk2⟩
 ·go_simp;refine hK'.out _ _ (by go_keep) (fun hHeld=>?_);clear hK' K'
  try simp only[Act.put,List.setIfInBounds_toArray,List.set_cons_zero,List.set_cons_succ]
  refine wpAnyH_ready (rs:=[4]) (by kernel_rfl) (by simp) ?_;refine AllReadyH.cons rfl (fun K' hK'=>?_) AllReadyH.nil;go_simp;refine hK'.out _ _ (by go_keep) (fun hHeld=>?_);clear hK' K'
  try simp only[Act.put,List.setIfInBounds_toArray,List.set_cons_zero,List.set_cons_succ]
  refine wpAnyH_ready (rs:=[18]) (by kernel_rfl) (by simp) ?_;refine AllReadyH.cons rfl (fun K' hK'=>?_) AllReadyH.nil;refine qu rfl (.tmp 13) (.tmp 26) 188 230 rfl Tryz.underlying188 (.agg #[.string ⟨#[]⟩,.int .i64 0,.int .i64 0]) 3 32 a4K rfl (by decide) (by decide) vd nd xd (by simp[Act.eval,Act.put]) (by first|exact jf HD.out ((Tch.refl [] _).alloc _).drew (fun _ _=>by simp)|exact jf HD.out ((Tch.refl [] _).drew.alloc _) (fun _ _=>by simp)) w.heap.size (ddV id k (now+c.win)) 1 (by simp[Act.eval,Act.put]) rfl (by decide) (by first|exact heap_alloc_new _ _|exact heap_alloc_new w _) (by intro u hu;simp at hu;rcases hu with rfl|rfl|rfl<;>rfl) (by omega) ?_;intro v' w9 ho3 hg3 hb3;obtain⟨g4,cap4,hv4,⟨s1,s2,s3,s4,s5,s6⟩,d9,⟨u1,u2,u3,u4,u5,u6⟩,d10,e10,hfin⟩:=HG.out v' w9 ho3 hg3 hb3;subst hv4;clear ho3 hg3 hb3;have HFIN:Hid (Cp 219 _ _ _):=hfin;clear hfin;refine hK'.out _ _ (by go_keep) (fun hHeld=>?_);clear hK' K'
  try simp only[Act.put,List.setIfInBounds_toArray,List.set_cons_zero,List.set_cons_succ]
  refine zK 19 (h:=?_);refine zK 20 (h:=?_)
  try simp only[Act.put,List.setIfInBounds_toArray,List.set_cons_zero,List.set_cons_succ]
  refine wpAnyH_ready (rs:=[21]) (by kernel_rfl) (by simp) ?_;refine AllReadyH.cons rfl (fun K' hK'=>?_) AllReadyH.nil;go_simp;refine hK'.out _ _ (by go_keep) (fun hHeld=>?_);clear hK' K'
  try simp only[Act.put,List.setIfInBounds_toArray,List.set_cons_zero,List.set_cons_succ]
  refine wpAnyH_done (by kernel_rfl) ?_ _;refine NoPanic.normal ?_;go_wp2_with fail;refine HFIN.out.mono ?_;rintro e w2 ⟨rfl,hk2⟩;go_wp2_with fail;go_end0;exact⟨rfl,hk2⟩
theorem a6m (c r:Wp.Rq)(y:Sl)(qb gd nd cd i num:Nat)(ds:List Dd)(now next:Int)(ms rs at_:Value)(w:World)
  (hq:w.heap[qb]?=some (.cells (qC c next ms rs (.slice (some ⟨gd,0,none⟩) nd cd) at_) 191 (0,0)))(hbod:r.bod.size<=40)(hT:Tab w)(h2:2<w.heap.size)
  (ho:w.ownsRow 0 230 3 (.slice (some ⟨gd,0,none⟩) nd cd) ds.length (ds.flatMap Dd.row))(hnd:nd=ds.length)(hl:ds.length<=1000)(hid:jj (isI (ks r)) ds=(i:Int))(hi:i<ds.length)(hnum:ds[i].num=(num:Nat))(hn:num<4294967296):
  Cp 164 #[zp qb,.int .i64 now,.agg (ja r y.v)] w fun e w'=>∃av,e=.returned (.tuple #[av,.nilFunc,.int .i64 0])/\OwnB w' w.heap.size av (je num 4)/\Below w.heap.size w w':=by
 have hlt:=lt_of_block hq;have HQ:=zH hq;have HID:Hid (∀W,Below w.heap.size w W->zB 216 #[.agg (ja r y.v)] W (.string (ks r))):=fun W hb=>zW r y W (Nat.le_trans hbod (by decide)) (hT.below hb h2) (by have:=hb.size;omega)
 rw[zM r y]at HID;have hbz:¬(40:Int)<(r.bod.size:Int):=by omega
 have hgd:gd<w.heap.size:=vM ho rfl;have HCC:Hid (w.cell? ⟨gd,i*3+1,none⟩=some (.int .i64 (num:Nat))):=by
  have h1:(ds.flatMap Dd.row)[i*3+1]?=some (.int .i64 (num:Nat)):=by rw[zZ Dd.row 3 (fun _=>rfl) ds i 1 hi (by decide)];simp[Dd.row,hnum]
  have h2:=World.ownsRow.cells ho (g:=gd) rfl (i*3+1) _ h1;have e2:(⟨gd,0,none⟩:Addr).add (i*3+1)=⟨gd,i*3+1,none⟩:=by unfold Addr.add;split<;>simp_all
  rw[e2]at h2;exact h2
 have HII:=zH hid;have HOW:=zH ho;clear hq hT hid ho;generalize ks r=id at*
 rw[zM r y];go_enter Tryz.func164,Tryz.ntmps164;go_wp2_with fail;refine(HID.out _ (((((Below.refl _ _).alloc (Nat.le_refl _) _).alloc (by simp) _)).alloc (by simp;omega) _)).mono ?_;rintro e w4 ⟨rfl,hb4⟩;have t4:Tch [] w w4:=(a3r w qb now (zR r y)).trans (Tch.of_below hb4) (by simp);have hb4':Below (a0V w qb now (zR r y)).heap.size (a0V w qb now (zR r y)) w4:=hb4;rw[xB]at hb4';have z4:w.heap.size+3<=w4.heap.size:=by have:=hb4'.size;rw[xB]at this;exact this
 have k0:=cell_of_one ((hb4'.block _ (by omega)).trans (a7w w qb now (zR r y)));have hn0:w.heap.size<w4.heap.size:=by omega
 have hq4:(w4.alloc (.cells #[.string id] 9)).heap[qb]?=some (.cells (qC c next ms rs (.slice (some ⟨gd,0,none⟩) nd cd) at_) 191 (0,0)):=(Below.heap_alloc _ _ _ (by omega)).trans ((t4.block _ hlt (by simp)).trans HQ.out);have HF:Hid (zB 217 #[zp qb,.string id] (w4.alloc (.cells #[.string id] 9)) (.int .i64 (i:Int))):=by
  have h:=xX id qb _ ds (w4.alloc (.cells #[.string id] 9)) (jb hq4 9 _ rfl) (jf HOW.out (t4.alloc _) (fun _ _=>by simp)) (by omega);rw[HII.out]at h;exact h
 have HQ4:=zH hq4;have T4:=zH t4;clear hb4 hb4' hq4 t4;go_wp2_with fail;refine HF.out.mono ?_;rintro e w6 ⟨rfl,hb6⟩;have t6:Tch [] w w6:=(T4.out.alloc _).trans (Tch.of_below hb6) (by simp);have z6:=hb6.size;rw[World.size_alloc]at z6;have k6:w6.cell? ⟨w.heap.size,0,none⟩=some (zp qb):=(hb6.cell (p:=⟨w.heap.size,0,none⟩) (by simp;omega)).trans (Lib.cell?_alloc_some _ k0);have q9:w6.cell? ⟨qb,9,none⟩=some (.slice (some ⟨gd,0,none⟩) nd cd):=jb ((hb6.block _ (by simp;omega)).trans HQ4.out) 9 _ rfl;have d1:=(t6.cell (a:=⟨gd,i*3+1,none⟩) hgd (by simp)).trans HCC.out;have HA:Hid (Cp 91 #[.slice none 0 0,.int .i64 (num:Nat),.int .i64 4] w6 fun e w'=>∃v',e=.returned v'/\OwnB w' w.heap.size v' ([]++je num 4)/\Below w.heap.size w6 w'):=qo w.heap.size _ [] num 4 w6 hn (by decide) (by decide) (by omega) (World.ownsRow_nil _ _ _ _);have T6:=zH t6;clear hb6 t6 k0;go_wp2_with fail;refine HA.out.mono ?_;rintro e w7 ⟨av,rfl,ho,hb7⟩;have HO:=zH ho;have HB7:=zH hb7;clear ho hb7;go_wp2_with fail;go_ret3;exact⟨av,rfl,HO.out,(T6.out.below (by simp) (Nat.le_refl _)).trans HB7.out⟩
theorem a9V (c r:Wp.Rq)(y:Sl)(qb k nm cm:Nat)(am:Option Addr)(ds:List Dd)(now:Int)(rs vd at_:Value)(w:World)
  (hq:w.heap[qb]?=some (.cells (qC c (k:Int) (.slice am nm cm) rs vd at_) 191 (0,0)))(hbod:r.bod.size<=40)(hT:Tab w)(h2:2<w.heap.size)
  (ho:w.ownsRow 0 230 3 vd ds.length (ds.flatMap Dd.row))(hl:ds.length<=1000)(hid:jj (isI (ks r)) ds<0)(hquo:(nm:Int)<c.quo)(hk:k<=200):
  Cp 164 #[zp qb,.int .i64 now,.agg (ja r y.v)] w fun e w'=>∃av gi,
   e=.returned (.tuple #[av,.func (.func 218) #[] #[zp w.heap.size,zp gi,zp (w.heap.size+1),zp (w.heap.size+2)],.int .i64 0])/\OwnB w' (gi+1) av (je k 4)/\Below w.heap.size w w'/\
   w'.heap[w.heap.size]?=some (.cells #[zp qb] 152 (0,0))/\w'.heap[gi]?=some (.cells #[.string (ks r)] 9 (0,0))/\w'.heap[w.heap.size+1]?=some (.cells #[.int .i64 now] 3 (0,0))/\w'.heap[w.heap.size+2]?=some (.cells (ja r y.v) 27 (0,0)):=by
 have hlt:=lt_of_block hq;have HQ:=zH hq;have HID:Hid (∀W,Below w.heap.size w W->zB 216 #[.agg (ja r y.v)] W (.string (ks r))):=fun W hb=>zW r y W (Nat.le_trans hbod (by decide)) (hT.below hb h2) (by have:=hb.size;omega)
 rw[zM r y]at HID;have hbz:¬(40:Int)<(r.bod.size:Int):=by omega
 have hquo':¬c.quo<=(nm:Int):=by omega
 have hk':¬(200:Int)<(k:Int):=by omega
 have HOW:=zH ho;have hge:=xv (isI (ks r)) ds;have HII:Hid (jj (isI (ks r)) ds=-1):=by show _=_;omega
 clear hq hT ho hid hge;generalize ks r=id at*
 rw[zM r y];go_enter Tryz.func164,Tryz.ntmps164;go_wp2_with fail;refine(HID.out _ (((((Below.refl _ _).alloc (Nat.le_refl _) _).alloc (by simp) _)).alloc (by simp;omega) _)).mono ?_;rintro e w4 ⟨rfl,hb4⟩;have t4:Tch [] w w4:=(a3r w qb now (zR r y)).trans (Tch.of_below hb4) (by simp);have hb4':Below (a0V w qb now (zR r y)).heap.size (a0V w qb now (zR r y)) w4:=hb4;rw[xB]at hb4';have z4:w.heap.size+3<=w4.heap.size:=by have:=hb4'.size;rw[xB]at this;exact this
 have B0:=(hb4'.block _ (by omega)).trans (a7w w qb now (zR r y));have HB1:=zH ((hb4'.block _ (by omega)).trans (b2S w qb now (zR r y)));have HB2:=zH ((hb4'.block _ (by omega)).trans (b2T w qb now (zR r y)));have k0:=cell_of_one B0;have HB0:=zH B0;have hn0:w.heap.size<w4.heap.size:=by omega
 have hq4:(w4.alloc (.cells #[.string id] 9)).heap[qb]?=some (.cells (qC c (k:Int) (.slice am nm cm) rs vd at_) 191 (0,0)):=(Below.heap_alloc _ _ _ (by omega)).trans ((t4.block _ hlt (by simp)).trans HQ.out);have HF:Hid (zB 217 #[zp qb,.string id] (w4.alloc (.cells #[.string id] 9)) (.int .i64 (-1))):=by
  have h:=xX id qb _ ds (w4.alloc (.cells #[.string id] 9)) (jb hq4 9 _ rfl) (jf HOW.out (t4.alloc _) (fun _ _=>by simp)) (by omega);rw[HII.out]at h;exact h
 have HQ4:=zH hq4;have T4:=zH t4;clear hb4 hb4' hq4 t4 B0;go_wp2_with fail;refine HF.out.mono ?_;rintro e w6 ⟨rfl,hb6⟩;have t6:Tch [] w w6:=(T4.out.alloc _).trans (Tch.of_below hb6) (by simp);have z6:=hb6.size;rw[World.size_alloc]at z6;have BL:∀i o,i<w4.heap.size->w4.heap[i]?=some o->w6.heap[i]?=some o:=fun i o hi ho=>(hb6.block i (by simp;omega)).trans ((Below.heap_alloc _ _ _ hi).trans ho)
 have HC0:Hid (w6.heap[w.heap.size]?=_):=BL _ _ hn0 HB0.out;have HC1:Hid (w6.heap[w.heap.size+1]?=_):=BL _ _ (by omega) HB1.out;have HC2:Hid (w6.heap[w.heap.size+2]?=_):=BL _ _ (by omega) HB2.out;have HCI:Hid (w6.heap[w4.heap.size]?=_):=(hb6.block _ (by simp)).trans (heap_alloc_new _ _);have hq6:=(hb6.block qb (by simp;omega)).trans HQ4.out;have k6:w6.cell? ⟨w.heap.size,0,none⟩=some (zp qb):=cell_of_one HC0.out;have q5:w6.cell? ⟨qb,5,none⟩=some (.int .i64 c.quo):=jb hq6 5 _ rfl;have q6:w6.cell? ⟨qb,6,none⟩=some (.int .i64 (k:Int)):=jb hq6 6 _ rfl;have q7:w6.cell? ⟨qb,7,none⟩=some (.slice am nm cm):=jb hq6 7 _ rfl;have T6:=zH t6;have HA:Hid (∀n,Cp 91 #[.slice none 0 0,.int .i64 (k:Int),.int .i64 4] (w6.drewN n) fun e w'=>∃v',e=.returned v'/\OwnB w' (w4.heap.size+1) v' ([]++je k 4)/\Below (w4.heap.size+1) (w6.drewN n) w'):=fun n=>qo (w4.heap.size+1) _ [] k 4 (w6.drewN n) (by omega) (by decide) (by decide) z6 (World.ownsRow_nil _ _ _ _)
 have z6':=zH z6;clear hb6 t6 k0 hq6 BL;go_wp2_with fail;go_quiet (fail);have k6':=k6;have q6':=q6;go_wp2_with fail;refine(HA.out nq).mono ?_;rintro e w7 ⟨av,rfl,ho,hb7⟩;have HO:=zH ho;have HB7:Hid (Below (w4.heap.size+1) w6 w7):=(below_drewN (Below.refl _ _) nq).trans hb7;clear ho hb7;go_wp2_with fail;go_ret3;have hB:=HB7.out;exact⟨av,w4.heap.size,rfl,HO.out,(T6.out.below (by simp) (Nat.le_refl _)).trans (hB.mono (by omega)),(hB.block _ (by omega)).trans HC0.out,(hB.block _ (by omega)).trans HCI.out,(hB.block _ (by omega)).trans HC1.out,(hB.block _ (by omega)).trans HC2.out⟩
theorem a9X (K:World->Prop)(c r:Wp.Rq)(y:Sl)(qb k nr gq gi gn gr:Nat)(vd ms rs at_:Value)(l:List Ms)(xr:List Value)(w:World)
  (hq:Qb w qb c (k:Int) ms rs vd at_)(hm:w.ownsRow 0 226 5 ms l.length (l.flatMap Ms.row))(hr:w.ownsRow 0 9 1 rs nr xr)(hnm:l.length<=1000)(hnr:nr<=1000)(hk:k<=200)(hwin:c.win=0)
  (hgq:w.heap[gq]?=some (.cells #[zp qb] 152 (0,0)))(hgr:w.heap[gr]?=some (.cells (ja r y.v) 27 (0,0)))
  (hK:∀w' ms' rs',Qb w' qb c ((k+1:Nat):Int) ms' rs' vd at_->w'.ownsRow 0 226 5 ms' (l.length+1) (l.flatMap Ms.row++msV k r.grp r.bod)->w'.ownsRow 0 9 1 rs' (if jj (isG r.grp) l<0 then nr+1 else nr) (if jj (isG r.grp) l<0 then xr++[.string r.grp] else xr)->NewOr w ms ms'->NewOr w rs rs'->Tch (qb::(bl ms++bl rs)) w w'->K w'):
  Cp 218 #[zp gq,zp gi,zp gn,zp gr] w fun e w'=>e=.returned (.tuple #[])/\K w':=by
 have HP:=zH (a1J K c r.grp r.bod qb k nr ms rs vd at_ l xr w hq hm hr hnm hnr hk hK);have q3:w.cell? ⟨qb,3,none⟩=some (.int .i64 0):=by rw[<-hwin];exact jb hq 3 _ rfl
 have cq:=cell_of_one hgq;have c9:=gr9 hgr;have c11:=b8D hgr;clear hq hm hr hgq hgr hK;go_enter Tryz.func218,Tryz.ntmps218;go_wp2_with fail;refine HP.out.mono ?_;rintro e w2 ⟨rfl,hk2⟩;go_wp2_with fail;go_end0;exact⟨rfl,hk2⟩
structure Fr (B:Nat)(T:List TypeId)(w w':World):Prop where
 os:w'.os=w.os
 tape:w'.tape=w.tape
 output:w'.output=w.output
 size:w.heap.size<=w'.heap.size
 low:∀k:Nat,k<B->w'.heap[k]?=w.heap[k]?
 keep:∀(k:Nat) (C:Array Value) (t:TypeId),w.heap[k]?=some (.cells C t (0,0))->t∉T->w'.heap[k]?=some (.cells C t (0,0))
theorem Fr.refl (B:Nat)(T:List TypeId)(w:World):Fr B T w w:=⟨rfl,rfl,rfl,Nat.le_refl _,fun _ _=>rfl,fun _ _ _ h _=>h⟩
theorem Fr.trans {a b c:World}(h:Fr B T a b)(k:Fr B T b c):Fr B T a c:=
 ⟨k.os.trans h.os,k.tape.trans h.tape,k.output.trans h.output,Nat.le_trans h.size k.size,fun x hx=>(k.low x hx).trans (h.low x hx),fun x C t hx ht=>k.keep x C t (h.keep x C t hx ht) ht⟩
theorem Fr.of_tch (h:Tch S w w')(hB:B<=w.heap.size)(hlow:∀k∈S,B<=k)(hty:∀k∈S,∀(C:Array Value) (t:TypeId),w.heap[k]?=some (.cells C t (0,0))->t∈T):Fr B T w w':=
 ⟨h.os,h.tape,h.output,h.size,fun k hk=>h.block k (by omega) (fun hm=>by have:=hlow k hm;omega),fun k C t hk ht=>(h.block k (lt_of_block hk) (fun hm=>ht (hty k hm C t hk))).trans hk⟩
theorem Fr.of_nil (T:List TypeId){w w':World}(h:Tch [] w w')(hB:B<=w.heap.size):Fr B T w w':=Fr.of_tch h hB (by simp) (by simp)
theorem Fr.below (h:Fr B T w w'):Below B w w':=⟨h.os,h.tape,h.output,h.size,fun k hk=>h.low k hk⟩
theorem Fr.own (h:Fr B T w w'){base size n:Nat}{t:TypeId}{v:Value}{xs:List Value}(ho:w.ownsRow base t size v n xs)(ht:t∉T):w'.ownsRow base t size v n xs:=by
 refine⟨ho.1,?_⟩;rcases ho.2 with hn|⟨g,cap,cur,rfl,hb,hg,rest⟩
 ·exact .inl hn
 ·exact .inr ⟨g,cap,cur,rfl,hb,h.keep g cur t hg ht,rest⟩
abbrev TJ:List TypeId:=[143,110,116]
theorem Jr.fr {j d:Nat}{room:Int}{fs:List Dk.DF}{k:Nat}(h:Jr w j d room v fs n k)(hB:B<=w.heap.size)(hlo:∀b∈jbl j d v,B<=b)(ht:Tch (jbl j d v) w w'):Fr B TJ w w':=
 Fr.of_tch ht hB hlo (fun b hb C t hC=>by
  by_cases h1:143=t
  ·rw[<-h1];decide
  ·by_cases h2:110=t
   ·rw[<-h2];decide
   ·by_cases h3:116=t
    ·rw[<-h3];decide
    ·exact absurd hb (h.apart hC h1 h2 h3))
structure QV where
 m:Value
 r:Value
 d:Value
 a:Value
structure QM where
 c:Wp.Rq
 next:Nat
 ms:List Ms
 rs:List ByteArray
 ds:List Dd
 ats:List At
structure QR (w:World)(qb:Nat)(V:QV)(Q:QM):Prop where
 blk:Qb w qb Q.c (Q.next:Int) V.m V.r V.d V.a
 m:w.ownsRow 0 226 5 V.m Q.ms.length (Q.ms.flatMap Ms.row)
 r:w.ownsRow 0 9 1 V.r Q.rs.length (Q.rs.map Value.string)
 d:w.ownsRow 0 230 3 V.d Q.ds.length (Q.ds.flatMap Dd.row)
 a:w.ownsRow 0 234 3 V.a Q.ats.length (Q.ats.flatMap At.row)
def qbl (qb:Nat)(V:QV):List Nat:=qb::(bl V.m++(bl V.r++(bl V.d++bl V.a)))
theorem ji {V:QV}{b:Nat}:b∈qbl qb V↔b=qb\/V.m.ownBlock=some b\/V.r.ownBlock=some b\/V.d.ownBlock=some b\/V.a.ownBlock=some b:=by
 simp only[qbl,List.mem_cons,List.mem_append,jq]
def QL (w w':World)(qb:Nat)(V:QV)(Q:QM):Prop:=∃V',QR w' qb V' Q/\Tch (qbl qb V) w w'/\∀b∈qbl qb V',b∈qbl qb V\/w.heap.size<=b
theorem QR.tch {V:QV}{Q:QM}(h:QR w qb V Q){S:List Nat}(ht:Tch S w w')(hS:∀b∈qbl qb V,b∉S):QR w' qb V Q:=
 ⟨(ht.block _ h.blk.lt (hS _ (by simp[qbl]))).trans h.blk,jf h.m ht (fun b hb=>hS b (ji.2 (.inr (.inl hb)))),jf h.r ht (fun b hb=>hS b (ji.2 (.inr (.inr (.inl hb))))),jf h.d ht (fun b hb=>hS b (ji.2 (.inr (.inr (.inr (.inl hb)))))),jf h.a ht (fun b hb=>hS b (ji.2 (.inr (.inr (.inr (.inr hb))))))⟩
theorem QR.lt {V:QV}{Q:QM}(h:QR w qb V Q):∀b∈qbl qb V,b<w.heap.size:=fun b hb=>by
 rcases ji.1 hb with e|e|e|e|e
 ·rw[e];exact h.blk.lt
 ·exact vM h.m e
 ·exact vM h.r e
 ·exact vM h.d e
 ·exact vM h.a e
abbrev TQ:List TypeId:=[191,226,9,230,234]
theorem QR.ty {V:QV}{Q:QM}(h:QR w qb V Q):∀b∈qbl qb V,∀(C:Array Value) (t:TypeId),w.heap[b]?=some (.cells C t (0,0))->t∈TQ:=fun b hb C t hC=>by
 by_cases e1:191=t
 ·rw[<-e1];decide
 by_cases e2:226=t
 ·rw[<-e2];decide
 by_cases e3:9=t
 ·rw[<-e3];decide
 by_cases e4:230=t
 ·rw[<-e4];decide
 by_cases e5:234=t
 ·rw[<-e5];decide
 exfalso;rcases ji.1 hb with e|e|e|e|e
 ·have h0:w.heap[qb]?=_:=h.blk;rw[<-e,hC]at h0;simp at h0;exact e1 h0.2.symm
 ·exact jA h.m hC e2 e
 ·exact jA h.r hC e3 e
 ·exact jA h.d hC e4 e
 ·exact jA h.a hC e5 e
theorem QR.keep {V:QV}{Q:QM}(h:QR w qb V Q)(hf:Fr B T w w')(hT:∀t∈TQ,t∉T):QR w' qb V Q:=
 ⟨hf.keep _ _ _ h.blk (hT _ (by decide)),hf.own h.m (hT _ (by decide)),hf.own h.r (hT _ (by decide)),hf.own h.d (hT _ (by decide)),hf.own h.a (hT _ (by decide))⟩
def vl (Q:QM)(r:Wp.Rq)(now:Int):QM:=
 {Q with next:=Q.next+1,ms:=Q.ms++[⟨(Q.next:Nat),r.grp,r.bod,0,0⟩],rs:=if jj (isG r.grp) Q.ms<0 then Q.rs++[r.grp] else Q.rs,ds:=if 0<Q.c.win then Q.ds++[⟨ks r,(Q.next:Nat),now+Q.c.win⟩] else Q.ds}
theorem a5g (b:Prop) [Decidable b] (l:List ByteArray)(g:ByteArray):(if b then l++[g] else l).length=if b then l.length+1 else l.length:=by split<;>simp
theorem a7t (b:Prop) [Decidable b] (l:List ByteArray)(g:ByteArray):(if b then l++[g] else l).map Value.string=if b then l.map Value.string++[.string g] else l.map Value.string:=by split<;>simp
theorem b7I (Q:QM)(V:QV)(r:Wp.Rq)(y:Sl)(qb gq gi gn gr:Nat)(now:Int)(w:World)(h:QR w qb V Q)(hnm:Q.ms.length<=1000)(hnr:Q.rs.length<=1000)(hnd:Q.ds.length<=1000)(hk:Q.next<=200)(hwin:0<=Q.c.win/\Q.c.win<=1001)(hnow:0<=now/\now<=60000)
  (hgq:w.heap[gq]?=some (.cells #[zp qb] 152 (0,0)))(hgi:w.heap[gi]?=some (.cells #[.string (ks r)] 9 (0,0)))(hgn:w.heap[gn]?=some (.cells #[.int .i64 now] 3 (0,0)))(hgr:w.heap[gr]?=some (.cells (ja r y.v) 27 (0,0))):
  Cp 218 #[zp gq,zp gi,zp gn,zp gr] w fun e w'=>e=.returned (.tuple #[])/\QL w w' qb V (vl Q r now):=by
 have ha:∀(S:List Nat) (w':World),(∀b∈S,b=qb\/V.d.ownBlock=some b\/V.m.ownBlock=some b\/V.r.ownBlock=some b)->Tch S w w'->w'.ownsRow 0 234 3 V.a Q.ats.length (Q.ats.flatMap At.row):=fun S w' hS ht=>jf h.a ht (fun b hb hm=>by
  obtain⟨C,hC⟩:∃C,w.heap[b]?=some (.cells C 234 (0,0)):=by
   rcases h.a.2 with ⟨h0,_⟩|⟨g',cap',cur',h0,_,hg',_⟩
   ·rw[h0]at hb;simp[Value.ownBlock]at hb
   ·rw[h0]at hb;simp only[Value.ownBlock,Option.some.injEq]at hb;subst hb;exact⟨_,hg'⟩
  rcases hS b hm with e|e|e|e
  ·have h0:w.heap[qb]?=_:=h.blk;rw[<-e,hC]at h0;simp at h0
  ·exact jA h.d hC (by decide) e
  ·exact jA h.m hC (by decide) e
  ·exact jA h.r hC (by decide) e)
 by_cases hw:0<Q.c.win
 ·refine a7y (fun w'=>QL w w' qb V (vl Q r now)) Q.c r y (ks r) qb Q.next Q.rs.length Q.ds.length gq gi gn gr now V.d V.m V.r V.a Q.ms (Q.rs.map Value.string) (Q.ds.flatMap Dd.row) w h.blk h.m h.r h.d hnm hnd hnr hk ⟨hw,hwin.2⟩ hnow hgq hgi hgn hgr ?_;intro w' ms' rs' ds' hq hm hr hd hN1 hN2 hj ht;refine⟨⟨ms',rs',ds',V.a⟩,⟨hq,?_,?_,?_,?_⟩,ht.sub (fun x hx _=>?_),fun b hb=>?_⟩
  ·simpa [vl,Ms.row]using hm
  ·show w'.ownsRow 0 9 1 rs' (vl Q r now).rs.length ((vl Q r now).rs.map Value.string)
   simp only[vl,a5g,a7t];exact hr
  ·simpa [vl,hw,Dd.row,ddV]using hd
  ·exact ha _ w' (fun b hb=>by
    rcases List.mem_cons.1 hb with e|e
    ·exact .inl e
    ·rcases List.mem_append.1 e with e|e
     ·exact .inr (.inl (jq.1 e))
     ·rcases List.mem_append.1 e with e|e
      ·exact .inr (.inr (.inl (jq.1 e)))
      ·exact .inr (.inr (.inr (jq.1 e)))) ht
  ·rcases List.mem_cons.1 hx with e|e
   ·exact ji.2 (.inl e)
   ·rcases List.mem_append.1 e with e|e
    ·exact ji.2 (.inr (.inr (.inr (.inl (jq.1 e)))))
    ·rcases List.mem_append.1 e with e|e
     ·exact ji.2 (.inr (.inl (jq.1 e)))
     ·exact ji.2 (.inr (.inr (.inl (jq.1 e))))
  ·rcases ji.1 hb with e|e|e|e|e
   ·exact .inl (ji.2 (.inl e))
   ·exact(hN1 b e).imp (fun h=>ji.2 (.inr (.inl h))) id
   ·exact(hN2 b e).imp (fun h=>ji.2 (.inr (.inr (.inl h)))) id
   ·exact(hj b e).imp (fun h=>ji.2 (.inr (.inr (.inr (.inl h))))) id
   ·exact .inl (ji.2 (.inr (.inr (.inr (.inr e)))))
 ·have hw0:Q.c.win=0:=by omega
  refine a9X (fun w'=>QL w w' qb V (vl Q r now)) Q.c r y qb Q.next Q.rs.length gq gi gn gr V.d V.m V.r V.a Q.ms (Q.rs.map Value.string) w h.blk h.m h.r hnm hnr hk hw0 hgq hgr ?_;intro w' ms' rs' hq hm hr hN1 hN2 ht;have hS:∀b∈(qb::(bl V.m++bl V.r)),b=qb\/V.d.ownBlock=some b\/V.m.ownBlock=some b\/V.r.ownBlock=some b:=fun b hb=>by
   rcases List.mem_cons.1 hb with e|e
   ·exact .inl e
   ·rcases List.mem_append.1 e with e|e
    ·exact .inr (.inr (.inl (jq.1 e)))
    ·exact .inr (.inr (.inr (jq.1 e)))
  refine⟨⟨ms',rs',V.d,V.a⟩,⟨hq,?_,?_,?_,ha _ w' hS ht⟩,ht.sub (fun x hx _=>?_),fun b hb=>?_⟩
  ·simpa [vl,Ms.row]using hm
  ·show w'.ownsRow 0 9 1 rs' (vl Q r now).rs.length ((vl Q r now).rs.map Value.string)
   simp only[vl,a5g,a7t];exact hr
  ·have hd':w'.ownsRow 0 230 3 V.d Q.ds.length (Q.ds.flatMap Dd.row):=jf h.d ht (fun b hb hm=>by
    obtain⟨C,hC⟩:∃C,w.heap[b]?=some (.cells C 230 (0,0)):=by
     rcases h.d.2 with ⟨h0,_⟩|⟨g',cap',cur',h0,_,hg',_⟩
     ·rw[h0]at hb;simp[Value.ownBlock]at hb
     ·rw[h0]at hb;simp only[Value.ownBlock,Option.some.injEq]at hb;subst hb;exact⟨_,hg'⟩
    rcases List.mem_cons.1 hm with e|e
    ·have h0:w.heap[qb]?=_:=h.blk;rw[<-e,hC]at h0;simp at h0
    ·rcases List.mem_append.1 e with e|e
     ·exact jA h.m hC (by decide) (jq.1 e)
     ·exact jA h.r hC (by decide) (jq.1 e))
   simpa [vl,hw]using hd'
  ·rcases List.mem_cons.1 hx with e|e
   ·exact ji.2 (.inl e)
   ·rcases List.mem_append.1 e with e|e
    ·exact ji.2 (.inr (.inl (jq.1 e)))
    ·exact ji.2 (.inr (.inr (.inl (jq.1 e))))
  ·rcases ji.1 hb with e|e|e|e|e
   ·exact .inl (ji.2 (.inl e))
   ·exact(hN1 b e).imp (fun h=>ji.2 (.inr (.inl h))) id
   ·exact(hN2 b e).imp (fun h=>ji.2 (.inr (.inr (.inl h)))) id
   ·exact .inl (ji.2 (.inr (.inr (.inr (.inl e)))))
   ·exact .inl (ji.2 (.inr (.inr (.inr (.inr e)))))
end Go.Proofs.YtbdobaapadlcjaaGreatDoor
namespace Go.Proofs.YtbdobaapadlcjaaGreatDoor
open Go.Shelf Go.RowKit Go.Lib
abbrev isN (n:Int)(x:Ms):Bool:=x.num == n
theorem qA {α:Type}(p:α->Bool):∀(l:List α) (i:Nat),jj p l=(i:Int)->∃h:i<l.length,p l[i]=true/\l.find? p=some l[i]
 | [],i,h=>by simp only[jj]at h;omega
 | x::l,i,h=>by
  simp only[jj]at h
  by_cases hx:p x=true
  ·rw[if_pos hx]at h;have:i=0:=by omega
   subst this;exact⟨by simp,hx,by simp[hx]⟩
  ·rw[if_neg hx]at h
   split at h
   ·omega
   ·obtain⟨j,rfl⟩:∃j,i=j+1:=⟨i-1,by omega⟩;obtain⟨hl,hp,hf⟩:=qA p l j (by omega);exact⟨by simp;omega,by simpa using hp,by simp[hx,hf]⟩
theorem a4J {α:Type}(p:α->Bool)(l:List α)(h:jj p l<0):l.find? p=none:=by
 rw[List.find?_eq_none];intro x hx;have:=(qq p l).1 h x hx;simp[this]
theorem b1T (n:Int)(B:Nat)(w:World)(hB:B<w.heap.size)(hcell:w.cell? ⟨B,0,none⟩=some (.int .i64 n)):
  PredBelow Tryz.prog 286 #[zp B] (fun x:Ms=>.agg x.row.toArray) (isN n) w:=fun W x hb=>by
 have hc:=(hb.cell (p:=⟨B,0,none⟩) hB).trans hcell;have hBW:B<W.heap.size:=Nat.lt_of_lt_of_le hB hb.size
 show Cp 286 #[.agg #[.int .i64 x.num,.string x.grp,.string x.bod,.int .i64 x.rcv,.int .i64 x.til],zp B] W _
 go_enter Tryz.func286,Tryz.ntmps286
 go_wp2
 all_goals (go_ret;exact⟨by simp_all,hb.alloc hb.size _⟩)
theorem b8s:∀args w,(callFunc 286 args).run Tryz.prog w=.ok (.enter 286 args) w:=enters_of Tryz.func286 (by kernel_rfl) rfl
theorem b3Y (v:Value)(l:List Ms)(n:Int)(B:Nat)(w:World)(ho:w.ownsRow 0 226 5 v l.length (l.flatMap Ms.row))(hl:l.length<=1000000)(hB:B<w.heap.size)(hcell:w.cell? ⟨B,0,none⟩=some (.int .i64 n)):
  zB 264 #[v,.func (.func 286) #[] #[zp B]] w (.int .i64 (jj (isN n) l)):=by
 have inh:Inhabited Ms:=⟨⟨0,⟨#[]⟩,⟨#[]⟩,0,0⟩⟩;rcases ho.2 with ⟨rfl,h0⟩|⟨gd,cap,cur,rfl,_,hg,_⟩
 ·have e0:l=[]:=List.length_eq_zero_iff.1 h0;subst e0;refine(a0f none 0 _ w).mono ?_;rintro e w' ⟨rfl,rfl⟩;exact⟨rfl,Below.refl _ _⟩
 ·have h:=AnyQ.slices_IndexFunc b6Z 5 Tryz.isAgg226 Tryz.sizeOf226 Ms.row (fun _=>rfl) (isN n) 286 #[zp B] b8s gd 0 l.length cap l w (b1T n B w hB hcell) (Nat.le_refl _) (by omega) (lt_of_block hg) (fun j hj i v hi=>jF Ms.row 5 (fun _=>rfl) ho j hj i v hi);rw[List.take_length,xH]at h;exact h
theorem a1b (n:Int)(qb:Nat)(v:Value)(l:List Ms)(w:World)(c7:w.cell? ⟨qb,7,none⟩=some v)(ho:w.ownsRow 0 226 5 v l.length (l.flatMap Ms.row))(hl:l.length<=1000000):
  zB 253 #[zp qb,.int .i64 n] w (.int .i64 (jj (isN n) l)):=by
 have hlt:=World.block_lt_of_cell? _ _ c7;have HI:Hid (Cp 264 _ (w.alloc (.cells #[.int .i64 n] 3)) _):=b3Y v l n w.heap.size (w.alloc (.cells #[.int .i64 n] 3)) (jf ho ((Tch.refl [] w).alloc _) (fun _ _=>by simp)) hl (by simp) (cell_of_one (heap_alloc_new _ _));clear ho;generalize jj (isN n) l=z at*
 go_enter Tryz.func253,Tryz.ntmps253;go_wp2_with (go_at_call 264;refine HI.out.mono ?_;rintro e w' ⟨rfl,hb⟩);go_ret;exact⟨rfl,((Below.refl _ _).alloc (Nat.le_refl _) _).trans (hb.mono (by simp))⟩
def kr (Q:QM)(num rcv:Int):Bool:=match Q.ms.find? (isN num) with
 | some m=>decide (0<m.til)&&m.rcv == rcv
 | none=>false
theorem QR.msc {w:World}{qb:Nat}{V:QV}{Q:QM}(h:QR w qb V Q)(i:Nat)(hi:i<Q.ms.length):∃g c,V.m=.slice (some ⟨g,0,none⟩) Q.ms.length c/\g<w.heap.size/\∀j u,(Q.ms[i].row)[j]?=some u->w.cell? ⟨g,i*5+j,none⟩=some u:=by
 have inh:Inhabited Ms:=⟨⟨0,⟨#[]⟩,⟨#[]⟩,0,0⟩⟩;obtain⟨g,c,hv⟩:∃g c,V.m=.slice (some ⟨g,0,none⟩) Q.ms.length c:=by
  rcases h.m.2 with ⟨h0,h1⟩|⟨g,cap,cur,h0,_⟩
  ·omega
  ·exact⟨_,_,h0⟩
 have hm:=h.m;rw[hv]at hm;have hc:∀j u,(Q.ms[i].row)[j]?=some u->w.cell? ⟨g,i*5+j,none⟩=some u:=fun j u hj=>by
  have h1:=jF Ms.row 5 (fun _=>rfl) hm i hi j u (by rw[List.getElem!_eq_getElem?_getD,List.getElem?_eq_getElem hi];exact hj);simpa using h1
 exact⟨g,c,hv,World.block_lt_of_cell? _ _ (hc 0 _ rfl),hc⟩
theorem a9j (Q:QM)(V:QV)(qb:Nat)(q:UInt8)(num rcv:Int)(w:World)(h:QR w qb V Q)(hl:Q.ms.length<=1000):
  zT 252 #[zp qb,.agg #[.int .u8 (q.toNat:Int),.int .i64 num,.int .i64 rcv]] w (.bool (kr Q num rcv)):=by
 obtain⟨wb,hwb⟩:∃wb,wb=w.alloc (.cells #[.int .u8 (q.toNat:Int),.int .i64 num,.int .i64 rcv] 237):=⟨_,rfl⟩;have HT:Hid (Tch [] w wb):=by rw[hwb];exact(Tch.refl _ _).alloc _
 have HBX:Hid (wb.heap[w.heap.size]?=some (.cells #[.int .u8 (q.toNat:Int),.int .i64 num,.int .i64 rcv] 237 (0,0))):=by rw[hwb];exact heap_alloc_new _ _
 have hq:=h.tch HT.out (by simp);have HF:Hid (zB 253 #[zp qb,.int .i64 num] wb (.int .i64 (jj (isN num) Q.ms))):=a1b num qb V.m Q.ms wb (jb hq.blk 7 _ rfl) hq.m (by omega);have HQ:=zH hq;have l1:=lt_of_block HBX.out;clear h hq;go_enter Tryz.func252,Tryz.ntmps252;go_wp2_with fail;rw[<-hwb];clear hwb;refine HF.out.mono ?_;rintro e w1 ⟨rfl,hb1⟩;have t1:=Tch.of_below hb1;have hq1:=HQ.out.tch t1 (by simp);have HT1:=zH (HT.out.trans t1 (by simp));have hbx1:=(hb1.block _ l1).trans HBX.out;have b2:w1.cell? ⟨w.heap.size,2,none⟩=some (.int .i64 rcv):=jb hbx1 2 _ rfl;have c7:w1.cell? ⟨qb,7,none⟩=some V.m:=jb hq1.blk 7 _ rfl
 by_cases hz:jj (isN num) Q.ms<0
 ·have HFL:Hid (kr Q num rcv=false):=by show _=_;unfold kr;rw[a4J _ _ hz]
  have hd:decide ((0:Int)<=jj (isN num) Q.ms)=false:=decide_eq_false (by omega);generalize jj (isN num) Q.ms=z at*
  clear hq1 hb1 t1 hbx1 HF HQ HBX;go_wp2_with fail;go_quiet (fail);go_wp2_with fail;go_ret;exact⟨js HFL.out.symm,HT1.out.drewN _⟩
 ·obtain⟨i,hi⟩:∃i:Nat,jj (isN num) Q.ms=(i:Int):=⟨_,(Int.toNat_of_nonneg (by omega)).symm⟩;obtain⟨hil,hp,hfi⟩:=qA _ _ i hi;obtain⟨g,c,hv,hg,hc⟩:=hq1.msc i hil;have HFL:Hid (kr Q num rcv=(decide (0<Q.ms[i].til)&&Q.ms[i].rcv == rcv)):=by show _=_;unfold kr;rw[hfi]
  have hd:decide ((0:Int)<=(i:Int))=true:=decide_eq_true (by omega);have d3:w1.cell? ⟨g,i*5+3,none⟩=some (.int .i64 Q.ms[i].rcv):=hc 3 _ rfl;have d4:w1.cell? ⟨g,i*5+4,none⟩=some (.int .i64 Q.ms[i].til):=hc 4 _ rfl;rw[hi];rw[hv]at c7;generalize Q.ms[i].til=til at*
  generalize Q.ms[i].rcv=rc at*
  clear hc hz hi hp hfi hq1 hb1 t1 hbx1 HF HQ HBX
  by_cases ht:0<til
  ·have hdt:decide ((0:Int)<til)=true:=decide_eq_true ht;go_wp2_with fail;go_quiet (fail);go_wp2_with fail;go_ret;exact⟨js (by rw[HFL.out,hdt];simp),HT1.out.drewN _⟩
  ·have hdt:decide ((0:Int)<til)=false:=decide_eq_false ht;go_wp2_with fail;go_quiet (fail);go_wp2_with fail;go_ret;exact⟨js (by rw[HFL.out,hdt];simp),HT1.out.drewN _⟩
end Go.Proofs.YtbdobaapadlcjaaGreatDoor
