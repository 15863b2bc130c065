import Derived.Test.YtbdobaapadlcjabGreatDoorRw06
set_option maxRecDepth 8000
set_option maxHeartbeats 4000000
set_option linter.unusedVariables false
set_option linter.unusedSimpArgs false
namespace Go.Proofs.YtbdobaapadlcjabGreatDoor
open Go.RowKit
theorem putg_fin (K:World->Prop)(c:Wp.Rq)(g bd:ByteArray)(qb k nm nr:Nat)(ms rs0 rs ds at_:Value)(xm xr:List Value)(w W:World)(ht:Tch (qb::bl rs0) w W)
  (hq:Qb W qb c (k:Int) ms rs ds at_)(hm:W.ownsRow 0 191 5 ms nm xm)(hr:W.ownsRow 0 9 1 rs nr xr)
  (hK:∀w' ms' rs',Qb w' qb c ((k+1:Nat):Int) ms' rs' ds at_->w'.ownsRow 0 191 5 ms' (nm+1) (xm++msV k g bd)->w'.ownsRow 0 9 1 rs' nr xr->NewOr w ms ms'->NewOr w rs0 rs'->Tch (qb::(bl ms++bl rs0)) w w'->K w')(hNr:NewOr w rs0 rs)
  (v':Value)(w':World)(ho:w'.ownsRow 0 191 5 v' (nm+1) (xm++msV k g bd))(hg:(W.drew.alloc (.cells (msV k g bd).toArray 191)).grownBy w' ms.ownBlock)(hb:v'.ownBlock=ms.ownBlock\/v'.ownBlock=some (W.drew.alloc (.cells (msV k g bd).toArray 191)).heap.size):
  ∃g4 cap4,v'=.slice (some ⟨g4,0,none⟩) (nm+1) cap4/\w'.cell? ⟨qb,7,none⟩=some ms/\w'.frozen? ⟨qb,7,none⟩=false/\(w'.setCell ⟨qb,7,none⟩ v').cell? ⟨qb,6,none⟩=some (.int .i64 (k:Int))/\(w'.setCell ⟨qb,7,none⟩ v').frozen? ⟨qb,6,none⟩=false/\
   K ((w'.setCell ⟨qb,7,none⟩ v').setCell ⟨qb,6,none⟩ (.int .i64 ((k:Int)+1))):=by
 obtain⟨g4,cap4,hv⟩:=own_some ho;have t1:Tch [] W (W.drew.alloc (.cells (msV k g bd).toArray 191)):=(Tch.refl _ _).drew.alloc _;have t2:Tch (bl ms) W w':=(t1.sub (by simp)).trans (grown_tch hg) (fun x hx _=>hx);have hq1:Qb w' qb c (k:Int) ms rs ds at_:=(t2.block _ hq.lt (fun e=>own_ne hm hq (by decide) (mem_bl.1 e))).trans hq;have hq2:=hq1.set7 v';have t3:Tch [qb] w' ((w'.setCell ⟨qb,7,none⟩ v').setCell ⟨qb,6,none⟩ (.int .i64 ((k:Int)+1))):=((Tch.refl _ _).setCell (fun _=>by simp) _).setCell (fun _=>by simp) _;have hr':w'.ownsRow 0 9 1 rs nr xr:=own_tch hr t2 (fun j hj hm'=>by
  have e:=mem_bl.1 hm';rcases hr.2 with ⟨rfl,_⟩|⟨g',cap',cur',rfl,_,hg',_⟩
  ·simp[Value.ownBlock]at hj
  ·simp only[Value.ownBlock,Option.some.injEq]at hj;subst hj;exact own_ne hm hg' (by decide) e)
 refine⟨g4,cap4,hv,cell_qC hq1 7 _ rfl,hq1.fz 7,cell_qC hq2 6 _ rfl,hq2.fz 6,hK _ v' rs (hq2.set6 _) (own_tch ho t3 (fun j hj hm'=>?_)) (own_tch hr' t3 (fun j hj hm'=>?_)) (NewOr.of (Nat.le_trans ht.size t1.size) hb) hNr ?_⟩
 ·simp at hm';subst hm';exact own_ne ho hq1 (by decide) hj
 ·simp at hm';subst hm';exact own_ne hr' hq1 (by decide) hj
 ·refine((ht.sub (S':=qb::(bl ms++bl rs0)) (fun x hx _=>?_)).trans t2 (fun x hx _=>?_)).trans t3 (fun x hx _=>?_)
  ·rcases List.mem_cons.1 hx with h|h
   ·exact List.mem_cons.2 (.inl h)
   ·exact List.mem_cons.2 (.inr (List.mem_append.2 (.inr h)))
  ·exact List.mem_cons.2 (.inr (List.mem_append.2 (.inl hx)))
  ·exact List.mem_cons.2 (.inl (by simpa using hx))
theorem putg_walk (K:World->Prop)(c:Wp.Rq)(g bd:ByteArray)(qb k nr:Nat)(ms rs ds at_:Value)(l:List Ms)(xr:List Value)(w:World)
  (hq:Qb w qb c (k:Int) ms rs ds at_)(hm:w.ownsRow 0 191 5 ms l.length (l.flatMap Ms.row))(hr:w.ownsRow 0 9 1 rs nr xr)(hnm:l.length<=1000)(hnr:nr<=1000)(hk:k<=200)
  (hK:∀w' ms' rs',Qb w' qb c ((k+1:Nat):Int) ms' rs' ds at_->w'.ownsRow 0 191 5 ms' (l.length+1) (l.flatMap Ms.row++msV k g bd)->w'.ownsRow 0 9 1 rs' (if idxL (isG g) l<0 then nr+1 else nr) (if idxL (isG g) l<0 then xr++[.string g] else xr)->NewOr w ms ms'->NewOr w rs rs'->Tch (qb::(bl ms++bl rs)) w w'->K w'):
  Calls Tryz.prog 172 #[.pointer (some ⟨qb,0,none⟩),.string g,.string bd] w fun e w'=>e=.returned (.tuple #[])/\K w':=by
 have hlt:=hq.lt;have HQ:=zH hq;have HH:Hid (Calls Tryz.prog 163 _ w _):=head_gen g qb ms l w (cell_qC hq 7 _ rfl) hm (by omega);generalize idxL (isG g) l=z at HH hK;generalize l.flatMap Ms.row=xm at*
 generalize l.length=nm at*
 have HM:=zH hm;have HR:=zH hr;have HK0:=zH hK;clear hq hm hr hK;go_enter Tryz.func172,Tryz.ntmps172;go_wp2_with fail;refine HH.out.mono ?_;rintro e w1 ⟨rfl,hb1⟩;have t1:=Tch.of_below hb1;have hq1:Qb w1 qb c (k:Int) ms rs ds at_:=(t1.block _ hlt (by simp)).trans HQ.out;have HQ1:=zH hq1;have HM1:Hid (w1.ownsRow 0 191 5 ms nm xm):=own_tch HM.out t1 (fun _ _=>by simp);have HR1:Hid (w1.ownsRow 0 9 1 rs nr xr):=own_tch HR.out t1 (fun _ _=>by simp);have T1:=zH t1;have hlt1:=hq1.lt;have hK:=HK0.out
 by_cases hz:z<0
 ·simp only[hz,if_true]at hK;have HK:=zH hK;clear hK;have q8:w1.cell? ⟨qb,8,none⟩=some rs:=cell_qC hq1 8 _ rfl;clear hq1 hb1 t1;go_wp2_with (at_builtin;refine wpList_vals _ rfl _ _ 22 9 rfl Tryz.underlying22 (.string ⟨#[]⟩) 1 16 info9 rfl (by decide) (by decide) rs nr xr ?hs ?own w1.heap.size [.string g] 1 ?hx rfl (by decide) ?hg ?one (by omega) ?k)
  case hs=>simp[Act.eval,Act.put]
  case own=>exact own_tch HR1.out ((Tch.refl [] _).alloc _) (fun _ _=>by simp)
  case hx=>simp[Act.eval,Act.put]
  case hg=>exact heap_alloc_new _ _
  case one=>intro u hu;simp at hu;subst hu;rfl
  intro v2 w2 ho2 hg2 hb2;have t2:Tch (bl rs) w1 w2:=(((Tch.refl [] w1).alloc _).sub (by simp)).trans (grown_tch hg2) (fun x hx _=>hx);have hq2:Qb w2 qb c (k:Int) ms rs ds at_:=(t2.block _ hlt1 (fun e=>own_ne HR1.out HQ1.out (by decide) (mem_bl.1 e))).trans HQ1.out;obtain⟨g2,cap2,hv2⟩:=own_some ho2;subst hv2;have t3:Tch [qb] w2 (w2.setCell ⟨qb,8,none⟩ (.slice (some ⟨g2,0,none⟩) (nr+1) cap2)):=(Tch.refl _ _).setCell (fun _=>by simp) _;have HQ3:Hid (Qb (w2.setCell ⟨qb,8,none⟩ (.slice (some ⟨g2,0,none⟩) (nr+1) cap2)) qb c (k:Int) ms (.slice (some ⟨g2,0,none⟩) (nr+1) cap2) ds at_):=hq2.set8 _;have HM2:w2.ownsRow 0 191 5 ms nm xm:=own_tch HM1.out t2 (fun j hj hm'=>by
   have e:=mem_bl.1 hm';rcases HM1.out.2 with ⟨rfl,_⟩|⟨g',cap',cur',rfl,_,hg',_⟩
   ·simp[Value.ownBlock]at hj
   ·simp only[Value.ownBlock,Option.some.injEq]at hj;subst hj;exact own_ne HR1.out hg' (by decide) e)
  have HM3:Hid ((w2.setCell ⟨qb,8,none⟩ (.slice (some ⟨g2,0,none⟩) (nr+1) cap2)).ownsRow 0 191 5 ms nm xm):=own_tch HM2 t3 (fun j hj hm'=>by
   simp at hm';subst hm';exact own_ne HM2 hq2 (by decide) hj)
  have HR3:Hid ((w2.setCell ⟨qb,8,none⟩ (.slice (some ⟨g2,0,none⟩) (nr+1) cap2)).ownsRow 0 9 1 (.slice (some ⟨g2,0,none⟩) (nr+1) cap2) (nr+1) (xr++[.string g])):=own_tch ho2 t3 (fun j hj hm'=>by
   simp at hm';subst hm';exact own_ne ho2 hq2 (by decide) hj)
  have T3:Hid (Tch (qb::bl rs) w (w2.setCell ⟨qb,8,none⟩ (.slice (some ⟨g2,0,none⟩) (nr+1) cap2))):=((T1.out.sub (by simp)).trans t2 (fun x hx _=>List.mem_cons.2 (.inr hx))).trans t3 (fun x hx _=>List.mem_cons.2 (.inl (by simpa using hx)));have HNR:Hid (NewOr w rs (.slice (some ⟨g2,0,none⟩) (nr+1) cap2)):=fun j hj=>by
   rcases hb2 with h|h
   ·exact .inl (h.symm.trans hj)
   ·rw[hj]at h;injection h with h;have:=T1.out.size;exact .inr (by omega)
  have c8:w2.cell? ⟨qb,8,none⟩=some rs:=cell_qC hq2 8 _ rfl;have z8:=hq2.fz 8;clear ho2 hg2 hb2 t2 hq2 t3 HM2 q8;go_wp2_with fail;generalize hWW:w2.setCell ⟨qb,8,none⟩ (.slice (some ⟨g2,0,none⟩) (nr+1) cap2)=WW at HQ3 HM3 HR3 T3 ⊢;have HQW:Hid (Qb WW qb c (k:Int) ms (.slice (some ⟨g2,0,none⟩) (nr+1) cap2) ds at_):=HQ3;have HMW:Hid (WW.ownsRow 0 191 5 ms nm xm):=HM3;have HRW:Hid (WW.ownsRow 0 9 1 (.slice (some ⟨g2,0,none⟩) (nr+1) cap2) (nr+1) (xr++[.string g])):=HR3;have TW:Hid (Tch (qb::bl rs) w WW):=T3;clear HQ3 HM3 HR3 T3 hWW c8 z8;have q6:WW.cell? ⟨qb,6,none⟩=some (.int .i64 (k:Int)):=cell_qC HQW.out 6 _ rfl;have q7:WW.cell? ⟨qb,7,none⟩=some ms:=cell_qC HQW.out 7 _ rfl;have q7a:(WW.alloc (.cells (msV k g bd).toArray 191)).cell? ⟨qb,7,none⟩=some ms:=Lib.cell?_alloc_some _ q7;have HG:Hid (∀v' w',w'.ownsRow 0 191 5 v' (nm+1) (xm++msV k g bd)->(WW.drew.alloc (.cells (msV k g bd).toArray 191)).grownBy w' ms.ownBlock->(v'.ownBlock=ms.ownBlock\/v'.ownBlock=some (WW.drew.alloc (.cells (msV k g bd).toArray 191)).heap.size)->_):=fun v' w'=>putg_fin K c g bd qb k nm (nr+1) ms rs (.slice (some ⟨g2,0,none⟩) (nr+1) cap2) ds at_ xm (xr++[.string g]) w WW TW.out HQW.out HMW.out HRW.out HK.out HNR.out v' w'
  go_region_law (refine step_vals rfl (.tmp 24) (.tmp 32) 133 191 rfl Tryz.underlying133 (.agg #[.int .i64 0,.string ⟨#[]⟩,.string ⟨#[]⟩,.int .i64 0,.int .i64 0]) 5 56 info214 rfl (by decide) (by decide) ms nm xm (by simp[Act.eval,Act.put]) (own_tch HMW.out ((Tch.refl [] _).drew.alloc _) (fun _ _=>by simp)) WW.heap.size (msV k g bd) 1 (by simp[Act.eval,Act.put]) rfl (by decide) (heap_alloc_new _ _) (by intro u hu;simp at hu;rcases hu with rfl|rfl|rfl|rfl|rfl<;>rfl) (by omega) ?_;intro v' w9 ho3 hg3 hb3;obtain⟨g4,cap4,hv4,c9,z9,c6,z6,hfin⟩:=HG.out v' w9 ho3 hg3 hb3;subst hv4;clear ho3 hg3 hb3;have HFIN:Hid (K _):=hfin;clear hfin)
  all_goals (go_wp2_with fail;go_end0;exact⟨rfl,HFIN.out⟩)
 ·simp only[hz,if_false]at hK;have HK:=zH hK;clear hK hq1 hb1 t1;go_wp2_with fail;have HQW:=zH HQ1;have HMW:=zH HM1;have HRW:=zH HR1;have TW:Hid (Tch (qb::bl rs) w w1):=T1.out.sub (by simp);have HNR:Hid (NewOr w rs rs):=NewOr.refl _ _;have q6:w1.cell? ⟨qb,6,none⟩=some (.int .i64 (k:Int)):=cell_qC HQW.out 6 _ rfl;have q7:w1.cell? ⟨qb,7,none⟩=some ms:=cell_qC HQW.out 7 _ rfl;have q7a:(w1.alloc (.cells (msV k g bd).toArray 191)).cell? ⟨qb,7,none⟩=some ms:=Lib.cell?_alloc_some _ q7;have HG:Hid (∀v' w',w'.ownsRow 0 191 5 v' (nm+1) (xm++msV k g bd)->(w1.drew.alloc (.cells (msV k g bd).toArray 191)).grownBy w' ms.ownBlock->(v'.ownBlock=ms.ownBlock\/v'.ownBlock=some (w1.drew.alloc (.cells (msV k g bd).toArray 191)).heap.size)->_):=fun v' w'=>putg_fin K c g bd qb k nm nr ms rs rs ds at_ xm xr w w1 TW.out HQW.out HMW.out HRW.out HK.out HNR.out v' w'
  go_region_law (refine step_vals rfl (.tmp 24) (.tmp 32) 133 191 rfl Tryz.underlying133 (.agg #[.int .i64 0,.string ⟨#[]⟩,.string ⟨#[]⟩,.int .i64 0,.int .i64 0]) 5 56 info214 rfl (by decide) (by decide) ms nm xm (by simp[Act.eval,Act.put]) (own_tch HMW.out ((Tch.refl [] _).drew.alloc _) (fun _ _=>by simp)) w1.heap.size (msV k g bd) 1 (by simp[Act.eval,Act.put]) rfl (by decide) (heap_alloc_new _ _) (by intro u hu;simp at hu;rcases hu with rfl|rfl|rfl|rfl|rfl<;>rfl) (by omega) ?_;intro v' w9 ho3 hg3 hb3;obtain⟨g4,cap4,hv4,c9,z9,c6,z6,hfin⟩:=HG.out v' w9 ho3 hg3 hb3;subst hv4;clear ho3 hg3 hb3;have HFIN:Hid (K _):=hfin;clear hfin)
  all_goals (go_wp2_with fail;go_end0;exact⟨rfl,HFIN.out⟩)
theorem sentg_fin (K:World->Prop)(c r:Wp.Rq)(y:Sl)(id:ByteArray)(qb k nr nd gq gi gn gr:Nat)(now til:Int)(vd ms rs at_:Value)(l:List Ms)(xr xd:List Value)(w:World)
  (hq:Qb w qb c (k:Int) ms rs vd at_)(hm:w.ownsRow 0 191 5 ms l.length (l.flatMap Ms.row))(hr:w.ownsRow 0 9 1 rs nr xr)(hd:w.ownsRow 0 195 3 vd nd xd)(hnm:l.length<=1000)(hnd:nd<=1000)(hnr:nr<=1000)(hk:k<=200)
  (hgq:w.heap[gq]?=some (.cells #[.pointer (some ⟨qb,0,none⟩)] 88 (0,0)))(hgr:w.heap[gr]?=some (.cells (cellsOf r y.v) 24 (0,0)))
  (hgi:w.heap[gi]?=some (.cells #[.string id] 9 (0,0)))(hgn:w.heap[gn]?=some (.cells #[.int .i64 now] 3 (0,0)))
  (hK:∀w' ms' rs' ds',Qb w' qb c ((k+1:Nat):Int) ms' rs' ds' at_->w'.ownsRow 0 191 5 ms' (l.length+1) (l.flatMap Ms.row++msV k r.grp r.bod)->w'.ownsRow 0 9 1 rs' (if idxL (isG r.grp) l<0 then nr+1 else nr) (if idxL (isG r.grp) l<0 then xr++[.string r.grp] else xr)->w'.ownsRow 0 195 3 ds' (nd+1) (xd++ddV id k til)->NewOr w ms ms'->NewOr w rs rs'->(∀j,ds'.ownBlock=some j->vd.ownBlock=some j\/w.heap.size<=j)->Tch (qb::(bl vd++(bl ms++bl rs))) w w'->K w')
  (v':Value)(w':World)(ho:w'.ownsRow 0 195 3 v' (nd+1) (xd++ddV id k til))(hg:(w.drew.alloc (.cells (ddV id k til).toArray 195)).grownBy w' vd.ownBlock)(hb:v'.ownBlock=vd.ownBlock\/v'.ownBlock=some (w.drew.alloc (.cells (ddV id k til).toArray 195)).heap.size):
  ∃g4 cap4,v'=.slice (some ⟨g4,0,none⟩) (nd+1) cap4/\Sf w' gq gi gn qb id now c.win k/\w'.cell? ⟨qb,9,none⟩=some vd/\
   Sf (w'.setCell ⟨qb,9,none⟩ v') gq gi gn qb id now c.win k/\(w'.setCell ⟨qb,9,none⟩ v').cell? ⟨gr,9,none⟩=some (.string r.grp)/\(w'.setCell ⟨qb,9,none⟩ v').cell? ⟨gr,11,none⟩=some (.string r.bod)/\
   Calls Tryz.prog 172 #[.pointer (some ⟨qb,0,none⟩),.string r.grp,.string r.bod] (w'.setCell ⟨qb,9,none⟩ v') fun e w2=>e=.returned (.tuple #[])/\K w2:=by
 obtain⟨g4,cap4,hv4⟩:=own_some ho;have t1:Tch [] w (w.drew.alloc (.cells (ddV id k til).toArray 195)):=(Tch.refl _ _).drew.alloc _;have t2:Tch (bl vd) w w':=(t1.sub (by simp)).trans (grown_tch hg) (fun x hx _=>hx);have hq1:Qb w' qb c (k:Int) ms rs vd at_:=(t2.block _ hq.lt (fun e=>own_ne hd hq (by decide) (mem_bl.1 e))).trans hq;have hgq1:w'.heap[gq]?=some (.cells #[.pointer (some ⟨qb,0,none⟩)] 88 (0,0)):=(t2.block _ (lt_of_block hgq) (fun e=>own_ne hd hgq (by decide) (mem_bl.1 e))).trans hgq;have hgr1:w'.heap[gr]?=some (.cells (cellsOf r y.v) 24 (0,0)):=(t2.block _ (lt_of_block hgr) (fun e=>own_ne hd hgr (by decide) (mem_bl.1 e))).trans hgr;have hgi1:w'.heap[gi]?=some (.cells #[.string id] 9 (0,0)):=(t2.block _ (lt_of_block hgi) (fun e=>own_ne hd hgi (by decide) (mem_bl.1 e))).trans hgi;have hgn1:w'.heap[gn]?=some (.cells #[.int .i64 now] 3 (0,0)):=(t2.block _ (lt_of_block hgn) (fun e=>own_ne hd hgn (by decide) (mem_bl.1 e))).trans hgn;have hm1:=own_apart hm hd (by decide) t2;have hr1:=own_apart hr hd (by decide) t2;have hq2:=hq1.set9 v';have t3:Tch [qb] w' (w'.setCell ⟨qb,9,none⟩ v'):=(Tch.refl _ _).setCell (fun _=>by simp) _;have hnq:gq≠qb:=fun e=>by rw[e,hq]at hgq;simp at hgq
 have hnr':gr≠qb:=fun e=>by rw[e,hq]at hgr;simp at hgr
 have hniq:gi≠qb:=fun e=>by rw[e,hq]at hgi;simp at hgi
 have hnnq:gn≠qb:=fun e=>by rw[e,hq]at hgn;simp at hgn
 have hgi2:=(t3.block _ (lt_of_block hgi1) (by simpa using hniq)).trans hgi1;have hgn2:=(t3.block _ (lt_of_block hgn1) (by simpa using hnnq)).trans hgn1;have hgq2:=(t3.block _ (lt_of_block hgq1) (by simpa using hnq)).trans hgq1;have hgr2:=(t3.block _ (lt_of_block hgr1) (by simpa using hnr')).trans hgr1;have hd2:(w'.setCell ⟨qb,9,none⟩ v').ownsRow 0 195 3 v' (nd+1) (xd++ddV id k til):=own_set ho hq1 (by decide) t3;have hm2:=own_set hm1 hq1 (by decide) t3;have hr2:=own_set hr1 hq1 (by decide) t3;refine⟨g4,cap4,hv4,⟨cell_of_one hgq1,cell_of_one hgi1,cell_of_one hgn1,cell_qC hq1 3 _ rfl,cell_qC hq1 6 _ rfl,hq1.fz 9⟩,cell_qC hq1 9 _ rfl,⟨cell_of_one hgq2,cell_of_one hgi2,cell_of_one hgn2,cell_qC hq2 3 _ rfl,cell_qC hq2 6 _ rfl,hq2.fz 9⟩,gr9 hgr2,gr11 hgr2,?_⟩;refine putg_walk K c r.grp r.bod qb k nr ms rs v' at_ l xr _ hq2 hm2 hr2 hnm hnr hk ?_;intro w3 ms3 rs3 hq3 hm3 hr3 hN1 hN2 ht3;refine hK w3 ms3 rs3 v' hq3 hm3 hr3 (own_tch hd2 ht3 (fun j hj hm'=>?_)) (hN1.mono (Nat.le_trans t2.size t3.size)) (hN2.mono (Nat.le_trans t2.size t3.size)) (fun j hj=>?_) ?_
 ·rcases List.mem_cons.1 hm' with h|h
  ·subst h;exact own_ne hd2 hq2 (by decide) hj
  ·obtain⟨C,hjj⟩:∃C,(w'.setCell ⟨qb,9,none⟩ v').heap[j]?=some (.cells C 195 (0,0)):=by
    rcases hd2.2 with ⟨h0,_⟩|⟨g',cap',cur',h0,_,hg',_⟩
    ·rw[h0]at hj;simp[Value.ownBlock]at hj
    ·rw[h0]at hj;simp only[Value.ownBlock,Option.some.injEq]at hj;subst hj;exact⟨_,hg'⟩
   rcases List.mem_append.1 h with h|h
   ·exact own_ne hm2 hjj (by decide) (mem_bl.1 h)
   ·exact own_ne hr2 hjj (by decide) (mem_bl.1 h)
 ·rcases hb with h|h
  ·exact .inl (h.symm.trans hj)
  ·right;rw[hj]at h;injection h with h;have:=t1.size;omega
 ·refine((t2.sub (S':=qb::(bl vd++(bl ms++bl rs))) (fun x hx _=>?_)).trans t3 (fun x hx _=>?_)).trans ht3 (fun x hx _=>?_)
  ·exact List.mem_cons.2 (.inr (List.mem_append.2 (.inl hx)))
  ·exact List.mem_cons.2 (.inl (by simpa using hx))
  ·rcases List.mem_cons.1 hx with h|h
   ·exact List.mem_cons.2 (.inl h)
   ·exact List.mem_cons.2 (.inr (List.mem_append.2 (.inr h)))
theorem sentg_walk (K:World->Prop)(c r:Wp.Rq)(y:Sl)(id:ByteArray)(qb k nr nd gq gi gn gr:Nat)(now:Int)(vd ms rs at_:Value)(l:List Ms)(xr xd:List Value)(w:World)
  (hq:Qb w qb c (k:Int) ms rs vd at_)(hm:w.ownsRow 0 191 5 ms l.length (l.flatMap Ms.row))(hr:w.ownsRow 0 9 1 rs nr xr)(hd:w.ownsRow 0 195 3 vd nd xd)(hnm:l.length<=1000)(hnd:nd<=1000)(hnr:nr<=1000)(hk:k<=200)
  (hwin:0<c.win/\c.win<=1001)(hnow:0<=now/\now<=60000)
  (hgq:w.heap[gq]?=some (.cells #[.pointer (some ⟨qb,0,none⟩)] 88 (0,0)))(hgi:w.heap[gi]?=some (.cells #[.string id] 9 (0,0)))(hgn:w.heap[gn]?=some (.cells #[.int .i64 now] 3 (0,0)))(hgr:w.heap[gr]?=some (.cells (cellsOf r y.v) 24 (0,0)))
  (hK:∀w' ms' rs' ds',Qb w' qb c ((k+1:Nat):Int) ms' rs' ds' at_->w'.ownsRow 0 191 5 ms' (l.length+1) (l.flatMap Ms.row++msV k r.grp r.bod)->w'.ownsRow 0 9 1 rs' (if idxL (isG r.grp) l<0 then nr+1 else nr) (if idxL (isG r.grp) l<0 then xr++[.string r.grp] else xr)->w'.ownsRow 0 195 3 ds' (nd+1) (xd++ddV id k (now+c.win))->NewOr w ms ms'->NewOr w rs rs'->(∀j,ds'.ownBlock=some j->vd.ownBlock=some j\/w.heap.size<=j)->Tch (qb::(bl vd++(bl ms++bl rs))) w w'->K w'):
  Calls Tryz.prog 171 #[.pointer (some ⟨gq,0,none⟩),.pointer (some ⟨gi,0,none⟩),.pointer (some ⟨gn,0,none⟩),.pointer (some ⟨gr,0,none⟩)] w fun e w'=>e=.returned (.tuple #[])/\K w':=by
 have HG:Hid (∀v' w',w'.ownsRow 0 195 3 v' (nd+1) (xd++ddV id k (now+c.win))->(w.drew.alloc (.cells (ddV id k (now+c.win)).toArray 195)).grownBy w' vd.ownBlock->(v'.ownBlock=vd.ownBlock\/v'.ownBlock=some (w.drew.alloc (.cells (ddV id k (now+c.win)).toArray 195)).heap.size)->_):=fun v' w'=>sentg_fin K c r y id qb k nr nd gq gi gn gr now (now+c.win) vd ms rs at_ l xr xd w hq hm hr hd hnm hnd hnr hk hgq hgr hgi hgn hK v' w'
 have q3:w.cell? ⟨qb,3,none⟩=some (.int .i64 c.win):=cell_qC hq 3 _ rfl;have q6:w.cell? ⟨qb,6,none⟩=some (.int .i64 (k:Int)):=cell_qC hq 6 _ rfl;have q9:w.cell? ⟨qb,9,none⟩=some vd:=cell_qC hq 9 _ rfl;have cq:=cell_of_one hgq;have ci:=cell_of_one hgi;have cn:=cell_of_one hgn;have l1:=hq.lt;have HD:=zH hd;have hw1:=hwin.1;have hwr:IntKind.i64.wrap (now+c.win)=now+c.win:=by rw[IntKind.wrap_i64];omega
 have HZ:=zH (hq.fz 9);have HZB:Hid (∀o,(w.drew.alloc o).frozen? ⟨qb,9,none⟩=false):=fun o=>frozen_of_row _ qb 9 _ 137 ((Below.heap_alloc _ _ _ hq.lt).trans hq)
 clear hq hm hr hd hgq hgi hgn hgr hK hwin hnow;go_enter Tryz.func171,Tryz.ntmps171;go_wp2_with fail;have z9a:=HZ.out;have z9c:∀o,(w.alloc o).drew.frozen? ⟨qb,9,none⟩=false:=fun o=>HZB.out o
 refine wp_region_noPanic ?_;refine wp_region_held_drew (S:=(fun w'=>w'.cell? ⟨gq,0,none⟩=some (.pointer (some ⟨qb,0,none⟩))/\w'.cell? ⟨gi,0,none⟩=some (.string id)/\w'.cell? ⟨gn,0,none⟩=some (.int .i64 now)/\w'.cell? ⟨qb,3,none⟩=some (.int .i64 c.win)/\w'.cell? ⟨qb,6,none⟩=some (.int .i64 (k:Int))/\w'.frozen? ⟨qb,9,none⟩=false)) (by kernel_rfl) (by go_keep) (fun hHeld=>?_);refine zK 0 (h:=?_);refine zK 1 (h:=?_);refine zK 2 (h:=?_);refine zK 3 (h:=?_);refine zK 5 (h:=?_);refine zK 6 (h:=?_);refine zK 7 (h:=?_);refine zK 8 (h:=?_);refine zK 9 (h:=?_);refine zK 10 (h:=?_);refine zK 11 (h:=?_);refine zK 12 (h:=?_);refine zK 13 (h:=?_);refine zK 14 (h:=?_);refine zK 15 (h:=?_);refine zK 16 (h:=?_)
 try simp only[Act.put,List.setIfInBounds_toArray,List.set_cons_zero,List.set_cons_succ]
 refine wpAnyH_ready (rs:=[4,17]) (by kernel_rfl) (by simp) ?_;refine AllReadyH.cons rfl (fun K' hK'=>?_) (AllReadyH.cons rfl (fun K' hK'=>?_) AllReadyH.nil)
 ·go_simp;refine hK'.out _ _ (by go_keep) (fun hHeld=>?_);clear hK' K'
  try simp only[Act.put,List.setIfInBounds_toArray,List.set_cons_zero,List.set_cons_succ]
  refine wpAnyH_ready (rs:=[17]) (by kernel_rfl) (by simp) ?_;refine AllReadyH.cons rfl (fun K' hK'=>?_) AllReadyH.nil;go_simp;refine hK'.out _ _ (by go_keep) (fun hHeld=>?_);clear hK' K'
  try simp only[Act.put,List.setIfInBounds_toArray,List.set_cons_zero,List.set_cons_succ]
  refine wpAnyH_ready (rs:=[18]) (by kernel_rfl) (by simp) ?_;refine AllReadyH.cons rfl (fun K' hK'=>?_) AllReadyH.nil;refine step_vals rfl (.tmp 13) (.tmp 26) 134 195 rfl Tryz.underlying134 (.agg #[.string ⟨#[]⟩,.int .i64 0,.int .i64 0]) 3 32 info219 rfl (by decide) (by decide) vd nd xd (by simp[Act.eval,Act.put]) (by first|exact own_tch HD.out ((Tch.refl [] _).alloc _).drew (fun _ _=>by simp)|exact own_tch HD.out ((Tch.refl [] _).drew.alloc _) (fun _ _=>by simp)) w.heap.size (ddV id k (now+c.win)) 1 (by simp[Act.eval,Act.put]) rfl (by decide) (by first|exact heap_alloc_new _ _|exact heap_alloc_new w _) (by intro u hu;simp at hu;rcases hu with rfl|rfl|rfl<;>rfl) (by omega) ?_;intro v' w9 ho3 hg3 hb3;obtain⟨g4,cap4,hv4,⟨s1,s2,s3,s4,s5,s6⟩,d9,⟨u1,u2,u3,u4,u5,u6⟩,d10,e10,hfin⟩:=HG.out v' w9 ho3 hg3 hb3;subst hv4;clear ho3 hg3 hb3;have HFIN:Hid (Calls Tryz.prog 172 _ _ _):=hfin;clear hfin;refine hK'.out _ _ (by go_keep) (fun hHeld=>?_);clear hK' K'
  try simp only[Act.put,List.setIfInBounds_toArray,List.set_cons_zero,List.set_cons_succ]
  refine zK 19 (h:=?_);refine zK 20 (h:=?_)
  try simp only[Act.put,List.setIfInBounds_toArray,List.set_cons_zero,List.set_cons_succ]
  refine wpAnyH_ready (rs:=[21]) (by kernel_rfl) (by simp) ?_;refine AllReadyH.cons rfl (fun K' hK'=>?_) AllReadyH.nil;go_simp;refine hK'.out _ _ (by go_keep) (fun hHeld=>?_);clear hK' K'
  try simp only[Act.put,List.setIfInBounds_toArray,List.set_cons_zero,List.set_cons_succ]
  refine wpAnyH_done (by kernel_rfl) ?_ _;refine NoPanic.normal ?_;go_wp2_with fail;refine HFIN.out.mono ?_;rintro e w2 ⟨rfl,hk2⟩;go_wp2_with fail;go_end0;exact⟨rfl,hk2⟩
 ·go_simp;refine hK'.out _ _ (by go_keep) (fun hHeld=>?_);clear hK' K'
  try simp only[Act.put,List.setIfInBounds_toArray,List.set_cons_zero,List.set_cons_succ]
  refine wpAnyH_ready (rs:=[4]) (by kernel_rfl) (by simp) ?_;refine AllReadyH.cons rfl (fun K' hK'=>?_) AllReadyH.nil;go_simp;refine hK'.out _ _ (by go_keep) (fun hHeld=>?_);clear hK' K'
  try simp only[Act.put,List.setIfInBounds_toArray,List.set_cons_zero,List.set_cons_succ]
  refine wpAnyH_ready (rs:=[18]) (by kernel_rfl) (by simp) ?_;refine AllReadyH.cons rfl (fun K' hK'=>?_) AllReadyH.nil;refine step_vals rfl (.tmp 13) (.tmp 26) 134 195 rfl Tryz.underlying134 (.agg #[.string ⟨#[]⟩,.int .i64 0,.int .i64 0]) 3 32 info219 rfl (by decide) (by decide) vd nd xd (by simp[Act.eval,Act.put]) (by first|exact own_tch HD.out ((Tch.refl [] _).alloc _).drew (fun _ _=>by simp)|exact own_tch HD.out ((Tch.refl [] _).drew.alloc _) (fun _ _=>by simp)) w.heap.size (ddV id k (now+c.win)) 1 (by simp[Act.eval,Act.put]) rfl (by decide) (by first|exact heap_alloc_new _ _|exact heap_alloc_new w _) (by intro u hu;simp at hu;rcases hu with rfl|rfl|rfl<;>rfl) (by omega) ?_;intro v' w9 ho3 hg3 hb3;obtain⟨g4,cap4,hv4,⟨s1,s2,s3,s4,s5,s6⟩,d9,⟨u1,u2,u3,u4,u5,u6⟩,d10,e10,hfin⟩:=HG.out v' w9 ho3 hg3 hb3;subst hv4;clear ho3 hg3 hb3;have HFIN:Hid (Calls Tryz.prog 172 _ _ _):=hfin;clear hfin;refine hK'.out _ _ (by go_keep) (fun hHeld=>?_);clear hK' K'
  try simp only[Act.put,List.setIfInBounds_toArray,List.set_cons_zero,List.set_cons_succ]
  refine zK 19 (h:=?_);refine zK 20 (h:=?_)
  try simp only[Act.put,List.setIfInBounds_toArray,List.set_cons_zero,List.set_cons_succ]
  refine wpAnyH_ready (rs:=[21]) (by kernel_rfl) (by simp) ?_;refine AllReadyH.cons rfl (fun K' hK'=>?_) AllReadyH.nil;go_simp;refine hK'.out _ _ (by go_keep) (fun hHeld=>?_);clear hK' K'
  try simp only[Act.put,List.setIfInBounds_toArray,List.set_cons_zero,List.set_cons_succ]
  refine wpAnyH_done (by kernel_rfl) ?_ _;refine NoPanic.normal ?_;go_wp2_with fail;refine HFIN.out.mono ?_;rintro e w2 ⟨rfl,hk2⟩;go_wp2_with fail;go_end0;exact⟨rfl,hk2⟩
end Go.Proofs.YtbdobaapadlcjabGreatDoor
