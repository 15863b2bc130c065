import Derived.Test.YtbdobaapadlcjabGreatDoorHy12
set_option maxRecDepth 8000
set_option maxHeartbeats 4000000
set_option linter.unusedVariables false
set_option linter.unusedSimpArgs false
namespace Go.Proofs.YtbdobaapadlcjabGreatDoor
open Go.RowKit
variable {w w' a b:World}{qb base:Nat}{V:QV}{Q:QM}{v:Value}
def tilQ (Q:QM)(num til:Int):QM:=match Q.ms.find? (isN num) with
 | some m=>{Q with ms:=Q.ms.set (idxL (isN num) Q.ms).toNat {m with til:=til}}
 | none=>Q
theorem QR.fzM (h:QR w qb V Q){g c:Nat}(hv:V.m=.slice (some ⟨g,0,none⟩) Q.ms.length c)(j:Nat):w.frozen? ⟨g,j,none⟩=false:=by
 have hm:=h.m;rw[hv]at hm;exact World.ownsRow.frozenAt hm j
theorem QR.setQ (h:QR w qb V Q){gm cm:Nat}(hvm:V.m=.slice (some ⟨gm,0,none⟩) Q.ms.length cm)(i:Nat)(til:Int)(hi:i<Q.ms.length):
  QS w (w.setCell ⟨gm,i*5+4,none⟩ (.int .i64 til)) qb V V {Q with ms:=Q.ms.set i {Q.ms[i] with til:=til}}:=by
 obtain⟨h1,h2,_⟩:=h.setM hvm i 4 (.int .i64 til) {Q.ms[i] with til:=til} hi (by decide) rfl;exact⟨h1,h2.sub (fun x hx _=>mem_qbl.2 (.inr (.inl (by rw[hvm];simp at hx;simp[Value.ownBlock,hx])))),fun _ h=>.inl h⟩
theorem extend_any (Q:QM)(V:QV)(qb:Nat)(num til:Int)(w:World)(h:QR w qb V Q)(hl:Q.ms.length<=1000)(hn:0<=idxL (isN num) Q.ms):
  Calls Tryz.prog 159 #[.pointer (some ⟨qb,0,none⟩),.int .i64 num,.int .i64 til] w fun e w'=>e=.returned (.tuple #[])/\QL w w' qb V (tilQ Q num til):=by
 obtain⟨i,hi⟩:∃i:Nat,idxL (isN num) Q.ms=(i:Int):=⟨_,(Int.toNat_of_nonneg hn).symm⟩;obtain⟨hil,hp,hfi⟩:=idxL_fnd _ _ i hi;have hdq:tilQ Q num til={Q with ms:=Q.ms.set i {Q.ms[i] with til:=til}}:=by
  unfold tilQ;rw[hfi,hi];rfl
 generalize tilQ Q num til=QD at*
 obtain⟨g,c,hv,hg,hc⟩:=h.msc i hil;have HF:Hid (Calls Tryz.prog 182 #[.pointer (some ⟨qb,0,none⟩),.int .i64 num] w.drew fun e w'=>e=.returned (.int .i64 (i:Int))/\w'.cell? ⟨qb,7,none⟩=some (.slice (some ⟨g,0,none⟩) Q.ms.length c)/\w'.cell? ⟨g,i*5+4,none⟩=some (.int .i64 Q.ms[i].til)/\w'.frozen? ⟨g,i*5+4,none⟩=false/\(w'.setCell ⟨g,i*5+4,none⟩ (.int .i64 til)).cell? ⟨qb,7,none⟩=some (.slice (some ⟨g,0,none⟩) Q.ms.length c)/\QL w (w'.setCell ⟨g,i*5+4,none⟩ (.int .i64 til)) qb V QD):=by
  have h1:=find_gen num qb V.m Q.ms w.drew (cell_qC h.blk 7 _ rfl) (own_tch h.m (Tch.refl [] w).drew (by simp)) (by omega);rw[hi]at h1;refine h1.mono ?_;rintro e w' ⟨he,hb⟩;have t:Tch [] w w':=(Tch.refl [] w).drew.trans (Tch.of_below hb) (by simp);have hq:=h.tch t (by simp);obtain⟨g2,c2,hv2,hg2,hc2⟩:=hq.msc i hil;rw[hv]at hv2;simp only[Value.slice.injEq,Option.some.injEq,Addr.mk.injEq,and_true,true_and]at hv2;obtain⟨rfl,rfl⟩:=hv2;have hs:=hq.setQ hv i til hil;refine⟨he,by rw[<-hv];exact cell_qC hq.blk 7 _ rfl,hc2 4 _ rfl,hq.fzM hv _,by rw[<-hv];exact cell_qC hs.qr.blk 7 _ rfl,?_⟩;rw[hdq];exact((h.qs t).trans hs).ql
 have c7:w.cell? ⟨qb,7,none⟩=some (.slice (some ⟨g,0,none⟩) Q.ms.length c):=by rw[<-hv];exact cell_qC h.blk 7 _ rfl
 clear hi hfi hp hdq hc hn h;go_enter Tryz.func159,Tryz.ntmps159;go_wp2_with fail
 go_region_held3 (fun w'=>w'.cell? ⟨qb,7,none⟩=some (.slice (some ⟨g,0,none⟩) Q.ms.length c)) (go_keep) (first|(go_at_call 182;refine HF.out.mono ?_;rintro e w1 ⟨rfl,k7,k4,z4,k7',hql⟩;have HQL:Hid (QL w _ qb V QD):=hql;clear hql))
 all_goals (go_wp2_with fail;go_end0;exact⟨rfl,HQL.out⟩)
def upQ (c:Wp.Rq)(rcv:Int):Bool:=decide (0<c.rcv)&&decide (c.rcv<=rcv)
theorem givesUp_any (Q:QM)(V:QV)(qb:Nat)(m:Ms)(w:World)(h:QR w qb V Q):
  zT 186 #[.pointer (some ⟨qb,0,none⟩),.agg #[.int .i64 m.num,.string m.grp,.string m.bod,.int .i64 m.rcv,.int .i64 m.til]] w (.bool (upQ Q.c m.rcv)):=by
 obtain⟨wb,hwb⟩:∃wb,wb=w.alloc (.cells #[.int .i64 m.num,.string m.grp,.string m.bod,.int .i64 m.rcv,.int .i64 m.til] 191):=⟨_,rfl⟩;have HT:Hid (Tch [] w wb):=by rw[hwb];exact(Tch.refl _ _).alloc _
 have HBX:Hid (wb.heap[w.heap.size]?=some (.cells #[.int .i64 m.num,.string m.grp,.string m.bod,.int .i64 m.rcv,.int .i64 m.til] 191 (0,0))):=by rw[hwb];exact heap_alloc_new _ _
 have hq:=h.tch HT.out (by simp);have c4:wb.cell? ⟨qb,4,none⟩=some (.int .i64 Q.c.rcv):=cell_qC hq.blk 4 _ rfl;have b3:wb.cell? ⟨w.heap.size,3,none⟩=some (.int .i64 m.rcv):=cell_qC HBX.out 3 _ rfl;have HU:Hid (upQ Q.c m.rcv=(decide (0<Q.c.rcv)&&decide (Q.c.rcv<=m.rcv))):=rfl;clear h hq;generalize Q.c.rcv=R at*
 go_enter Tryz.func186,Tryz.ntmps186;go_wp2_with fail;rw[<-hwb];clear hwb
 by_cases hR:0<R
 ·have hd:decide ((0:Int)<R)=true:=decide_eq_true hR;go_wp2_with fail;go_quiet (fail);go_wp2_with fail;go_ret;exact⟨ret_bool (by rw[HU.out,hd];simp),HT.out.drewN _⟩
 ·have hd:decide ((0:Int)<R)=false:=decide_eq_false hR;go_wp2_with fail;go_quiet (fail);go_wp2_with fail;go_ret;exact⟨ret_bool (by rw[HU.out,hd];simp),HT.out.drewN _⟩
def roomQ (Q:QM)(n:Nat):Bool:=decide (((Q.ms.length+n:Nat):Int)<=Q.c.quo)&&decide (Q.next+n<=201)
theorem hasRoom_any (Q:QM)(V:QV)(qb n:Nat)(w:World)(h:QR w qb V Q)(hl:Q.ms.length<=1000)(hn:n<=1000)(hx:Q.next<=1000):
  zT 187 #[.pointer (some ⟨qb,0,none⟩),.int .i64 (n:Int)] w (.bool (roomQ Q n)):=by
 obtain⟨am,cm,hvm⟩:=own_shape h.m;have c7:w.cell? ⟨qb,7,none⟩=some (.slice am Q.ms.length cm):=by rw[<-hvm];exact cell_qC h.blk 7 _ rfl
 have c5:w.cell? ⟨qb,5,none⟩=some (.int .i64 Q.c.quo):=cell_qC h.blk 5 _ rfl;have c6:w.cell? ⟨qb,6,none⟩=some (.int .i64 (Q.next:Int)):=cell_qC h.blk 6 _ rfl;have HU:Hid (roomQ Q n=(decide (((Q.ms.length:Int)+(n:Int))<=Q.c.quo)&&decide ((Q.next:Int)+(n:Int)<=201))):=by
  show _=_
  unfold roomQ;congr 1;exact decide_eq_decide.2 (by omega)
 clear h;generalize Q.c.quo=R at*
 generalize Q.ms.length=nm at*
 generalize Q.next=nx at*
 go_enter Tryz.func187,Tryz.ntmps187
 by_cases hR:(nm:Int)+(n:Int)<=R
 ·have hd:decide ((nm:Int)+(n:Int)<=R)=true:=decide_eq_true hR;go_wp2_with fail;go_quiet (fail);go_wp2_with fail;go_ret;exact⟨ret_bool (by rw[HU.out,hd];simp),(Tch.refl [] w).drewN _⟩
 ·have hd:decide ((nm:Int)+(n:Int)<=R)=false:=decide_eq_false hR;go_wp2_with fail;go_quiet (fail);go_wp2_with fail;go_ret;exact⟨ret_bool (by rw[HU.out,hd];simp),(Tch.refl [] w).drewN _⟩
def cntG (g:ByteArray)(l:List Ms):Nat:=(l.filter (isG g)).length
theorem cntG_le (g:ByteArray)(l:List Ms):cntG g l<=l.length:=List.length_filter_le _ _
theorem cntG_succ (g:ByteArray)(l:List Ms)(j:Nat)(hj:j<l.length):cntG g (l.take (j+1))=cntG g (l.take j)+if isG g l[j]=true then 1 else 0:=by
 unfold cntG;rw[List.take_succ_eq_append_getElem hj,List.filter_append,List.length_append];congr 1
 by_cases h:isG g l[j]=true
 ·simp[h]
 ·simp[h]
theorem count_any (Q:QM)(V:QV)(qb:Nat)(gr:ByteArray)(w:World)(h:QR w qb V Q)(hl:Q.ms.length<=1000):
  zT 188 #[.pointer (some ⟨qb,0,none⟩),.string gr] w (.int .i64 (cntG gr Q.ms:Nat)):=by
 obtain⟨am,cm,hvm⟩:=own_shape h.m;have c7:w.cell? ⟨qb,7,none⟩=some (.slice am Q.ms.length cm):=by rw[<-hvm];exact cell_qC h.blk 7 _ rfl
 have HQ:=zH h;have HV:=zH hvm;clear h hvm;go_enter Tryz.func188,Tryz.ntmps188;go_wp2_with fail
 go_loopw [5,13] (fun nv jv wr=>∃j:Nat,j<=Q.ms.length/\nv=.int .i64 (cntG gr (Q.ms.take j):Nat)/\jv=.int .i64 (j:Int)/\Tch [] w wr) (fun _ jv _=>Q.ms.length-(intOf jv).toNat)
 case atStart=>exact⟨0,Nat.zero_le _,by simp[cntG],rfl,Tch.refl _ _⟩
 case round=>
  obtain⟨j,hj,rfl,rfl,ht⟩:=hrel;have HT:=zH ht
  by_cases hlt:j<Q.ms.length
  ·have hq:=HQ.out.tch ht (by simp);obtain⟨g,c,hv,hg,hc⟩:=hq.msc j hlt;rw[HV.out]at hv;simp only[Value.slice.injEq,true_and]at hv;obtain⟨rfl,rfl⟩:=hv;have g0:wr.cell? ⟨g,j*5,none⟩=some (.int .i64 Q.ms[j].num):=hc 0 _ rfl;have g1:wr.cell? ⟨g,j*5+1,none⟩=some (.string Q.ms[j].grp):=hc 1 _ rfl;have g2:wr.cell? ⟨g,j*5+2,none⟩=some (.string Q.ms[j].bod):=hc 2 _ rfl;have g3:wr.cell? ⟨g,j*5+3,none⟩=some (.int .i64 Q.ms[j].rcv):=hc 3 _ rfl;have g4:wr.cell? ⟨g,j*5+4,none⟩=some (.int .i64 Q.ms[j].til):=hc 4 _ rfl;have HC:Hid (cntG gr (Q.ms.take (j+1))=cntG gr (Q.ms.take j)+if isG gr Q.ms[j]=true then 1 else 0):=cntG_succ gr Q.ms j hlt;have hb:=cntG_le gr (Q.ms.take j);have hb2:(Q.ms.take j).length<=j:=by rw[List.length_take];omega
   have hb3:cntG gr (Q.ms.take j)<=1000:=by omega
   clear hc hq ht hb hb2
   by_cases he:(Q.ms[j].grp.toList == gr.toList)=true
   ·have HE:Hid (isG gr Q.ms[j]=true):=he;go_wp2_with fail;go_roundw
    case rel=>exact⟨j+1,by omega,by rw[HC.out,HE.out,if_pos rfl];go_num,by go_num,HT.out.alloc _⟩
    case measure=>simp[intOf];omega
   ·have he':(Q.ms[j].grp.toList == gr.toList)=false:=by simpa using he
    have HE:Hid (isG gr Q.ms[j]=false):=he';clear he;go_wp2_with fail;go_roundw
    case rel=>exact⟨j+1,by omega,by rw[HC.out,HE.out,if_neg (by decide)];rfl,by go_num,HT.out.alloc _⟩
    case measure=>simp[intOf];omega
  ·have hje:j=Q.ms.length:=by omega
   subst hje;go_wp2_with fail;go_ret;exact⟨ret_i64 (by rw[List.take_length]),HT.out⟩
def putQ (Q:QM)(g b:ByteArray):QM:=
 {Q with next:=Q.next+1,ms:=Q.ms++[⟨(Q.next:Nat),g,b,0,0⟩],rs:=if idxL (isG g) Q.ms<0 then Q.rs++[g] else Q.rs}
theorem put_q (Q:QM)(V:QV)(qb:Nat)(g b:ByteArray)(w:World)(h:QR w qb V Q)(hnm:Q.ms.length<=1000)(hnr:Q.rs.length<=1000)(hk:Q.next<=200):
  Calls Tryz.prog 172 #[.pointer (some ⟨qb,0,none⟩),.string g,.string b] w fun e w'=>e=.returned (.tuple #[])/\QL w w' qb V (putQ Q g b):=by
 refine putg_walk (fun w'=>QL w w' qb V (putQ Q g b)) Q.c g b qb Q.next Q.rs.length V.m V.r V.d V.a Q.ms (Q.rs.map Value.string) w h.blk h.m h.r hnm hnr hk ?_;intro w' ms' rs' hq hm hr hN1 hN2 ht;have hS:∀k∈(qb::(bl V.m++bl V.r)),k=qb\/V.m.ownBlock=some k\/V.r.ownBlock=some k:=fun k hk=>by
  rcases List.mem_cons.1 hk with e|e
  ·exact .inl e
  ·rcases List.mem_append.1 e with e|e
   ·exact .inr (.inl (mem_bl.1 e))
   ·exact .inr (.inr (mem_bl.1 e))
 have hd:w'.ownsRow 0 195 3 V.d Q.ds.length (Q.ds.flatMap Dd.row):=own_tch h.d ht (fun k hk hm'=>by
  rcases hS k hm' with e|e|e
  ·subst e;exact own_ne h.d h.blk (by decide) hk
  ·exact own_sep h.d h.m (by decide) k hk (mem_bl.2 e)
  ·exact own_sep h.d h.r (by decide) k hk (mem_bl.2 e))
 have ha:w'.ownsRow 0 199 3 V.a Q.ats.length (Q.ats.flatMap At.row):=own_tch h.a ht (fun k hk hm'=>by
  rcases hS k hm' with e|e|e
  ·subst e;exact own_ne h.a h.blk (by decide) hk
  ·exact own_sep h.a h.m (by decide) k hk (mem_bl.2 e)
  ·exact own_sep h.a h.r (by decide) k hk (mem_bl.2 e))
 refine⟨⟨ms',rs',V.d,V.a⟩,⟨hq,?_,?_,hd,ha⟩,ht.sub (fun x hx _=>?_),fun k hk=>?_⟩
 ·simpa [putQ,Ms.row]using hm
 ·show w'.ownsRow 0 9 1 rs' (putQ Q g b).rs.length ((putQ Q g b).rs.map Value.string)
  simp only[putQ,rs_len,rs_map];exact hr
 ·rcases hS x hx with e|e|e
  ·exact mem_qbl.2 (.inl e)
  ·exact mem_qbl.2 (.inr (.inl e))
  ·exact mem_qbl.2 (.inr (.inr (.inl e)))
 ·rcases mem_qbl.1 hk with e|e|e|e|e
  ·exact .inl (mem_qbl.2 (.inl e))
  ·exact(hN1 k e).imp (fun h=>mem_qbl.2 (.inr (.inl h))) id
  ·exact(hN2 k e).imp (fun h=>mem_qbl.2 (.inr (.inr (.inl h)))) id
  ·exact .inl (mem_qbl.2 (.inr (.inr (.inr (.inl e)))))
  ·exact .inl (mem_qbl.2 (.inr (.inr (.inr (.inr e)))))
theorem own_blk {t:TypeId}{size n:Nat}{xs:List Value}(h:w.ownsRow base t size v n xs)(hS:∀k,v.ownBlock=some k->w'.heap[k]?=w.heap[k]?):w'.ownsRow base t size v n xs:=by
 refine⟨h.1,?_⟩;rcases h.2 with hn|⟨g,cap,cur,rfl,hb,hg,rest⟩
 ·exact .inl hn
 ·exact .inr ⟨g,cap,cur,rfl,hb,(hS g rfl).trans hg,rest⟩
theorem QR.below (h:QR w qb V Q)(hlo:∀b∈qbl qb V,b<base)(hb:Below base w w'):QR w' qb V Q:=
 ⟨(hb.block _ (hlo _ (by simp[qbl]))).trans h.blk,own_blk h.m (fun k hk=>hb.block _ (hlo k (mem_qbl.2 (.inr (.inl hk))))),own_blk h.r (fun k hk=>hb.block _ (hlo k (mem_qbl.2 (.inr (.inr (.inl hk)))))),own_blk h.d (fun k hk=>hb.block _ (hlo k (mem_qbl.2 (.inr (.inr (.inr (.inl hk))))))),own_blk h.a (fun k hk=>hb.block _ (hlo k (mem_qbl.2 (.inr (.inr (.inr (.inr hk)))))))⟩
def BF (base:Nat)(w w':World):Prop:=Below base w w'/\Fr 0 [5] w w'
theorem BF.refl (base:Nat)(w:World):BF base w w:=⟨Below.refl _ _,Fr.refl _ _ _⟩
theorem BF.trans {c:World}(h:BF base a b)(k:BF base b c):BF base a c:=⟨h.1.trans k.1,h.2.trans k.2⟩
theorem BF.alloc (h:BF base a b)(hb:base<=b.heap.size)(o:Obj):BF base a (b.alloc o):=⟨h.1.alloc hb o,h.2.trans (Fr.of_nil [5] ((Tch.refl [] b).alloc o) (Nat.zero_le _))⟩
theorem BF.grown {w1:World}(h:BF base a w){v:Value}{l:List UInt8}(ho:OwnB w base v l)(hg:w.grownBy w1 v.ownBlock)(hb:base<=w.heap.size):BF base a w1:=
 ⟨Below.grown h.1 hg hb (fun k hk=>(World.ownsRow.lt ho k hk).1),h.2.grown5' ho hg⟩
theorem BF.size (h:BF base a b):a.heap.size<=b.heap.size:=h.1.size
def inN (n:Int):Prop:=0<=n/\n<4294967296
theorem appendInt_f (base:Nat)(v:Value)(l:List UInt8)(n:Int)(size:Nat)(w:World)(hn:inN n)(hs:size<=8)(hl:l.length<=1099511627776)(hb:base<=w.heap.size)(hown:OwnB w base v l):
  Calls Tryz.prog 46 #[v,.int .i64 n,.int .i64 (size:Int)] w fun e w'=>∃v',e=.returned v'/\OwnB w' base v' (l++lowB n.toNat size)/\Below base w w'/\Fr 0 [5] w w':=by
 have h:=appendNumber_f base v l n.toNat size w (by have:=hn.1;have:=hn.2;omega) hs hl hb hown;rw[Int.toNat_of_nonneg hn.1]at h;exact h
def setB (c:Wp.Rq):List UInt8:=(((lowB c.vis.toNat 2++lowB c.win.toNat 2)++lowB c.rcv.toNat 1)++[c.d])++lowB c.quo.toNat 1
theorem setB_length (c:Wp.Rq):(setB c).length=7:=by simp[setB,lowB_length]
structure CoK (c:Wp.Rq):Prop where
 vis:inN c.vis
 win:inN c.win
 rcv:inN c.rcv
 quo:inN c.quo
theorem appSet_any (base:Nat)(v:Value)(l:List UInt8)(Q:QM)(V:QV)(qb:Nat)(w:World)(h:QR w qb V Q)(hlo:∀b∈qbl qb V,b<base)(hc:CoK Q.c)(hl:l.length<=1000000000)(hb:base<=w.heap.size)(hown:OwnB w base v l):
  Calls Tryz.prog 95 #[.pointer (some ⟨qb,0,none⟩),v] w fun e w'=>∃v',e=.returned v'/\OwnB w' base v' (l++setB Q.c)/\BF base w w':=by
 obtain⟨i0,hi,hz0,hz1,hz2⟩:=info_parts info5;have HQ:Hid (∀W,BF base w W->QR W qb V Q):=fun W hW=>h.below hlo hW.1
 have lqb:=hlo qb (by simp[qbl]);have c2:w.cell? ⟨qb,2,none⟩=some (.int .i64 Q.c.vis):=cell_qC h.blk 2 _ rfl;have H1:Hid (Calls Tryz.prog 46 #[v,.int .i64 Q.c.vis,.int .i64 2] w fun e w'=>∃v',e=.returned v'/\OwnB w' base v' (l++lowB Q.c.vis.toNat 2)/\Below base w w'/\Fr 0 [5] w w'):=appendInt_f base v l Q.c.vis 2 w hc.vis (by decide) (by omega) hb hown;have HC:=zH hc;clear h hown hc;go_enter Tryz.func95,Tryz.ntmps95;go_wp2_with fail;refine H1.out.mono ?_;rintro e w1 ⟨v1,rfl,ho1,hb1,hf1⟩;have q1:=HQ.out w1 ⟨hb1,hf1⟩;have z1:=hb1.size;have d3:w1.cell? ⟨qb,3,none⟩=some (.int .i64 Q.c.win):=cell_qC q1.blk 3 _ rfl;have H2:Hid (Calls Tryz.prog 46 #[v1,.int .i64 Q.c.win,.int .i64 2] w1 fun e w'=>∃v',e=.returned v'/\OwnB w' base v' ((l++lowB Q.c.vis.toNat 2)++lowB Q.c.win.toNat 2)/\Below base w1 w'/\Fr 0 [5] w1 w'):=appendInt_f base v1 _ Q.c.win 2 w1 HC.out.win (by decide) (by simp[lowB_length];omega) (by omega) ho1;have HB1:Hid (BF base w w1):=⟨hb1,hf1⟩;clear ho1 hb1 hf1 q1 c2 H1;go_wp2_with fail;refine H2.out.mono ?_;rintro e w2 ⟨v2,rfl,ho2,hb2,hf2⟩;have HB2:=zH (HB1.out.trans ⟨hb2,hf2⟩);have q2:=HQ.out w2 HB2.out;have z2:=hb2.size;have d4:w2.cell? ⟨qb,4,none⟩=some (.int .i64 Q.c.rcv):=cell_qC q2.blk 4 _ rfl;have H3:Hid (Calls Tryz.prog 46 #[v2,.int .i64 Q.c.rcv,.int .i64 1] w2 fun e w'=>∃v',e=.returned v'/\OwnB w' base v' (((l++lowB Q.c.vis.toNat 2)++lowB Q.c.win.toNat 2)++lowB Q.c.rcv.toNat 1)/\Below base w2 w'/\Fr 0 [5] w2 w'):=appendInt_f base v2 _ Q.c.rcv 1 w2 HC.out.rcv (by decide) (by simp[lowB_length];omega) (by omega) ho2;clear ho2 hb2 hf2 q2 d3 H2;go_wp2_with fail;refine H3.out.mono ?_;rintro e w3 ⟨v3,rfl,ho3,hb3,hf3⟩;have HB3:=zH (HB2.out.trans ⟨hb3,hf3⟩);have q3:=HQ.out w3 HB3.out;have z3:=hb3.size;have d1:w3.cell? ⟨qb,1,none⟩=some (.int .u8 (Q.c.d.toNat:Int)):=cell_qC q3.blk 1 _ rfl;have hle:(((l++lowB Q.c.vis.toNat 2)++lowB Q.c.win.toNat 2)++lowB Q.c.rcv.toNat 1).length<=1000000010:=by simp[lowB_length];omega
 have HL:Hid (l++setB Q.c=((((l++lowB Q.c.vis.toNat 2)++lowB Q.c.win.toNat 2)++lowB Q.c.rcv.toNat 1)++[Q.c.d])++lowB Q.c.quo.toNat 1):=by show _=_;simp[setB]
 generalize (((l++lowB Q.c.vis.toNat 2)++lowB Q.c.win.toNat 2)++lowB Q.c.rcv.toNat 1)=L at ho3 hle HL;have HO:=zH ho3;clear ho3 hb3 hf3 q3 d4 H3;go_wp2_with (at_builtin;refine wpList_append_own _ rfl _ _ 54 rfl base 5 i0 (.int .u8 0) 1 1 Tryz.underlying54 hi hz0 hz1 hz2 rfl (by decide) _ _ _ rfl (World.ownsRow.alloc HO.out _) ⟨w3.heap.size,0,none⟩ 1 1 [.int .u8 (Q.c.d.toNat:Int)] rfl rfl ?c1 ?c2 ?c3 ?c4 ?c5 ?_)
 case c1=>exact cell_one_new _ _ _
 case c2=>intro u hu;simp at hu;subst hu;rfl
 case c3=>unfold maxLen;omega
 case c4=>omega
 case c5=>simp;omega
 intro v4 w4 hown' hgrow _;have ho4:OwnB w4 base v4 (L++[Q.c.d]):=OwnB.snoc rfl hown';have hb4:BF base w w4:=BF.grown ((HB3.out).alloc (by omega) _) (World.ownsRow.alloc HO.out _) hgrow (by simp;omega);have q4:=HQ.out w4 hb4;have z4:=hb4.size;have d5:w4.cell? ⟨qb,5,none⟩=some (.int .i64 Q.c.quo):=cell_qC q4.blk 5 _ rfl;have H4:Hid (Calls Tryz.prog 46 #[v4,.int .i64 Q.c.quo,.int .i64 1] w4 fun e w'=>∃v',e=.returned v'/\OwnB w' base v' ((L++[Q.c.d])++lowB Q.c.quo.toNat 1)/\Below base w4 w'/\Fr 0 [5] w4 w'):=appendInt_f base v4 _ Q.c.quo 1 w4 HC.out.quo (by decide) (by rw[List.length_append];simp;omega) (by omega) ho4;have HB4:=zH hb4;clear hown' hgrow ho4 hb4 q4 d1;go_wp2_with fail;refine H4.out.mono ?_;rintro e w5 ⟨v5,rfl,ho5,hb5,hf5⟩;rw[<-HL.out]at ho5;have H5:Hid (OwnB w5 base v5 (l++setB Q.c)/\BF base w w5):=⟨ho5,HB4.out.trans ⟨hb5,hf5⟩⟩;clear ho5 hb5 hf5 H4;go_wp2_with fail;go_ret;exact⟨_,rfl,H5.out.1,H5.out.2⟩
def msB (m:Ms):List UInt8:=(((lowB m.num.toNat 4++txtB m.grp)++txtB m.bod)++lowB m.rcv.toNat 2)++lowB m.til.toNat 4
structure MsW (m:Ms):Prop where
 num:inN m.num
 rcv:inN m.rcv
 til:inN m.til
 grp:m.grp.size<=8
 bod:m.bod.size<=40
theorem msB_len (m:Ms):(msB m).length=12+m.grp.size+m.bod.size:=by simp only[msB,List.length_append,lowB_length,txtB_length];omega
def ddB (m:Dd):List UInt8:=(txtB m.id++lowB m.num.toNat 4)++lowB m.til.toNat 4
structure DdW (m:Dd):Prop where
 id:m.id.size<=8
 num:inN m.num
 til:inN m.til
theorem ddB_len (m:Dd):(ddB m).length=9+m.id.size:=by simp only[ddB,List.length_append,lowB_length,txtB_length];omega
def atB (m:At):List UInt8:=((txtB m.id++lowB m.til.toNat 4)++lowB m.ans.size 2)++m.ans.data.toList
structure AtW (m:At):Prop where
 id:m.id.size<=8
 til:inN m.til
 ans:m.ans.size<=600
theorem atB_len (m:At):(atB m).length=7+m.id.size+m.ans.size:=by
 simp only[atB,List.length_append,lowB_length,txtB_length];have:m.ans.data.toList.length=m.ans.size:=rfl;omega
theorem flt_len {α:Type}(f:α->List UInt8)(b:Nat)(l:List α)(h:∀x∈l,(f x).length<=b):(l.flatMap f).length<=b*l.length:=by
 induction l with
 | nil=>simp
 | cons x r ih=>
  have h1:=ih (fun s hs=>h s (List.mem_cons_of_mem _ hs));have h2:=h x List.mem_cons_self;rw[List.flatMap_cons,List.length_append,List.length_cons,Nat.mul_add];omega
theorem flt_succ {α:Type}(f:α->List UInt8)(L:List UInt8)(l:List α)(k:Nat)(h:k<l.length):L++(l.take (k+1)).flatMap f=(L++(l.take k).flatMap f)++f l[k]:=by
 rw[List.take_succ_eq_append_getElem h,List.flatMap_append,List.flatMap_singleton,<-List.append_assoc]
theorem QR.dsc (h:QR w qb V Q)(i:Nat)(hi:i<Q.ds.length):∃g c,V.d=.slice (some ⟨g,0,none⟩) Q.ds.length c/\g<w.heap.size/\∀j u,(Q.ds[i].row)[j]?=some u->w.cell? ⟨g,i*3+j,none⟩=some u:=by
 have inh:Inhabited Dd:=⟨⟨⟨#[]⟩,0,0⟩⟩;obtain⟨g,c,hv⟩:∃g c,V.d=.slice (some ⟨g,0,none⟩) Q.ds.length c:=by
  rcases h.d.2 with ⟨h0,h1⟩|⟨g,cap,cur,h0,_⟩
  ·omega
  ·exact⟨_,_,h0⟩
 have hm:=h.d;rw[hv]at hm;have hc:∀j u,(Q.ds[i].row)[j]?=some u->w.cell? ⟨g,i*3+j,none⟩=some u:=fun j u hj=>by
  have h1:=own_cells Dd.row 3 (fun _=>rfl) hm i hi j u (by rw[List.getElem!_eq_getElem?_getD,List.getElem?_eq_getElem hi];exact hj);simpa using h1
 exact⟨g,c,hv,World.block_lt_of_cell? _ _ (hc 0 _ rfl),hc⟩
theorem QR.asc (h:QR w qb V Q)(i:Nat)(hi:i<Q.ats.length):∃g c,V.a=.slice (some ⟨g,0,none⟩) Q.ats.length c/\g<w.heap.size/\∀j u,(Q.ats[i].row)[j]?=some u->w.cell? ⟨g,i*3+j,none⟩=some u:=by
 have inh:Inhabited At:=⟨⟨⟨#[]⟩,0,⟨#[]⟩⟩⟩;obtain⟨g,c,hv⟩:∃g c,V.a=.slice (some ⟨g,0,none⟩) Q.ats.length c:=by
  rcases h.a.2 with ⟨h0,h1⟩|⟨g,cap,cur,h0,_⟩
  ·omega
  ·exact⟨_,_,h0⟩
 have hm:=h.a;rw[hv]at hm;have hc:∀j u,(Q.ats[i].row)[j]?=some u->w.cell? ⟨g,i*3+j,none⟩=some u:=fun j u hj=>by
  have h1:=own_cells At.row 3 (fun _=>rfl) hm i hi j u (by rw[List.getElem!_eq_getElem?_getD,List.getElem?_eq_getElem hi];exact hj);simpa using h1
 exact⟨g,c,hv,World.block_lt_of_cell? _ _ (hc 0 _ rfl),hc⟩
theorem appMs_any (base:Nat)(v:Value)(l:List UInt8)(Q:QM)(V:QV)(qb:Nat)(w:World)(h:QR w qb V Q)(hlo:∀b∈qbl qb V,b<base)(hn:Q.ms.length<=1000)(hW:∀m∈Q.ms,MsW m)(hl:l.length<=1000000000)(hb:base<=w.heap.size)(hown:OwnB w base v l):
  Calls Tryz.prog 96 #[.pointer (some ⟨qb,0,none⟩),v] w fun e w'=>∃v',e=.returned v'/\OwnB w' base v' (l++(lowB Q.ms.length 1++Q.ms.flatMap msB))/\BF base w w':=by
 obtain⟨i0,hi,hz0,hz1,hz2⟩:=info_parts info5;have HQ:Hid (∀W,BF base w W->QR W qb V Q):=fun W hW=>h.below hlo hW.1
 have lqb:=hlo qb (by simp[qbl]);obtain⟨am,cm,hvm⟩:=own_shape h.m;have HV:=zH hvm;have c7:w.cell? ⟨qb,7,none⟩=some (.slice am Q.ms.length cm):=by rw[<-hvm];exact cell_qC h.blk 7 _ rfl
 have H1:Hid (Calls Tryz.prog 46 #[v,.int .i64 (Q.ms.length:Int),.int .i64 1] w fun e w'=>∃v',e=.returned v'/\OwnB w' base v' (l++lowB Q.ms.length 1)/\Below base w w'/\Fr 0 [5] w w'):=appendNumber_f base v l Q.ms.length 1 w (by omega) (by decide) (by omega) hb hown;have HW:=zH hW;clear h hown hW hvm;go_enter Tryz.func96,Tryz.ntmps96;go_wp2_with fail;refine H1.out.mono ?_;rintro e w1 ⟨v1,rfl,ho1,hb1,hf1⟩;have q1:=HQ.out w1 ⟨hb1,hf1⟩;have z1:=hb1.size;have d7:w1.cell? ⟨qb,7,none⟩=some (.slice am Q.ms.length cm):=by rw[<-HV.out];exact cell_qC q1.blk 7 _ rfl
 have HLE:Hid ((l++lowB Q.ms.length 1).length<=1000000010):=by show _<=_;rw[List.length_append,lowB_length];omega
 have HLS:Hid (l++(lowB Q.ms.length 1++Q.ms.flatMap msB)=(l++lowB Q.ms.length 1)++Q.ms.flatMap msB):=by show _=_;rw[List.append_assoc]
 generalize l++lowB Q.ms.length 1=L at ho1 HLE HLS;have HO1:=zH ho1;have HB1:Hid (BF base w w1):=⟨hb1,hf1⟩;clear ho1 hb1 hf1 q1 c7 H1;go_wp2_with fail
 go_loopw [1,19] (fun o i wr=>∃k:Nat,k<=Q.ms.length/\i=.int .i64 (k:Int)/\OwnB wr base o (L++(Q.ms.take k).flatMap msB)/\BF base w wr) (fun _ i _=>Q.ms.length-(intOf i).toNat)
 case atStart=>exact⟨0,Nat.zero_le _,rfl,by simpa using HO1.out,HB1.out⟩
 case round=>
  obtain⟨k,hk,rfl,ho,hbr⟩:=hrel
  by_cases hlt:k<Q.ms.length
  ·have hq:=HQ.out wr hbr;obtain⟨g,c,hv,hg,hc⟩:=hq.msc k hlt;rw[HV.out]at hv;simp only[Value.slice.injEq,true_and]at hv;obtain⟨rfl,rfl⟩:=hv;have hw:=HW.out _ (List.getElem_mem hlt);have hle:(L++(Q.ms.take k).flatMap msB).length<=1100000000:=by
    rw[List.length_append];have h1:=flt_len msB 60 (Q.ms.take k) (fun m hm=>by have h2:=HW.out m (List.mem_of_mem_take hm);rw[msB_len];have:=h2.grp;have:=h2.bod;omega);have h2:=HLE.out;rw[List.length_take]at h1;have h3:60*min k Q.ms.length<=60*1000:=Nat.mul_le_mul_left _ (by omega);omega
   have HS:=zH (flt_succ msB L Q.ms k hlt);obtain⟨L2,HG2⟩:∃L2,Hid (L++(Q.ms.take (k+1)).flatMap msB=L2):=⟨_,rfl⟩;rw[HG2.out]at HS;generalize L++(Q.ms.take k).flatMap msB=L1 at HS ho hle;generalize Q.ms[k]=m at*
   have g0:wr.cell? ⟨g,k*5,none⟩=some (.int .i64 m.num):=hc 0 _ rfl;have g1:wr.cell? ⟨g,k*5+1,none⟩=some (.string m.grp):=hc 1 _ rfl;have g2:wr.cell? ⟨g,k*5+2,none⟩=some (.string m.bod):=hc 2 _ rfl;have g3:wr.cell? ⟨g,k*5+3,none⟩=some (.int .i64 m.rcv):=hc 3 _ rfl;have g4:wr.cell? ⟨g,k*5+4,none⟩=some (.int .i64 m.til):=hc 4 _ rfl;have zr:=hbr.size;have HBR:Hid (BF base w (wr.alloc (.cells #[.int .i64 m.num,.string m.grp,.string m.bod,.int .i64 m.rcv,.int .i64 m.til] 191))):=hbr.alloc (by omega) _;have HX0:Hid ((wr.alloc (.cells #[.int .i64 m.num,.string m.grp,.string m.bod,.int .i64 m.rcv,.int .i64 m.til] 191)).heap[wr.heap.size]?=some (.cells #[.int .i64 m.num,.string m.grp,.string m.bod,.int .i64 m.rcv,.int .i64 m.til] 191 (0,0))):=heap_alloc_new _ _;have HO0:Hid (OwnB (wr.alloc (.cells #[.int .i64 m.num,.string m.grp,.string m.bod,.int .i64 m.rcv,.int .i64 m.til] 191)) base u1 L1):=World.ownsRow.alloc ho _;have hsz0:(wr.alloc (.cells #[.int .i64 m.num,.string m.grp,.string m.bod,.int .i64 m.rcv,.int .i64 m.til] 191)).heap.size=wr.heap.size+1:=World.size_alloc _ _;clear hc hq ho hbr;have H1c:Hid (Calls Tryz.prog 46 #[u1,.int .i64 m.num,.int .i64 4] (wr.alloc (.cells #[.int .i64 m.num,.string m.grp,.string m.bod,.int .i64 m.rcv,.int .i64 m.til] 191)) fun e w'=>∃v',e=.returned v'/\OwnB w' base v' (L1++lowB m.num.toNat 4)/\Below base (wr.alloc (.cells #[.int .i64 m.num,.string m.grp,.string m.bod,.int .i64 m.rcv,.int .i64 m.til] 191)) w'/\Fr 0 [5] (wr.alloc (.cells #[.int .i64 m.num,.string m.grp,.string m.bod,.int .i64 m.rcv,.int .i64 m.til] 191)) w'):=appendInt_f base u1 L1 m.num 4 (wr.alloc (.cells #[.int .i64 m.num,.string m.grp,.string m.bod,.int .i64 m.rcv,.int .i64 m.til] 191)) hw.num (by decide) (by omega) (by omega) HO0.out;go_wp2_with fail;refine H1c.out.mono ?_;rintro e y1 ⟨t1,rfl,ho,hb,hf⟩;have HX1:Hid (y1.heap[wr.heap.size]?=some (.cells #[.int .i64 m.num,.string m.grp,.string m.bod,.int .i64 m.rcv,.int .i64 m.til] 191 (0,0))):=hf.keep _ _ _ HX0.out (by decide);have HB1y:=zH (HBR.out.trans ⟨hb,hf⟩);have zy1:=hb.size;have hle1:(L1++lowB m.num.toNat 4).length<=1100070000:=by rw[List.length_append,lowB_length];omega
   have HEE1:∃A,Hid (A=L1++lowB m.num.toNat 4):=⟨_,rfl⟩;obtain⟨A1,HA1⟩:=HEE1;rw[<-HA1.out]at ho hle1;have HO1y:=zH ho;clear ho hb hf H1c;have f2:y1.cell? ⟨wr.heap.size,1,none⟩=some (.string m.grp):=cell_qC HX1.out 1 _ rfl;have H2c:=zH (appendText_f base t1 A1 m.grp y1 (by have:=hw.grp;omega) (by omega) (by omega) HO1y.out);go_wp2_with fail;refine H2c.out.mono ?_;rintro e y2 ⟨t2,rfl,ho,hb,hf⟩;have HX2:Hid (y2.heap[wr.heap.size]?=some (.cells #[.int .i64 m.num,.string m.grp,.string m.bod,.int .i64 m.rcv,.int .i64 m.til] 191 (0,0))):=hf.keep _ _ _ HX1.out (by decide);have HB2y:=zH (HB1y.out.trans ⟨hb,hf⟩);have hle2:(A1++txtB m.grp).length<=1100140000:=by rw[List.length_append,txtB_length];have:=hw.grp;omega
   have HEE2:∃A,Hid (A=A1++txtB m.grp):=⟨_,rfl⟩;obtain⟨A2,HA2⟩:=HEE2;rw[<-HA2.out]at ho hle2;have HO2y:=zH ho;clear ho hb hf H2c f2;have f3:y2.cell? ⟨wr.heap.size,2,none⟩=some (.string m.bod):=cell_qC HX2.out 2 _ rfl;have lx3:wr.heap.size<y2.heap.size:=lt_of_block HX2.out;have H3c:=zH (appendText_f base t2 A2 m.bod y2 (by have:=hw.bod;omega) (by omega) (by omega) HO2y.out);go_wp2_with fail;refine H3c.out.mono ?_;rintro e y3 ⟨t3,rfl,ho,hb,hf⟩;have HX3:Hid (y3.heap[wr.heap.size]?=some (.cells #[.int .i64 m.num,.string m.grp,.string m.bod,.int .i64 m.rcv,.int .i64 m.til] 191 (0,0))):=hf.keep _ _ _ HX2.out (by decide);have HB3y:=zH (HB2y.out.trans ⟨hb,hf⟩);have hle3:(A2++txtB m.bod).length<=1100210000:=by rw[List.length_append,txtB_length];have:=hw.bod;omega
   have HEE3:∃A,Hid (A=A2++txtB m.bod):=⟨_,rfl⟩;obtain⟨A3,HA3⟩:=HEE3;rw[<-HA3.out]at ho hle3;have HO3y:=zH ho;clear ho hb hf H3c f3 lx3;have f4:y3.cell? ⟨wr.heap.size,3,none⟩=some (.int .i64 m.rcv):=cell_qC HX3.out 3 _ rfl;have lx4:wr.heap.size<y3.heap.size:=lt_of_block HX3.out;have H4c:Hid (Calls Tryz.prog 46 #[t3,.int .i64 m.rcv,.int .i64 2] y3 fun e w'=>∃v',e=.returned v'/\OwnB w' base v' (A3++lowB m.rcv.toNat 2)/\Below base y3 w'/\Fr 0 [5] y3 w'):=appendInt_f base t3 A3 m.rcv 2 y3 hw.rcv (by decide) (by omega) (by omega) HO3y.out;go_wp2_with fail;refine H4c.out.mono ?_;rintro e y4 ⟨t4,rfl,ho,hb,hf⟩;have HX4:Hid (y4.heap[wr.heap.size]?=some (.cells #[.int .i64 m.num,.string m.grp,.string m.bod,.int .i64 m.rcv,.int .i64 m.til] 191 (0,0))):=hf.keep _ _ _ HX3.out (by decide);have HB4y:=zH (HB3y.out.trans ⟨hb,hf⟩);have hle4:(A3++lowB m.rcv.toNat 2).length<=1100280000:=by rw[List.length_append,lowB_length];omega
   have HEE4:∃A,Hid (A=A3++lowB m.rcv.toNat 2):=⟨_,rfl⟩;obtain⟨A4,HA4⟩:=HEE4;rw[<-HA4.out]at ho hle4;have HO4y:=zH ho;clear ho hb hf H4c f4 lx4;have f5:y4.cell? ⟨wr.heap.size,4,none⟩=some (.int .i64 m.til):=cell_qC HX4.out 4 _ rfl;have lx5:wr.heap.size<y4.heap.size:=lt_of_block HX4.out;have H5c:Hid (Calls Tryz.prog 46 #[t4,.int .i64 m.til,.int .i64 4] y4 fun e w'=>∃v',e=.returned v'/\OwnB w' base v' (A4++lowB m.til.toNat 4)/\Below base y4 w'/\Fr 0 [5] y4 w'):=appendInt_f base t4 A4 m.til 4 y4 hw.til (by decide) (by omega) (by omega) HO4y.out;go_wp2_with fail;refine H5c.out.mono ?_;rintro e y5 ⟨t5,rfl,ho,hb,hf⟩;have HB5y:=zH (HB4y.out.trans ⟨hb,hf⟩);have hle5:(A4++lowB m.til.toNat 4).length<=1100350000:=by rw[List.length_append,lowB_length];omega
   have HEE5:∃A,Hid (A=A4++lowB m.til.toNat 4):=⟨_,rfl⟩;obtain⟨A5,HA5⟩:=HEE5;rw[<-HA5.out]at ho hle5;have HO5y:=zH ho;clear ho hb hf H5c f5 lx5;have HF:Hid (OwnB y5 base t5 L2):=by
    have e:L2=A5:=by rw[HS.out,HA5.out,HA4.out,HA3.out,HA2.out,HA1.out];simp[msB]
    rw[e];exact HO5y.out
   go_wp2_with fail;go_roundw
   case rel=>exact⟨k+1,by omega,by go_num,by rw[HG2.out];exact HF.out,HB5y.out⟩
   case measure=>simp[intOf];omega
  ·have he:Q.ms.take k=Q.ms:=List.take_of_length_le (by omega);rw[he,<-HLS.out]at ho;have HO2:=zH ho;have HBR:=zH hbr;clear he ho hbr;go_wp2_with fail;go_ret;exact⟨_,rfl,HO2.out,HBR.out⟩
theorem appDs_any (base:Nat)(v:Value)(l:List UInt8)(Q:QM)(V:QV)(qb:Nat)(w:World)(h:QR w qb V Q)(hlo:∀b∈qbl qb V,b<base)(hn:Q.ds.length<=1000)(hW:∀m∈Q.ds,DdW m)(hl:l.length<=1000000000)(hb:base<=w.heap.size)(hown:OwnB w base v l):
  Calls Tryz.prog 97 #[.pointer (some ⟨qb,0,none⟩),v] w fun e w'=>∃v',e=.returned v'/\OwnB w' base v' (l++(lowB Q.ds.length 1++Q.ds.flatMap ddB))/\BF base w w':=by
 obtain⟨i0,hi,hz0,hz1,hz2⟩:=info_parts info5;have HQ:Hid (∀W,BF base w W->QR W qb V Q):=fun W hW=>h.below hlo hW.1
 have lqb:=hlo qb (by simp[qbl]);obtain⟨am,cm,hvm⟩:=own_shape h.d;have HV:=zH hvm;have c7:w.cell? ⟨qb,9,none⟩=some (.slice am Q.ds.length cm):=by rw[<-hvm];exact cell_qC h.blk 9 _ rfl
 have H1:Hid (Calls Tryz.prog 46 #[v,.int .i64 (Q.ds.length:Int),.int .i64 1] w fun e w'=>∃v',e=.returned v'/\OwnB w' base v' (l++lowB Q.ds.length 1)/\Below base w w'/\Fr 0 [5] w w'):=appendNumber_f base v l Q.ds.length 1 w (by omega) (by decide) (by omega) hb hown;have HW:=zH hW;clear h hown hW hvm;go_enter Tryz.func97,Tryz.ntmps97;go_wp2_with fail;refine H1.out.mono ?_;rintro e w1 ⟨v1,rfl,ho1,hb1,hf1⟩;have q1:=HQ.out w1 ⟨hb1,hf1⟩;have z1:=hb1.size;have d7:w1.cell? ⟨qb,9,none⟩=some (.slice am Q.ds.length cm):=by rw[<-HV.out];exact cell_qC q1.blk 9 _ rfl
 have HLE:Hid ((l++lowB Q.ds.length 1).length<=1000000010):=by show _<=_;rw[List.length_append,lowB_length];omega
 have HLS:Hid (l++(lowB Q.ds.length 1++Q.ds.flatMap ddB)=(l++lowB Q.ds.length 1)++Q.ds.flatMap ddB):=by show _=_;rw[List.append_assoc]
 generalize l++lowB Q.ds.length 1=L at ho1 HLE HLS;have HO1:=zH ho1;have HB1:Hid (BF base w w1):=⟨hb1,hf1⟩;clear ho1 hb1 hf1 q1 c7 H1;go_wp2_with fail
 go_loopw [1,19] (fun o i wr=>∃k:Nat,k<=Q.ds.length/\i=.int .i64 (k:Int)/\OwnB wr base o (L++(Q.ds.take k).flatMap ddB)/\BF base w wr) (fun _ i _=>Q.ds.length-(intOf i).toNat)
 case atStart=>exact⟨0,Nat.zero_le _,rfl,by simpa using HO1.out,HB1.out⟩
 case round=>
  obtain⟨k,hk,rfl,ho,hbr⟩:=hrel
  by_cases hlt:k<Q.ds.length
  ·have hq:=HQ.out wr hbr;obtain⟨g,c,hv,hg,hc⟩:=hq.dsc k hlt;rw[HV.out]at hv;simp only[Value.slice.injEq,true_and]at hv;obtain⟨rfl,rfl⟩:=hv;have hw:=HW.out _ (List.getElem_mem hlt);have hle:(L++(Q.ds.take k).flatMap ddB).length<=1100000000:=by
    rw[List.length_append];have h1:=flt_len ddB 17 (Q.ds.take k) (fun m hm=>by have h2:=HW.out m (List.mem_of_mem_take hm);rw[ddB_len];have:=h2.id;omega);have h2:=HLE.out;rw[List.length_take]at h1;have h3:17*min k Q.ds.length<=17*1000:=Nat.mul_le_mul_left _ (by omega);omega
   have HS:=zH (flt_succ ddB L Q.ds k hlt);obtain⟨L2,HG2⟩:∃L2,Hid (L++(Q.ds.take (k+1)).flatMap ddB=L2):=⟨_,rfl⟩;rw[HG2.out]at HS;generalize L++(Q.ds.take k).flatMap ddB=L1 at HS ho hle;generalize Q.ds[k]=m at*
   have g0:wr.cell? ⟨g,k*3,none⟩=some (.string m.id):=hc 0 _ rfl;have g1:wr.cell? ⟨g,k*3+1,none⟩=some (.int .i64 m.num):=hc 1 _ rfl;have g2:wr.cell? ⟨g,k*3+2,none⟩=some (.int .i64 m.til):=hc 2 _ rfl;have zr:=hbr.size;have HBR:Hid (BF base w (wr.alloc (.cells #[.string m.id,.int .i64 m.num,.int .i64 m.til] 195))):=hbr.alloc (by omega) _;have HX0:Hid ((wr.alloc (.cells #[.string m.id,.int .i64 m.num,.int .i64 m.til] 195)).heap[wr.heap.size]?=some (.cells #[.string m.id,.int .i64 m.num,.int .i64 m.til] 195 (0,0))):=heap_alloc_new _ _;have HO0:Hid (OwnB (wr.alloc (.cells #[.string m.id,.int .i64 m.num,.int .i64 m.til] 195)) base u1 L1):=World.ownsRow.alloc ho _;have hsz0:(wr.alloc (.cells #[.string m.id,.int .i64 m.num,.int .i64 m.til] 195)).heap.size=wr.heap.size+1:=World.size_alloc _ _;clear hc hq ho hbr;have H1c:=zH (appendText_f base u1 L1 m.id (wr.alloc (.cells #[.string m.id,.int .i64 m.num,.int .i64 m.til] 195)) (by have:=hw.id;omega) (by omega) (by omega) HO0.out);go_wp2_with fail;refine H1c.out.mono ?_;rintro e y1 ⟨t1,rfl,ho,hb,hf⟩;have HX1:Hid (y1.heap[wr.heap.size]?=some (.cells #[.string m.id,.int .i64 m.num,.int .i64 m.til] 195 (0,0))):=hf.keep _ _ _ HX0.out (by decide);have HB1y:=zH (HBR.out.trans ⟨hb,hf⟩);have zy1:=hb.size;have hle1:(L1++txtB m.id).length<=1100070000:=by rw[List.length_append,txtB_length];have:=hw.id;omega
   have HEE1:∃A,Hid (A=L1++txtB m.id):=⟨_,rfl⟩;obtain⟨A1,HA1⟩:=HEE1;rw[<-HA1.out]at ho hle1;have HO1y:=zH ho;clear ho hb hf H1c;have f2:y1.cell? ⟨wr.heap.size,1,none⟩=some (.int .i64 m.num):=cell_qC HX1.out 1 _ rfl;have H2c:Hid (Calls Tryz.prog 46 #[t1,.int .i64 m.num,.int .i64 4] y1 fun e w'=>∃v',e=.returned v'/\OwnB w' base v' (A1++lowB m.num.toNat 4)/\Below base y1 w'/\Fr 0 [5] y1 w'):=appendInt_f base t1 A1 m.num 4 y1 hw.num (by decide) (by omega) (by omega) HO1y.out;go_wp2_with fail;refine H2c.out.mono ?_;rintro e y2 ⟨t2,rfl,ho,hb,hf⟩;have HX2:Hid (y2.heap[wr.heap.size]?=some (.cells #[.string m.id,.int .i64 m.num,.int .i64 m.til] 195 (0,0))):=hf.keep _ _ _ HX1.out (by decide);have HB2y:=zH (HB1y.out.trans ⟨hb,hf⟩);have hle2:(A1++lowB m.num.toNat 4).length<=1100140000:=by rw[List.length_append,lowB_length];omega
   have HEE2:∃A,Hid (A=A1++lowB m.num.toNat 4):=⟨_,rfl⟩;obtain⟨A2,HA2⟩:=HEE2;rw[<-HA2.out]at ho hle2;have HO2y:=zH ho;clear ho hb hf H2c f2;have f3:y2.cell? ⟨wr.heap.size,2,none⟩=some (.int .i64 m.til):=cell_qC HX2.out 2 _ rfl;have lx3:wr.heap.size<y2.heap.size:=lt_of_block HX2.out;have H3c:Hid (Calls Tryz.prog 46 #[t2,.int .i64 m.til,.int .i64 4] y2 fun e w'=>∃v',e=.returned v'/\OwnB w' base v' (A2++lowB m.til.toNat 4)/\Below base y2 w'/\Fr 0 [5] y2 w'):=appendInt_f base t2 A2 m.til 4 y2 hw.til (by decide) (by omega) (by omega) HO2y.out;go_wp2_with fail;refine H3c.out.mono ?_;rintro e y3 ⟨t3,rfl,ho,hb,hf⟩;have HB3y:=zH (HB2y.out.trans ⟨hb,hf⟩);have hle3:(A2++lowB m.til.toNat 4).length<=1100210000:=by rw[List.length_append,lowB_length];omega
   have HEE3:∃A,Hid (A=A2++lowB m.til.toNat 4):=⟨_,rfl⟩;obtain⟨A3,HA3⟩:=HEE3;rw[<-HA3.out]at ho hle3;have HO3y:=zH ho;clear ho hb hf H3c f3 lx3;have HF:Hid (OwnB y3 base t3 L2):=by
    have e:L2=A3:=by rw[HS.out,HA3.out,HA2.out,HA1.out];simp[ddB]
    rw[e];exact HO3y.out
   go_wp2_with fail;go_roundw
   case rel=>exact⟨k+1,by omega,by go_num,by rw[HG2.out];exact HF.out,HB3y.out⟩
   case measure=>simp[intOf];omega
  ·have he:Q.ds.take k=Q.ds:=List.take_of_length_le (by omega);rw[he,<-HLS.out]at ho;have HO2:=zH ho;have HBR:=zH hbr;clear he ho hbr;go_wp2_with fail;go_ret;exact⟨_,rfl,HO2.out,HBR.out⟩
theorem appAs_any (base:Nat)(v:Value)(l:List UInt8)(Q:QM)(V:QV)(qb:Nat)(w:World)(h:QR w qb V Q)(hlo:∀b∈qbl qb V,b<base)(hn:Q.ats.length<=1000)(hW:∀m∈Q.ats,AtW m)(hl:l.length<=1000000000)(hb:base<=w.heap.size)(hown:OwnB w base v l):
  Calls Tryz.prog 98 #[.pointer (some ⟨qb,0,none⟩),v] w fun e w'=>∃v',e=.returned v'/\OwnB w' base v' (l++(lowB Q.ats.length 1++Q.ats.flatMap atB))/\BF base w w':=by
 obtain⟨i0,hi,hz0,hz1,hz2⟩:=info_parts info5;have HQ:Hid (∀W,BF base w W->QR W qb V Q):=fun W hW=>h.below hlo hW.1
 have lqb:=hlo qb (by simp[qbl]);obtain⟨am,cm,hvm⟩:=own_shape h.a;have HV:=zH hvm;have c7:w.cell? ⟨qb,10,none⟩=some (.slice am Q.ats.length cm):=by rw[<-hvm];exact cell_qC h.blk 10 _ rfl
 have H1:Hid (Calls Tryz.prog 46 #[v,.int .i64 (Q.ats.length:Int),.int .i64 1] w fun e w'=>∃v',e=.returned v'/\OwnB w' base v' (l++lowB Q.ats.length 1)/\Below base w w'/\Fr 0 [5] w w'):=appendNumber_f base v l Q.ats.length 1 w (by omega) (by decide) (by omega) hb hown;have HW:=zH hW;clear h hown hW hvm;go_enter Tryz.func98,Tryz.ntmps98;go_wp2_with fail;refine H1.out.mono ?_;rintro e w1 ⟨v1,rfl,ho1,hb1,hf1⟩;have q1:=HQ.out w1 ⟨hb1,hf1⟩;have z1:=hb1.size;have d7:w1.cell? ⟨qb,10,none⟩=some (.slice am Q.ats.length cm):=by rw[<-HV.out];exact cell_qC q1.blk 10 _ rfl
 have HLE:Hid ((l++lowB Q.ats.length 1).length<=1000000010):=by show _<=_;rw[List.length_append,lowB_length];omega
 have HLS:Hid (l++(lowB Q.ats.length 1++Q.ats.flatMap atB)=(l++lowB Q.ats.length 1)++Q.ats.flatMap atB):=by show _=_;rw[List.append_assoc]
 generalize l++lowB Q.ats.length 1=L at ho1 HLE HLS;have HO1:=zH ho1;have HB1:Hid (BF base w w1):=⟨hb1,hf1⟩;clear ho1 hb1 hf1 q1 c7 H1;go_wp2_with fail
 go_loopw [1,19] (fun o i wr=>∃k:Nat,k<=Q.ats.length/\i=.int .i64 (k:Int)/\OwnB wr base o (L++(Q.ats.take k).flatMap atB)/\BF base w wr) (fun _ i _=>Q.ats.length-(intOf i).toNat)
 case atStart=>exact⟨0,Nat.zero_le _,rfl,by simpa using HO1.out,HB1.out⟩
 case round=>
  obtain⟨k,hk,rfl,ho,hbr⟩:=hrel
  by_cases hlt:k<Q.ats.length
  ·have hq:=HQ.out wr hbr;obtain⟨g,c,hv,hg,hc⟩:=hq.asc k hlt;rw[HV.out]at hv;simp only[Value.slice.injEq,true_and]at hv;obtain⟨rfl,rfl⟩:=hv;have hw:=HW.out _ (List.getElem_mem hlt);have hle:(L++(Q.ats.take k).flatMap atB).length<=1100000000:=by
    rw[List.length_append];have h1:=flt_len atB 615 (Q.ats.take k) (fun m hm=>by have h2:=HW.out m (List.mem_of_mem_take hm);rw[atB_len];have:=h2.id;have:=h2.ans;omega);have h2:=HLE.out;rw[List.length_take]at h1;have h3:615*min k Q.ats.length<=615*1000:=Nat.mul_le_mul_left _ (by omega);omega
   have HS:=zH (flt_succ atB L Q.ats k hlt);obtain⟨L2,HG2⟩:∃L2,Hid (L++(Q.ats.take (k+1)).flatMap atB=L2):=⟨_,rfl⟩;rw[HG2.out]at HS;generalize L++(Q.ats.take k).flatMap atB=L1 at HS ho hle;generalize Q.ats[k]=m at*
   have g0:wr.cell? ⟨g,k*3,none⟩=some (.string m.id):=hc 0 _ rfl;have g1:wr.cell? ⟨g,k*3+1,none⟩=some (.int .i64 m.til):=hc 1 _ rfl;have g2:wr.cell? ⟨g,k*3+2,none⟩=some (.string m.ans):=hc 2 _ rfl;have zr:=hbr.size;have HBR:Hid (BF base w (wr.alloc (.cells #[.string m.id,.int .i64 m.til,.string m.ans] 199))):=hbr.alloc (by omega) _;have HX0:Hid ((wr.alloc (.cells #[.string m.id,.int .i64 m.til,.string m.ans] 199)).heap[wr.heap.size]?=some (.cells #[.string m.id,.int .i64 m.til,.string m.ans] 199 (0,0))):=heap_alloc_new _ _;have HO0:Hid (OwnB (wr.alloc (.cells #[.string m.id,.int .i64 m.til,.string m.ans] 199)) base u1 L1):=World.ownsRow.alloc ho _;have hsz0:(wr.alloc (.cells #[.string m.id,.int .i64 m.til,.string m.ans] 199)).heap.size=wr.heap.size+1:=World.size_alloc _ _;clear hc hq ho hbr;have H1c:=zH (appendText_f base u1 L1 m.id (wr.alloc (.cells #[.string m.id,.int .i64 m.til,.string m.ans] 199)) (by have:=hw.id;omega) (by omega) (by omega) HO0.out);go_wp2_with fail;refine H1c.out.mono ?_;rintro e y1 ⟨t1,rfl,ho,hb,hf⟩;have HX1:Hid (y1.heap[wr.heap.size]?=some (.cells #[.string m.id,.int .i64 m.til,.string m.ans] 199 (0,0))):=hf.keep _ _ _ HX0.out (by decide);have HB1y:=zH (HBR.out.trans ⟨hb,hf⟩);have zy1:=hb.size;have hle1:(L1++txtB m.id).length<=1100070000:=by rw[List.length_append,txtB_length];have:=hw.id;omega
   have HEE1:∃A,Hid (A=L1++txtB m.id):=⟨_,rfl⟩;obtain⟨A1,HA1⟩:=HEE1;rw[<-HA1.out]at ho hle1;have HO1y:=zH ho;clear ho hb hf H1c;have f2:y1.cell? ⟨wr.heap.size,1,none⟩=some (.int .i64 m.til):=cell_qC HX1.out 1 _ rfl;have H2c:Hid (Calls Tryz.prog 46 #[t1,.int .i64 m.til,.int .i64 4] y1 fun e w'=>∃v',e=.returned v'/\OwnB w' base v' (A1++lowB m.til.toNat 4)/\Below base y1 w'/\Fr 0 [5] y1 w'):=appendInt_f base t1 A1 m.til 4 y1 hw.til (by decide) (by omega) (by omega) HO1y.out;go_wp2_with fail;refine H2c.out.mono ?_;rintro e y2 ⟨t2,rfl,ho,hb,hf⟩;have HX2:Hid (y2.heap[wr.heap.size]?=some (.cells #[.string m.id,.int .i64 m.til,.string m.ans] 199 (0,0))):=hf.keep _ _ _ HX1.out (by decide);have HB2y:=zH (HB1y.out.trans ⟨hb,hf⟩);have hle2:(A1++lowB m.til.toNat 4).length<=1100140000:=by rw[List.length_append,lowB_length];omega
   have HEE2:∃A,Hid (A=A1++lowB m.til.toNat 4):=⟨_,rfl⟩;obtain⟨A2,HA2⟩:=HEE2;rw[<-HA2.out]at ho hle2;have HO2y:=zH ho;clear ho hb hf H2c f2;have f3:y2.cell? ⟨wr.heap.size,2,none⟩=some (.string m.ans):=cell_qC HX2.out 2 _ rfl;have lx3:wr.heap.size<y2.heap.size:=lt_of_block HX2.out;have H3c:Hid (Calls Tryz.prog 46 #[t2,.int .i64 (m.ans.size:Int),.int .i64 2] y2 fun e w'=>∃v',e=.returned v'/\OwnB w' base v' (A2++lowB m.ans.size 2)/\Below base y2 w'/\Fr 0 [5] y2 w'):=appendNumber_f base t2 A2 m.ans.size 2 y2 (by have:=hw.ans;omega) (by decide) (by omega) (by omega) HO2y.out;go_wp2_with fail;refine H3c.out.mono ?_;rintro e y3 ⟨t3,rfl,ho,hb,hf⟩;have HX3:Hid (y3.heap[wr.heap.size]?=some (.cells #[.string m.id,.int .i64 m.til,.string m.ans] 199 (0,0))):=hf.keep _ _ _ HX2.out (by decide);have HB3y:=zH (HB2y.out.trans ⟨hb,hf⟩);have hle3:(A2++lowB m.ans.size 2).length<=1100210000:=by rw[List.length_append,lowB_length];omega
   have HEE3:∃A,Hid (A=A2++lowB m.ans.size 2):=⟨_,rfl⟩;obtain⟨A3,HA3⟩:=HEE3;rw[<-HA3.out]at ho hle3;have HO3y:=zH ho;clear ho hb hf H3c f3 lx3;have f4:y3.cell? ⟨wr.heap.size,2,none⟩=some (.string m.ans):=cell_qC HX3.out 2 _ rfl;have lx4:wr.heap.size<y3.heap.size:=lt_of_block HX3.out;go_wp2_with (at_builtin;refine Lib.wpList_append_own_string _ rfl _ _ 54 9 rfl base 5 i0 Tryz.underlying54 Tryz.underlying9 hi hz0 hz1 hz2 _ _ _ rfl HO3y.out m.ans rfl ?c1 ?c2 ?c3 ?_)
   case c1=>unfold maxLen;have:=hw.ans;omega
   case c2=>have:=hw.ans;omega
   case c3=>omega
   intro t4 y4 hown' hgrow _;have ho:OwnB y4 base t4 (A3++m.ans.data.toList):=by
    unfold OwnB;have e1:bytesV (A3++m.ans.data.toList)=bytesV A3++Lib.strCells m.ans:=by rw[<-bytesV_str];simp[bytesV]
    have e2:(A3++m.ans.data.toList).length=A3.length+m.ans.size:=by rw[List.length_append];rfl
    rw[e1,e2];exact hown'
   have HB4y:=zH (BF.grown HB3y.out HO3y.out hgrow (by omega));have HEE4:∃A,Hid (A=A3++m.ans.data.toList):=⟨_,rfl⟩;obtain⟨A4,HA4⟩:=HEE4;rw[<-HA4.out]at ho;have HO4y:=zH ho;clear ho hown' hgrow f4 lx4;have HF:Hid (OwnB y4 base t4 L2):=by
    have e:L2=A4:=by rw[HS.out,HA4.out,HA3.out,HA2.out,HA1.out];simp[atB]
    rw[e];exact HO4y.out
   go_wp2_with fail;go_roundw
   case rel=>exact⟨k+1,by omega,by go_num,by rw[HG2.out];exact HF.out,HB4y.out⟩
   case measure=>simp[intOf];omega
  ·have he:Q.ats.take k=Q.ats:=List.take_of_length_le (by omega);rw[he,<-HLS.out]at ho;have HO2:=zH ho;have HBR:=zH hbr;clear he ho hbr;go_wp2_with fail;go_ret;exact⟨_,rfl,HO2.out,HBR.out⟩
end Go.Proofs.YtbdobaapadlcjabGreatDoor
