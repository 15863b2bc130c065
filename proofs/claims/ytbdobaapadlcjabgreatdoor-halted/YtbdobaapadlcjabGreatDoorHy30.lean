import Derived.Test.YtbdobaapadlcjabGreatDoorHy29
set_option maxRecDepth 8000
set_option maxHeartbeats 8000000
set_option linter.unusedVariables false
set_option linter.unusedSimpArgs false
namespace Go.Proofs.YtbdobaapadlcjabGreatDoor.Keep
open Go.RowKit
theorem shaped_any (r:Wp.Rq)(xa:Option Addr)(xc:Nat)(bs:List ByteArray)(w:World)(hw:Wf r)(hz:Szs r)(hn:bs.length<=maxLen)(hbs:∀s∈bs,s.size<=maxLen)(hS:Strs w xa bs):
  Calls Tryz.prog 20 #[.agg (cellsOf r (.slice xa bs.length xc))] w fun e w'=>Shaped w e w'/\Below w.heap.size w w':=by
 have hx:r.op.toNat % 10=0\/r.op.toNat % 10=1\/r.op.toNat % 10=2\/r.op.toNat % 10=3\/r.op.toNat % 10=4\/r.op.toNat % 10=5\/r.op.toNat % 10=6\/r.op.toNat % 10=7\/r.op.toNat % 10=8\/r.op.toNat % 10=9:=by omega
 rcases hx with h|h|h|h|h|h|h|h|h|h
 ·exact shaped_0 r ⟨xa,bs.length,xc⟩ w h hw hz
 ·exact shaped_1 r ⟨xa,bs.length,xc⟩ w h hw hz
 ·exact shaped_2 r ⟨xa,bs.length,xc⟩ w h hw hz
 ·exact shaped_3 r ⟨xa,bs.length,xc⟩ w h hw hz
 ·exact shaped_4 r ⟨xa,bs.length,xc⟩ w h hw hz
 ·exact shaped_5 r ⟨xa,bs.length,xc⟩ w h hw hz
 ·exact shaped_6 r ⟨xa,bs.length,xc⟩ w h hw hz
 ·exact shaped_7 r ⟨xa,bs.length,xc⟩ w h hw hz
 ·exact shaped_8 r ⟨xa,bs.length,xc⟩ w h hw hz
 ·exact shaped_9 r xa xc bs w h hn hbs hS
end Go.Proofs.YtbdobaapadlcjabGreatDoor.Keep
namespace Go.Proofs.YtbdobaapadlcjabGreatDoor.Dk
open Go.RowKit
variable {w:World}{v:Value}{l:List ByteArray}
theorem info9:(Tryz.prog.info? 9).map (fun i=>(i.zero,i.size,i.bytes))=some (some (Value.string ⟨#[]⟩),1,16):=by kernel_rfl
def OwnS (w:World)(v:Value)(l:List ByteArray):Prop:=w.ownsRow 0 9 1 v l.length (l.map Value.string)
theorem OwnS.nil (w:World):OwnS w (.slice none 0 0) []:=World.ownsRow_nil w 0 9 1
theorem OwnS.tch {w':World}(h:OwnS w v l){S:List Nat}(ht:Tch S w w')(hS:∀b,v.ownBlock=some b->b∉S):OwnS w' v l:=by
 refine⟨h.1,?_⟩;rcases h.2 with h0|⟨g,cap,cur,rfl,hb,hg,h1,h2,h3,h4⟩
 ·exact .inl h0
 ·exact .inr ⟨g,cap,cur,rfl,hb,(ht.block g (Array.getElem?_eq_some_iff.1 hg).1 (hS g rfl)).trans hg,h1,h2,h3,h4⟩
theorem OwnS.at (h:OwnS w v l):∃a cap,v=.slice a l.length cap/\∀j (hj:j<l.length),∃g,a=some ⟨g,0,none⟩/\w.cell? ⟨g,j,none⟩=some (.string l[j])/\w.frozen? ⟨g,j,none⟩=false:=by
 rcases h.2 with ⟨rfl,hn⟩|⟨g,cap,cur,rfl,_,hg,_⟩
 ·obtain rfl:=List.eq_nil_of_length_eq_zero hn;exact⟨none,0,rfl,fun j hj=>by cases hj⟩
 ·refine⟨_,_,rfl,fun j hj=>⟨g,rfl,?_,World.ownsRow.frozenAt h j⟩⟩
  rw[World.ownsRow.cellAt h j (by omega)];simp[hj]
theorem wpList_strs (w:World){ops:Array Oper}{rest:List Oper}{o:Oper}{a:Act}{Q:Exit->Act->World->Prop}(hgd:o.guard=none)(s x:Operand)
  (ho:o.op=.call {callee:=.builtin .append,args:=#[s,x],argTypes:=#[22,22]})
  (v:Value)(l:List ByteArray)(hs:a.eval s=v)(hown:OwnS w v l)(g:Nat)(news:List ByteArray)(m:Nat)(hx:a.eval x=.slice (some ⟨g,0,none⟩) m m)(hm:news.length=m)(hm0:0<m)(hg:w.heap[g]?=some (.cells (news.map Value.string).toArray 9 (0,0)))(hn:l.length+m<=4000000000000)
  (h:∀v' w',OwnS w' v' (l++news)->w.grownBy w' v.ownBlock->(v'.ownBlock=v.ownBlock\/v'.ownBlock=some w.heap.size)->wpList Tryz.prog ops Q rest (a.put o.dst v') w'):wpList Tryz.prog ops Q (o::rest) a w:=by
 obtain⟨i0,hi,hz0,hz1,hz2⟩:=info_parts info9;refine wpList_app w hgd s x 22 ho 0 9 i0 _ 1 16 Tryz.underlying22 hi hz0 hz1 hz2 rfl (by decide) v l.length (l.map Value.string) hs hown ⟨g,0,none⟩ m m (news.map Value.string) hx (by simp[hm]) ?_ ?_ ?_ ?_ (Nat.zero_le _) hm0 ?_
 ·intro j u hj;have e:(⟨g,0,none⟩:Addr).add j=⟨g,j,none⟩:=by unfold Addr.add;split<;>simp_all
  rw[e,cell_of_row w g j _ 9 (0,0) hg,<-hj];simp
 ·intro u hu;obtain⟨b,_,rfl⟩:=List.mem_map.1 hu;rfl
 ·unfold maxLen;omega
 ·omega
 ·intro v' w' h1 h2 h3;refine h v' w' ?_ h2 h3
  show w'.ownsRow 0 9 1 v' (l++news).length ((l++news).map Value.string)
  rw[List.length_append,List.map_append,hm];exact h1
end Go.Proofs.YtbdobaapadlcjabGreatDoor.Dk
namespace Go.Proofs.YtbdobaapadlcjabGreatDoor
open Go.RowKit
variable {w W W' w':World}{B i z n g qb b S x rb:Nat}{te:TypeId}{xs:List Value}{V:QV}{Q:QM}{nx now n0:Int}{vm vr vd va v:Value}{l:List UInt8}{col col0:Nat->Nat}{Z:Nat->Option BQ}{c0:Nat->Option QM}{L:List Nat}
structure RqS where
 r:Wp.Rq
 xa:Option Addr
 xc:Nat
 bs:List ByteArray
def RqS.arr (s:RqS):Array Value:=cellsOf s.r (.slice s.xa s.bs.length s.xc)
structure RqS.Ok (s:RqS)(w:World):Prop where
 wf:Wf s.r
 sz:Keep.Szs s.r
 n:s.bs.length<=maxLen
 m:∀t∈s.bs,t.size<=maxLen
 st:Strs w s.xa s.bs
def ScR (B:Nat)(w:World)(ga:Option Addr)(sc:List RqS):Prop:=0<sc.length->∃g o,ga=some ⟨g,o,none⟩/\g<B/\∀j (hj:j<sc.length) i u,(sc[j].arr.toList)[i]?=some u->w.cell? ⟨g,o+j*15+i,none⟩=some u
theorem RqS.Ok.below {s:RqS}(h:s.Ok w)(hb:Below w.heap.size w W):s.Ok W:=⟨h.wf,h.sz,h.n,h.m,h.st.below hb⟩
theorem ScR.below {ga:Option Addr}{sc:List RqS}(h:ScR B w ga sc)(hb:Below B w W):ScR B W ga sc:=fun hp=>by
 obtain⟨g,o,h1,h2,h3⟩:=h hp;exact⟨g,o,h1,h2,fun j hj i u hu=>(hb.cell (p:=⟨g,o+j*15+i,none⟩) h2).trans (h3 j hj i u hu)⟩
theorem info24:(Tryz.prog.info? 24).map (fun i=>i.size)=some 15:=by kernel_rfl
theorem FStrs.strs {a:Option Addr}{bs:List ByteArray}(h:FStrs B w a bs):Strs w a bs:=fun j hj=>by
 obtain⟨b,o,h1,_,h2⟩:=h j hj;exact⟨b,o,h1,h2⟩
theorem bytesOf_any (B:Nat)(ga:Option Addr)(gc:Nat)(sc:List RqS)(w:World)(hE:Env B w)(hok:∀s∈sc,s.Ok w)(hln:sc.length<=2000000000000)(hga:ScR w.heap.size w ga sc):
  Calls Tryz.prog 8 #[.slice ga sc.length gc] w fun e w'=>∃v ls,e=.returned v/\Dk.OwnS w' v ls/\ls.length=sc.length/\(∀s∈ls,parseGood s=true)/\(∀b,v.ownBlock=some b->w.heap.size<=b)/\Tch [] w w':=by
 have HSH:Hid (∀W (j:Nat) (hj:j<sc.length),Tch [] w W->Calls Tryz.prog 20 #[.agg sc[j].arr] W fun e w'=>Keep.Shaped W e w'/\Below W.heap.size W w'):=fun W j hj ht=>by
  have h:=(hok _ (List.getElem_mem hj)).below (ht.below (by simp) (Nat.le_refl _));exact Keep.shaped_any _ _ _ _ W h.wf h.sz h.n h.m h.st
 have HPR:Hid (∀W (r:Wp.Rq) (x:Sl) (bs:List ByteArray),Tch [] w W->rightW r x (Wp.short bs)=true->x.n=bs.length->bs.length<=10->Strs W x.a bs->zB 22 #[.agg (cellsOf r x.v)] W (.tuple #[.string (printS r x bs),.int .i64 0])):=fun W r x bs ht hr hx hb hs=>by
  have hE':=hE.tch ht (by simp);have h:=wharf_print B r x bs W hx (by unfold maxLen;omega) hE'.lays hE'.size hs;rw[(print_bytes r x bs hr).2]at h;exact h
 have HGA:Hid (∀W,Tch [] w W->ScR w.heap.size W ga sc):=fun W ht=>hga.below (ht.below (by simp) (Nat.le_refl _))
 have hinf:=info24;clear hE hok hga;go_enter Tryz.func8,Tryz.ntmps8;go_wp2_with fail
 go_loopw [3,4] (fun ov iv wr=>∃(k:Nat) (ls:List ByteArray),k<=sc.length/\iv=.int .i64 (k:Int)/\Dk.OwnS wr ov ls/\ls.length=k/\(∀s∈ls,parseGood s=true)/\(∀b,ov.ownBlock=some b->w.heap.size<=b)/\Tch [] w wr) (fun _ iv _=>sc.length-(intOf iv).toNat)
 case atStart=>exact⟨0,[],Nat.zero_le _,rfl,Dk.OwnS.nil _,rfl,fun s hs=>absurd hs (by simp),fun b hb=>by simp[Value.ownBlock]at hb,Tch.refl _ _⟩
 case round=>
  obtain⟨k,ls,hk,rfl,hown,hlen,hgood,hnew,ht⟩:=hrel;have HOW:=zH (⟨hown,hlen,hgood,hnew⟩:Dk.OwnS wr u3 ls/\ls.length=k/\(∀s∈ls,parseGood s=true)/\(∀b,u3.ownBlock=some b->w.heap.size<=b));have HT:=zH ht
  by_cases hlt:k<sc.length
  ·obtain⟨g,o,rfl,hg,hcs⟩:=HGA.out wr ht (by omega);have HRG:Hid (wr.rangeAt g (o+k*15) (sc[k].arr.toList)):=fun i u hu=>hcs k hlt i u hu
   have hlI:(k:Int)<(sc.length:Int):=by omega
   have HS:=zH (HSH.out wr k hlt ht);have hsz:sc[k].arr.toList.length=15:=rfl;clear hcs hown hlen hgood hnew ht HSH HGA;generalize sc[k].arr=A at*
   go_wp2_with (refine wpList_load_mid rfl 24 _ rfl g (o+k*15) rfl A.toList _ HRG.out Tryz.underlying24 rfl (by rw[hsz];exact hinf) ?_);refine HS.out.mono ?_;rintro e w1 ⟨⟨r,x,bs,rfl,hright,hwf,hxn,hbl,hfs⟩,hb1⟩;have t1:Tch [] wr w1:=Tch.of_below hb1;have HT1:=zH (HT.out.trans t1 (fun _ h _=>h):Tch [] w w1);have HOW1:=zH (HOW.out.1.tch t1 (fun _ _=>by simp));have HPQ:=zH (HPR.out (laidIn w1 (cellsOf r x.v)) r x bs (HT1.out.trans (laidIn_tch _ _) (fun _ h _=>h)) hright hxn hbl ((FStrs.strs hfs).below ((laidIn_tch _ _).below (by simp) (Nat.le_refl _))));have HGD:=zH (print_good r x bs hwf hxn hright).1;generalize printS r x bs=S at HPQ HGD;clear hright hwf hxn hbl hfs hb1 t1 HS HRG;go_wp2_with (first|(refine wpList_store_row rfl 24 _ _ rfl w1.heap.size (cellsOf r x.v) rfl rfl 24 _ (heap_alloc_new _ _) hinf rfl (cells_one _ _) ?_)|(refine wpList_load_row rfl 24 _ rfl w1.heap.size rfl 24 (cellsOf r x.v) (0,0) _ (laidIn_heap _ _) Tryz.underlying24 rfl hinf ?_));refine HPQ.out.mono ?_;rintro e w2 ⟨rfl,hb2⟩;have t2:Tch [] w1 w2:=(laidIn_tch w1 (cellsOf r x.v)).trans (Tch.of_below hb2) (fun _ h _=>h);have HT2:=zH (HT1.out.trans t2 (fun _ h _=>h):Tch [] w w2);have HOW2:=zH (HOW1.out.tch t2 (fun _ _=>by simp));clear hb2 t2 HPQ HT1 HOW1;have hkl:=HOW.out.2.1;go_wp2_with (at_builtin;refine Dk.wpList_strs _ rfl _ _ rfl u3 ls rfl (HOW2.out.tch ((Tch.refl [] _).alloc _) (fun _ _=>by simp)) w2.heap.size [S] 1 rfl rfl (by decide) (heap_alloc_new _ _) (by omega) ?_);intro v' w3 ho3 hg3 hb3;have HF:Hid (Dk.OwnS w3 v' (ls++[S])/\(ls++[S]).length=k+1/\(∀s∈ls++[S],parseGood s=true)/\(∀b,v'.ownBlock=some b->w.heap.size<=b)/\Tch [] w w3):=by
    refine⟨ho3,by rw[List.length_append,hkl];rfl,fun s hs=>?_,fun b hb=>?_,?_⟩
    ·rcases List.mem_append.1 hs with h|h
     ·exact HOW.out.2.2.1 s h
     ·rw[List.mem_singleton.1 h];exact HGD.out
    ·rcases hb3 with h|h
     ·exact HOW.out.2.2.2 b (h.symm.trans hb)
     ·rw[hb]at h;injection h with h;have:=HT2.out.size;have hsz2:(w2.alloc (.cells #[.string S] 9)).heap.size=w2.heap.size+1:=by simp
      omega
    ·exact(HT2.out.alloc _).grown hg3 (fun b hb hlt=>by have:=HOW.out.2.2.2 b hb;omega)
   clear ho3 hg3 hb3;go_wp2_with fail;go_roundw
   case rel=>exact⟨k+1,ls++[S],by omega,by go_num,HF.out.1,HF.out.2.1,HF.out.2.2.1,HF.out.2.2.2.1,HF.out.2.2.2.2⟩
   case measure=>simp[intOf];omega
  ·have hlI:¬((k:Int)<(sc.length:Int)):=by omega
   have hks:k=sc.length:=by omega
   clear hown hlen hgood hnew ht HSH HGA HPR;go_wp2_with fail;go_ret;exact⟨_,rfl,ls,HOW.out.1,HOW.out.2.1.trans hks,HOW.out.2.2.1,HOW.out.2.2.2,HT.out⟩
def cR (c:Wp.Rq):Wp.Rq:=⟨67,c.q,c.d,c.vis,c.win,c.rcv,c.quo,0,0,⟨#[]⟩,⟨#[]⟩,⟨#[]⟩,⟨#[]⟩,⟨#[]⟩⟩
theorem cR_wf {c:Wp.Rq}(h:CfW i c):Wf (cR c):=Keep.wf_small _ ⟨by have:=h.vis;show 0<=c.vis;omega,by have:=h.vis;show c.vis<=1001;omega⟩ ⟨by have:=h.win;show 0<=c.win;omega,by have:=h.win;show c.win<=1001;omega⟩ ⟨by have:=h.rcv;show 0<=c.rcv;omega,by have:=h.rcv;show c.rcv<=1001;omega⟩ ⟨by have:=h.quo;show 0<=c.quo;omega,by have:=h.quo;show c.quo<=1001;omega⟩ Keep.zz Keep.zz
theorem cR_right {c:Wp.Rq}(h:CfW i c)(hi:i<8):rightW (cR c) nil0 (Wp.short [])=true:=by
 refine(right_iff _ _ _ (cR_wf h)).2 ⟨2,by decide,rfl,?_,rfl,rfl⟩
 show List.all [0,2,3,4,1,5] _=true
 simp only[List.all_cons,List.all_nil,Bool.and_true,Bool.and_eq_true];have hq:=h.q;have hv:=h.vis;have hw:=h.win;have hr:=h.rcv;have hu:=h.quo;refine⟨Keep.fits_of _ _ _ 0 (by decide) (by decide) (by decide) (show (97:Int)<=(c.q.toNat:Int) by omega) (show (c.q.toNat:Int)<=104 by omega),Keep.fits_of _ _ _ 2 (by decide) (by decide) (by decide) (show (1:Int)<=c.vis by omega) (show c.vis<=(1000:Int) by omega),Keep.fits_of _ _ _ 3 (by decide) (by decide) (by decide) (show (0:Int)<=c.win by omega) (show c.win<=(1000:Int) by omega),Keep.fits_of _ _ _ 4 (by decide) (by decide) (by decide) (show (0:Int)<=c.rcv by omega) (show c.rcv<=(9:Int) by omega),Keep.fits_dead _ _ _ ?_,Keep.fits_of _ _ _ 5 (by decide) (by decide) (by decide) (show (1:Int)<=c.quo by omega) (show c.quo<=(50:Int) by omega)⟩
 show c.d=45\/97<=c.d.toNat/\c.d.toNat<=104/\c.d≠c.q
 rcases h.d with hd|⟨j,hj,hne,hd⟩
 ·exact .inl hd
 ·refine .inr ⟨by omega,by omega,fun e=>hne ?_⟩
  rw[e]at hd;omega
theorem cR_bytes {c:Wp.Rq}(h:CfW i c)(hi:i<8):printS (cR c) nil0 []=BA (67::c.q::setB c):=by
 rw[(print_bytes _ _ _ (cR_right h hi)).1];rfl
theorem own_of (h:w.heap[g]?=some (.cells xs.toArray te (0,0)))(hx:xs.length=n*z)(hn:n<=1000):w.ownsRow 0 te z (.slice (some ⟨g,0,none⟩) n n) n xs:=
 ⟨hx,.inr ⟨g,n,xs.toArray,rfl,Nat.zero_le _,h,Nat.le_refl _,by unfold maxLen;omega,by simpa using hx,by simp[<-hx]⟩⟩
theorem QR.recfg (h:QR w qb V {Q with c:=cR Q.c}):QR w qb V Q:=⟨h.blk,h.m,h.r,h.d,h.a⟩
theorem allB_app (Q:QM)(q:List UInt8):(Q.c.q::allB Q)++q=(Q.c.q::setB Q.c)++(lowB Q.next 4++(lowB Q.ms.length 1++(Q.ms.flatMap msB++(lowB Q.rs.length 1++(txtsB Q.rs++(lowB Q.ds.length 1++(Q.ds.flatMap ddB++(lowB Q.ats.length 1++(Q.ats.flatMap atB++q))))))))):=by
 simp[allB,msL,rsL,dsL,atL]
structure QRd (i:Nat)(Q:QM):Prop where
 c:CfW i Q.c
 i:i<8
 nx:Q.next<4294967296
 ml:Q.ms.length<256
 ms:∀m∈Q.ms,MsR m
 rl:Q.rs.length<256
 rs:∀s∈Q.rs,s.size<256
 dl:Q.ds.length<256
 ds:∀m∈Q.ds,DdR m
 al:Q.ats.length<256
 ats:∀m∈Q.ats,AtR m
 snd:Snd Q
theorem QW.rd (h:QW i Q)(hi:i<8):QRd i Q:=by
 have hk:=h.ok;have hn:=h.nx;refine⟨h.c,hi,hk.nx,by have:=hk.ml;omega,fun m hm=>?_,by have:=hk.rl;omega,fun s hs=>by have:=hk.rs s hs;omega,by have:=hk.dl;omega,fun m hm=>?_,by have:=hk.al;omega,fun m hm=>?_,h.snd⟩
 ·have g:=h.mok m hm;have e:=(hk.ms m hm);exact⟨e.num,by have:=g.grp;omega,by have:=g.bod;omega,by have:=g.rcv;omega,e.til⟩
 ·have e:=(hk.ds m hm);exact⟨by have:=e.id;omega,e.num,e.til⟩
 ·have e:=(hk.ats m hm);have g:=(h.aok m hm).2.1;exact⟨by have:=e.id;omega,e.til,by omega⟩
theorem set_tch (W:World)(qb o:Nat)(v:Value):Tch [qb] W (W.setCell ⟨qb,o,none⟩ v):=(Tch.refl [qb] W).setCell (fun _=>by simp) v
structure Rs (w:World)(b qb:Nat)(c:Wp.Rq)(nx:Int)(vm vr vd va:Value)(l:List UInt8)(W:World):Prop where
 blk:Qb W qb c nx vm vr vd va
 rd:RdL W b l
 tch:Tch [b] w W
 lo:w.heap.size<=qb
 lt:b<w.heap.size
theorem Rs.tk {c:Wp.Rq}{l':List UInt8}(h:Rs w b qb c nx vm vr vd va l W)(r:RdL W' b l')(t:Tch [b] W W'):Rs w b qb c nx vm vr vd va l' W':=
 ⟨(t.block qb (lt_of_block h.blk) (by have:=h.lo;have:=h.lt;simp;omega)).trans h.blk,r,h.tch.trans t (fun _ h _=>h),h.lo,h.lt⟩
theorem Rs.cs {c:Wp.Rq}(h:Rs w b qb c nx vm vr vd va l W):W.cell? ⟨qb,6,none⟩=some (.int .i64 nx)/\W.cell? ⟨qb,7,none⟩=some vm/\W.cell? ⟨qb,8,none⟩=some vr/\W.cell? ⟨qb,9,none⟩=some vd/\W.cell? ⟨qb,10,none⟩=some va/\∀j,W.frozen? ⟨qb,j,none⟩=false:=
 ⟨cell_qC h.blk 6 _ rfl,cell_qC h.blk 7 _ rfl,cell_qC h.blk 8 _ rfl,cell_qC h.blk 9 _ rfl,cell_qC h.blk 10 _ rfl,fun j=>frozen_of_row W _ _ _ 137 h.blk⟩
theorem Rs.st {o:Nat}{c:Wp.Rq}{nx':Int}{vm' vr' vd' va':Value}(h:Rs w b qb c nx vm vr vd va l W)(he:(qC c nx vm vr vd va).setIfInBounds o v=qC c nx' vm' vr' vd' va'):Rs w b qb c nx' vm' vr' vd' va' l (W.setCell ⟨qb,o,none⟩ v):=by
 have t:Tch [qb] W (W.setCell ⟨qb,o,none⟩ v):=(Tch.refl [qb] W).setCell (fun _=>by simp) v;have h1:=h.lo;have h2:=h.lt;refine⟨?_,h.rd.tch t (by simp;omega),h.tch.trans t (fun k hk hl=>by simp at hk;omega),h.lo,h.lt⟩
 show (W.setCell ⟨qb,o,none⟩ v).heap[qb]?=some (.cells (qC c nx' vm' vr' vd' va') 137 (0,0))
 rw[<-he];exact heap_setCell_same W qb o _ 137 v h.blk
structure Ow (b qb S:Nat)(te:TypeId)(z n:Nat)(v:Value)(xs:List Value)(W:World):Prop where
 own:W.ownsRow 0 te z v n xs
 ap:∀k,v.ownBlock=some k->k≠b/\k≠qb/\S<=k
theorem Ow.tch (h:Ow b qb S te z n v xs W){T:List Nat}(t:Tch T W W')(hT:∀k∈T,k=b\/k=qb):Ow b qb S te z n v xs W':=
 ⟨own_tch h.own t (fun k hk hm=>by
  have h1:=h.ap k hk;rcases hT k hm with e|e
  ·exact h1.1 e
  ·exact h1.2.1 e),h.ap⟩
theorem Ow.of {W0:World}{c:Wp.Rq}(hr:Rs w b qb c nx vm vr vd va l W0)(h:W.heap[g]?=some (.cells xs.toArray te (0,0)))(hx:xs.length=n*z)(hn:n<=1000)(hg:W0.heap.size<=g):Ow b qb w.heap.size te z n (.slice (some ⟨g,0,none⟩) n n) xs W:=
 ⟨own_of h hx hn,fun k hk=>by
  injection hk with hk;subst hk;have h1:=lt_of_block hr.blk;have h2:=hr.lo;have h3:=hr.lt;have h4:=hr.tch.size;exact⟨by show g≠b;omega,by show g≠qb;omega,by show _<=g;omega⟩⟩
theorem qread_any (B b i:Nat)(Q:QM)(q:List UInt8)(w:World)(hE:Env B w)(hB:B<=b)(hQ:QRd i Q)(h:RdL w b ((Q.c.q::allB Q)++q)):
  Calls Tryz.prog 88 #[.pointer (some ⟨b,0,none⟩)] w fun e w'=>∃qb V,e=.returned (.pointer (some ⟨qb,0,none⟩))/\QR w' qb V Q/\(∀k∈qbl qb V,w.heap.size<=k)/\RdL w' b q/\Tch [b] w w':=by
 have hlt:=h.lt;rw[allB_app]at h;have HTK:=zH (take_l b (Q.c.q::setB Q.c) _ 8 w (by rw[List.length_cons,setB_length]) h);have hEb:∀W,Tch [b] w W->Env B W:=fun W ht=>hE.tch ht (by simpa using hB)
 have HPA:Hid (∀W,Tch [b] w W->Calls Tryz.prog 28 #[.string ((⟨#[67]⟩:ByteArray)++BA (Q.c.q::setB Q.c))] W fun e w'=>∃x:Sl,e=.returned (.tuple #[.agg (cellsOf (cR Q.c) x.v),.int .i64 0])/\Tch [] W w'):=fun W ht=>by
  have e1:((⟨#[67]⟩:ByteArray)++BA (Q.c.q::setB Q.c))=printS (cR Q.c) nil0 []:=by
   rw[cR_bytes hQ.c hQ.i];exact ba_app [67] _
  obtain⟨g1,g2,g3⟩:=print_good (cR Q.c) nil0 [] (cR_wf hQ.c) rfl (cR_right hQ.c hQ.i);rw[e1];have hsz:=good_size _ g1;refine(parse_any B _ W (by unfold maxLen;omega) (hEb W ht).lays (hEb W ht).size).mono ?_;rintro e w' ⟨⟨_,x,he,_⟩|⟨hb,_⟩,hbl⟩
  ·rw[g2]at he;exact⟨x,he,Tch.of_below hbl⟩
  ·rw[g1]at hb
   cases hb
 have hinf:=info24;clear hE h;go_enter Tryz.func88,Tryz.ntmps88;go_wp2_with fail;refine HTK.out.mono ?_;rintro e w1 ⟨rfl,r1,t1⟩;have H1:=zH (⟨r1,t1⟩:RdL w1 b _/\Tch [b] w w1);clear r1 t1 HTK;go_wp2_with fail;refine(HPA.out w1 H1.out.2).mono ?_;rintro e w2 ⟨x,rfl,t2⟩;have tl:=laidIn_tch w2 (cellsOf (cR Q.c) x.v);have H2:=zH (⟨(H1.out.1.tch t2 (by simp)).tch tl (by simp),(H1.out.2.trans t2 (by simp)).trans tl (by simp)⟩:RdL (laidIn w2 (cellsOf (cR Q.c) x.v)) b _/\Tch [b] w (laidIn w2 (cellsOf (cR Q.c) x.v)));clear t2 tl H1 HPA;go_wp2_with (first|(refine wpList_store_row rfl 24 _ _ rfl w2.heap.size (cellsOf (cR Q.c) x.v) rfl rfl 24 _ (heap_alloc_new _ _) hinf rfl (cells_one _ _) ?_)|(refine wpList_load_row rfl 24 _ rfl w2.heap.size rfl 24 (cellsOf (cR Q.c) x.v) (0,0) _ (laidIn_heap _ _) Tryz.underlying24 rfl hinf ?_));refine(qnew_any (cR Q.c) x (laidIn w2 (cellsOf (cR Q.c) x.v))).mono ?_;rintro e w3 ⟨rfl,hw3⟩;obtain⟨qb,hqb⟩:∃qb,qb=(laidIn w2 (cellsOf (cR Q.c) x.v)).heap.size+1:=⟨_,rfl⟩;have H3:Hid (Rs w b qb (cR Q.c) 1 (.slice none 0 0) (.slice none 0 0) (.slice none 0 0) (.slice none 0 0) (lowB Q.next 4++(lowB Q.ms.length 1++(Q.ms.flatMap msB++(lowB Q.rs.length 1++(txtsB Q.rs++(lowB Q.ds.length 1++(Q.ds.flatMap ddB++(lowB Q.ats.length 1++(Q.ats.flatMap atB++q))))))))) w3):=by
  have tt:Tch [] (laidIn w2 (cellsOf (cR Q.c) x.v)) w3:=by
   rw[hw3];exact((Tch.refl [] _).alloc _).alloc _
  refine⟨?_,H2.out.1.tch tt (by simp),H2.out.2.trans tt (by simp),by have:=H2.out.2.size;omega,hlt⟩;rw[hw3,hqb];exact heap_alloc2_new _ _ _
 rw[<-hqb];clear hw3 hqb H2;go_wp2_with fail;refine(num_l b Q.next 4 _ w3 (.inr (.inr ⟨rfl,hQ.nx⟩)) H3.out.rd).mono ?_;rintro e w4 ⟨rfl,r4,t4⟩;have H4:=zH (H3.out.tk r4 t4);obtain⟨c6,c7,c8,c9,c10,cz⟩:=H4.out.cs;have z6:=cz 6;have H5:=zH (H4.out.st (o:=6) (v:=.int .i64 (Q.next:Int)) (nx':=(Q.next:Int)) rfl);clear r4 t4 H3 c7 c8 c9 c10 cz;go_wp2_with fail;refine(readList_m b Q.ms _ _ hQ.ml hQ.ms H5.out.rd).mono ?_;rintro e w6 ⟨gm,hgm,rfl,hbm,r6,t6⟩;have H6:=zH (H5.out.tk r6 t6);have OM:=zH (Ow.of H5.out hbm (flat_lz Ms.row 5 (fun _=>rfl) Q.ms) (by have:=hQ.ml;omega) hgm);obtain⟨d6,c7,c8,c9,c10,cz⟩:=H6.out.cs;have z7:=cz 7;have H7:=zH (H6.out.st (o:=7) (v:=.slice (some ⟨gm,0,none⟩) Q.ms.length Q.ms.length) (vm':=.slice (some ⟨gm,0,none⟩) Q.ms.length Q.ms.length) rfl);have OM7:=zH (OM.out.tch (set_tch w6 qb 7 (.slice (some ⟨gm,0,none⟩) Q.ms.length Q.ms.length)) (by simp));clear r6 t6 hgm hbm H4 H5 c6 z6 d6 c8 c9 c10 cz OM;go_wp2_with fail;refine(texts_l b Q.rs _ _ hQ.rl hQ.rs H7.out.rd).mono ?_;rintro e w8 ⟨gr,hgr,rfl,hbr,r8,t8⟩;have H8:=zH (H7.out.tk r8 t8);have OR:=zH (Ow.of (z:=1) (n:=Q.rs.length) H7.out hbr (by simp) (by have:=hQ.rl;omega) hgr);have OM8:=zH (OM7.out.tch t8 (by simp));obtain⟨d6,d7,c8,c9,c10,cz⟩:=H8.out.cs;have z8:=cz 8;have H9:=zH (H8.out.st (o:=8) (v:=.slice (some ⟨gr,0,none⟩) Q.rs.length Q.rs.length) (vr':=.slice (some ⟨gr,0,none⟩) Q.rs.length Q.rs.length) rfl);have T9:=set_tch w8 qb 8 (.slice (some ⟨gr,0,none⟩) Q.rs.length Q.rs.length);have OM9:=zH (OM8.out.tch T9 (by simp));have OR9:=zH (OR.out.tch T9 (by simp));clear r8 t8 hgr hbr H6 H7 d6 d7 c7 z7 c9 c10 cz OM7 OM8 OR T9;go_wp2_with fail;refine(readList_d b Q.ds _ _ hQ.dl hQ.ds H9.out.rd).mono ?_;rintro e wa ⟨gd,hgd,rfl,hbd,ra,ta⟩;have Ha:=zH (H9.out.tk ra ta);have OD:=zH (Ow.of H9.out hbd (flat_lz Dd.row 3 (fun _=>rfl) Q.ds) (by have:=hQ.dl;omega) hgd);have OMa:=zH (OM9.out.tch ta (by simp));have ORa:=zH (OR9.out.tch ta (by simp));obtain⟨d6,d7,d8,c9,c10,cz⟩:=Ha.out.cs;have z9:=cz 9;have Hb:=zH (Ha.out.st (o:=9) (v:=.slice (some ⟨gd,0,none⟩) Q.ds.length Q.ds.length) (vd':=.slice (some ⟨gd,0,none⟩) Q.ds.length Q.ds.length) rfl);have Tb:=set_tch wa qb 9 (.slice (some ⟨gd,0,none⟩) Q.ds.length Q.ds.length);have OMb:=zH (OMa.out.tch Tb (by simp));have ORb:=zH (ORa.out.tch Tb (by simp));have ODb:=zH (OD.out.tch Tb (by simp));clear ra ta hgd hbd H8 H9 d6 d7 d8 c8 z8 c10 cz OM9 OR9 OMa ORa OD Tb;go_wp2_with fail;refine(readList_a b Q.ats q _ hQ.al hQ.ats Hb.out.rd).mono ?_;rintro e wc ⟨g2,hg2,rfl,hb2,rc,tc⟩;have Hc:=zH (Hb.out.tk rc tc);have OA:=zH (Ow.of Hb.out hb2 (flat_lz At.row 3 (fun _=>rfl) Q.ats) (by have:=hQ.al;omega) hg2);have OMc:=zH (OMb.out.tch tc (by simp));have ORc:=zH (ORb.out.tch tc (by simp));have ODc:=zH (ODb.out.tch tc (by simp));obtain⟨d6,d7,d8,d9,c10,cz⟩:=Hc.out.cs;have z10:=cz 10;have Hd:=zH (Hc.out.st (o:=10) (v:=.slice (some ⟨g2,0,none⟩) Q.ats.length Q.ats.length) (va':=.slice (some ⟨g2,0,none⟩) Q.ats.length Q.ats.length) rfl);have Td:=set_tch wc qb 10 (.slice (some ⟨g2,0,none⟩) Q.ats.length Q.ats.length);have OMd:=zH (OMc.out.tch Td (by simp));have ORd:=zH (ORc.out.tch Td (by simp));have ODd:=zH (ODc.out.tch Td (by simp));have OAd:=zH (OA.out.tch Td (by simp));clear rc tc hg2 hb2 Ha Hb d6 d7 d8 d9 c9 z9 cz OMb ORb ODb OMc ORc ODc OA Td;have HQR:Hid (QR (wc.setCell ⟨qb,10,none⟩ (.slice (some ⟨g2,0,none⟩) Q.ats.length Q.ats.length)) qb ⟨.slice (some ⟨gm,0,none⟩) Q.ms.length Q.ms.length,.slice (some ⟨gr,0,none⟩) Q.rs.length Q.rs.length,.slice (some ⟨gd,0,none⟩) Q.ds.length Q.ds.length,.slice (some ⟨g2,0,none⟩) Q.ats.length Q.ats.length⟩ Q):=QR.recfg ⟨Hd.out.blk,OMd.out.own,ORd.out.own,ODd.out.own,OAd.out.own⟩;have HLO:Hid (∀k∈qbl qb ⟨.slice (some ⟨gm,0,none⟩) Q.ms.length Q.ms.length,.slice (some ⟨gr,0,none⟩) Q.rs.length Q.rs.length,.slice (some ⟨gd,0,none⟩) Q.ds.length Q.ds.length,.slice (some ⟨g2,0,none⟩) Q.ats.length Q.ats.length⟩,w.heap.size<=k):=fun k hk=>by
  rcases mem_qbl.1 hk with e|e|e|e|e
  ·rw[e];exact Hd.out.lo
  ·exact(OMd.out.ap k e).2.2
  ·exact(ORd.out.ap k e).2.2
  ·exact(ODd.out.ap k e).2.2
  ·exact(OAd.out.ap k e).2.2
 have f1:(wc.setCell ⟨qb,10,none⟩ (.slice (some ⟨g2,0,none⟩) Q.ats.length Q.ats.length)).cell? ⟨b,1,none⟩=some (.bool false):=Hd.out.rd.1.c1;have HSO:=zH (sound_any qb _ Q _ HQR.out hQ.snd);go_wp2_with (first|(go_at_call 56;go_in)|(go_at_call 135;refine HSO.out.mono ?_;rintro e wf ⟨rfl,tf⟩));go_ret;exact⟨qb,_,rfl,HQR.out.tch tf (by simp),HLO.out,Hd.out.rd.tch tf (by simp),Hd.out.tch.trans tf (by simp)⟩
theorem recB_app (s:ByteArray)(q:List UInt8):recB s++q=lowB s.size 4++(lowB (Crc.crc s.data.toList) 4++(s.data.toList++q)):=by simp[recB]
theorem readRec_l (B b:Nat)(s:ByteArray)(q:List UInt8)(w:World)(hE:Env B w)(hB:B<=b)(h:RdL w b (recB s++q)):
  Calls Tryz.prog 86 #[.pointer (some ⟨b,0,none⟩)] w fun e w'=>e=.returned (.tuple #[.string s,.bool true])/\RdL w' b q/\Tch [b] w w':=by
 have hl:=h.2;rw[List.length_append,recB_length]at hl;have hc:Crc.crc s.data.toList<4294967296:=crc_lt s.data.toList;rw[recB_app]at h;have HN1:=zH (num_l b s.size 4 _ w (.inr (.inr ⟨rfl,by omega⟩)) h);have HCK:Hid (∀W,Tch [b] w W->zE 59 #[.string s] W (.int .u32 ((Crc.crc s.data.toList:Nat):Int))):=fun W ht=>by
  have hE':=hE.tch ht (by simpa using hB);exact check_any s W (by unfold maxLen;omega) hE'.tab
 have e8:BA s.data.toList=s:=ext_list rfl;have e7:s.data.toList.length=s.size:=Array.length_toList;clear hE h;generalize hcc:Crc.crc s.data.toList=C at*
 go_enter Tryz.func86,Tryz.ntmps86;go_wp2_with fail;refine HN1.out.mono ?_;rintro e w1 ⟨rfl,r1,t1⟩;have H1:=zH (⟨r1,t1⟩:RdL w1 b _/\Tch [b] w w1);clear r1 t1 HN1;go_wp2_with fail;refine(num_l b C 4 _ w1 (.inr (.inr ⟨rfl,hc⟩)) H1.out.1).mono ?_;rintro e w2 ⟨rfl,r2,t2⟩;have H2:=zH (⟨r2,H1.out.2.trans t2 (fun _ h _=>h)⟩:RdL w2 b _/\Tch [b] w w2);clear r2 t2 H1;go_wp2_with fail;refine(take_l b s.data.toList q s.size w2 e7 H2.out.1).mono ?_;rintro e w3 ⟨rfl,r3,t3⟩;rw[e8];have H3:=zH (⟨r3,H2.out.2.trans t3 (fun _ h _=>h)⟩:RdL w3 b q/\Tch [b] w w3);have f1:=r3.1.c1;clear r3 t3 H2;have HC3:=zH (HCK.out w3 H3.out.2);go_wp2_with (go_at_call 56;go_in);refine HC3.out.mono ?_;rintro e w4 ⟨rfl,rfl⟩;go_wp2_with fail;go_ret2;exact⟨by simp,H3.out.1,H3.out.2⟩
def lenV:Value->Nat
 | .slice _ n _=>n
 | _=>0
theorem recs_len (ss:List ByteArray):ss.length<=(ss.flatMap recB).length:=by
 induction ss with
 | nil=>simp
 | cons s r ih=>
  rw[List.flatMap_cons,List.length_append,recB_length,List.length_cons];omega
theorem FqT.chg {T:List TypeId}{c:Nat->Nat}(h:FqT T B c w w'):∃S,Tch S w w'/\∀k∈S,k<w.heap.size/\w'.heap[k]?≠w.heap[k]?:=by
 classical
 refine⟨(List.range w.heap.size).filter (fun k=>decide (w'.heap[k]?≠w.heap[k]?)),⟨h.os,h.tape,h.output,h.size,fun k hk hn=>?_⟩,fun k hk=>?_⟩
 ·apply Classical.byContradiction;intro hc;exact hn (List.mem_filter.2 ⟨List.mem_range.2 hk,decide_eq_true hc⟩)
 ·obtain⟨h1,h2⟩:=List.mem_filter.1 hk;exact⟨List.mem_range.1 h1,of_decide_eq_true h2⟩
theorem Bk.oth {st:Nat}{c:Nat->Option QM}{cl:Nat->Nat}(h:Bk B w x st b now c col)(hf:FqT TA B cl w w')(hd:∀q,B<=q->q<w.heap.size->col q≠9->cl q=9):Bk B w' x st b now c (rec9 w w' col):=by
 obtain⟨S,ht,hS⟩:=hf.chg;obtain⟨⟨Z,hs,hc⟩,hw,hn,⟨o,room,hJ,hR⟩,hfu⟩:=h;have hcl:∀k,B<=k->k<w.heap.size->col k≠9->k∉S:=fun k hB hk h9 hm=>(hS k hm).2 (hf.out k hk (hd k hB hk h9))
 have hty:∀(k:Nat) (C:Array Value) (t:TypeId),w.heap[k]?=some (.cells C t (0,0))->t∉TA->w'.heap[k]?=some (.cells C t (0,0)):=fun k C t hk ht=>hf.keep k C t hk ht
 have hsz:=hf.size;refine⟨⟨Z,⟨?_,?_,?_,?_,hs.lo,hs.ls,?_⟩,hc⟩,hw,hn,⟨o,room,?_,hR⟩,fun k hk=>?_⟩
 ·exact(ht.block st hs.stb.lt (hcl st hs.ls hs.stb.lt hs.cs)).trans hs.stb
 ·exact fun q f hq=>hty _ _ _ (hs.tb q f hq) (by decide)
 ·exact fun i x hi hx=>(hs.qr i x hi hx).tch ht (fun k hk=>hcl k (hs.lo i x hi hx k hk) ((hs.qr i x hi hx).lt k hk) (by rw[hs.cl i x hi hx k hk];omega))
 ·exact fun i x hi hx k hk=>(rec9_old ((hs.qr i x hi hx).lt k hk)).trans (hs.cl i x hi hx k hk)
 ·rw[rec9_old hs.stb.lt];exact hs.cs
 ·obtain⟨j,d,v,n,k,hJ⟩:=hJ;refine⟨j,d,v,n,k,hty _ _ _ hJ.hx (by decide),hJ.jr.tch ht (fun b hb=>hcl b (hJ.lo b hb) (hJ.lt b hb) (hJ.cj b hb)),hJ.lo,hJ.bd,fun b hb=>?_,(rec9_old (by have:=lt_of_block hJ.hx;omega)).trans hJ.dc⟩
  rw[rec9_old (hJ.lt b hb)];exact hJ.cj b hb
 ·show (if _ then _ else _)≠9
  rw[if_neg (by omega)];exact hfu k (by omega)
theorem Bk.fr {st:Nat}{c:Nat->Option QM}(h:Bk B w x st b now c col){T:List TypeId}(hf:Fr B T w w')(h1:∀t∈TA,t∉T)(h2:60∉T)(h3:186∉T):Bk B w' x st b now c (rec9 w w' col):=by
 obtain⟨⟨Z,hs,hc⟩,hw,hn,⟨o,room,hJ,hR⟩,hfu⟩:=h;have hq:∀t∈TQ,t∉T:=fun t ht=>h1 t (ts_ta t (tq_ta ht))
 have hs2:=(hs.recol (col':=rec9 w w' col) (fun k hk=>rec9_old hk)).fr hf (h1 94 (by decide)) h3 hq;have hJ2:=(hJ.recol (col':=rec9 w w' col) (fun k hk e=>by rw[rec9_old hk]at e;exact e) (fun h=>rec9_old h)).fr hf h2 (h1 85 (by decide)) (h1 77 (by decide)) (h1 79 (by decide));have hsz:=hf.size;refine⟨⟨Z,hs2,hc⟩,hw,hn,⟨o,room,hJ2,hR⟩,fun k hk=>?_⟩
 show (if _ then _ else _)≠9
 rw[if_neg (by omega)];exact hfu k (by omega)
theorem Bk.mono {B':Nat}{st:Nat}{c:Nat->Option QM}(h:Bk B w x st b now c col)(hB:B'<=B):Bk B' w x st b now c col:=by
 obtain⟨⟨Z,hs,hc⟩,hw,hn,⟨o,room,hJ,hR⟩,hfu⟩:=h;exact⟨⟨Z,⟨hs.stb,hs.tb,hs.qr,hs.cl,fun i x hi hx k hk=>Nat.le_trans hB (hs.lo i x hi hx k hk),Nat.le_trans hB hs.ls,hs.cs⟩,hc⟩,hw,hn,⟨o,room,(fun ⟨j,d,v,n,k,hJ⟩=>⟨j,d,v,n,k,hJ.hx,hJ.jr,fun b hb=>Nat.le_trans hB (hJ.lo b hb),hJ.bd,hJ.cj,hJ.dc⟩) hJ,hR⟩,hfu⟩
theorem SG.put {w1 w2:World}{st:Nat}(h:SG B w1 st b now Z col)(hi:i<8)(y:BQ)(hS:B<=S)(hlt:∀j x,j<8->Z j=some x->∀k∈qbl x.qb x.V,k<S)(hst:st<S)(hq:QR w1 y.qb y.V y.Q)(hy:∀k∈qbl y.qb y.V,S<=k)(ht:Tch [st] w1 w2)(hs:Stb w2 st b now (updP (fun i=>ptrV (ptZ Z i)) i (.pointer (some ⟨y.qb,0,none⟩)))):
  SG B w2 st b now (updZ Z i (some y)) (fun k=>if k<S then col k else i):=by
 have hst0:=h.stb;have hns:∀{k:Nat} {C:Array Value} {t:TypeId},w1.heap[k]?=some (.cells C t (0,0))->t≠94->k∉[st]:=fun {k C t} hk hne hm=>by
  simp at hm;subst hm;rw[hst0]at hk;simp at hk;exact hne hk.2.symm
 refine⟨?_,?_,?_,?_,?_,h.ls,by show (if st<S then col st else i)≠9;rw[if_pos hst];exact h.cs⟩
 ·have e:(fun j=>ptrV (ptZ (updZ Z i (some y)) j))=updP (fun i=>ptrV (ptZ Z i)) i (.pointer (some ⟨y.qb,0,none⟩)):=by
   funext j;unfold updP ptZ updZ
   by_cases e:j=i
   ·simp[e,ptrV]
   ·simp[e]
  rw[e];exact hs
 ·exact fun q f hq=>(ht.block _ (lt_of_block (h.tb q f hq)) (hns (h.tb q f hq) (by decide))).trans (h.tb q f hq)
 ·intro q z hq' hz'
  by_cases e:q=i
  ·subst e;rw[updZ_same]at hz';injection hz' with hz';subst hz';exact hq.tch ht (fun k hk hm=>by
    simp at hm;subst hm;exact hq.nty h.stb (by decide) hk)
  ·rw[updZ_ne _ _ e]at hz';exact(h.qr q z hq' hz').tch ht (fun k hk hm=>by
    simp at hm;subst hm;exact(h.qr q z hq' hz').nty h.stb (by decide) hk)
 ·intro q z hq' hz' k hk
  by_cases e:q=i
  ·subst e;rw[updZ_same]at hz';injection hz' with hz';subst hz';have:=hy k hk;exact if_neg (by omega)
  ·rw[updZ_ne _ _ e]at hz';have h1:=hlt q z hq' hz' k hk;simp only[h1,if_true];exact h.cl q z hq' hz' k hk
 ·intro q z hq' hz' k hk
  by_cases e:q=i
  ·subst e;rw[updZ_same]at hz';injection hz' with hz';subst hz';have:=hy k hk;omega
  ·rw[updZ_ne _ _ e]at hz';exact h.lo q z hq' hz' k hk
theorem letterQ (qb:Nat)(q:Int)(W:World)(h:W.cell? ⟨qb,0,none⟩=some (.int .u8 q)):zE 89 #[.pointer (some ⟨qb,0,none⟩)] W (.int .u8 q):=by
 go_enter Tryz.func89,Tryz.ntmps89;go_wp2_with fail;go_ret;exact⟨rfl,rfl⟩
def qbs (c:Nat->Option QM)(L:List Nat):List UInt8:=L.flatMap (fun i=>((c i).map (fun Q=>Q.c.q::allB Q)).getD [])
theorem qbs_filter (c:Nat->Option QM):∀l:List Nat,(l.filterMap c).flatMap (fun Q=>Q.c.q::allB Q)=qbs c (l.filter (fun i=>(c i).isSome))
 | []=>rfl
 | i::l=>by
  have ih:=qbs_filter c l;unfold qbs at ih ⊢
  cases h:c i with
  | none=>
   rw[List.filterMap_cons_none h,List.filter_cons_of_neg (by simp[h])];exact ih
  | some Q=>
   rw[List.filterMap_cons_some h,List.filter_cons_of_pos (by simp[h]),List.flatMap_cons,List.flatMap_cons,ih,h];rfl
def strN (w:World)(a:Addr):Nat:=match w.cell? a with
 | some (.string s)=>s.size
 | _=>0
structure Rst (B:Nat)(w:World)(n0:Int)(c0:Nat->Option QM)(col0:Nat->Nat)(st b rb:Nat)(L:List Nat)(Z:Nat->Option BQ)(col:Nat->Nat)(W:World):Prop where
 sg:SG w.heap.size W st b n0 Z col
 rd:RdL W rb (qbs c0 L)
 tch:Tch [] w W
 old:∀k,k<w.heap.size->col k=col0 k
 fut:∀k,w.heap.size<=k->col k≠9
 ct:∀i,i<8->i∉L->ctZ Z i=c0 i
 sm:∀i∈L,i<8/\∃Q,c0 i=some Q
 nd:L.Nodup
 rlo:w.heap.size<=rb
theorem Rst.env {st:Nat}(h:Rst B w n0 c0 col0 st b rb L Z col W)(hE:Env B w):Env B W:=hE.tch h.tch (by simp)
theorem Rst.next {W1 W2:World}{st:Nat}(h:Rst B w n0 c0 col0 st b rb (i::L) Z col W)(hQ:c0 i=some Q)(hq:QR W1 qb V Q)(hn:∀k∈qbl qb V,W.heap.size<=k)(hr:RdL W1 rb (qbs c0 L))(h1:Tch [rb] W W1)(h2:Tch [st] W1 W2)(hs:Stb W2 st b n0 (updP (fun i=>ptrV (ptZ Z i)) i (.pointer (some ⟨qb,0,none⟩)))):
  Rst B w n0 c0 col0 st b rb L (updZ Z i (some ⟨qb,V,Q⟩)) (fun k=>if k<W.heap.size then col k else i) W2:=by
 obtain⟨hi,_⟩:=h.sm i (by simp);have hlo:=h.rlo;have hls:=h.sg.ls;have hzW:=h.tch.size;have hrt:W.heap[rb]?=_:=h.rd.1;have hsg1:=h.sg.fr (T:=[154]) (Fr.of_tch h1 hzW (fun k hk=>by simp at hk;omega) (fun k hk C t hC=>by
  simp at hk;subst hk;rw[hrt]at hC;simp at hC;simp[<-hC.2])) (by decide) (by decide) (by decide)
 have hne:rb≠st:=fun e=>by
  have h3:W.heap[st]?=_:=h.sg.stb;rw[<-e,hrt]at h3;simp at h3
 refine⟨hsg1.put hi ⟨qb,V,Q⟩ hzW (fun j x hj hx k hk=>(h.sg.qr j x hj hx).lt k hk) h.sg.stb.lt hq hn h2 hs,hr.tch h2 (by simpa using hne),(h.tch.trans h1 (fun k hk hl=>by simp at hk;omega)).trans h2 (fun k hk hl=>by simp at hk;omega),fun k hk=>?_,fun k hk=>?_,fun j hj hm=>?_,fun j hj=>h.sm j (by simp[hj]),(List.nodup_cons.1 h.nd).2,hlo⟩
 ·show (if k<W.heap.size then col k else i)=col0 k
  rw[if_pos (by omega)];exact h.old k hk
 ·show (if k<W.heap.size then col k else i)≠9
  split
  ·exact h.fut k hk
  ·omega
 ·by_cases e:j=i
  ·subst e;rw[hQ];unfold ctZ;rw[updZ_same];rfl
  ·unfold ctZ;rw[updZ_ne _ _ e];exact h.ct j hj (fun hmm=>by
    rcases List.mem_cons.1 hmm with e2|e2
    ·exact e e2
    ·exact hm e2)
theorem sread_any (B:Nat)(n0:Int)(c0:Nat->Option QM)(col0:Nat->Nat)(w:World)(hE:Env B w)(hW:WFc c0)(hn:0<=n0/\n0<=60000)(hcol:∀k,w.heap.size<=k->col0 k≠9)(hl:(wholeC n0 c0).length<=1000000):
  Calls Tryz.prog 63 #[.string (BA (wholeC n0 c0))] w fun e w'=>∃st b Z col,e=.returned (.tuple #[.pointer (some ⟨st,0,none⟩),.bool true])/\SG w.heap.size w' st b n0 Z col/\(∀i,i<8->ctZ Z i=c0 i)/\(∀k,k<w.heap.size->col k=col0 k)/\(∀k,w.heap.size<=k->col k≠9)/\Tch [] w w':=by
 obtain⟨m,rfl⟩:∃m:Nat,n0=(m:Int):=⟨n0.toNat,(Int.toNat_of_nonneg hn.1).symm⟩;obtain⟨LL,hLL⟩:∃LL,LL=(List.range 8).filter (fun i=>(c0 i).isSome):=⟨_,rfl⟩;have e0:wholeC (m:Int) c0=lowB m 4++qbs c0 LL:=by
  unfold wholeC;rw[qbs_filter,hLL];rfl
 have hsome:∀i∈LL,i<8/\∃Q,c0 i=some Q:=fun i hi=>by
  rw[hLL]at hi;obtain⟨h1,h2⟩:=List.mem_filter.1 hi;exact⟨List.mem_range.1 h1,Option.isSome_iff_exists.1 h2⟩
 have hnone:∀i,i<8->i∉LL->c0 i=none:=fun i hi hm=>by
  cases h:c0 i with
  | none=>rfl
  | some Q=>
   rw[hLL]at hm;exact absurd (List.mem_filter.2 ⟨List.mem_range.2 hi,by simp[h]⟩) hm
 have hnd:LL.Nodup:=by
  rw[hLL];exact List.nodup_range.filter _
 rw[e0]at hl ⊢;have HNR:Hid (∀W,Calls Tryz.prog 52 #[.string (BA (lowB m 4++qbs c0 LL))] W fun e w'=>e=.returned (.pointer (some ⟨W.heap.size,0,none⟩))/\w'=W.alloc (.cells #[.string (BA (lowB m 4++qbs c0 LL)),.bool false] 154)):=fun W=>newReader_any _ W
 have HQ:Hid (∀W st b rb i L Z col,Rst B w (m:Int) c0 col0 st b rb (i::L) Z col W->Calls Tryz.prog 88 #[.pointer (some ⟨rb,0,none⟩)] W fun e w'=>∃qb V Q,e=.returned (.pointer (some ⟨qb,0,none⟩))/\c0 i=some Q/\QR w' qb V Q/\(∀k∈qbl qb V,W.heap.size<=k)/\RdL w' rb (qbs c0 L)/\Tch [rb] W w'):=fun W st b rb i L Z col h=>by
  obtain⟨hi,Q,hQ⟩:=h.sm i (by simp);have hr:=h.rd;have e1:qbs c0 (i::L)=(Q.c.q::allB Q)++qbs c0 L:=by
   unfold qbs;rw[List.flatMap_cons,hQ];rfl
  rw[e1]at hr;have h1:=h.rlo;have h2:=hE.size;refine(qread_any B rb i Q (qbs c0 L) W (h.env hE) (by omega) ((hW i Q hi hQ).rd hi) hr).mono ?_;rintro e w' ⟨qb,V,he,g1,g2,g3,g4⟩;exact⟨qb,V,Q,he,hQ,g1,g2,g3,g4⟩
 have HQL:Hid (∀i Q,i<8->c0 i=some Q->Q.c.q.toNat=97+i):=fun i Q hi hQ=>(hW i Q hi hQ).c.q
 have hn4:m<4294967296:=by omega
 clear hE hW e0 hLL;go_enter Tryz.func63,Tryz.ntmps63;go_wp2_with fail;refine(new_any w).mono ?_;rintro e w1 ⟨rfl,hb1,hz1,hst1,htb1⟩;have H1:Hid (SG w.heap.size w1 (w.heap.size+5) w.heap.size 0 (fun _=>none) col0/\Tch [] w w1):=⟨⟨hst1,htb1,fun i x _ hx=>by simp at hx,fun i x _ hx=>by simp at hx,fun i x _ hx=>by simp at hx,by omega,hcol _ (by omega)⟩,Tch.of_below hb1⟩
 obtain⟨st,hst⟩:∃st,st=w.heap.size+5:=⟨_,rfl⟩;rw[<-hst]at H1 ⊢;have HZ1:=zH hz1;have HST:=zH hst;clear hb1 hst1 htb1 hz1 hst;go_wp2_with fail;refine(HNR.out w1).mono ?_;rintro e w2 ⟨rfl,hw2⟩;have H2:Hid (SG w.heap.size w2 st w.heap.size 0 (fun _=>none) col0/\Tch [] w w2/\RdL w2 w1.heap.size (lowB m 4++qbs c0 LL)):=by
  have tt:Tch [] w1 w2:=by
   rw[hw2];exact(Tch.refl [] w1).alloc _
  refine⟨H1.out.1.tch tt,H1.out.2.trans tt (by simp),?_,hl⟩;rw[hw2];exact heap_alloc_new _ _
 obtain⟨rb,hrb⟩:∃rb,rb=w1.heap.size:=⟨_,rfl⟩;rw[<-hrb]at H2 ⊢;have HRB:=zH hrb;clear hw2 H1 HNR hrb;go_wp2_with fail;refine(num_l rb m 4 _ w2 (.inr (.inr ⟨rfl,hn4⟩)) H2.out.2.2).mono ?_;rintro e w3 ⟨rfl,r3,t3⟩;have hrw:w.heap.size<=rb:=by have:=HZ1.out;have:=HRB.out;have:=HST.out;omega
 have H3:Hid (SG w.heap.size w3 st w.heap.size 0 (fun _=>none) col0/\Tch [] w w3/\RdL w3 rb (qbs c0 LL)):=by
  refine⟨H2.out.1.fr (T:=[154]) (Fr.of_tch t3 H2.out.2.1.size (fun k hk=>by simp at hk;omega) (fun k hk C t hC=>?_)) (by decide) (by decide) (by decide),H2.out.2.1.trans t3 (fun k hk hl=>by simp at hk;omega),r3⟩;simp at hk;subst hk;have h1:w2.heap[k]?=_:=H2.out.2.2.1;rw[h1]at hC;simp at hC;simp[<-hC.2]
 have s0:=H3.out.1.stb.now;have sz:w3.frozen? ⟨st,0,none⟩=false:=frozen_of_row w3 _ _ _ 94 H3.out.1.stb;have hrst:rb≠st:=by have:=HZ1.out;have:=HRB.out;have:=HST.out;omega
 have H4:Hid (Rst B w (m:Int) c0 col0 st w.heap.size rb LL (fun _=>none) col0 (w3.setCell ⟨st,0,none⟩ (.int .i64 (m:Int)))):=by
  have tt:=set_tch w3 st 0 (.int .i64 (m:Int));have hls:=H3.out.1.ls;refine⟨⟨H3.out.1.stb.set0 (m:Int),fun q f hq=>?_,fun i x _ hx=>by simp at hx,fun i x _ hx=>by simp at hx,fun i x _ hx=>by simp at hx,hls,H3.out.1.cs⟩,H3.out.2.2.tch tt (by simpa using hrst),H3.out.2.1.trans tt (fun k hk hl=>by simp at hk;omega),fun k _=>rfl,hcol,fun i hi hm=>(hnone i hi hm).symm,hsome,hnd,hrw⟩
  refine(tt.block _ (lt_of_block (H3.out.1.tb q f hq)) (fun hm=>?_)).trans (H3.out.1.tb q f hq);have h1:=H3.out.1.tb q f hq;simp at hm;rw[hm,H3.out.1.stb]at h1;simp at h1
 clear r3 t3 H2 hnone hsome hnd hl HST HRB HZ1;clear H3;go_wp2_with fail
 go_loopw [6] (fun _ wr=>∃L Z col,Rst B w (m:Int) c0 col0 st w.heap.size rb L Z col wr) (fun _ wr=>strN wr ⟨rb,0,none⟩)
 case atStart=>exact⟨LL,_,_,H4.out⟩
 case round=>
  obtain⟨L,Z,col,hR⟩:=hrel;clear H4 s0 sz;have HR:=zH hR;have r0:=hR.rd.1.c0;have r1:=hR.rd.1.c1
  cases L with
  | nil=>
   have hz:(BA (qbs c0 [])).size=0:=rfl;clear hR HQ HQL;generalize BA (qbs c0 [])=R at*
   go_wp2_with (first|(go_at_call 57;go_in)|(go_at_call 56;go_in));go_ret2;exact⟨st,w.heap.size,Z,col,rfl,HR.out.sg,fun i hi=>HR.out.ct i hi (by simp),HR.out.old,HR.out.fut,HR.out.tch⟩
  | cons i L=>
   obtain⟨hi,Q,hcQ⟩:=hR.sm i (by simp);have hz:0<(BA (qbs c0 (i::L))).size:=by
    rw[BA_size];unfold qbs;rw[List.flatMap_cons,hcQ]
    show 0<((Q.c.q::allB Q)++_).length
    simp
   have hms:strN wr ⟨rb,0,none⟩=(BA (qbs c0 (i::L))).size:=by
    unfold strN;rw[r0]
   have HC:=zH (HQ.out wr st w.heap.size rb i L Z col hR);have hmz:∀W,RdL W rb (qbs c0 L)->strN W ⟨rb,0,none⟩<strN wr ⟨rb,0,none⟩:=fun W hW=>by
    rw[hms];unfold strN;rw[hW.1.c0]
    show (BA _).size<_
    rw[BA_size,BA_size];unfold qbs;rw[List.flatMap_cons,hcQ]
    show _<((Q.c.q::allB Q)++_).length
    simp;omega
   clear hR HQ;generalize BA (qbs c0 (i::L))=R at*
   go_wp2_with (go_at_call 57;go_in);refine HC.out.mono ?_;rintro e w5 ⟨qb,V,Q',rfl,hQ',hqr,hn5,r5,t5⟩;obtain rfl:Q=Q':=Option.some.inj (hcQ.symm.trans hQ');have hq97:=HQL.out i Q hi hcQ;have hls:=HR.out.sg.stb.lt;have hne:st≠rb:=fun e=>by
    have h3:wr.heap[st]?=_:=HR.out.sg.stb;rw[e,HR.out.rd.1]at h3;simp at h3
   have hst5:Stb w5 st w.heap.size (m:Int) (fun i=>ptrV (ptZ Z i)):=(t5.block st hls (by simpa using hne)).trans HR.out.sg.stb;have cq0:w5.cell? ⟨qb,0,none⟩=some (.int .u8 ((Q.c.q.toNat:Nat):Int)):=cell_qC hqr.blk 0 _ rfl;have cq:w5.cell? ⟨qb,0,none⟩=some (.int .u8 (97+(i:Int))):=by
    rw[cq0,hq97];simp
   have cs:=hst5.cell i hi;have cz:w5.frozen? ⟨st,1+i,none⟩=false:=frozen_of_row w5 _ _ _ 94 hst5;have HNX:Hid (∀W2,Tch [st] w5 W2->Stb W2 st w.heap.size (m:Int) (updP (fun i=>ptrV (ptZ Z i)) i (.pointer (some ⟨qb,0,none⟩)))->Rst B w (m:Int) c0 col0 st w.heap.size rb L (updZ Z i (some ⟨qb,V,Q⟩)) (fun k=>if k<wr.heap.size then col k else i) W2):=fun W2 h2 hs=>HR.out.next hcQ hqr hn5 r5 t5 h2 hs
   have hqs:qb≠st:=fun e=>by
    have h3:w5.heap[st]?=_:=hst5;have h4:w5.heap[qb]?=_:=hqr.blk;rw[e,h3]at h4;simp at h4
   have dq:∀v,(w5.setCell ⟨st,1+i,none⟩ v).cell? ⟨qb,0,none⟩=some (.int .u8 (97+(i:Int))):=fun v=>(World.cell?_of_block (heap_setCell_other _ _ _ _ hqs)).trans cq
   have dz:∀v,(w5.setCell ⟨st,1+i,none⟩ v).frozen? ⟨st,1+i,none⟩=false:=fun v=>frozen_of_row _ st _ _ 94 (heap_setCell_same w5 st (1+i) _ 94 v hst5)
   have dz2:∀v,(w5.setCell ⟨st,1+i,none⟩ v).drew.frozen? ⟨st,1+i,none⟩=false:=fun v=>frozen_of_row _ st _ _ 94 (heap_setCell_same w5 st (1+i) _ 94 v hst5)
   have HSB:=zH (hst5.set i hi (.pointer (some ⟨qb,0,none⟩)));have hw0:IntKind.u8.wrap (97+(i:Int)-97)=(i:Int):=by
    have e:(97+(i:Int)-97)=(i:Int):=by omega
    rw[e,IntKind.wrap_u8];omega
   have hiI:(i:Int)<8:=by omega
   clear cq0 hQ' hqr hn5 r5 t5 hst5 HC hls r0 r1 hne HR hz hms;generalize ptrV (ptZ Z i)=pv at cs
   go_upto_region 8 with fail
   go_region_held3 (fun w'=>w'.cell? ⟨qb,0,none⟩=some (.int .u8 (97+(i:Int)))/\w'.frozen? ⟨st,1+i,none⟩=false) (go_keep) (first|(go_at_call 89;refine(letterQ qb (97+(i:Int)) _ (by first|assumption|exact cq)).mono ?_;rintro e w' ⟨rfl,rfl⟩))
   have HFN:Hid (Rst B w (m:Int) c0 col0 st w.heap.size rb L (updZ Z i (some ⟨qb,V,Q⟩)) (fun k=>if k<wr.heap.size then col k else i) (w5.setCell ⟨st,1+i,none⟩ (.pointer (some ⟨qb,0,none⟩))).drew):=HNX.out _ (set_tch w5 st (1+i) _).drew HSB.out;go_roundw
   case rel=>exact⟨_,_,_,_,_,_,_,_,_,_,_,_,_,_,_,_,_,_,⟨L,_,_,HFN.out⟩,rfl⟩
   case measure=>exact hmz _ HFN.out.rd
end Go.Proofs.YtbdobaapadlcjabGreatDoor
