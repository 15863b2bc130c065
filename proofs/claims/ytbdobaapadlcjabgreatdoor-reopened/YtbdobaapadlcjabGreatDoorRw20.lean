import Derived.Test.YtbdobaapadlcjabGreatDoorRw19
set_option maxRecDepth 8000
set_option maxHeartbeats 4000000
set_option linter.unusedVariables false
set_option linter.unusedSimpArgs false
namespace Go.Proofs.YtbdobaapadlcjabGreatDoor
open Go.RowKit
variable {B x st:Nat}{w w':World}{v:Value}{o:Option ByteArray}{room:Int}{col:Nat->Nat}
structure JgP (B:Nat)(w:World)(x st j d:Nat)(v:Value)(o:Option ByteArray)(room:Int)(n k:Nat)(col:Nat->Nat):Prop where
 hx:w.heap[x]?=some (.cells #[.pointer (some ⟨st,0,none⟩),.pointer (some ⟨j,0,none⟩)] 60 (0,0))
 jr:Jr w j d room v (fileO o) n k
 lo:∀b∈jbl j d v,B<=b
 bd:(0<room->((datO o).size:Int)+room<=217000)/\(datO o).size<=310000/\-100000<=room/\room<=16384
 cj:∀b∈jbl j d v,col b≠9
 dc:col 0=d+10
def Jg (B:Nat)(w:World)(x st:Nat)(o:Option ByteArray)(room:Int)(col:Nat->Nat):Prop:=∃j d v n k,JgP B w x st j d v o room n k col
def JgO (B:Nat)(w0:World)(col:Nat->Nat)(w:World)(x st:Nat)(o:Option ByteArray)(room:Int):Prop:=Jg B w x st o room col/\∀k:Nat,k<w0.heap.size->col k=9->w.heap[k]?=w0.heap[k]?
theorem JgP.lt {j d:Nat}{n k:Nat}(h:JgP B w x st j d v o room n k col):∀b∈jbl j d v,b<w.heap.size:=fun b hb=>by
 rcases List.mem_cons.1 hb with e|e
 ·rw[e];exact lt_of_block h.jr.hj
 ·rcases List.mem_cons.1 e with e|e
  ·rw[e];exact lt_of_block h.jr.dsk.blk
  ·exact own_lt h.jr.dsk.own (by simpa [Option.mem_toList]using e)
theorem Jg.recol {col':Nat->Nat}(h:Jg B w x st o room col)(ha:∀k,k<w.heap.size->col' k=9->col k=9)(h0:0<w.heap.size->col' 0=col 0):Jg B w x st o room col':=by
 obtain⟨j,d,v,n,k,h⟩:=h;exact⟨j,d,v,n,k,h.hx,h.jr,h.lo,h.bd,fun b hb e=>h.cj b hb (ha b (h.lt b hb) e),(h0 (by have:=lt_of_block h.hx;omega)).trans h.dc⟩
theorem Jg.fr (h:Jg B w x st o room col){T:List TypeId}(ht:Fr B T w w')(h1:60∉T)(h2:85∉T)(h3:77∉T)(h4:79∉T):Jg B w' x st o room col:=by
 obtain⟨j,d,v,n,k,h⟩:=h;exact⟨j,d,v,n,k,ht.keep _ _ _ h.hx h1,⟨ht.keep _ _ _ h.jr.hj h2,⟨ht.keep _ _ _ h.jr.dsk.blk h3,ht.own h.jr.dsk.own h4,h.jr.dsk.sep⟩,h.jr.gd⟩,h.lo,h.bd,h.cj,h.dc⟩
theorem Jg.tch (h:Jg B w x st o room col)(ht:Tch [] w w'):Jg B w' x st o room col:=by
 obtain⟨j,d,v,n,k,h⟩:=h;exact⟨j,d,v,n,k,(ht.block _ (lt_of_block h.hx) (by simp)).trans h.hx,h.jr.tch ht (by simp),h.lo,h.bd,h.cj,h.dc⟩
theorem dat_app (a b:ByteArray):(a++b).size=a.size+b.size:=by simp
theorem rec_sz (l:List UInt8):(⟨l.toArray⟩:ByteArray).size=l.length:=by show l.toArray.size=_;simp
theorem layO_bd (o:Option ByteArray)(room:Int)(rec:List UInt8)(t:ByteArray)(h:(0<room->((datO o).size:Int)+room<=217000)/\(datO o).size<=310000/\-100000<=room/\room<=16384)(hp:0<rec.length)(hl:rec.length<=100000)(ht:t.size<=200000):
  (0<(layO o room rec t).2->((datO (some (layO o room rec t).1)).size:Int)+(layO o room rec t).2<=217000)/\(datO (some (layO o room rec t).1)).size<=310000/\-100000<=(layO o room rec t).2/\(layO o room rec t).2<=16384:=by
 by_cases hc:(rec.length:Int)<=room
 ·have e:layO o room rec t=(datO o++(⟨rec.toArray⟩:ByteArray),(room-rec.length:Int)):=if_pos hc;rw[e];have e2:(datO (some (datO o++(⟨rec.toArray⟩:ByteArray)))).size=(datO o).size+rec.length:=by
   show (datO o++(⟨rec.toArray⟩:ByteArray)).size=_
   rw[dat_app,rec_sz rec]
  simp only[e2];omega
 ·have e:layO o room rec t=((⟨(recB t).toArray⟩:ByteArray)++(⟨rec.toArray⟩:ByteArray),(16384-rec.length:Int)):=if_neg hc;rw[e];have e2:(datO (some ((⟨(recB t).toArray⟩:ByteArray)++(⟨rec.toArray⟩:ByteArray)))).size=8+t.size+rec.length:=by
   show ((⟨(recB t).toArray⟩:ByteArray)++(⟨rec.toArray⟩:ByteArray)).size=_
   rw[dat_app,rec_sz (recB t),rec_sz rec,recB_length]
  simp only[e2];omega
def PlG (B:Nat)(N:Prop)(J:World->Prop)(K:ByteArray->World->Prop)(e:Ending)(w1:World):Prop:=
 ∃t,(e=.returned (.tuple #[.string t,.nilFunc])/\N/\∀w2,Tch [] w1 w2->K t w2)\/
  ∃f cap,e=.returned (.tuple #[.string t,.func (.func f) #[] cap])/\(∀args w,(callFunc f args).run Tryz.prog w=.ok (.enter f args) w)/\∀w2 w3,Tch [] w1 w2->Fr B TJ w2 w3->J w3->Calls Tryz.prog f cap w3 fun e w'=>e=.returned (.tuple #[])/\K t w'
theorem PlG.mono {N:Prop}{J J':World->Prop}{K:ByteArray->World->Prop}{e:Ending}(h:PlG B N J K e w)(hj:∀w,J' w->J w):PlG B N J' K e w:=by
 obtain⟨t,h|⟨f,cap,h1,h2,h3⟩⟩:=h
 ·exact⟨t,.inl h⟩
 ·exact⟨t,.inr ⟨f,cap,h1,h2,fun w2 w3 a b c=>h3 w2 w3 a b (hj w3 c)⟩⟩
theorem PlG.shape {N:Prop}{J:World->Prop}{K:ByteArray->World->Prop}{e:Ending}(h:PlG B N J K e w):∃t chg,e=.returned (.tuple #[.string t,chg]):=by
 obtain⟨t,⟨h,_⟩|⟨f,cap,h,_⟩⟩:=h
 ·exact⟨_,_,h⟩
 ·exact⟨_,_,h⟩
theorem lay_g (B x st j d:Nat)(v:Value)(o:Option ByteArray)(room:Int)(n k base:Nat)(t:ByteArray)(rv:Value)(rec:List UInt8)(col:Nat->Nat)(w:World)(h:JgP B w x st j d v o room n k col)(hfu:∀k:Nat,w.heap.size<=k->col k≠9)(hBw:B<=w.heap.size)(h3:3<=B)(hT:Tab w)(ho:OwnB w base rv rec)(hpos:0<rec.length)(hrl:rec.length<=100000)(ht:t.size<=200000)
  (hW:∀W,Tch [j] w W->zT 25 #[.pointer (some ⟨st,0,none⟩)] W (.string t)):
  Calls Tryz.prog 24 #[.pointer (some ⟨j,0,none⟩),rv,.func (.func 25) #[.pointer (some ⟨st,0,none⟩)] #[]] w fun e w'=>e=.returned (.bool true)/\Fr B TJ w w'/\JgO B w col w' x st (some (layO o room rec t).1) (layO o room rec t).2:=by
 have hbd:=h.bd;refine(lay_x j d st room v o n k base t rv rec w h.jr ho hpos (by omega) (by omega) (by omega) (by omega) hT (by omega) (by have:=h.lo j (by simp[jbl]);omega) hW).mono ?_;rintro e w' ⟨rfl,v',n',k',hj',ht',hb'⟩;refine⟨rfl,h.jr.fr hBw h.lo ht',⟨j,d,v',n',k',?_,hj',fun b hb=>?_,layO_bd o room rec t hbd hpos hrl ht,fun b hb=>?_,h.dc⟩,fun q hq h9=>ht'.block q hq (fun hm=>h.cj q hm h9)⟩
 ·exact(ht'.block _ (lt_of_block h.hx) (h.jr.apart h.hx (by decide) (by decide) (by decide))).trans h.hx
 ·rcases List.mem_cons.1 hb with e|e
  ·rw[e];exact h.lo j (by simp[jbl])
  ·rcases List.mem_cons.1 e with e|e
   ·rw[e];exact h.lo d (by simp[jbl,Dk.bl])
   ·rcases hb' b (by simpa [Option.mem_toList]using e) with h1|h1
    ·exact h.lo b (by simp[jbl,Dk.bl,h1])
    ·omega
 ·rcases List.mem_cons.1 hb with e|e
  ·rw[e];exact h.cj j (by simp[jbl])
  ·rcases List.mem_cons.1 e with e|e
   ·rw[e];exact h.cj d (by simp[jbl,Dk.bl])
   ·rcases hb' b (by simpa [Option.mem_toList]using e) with h1|h1
    ·exact h.cj b (by simp[jbl,Dk.bl,h1])
    ·exact hfu b h1
def YS (w W:World)(y:Sl)(bs:List ByteArray):Prop:=y.n=bs.length/\FStrs w.heap.size W y.a bs
theorem YS.tch {W W':World}{y:Sl}{bs:List ByteArray}(h:YS w W y bs)(ht:Tch [] W W'):YS w W' y bs:=⟨h.1,fun j hj=>by
 obtain⟨b,o,ha,hb,hc⟩:=h.2 j hj;exact⟨b,o,ha,hb,(ht.cell (World.block_lt_of_cell? _ _ hc) (by simp)).trans hc⟩⟩
theorem parse_ys (B:Nat)(s:ByteArray)(r:Wp.Rq)(bs:List ByteArray)(w:World)(hs:s.size<=maxLen)(hL:Lays B w)(hBw:B<=w.heap.size)(hg:parseGood s=true)(hr:(endSt s).r=r)(hbs:(endSt s).bs=bs):
  Calls Tryz.prog 28 #[.string s] w fun e w'=>∃y:Sl,e=.returned (.tuple #[.agg (cellsOf r y.v),.int .i64 0])/\Below w.heap.size w w'/\YS w w' y bs:=by
 refine(parse_any B s w hs hL hBw).mono ?_;rintro e w' ⟨h|h,hb⟩
 ·obtain⟨_,y,he,hy⟩:=h;exact⟨y,by rw[he,hr],hb,by rw[<-hbs];exact hy⟩
 ·rw[hg]at h;exact absurd h.1 (by decide)
theorem bdo_g {N:Prop}(K:ByteArray->World->Prop)(B:Nat)(o:Option ByteArray)(room:Int)(tw:ByteArray)(s:ByteArray)(r:Wp.Rq)(x st:Nat)(Cst:Array Value)(col:Nat->Nat)(w:World)(hfu:∀k:Nat,w.heap.size<=k->col k≠9)(hs:s.size<=90000)(hL:Lays B w)(hT:Tab w)(hBw:B<=w.heap.size)(h3:3<=B)(hg:parseGood s=true)(hr:(endSt s).r=r)
  (hJ:Jg B w x st o room col)(htw:tw.size<=200000)(hst:w.heap[st]?=some (.cells Cst 94 (0,0)))
  (hW:∀W,Fr B TJ w W->zT 25 #[.pointer (some ⟨st,0,none⟩)] W (.string tw))
  (bs:List ByteArray)(hbs:(endSt s).bs=bs)(hP:∀(W:World) (y:Sl),Tch [] w W->YS w W y bs->Calls Tryz.prog 30 #[.pointer (some ⟨st,0,none⟩),.agg (cellsOf r y.v)] W fun e w'=>Tch [] W w'/\PlG B N (fun w'=>JgO B w col w' x st (some (layO o room (recB s) tw).1) (layO o room (recB s) tw).2) K e w'):
  Calls Tryz.prog 11 #[.pointer (some ⟨x,0,none⟩),.string s] w fun e w'=>∃t,e=.returned (.string t)/\K t w':=by
 obtain⟨j,d,v,n,k,hJp⟩:=hJ;have hj143:=hJp.jr.hj;obtain⟨JJ,HJJ⟩:∃JJ:World->Prop,Hid (JJ=fun w'=>JgO B w col w' x st (some (layO o room (recB s) tw).1) (layO o room (recB s) tw).2):=⟨_,rfl⟩;rw[<-HJJ.out]at hP;have hx:=hJp.hx;have hltx:=lt_of_block hx;have hltj:=lt_of_block hJp.jr.hj;have hjst:st≠j:=fun e=>by
  have h1:=hJp.jr.hj;rw[<-e,hst]at h1;simp at h1
 have a0:w.cell? ⟨x,0,none⟩=some (.pointer (some ⟨st,0,none⟩)):=(cell_of_row w x 0 _ 60 (0,0) hx).trans rfl;have a1:w.cell? ⟨x,1,none⟩=some (.pointer (some ⟨j,0,none⟩)):=(cell_of_row w x 1 _ 60 (0,0) hx).trans rfl;have aj:=hJp.jr.c2;have HLAY:Hid (∀W rv,Tch [] w W->OwnB W w.heap.size rv (recB s)->Calls Tryz.prog 24 #[.pointer (some ⟨j,0,none⟩),rv,.func (.func 25) #[.pointer (some ⟨st,0,none⟩)] #[]] W fun e w'=>e=.returned (.bool true)/\Fr B TJ W w'/\JJ w'):=fun W rv ht ho=>by
  rw[HJJ.out];refine(lay_g B x st j d v o room n k w.heap.size tw rv (recB s) col W ⟨(ht.block _ hltx (by simp)).trans hx,hJp.jr.tch ht (by simp),hJp.lo,hJp.bd,hJp.cj,hJp.dc⟩ (fun k hk=>hfu k (Nat.le_trans ht.size hk)) (Nat.le_trans hBw ht.size) h3 (hT.below (B:=3) (ht.below (by simp) (by omega)) (by decide)) ho (by rw[recB_length];omega) (by rw[recB_length];omega) htw ?_).mono (fun e w' he=>⟨he.1,he.2.1,he.2.2.1,fun k hk h9=>(he.2.2.2 k (Nat.lt_of_lt_of_le hk ht.size) h9).trans (ht.block k hk (by simp))⟩);intro W2 ht2;refine hW W2 (Fr.of_tch ((ht.sub (by simp)).trans ht2 (fun _ h _=>h):Tch [j] w W2) hBw (fun k hk=>?_) (fun k hk C t hC=>?_))
  ·simp at hk;subst hk;exact hJp.lo k (by simp[jbl])
  ·simp at hk;subst hk;rw[hj143]at hC;simp at hC;rw[<-hC.2];decide
 have HREC:Hid (∀W,Tch [] w W->Calls Tryz.prog 31 #[.slice none 0 0,.string s] W fun e w'=>∃rv,e=.returned rv/\OwnB w' w.heap.size rv (recB s)/\Tch [] W w'):=fun W ht=>by
  refine(record_any s W (by omega) (hT.below (B:=3) (ht.below (by simp) (by omega)) (by decide)) (by have:=ht.size;omega)).mono ?_;rintro e w' ⟨rv,rfl,ho,hb⟩;exact⟨rv,rfl,⟨ho.1,by
   rcases ho.2 with h|⟨g,cap,cur,rfl,hb',rest⟩
   ·exact .inl h
   ·exact .inr ⟨g,cap,cur,rfl,Nat.le_trans ht.size hb',rest⟩⟩,Tch.of_below hb⟩
 have HD:=zH hP;have hfn:=func_nil2;have hnn:=nil_nil2;have HXB:=zH hx;clear hx hP hJp hW hst hj143 hfu;go_enter Tryz.func11,Tryz.ntmps11;go_wp2_with (go_at_call 27;go_in);refine(parse_ys B s r bs _ (by unfold maxLen;omega) hL hBw hg hr hbs).mono ?_;rintro e w1 ⟨y,rfl,hb,hys⟩;have cx:=(hb.cell (p:=⟨x,0,none⟩) hltx).trans a0;have cx1:=(hb.cell (p:=⟨x,1,none⟩) hltx).trans a1;have HBL:=zH hb;have HYS:=zH hys;have HXL:Hid ((laidIn w1 (cellsOf r y.v)).heap[w1.heap.size]?=some (.cells (cellsOf r y.v) 24 (0,0))):=laidIn_heap _ _;have HTL:Hid (Tch [] w1 (laidIn w1 (cellsOf r y.v))):=laidIn_tch _ _;have cx2:(laidIn w1 (cellsOf r y.v)).cell? ⟨x,0,none⟩=some (.pointer (some ⟨st,0,none⟩)):=((laidIn_tch _ _).cell (World.block_lt_of_cell? _ _ cx) (by simp)).trans cx;have cx3:(laidIn w1 (cellsOf r y.v)).cell? ⟨x,1,none⟩=some (.pointer (some ⟨j,0,none⟩)):=((laidIn_tch _ _).cell (World.block_lt_of_cell? _ _ cx1) (by simp)).trans cx1;obtain⟨wl,hwl⟩:∃wl,wl=laidIn w1 (cellsOf r y.v):=⟨_,rfl⟩;rw[<-hwl]at HXL HTL cx2 cx3;have HWL:=zH hwl;clear hb hwl a0 a1 aj hys;go_wp2_with (first
  | (refine wpList_store_row rfl 24 _ _ rfl w1.heap.size (cellsOf r y.v) ?hx ?hy 24 ?old ?hg ?hi ?hs ?h1 ?k;(case hx=>rfl);(case hy=>rfl);(case hg=>exact heap_alloc_new _ _);(case hi=>exact info37);(case hs=>rfl);(case h1=>exact cells_one _ _);rw[laidIn_is,<-HWL.out]))
 have hrow:=HXL.out;rw[zM r y]at hrow;have e0:wl.cell? ⟨w1.heap.size,0,none⟩=some (.int .u8 (r.op.toNat:Int)):=by simp[World.cell?,hrow]
 have e1:wl.cell? ⟨w1.heap.size,1,none⟩=some (.int .u8 (r.q.toNat:Int)):=by simp[World.cell?,hrow]
 have e2:wl.cell? ⟨w1.heap.size,2,none⟩=some (.int .u8 (r.d.toNat:Int)):=by simp[World.cell?,hrow]
 have e3:wl.cell? ⟨w1.heap.size,3,none⟩=some (.int .i64 r.vis):=by simp[World.cell?,hrow]
 have e4:wl.cell? ⟨w1.heap.size,4,none⟩=some (.int .i64 r.win):=by simp[World.cell?,hrow]
 have e5:wl.cell? ⟨w1.heap.size,5,none⟩=some (.int .i64 r.rcv):=by simp[World.cell?,hrow]
 have e6:wl.cell? ⟨w1.heap.size,6,none⟩=some (.int .i64 r.quo):=by simp[World.cell?,hrow]
 have e7:wl.cell? ⟨w1.heap.size,7,none⟩=some (.int .i64 r.mx):=by simp[World.cell?,hrow]
 have e8:wl.cell? ⟨w1.heap.size,8,none⟩=some (.int .i64 r.tic):=by simp[World.cell?,hrow]
 have e9:wl.cell? ⟨w1.heap.size,9,none⟩=some (.string r.grp):=by simp[World.cell?,hrow]
 have e10:wl.cell? ⟨w1.heap.size,10,none⟩=some (.string r.ded):=by simp[World.cell?,hrow]
 have e11:wl.cell? ⟨w1.heap.size,11,none⟩=some (.string r.bod):=by simp[World.cell?,hrow]
 have e12:wl.cell? ⟨w1.heap.size,12,none⟩=some (.string r.att):=by simp[World.cell?,hrow]
 have e13:wl.cell? ⟨w1.heap.size,13,none⟩=some (.string r.han):=by simp[World.cell?,hrow]
 have e14:wl.cell? ⟨w1.heap.size,14,none⟩=some (.slice y.a y.n y.c):=by simp[World.cell?,hrow]
 have hlL:w1.heap.size<wl.heap.size:=lt_of_block HXL.out;have hlX:x<wl.heap.size:=World.block_lt_of_cell? _ _ cx2;have HX1:=zH cx3;have HTW:=zH ((Tch.of_below HBL.out).trans HTL.out (by simp));have HPL:Hid (∀n,Calls Tryz.prog 30 #[.pointer (some ⟨st,0,none⟩),.agg (cellsOf r y.v)] (wl.drewN n) fun e w'=>Tch [] (wl.drewN n) w'/\PlG B N JJ K e w'):=fun n=>HD.out (wl.drewN n) y (HTW.out.drewN n) (HYS.out.tch (HTL.out.drewN n))
 rw[zM r y]at HPL;have HPL1:=zH (HPL.out 1);clear hrow cx3
 go_region_held3 (fun w'=>w'.cell? ⟨w1.heap.size,0,none⟩=some (.int .u8 (r.op.toNat:Int))/\w'.cell? ⟨w1.heap.size,1,none⟩=some (.int .u8 (r.q.toNat:Int))/\w'.cell? ⟨w1.heap.size,2,none⟩=some (.int .u8 (r.d.toNat:Int))/\w'.cell? ⟨w1.heap.size,3,none⟩=some (.int .i64 r.vis)/\w'.cell? ⟨w1.heap.size,4,none⟩=some (.int .i64 r.win)/\w'.cell? ⟨w1.heap.size,5,none⟩=some (.int .i64 r.rcv)/\w'.cell? ⟨w1.heap.size,6,none⟩=some (.int .i64 r.quo)/\w'.cell? ⟨w1.heap.size,7,none⟩=some (.int .i64 r.mx)/\w'.cell? ⟨w1.heap.size,8,none⟩=some (.int .i64 r.tic)/\w'.cell? ⟨w1.heap.size,9,none⟩=some (.string r.grp)/\w'.cell? ⟨w1.heap.size,10,none⟩=some (.string r.ded)/\w'.cell? ⟨w1.heap.size,11,none⟩=some (.string r.bod)/\w'.cell? ⟨w1.heap.size,12,none⟩=some (.string r.att)/\w'.cell? ⟨w1.heap.size,13,none⟩=some (.string r.han)/\w'.cell? ⟨w1.heap.size,14,none⟩=some (.slice y.a y.n y.c)/\w'.cell? ⟨x,0,none⟩=some (.pointer (some ⟨st,0,none⟩))) (go_keep) (first|(go_at_call 30;refine HPL1.out.mono ?_;rintro e w2 ⟨ht,hpl⟩;obtain⟨t,chg,rfl⟩:=hpl.shape;have k0:=(ht.cell (a:=⟨w1.heap.size,0,none⟩) hlL (by simp)).trans e0;have k1:=(ht.cell (a:=⟨w1.heap.size,1,none⟩) hlL (by simp)).trans e1;have k2:=(ht.cell (a:=⟨w1.heap.size,2,none⟩) hlL (by simp)).trans e2;have k3:=(ht.cell (a:=⟨w1.heap.size,3,none⟩) hlL (by simp)).trans e3;have k4:=(ht.cell (a:=⟨w1.heap.size,4,none⟩) hlL (by simp)).trans e4;have k5:=(ht.cell (a:=⟨w1.heap.size,5,none⟩) hlL (by simp)).trans e5;have k6:=(ht.cell (a:=⟨w1.heap.size,6,none⟩) hlL (by simp)).trans e6;have k7:=(ht.cell (a:=⟨w1.heap.size,7,none⟩) hlL (by simp)).trans e7;have k8:=(ht.cell (a:=⟨w1.heap.size,8,none⟩) hlL (by simp)).trans e8;have k9:=(ht.cell (a:=⟨w1.heap.size,9,none⟩) hlL (by simp)).trans e9;have k10:=(ht.cell (a:=⟨w1.heap.size,10,none⟩) hlL (by simp)).trans e10;have k11:=(ht.cell (a:=⟨w1.heap.size,11,none⟩) hlL (by simp)).trans e11;have k12:=(ht.cell (a:=⟨w1.heap.size,12,none⟩) hlL (by simp)).trans e12;have k13:=(ht.cell (a:=⟨w1.heap.size,13,none⟩) hlL (by simp)).trans e13;have k14:=(ht.cell (a:=⟨w1.heap.size,14,none⟩) hlL (by simp)).trans e14;have kx:=(ht.cell (a:=⟨x,0,none⟩) hlX (by simp)).trans cx2))
 have kx1:=(ht.cell (a:=⟨x,1,none⟩) hlX (by simp)).trans HX1.out;have HT2:=zH ((HTW.out.drew).trans ht (by simp));have hlX2:x<w2.heap.size:=World.block_lt_of_cell? _ _ kx;clear ht cx2 cx cx1 e0 k0 e1 k1 e2 k2 e3 k3 e4 k4 e5 k5 e6 k6 e7 k7 e8 k8 e9 k9 e10 k10 e11 k11 e12 k12 e13 k13 e14 k14;obtain⟨t',⟨he,_,hk⟩|⟨f,cap,he,eg,hc⟩⟩:=hpl
 ·simp only[Ending.returned.injEq,Value.tuple.injEq,Array.mk.injEq,List.cons.injEq,Value.string.injEq,and_true]at he;obtain⟨rfl,rfl⟩:=he;go_wp2_with fail;go_ret;exact⟨_,rfl,hk _ (Tch.refl _ _)⟩
 ·simp only[Ending.returned.injEq,Value.tuple.injEq,Array.mk.injEq,List.cons.injEq,Value.string.injEq,and_true]at he;obtain⟨rfl,rfl⟩:=he;have HC:=zH hc;clear hc;go_wp2_with fail
  go_region_held3 (fun w'=>w'.cell? ⟨x,0,none⟩=some (.pointer (some ⟨st,0,none⟩))/\w'.cell? ⟨x,1,none⟩=some (.pointer (some ⟨j,0,none⟩))) (go_keep) (first|(go_at_call 31;refine(HREC.out _ HT2.out.drew).mono ?_;rintro e w3 ⟨rv,rfl,ho,ht3⟩;have m0:=(ht3.cell (a:=⟨x,0,none⟩) hlX2 (by simp)).trans kx;have m1:=(ht3.cell (a:=⟨x,1,none⟩) hlX2 (by simp)).trans kx1;have HT3:Hid (Tch [] w w3/\Tch [] w2 w3/\OwnB w3 w.heap.size rv (recB s)):=⟨HT2.out.drew.trans ht3 (by simp),(Tch.refl [] w2).drew.trans ht3 (by simp),ho⟩;clear ho ht3)|(go_at_call 24;refine(HLAY.out _ _ HT3.out.1 HT3.out.2.2).mono ?_;rintro e w4 ⟨rfl,hfr,hjn⟩;have hb4:=hfr.keep x _ 60 ((HT3.out.1.block x hltx (by simp)).trans HXB.out) (by decide);have n0:w4.cell? ⟨x,0,none⟩=some (.pointer (some ⟨st,0,none⟩)):=(cell_of_row w4 x 0 _ 60 (0,0) hb4).trans rfl;have n1:w4.cell? ⟨x,1,none⟩=some (.pointer (some ⟨j,0,none⟩)):=(cell_of_row w4 x 1 _ 60 (0,0) hb4).trans rfl;have HC4:Hid (Calls Tryz.prog f cap w4 fun e w'=>e=.returned (.tuple #[])/\K t w'):=HC.out w3 w4 HT3.out.2.1 hfr hjn;clear hfr hjn hb4))
  all_goals go_wp2_with (go_at_fn f;refine HC4.out.mono ?_;rintro e w5 ⟨rfl,hk⟩)
  all_goals go_ret
  all_goals exact⟨t,rfl,hk⟩
theorem one_str (c:UInt8)(W:World)(g cap:Nat)(h:W.cell? ⟨g,0,none⟩=some (.int .u8 (c.toNat:Int))):(convert 54 9 (.slice (some ⟨g,0,none⟩) 1 cap)).run Tryz.prog W=.ok (.string ⟨#[c]⟩) W:=by
 refine run_convert_bytes_back (P:=Tryz.prog) W 54 9 5 ⟨g,0,none⟩ cap [c] Tryz.underlying54 Tryz.underlying5 Tryz.underlying9 ?_;intro j hj;have hj0:j=0:=by simpa using hj
 subst hj0;exact h
theorem refusal_any (c:UInt8)(w:World):zT 29 #[.int .i64 (c.toNat:Int)] w (.string ⟨#[c]⟩):=by
 have hc:=c.toNat_lt;have hw:IntKind.u8.wrap ((c.toNat:Nat):Int)=((c.toNat:Nat):Int):=by rw[IntKind.wrap_u8];omega
 have hs:=one_str c;have hl:(w.alloc (.cells #[.int .u8 ((c.toNat:Nat):Int)] 5)).cell? ⟨w.heap.size,0,none⟩=some (.int .u8 ((c.toNat:Nat):Int)):=cell_of_one (heap_alloc_new _ _);generalize ((c.toNat:Nat):Int)=n at*
 go_enter Tryz.func29,Tryz.ntmps29;go_wp2_with fail;go_ret;exact⟨rfl,(Tch.refl _ _).alloc _⟩
def ChgG (B:Nat)(N:Prop)(J:World->Prop)(K:ByteArray->World->Prop)(t:ByteArray)(chg:Value)(w:World):Prop:=
 (chg=.nilFunc/\N/\∀w2,Tch [] w w2->K t w2)\/∃f cap,chg=.func (.func f) #[] cap/\(∀args w,(callFunc f args).run Tryz.prog w=.ok (.enter f args) w)/\∀w2 w3,Tch [] w w2->Fr B TJ w2 w3->J w3->Calls Tryz.prog f cap w3 fun e w'=>e=.returned (.tuple #[])/\K t w'
def RdN (w:World)(v:Value)(l:List UInt8):Prop:=(v=.slice none 0 0/\l=[])\/(0<l.length/\l.length<=100000/\Rdb w v l)
def Ans (B:Nat)(N:Prop)(J:World->Prop)(K:ByteArray->World->Prop)(e:Ending)(w:World):Prop:=
 (∃c:UInt8,0<c.toNat/\e=.returned (.tuple #[.slice none 0 0,.nilFunc,.int .i64 (c.toNat:Int)])/\N/\∀w2,Tch [] w w2->K ⟨#[c]⟩ w2)\/
 (∃av chg l,e=.returned (.tuple #[av,chg,.int .i64 0])/\RdN w av l/\∀w2,Tch [] w w2->ChgG B N J K (okL l) chg w2)
theorem Ans.shape {N:Prop}{J:World->Prop}{K:ByteArray->World->Prop}{e:Ending}(h:Ans B N J K e w):∃av chg n,e=.returned (.tuple #[av,chg,.int .i64 n]):=by
 rcases h with ⟨c,_,h,_⟩|⟨av,chg,l,h,_⟩
 ·exact⟨_,_,_,h⟩
 ·exact⟨_,_,_,h⟩
theorem cellsI (r:Wp.Rq)(x:Sl)(i:Nat)(hop:r.op.toNat=65+i):cellsOf r x.v=#[.int .u8 (65+(i:Int)),.int .u8 (r.q.toNat:Int),.int .u8 (r.d.toNat:Int),.int .i64 r.vis,.int .i64 r.win,.int .i64 r.rcv,.int .i64 r.quo,.int .i64 r.mx,.int .i64 r.tic,.string r.grp,.string r.ded,.string r.bod,.string r.att,.string r.han,.slice x.a x.n x.c]:=by
 have ho':((r.op.toNat:Nat):Int)=65+(i:Int):=by rw[hop];omega
 unfold cellsOf Sl.v;rw[ho']
theorem stG_deed {b i:Nat}{now:Int}{P:Nat->Value}(h:Stb w st b now P)(hv:(deedsC b)[i]?=some v):w.cell? ⟨st,9+i,none⟩=some v:=by
 rw[cell_of_row w st (9+i) _ 94 (0,0) h];unfold stG;rw[Array.getElem?_append_right (by rw[stH_size];omega),stH_size];simpa using hv
theorem plan_x {N:Prop}(B:Nat)(J:World->Prop)(K:ByteArray->World->Prop)(r:Wp.Rq)(x:Sl)(cs:Array Value)(st b i fn:Nat)(now:Int)(P:Nat->Value)(w:World)(hop:r.op.toNat=65+i)(hi:i<26)(hst:Stb w st b now P)(hv:(deedsC b)[i]?=some (.func (.func fn) #[] cs))
  (eg:∀args w,(callFunc fn args).run Tryz.prog w=.ok (.enter fn args) w)
  (hS:∀W,Tch [] w W->Calls Tryz.prog fn (#[.pointer (some ⟨st,0,none⟩),.agg (cellsOf r x.v)]++cs) W fun e w'=>Tch [] W w'/\Ans B N J K e w'):
  Calls Tryz.prog 30 #[.pointer (some ⟨st,0,none⟩),.agg (cellsOf r x.v)] w fun e w'=>Tch [] w w'/\PlG B N J K e w':=by
 have hlt:=hst.lt;have HST:=zH hst;have HV:=zH hv;have HN:=zH hS;rw[cellsI r x i hop]at HN;rw[cellsI r x i hop];clear hS hv;obtain⟨i0,hi0,hz0,hz1,hz2⟩:=info_parts info5;have hb1:(0:Int)<=(i:Int):=Int.natCast_nonneg i;have hb2:(i:Int)<26:=by omega
 have hwi:IntKind.u8.wrap (65+(i:Int)-65)=(i:Int):=by
  have e:(65+(i:Int)-65)=(i:Int):=by omega
  rw[e,IntKind.wrap_u8];omega
 go_enter Tryz.func30,Tryz.ntmps30;go_wp2_with fail;obtain⟨wb,hwb⟩:∃wb,wb=w.alloc (.cells #[.int .u8 (65+(i:Int)),.int .u8 (r.q.toNat:Int),.int .u8 (r.d.toNat:Int),.int .i64 r.vis,.int .i64 r.win,.int .i64 r.rcv,.int .i64 r.quo,.int .i64 r.mx,.int .i64 r.tic,.string r.grp,.string r.ded,.string r.bod,.string r.att,.string r.han,.slice x.a x.n x.c] 24):=⟨_,rfl⟩;rw[<-hwb];have hrow:wb.heap[w.heap.size]?=some (.cells #[.int .u8 (65+(i:Int)),.int .u8 (r.q.toNat:Int),.int .u8 (r.d.toNat:Int),.int .i64 r.vis,.int .i64 r.win,.int .i64 r.rcv,.int .i64 r.quo,.int .i64 r.mx,.int .i64 r.tic,.string r.grp,.string r.ded,.string r.bod,.string r.att,.string r.han,.slice x.a x.n x.c] 24 (0,0)):=by rw[hwb];exact heap_alloc_new _ _
 have TB:Hid (Tch [] w wb):=by rw[hwb];exact(Tch.refl _ _).alloc _
 have hsb:=HST.out.tch TB.out (by simp);have e0:wb.cell? ⟨w.heap.size,0,none⟩=some (.int .u8 (65+(i:Int))):=by simp[World.cell?,hrow]
 have e1:wb.cell? ⟨w.heap.size,1,none⟩=some (.int .u8 (r.q.toNat:Int)):=by simp[World.cell?,hrow]
 have e2:wb.cell? ⟨w.heap.size,2,none⟩=some (.int .u8 (r.d.toNat:Int)):=by simp[World.cell?,hrow]
 have e3:wb.cell? ⟨w.heap.size,3,none⟩=some (.int .i64 r.vis):=by simp[World.cell?,hrow]
 have e4:wb.cell? ⟨w.heap.size,4,none⟩=some (.int .i64 r.win):=by simp[World.cell?,hrow]
 have e5:wb.cell? ⟨w.heap.size,5,none⟩=some (.int .i64 r.rcv):=by simp[World.cell?,hrow]
 have e6:wb.cell? ⟨w.heap.size,6,none⟩=some (.int .i64 r.quo):=by simp[World.cell?,hrow]
 have e7:wb.cell? ⟨w.heap.size,7,none⟩=some (.int .i64 r.mx):=by simp[World.cell?,hrow]
 have e8:wb.cell? ⟨w.heap.size,8,none⟩=some (.int .i64 r.tic):=by simp[World.cell?,hrow]
 have e9:wb.cell? ⟨w.heap.size,9,none⟩=some (.string r.grp):=by simp[World.cell?,hrow]
 have e10:wb.cell? ⟨w.heap.size,10,none⟩=some (.string r.ded):=by simp[World.cell?,hrow]
 have e11:wb.cell? ⟨w.heap.size,11,none⟩=some (.string r.bod):=by simp[World.cell?,hrow]
 have e12:wb.cell? ⟨w.heap.size,12,none⟩=some (.string r.att):=by simp[World.cell?,hrow]
 have e13:wb.cell? ⟨w.heap.size,13,none⟩=some (.string r.han):=by simp[World.cell?,hrow]
 have e14:wb.cell? ⟨w.heap.size,14,none⟩=some (.slice x.a x.n x.c):=by simp[World.cell?,hrow]
 have cx2:=stG_deed hsb HV.out;have hlL:w.heap.size<wb.heap.size:=lt_of_block hrow;have hlX:=hsb.lt;have HN1:Hid (Calls Tryz.prog fn _ wb.drew _):=HN.out wb.drew TB.out.drew;clear hrow hsb hwb hst
 go_region_held3 (fun w'=>w'.cell? ⟨w.heap.size,0,none⟩=some (.int .u8 (65+(i:Int)))/\w'.cell? ⟨w.heap.size,1,none⟩=some (.int .u8 (r.q.toNat:Int))/\w'.cell? ⟨w.heap.size,2,none⟩=some (.int .u8 (r.d.toNat:Int))/\w'.cell? ⟨w.heap.size,3,none⟩=some (.int .i64 r.vis)/\w'.cell? ⟨w.heap.size,4,none⟩=some (.int .i64 r.win)/\w'.cell? ⟨w.heap.size,5,none⟩=some (.int .i64 r.rcv)/\w'.cell? ⟨w.heap.size,6,none⟩=some (.int .i64 r.quo)/\w'.cell? ⟨w.heap.size,7,none⟩=some (.int .i64 r.mx)/\w'.cell? ⟨w.heap.size,8,none⟩=some (.int .i64 r.tic)/\w'.cell? ⟨w.heap.size,9,none⟩=some (.string r.grp)/\w'.cell? ⟨w.heap.size,10,none⟩=some (.string r.ded)/\w'.cell? ⟨w.heap.size,11,none⟩=some (.string r.bod)/\w'.cell? ⟨w.heap.size,12,none⟩=some (.string r.att)/\w'.cell? ⟨w.heap.size,13,none⟩=some (.string r.han)/\w'.cell? ⟨w.heap.size,14,none⟩=some (.slice x.a x.n x.c)/\w'.cell? ⟨st,9+i,none⟩=some (.func (.func fn) #[] cs)) (go_keep) (first|(go_at_fn fn;refine HN1.out.mono ?_;rintro e w1 ⟨ht,ha⟩;obtain⟨av,chg,en,rfl⟩:=ha.shape;have k0:=(ht.cell (a:=⟨w.heap.size,0,none⟩) hlL (by simp)).trans e0;have k1:=(ht.cell (a:=⟨w.heap.size,1,none⟩) hlL (by simp)).trans e1;have k2:=(ht.cell (a:=⟨w.heap.size,2,none⟩) hlL (by simp)).trans e2;have k3:=(ht.cell (a:=⟨w.heap.size,3,none⟩) hlL (by simp)).trans e3;have k4:=(ht.cell (a:=⟨w.heap.size,4,none⟩) hlL (by simp)).trans e4;have k5:=(ht.cell (a:=⟨w.heap.size,5,none⟩) hlL (by simp)).trans e5;have k6:=(ht.cell (a:=⟨w.heap.size,6,none⟩) hlL (by simp)).trans e6;have k7:=(ht.cell (a:=⟨w.heap.size,7,none⟩) hlL (by simp)).trans e7;have k8:=(ht.cell (a:=⟨w.heap.size,8,none⟩) hlL (by simp)).trans e8;have k9:=(ht.cell (a:=⟨w.heap.size,9,none⟩) hlL (by simp)).trans e9;have k10:=(ht.cell (a:=⟨w.heap.size,10,none⟩) hlL (by simp)).trans e10;have k11:=(ht.cell (a:=⟨w.heap.size,11,none⟩) hlL (by simp)).trans e11;have k12:=(ht.cell (a:=⟨w.heap.size,12,none⟩) hlL (by simp)).trans e12;have k13:=(ht.cell (a:=⟨w.heap.size,13,none⟩) hlL (by simp)).trans e13;have k14:=(ht.cell (a:=⟨w.heap.size,14,none⟩) hlL (by simp)).trans e14;have kx:=(ht.cell (a:=⟨st,9+i,none⟩) hlX (by simp)).trans cx2))
 have HTW:Hid (Tch [] w w1):=TB.out.drew.trans ht (by simp);clear e0 k0 e1 k1 e2 k2 e3 k3 e4 k4 e5 k5 e6 k6 e7 k7 e8 k8 e9 k9 e10 k10 e11 k11 e12 k12 e13 k13 e14 k14 kx cx2 ht HN1 HN;rcases ha with ⟨c,hc0,he,hN,hk⟩|⟨av',chg',l,he,hrd,hk⟩
 ·simp only[Ending.returned.injEq,Value.tuple.injEq,Array.mk.injEq,List.cons.injEq,Value.int.injEq,and_true,true_and]at he;obtain⟨rfl,rfl,rfl⟩:=he;have hne:(((c.toNat:Nat):Int) == 0)=false:=beq_eq_false_iff_ne.2 (by omega);have hne2:(((c.toNat:Nat):Int) != 0)=true:=by simp[bne,hne]
  have HK:Hid (∀w2,Tch [] w1 w2->K ⟨#[c]⟩ w2):=hk;have HRF:Hid (zT 29 #[.int .i64 ((c.toNat:Nat):Int)] w1 (.string ⟨#[c]⟩)):=refusal_any c w1;clear hk;generalize ((c.toNat:Nat):Int)=n at*
  go_wp2_with fail;refine HRF.out.mono ?_;rintro e w2 ⟨rfl,ht2⟩;have HT2:=zH ht2;clear ht2 HRF;go_wp2_with fail;go_ret2;exact⟨HTW.out.trans HT2.out (by simp),⟨#[c]⟩,.inl ⟨rfl,hN,fun w3 h3=>HK.out w3 (HT2.out.trans h3 (by simp))⟩⟩
 ·simp only[Ending.returned.injEq,Value.tuple.injEq,Array.mk.injEq,List.cons.injEq,Value.int.injEq,and_true,true_and]at he;obtain⟨rfl,rfl,rfl⟩:=he;have HK:=zH hk;clear hk;rcases hrd with ⟨rfl,rfl⟩|⟨hl0,hl1,g,cap,hav,hcell⟩
  ·have HT2:Hid (Tch [] w1 (w1.alloc (.cells #[.int .u8 0] 5))):=(Tch.refl _ _).alloc _;have hzs:=zero_str;go_wp2_with fail;rcases HK.out _ HT2.out with ⟨rfl,hN,hk⟩|⟨f,fc,rfl,eg2,hk⟩
   ·go_ret2;exact⟨HTW.out.trans HT2.out (by simp),okL [],.inl ⟨rfl,hN,hk⟩⟩
   ·go_ret2;exact⟨HTW.out.trans HT2.out (by simp),okL [],.inr ⟨f,fc,rfl,eg2,hk⟩⟩
  ·subst hav;have HC:=zH hcell;have HOW:Hid (∀W:World,(W.alloc (.cells #[.int .u8 0] 5)).ownsRow W.heap.size 5 1 (.slice (some ⟨W.heap.size,0,none⟩) 1 1) 1 [.int .u8 0]):=fun W=>⟨rfl,.inr ⟨W.heap.size,1,#[.int .u8 0],rfl,Nat.le_refl _,heap_alloc_new _ _,by decide,by decide,rfl,rfl⟩⟩
   clear hcell;go_wp2_with (at_builtin;refine wpList_append_own _ rfl _ _ 54 rfl w1.heap.size 5 i0 (.int .u8 0) 1 1 Tryz.underlying54 hi0 hz0 hz1 hz2 rfl (by decide) _ _ _ rfl (HOW.out w1) ⟨g,0,none⟩ l.length cap (bytesV l) rfl ?c0 ?c1 ?c2 ?c3 ?c4 ?c5 ?_)
   case c0=>simp[bytesV]
   case c1=>exact fun j u hu=>Lib.cell?_alloc_some _ (HC.out j u hu)
   case c2=>intro u hu;obtain⟨z,_,rfl⟩:=List.mem_map.1 hu;rfl
   case c3=>unfold maxLen;omega
   case c4=>omega
   case c5=>simp
   intro v' w2 hown' hgrow _;have hstr:(convert 54 9 v').run Tryz.prog w2=.ok (.string (okL l)) w2:=OwnB.str (l:=0::l) (by
    have h:=hown';unfold OwnB;rw[List.length_cons,Nat.add_comm];exact h) (by simp)
   have HT2:Hid (Tch [] w1 w2):=((Tch.refl [] w1).alloc _).grown hgrow (fun j hj hlt=>by
    simp[Value.ownBlock]at hj;omega)
   clear hown' hgrow;go_wp2_with fail;rcases HK.out _ HT2.out with ⟨rfl,hN,hk⟩|⟨f,fc,rfl,eg2,hk⟩
   ·go_ret2;exact⟨HTW.out.trans HT2.out (by simp),okL l,.inl ⟨rfl,hN,hk⟩⟩
   ·go_ret2;exact⟨HTW.out.trans HT2.out (by simp),okL l,.inr ⟨f,fc,rfl,eg2,hk⟩⟩
theorem plan_p {N:Prop}(B:Nat)(J:World->Prop)(K:ByteArray->World->Prop)(r:Wp.Rq)(x:Sl)(st b i fn:Nat)(now:Int)(P:Nat->Value)(w:World)(hop:r.op.toNat=65+i)(hi:i<26)(hst:Stb w st b now P)(hv:(deedsC b)[i]?=some (.func (.func fn) #[] #[]))
  (eg:∀args w,(callFunc fn args).run Tryz.prog w=.ok (.enter fn args) w)
  (hS:∀W,Tch [] w W->Calls Tryz.prog fn #[.pointer (some ⟨st,0,none⟩),.agg (cellsOf r x.v)] W fun e w'=>Tch [] W w'/\Ans B N J K e w'):
  Calls Tryz.prog 30 #[.pointer (some ⟨st,0,none⟩),.agg (cellsOf r x.v)] w fun e w'=>Tch [] w w'/\PlG B N J K e w':=
 plan_x B J K r x #[] st b i fn now P w hop hi hst hv eg hS
theorem plan_w {N:Prop}(B:Nat)(J:World->Prop)(K:ByteArray->World->Prop)(r:Wp.Rq)(x:Sl)(st b i fn bb:Nat)(now:Int)(P:Nat->Value)(w:World)(hop:r.op.toNat=65+i)(hi:i<26)(hst:Stb w st b now P)(hv:(deedsC b)[i]?=some (.func (.func fn) #[] #[.pointer (some ⟨bb,0,none⟩)]))
  (eg:∀args w,(callFunc fn args).run Tryz.prog w=.ok (.enter fn args) w)
  (hS:∀W,Tch [] w W->Calls Tryz.prog fn #[.pointer (some ⟨st,0,none⟩),.agg (cellsOf r x.v),.pointer (some ⟨bb,0,none⟩)] W fun e w'=>Tch [] W w'/\Ans B N J K e w'):
  Calls Tryz.prog 30 #[.pointer (some ⟨st,0,none⟩),.agg (cellsOf r x.v)] w fun e w'=>Tch [] w w'/\PlG B N J K e w':=
 plan_x B J K r x _ st b i fn now P w hop hi hst hv eg hS
end Go.Proofs.YtbdobaapadlcjabGreatDoor
