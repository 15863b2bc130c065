import Derived.Test.YtbdobaapadlcjaaGreatDoorBy13
set_option maxRecDepth 8000
set_option maxHeartbeats 4000000
set_option linter.unusedVariables false
set_option linter.unusedSimpArgs false
namespace Go.Proofs.YtbdobaapadlcjaaGreatDoor
open Go.RowKit
variable {B x st:Nat}{w w':World}{v:Value}{o:Option ByteArray}{room:Int}{col:Nat->Nat}
structure JgP (B:Nat)(w:World)(x st j d:Nat)(v:Value)(o:Option ByteArray)(room:Int)(n k:Nat)(col:Nat->Nat):Prop where
 hx:w.heap[x]?=some (.cells #[zp st,zp j] 99 (0,0))
 jr:Jr w j d room v (kE o) n k
 lo:∀b∈jbl j d v,B<=b
 bd:((a0P o).size:Int)+room<=400000/\-200000<=room/\room<=16384
 cj:∀b∈jbl j d v,col b≠9
def Jg (B:Nat)(w:World)(x st:Nat)(o:Option ByteArray)(room:Int)(col:Nat->Nat):Prop:=x=st\/∃j d v n k,JgP B w x st j d v o room n k col
def JgO (B:Nat)(w0:World)(col:Nat->Nat)(w:World)(x st:Nat)(o:Option ByteArray)(room:Int):Prop:=Jg B w x st o room col/\∀k:Nat,k<w0.heap.size->col k=9->w.heap[k]?=w0.heap[k]?
theorem JgP.lt {j d:Nat}{n k:Nat}(h:JgP B w x st j d v o room n k col):∀b∈jbl j d v,b<w.heap.size:=fun b hb=>by
 rcases List.mem_cons.1 hb with e|e
 ·rw[e];exact lt_of_block h.jr.hj
 ·rcases List.mem_cons.1 e with e|e
  ·rw[e];exact lt_of_block h.jr.dsk.blk
  ·exact vM h.jr.dsk.own (by simpa [Option.mem_toList]using e)
theorem Jg.recol {col':Nat->Nat}(h:Jg B w x st o room col)(ha:∀k,k<w.heap.size->col' k=9->col k=9):Jg B w x st o room col':=by
 rcases h with h|⟨j,d,v,n,k,h⟩
 ·exact .inl h
 exact .inr ⟨j,d,v,n,k,h.hx,h.jr,h.lo,h.bd,fun b hb e=>h.cj b hb (ha b (h.lt b hb) e)⟩
theorem Jg.fr (h:Jg B w x st o room col){T:List TypeId}(ht:Fr B T w w')(h1:99∉T)(h2:143∉T)(h3:110∉T)(h4:116∉T):Jg B w' x st o room col:=by
 rcases h with h|⟨j,d,v,n,k,h⟩
 ·exact .inl h
 exact .inr ⟨j,d,v,n,k,ht.keep _ _ _ h.hx h1,⟨ht.keep _ _ _ h.jr.hj h2,⟨ht.keep _ _ _ h.jr.dsk.blk h3,ht.own h.jr.dsk.own h4,h.jr.dsk.sep⟩,h.jr.gd⟩,h.lo,h.bd,h.cj⟩
theorem Jg.tch (h:Jg B w x st o room col)(ht:Tch [] w w'):Jg B w' x st o room col:=by
 rcases h with h|⟨j,d,v,n,k,h⟩
 ·exact .inl h
 exact .inr ⟨j,d,v,n,k,(ht.block _ (lt_of_block h.hx) (by simp)).trans h.hx,h.jr.tch ht (by simp),h.lo,h.bd,h.cj⟩
theorem a7W (a b:ByteArray):(a++b).size=a.size+b.size:=by simp
theorem a5a (l:List UInt8):(⟨l.toArray⟩:ByteArray).size=l.length:=by show l.toArray.size=_;simp
theorem b4d (o:Option ByteArray)(room:Int)(rec:List UInt8)(t:ByteArray)(h:((a0P o).size:Int)+room<=400000/\-200000<=room/\room<=16384)(hl:rec.length<=100000)(ht:t.size<=200000):
  ((a0P (some (a0D o room rec t).1)).size:Int)+(a0D o room rec t).2<=400000/\-200000<=(a0D o room rec t).2/\(a0D o room rec t).2<=16384:=by
 by_cases hc:(rec.length:Int)<=room
 ·have e:a0D o room rec t=(a0P o++(⟨rec.toArray⟩:ByteArray),(room-rec.length:Int)):=if_pos hc;rw[e];have e2:(a0P (some (a0P o++(⟨rec.toArray⟩:ByteArray)))).size=(a0P o).size+rec.length:=by
   show (a0P o++(⟨rec.toArray⟩:ByteArray)).size=_
   rw[a7W,a5a rec]
  simp only[e2];omega
 ·have e:a0D o room rec t=((⟨(qX t).toArray⟩:ByteArray)++(⟨rec.toArray⟩:ByteArray),(16384-rec.length:Int)):=if_neg hc;rw[e];have e2:(a0P (some ((⟨(qX t).toArray⟩:ByteArray)++(⟨rec.toArray⟩:ByteArray)))).size=8+t.size+rec.length:=by
   show ((⟨(qX t).toArray⟩:ByteArray)++(⟨rec.toArray⟩:ByteArray)).size=_
   rw[a7W,a5a (qX t),a5a rec,vi]
  simp only[e2];omega
def PlG (B:Nat)(N:Prop)(J:World->Prop)(K:ByteArray->World->Prop)(e:Ending)(w1:World):Prop:=
 ∃t,(e=.returned (.tuple #[.string t,.nilFunc])/\N/\∀w2,Tch [] w1 w2->K t w2)\/
  ∃f cap,e=.returned (.tuple #[.string t,.func (.func f) #[] cap])/\(∀args w,(callFunc f args).run Tryz.prog w=.ok (.enter f args) w)/\∀w2 w3,Tch [] w1 w2->Fr B TJ w2 w3->J w3->Cp f cap w3 fun e w'=>e=.returned (.tuple #[])/\K t w'
theorem PlG.shape {N:Prop}{J:World->Prop}{K:ByteArray->World->Prop}{e:Ending}(h:PlG B N J K e w):∃t chg,e=.returned (.tuple #[.string t,chg]):=by
 obtain⟨t,⟨h,_⟩|⟨f,cap,h,_⟩⟩:=h
 ·exact⟨_,_,h⟩
 ·exact⟨_,_,h⟩
theorem b8L (B x st j d:Nat)(v:Value)(o:Option ByteArray)(room:Int)(n k base:Nat)(t:ByteArray)(rv:Value)(rec:List UInt8)(col:Nat->Nat)(w:World)(h:JgP B w x st j d v o room n k col)(hfu:∀k:Nat,w.heap.size<=k->col k≠9)(hBw:B<=w.heap.size)(h3:3<=B)(hT:Tab w)(ho:OwnB w base rv rec)(hpos:0<rec.length)(hrl:rec.length<=100000)(ht:t.size<=200000)
  (hW:∀W,Tch [j] w W->zT 65 #[zp st] W (.string t)):
  Cp 63 #[zp j,rv,.func (.func 65) #[zp st] #[]] w fun e w'=>e=.returned (.bool true)/\Fr B TJ w w'/\JgO B w col w' x st (some (a0D o room rec t).1) (a0D o room rec t).2:=by
 have hbd:=h.bd;refine(b8M j d st room v o n k base t rv rec w h.jr ho hpos (by omega) (by omega) (by omega) (by omega) hT (by omega) (by have:=h.lo j (by simp[jbl]);omega) hW).mono ?_;rintro e w' ⟨rfl,v',n',k',hj',ht',hb'⟩;refine⟨rfl,h.jr.fr hBw h.lo ht',.inr ⟨j,d,v',n',k',?_,hj',fun b hb=>?_,b4d o room rec t hbd hrl ht,fun b hb=>?_⟩,fun q hq h9=>ht'.block q hq (fun hm=>h.cj q hm h9)⟩
 ·exact(ht'.block _ (lt_of_block h.hx) (h.jr.apart h.hx (by decide) (by decide) (by decide))).trans h.hx
 ·rcases List.mem_cons.1 hb with e|e
  ·rw[e];exact h.lo j (by simp[jbl])
  ·rcases List.mem_cons.1 e with e|e
   ·rw[e];exact h.lo d (by simp[jbl,Dk.bl])
   ·rcases hb' b (by simpa [Option.mem_toList]using e) with h1|h1
    ·exact h.lo b (by simp[jbl,Dk.bl,h1])
    ·omega
 ·rcases List.mem_cons.1 hb with e|e
  ·rw[e];exact h.cj j (by simp[jbl])
  ·rcases List.mem_cons.1 e with e|e
   ·rw[e];exact h.cj d (by simp[jbl,Dk.bl])
   ·rcases hb' b (by simpa [Option.mem_toList]using e) with h1|h1
    ·exact h.cj b (by simp[jbl,Dk.bl,h1])
    ·exact hfu b h1
def YS (w W:World)(y:Sl)(bs:List ByteArray):Prop:=y.n=bs.length/\FStrs w.heap.size W y.a bs
theorem YS.tch {W W':World}{y:Sl}{bs:List ByteArray}(h:YS w W y bs)(ht:Tch [] W W'):YS w W' y bs:=⟨h.1,fun j hj=>by
 obtain⟨b,o,ha,hb,hc⟩:=h.2 j hj;exact⟨b,o,ha,hb,(ht.cell (World.block_lt_of_cell? _ _ hc) (by simp)).trans hc⟩⟩
theorem a3h (B:Nat)(s:ByteArray)(r:Wp.Rq)(bs:List ByteArray)(w:World)(hs:s.size<=maxLen)(hL:Lays B w)(hBw:B<=w.heap.size)(hg:jk s=true)(hr:(jh s).r=r)(hbs:(jh s).bs=bs):
  Cp 60 #[.string s] w fun e w'=>∃y:Sl,e=.returned (.tuple #[.agg (ja r y.v),.int .i64 0])/\Below w.heap.size w w'/\YS w w' y bs:=by
 refine(a1G B s w hs hL hBw).mono ?_;rintro e w' ⟨h|h,hb⟩
 ·obtain⟨_,y,he,hy⟩:=h;exact⟨y,by rw[he,hr],hb,by rw[<-hbs];exact hy⟩
 ·rw[hg]at h;exact absurd h.1 (by decide)
theorem b7U {N:Prop}(K:ByteArray->World->Prop)(B:Nat)(o:Option ByteArray)(room:Int)(tw:ByteArray)(s:ByteArray)(r:Wp.Rq)(x st:Nat)(Cst:Array Value)(col:Nat->Nat)(w:World)(hfu:∀k:Nat,w.heap.size<=k->col k≠9)(hs:s.size<=90000)(hL:Lays B w)(hT:Tab w)(hBw:B<=w.heap.size)(h3:3<=B)(hg:jk s=true)(hr:(jh s).r=r)
  (hJ:Jg B w x st o room col)(hne:x≠st)(htw:tw.size<=200000)(hst:w.heap[st]?=some (.cells Cst 156 (0,0)))
  (hW:∀W,Fr B TJ w W->zT 65 #[zp st] W (.string tw))
  (bs:List ByteArray)(hbs:(jh s).bs=bs)(hP:∀(W:World) (y:Sl),Tch [] w W->YS w W y bs->Cp 62 #[zp st,.agg (ja r y.v)] W fun e w'=>Tch [] W w'/\PlG B N (fun w'=>JgO B w col w' x st (some (a0D o room (qX s) tw).1) (a0D o room (qX s) tw).2) K e w'):
  Cp 34 #[zp x,.string s] w fun e w'=>∃t,e=.returned (.string t)/\K t w':=by
 obtain⟨j,d,v,n,k,hJp⟩:=hJ.resolve_left hne;have hj143:=hJp.jr.hj;obtain⟨JJ,HJJ⟩:∃JJ:World->Prop,Hid (JJ=fun w'=>JgO B w col w' x st (some (a0D o room (qX s) tw).1) (a0D o room (qX s) tw).2):=⟨_,rfl⟩;rw[<-HJJ.out]at hP;have hx:=hJp.hx;have hltx:=lt_of_block hx;have hltj:=lt_of_block hJp.jr.hj;have hjst:st≠j:=fun e=>by
  have h1:=hJp.jr.hj;rw[<-e,hst]at h1;simp at h1
 have a0:w.cell? ⟨x,0,none⟩=some (zp st):=(cell_of_row w x 0 _ 99 (0,0) hx).trans rfl;have a1:w.cell? ⟨x,1,none⟩=some (zp j):=(cell_of_row w x 1 _ 99 (0,0) hx).trans rfl;have aj:=hJp.jr.c2;have HLAY:Hid (∀W rv,Tch [] w W->OwnB W w.heap.size rv (qX s)->Cp 63 #[zp j,rv,.func (.func 65) #[zp st] #[]] W fun e w'=>e=.returned (.bool true)/\Fr B TJ W w'/\JJ w'):=fun W rv ht ho=>by
  rw[HJJ.out];refine(b8L B x st j d v o room n k w.heap.size tw rv (qX s) col W ⟨(ht.block _ hltx (by simp)).trans hx,hJp.jr.tch ht (by simp),hJp.lo,hJp.bd,hJp.cj⟩ (fun k hk=>hfu k (Nat.le_trans ht.size hk)) (Nat.le_trans hBw ht.size) h3 (hT.below (B:=3) (ht.below (by simp) (by omega)) (by decide)) ho (by rw[vi];omega) (by rw[vi];omega) htw ?_).mono (fun e w' he=>⟨he.1,he.2.1,he.2.2.1,fun k hk h9=>(he.2.2.2 k (Nat.lt_of_lt_of_le hk ht.size) h9).trans (ht.block k hk (by simp))⟩);intro W2 ht2;refine hW W2 (Fr.of_tch ((ht.sub (by simp)).trans ht2 (fun _ h _=>h):Tch [j] w W2) hBw (fun k hk=>?_) (fun k hk C t hC=>?_))
  ·simp at hk;subst hk;exact hJp.lo k (by simp[jbl])
  ·simp at hk;subst hk;rw[hj143]at hC;simp at hC;rw[<-hC.2];decide
 have HREC:Hid (∀W,Tch [] w W->Cp 64 #[.slice none 0 0,.string s] W fun e w'=>∃rv,e=.returned rv/\OwnB w' w.heap.size rv (qX s)/\Tch [] W w'):=fun W ht=>by
  refine(a3k s W (by omega) (hT.below (B:=3) (ht.below (by simp) (by omega)) (by decide)) (by have:=ht.size;omega)).mono ?_;rintro e w' ⟨rv,rfl,ho,hb⟩;exact⟨rv,rfl,⟨ho.1,by
   rcases ho.2 with h|⟨g,cap,cur,rfl,hb',rest⟩
   ·exact .inl h
   ·exact .inr ⟨g,cap,cur,rfl,Nat.le_trans ht.size hb',rest⟩⟩,Tch.of_below hb⟩
 have HD:=zH hP;have hfn:=a9o;have hnn:=b1R;have HXB:=zH hx;clear hx hP hJp hW hst hj143 hfu;go_enter Tryz.func34,Tryz.ntmps34;go_wp2_with (go_at_call 59;go_in);refine(a3h B s r bs _ (by unfold maxLen;omega) hL hBw hg hr hbs).mono ?_;rintro e w1 ⟨y,rfl,hb,hys⟩;have cx:=(hb.cell (p:=⟨x,0,none⟩) hltx).trans a0;have cx1:=(hb.cell (p:=⟨x,1,none⟩) hltx).trans a1;have HBL:=zH hb;have HYS:=zH hys;have HXL:Hid ((ke w1 (ja r y.v)).heap[w1.heap.size]?=some (.cells (ja r y.v) 27 (0,0))):=jT _ _;have HTL:Hid (Tch [] w1 (ke w1 (ja r y.v))):=vJ _ _;have cx2:(ke w1 (ja r y.v)).cell? ⟨x,0,none⟩=some (zp st):=((vJ _ _).cell (World.block_lt_of_cell? _ _ cx) (by simp)).trans cx;have cx3:(ke w1 (ja r y.v)).cell? ⟨x,1,none⟩=some (zp j):=((vJ _ _).cell (World.block_lt_of_cell? _ _ cx1) (by simp)).trans cx1;obtain⟨wl,hwl⟩:∃wl,wl=ke w1 (ja r y.v):=⟨_,rfl⟩;rw[<-hwl]at HXL HTL cx2 cx3;have HWL:=zH hwl;clear hb hwl a0 a1 aj hys;go_wp2_with (first
  | (refine wpList_store_row rfl 27 _ _ rfl w1.heap.size (ja r y.v) ?hx ?hy 27 ?old ?hg ?hi ?hs ?h1 ?k;(case hx=>rfl);(case hy=>rfl);(case hg=>exact heap_alloc_new _ _);(case hi=>exact jS);(case hs=>rfl);(case h1=>exact jC _ _);rw[a1C,<-HWL.out]))
 have hrow:=HXL.out;rw[zM r y]at hrow;have e0:wl.cell? ⟨w1.heap.size,0,none⟩=some (.int .u8 (r.op.toNat:Int)):=by simp[World.cell?,hrow]
 have e1:wl.cell? ⟨w1.heap.size,1,none⟩=some (.int .u8 (r.q.toNat:Int)):=by simp[World.cell?,hrow]
 have e2:wl.cell? ⟨w1.heap.size,2,none⟩=some (.int .u8 (r.d.toNat:Int)):=by simp[World.cell?,hrow]
 have e3:wl.cell? ⟨w1.heap.size,3,none⟩=some (.int .i64 r.vis):=by simp[World.cell?,hrow]
 have e4:wl.cell? ⟨w1.heap.size,4,none⟩=some (.int .i64 r.win):=by simp[World.cell?,hrow]
 have e5:wl.cell? ⟨w1.heap.size,5,none⟩=some (.int .i64 r.rcv):=by simp[World.cell?,hrow]
 have e6:wl.cell? ⟨w1.heap.size,6,none⟩=some (.int .i64 r.quo):=by simp[World.cell?,hrow]
 have e7:wl.cell? ⟨w1.heap.size,7,none⟩=some (.int .i64 r.mx):=by simp[World.cell?,hrow]
 have e8:wl.cell? ⟨w1.heap.size,8,none⟩=some (.int .i64 r.tic):=by simp[World.cell?,hrow]
 have e9:wl.cell? ⟨w1.heap.size,9,none⟩=some (.string r.grp):=by simp[World.cell?,hrow]
 have e10:wl.cell? ⟨w1.heap.size,10,none⟩=some (.string r.ded):=by simp[World.cell?,hrow]
 have e11:wl.cell? ⟨w1.heap.size,11,none⟩=some (.string r.bod):=by simp[World.cell?,hrow]
 have e12:wl.cell? ⟨w1.heap.size,12,none⟩=some (.string r.att):=by simp[World.cell?,hrow]
 have e13:wl.cell? ⟨w1.heap.size,13,none⟩=some (.string r.han):=by simp[World.cell?,hrow]
 have e14:wl.cell? ⟨w1.heap.size,14,none⟩=some (.slice y.a y.n y.c):=by simp[World.cell?,hrow]
 have hlL:w1.heap.size<wl.heap.size:=lt_of_block HXL.out;have hlX:x<wl.heap.size:=World.block_lt_of_cell? _ _ cx2;have HX1:=zH cx3;have HTW:=zH ((Tch.of_below HBL.out).trans HTL.out (by simp));have HPL:Hid (∀n,Cp 62 #[zp st,.agg (ja r y.v)] (wl.drewN n) fun e w'=>Tch [] (wl.drewN n) w'/\PlG B N JJ K e w'):=fun n=>HD.out (wl.drewN n) y (HTW.out.drewN n) (HYS.out.tch (HTL.out.drewN n))
 rw[zM r y]at HPL;have HPL1:=zH (HPL.out 1);clear hrow cx3
 go_region_held3 (fun w'=>w'.cell? ⟨w1.heap.size,0,none⟩=some (.int .u8 (r.op.toNat:Int))/\w'.cell? ⟨w1.heap.size,1,none⟩=some (.int .u8 (r.q.toNat:Int))/\w'.cell? ⟨w1.heap.size,2,none⟩=some (.int .u8 (r.d.toNat:Int))/\w'.cell? ⟨w1.heap.size,3,none⟩=some (.int .i64 r.vis)/\w'.cell? ⟨w1.heap.size,4,none⟩=some (.int .i64 r.win)/\w'.cell? ⟨w1.heap.size,5,none⟩=some (.int .i64 r.rcv)/\w'.cell? ⟨w1.heap.size,6,none⟩=some (.int .i64 r.quo)/\w'.cell? ⟨w1.heap.size,7,none⟩=some (.int .i64 r.mx)/\w'.cell? ⟨w1.heap.size,8,none⟩=some (.int .i64 r.tic)/\w'.cell? ⟨w1.heap.size,9,none⟩=some (.string r.grp)/\w'.cell? ⟨w1.heap.size,10,none⟩=some (.string r.ded)/\w'.cell? ⟨w1.heap.size,11,none⟩=some (.string r.bod)/\w'.cell? ⟨w1.heap.size,12,none⟩=some (.string r.att)/\w'.cell? ⟨w1.heap.size,13,none⟩=some (.string r.han)/\w'.cell? ⟨w1.heap.size,14,none⟩=some (.slice y.a y.n y.c)/\w'.cell? ⟨x,0,none⟩=some (zp st)) (go_keep) (first|(go_at_call 62;refine HPL1.out.mono ?_;rintro e w2 ⟨ht,hpl⟩;obtain⟨t,chg,rfl⟩:=hpl.shape;have k0:=(ht.cell (a:=⟨w1.heap.size,0,none⟩) hlL (by simp)).trans e0;have k1:=(ht.cell (a:=⟨w1.heap.size,1,none⟩) hlL (by simp)).trans e1;have k2:=(ht.cell (a:=⟨w1.heap.size,2,none⟩) hlL (by simp)).trans e2;have k3:=(ht.cell (a:=⟨w1.heap.size,3,none⟩) hlL (by simp)).trans e3;have k4:=(ht.cell (a:=⟨w1.heap.size,4,none⟩) hlL (by simp)).trans e4;have k5:=(ht.cell (a:=⟨w1.heap.size,5,none⟩) hlL (by simp)).trans e5;have k6:=(ht.cell (a:=⟨w1.heap.size,6,none⟩) hlL (by simp)).trans e6;have k7:=(ht.cell (a:=⟨w1.heap.size,7,none⟩) hlL (by simp)).trans e7;have k8:=(ht.cell (a:=⟨w1.heap.size,8,none⟩) hlL (by simp)).trans e8;have k9:=(ht.cell (a:=⟨w1.heap.size,9,none⟩) hlL (by simp)).trans e9;have k10:=(ht.cell (a:=⟨w1.heap.size,10,none⟩) hlL (by simp)).trans e10;have k11:=(ht.cell (a:=⟨w1.heap.size,11,none⟩) hlL (by simp)).trans e11;have k12:=(ht.cell (a:=⟨w1.heap.size,12,none⟩) hlL (by simp)).trans e12;have k13:=(ht.cell (a:=⟨w1.heap.size,13,none⟩) hlL (by simp)).trans e13;have k14:=(ht.cell (a:=⟨w1.heap.size,14,none⟩) hlL (by simp)).trans e14;have kx:=(ht.cell (a:=⟨x,0,none⟩) hlX (by simp)).trans cx2))
 have kx1:=(ht.cell (a:=⟨x,1,none⟩) hlX (by simp)).trans HX1.out;have HT2:=zH ((HTW.out.drew).trans ht (by simp));have hlX2:x<w2.heap.size:=World.block_lt_of_cell? _ _ kx;clear ht cx2 cx cx1 e0 k0 e1 k1 e2 k2 e3 k3 e4 k4 e5 k5 e6 k6 e7 k7 e8 k8 e9 k9 e10 k10 e11 k11 e12 k12 e13 k13 e14 k14;obtain⟨t',⟨he,_,hk⟩|⟨f,cap,he,eg,hc⟩⟩:=hpl
 ·simp only[Ending.returned.injEq,Value.tuple.injEq,Array.mk.injEq,List.cons.injEq,Value.string.injEq,and_true]at he;obtain⟨rfl,rfl⟩:=he;go_wp2_with fail;go_ret;exact⟨_,rfl,hk _ (Tch.refl _ _)⟩
 ·simp only[Ending.returned.injEq,Value.tuple.injEq,Array.mk.injEq,List.cons.injEq,Value.string.injEq,and_true]at he;obtain⟨rfl,rfl⟩:=he;have HC:=zH hc;clear hc;go_wp2_with fail
  go_region_held3 (fun w'=>w'.cell? ⟨x,0,none⟩=some (zp st)/\w'.cell? ⟨x,1,none⟩=some (zp j)) (go_keep) (first|(go_at_call 64;refine(HREC.out _ HT2.out.drew).mono ?_;rintro e w3 ⟨rv,rfl,ho,ht3⟩;have m0:=(ht3.cell (a:=⟨x,0,none⟩) hlX2 (by simp)).trans kx;have m1:=(ht3.cell (a:=⟨x,1,none⟩) hlX2 (by simp)).trans kx1;have HT3:Hid (Tch [] w w3/\Tch [] w2 w3/\OwnB w3 w.heap.size rv (qX s)):=⟨HT2.out.drew.trans ht3 (by simp),(Tch.refl [] w2).drew.trans ht3 (by simp),ho⟩;clear ho ht3)|(go_at_call 63;refine(HLAY.out _ _ HT3.out.1 HT3.out.2.2).mono ?_;rintro e w4 ⟨rfl,hfr,hjn⟩;have hb4:=hfr.keep x _ 99 ((HT3.out.1.block x hltx (by simp)).trans HXB.out) (by decide);have n0:w4.cell? ⟨x,0,none⟩=some (zp st):=(cell_of_row w4 x 0 _ 99 (0,0) hb4).trans rfl;have n1:w4.cell? ⟨x,1,none⟩=some (zp j):=(cell_of_row w4 x 1 _ 99 (0,0) hb4).trans rfl;have HC4:Hid (Cp f cap w4 fun e w'=>e=.returned (.tuple #[])/\K t w'):=HC.out w3 w4 HT3.out.2.1 hfr hjn;clear hfr hjn hb4))
  all_goals go_wp2_with (go_at_fn f;refine HC4.out.mono ?_;rintro e w5 ⟨rfl,hk⟩)
  all_goals go_ret
  all_goals exact⟨t,rfl,hk⟩
theorem a4T (c:UInt8)(W:World)(g cap:Nat)(h:W.cell? ⟨g,0,none⟩=some (.int .u8 (c.toNat:Int))):(convert 74 9 (.slice (some ⟨g,0,none⟩) 1 cap)).run Tryz.prog W=.ok (.string ⟨#[c]⟩) W:=by
 refine run_convert_bytes_back (P:=Tryz.prog) W 74 9 5 ⟨g,0,none⟩ cap [c] Tryz.underlying74 Tryz.underlying5 Tryz.underlying9 ?_;intro j hj;have hj0:j=0:=by simpa using hj
 subst hj0;exact h
theorem a0j (c:UInt8)(w:World):zT 61 #[.int .i64 (c.toNat:Int)] w (.string ⟨#[c]⟩):=by
 have hc:=c.toNat_lt;have hw:IntKind.u8.wrap ((c.toNat:Nat):Int)=((c.toNat:Nat):Int):=by rw[IntKind.wrap_u8];omega
 have hs:=a4T c;have hl:(w.alloc (.cells #[.int .u8 ((c.toNat:Nat):Int)] 5)).cell? ⟨w.heap.size,0,none⟩=some (.int .u8 ((c.toNat:Nat):Int)):=cell_of_one (heap_alloc_new _ _);generalize ((c.toNat:Nat):Int)=n at*
 go_enter Tryz.func61,Tryz.ntmps61;go_wp2_with fail;go_ret;exact⟨rfl,(Tch.refl _ _).alloc _⟩
def b9s (B:Nat)(N:Prop)(J:World->Prop)(K:ByteArray->World->Prop)(t:ByteArray)(chg:Value)(w:World):Prop:=
 (chg=.nilFunc/\N/\∀w2,Tch [] w w2->K t w2)\/∃f cap,chg=.func (.func f) #[] cap/\(∀args w,(callFunc f args).run Tryz.prog w=.ok (.enter f args) w)/\∀w2 w3,Tch [] w w2->Fr B TJ w2 w3->J w3->Cp f cap w3 fun e w'=>e=.returned (.tuple #[])/\K t w'
def RdN (w:World)(v:Value)(l:List UInt8):Prop:=(v=.slice none 0 0/\l=[])\/(0<l.length/\l.length<=100000/\Rdb w v l)
def Ans (B:Nat)(N:Prop)(J:World->Prop)(K:ByteArray->World->Prop)(e:Ending)(w:World):Prop:=
 (∃c:UInt8,0<c.toNat/\e=.returned (.tuple #[.slice none 0 0,.nilFunc,.int .i64 (c.toNat:Int)])/\N/\∀w2,Tch [] w w2->K ⟨#[c]⟩ w2)\/
 (∃av chg l,e=.returned (.tuple #[av,chg,.int .i64 0])/\RdN w av l/\∀w2,Tch [] w w2->b9s B N J K (okL l) chg w2)
theorem Ans.shape {N:Prop}{J:World->Prop}{K:ByteArray->World->Prop}{e:Ending}(h:Ans B N J K e w):∃av chg n,e=.returned (.tuple #[av,chg,.int .i64 n]):=by
 rcases h with ⟨c,_,h,_⟩|⟨av,chg,l,h,_⟩
 ·exact⟨_,_,_,h⟩
 ·exact⟨_,_,_,h⟩
theorem b0A (r:Wp.Rq)(x:Sl)(i:Nat)(hop:r.op.toNat=65+i):ja r x.v=#[.int .u8 (65+(i:Int)),.int .u8 (r.q.toNat:Int),.int .u8 (r.d.toNat:Int),.int .i64 r.vis,.int .i64 r.win,.int .i64 r.rcv,.int .i64 r.quo,.int .i64 r.mx,.int .i64 r.tic,.string r.grp,.string r.ded,.string r.bod,.string r.att,.string r.han,.slice x.a x.n x.c]:=by
 have ho':((r.op.toNat:Nat):Int)=65+(i:Int):=by rw[hop];omega
 unfold ja Sl.v;rw[ho']
theorem b3a {b i:Nat}{now:Int}{P:Nat->Value}(h:Stb w st b now P)(hv:(xh b)[i]?=some v):w.cell? ⟨st,9+i,none⟩=some v:=by
 rw[cell_of_row w st (9+i) _ 156 (0,0) h];unfold stG;rw[Array.getElem?_append_right (by rw[zm];omega),zm];simpa using hv
theorem b2d {N:Prop}(B:Nat)(J:World->Prop)(K:ByteArray->World->Prop)(r:Wp.Rq)(x:Sl)(cs:Array Value)(st b i fn:Nat)(now:Int)(P:Nat->Value)(w:World)(hop:r.op.toNat=65+i)(hi:i<26)(hst:Stb w st b now P)(hv:(xh b)[i]?=some (.func (.func fn) #[] cs))
  (eg:∀args w,(callFunc fn args).run Tryz.prog w=.ok (.enter fn args) w)
  (hS:∀W,Tch [] w W->Cp fn (#[zp st,.agg (ja r x.v)]++cs) W fun e w'=>Tch [] W w'/\Ans B N J K e w'):
  Cp 62 #[zp st,.agg (ja r x.v)] w fun e w'=>Tch [] w w'/\PlG B N J K e w':=by
 have hlt:=hst.lt;have HST:=zH hst;have HV:=zH hv;have HN:=zH hS;rw[b0A r x i hop]at HN;rw[b0A r x i hop];clear hS hv;obtain⟨i0,hi0,hz0,hz1,hz2⟩:=info_parts zh;have hb1:(0:Int)<=(i:Int):=Int.natCast_nonneg i;have hb2:(i:Int)<26:=by omega
 have hwi:IntKind.u8.wrap (65+(i:Int)-65)=(i:Int):=by
  have e:(65+(i:Int)-65)=(i:Int):=by omega
  rw[e,IntKind.wrap_u8];omega
 go_enter Tryz.func62,Tryz.ntmps62;go_wp2_with fail;obtain⟨wb,hwb⟩:∃wb,wb=w.alloc (.cells #[.int .u8 (65+(i:Int)),.int .u8 (r.q.toNat:Int),.int .u8 (r.d.toNat:Int),.int .i64 r.vis,.int .i64 r.win,.int .i64 r.rcv,.int .i64 r.quo,.int .i64 r.mx,.int .i64 r.tic,.string r.grp,.string r.ded,.string r.bod,.string r.att,.string r.han,.slice x.a x.n x.c] 27):=⟨_,rfl⟩;rw[<-hwb];have hrow:wb.heap[w.heap.size]?=some (.cells #[.int .u8 (65+(i:Int)),.int .u8 (r.q.toNat:Int),.int .u8 (r.d.toNat:Int),.int .i64 r.vis,.int .i64 r.win,.int .i64 r.rcv,.int .i64 r.quo,.int .i64 r.mx,.int .i64 r.tic,.string r.grp,.string r.ded,.string r.bod,.string r.att,.string r.han,.slice x.a x.n x.c] 27 (0,0)):=by rw[hwb];exact heap_alloc_new _ _
 have TB:Hid (Tch [] w wb):=by rw[hwb];exact(Tch.refl _ _).alloc _
 have hsb:=HST.out.tch TB.out (by simp);have e0:wb.cell? ⟨w.heap.size,0,none⟩=some (.int .u8 (65+(i:Int))):=by simp[World.cell?,hrow]
 have e1:wb.cell? ⟨w.heap.size,1,none⟩=some (.int .u8 (r.q.toNat:Int)):=by simp[World.cell?,hrow]
 have e2:wb.cell? ⟨w.heap.size,2,none⟩=some (.int .u8 (r.d.toNat:Int)):=by simp[World.cell?,hrow]
 have e3:wb.cell? ⟨w.heap.size,3,none⟩=some (.int .i64 r.vis):=by simp[World.cell?,hrow]
 have e4:wb.cell? ⟨w.heap.size,4,none⟩=some (.int .i64 r.win):=by simp[World.cell?,hrow]
 have e5:wb.cell? ⟨w.heap.size,5,none⟩=some (.int .i64 r.rcv):=by simp[World.cell?,hrow]
 have e6:wb.cell? ⟨w.heap.size,6,none⟩=some (.int .i64 r.quo):=by simp[World.cell?,hrow]
 have e7:wb.cell? ⟨w.heap.size,7,none⟩=some (.int .i64 r.mx):=by simp[World.cell?,hrow]
 have e8:wb.cell? ⟨w.heap.size,8,none⟩=some (.int .i64 r.tic):=by simp[World.cell?,hrow]
 have e9:wb.cell? ⟨w.heap.size,9,none⟩=some (.string r.grp):=by simp[World.cell?,hrow]
 have e10:wb.cell? ⟨w.heap.size,10,none⟩=some (.string r.ded):=by simp[World.cell?,hrow]
 have e11:wb.cell? ⟨w.heap.size,11,none⟩=some (.string r.bod):=by simp[World.cell?,hrow]
 have e12:wb.cell? ⟨w.heap.size,12,none⟩=some (.string r.att):=by simp[World.cell?,hrow]
 have e13:wb.cell? ⟨w.heap.size,13,none⟩=some (.string r.han):=by simp[World.cell?,hrow]
 have e14:wb.cell? ⟨w.heap.size,14,none⟩=some (.slice x.a x.n x.c):=by simp[World.cell?,hrow]
 have cx2:=b3a hsb HV.out;have hlL:w.heap.size<wb.heap.size:=lt_of_block hrow;have hlX:=hsb.lt;have HN1:Hid (Cp fn _ wb.drew _):=HN.out wb.drew TB.out.drew;clear hrow hsb hwb hst
 go_region_held3 (fun w'=>w'.cell? ⟨w.heap.size,0,none⟩=some (.int .u8 (65+(i:Int)))/\w'.cell? ⟨w.heap.size,1,none⟩=some (.int .u8 (r.q.toNat:Int))/\w'.cell? ⟨w.heap.size,2,none⟩=some (.int .u8 (r.d.toNat:Int))/\w'.cell? ⟨w.heap.size,3,none⟩=some (.int .i64 r.vis)/\w'.cell? ⟨w.heap.size,4,none⟩=some (.int .i64 r.win)/\w'.cell? ⟨w.heap.size,5,none⟩=some (.int .i64 r.rcv)/\w'.cell? ⟨w.heap.size,6,none⟩=some (.int .i64 r.quo)/\w'.cell? ⟨w.heap.size,7,none⟩=some (.int .i64 r.mx)/\w'.cell? ⟨w.heap.size,8,none⟩=some (.int .i64 r.tic)/\w'.cell? ⟨w.heap.size,9,none⟩=some (.string r.grp)/\w'.cell? ⟨w.heap.size,10,none⟩=some (.string r.ded)/\w'.cell? ⟨w.heap.size,11,none⟩=some (.string r.bod)/\w'.cell? ⟨w.heap.size,12,none⟩=some (.string r.att)/\w'.cell? ⟨w.heap.size,13,none⟩=some (.string r.han)/\w'.cell? ⟨w.heap.size,14,none⟩=some (.slice x.a x.n x.c)/\w'.cell? ⟨st,9+i,none⟩=some (.func (.func fn) #[] cs)) (go_keep) (first|(go_at_fn fn;refine HN1.out.mono ?_;rintro e w1 ⟨ht,ha⟩;obtain⟨av,chg,en,rfl⟩:=ha.shape;have k0:=(ht.cell (a:=⟨w.heap.size,0,none⟩) hlL (by simp)).trans e0;have k1:=(ht.cell (a:=⟨w.heap.size,1,none⟩) hlL (by simp)).trans e1;have k2:=(ht.cell (a:=⟨w.heap.size,2,none⟩) hlL (by simp)).trans e2;have k3:=(ht.cell (a:=⟨w.heap.size,3,none⟩) hlL (by simp)).trans e3;have k4:=(ht.cell (a:=⟨w.heap.size,4,none⟩) hlL (by simp)).trans e4;have k5:=(ht.cell (a:=⟨w.heap.size,5,none⟩) hlL (by simp)).trans e5;have k6:=(ht.cell (a:=⟨w.heap.size,6,none⟩) hlL (by simp)).trans e6;have k7:=(ht.cell (a:=⟨w.heap.size,7,none⟩) hlL (by simp)).trans e7;have k8:=(ht.cell (a:=⟨w.heap.size,8,none⟩) hlL (by simp)).trans e8;have k9:=(ht.cell (a:=⟨w.heap.size,9,none⟩) hlL (by simp)).trans e9;have k10:=(ht.cell (a:=⟨w.heap.size,10,none⟩) hlL (by simp)).trans e10;have k11:=(ht.cell (a:=⟨w.heap.size,11,none⟩) hlL (by simp)).trans e11;have k12:=(ht.cell (a:=⟨w.heap.size,12,none⟩) hlL (by simp)).trans e12;have k13:=(ht.cell (a:=⟨w.heap.size,13,none⟩) hlL (by simp)).trans e13;have k14:=(ht.cell (a:=⟨w.heap.size,14,none⟩) hlL (by simp)).trans e14;have kx:=(ht.cell (a:=⟨st,9+i,none⟩) hlX (by simp)).trans cx2))
 have HTW:Hid (Tch [] w w1):=TB.out.drew.trans ht (by simp);clear e0 k0 e1 k1 e2 k2 e3 k3 e4 k4 e5 k5 e6 k6 e7 k7 e8 k8 e9 k9 e10 k10 e11 k11 e12 k12 e13 k13 e14 k14 kx cx2 ht HN1 HN;rcases ha with ⟨c,hc0,he,hN,hk⟩|⟨av',chg',l,he,hrd,hk⟩
 ·simp only[Ending.returned.injEq,Value.tuple.injEq,Array.mk.injEq,List.cons.injEq,Value.int.injEq,and_true,true_and]at he;obtain⟨rfl,rfl,rfl⟩:=he;have hne:(((c.toNat:Nat):Int) == 0)=false:=beq_eq_false_iff_ne.2 (by omega);have hne2:(((c.toNat:Nat):Int) != 0)=true:=by simp[bne,hne]
  have HK:Hid (∀w2,Tch [] w1 w2->K ⟨#[c]⟩ w2):=hk;have HRF:Hid (zT 61 #[.int .i64 ((c.toNat:Nat):Int)] w1 (.string ⟨#[c]⟩)):=a0j c w1;clear hk;generalize ((c.toNat:Nat):Int)=n at*
  go_wp2_with fail;refine HRF.out.mono ?_;rintro e w2 ⟨rfl,ht2⟩;have HT2:=zH ht2;clear ht2 HRF;go_wp2_with fail;go_ret2;exact⟨HTW.out.trans HT2.out (by simp),⟨#[c]⟩,.inl ⟨rfl,hN,fun w3 h3=>HK.out w3 (HT2.out.trans h3 (by simp))⟩⟩
 ·simp only[Ending.returned.injEq,Value.tuple.injEq,Array.mk.injEq,List.cons.injEq,Value.int.injEq,and_true,true_and]at he;obtain⟨rfl,rfl,rfl⟩:=he;have HK:=zH hk;clear hk;rcases hrd with ⟨rfl,rfl⟩|⟨hl0,hl1,g,cap,hav,hcell⟩
  ·have HT2:Hid (Tch [] w1 (w1.alloc (.cells #[.int .u8 0] 5))):=(Tch.refl _ _).alloc _;have hzs:=b3q;go_wp2_with fail;rcases HK.out _ HT2.out with ⟨rfl,hN,hk⟩|⟨f,fc,rfl,eg2,hk⟩
   ·go_ret2;exact⟨HTW.out.trans HT2.out (by simp),okL [],.inl ⟨rfl,hN,hk⟩⟩
   ·go_ret2;exact⟨HTW.out.trans HT2.out (by simp),okL [],.inr ⟨f,fc,rfl,eg2,hk⟩⟩
  ·subst hav;have HC:=zH hcell;have HOW:Hid (∀W:World,(W.alloc (.cells #[.int .u8 0] 5)).ownsRow W.heap.size 5 1 (.slice (some ⟨W.heap.size,0,none⟩) 1 1) 1 [.int .u8 0]):=fun W=>⟨rfl,.inr ⟨W.heap.size,1,#[.int .u8 0],rfl,Nat.le_refl _,heap_alloc_new _ _,by decide,by decide,rfl,rfl⟩⟩
   clear hcell;go_wp2_with (at_builtin;refine wpList_append_own _ rfl _ _ 74 rfl w1.heap.size 5 i0 (.int .u8 0) 1 1 Tryz.underlying74 hi0 hz0 hz1 hz2 rfl (by decide) _ _ _ rfl (HOW.out w1) ⟨g,0,none⟩ l.length cap (kO l) rfl ?c0 ?c1 ?c2 ?c3 ?c4 ?c5 ?_)
   case c0=>simp[kO]
   case c1=>exact fun j u hu=>Lib.cell?_alloc_some _ (HC.out j u hu)
   case c2=>intro u hu;obtain⟨z,_,rfl⟩:=List.mem_map.1 hu;rfl
   case c3=>unfold maxLen;omega
   case c4=>omega
   case c5=>simp
   intro v' w2 hown' hgrow _;have hstr:(convert 74 9 v').run Tryz.prog w2=.ok (.string (okL l)) w2:=OwnB.str (l:=0::l) (by
    have h:=hown';unfold OwnB;rw[List.length_cons,Nat.add_comm];exact h) (by simp)
   have HT2:Hid (Tch [] w1 w2):=((Tch.refl [] w1).alloc _).grown hgrow (fun j hj hlt=>by
    simp[Value.ownBlock]at hj;omega)
   clear hown' hgrow;go_wp2_with fail;rcases HK.out _ HT2.out with ⟨rfl,hN,hk⟩|⟨f,fc,rfl,eg2,hk⟩
   ·go_ret2;exact⟨HTW.out.trans HT2.out (by simp),okL l,.inl ⟨rfl,hN,hk⟩⟩
   ·go_ret2;exact⟨HTW.out.trans HT2.out (by simp),okL l,.inr ⟨f,fc,rfl,eg2,hk⟩⟩
theorem vN {N:Prop}(B:Nat)(J:World->Prop)(K:ByteArray->World->Prop)(r:Wp.Rq)(x:Sl)(st b i fn:Nat)(now:Int)(P:Nat->Value)(w:World)(hop:r.op.toNat=65+i)(hi:i<26)(hst:Stb w st b now P)(hv:(xh b)[i]?=some (.func (.func fn) #[] #[]))
  (eg:∀args w,(callFunc fn args).run Tryz.prog w=.ok (.enter fn args) w)
  (hS:∀W,Tch [] w W->Cp fn #[zp st,.agg (ja r x.v)] W fun e w'=>Tch [] W w'/\Ans B N J K e w'):
  Cp 62 #[zp st,.agg (ja r x.v)] w fun e w'=>Tch [] w w'/\PlG B N J K e w':=
 b2d B J K r x #[] st b i fn now P w hop hi hst hv eg hS
theorem zF {N:Prop}(B:Nat)(J:World->Prop)(K:ByteArray->World->Prop)(r:Wp.Rq)(x:Sl)(st b i fn bb:Nat)(now:Int)(P:Nat->Value)(w:World)(hop:r.op.toNat=65+i)(hi:i<26)(hst:Stb w st b now P)(hv:(xh b)[i]?=some (.func (.func fn) #[] #[zp bb]))
  (eg:∀args w,(callFunc fn args).run Tryz.prog w=.ok (.enter fn args) w)
  (hS:∀W,Tch [] w W->Cp fn #[zp st,.agg (ja r x.v),zp bb] W fun e w'=>Tch [] W w'/\Ans B N J K e w'):
  Cp 62 #[zp st,.agg (ja r x.v)] w fun e w'=>Tch [] w w'/\PlG B N J K e w':=
 b2d B J K r x _ st b i fn now P w hop hi hst hv eg hS
theorem a4u (r:Wp.Rq)(x:Sl)(i:Nat)(hq:r.q.toNat=97+i):ja r x.v=#[.int .u8 (r.op.toNat:Int),.int .u8 (97+(i:Int)),.int .u8 (r.d.toNat:Int),.int .i64 r.vis,.int .i64 r.win,.int .i64 r.rcv,.int .i64 r.quo,.int .i64 r.mx,.int .i64 r.tic,.string r.grp,.string r.ded,.string r.bod,.string r.att,.string r.han,.slice x.a x.n x.c]:=by
 have ho':((r.q.toNat:Nat):Int)=97+(i:Int):=by rw[hq];omega
 unfold ja Sl.v;rw[ho']
theorem xg {N:Prop}(B:Nat)(J:World->Prop)(K:ByteArray->World->Prop)(r:Wp.Rq)(x:Sl)(st b i fn bb qb:Nat)(now:Int)(P:Nat->Value)(w:World)(hq:r.q.toNat=97+i)(hi:i<8)(hst:Stb w st b now P)(hP:P i=zp qb)(hbb:w.heap[bb]?=some (.cells #[.func (.func fn) #[] #[]] 221 (0,0)))
  (eg:∀args w,(callFunc fn args).run Tryz.prog w=.ok (.enter fn args) w)
  (hS:∀W,Tch [] w W->Cp fn #[zp qb,.int .i64 now,.agg (ja r x.v)] W fun e w'=>Tch [] W w'/\Ans B N J K e w'):
  Cp 207 #[zp st,.agg (ja r x.v),zp bb] w fun e w'=>Tch [] w w'/\Ans B N J K e w':=by
 have HST:=zH hst;have HBB:=zH hbb;have HN:=zH hS;have HA:Hid (∀W,Tch [] w W->zE 200 #[zp st,.int .u8 (97+(i:Int))] W (zp qb)):=fun W ht=>by
  have h1:=a8Q st b i now P W (hst.tch ht (by simp)) hi;rw[hP]at h1;exact h1
 rw[a4u r x i hq]at HN;rw[a4u r x i hq];clear hS hst hbb;go_enter Tryz.func207,Tryz.ntmps207;have TB0:Hid (Tch [] w (w.alloc (.cells #[.int .u8 (r.op.toNat:Int),.int .u8 (97+(i:Int)),.int .u8 (r.d.toNat:Int),.int .i64 r.vis,.int .i64 r.win,.int .i64 r.rcv,.int .i64 r.quo,.int .i64 r.mx,.int .i64 r.tic,.string r.grp,.string r.ded,.string r.bod,.string r.att,.string r.han,.slice x.a x.n x.c] 27))):=(Tch.refl _ _).alloc _;go_wp2_with (go_at_call 200;refine(HA.out _ TB0.out).mono ?_;rintro e w' ⟨rfl,rfl⟩);obtain⟨wb,hwb⟩:∃wb,wb=w.alloc (.cells #[.int .u8 (r.op.toNat:Int),.int .u8 (97+(i:Int)),.int .u8 (r.d.toNat:Int),.int .i64 r.vis,.int .i64 r.win,.int .i64 r.rcv,.int .i64 r.quo,.int .i64 r.mx,.int .i64 r.tic,.string r.grp,.string r.ded,.string r.bod,.string r.att,.string r.han,.slice x.a x.n x.c] 27):=⟨_,rfl⟩;rw[<-hwb];have hrow:wb.heap[w.heap.size]?=some (.cells #[.int .u8 (r.op.toNat:Int),.int .u8 (97+(i:Int)),.int .u8 (r.d.toNat:Int),.int .i64 r.vis,.int .i64 r.win,.int .i64 r.rcv,.int .i64 r.quo,.int .i64 r.mx,.int .i64 r.tic,.string r.grp,.string r.ded,.string r.bod,.string r.att,.string r.han,.slice x.a x.n x.c] 27 (0,0)):=by rw[hwb];exact heap_alloc_new _ _
 have TB:Hid (Tch [] w wb):=by rw[hwb];exact(Tch.refl _ _).alloc _
 have hsb:=HST.out.tch TB.out (by simp);have hbk:wb.heap[bb]?=some (.cells #[.func (.func fn) #[] #[]] 221 (0,0)):=(TB.out.block _ (lt_of_block HBB.out) (by simp)).trans HBB.out;have e0:wb.cell? ⟨w.heap.size,0,none⟩=some (.int .u8 (r.op.toNat:Int)):=by simp[World.cell?,hrow]
 have e1:wb.cell? ⟨w.heap.size,1,none⟩=some (.int .u8 (97+(i:Int))):=by simp[World.cell?,hrow]
 have e2:wb.cell? ⟨w.heap.size,2,none⟩=some (.int .u8 (r.d.toNat:Int)):=by simp[World.cell?,hrow]
 have e3:wb.cell? ⟨w.heap.size,3,none⟩=some (.int .i64 r.vis):=by simp[World.cell?,hrow]
 have e4:wb.cell? ⟨w.heap.size,4,none⟩=some (.int .i64 r.win):=by simp[World.cell?,hrow]
 have e5:wb.cell? ⟨w.heap.size,5,none⟩=some (.int .i64 r.rcv):=by simp[World.cell?,hrow]
 have e6:wb.cell? ⟨w.heap.size,6,none⟩=some (.int .i64 r.quo):=by simp[World.cell?,hrow]
 have e7:wb.cell? ⟨w.heap.size,7,none⟩=some (.int .i64 r.mx):=by simp[World.cell?,hrow]
 have e8:wb.cell? ⟨w.heap.size,8,none⟩=some (.int .i64 r.tic):=by simp[World.cell?,hrow]
 have e9:wb.cell? ⟨w.heap.size,9,none⟩=some (.string r.grp):=by simp[World.cell?,hrow]
 have e10:wb.cell? ⟨w.heap.size,10,none⟩=some (.string r.ded):=by simp[World.cell?,hrow]
 have e11:wb.cell? ⟨w.heap.size,11,none⟩=some (.string r.bod):=by simp[World.cell?,hrow]
 have e12:wb.cell? ⟨w.heap.size,12,none⟩=some (.string r.att):=by simp[World.cell?,hrow]
 have e13:wb.cell? ⟨w.heap.size,13,none⟩=some (.string r.han):=by simp[World.cell?,hrow]
 have e14:wb.cell? ⟨w.heap.size,14,none⟩=some (.slice x.a x.n x.c):=by simp[World.cell?,hrow]
 have cn:=hsb.now;have cb:=cell_of_one hbk;have hlL:w.heap.size<wb.heap.size:=lt_of_block hrow;have hlX:=hsb.lt;have hlB:bb<wb.heap.size:=lt_of_block hbk;have HN1:=zH (HN.out wb.drew TB.out.drew);clear hrow hsb hbk hwb TB0 HA
 go_region_held3 (fun w'=>w'.cell? ⟨w.heap.size,0,none⟩=some (.int .u8 (r.op.toNat:Int))/\w'.cell? ⟨w.heap.size,1,none⟩=some (.int .u8 (97+(i:Int)))/\w'.cell? ⟨w.heap.size,2,none⟩=some (.int .u8 (r.d.toNat:Int))/\w'.cell? ⟨w.heap.size,3,none⟩=some (.int .i64 r.vis)/\w'.cell? ⟨w.heap.size,4,none⟩=some (.int .i64 r.win)/\w'.cell? ⟨w.heap.size,5,none⟩=some (.int .i64 r.rcv)/\w'.cell? ⟨w.heap.size,6,none⟩=some (.int .i64 r.quo)/\w'.cell? ⟨w.heap.size,7,none⟩=some (.int .i64 r.mx)/\w'.cell? ⟨w.heap.size,8,none⟩=some (.int .i64 r.tic)/\w'.cell? ⟨w.heap.size,9,none⟩=some (.string r.grp)/\w'.cell? ⟨w.heap.size,10,none⟩=some (.string r.ded)/\w'.cell? ⟨w.heap.size,11,none⟩=some (.string r.bod)/\w'.cell? ⟨w.heap.size,12,none⟩=some (.string r.att)/\w'.cell? ⟨w.heap.size,13,none⟩=some (.string r.han)/\w'.cell? ⟨w.heap.size,14,none⟩=some (.slice x.a x.n x.c)/\w'.cell? ⟨bb,0,none⟩=some (.func (.func fn) #[] #[])/\w'.cell? ⟨st,0,none⟩=some (.int .i64 now)) (go_keep) (first|(go_at_fn fn;refine HN1.out.mono ?_;rintro e w1 ⟨ht,ha⟩;obtain⟨av,chg,en,rfl⟩:=ha.shape;have k0:=(ht.cell (a:=⟨w.heap.size,0,none⟩) hlL (by simp)).trans e0;have k1:=(ht.cell (a:=⟨w.heap.size,1,none⟩) hlL (by simp)).trans e1;have k2:=(ht.cell (a:=⟨w.heap.size,2,none⟩) hlL (by simp)).trans e2;have k3:=(ht.cell (a:=⟨w.heap.size,3,none⟩) hlL (by simp)).trans e3;have k4:=(ht.cell (a:=⟨w.heap.size,4,none⟩) hlL (by simp)).trans e4;have k5:=(ht.cell (a:=⟨w.heap.size,5,none⟩) hlL (by simp)).trans e5;have k6:=(ht.cell (a:=⟨w.heap.size,6,none⟩) hlL (by simp)).trans e6;have k7:=(ht.cell (a:=⟨w.heap.size,7,none⟩) hlL (by simp)).trans e7;have k8:=(ht.cell (a:=⟨w.heap.size,8,none⟩) hlL (by simp)).trans e8;have k9:=(ht.cell (a:=⟨w.heap.size,9,none⟩) hlL (by simp)).trans e9;have k10:=(ht.cell (a:=⟨w.heap.size,10,none⟩) hlL (by simp)).trans e10;have k11:=(ht.cell (a:=⟨w.heap.size,11,none⟩) hlL (by simp)).trans e11;have k12:=(ht.cell (a:=⟨w.heap.size,12,none⟩) hlL (by simp)).trans e12;have k13:=(ht.cell (a:=⟨w.heap.size,13,none⟩) hlL (by simp)).trans e13;have k14:=(ht.cell (a:=⟨w.heap.size,14,none⟩) hlL (by simp)).trans e14;have kx:=(ht.cell (a:=⟨bb,0,none⟩) hlB (by simp)).trans cb;have ky:=(ht.cell (a:=⟨st,0,none⟩) hlX (by simp)).trans cn))
 have T1:=zH (TB.out.drew.trans ht (by simp));have HAN:=zH ha;clear ht ha e0 k0 e1 k1 e2 k2 e3 k3 e4 k4 e5 k5 e6 k6 e7 k7 e8 k8 e9 k9 e10 k10 e11 k11 e12 k12 e13 k13 e14 k14 kx ky cn cb HN1 HN;go_wp2_with fail;go_ret3;exact⟨T1.out,HAN.out⟩
theorem b7g (K:World->Prop)(r:Wp.Rq)(x:Sl)(gr gs st b i:Nat)(now:Int)(P:Nat->Value)(w:World)(hq:r.q.toNat=97+i)(hi:i<8)(hst:Stb w st b now P)
  (hgr:w.heap[gr]?=some (.cells (ja r x.v) 27 (0,0)))(hgs:w.heap[gs]?=some (.cells #[zp st] 96 (0,0)))
  (hK:K (((w.setCell ⟨st,1+i,none⟩ (zp (w.heap.size+1))).alloc (.cells (ja r x.v) 27)).alloc (.cells (qC r 1 (.slice none 0 0) (.slice none 0 0) (.slice none 0 0) (.slice none 0 0)) 191)).drew):
  Cp 201 #[zp gr,zp gs] w fun e w'=>
   e=.returned (.tuple #[])/\K w':=by
 have hlt:=hst.lt;have hb0:(0:Int)<=(i:Int):=Int.natCast_nonneg i;have hb1:(i:Int)<8:=by omega
 have c1:=hst.cell i hi;have cs:=cell_of_one hgs;have hq':((r.q.toNat:Nat):Int)=97+(i:Int):=by rw[hq];omega
 have hcells:ja r x.v=#[.int .u8 (r.op.toNat:Int),.int .u8 (97+(i:Int)),.int .u8 (r.d.toNat:Int),.int .i64 r.vis,.int .i64 r.win,.int .i64 r.rcv,.int .i64 r.quo,.int .i64 r.mx,.int .i64 r.tic,.string r.grp,.string r.ded,.string r.bod,.string r.att,.string r.han,.slice x.a x.n x.c]:=by
  unfold ja Sl.v;rw[hq']
 rw[hcells]at hgr;have cr0:w.cell? ⟨gr,0,none⟩=some (.int .u8 (r.op.toNat:Int)):=by simp[World.cell?,hgr]
 have cr1:w.cell? ⟨gr,1,none⟩=some (.int .u8 (97+(i:Int))):=by simp[World.cell?,hgr]
 have cr2:w.cell? ⟨gr,2,none⟩=some (.int .u8 (r.d.toNat:Int)):=by simp[World.cell?,hgr]
 have cr3:w.cell? ⟨gr,3,none⟩=some (.int .i64 r.vis):=by simp[World.cell?,hgr]
 have cr4:w.cell? ⟨gr,4,none⟩=some (.int .i64 r.win):=by simp[World.cell?,hgr]
 have cr5:w.cell? ⟨gr,5,none⟩=some (.int .i64 r.rcv):=by simp[World.cell?,hgr]
 have cr6:w.cell? ⟨gr,6,none⟩=some (.int .i64 r.quo):=by simp[World.cell?,hgr]
 have cr7:w.cell? ⟨gr,7,none⟩=some (.int .i64 r.mx):=by simp[World.cell?,hgr]
 have cr8:w.cell? ⟨gr,8,none⟩=some (.int .i64 r.tic):=by simp[World.cell?,hgr]
 have cr9:w.cell? ⟨gr,9,none⟩=some (.string r.grp):=by simp[World.cell?,hgr]
 have cr10:w.cell? ⟨gr,10,none⟩=some (.string r.ded):=by simp[World.cell?,hgr]
 have cr11:w.cell? ⟨gr,11,none⟩=some (.string r.bod):=by simp[World.cell?,hgr]
 have cr12:w.cell? ⟨gr,12,none⟩=some (.string r.att):=by simp[World.cell?,hgr]
 have cr13:w.cell? ⟨gr,13,none⟩=some (.string r.han):=by simp[World.cell?,hgr]
 have cr14:w.cell? ⟨gr,14,none⟩=some (.slice x.a x.n x.c):=by simp[World.cell?,hgr]
 have hn1:gr≠st:=fun e=>by rw[e,show w.heap[st]?=_ from hst]at hgr;simp at hgr
 have hn2:gs≠st:=fun e=>by rw[e,show w.heap[st]?=_ from hst]at hgs;simp at hgs
 have fz0:w.drew.frozen? ⟨st,1+i,none⟩=false:=frozen_of_row w.drew st _ _ 156 hst;have fz2:∀o o',((w.alloc o).alloc o').drew.frozen? ⟨st,1+i,none⟩=false:=fun o o'=>frozen_of_row _ st _ _ 156 (((Below.heap_alloc _ _ _ (by simp;omega)).trans (Below.heap_alloc _ _ _ hlt)).trans hst)
 have dr0:∀v,(w.setCell ⟨st,1+i,none⟩ v).cell? ⟨gr,0,none⟩=some (.int .u8 (r.op.toNat:Int)):=fun v=>(World.cell?_of_block (heap_setCell_other _ _ _ _ hn1)).trans cr0
 have dr1:∀v,(w.setCell ⟨st,1+i,none⟩ v).cell? ⟨gr,1,none⟩=some (.int .u8 (97+(i:Int))):=fun v=>(World.cell?_of_block (heap_setCell_other _ _ _ _ hn1)).trans cr1
 have dr2:∀v,(w.setCell ⟨st,1+i,none⟩ v).cell? ⟨gr,2,none⟩=some (.int .u8 (r.d.toNat:Int)):=fun v=>(World.cell?_of_block (heap_setCell_other _ _ _ _ hn1)).trans cr2
 have dr3:∀v,(w.setCell ⟨st,1+i,none⟩ v).cell? ⟨gr,3,none⟩=some (.int .i64 r.vis):=fun v=>(World.cell?_of_block (heap_setCell_other _ _ _ _ hn1)).trans cr3
 have dr4:∀v,(w.setCell ⟨st,1+i,none⟩ v).cell? ⟨gr,4,none⟩=some (.int .i64 r.win):=fun v=>(World.cell?_of_block (heap_setCell_other _ _ _ _ hn1)).trans cr4
 have dr5:∀v,(w.setCell ⟨st,1+i,none⟩ v).cell? ⟨gr,5,none⟩=some (.int .i64 r.rcv):=fun v=>(World.cell?_of_block (heap_setCell_other _ _ _ _ hn1)).trans cr5
 have dr6:∀v,(w.setCell ⟨st,1+i,none⟩ v).cell? ⟨gr,6,none⟩=some (.int .i64 r.quo):=fun v=>(World.cell?_of_block (heap_setCell_other _ _ _ _ hn1)).trans cr6
 have dr7:∀v,(w.setCell ⟨st,1+i,none⟩ v).cell? ⟨gr,7,none⟩=some (.int .i64 r.mx):=fun v=>(World.cell?_of_block (heap_setCell_other _ _ _ _ hn1)).trans cr7
 have dr8:∀v,(w.setCell ⟨st,1+i,none⟩ v).cell? ⟨gr,8,none⟩=some (.int .i64 r.tic):=fun v=>(World.cell?_of_block (heap_setCell_other _ _ _ _ hn1)).trans cr8
 have dr9:∀v,(w.setCell ⟨st,1+i,none⟩ v).cell? ⟨gr,9,none⟩=some (.string r.grp):=fun v=>(World.cell?_of_block (heap_setCell_other _ _ _ _ hn1)).trans cr9
 have dr10:∀v,(w.setCell ⟨st,1+i,none⟩ v).cell? ⟨gr,10,none⟩=some (.string r.ded):=fun v=>(World.cell?_of_block (heap_setCell_other _ _ _ _ hn1)).trans cr10
 have dr11:∀v,(w.setCell ⟨st,1+i,none⟩ v).cell? ⟨gr,11,none⟩=some (.string r.bod):=fun v=>(World.cell?_of_block (heap_setCell_other _ _ _ _ hn1)).trans cr11
 have dr12:∀v,(w.setCell ⟨st,1+i,none⟩ v).cell? ⟨gr,12,none⟩=some (.string r.att):=fun v=>(World.cell?_of_block (heap_setCell_other _ _ _ _ hn1)).trans cr12
 have dr13:∀v,(w.setCell ⟨st,1+i,none⟩ v).cell? ⟨gr,13,none⟩=some (.string r.han):=fun v=>(World.cell?_of_block (heap_setCell_other _ _ _ _ hn1)).trans cr13
 have dr14:∀v,(w.setCell ⟨st,1+i,none⟩ v).cell? ⟨gr,14,none⟩=some (.slice x.a x.n x.c):=fun v=>(World.cell?_of_block (heap_setCell_other _ _ _ _ hn1)).trans cr14
 have ds:∀v,(w.setCell ⟨st,1+i,none⟩ v).cell? ⟨gs,0,none⟩=some (zp st):=fun v=>(World.cell?_of_block (heap_setCell_other _ _ _ _ hn2)).trans cs
 have fz3:∀v o o',(((w.setCell ⟨st,1+i,none⟩ v).alloc o).alloc o').drew.frozen? ⟨st,1+i,none⟩=false:=fun v o o'=>frozen_of_row _ st _ _ 156 (((Below.heap_alloc _ _ _ (by simp;omega)).trans (Below.heap_alloc _ _ _ (by simpa using hlt))).trans (heap_setCell_same w st (1+i) _ 156 v hst))
 rw[a4u r x i hq]at hK;have HK:Hid (K _):=hK;clear hK;clear hcells hst hgs hgr;have HN:Hid (∀W,Cp 168 #[.agg (ja r x.v)] W fun e w'=>e=.returned (zp (W.heap.size+1))/\w'=(W.alloc (.cells (ja r x.v) 27)).alloc (.cells (qC r 1 (.slice none 0 0) (.slice none 0 0) (.slice none 0 0) (.slice none 0 0)) 191)):=fun W=>b2m r x W
 rw[a4u r x i hq]at HN;have hw0:IntKind.u8.wrap (97+(i:Int)-97)=(i:Int):=by
  have e:(97+(i:Int)-97)=(i:Int):=by omega
  rw[e,IntKind.wrap_u8];omega
 generalize P i=pv at c1;go_enter Tryz.func201,Tryz.ntmps201
 go_region_held3 (fun w'=>w'.cell? ⟨gr,0,none⟩=some (.int .u8 (r.op.toNat:Int))/\w'.cell? ⟨gr,1,none⟩=some (.int .u8 (97+(i:Int)))/\w'.cell? ⟨gr,2,none⟩=some (.int .u8 (r.d.toNat:Int))/\w'.cell? ⟨gr,3,none⟩=some (.int .i64 r.vis)/\w'.cell? ⟨gr,4,none⟩=some (.int .i64 r.win)/\w'.cell? ⟨gr,5,none⟩=some (.int .i64 r.rcv)/\w'.cell? ⟨gr,6,none⟩=some (.int .i64 r.quo)/\w'.cell? ⟨gr,7,none⟩=some (.int .i64 r.mx)/\w'.cell? ⟨gr,8,none⟩=some (.int .i64 r.tic)/\w'.cell? ⟨gr,9,none⟩=some (.string r.grp)/\w'.cell? ⟨gr,10,none⟩=some (.string r.ded)/\w'.cell? ⟨gr,11,none⟩=some (.string r.bod)/\w'.cell? ⟨gr,12,none⟩=some (.string r.att)/\w'.cell? ⟨gr,13,none⟩=some (.string r.han)/\w'.cell? ⟨gr,14,none⟩=some (.slice x.a x.n x.c)/\w'.cell? ⟨gs,0,none⟩=some (zp st)/\w'.frozen? ⟨st,1+i,none⟩=false) (go_keep) (first|(go_at_call 168;refine(HN.out _).mono ?_;rintro e w' ⟨rfl,rfl⟩))
 go_end0;exact⟨rfl,HK.out⟩
theorem b4g (r:Wp.Rq)(x:Sl)(gr gs st b i:Nat)(now:Int)(P:Nat->Value)(w:World)(hq:r.q.toNat=97+i)(hi:i<8)(hst:Stb w st b now P)
  (hgr:w.heap[gr]?=some (.cells (ja r x.v) 27 (0,0)))(hgs:w.heap[gs]?=some (.cells #[zp st] 96 (0,0))):
  Cp 201 #[zp gr,zp gs] w fun e w'=>
   e=.returned (.tuple #[])/\Tch [st] w w'/\w'.heap.size=w.heap.size+2/\Stb w' st b now (vE P i (zp (w.heap.size+1)))/\
   w'.heap[w.heap.size+1]?=some (.cells (qC r 1 (.slice none 0 0) (.slice none 0 0) (.slice none 0 0) (.slice none 0 0)) 191 (0,0)):=by
 refine b7g (fun w'=>Tch [st] w w'/\w'.heap.size=w.heap.size+2/\Stb w' st b now (vE P i (zp (w.heap.size+1)))/\
   w'.heap[w.heap.size+1]?=some (.cells (qC r 1 (.slice none 0 0) (.slice none 0 0) (.slice none 0 0) (.slice none 0 0)) 191 (0,0))) r x gr gs st b i now P w hq hi hst hgr hgs ?_
 generalize ja r x.v=C;generalize qC r 1 (.slice none 0 0) (.slice none 0 0) (.slice none 0 0) (.slice none 0 0)=Q;have hv:=hst.set i hi (zp (w.heap.size+1));have ht:Tch [st] w (w.setCell ⟨st,1+i,none⟩ (zp (w.heap.size+1))):=(Tch.refl _ _).setCell (fun _=>by simp) _;have hs:(w.setCell ⟨st,1+i,none⟩ (zp (w.heap.size+1))).heap.size=w.heap.size:=by simp
 generalize w.setCell ⟨st,1+i,none⟩ (zp (w.heap.size+1))=W at*
 refine⟨((ht.alloc _).alloc _).drew,?_,?_,?_⟩
 ·show ((W.alloc _).alloc _).heap.size=_
  rw[World.size_alloc,World.size_alloc,hs]
 ·exact hv.tch (((Tch.refl [] W).alloc _).alloc _).drew (by simp)
 ·show ((W.alloc _).alloc _).heap[w.heap.size+1]?=_
  rw[<-hs,heap_alloc2_new]
theorem b6k (r:Wp.Rq)(y:Sl)(st qb:Nat)(w:World)
  (hA:∀W,Tch [] w W->zE 200 #[zp st,.int .u8 (r.q.toNat:Int)] W (zp qb)):
  zT 159 #[zp st,.agg (ja r y.v)] w (.tuple #[.slice none 0 0,.nilFunc,.int .i64 3]):=by
 rw[zM r y];have HT:Hid (Tch [] w ((w.alloc (.cells #[zp st] 96)).alloc (.cells (zR r y) 27))):=((Tch.refl _ _).alloc _).alloc _;have HA:Hid (Cp 200 #[zp st,.int .u8 (r.q.toNat:Int)] ((w.alloc (.cells #[zp st] 96)).alloc (.cells (zR r y) 27)) _):=hA _ HT.out;clear hA;go_enter Tryz.func159,Tryz.ntmps159;go_wp2_with fail;refine HA.out.mono ?_;rintro e w' ⟨rfl,h'⟩;have h'':=h'.symm;subst h'';go_wp2_with fail;go_ret3;exact⟨rfl,HT.out⟩
theorem b6l (r:Wp.Rq)(y:Sl)(st:Nat)(w:World)
  (hA:∀W,Tch [] w W->zE 200 #[zp st,.int .u8 (r.q.toNat:Int)] W (.pointer none)):
  Cp 159 #[zp st,.agg (ja r y.v)] w fun e w'=>∃gr gs,e=.returned (.tuple #[.slice none 0 0,.func (.func 201) #[] #[zp gr,zp gs],.int .i64 0])/\Tch [] w w'/\w'.heap[gr]?=some (.cells (zR r y) 27 (0,0))/\w'.heap[gs]?=some (.cells #[zp st] 96 (0,0)):=by
 rw[zM r y];have HT:Hid (Tch [] w ((w.alloc (.cells #[zp st] 96)).alloc (.cells (zR r y) 27))):=((Tch.refl _ _).alloc _).alloc _;have HA:Hid (Cp 200 #[zp st,.int .u8 (r.q.toNat:Int)] ((w.alloc (.cells #[zp st] 96)).alloc (.cells (zR r y) 27)) _):=hA _ HT.out;clear hA;go_enter Tryz.func159,Tryz.ntmps159;go_wp2_with fail;refine HA.out.mono ?_;rintro e w' ⟨rfl,h'⟩;have h'':=h'.symm;subst h'';go_wp2_with fail;go_ret3;exact⟨w.heap.size+1,w.heap.size,rfl,HT.out,heap_alloc2_new _ _ _,heap_alloc2_old _ _ _⟩
theorem b6I (r:Wp.Rq)(y:Sl)(st:Nat)(now:Int)(w:World)(c0:w.cell? ⟨st,0,none⟩=some (.int .i64 now))(hn:0<=now/\0<=r.tic/\now+r.tic<=60000):
  Cp 165 #[zp st,.agg (ja r y.v)] w fun e w'=>∃gs gl,e=.returned (.tuple #[.slice none 0 0,.func (.func 220) #[] #[zp gs,zp gl],.int .i64 0])/\Tch [] w w'/\
   w'.heap[gs]?=some (.cells #[zp st] 96 (0,0))/\w'.heap[gl]?=some (.cells #[.int .i64 (now+r.tic)] 3 (0,0)):=by
 have hlt:=World.block_lt_of_cell? _ _ c0;have hwr:IntKind.i64.wrap (now+r.tic)=now+r.tic:=by rw[IntKind.wrap_i64];omega
 rw[zM r y];go_enter Tryz.func165,Tryz.ntmps165;go_wp2_with fail;obtain⟨wb,hwb⟩:∃wb,wb=(w.alloc (.cells #[zp st] 96)).alloc (.cells (zR r y) 27):=⟨_,rfl⟩;rw[<-hwb];have t1:Tch [] w wb:=by rw[hwb];exact((Tch.refl _ _).alloc _).alloc _
 have h1:wb.heap[w.heap.size]?=some (.cells #[zp st] 96 (0,0)):=by rw[hwb];exact heap_alloc2_old _ _ _
 have h2:wb.heap[w.heap.size+1]?=some (.cells (zR r y) 27 (0,0)):=by rw[hwb];exact heap_alloc2_new _ _ _
 have e1:=cell_of_one h1;have e2:wb.cell? ⟨w.heap.size+1,8,none⟩=some (.int .i64 r.tic):=by simp[World.cell?,h2]
 have e3:=(t1.cell (a:=⟨st,0,none⟩) hlt (by simp)).trans c0;have l1:=lt_of_block h1;have T1:=zH t1;have H1:=zH h1;clear hwb t1 h1 h2 c0
 go_region_held3 (fun w'=>w'.cell? ⟨w.heap.size,0,none⟩=some (zp st)/\w'.cell? ⟨w.heap.size+1,8,none⟩=some (.int .i64 r.tic)/\w'.cell? ⟨st,0,none⟩=some (.int .i64 now)) (go_keep) (fail)
 go_wp2_with fail;go_ret3;refine⟨w.heap.size,wb.heap.size,rfl,?_,?_,?_⟩
 ·exact(T1.out.alloc _).drew
 ·exact(Below.heap_alloc _ _ _ l1).trans H1.out
 ·exact heap_alloc_new wb _
theorem a9p (r:Wp.Rq)(y:Sl)(st:Nat)(now:Int)(w:World)(c0:w.cell? ⟨st,0,none⟩=some (.int .i64 now))(hn:0<=now/\0<=r.tic/\60000<now+r.tic/\now+r.tic<=1000000):
  zT 165 #[zp st,.agg (ja r y.v)] w (.tuple #[.slice none 0 0,.nilFunc,.int .i64 9]):=by
 have hlt:=World.block_lt_of_cell? _ _ c0;have hwr:IntKind.i64.wrap (now+r.tic)=now+r.tic:=by rw[IntKind.wrap_i64];omega
 rw[zM r y];go_enter Tryz.func165,Tryz.ntmps165;go_wp2_with fail;obtain⟨wb,hwb⟩:∃wb,wb=(w.alloc (.cells #[zp st] 96)).alloc (.cells (zR r y) 27):=⟨_,rfl⟩;rw[<-hwb];have t1:Tch [] w wb:=by rw[hwb];exact((Tch.refl _ _).alloc _).alloc _
 have h1:wb.heap[w.heap.size]?=some (.cells #[zp st] 96 (0,0)):=by rw[hwb];exact heap_alloc2_old _ _ _
 have h2:wb.heap[w.heap.size+1]?=some (.cells (zR r y) 27 (0,0)):=by rw[hwb];exact heap_alloc2_new _ _ _
 have e1:=cell_of_one h1;have e2:wb.cell? ⟨w.heap.size+1,8,none⟩=some (.int .i64 r.tic):=by simp[World.cell?,h2]
 have e3:=(t1.cell (a:=⟨st,0,none⟩) hlt (by simp)).trans c0;have T1:=zH t1;clear hwb t1 h1 h2 c0
 go_region_held3 (fun w'=>w'.cell? ⟨w.heap.size,0,none⟩=some (zp st)/\w'.cell? ⟨w.heap.size+1,8,none⟩=some (.int .i64 r.tic)/\w'.cell? ⟨st,0,none⟩=some (.int .i64 now)) (go_keep) (fail)
 go_wp2_with fail;go_ret3;exact⟨rfl,(T1.out.alloc _).drew⟩
theorem a2r (a b:Nat)(ha:a<4294967296)(hb:b<4294967296):bits .or .i64 (a:Int) (b:Int)=((a ||| b:Nat):Int):=by
 have hx:a ||| b<2^32:=Nat.or_lt_two_pow (by omega) (by omega)
 show IntKind.i64.wrap ((BitVec.ofInt 64 (a:Int) ||| BitVec.ofInt 64 (b:Int)).toNat:Int)=_
 rw[BitVec.toNat_or,ofInt_u64 a (by omega),ofInt_u64 b (by omega)];simp[IntKind.wrap,IntKind.bits,IntKind.signed];omega
theorem a7g (k a b:Nat)(ha:a<2^k):a ||| b*2^k=a+2^k*b:=by
 have h:=Nat.two_pow_add_eq_or_of_lt (i:=k) (b:=a) ha b;rw[Nat.or_comm,Nat.mul_comm b,<-h];omega
theorem b4s (a b c d:Nat)(ha:a<256)(hb:b<256)(hc:c<256)(hd:d<256):bits .or .i64 (bits .or .i64 (bits .or .i64 (bits .or .i64 0 (a:Int)) ((b:Int)*256)) ((c:Int)*65536)) ((d:Int)*16777216)=((a+256*b+65536*c+16777216*d:Nat):Int):=by
 have s1:bits .or .i64 0 (a:Int)=(a:Int):=by
  have h:=a2r 0 a (by omega) (by omega);rw[Nat.zero_or]at h;exact h
 have x2:=a7g 8 a b ha;have x3:=a7g 16 (a+256*b) c (by omega);have x4:=a7g 24 (a+256*b+65536*c) d (by omega);have s2:bits .or .i64 (a:Int) ((b:Int)*256)=((a+256*b:Nat):Int):=by
  rw[show ((b:Int)*256)=((b*256:Nat):Int) by omega,a2r a (b*256) (by omega) (by omega)]
  exact congrArg Nat.cast x2
 have s3:bits .or .i64 ((a+256*b:Nat):Int) ((c:Int)*65536)=((a+256*b+65536*c:Nat):Int):=by
  rw[show ((c:Int)*65536)=((c*65536:Nat):Int) by omega,a2r (a+256*b) (c*65536) (by omega) (by omega)]
  exact congrArg Nat.cast x3
 have s4:bits .or .i64 ((a+256*b+65536*c:Nat):Int) ((d:Int)*16777216)=((a+256*b+65536*c+16777216*d:Nat):Int):=by
  rw[show ((d:Int)*16777216)=((d*16777216:Nat):Int) by omega,a2r (a+256*b+65536*c) (d*16777216) (by omega) (by omega)]
  exact congrArg Nat.cast x4
 rw[s1,s2,s3,s4]
theorem a9z (T:ByteArray)(h:T.size=4):T.data.toList=[T[0],T[1],T[2],T[3]]:=by
 have hl:T.data.toList.length=4:=h
 match hm:T.data.toList,hl with
 | [x,y,z,u],_=>
  have h0:T[0]=T.data.toList[0]'(by rw[hm];simp):=rfl;have h1:T[1]=T.data.toList[1]'(by rw[hm];simp):=rfl;have h2:T[2]=T.data.toList[2]'(by rw[hm];simp):=rfl;have h3:T[3]=T.data.toList[3]'(by rw[hm];simp):=rfl;rw[h0,h1,h2,h3];simp[hm]
theorem a5T (b:Nat)(s:ByteArray)(f:Bool)(w:World)(hs:s.size<=maxLen)(h4:4<=s.size)(hR:Rd w b s f):
  Cp 84 #[zp b,.int .i64 4] w fun e w'=>e=.returned (.int .i64 (leN (tk s 4).data.toList:Nat))/\Rd w' b (lf s 4) (bad s f 4)/\w.grownBy w' (some b)/\w'.heap.size=w.heap.size:=by
 have htk:=zn b s f 4 w (by omega) hs hR;have hsz:(tk s 4).size=4:=by unfold tk;rw[if_pos h4];simp;omega
 generalize tk s 4=T at htk hsz;generalize lf s 4=S1 at htk;generalize bad s f 4=F1 at htk;have HT:=zH htk;have b0:=T[0].toNat_lt;have b1:=T[1].toNat_lt;have b2:=T[2].toNat_lt;have b3:=T[3].toNat_lt;have hv:Hid (leN T.data.toList=T[0].toNat+256*T[1].toNat+65536*T[2].toNat+16777216*T[3].toNat):=by show _=_;rw[a9z T hsz];simp only[leN];omega
 have HE:Hid (bits .or .i64 (bits .or .i64 (bits .or .i64 (bits .or .i64 0 (T[0].toNat:Int)) ((T[1].toNat:Int)*256)) ((T[2].toNat:Int)*65536)) ((T[3].toNat:Int)*16777216)=((T[0].toNat+256*T[1].toNat+65536*T[2].toNat+16777216*T[3].toNat:Nat):Int)):=b4s _ _ _ _ b0 b1 b2 b3;clear htk hR;go_enter Tryz.func84,Tryz.ntmps84;go_wp2_with fail;refine(HT.out).mono ?_;rintro e w1 ⟨rfl,h1,h2,h3⟩;have H1:Hid (Rd w1 b S1 F1/\w.grownBy w1 (some b)/\w1.heap.size=w.heap.size):=⟨h1,h2,h3⟩;clear h1 h2 h3
 go_wp2
 refine wp_loop_rounds 5 ?_;rw[rounds_succ]
 go_wp2
 rw[rounds_succ]
 go_wp2
 rw[rounds_succ]
 go_wp2
 rw[rounds_succ]
 go_wp2
 rw[rounds_succ]
 go_wp2
 go_ret;exact⟨a2s (by rw[hv.out,HE.out]),H1.out⟩
def zj (c:UInt8):Bool:=decide (97<=c.toNat)&&decide (c.toNat<=104)
theorem a1X (B:Nat)(c:UInt8)(w:World)(hL:Lays B w)(hB:B<=w.heap.size):zT 236 #[.int .u8 (c.toNat:Int)] w (.bool (zj c)):=by
 have d0:w.cell? ⟨1,0,none⟩=some (.int .i64 0):=hL.2.1 0 (by decide);have d1:w.cell? ⟨1,1,none⟩=some (.int .i64 97):=hL.2.1 1 (by decide);have d2:w.cell? ⟨1,2,none⟩=some (.int .i64 104):=hL.2.1 2 (by decide);have hc:=c.toNat_lt;have HL:Hid (zj c=(decide (97<=c.toNat)&&decide (c.toNat<=104))):=rfl;generalize c.toNat=n at*
 clear hL;go_enter Tryz.func236,Tryz.ntmps236
 by_cases ha:97<=n
 ·go_wp2_with fail;go_ret;exact⟨js (by rw[HL.out,decide_eq_true ha,Bool.true_and];exact decide_eq_decide.2 (by omega)),(Tch.refl [] w).alloc _⟩
 ·go_wp2_with fail;go_ret;exact⟨js (by rw[HL.out,decide_eq_false (by omega),Bool.false_and]),(Tch.refl [] w).alloc _⟩
end Go.Proofs.YtbdobaapadlcjaaGreatDoor
