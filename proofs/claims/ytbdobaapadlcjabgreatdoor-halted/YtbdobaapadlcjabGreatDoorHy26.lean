import Derived.Test.YtbdobaapadlcjabGreatDoorHy25
set_option maxRecDepth 8000
set_option maxHeartbeats 8000000
set_option linter.unusedVariables false
set_option linter.unusedSimpArgs false
namespace Go.Proofs.YtbdobaapadlcjabGreatDoor
open Go.RowKit
variable {B st sn b g2 g7 ga:Nat}{W wr w:World}{now:Int}{c:Nat->Option QM}{bs:List ByteArray}{chg:Bool}{col:Nat->Nat}
def ansB (n:Nat)(l:List ByteArray):List UInt8:=lowB n 1++txtsB l
theorem ansB_len (n:Nat)(l:List ByteArray)(hl:l.length<=10)(h:∀s∈l,s.size<=5):0<(ansB n l).length/\(ansB n l).length<=61:=by
 have h1:=flt_len txtB 6 l (fun s hs=>by rw[txtB_length];have:=h s hs;omega);unfold ansB txtsB;rw[List.length_append,lowB_length];omega
theorem func_nn (fn:Fn)(f c:Array Value)(W:World):(binOp .neq 1 (.func fn f c) .nilFunc).run Tryz.prog W=.ok (.bool true) W:=by kernel_rfl
theorem Bi.cell {w2:World}{k:Nat}(h:Bi B W st sn b now c bs g2 g7 ga k chg wr col)(hk:k<bs.length){c':Nat->Option QM}(hd:Sd B (Gh.tt B) sn b wr col now c' w2):(∃ov,w2.cell? ⟨ga,k,none⟩=some ov)/\w2.frozen? ⟨ga,k,none⟩=false/\ga<w2.heap.size:=by
 obtain⟨col',hb,ha,hf⟩:=hd;have r2:w2.heap[ga]?=_:=(hf.out ga (lt_of_block h.row) h.c9).trans h.row;have hlen:(doL now c (bs.take k)).1.length=k:=by rw[doL_len,List.length_take];omega
 exact⟨⟨_,(cell_of_row w2 ga k _ 9 (0,0) r2).trans (Array.getElem?_eq_getElem (by rw[strRow_size _ _ (by omega)];exact hk))⟩,frozen_of_row w2 ga k _ 9 r2,lt_of_block r2⟩
theorem Bi.texts (h:Bi B W st sn b now c bs g2 g7 ga bs.length chg wr col)(hl:bs.length<=10):
  Calls Tryz.prog 91 #[.slice none 0 0,.slice (some ⟨ga,0,none⟩) bs.length bs.length] wr fun e w'=>∃v',e=.returned v'/\OwnB w' wr.heap.size v' (ansB bs.length (doL now c bs).1)/\Tch [] wr w':=by
 have hr:=h.row;rw[List.take_length]at hr;have hlen:=doL_len now bs c;have hsz:=doL_size now bs c;generalize (doL now c bs).1=ss at*
 have hlt:=lt_of_block hr;have h1:=appTx_any wr.heap.size (.slice none 0 0) [] (some ⟨ga,0,none⟩) bs.length ss wr (fun s hs=>by have:=hsz s hs;omega) (by omega) (by simp) (Nat.le_refl _) (World.ownsRow_nil _ _ _ _) (fun j hj=>⟨ga,0,rfl,hlt,by
  rw[Nat.zero_add,cell_of_row wr ga j _ 9 (0,0) hr];unfold strRow;rw[List.getElem?_toArray,List.getElem?_append_left (by simpa using hj)];simp[hj]⟩)
 rw[hlen]at h1;refine h1.mono ?_;rintro e w' ⟨v',he,ho,hb⟩;exact⟨v',he,ho,Tch.of_below hb.1⟩
theorem batch_any (B:Nat)(r:Wp.Rq)(x:Gh B)(st b bb ob yc:Nat)(now:Int)(c:Nat->Option QM)(col:Nat->Nat)(bs:List ByteArray)(w:World)(hE:Env B w)(hb:Sk B w x st b now c col)(Z:Nat->Option BQ)(o:Option ByteArray)(room:Int)(hs:SG B w st b now Z col)(hc:ctZ Z=c)(W:World)(ht:Tch [] w W)(hl:bs.length<=10)(hsz:∀s∈bs,s.size<=maxLen)(hbw:bb<W.heap.size)(hcs:∀j (hj:j<bs.length),W.cell? ⟨bb,ob+j,none⟩=some (.string bs[j])):
  Calls Tryz.prog 118 #[.pointer (some ⟨st,0,none⟩),.agg (cellsOf r (Sl.v ⟨some ⟨bb,ob,none⟩,bs.length,yc⟩))] W fun e w'=>Tch [] W w'/\Ans B ((doL now c bs).2=c) (fun w'=>x.JO w col w') (fun t w'=>t=okL (ansB bs.length (doL now c bs).1)/\Sd B x st b w col now (doL now c bs).2 w') e w':=by
 have HCP:Hid (∀V,Tch [] w V->Calls Tryz.prog 150 #[.pointer (some ⟨st,0,none⟩)] V fun e w'=>∃Z' col',e=.returned (.pointer (some ⟨V.heap.size,0,none⟩))/\Cpy V V.heap.size b now Z 8 w' Z' col'):=fun V h=>scopy_any B st b now Z col V (hs.tch h) (fun i y hi hy=>(hb.wf i y.Q hi (by rw[<-hc];exact ctZ_some hy)).ok)
 have HMK:Hid (∀V:World,_):=make_strs bs.length (by omega);have HST:Hid (∀V,Tch [] W V->∀j (hj:j<bs.length),V.cell? ⟨bb,ob+j,none⟩=some (.string bs[j])/\bb<V.heap.size):=fun V h j hj=>⟨(h.cell (a:=⟨bb,ob+j,none⟩) hbw (by simp)).trans (hcs j hj),Nat.lt_of_lt_of_le hbw h.size⟩
 obtain⟨wa,hwa⟩:∃wa,wa=(W.alloc (.cells #[.pointer (some ⟨st,0,none⟩)] 57)).alloc (.cells (cellsOf r (Sl.v ⟨some ⟨bb,ob,none⟩,bs.length,yc⟩)) 24):=⟨_,rfl⟩;have TA:Hid (Tch [] W wa):=by
  show Tch _ _ _
  rw[hwa];exact((Tch.refl [] _).alloc _).alloc _
 have b2:wa.heap[W.heap.size]?=some (.cells #[.pointer (some ⟨st,0,none⟩)] 57 (0,0)):=by
  rw[hwa,Below.heap_alloc _ _ _ (by simp)];exact heap_alloc_new _ _
 have b3:wa.heap[W.heap.size+1]?=some (.cells (cellsOf r (Sl.v ⟨some ⟨bb,ob,none⟩,bs.length,yc⟩)) 24 (0,0)):=by
  rw[hwa];have:=heap_alloc_new (W.alloc (.cells #[.pointer (some ⟨st,0,none⟩)] 57)) (.cells (cellsOf r (Sl.v ⟨some ⟨bb,ob,none⟩,bs.length,yc⟩)) 24);rw[World.size_alloc]at this;exact this
 have HWA:Hid (∀V,Tch [] wa V->(V.cell? ⟨W.heap.size,0,none⟩=some (.pointer (some ⟨st,0,none⟩))/\V.cell? ⟨W.heap.size+1,14,none⟩=some (.slice (some ⟨bb,ob,none⟩) bs.length yc))/\W.heap.size<V.heap.size/\W.heap.size+1<V.heap.size/\V.heap[W.heap.size]?=some (.cells #[.pointer (some ⟨st,0,none⟩)] 57 (0,0))):=fun V h=>by
  have k2:=(h.block _ (lt_of_block b2) (by simp)).trans b2;have k3:=(h.block _ (lt_of_block b3) (by simp)).trans b3;exact⟨⟨cell_of_one k2,cell_qC k3 14 _ rfl⟩,lt_of_block k2,lt_of_block k3,k2⟩
 have HW:=zH ht;have hwb:=hwa;rw[zM]at hwb;obtain⟨⟨p2,p3⟩,l2,l3,_⟩:=HWA.out wa (Tch.refl _ _);have HCW:=zH (HCP.out wa (ht.trans TA.out (by simp)));clear hcs hwa b2 b3 HCP;rw[zM];go_enter Tryz.func118,Tryz.ntmps118;go_wp2_with (rw[<-hwb]);refine HCW.out.mono ?_;rintro e w1 ⟨Z',col1,rfl,hcp⟩;have HC1:=zH hcp;clear p2 p3 l2 l3 hwb HCW;obtain⟨⟨p2,p3⟩,l2,l3,_⟩:=HWA.out w1 hcp.tch;have hmk:=HMK.out;clear hcp;have tw:Tch [] w1 ((w1.alloc (.cells #[.pointer (some ⟨wa.heap.size,0,none⟩)] 57)).alloc (.cells (strRow [] bs.length) 9)):=((Tch.refl [] _).alloc _).alloc _;have hz1:=HC1.out.tch.size;have H0:Hid (Bi B wa st wa.heap.size b now c bs W.heap.size w1.heap.size (w1.heap.size+1) 0 false ((w1.alloc (.cells #[.pointer (some ⟨wa.heap.size,0,none⟩)] 57)).alloc (.cells (strRow [] bs.length) 9)) (rec9 w1 ((w1.alloc (.cells #[.pointer (some ⟨wa.heap.size,0,none⟩)] 57)).alloc (.cells (strRow [] bs.length) 9)) col1)):=by
  have hBw:=hE.size;have hza:=(ht.trans TA.out (by simp)).size;obtain⟨i1,i2,i3⟩:=Cpy.inn hb hs hc hE.size HC1.out (ht.trans TA.out (by simp)) (Nat.le_refl _) tw;have tt:=HC1.out.tch.trans tw (by simp);refine⟨i1,fun _=>rfl,?_,i3 _ (by omega) (by simp),(HWA.out _ tt).2.2.2,?_,i2,⟨by omega,by omega⟩,tt,hE.tch ((ht.trans TA.out (by simp)).trans tt (by simp)) (by simp)⟩
  ·have:=heap_alloc_new (w1.alloc (.cells #[.pointer (some ⟨wa.heap.size,0,none⟩)] 57)) (.cells (strRow [] bs.length) 9);rw[World.size_alloc]at this;exact this
  ·rw[Below.heap_alloc _ _ _ (by simp)];exact heap_alloc_new _ _
 have HFIN:Hid (∀wr w' v' chg coli,Bi B wa st wa.heap.size b now c bs W.heap.size w1.heap.size (w1.heap.size+1) bs.length chg wr coli->Tch [] wr w'->OwnB w' wr.heap.size v' (ansB bs.length (doL now c bs).1)->Tch [] W w'/\Ans B ((doL now c bs).2=c) (fun w'=>x.JO w col w') (fun t w'=>t=okL (ansB bs.length (doL now c bs).1)/\Sd B x st b w col now (doL now c bs).2 w') (.returned (.tuple #[v',if chg=true then .func (.func 152) #[] #[.pointer (some ⟨w1.heap.size,0,none⟩),.pointer (some ⟨W.heap.size,0,none⟩)] else .nilFunc,.int .i64 0])) w'):=fun wr w' v' chg coli hB' t' ho=>by
  have tW:=(TA.out.trans hB'.tch (by simp)).trans t' (by simp);obtain⟨q1,q2⟩:=ansB_len bs.length (doL now c bs).1 (by rw[doL_len];exact hl) (doL_size now bs c);refine⟨tW,.inr ⟨v',_,_,rfl,.inr ⟨q1,by omega,Rdb.of_own ho q1⟩,fun w2 h2=>?_⟩⟩
  cases chg with
  | false=>
   have hu:=hB'.un rfl;rw[List.take_length]at hu;refine .inl ⟨rfl,hu,fun w3 h3=>⟨rfl,?_⟩⟩
   rw[hu];exact did_same hb hE.size (((ht.trans tW (by simp)).trans h2 (by simp)).trans h3 (by simp))
  | true=>
   refine .inr ⟨152,_,rfl,eg199,fun w3 w4 h3 hf hJ=>?_⟩
   have h9:=bi_did x col w w3 w4 o room Z hE hb hs hB' (ht.trans TA.out (by simp)) ((t'.trans h2 (by simp)).trans h3 (by simp)) hf hJ (((ht.trans tW (by simp)).trans h2 (by simp)).trans h3 (by simp));rw[List.take_length]at h9;exact h9.mono (fun e w5 h=>⟨h.1,rfl,h.2⟩)
 have HIN:Hid (∀wr coli k (hk:k<bs.length) chg,Bi B wa st wa.heap.size b now c bs W.heap.size w1.heap.size (w1.heap.size+1) k chg wr coli->Calls Tryz.prog 151 #[.pointer (some ⟨wa.heap.size,0,none⟩),.string bs[k]] wr fun e w'=>Tch [] wr w'/\PlG B ((doI now (doL now c (bs.take k)).2 bs[k]).2=(doL now c (bs.take k)).2) (fun w'=>(Gh.tt B).JO wr coli w') (fun t w'=>t=(doI now (doL now c (bs.take k)).2 bs[k]).1/\Sd B (Gh.tt B) wa.heap.size b wr coli now (doI now (doL now c (bs.take k)).2 bs[k]).2 w') e w'):=fun wr coli k hk chg h=>inner_any B bs[k] wa.heap.size b now _ coli wr h.env h.bk (hsz _ (List.getElem_mem hk))
 have hfn:=func_nn;have hnn:=nil_nil1;clear hE hb hs hc ht hsz tw hz1;go_wp2_with fail
 go_loopw [9,24] (fun cv kv wr=>∃(k:Nat) (chg:Bool) (coli:Nat->Nat),k<=bs.length/\cv=.bool chg/\kv=.int .i64 (k:Int)/\Bi B wa st wa.heap.size b now c bs W.heap.size w1.heap.size (w1.heap.size+1) k chg wr coli) (fun _ kv _=>bs.length-(intOf kv).toNat)
 case atStart=>exact⟨0,false,_,Nat.zero_le _,rfl,rfl,H0.out⟩
 case round=>
  obtain⟨k,chg,coli,hk,rfl,rfl,hbi⟩:=hrel;have HBI:=zH hbi;clear p2 p3 l2 l3
  by_cases hlt:k<bs.length
  ·obtain⟨s0,s1⟩:=HST.out wr (TA.out.trans hbi.tch (by simp)) k hlt;have c7:=cell_of_one hbi.b7;have l7:=lt_of_block hbi.b7;have hkI:(k:Int)<(bs.length:Int):=by omega
   have hk0:(0:Int)<=(k:Int):=Int.natCast_nonneg k;have HI:=zH (HIN.out wr coli k hlt chg hbi);clear hbi HIN H0 HFIN;generalize hsk:bs[k]=sk at*
   go_wp2_with fail;refine HI.out.mono ?_;rintro e w2 ⟨t2,hpl⟩;obtain⟨t,⟨he,hN,hk2⟩|⟨f,cap,he,eg,hk2⟩⟩:=hpl
   ·subst he;obtain⟨ht',hd⟩:=hk2 w2 (Tch.refl _ _);subst hsk;obtain⟨⟨ov,q1⟩,q2,q3⟩:=HBI.out.cell hlt hd;obtain⟨cn,hst⟩:=HBI.out.step hlt hd (chg':=chg) (fun e=>⟨e,hN⟩);rw[<-ht']at hst;have HS:=zH hst;clear hk2 hd hst ht' t2 HI s0 s1 c7 l7 hN;go_wp2_with fail;go_roundw
    case rel=>exact⟨k+1,chg,cn,by omega,rfl,by go_num,HS.out⟩
    case measure=>simp[intOf];omega
   ·subst he;have HK2:=zH (hk2 w2 w2 (Tch.refl _ _) (Fr.refl _ _ _) ⟨trivial,fun q hq h9=>t2.block q hq (by simp)⟩);clear hk2 t2 HI s0 s1 c7 l7;subst hsk;go_wp2_with (go_at_fn f;refine HK2.out.mono ?_;rintro e w3 ⟨rfl,ht',hd⟩;obtain⟨⟨ov,q1⟩,q2,q3⟩:=HBI.out.cell hlt hd;obtain⟨cn,hst⟩:=HBI.out.step hlt hd (chg':=true) (fun e=>by cases e);rw[<-ht']at hst;have HS:=zH hst;clear hd hst ht' HK2);go_roundw
    case rel=>exact⟨k+1,true,cn,by omega,rfl,by go_num,HS.out⟩
    case measure=>simp[intOf];omega
  ·have hke:k=bs.length:=by omega
   subst hke;have HT:=zH (HBI.out.texts hl);clear hbi HIN H0;go_wp2_with fail;refine HT.out.mono ?_;rintro e w2 ⟨v',rfl,ho,t2⟩;have HF:=zH (HFIN.out wr w2 v' chg coli HBI.out t2 ho);clear ho t2 HT HFIN
   cases chg with
   | false=>
    go_wp2_with fail;go_ret3;exact HF.out
   | true=>
    go_wp2_with fail;go_ret3;exact HF.out
def doStr (now:Int)(c:Nat->Option QM)(s:ByteArray):ByteArray×Int×(Nat->Option QM):=if parseGood s=true then (if (endSt s).r.op.toNat=66 then (okL (ansB (endSt s).bs.length (doL now c (endSt s).bs).1),now,(doL now c (endSt s).bs).2) else doQ now c (endSt s).r) else (⟨#[1]⟩,now,c)
theorem do_bad (B x st j:Nat)(s:ByteArray)(w:World)(hs:s.size<=maxLen)(hL:Lays B w)(hBw:B<=w.heap.size)(hg:parseGood s=false)(hx:w.heap[x]?=some (.cells #[.pointer (some ⟨st,0,none⟩),.pointer (some ⟨j,0,none⟩)] 60 (0,0)))(hj:w.cell? ⟨j,2,none⟩=some (.bool false)):
  zT 11 #[.pointer (some ⟨x,0,none⟩),.string s] w (.string ⟨#[1]⟩):=by
 have a1:w.cell? ⟨x,1,none⟩=some (.pointer (some ⟨j,0,none⟩)):=(cell_of_row w x 1 _ 60 (0,0) hx).trans rfl;have HP:Hid (zT 28 #[.string s] w (.tuple #[.agg #[.int .u8 0,.int .u8 0,.int .u8 0,.int .i64 0,.int .i64 0,.int .i64 0,.int .i64 0,.int .i64 0,.int .i64 0,.string ⟨#[]⟩,.string ⟨#[]⟩,.string ⟨#[]⟩,.string ⟨#[]⟩,.string ⟨#[]⟩,.slice none 0 0],.int .i64 1])):=by
  refine(parse_any B s w hs hL hBw).mono ?_;rintro e w' ⟨h|h,hb⟩
  ·rw[hg]at h;exact absurd h.1 (by decide)
  ·exact⟨h.2,Tch.of_below hb⟩
 have HR:Hid (∀W,zT 29 #[.int .i64 1] W (.string ⟨#[1]⟩)):=fun W=>refusal_any 1 W
 clear hL hs hg hx;go_enter Tryz.func11,Tryz.ntmps11;go_wp2_with (go_at_call 27;go_in);refine HP.out.mono ?_;rintro e w1 ⟨rfl,t1⟩;have T1:=zH t1;clear t1 HP;go_wp2_with fail;refine(HR.out _).mono ?_;rintro e w2 ⟨rfl,t2⟩;have T2:Hid (Tch [] w w2):=((T1.out.alloc _).trans t2 (by simp));clear t2 HR;go_wp2_with fail;go_ret;exact⟨rfl,T2.out⟩
def wholeC (now:Int)(c:Nat->Option QM):List UInt8:=lowB now.toNat 4++((List.range 8).filterMap c).flatMap (fun Q=>Q.c.q::allB Q)
theorem wholeB_c (now:Int)(Z:Nat->Option BQ):wholeB now Z=wholeC now (ctZ Z):=by
 unfold wholeB wholeC bqL ctZ;rw[show (List.range 8).filterMap (fun i=>(Z i).map BQ.Q)=((List.range 8).filterMap Z).map BQ.Q from (List.map_filterMap ..).symm,List.flatMap_map]
 rfl
def runS (p:Int×(Nat->Option QM))(ss:List ByteArray):Int×(Nat->Option QM):=ss.foldl (fun p s=>(doStr p.1 p.2 s).2) p
def Rep (o:Option ByteArray)(room:Int)(now:Int)(c:Nat->Option QM):Prop:=
 (o=none/\room<=0/\now=0/\c=fun _=>none)\/∃n0 c0 ss,o=some ⟨(recB ⟨(wholeC n0 c0).toArray⟩++ss.flatMap recB).toArray⟩/\WFc c0/\(0<=n0/\n0<=60000)/\(∀s∈ss,parseGood s=true)/\runS (n0,c0) ss=(now,c)
theorem ba_app (a b:List UInt8):(⟨a.toArray⟩:ByteArray)++(⟨b.toArray⟩:ByteArray)=⟨(a++b).toArray⟩:=by
 apply ByteArray.ext;rw[ByteArray.data_append];simp
theorem rep_lay {o:Option ByteArray}{room:Int}(h:Rep o room now c)(s:ByteArray)(hg:parseGood s=true)(hw:WFc c)(hn:0<=now/\now<=60000):
  Rep (some (layO o room (recB s) ⟨(wholeC now c).toArray⟩).1) (layO o room (recB s) ⟨(wholeC now c).toArray⟩).2 (doStr now c s).2.1 (doStr now c s).2.2:=by
 by_cases hc:((recB s).length:Int)<=room
 ·have e:layO o room (recB s) ⟨(wholeC now c).toArray⟩=(datO o++(⟨(recB s).toArray⟩:ByteArray),(room-(recB s).length:Int)):=if_pos hc;rw[e];rcases h with ⟨_,h2,_,_⟩|⟨n0,c0,ss,rfl,h1,h2,h3,h4⟩
  ·rw[recB_length]at hc;omega
  ·refine .inr ⟨n0,c0,ss++[s],?_,h1,h2,fun x hx=>?_,?_⟩
   ·show some ((⟨_⟩:ByteArray)++_)=_
    rw[ba_app];simp
   ·rcases List.mem_append.1 hx with hx|hx
    ·exact h3 x hx
    ·rw[List.mem_singleton.1 hx];exact hg
   ·unfold runS at h4 ⊢;rw[List.foldl_append,h4];rfl
 ·have e:layO o room (recB s) ⟨(wholeC now c).toArray⟩=((⟨(recB ⟨(wholeC now c).toArray⟩).toArray⟩:ByteArray)++(⟨(recB s).toArray⟩:ByteArray),(16384-(recB s).length:Int)):=if_neg hc;rw[e];refine .inr ⟨now,c,[s],?_,hw,hn,fun x hx=>?_,rfl⟩
  ·show some ((⟨_⟩:ByteArray)++_)=_
   rw[ba_app];simp
  ·rw[List.mem_singleton.1 hx];exact hg
structure Bk (B:Nat)(w:World)(x st b:Nat)(now:Int)(c:Nat->Option QM)(col:Nat->Nat):Prop where
 sg:∃Z,SG B w st b now Z col/\ctZ Z=c
 wf:WFc c
 nw:0<=now/\now<=60000
 jg:∃o room,Jg B w x st o room col/\Rep o room now c
 fut:∀k:Nat,w.heap.size<=k->col k≠9
theorem Bk.tch {w':World}{x:Nat}(h:Bk B w x st b now c col)(ht:Tch [] w w'):Bk B w' x st b now c col:=by
 obtain⟨⟨Z,h1,h2⟩,h3,h4,⟨o,room,h5,hR⟩,h6⟩:=h;exact⟨⟨Z,h1.tch ht,h2⟩,h3,h4,⟨o,room,h5.tch ht,hR⟩,fun k hk=>h6 k (Nat.le_trans ht.size hk)⟩
def Did (B x st b:Nat)(w:World)(col:Nat->Nat)(now:Int)(c:Nat->Option QM)(w':World):Prop:=∃col',Bk B w' x st b now c col'/\Agr w col col'/\FqT TA B col w w'
theorem do_s {N:Prop}(K:ByteArray->World->Prop)(B:Nat)(s:ByteArray)(x st b:Nat)(now:Int)(c:Nat->Option QM)(col:Nat->Nat)(w:World)(hE:Env B w)(Z:Nat->Option BQ)(o:Option ByteArray)(room:Int)(hs:SG B w st b now Z col)(hc:ctZ Z=c)(hwf:WFc c)(hnw:0<=now/\now<=60000)(hJ:Jg B w x st o room col)(hfu:∀k:Nat,w.heap.size<=k->col k≠9)(hg:parseGood s=true)
  (hP:∀(W:World) (y:Sl),Tch [] w W->YS w W y (endSt s).bs->Calls Tryz.prog 30 #[.pointer (some ⟨st,0,none⟩),.agg (cellsOf (endSt s).r y.v)] W fun e w'=>Tch [] W w'/\PlG B N (fun w'=>JgO B w col w' x st (some (layO o room (recB s) ⟨(wholeC now c).toArray⟩).1) (layO o room (recB s) ⟨(wholeC now c).toArray⟩).2) K e w'):
  Calls Tryz.prog 11 #[.pointer (some ⟨x,0,none⟩),.string s] w fun e w'=>∃t,e=.returned (.string t)/\K t w':=by
 have hOk:∀i x,i<8->Z i=some x->QOk x.Q:=fun i x hi hx=>(hwf i x.Q hi (by rw[<-hc];exact ctZ_some hx)).ok
 rw[<-hc,<-wholeB_c]at hP;exact bdo_g (N:=N) K B o room ⟨(wholeB now Z).toArray⟩ s (endSt s).r x st _ col w hfu (good_size s hg) hE.lays hE.tab hE.size hE.three hg rfl hJ (by rw[rec_sz];have:=wholeB_len (now:=now) hOk;omega) hs.stb (fun W1 hf1=>whole_any B st b now Z col W1 (hs.fr hf1 (by decide) (by decide) (by decide)) ⟨hnw.1,by have:=hnw.2;omega⟩ hOk) _ rfl hP
theorem batch_bs (s:ByteArray)(hg:parseGood s=true)(hop:(endSt s).r.op.toNat=66):(1<=(endSt s).bs.length/\(endSt s).bs.length<=10)/\∀x∈(endSt s).bs,x.size<=maxLen:=by
 obtain⟨_,_,h3⟩:=good_bytes s hg;obtain⟨i,hi,ho,hf,_,_⟩:=(right_iff _ _ _ (end_wf s)).1 h3;obtain rfl:i=1:=by omega
 have h14:=List.all_eq_true.1 hf 14 (by decide);have hb:(1:Int)<=((endSt s).bs.length:Int)/\((endSt s).bs.length:Int)<=10:=fits_inv h14 (by decide);refine⟨by omega,fun x hx=>?_⟩
 unfold Wp.Rq.fits at h14;rw[if_neg (fun e=>absurd e.1 (by decide)),if_neg (by show ¬((endSt s).bs.length:Int)<(1:Int);omega),if_neg (by show ¬(10:Int)<((endSt s).bs.length:Int);omega)]at h14;have h15:Wp.short (endSt s).bs=true:=h14;have:=of_decide_eq_true (List.all_eq_true.1 h15 x hx);unfold maxLen;omega
theorem YS.at {y:Sl}(h:YS w W y bs)(h1:1<=bs.length):∃bb ob yc,y=⟨some ⟨bb,ob,none⟩,bs.length,yc⟩/\w.heap.size<=bb/\bb<W.heap.size/\∀j (hj:j<bs.length),W.cell? ⟨bb,ob+j,none⟩=some (.string bs[j]):=by
 obtain⟨ya,yn,yc⟩:=y;obtain⟨hn,hf⟩:=h;simp only at hn hf;subst hn;obtain⟨bb,ob,rfl,hb,hc⟩:=hf 0 h1;refine⟨bb,ob,yc,rfl,hb,World.block_lt_of_cell? _ _ hc,fun j hj=>?_⟩
 obtain⟨b2,o2,e,_,hc2⟩:=hf j hj;simp only[Option.some.injEq,Addr.mk.injEq,and_true]at e;obtain⟨rfl,rfl⟩:=e;exact hc2
theorem do_any (B:Nat)(s:ByteArray)(x st b:Nat)(now:Int)(c:Nat->Option QM)(col:Nat->Nat)(w:World)(hE:Env B w)(hb:Bk B w x st b now c col)(hs:s.size<=maxLen):
  Calls Tryz.prog 11 #[.pointer (some ⟨x,0,none⟩),.string s] w fun e w'=>e=.returned (.string (doStr now c s).1)/\Did B x st b w col (doStr now c s).2.1 (doStr now c s).2.2 w':=by
 obtain⟨⟨Z,hsg,hc⟩,hwf,hnw,⟨o,room,hJ,hR⟩,hfu⟩:=id hb
 cases hg:parseGood s with
 | false=>
  have e:doStr now c s=(⟨#[1]⟩,now,c):=by unfold doStr;rw[hg];rfl
  rw[e];obtain⟨j,d,v,n,k,hJ⟩:=hJ;refine(do_bad B x st j s w hs hE.lays hE.size hg hJ.hx hJ.jr.c2).mono ?_;rintro e w' ⟨rfl,ht⟩;exact⟨rfl,col,hb.tch ht,Agr.refl _ _,FqT.of_nil col ht hE.size⟩
 | true=>
  have hRn:=rep_lay hR s hg hwf hnw;obtain⟨X,hX⟩:∃X:Gh B,X=Gh.of B x st o (some (layO o room (recB s) ⟨(wholeC now c).toArray⟩).1) room (layO o room (recB s) ⟨(wholeC now c).toArray⟩).2 now c:=⟨_,rfl⟩;have hSk:Sk B w X st b now c col:=by
   rw[hX];exact⟨⟨Z,hsg,hc⟩,hwf,hnw,.inr ⟨hJ,rfl,rfl⟩,hfu⟩
  have hJO:∀w',JgO B w col w' x st (some (layO o room (recB s) ⟨(wholeC now c).toArray⟩).1) (layO o room (recB s) ⟨(wholeC now c).toArray⟩).2->X.JO w col w':=fun w' h=>by
   rw[hX];exact h
  have hend:∀t n c',doStr now c s=(t,n,c')->(Calls Tryz.prog 11 #[.pointer (some ⟨x,0,none⟩),.string s] w fun e w'=>∃t',e=.returned (.string t')/\t'=t/\Sd B X st b w col n c' w')->Calls Tryz.prog 11 #[.pointer (some ⟨x,0,none⟩),.string s] w fun e w'=>e=.returned (.string (doStr now c s).1)/\Did B x st b w col (doStr now c s).2.1 (doStr now c s).2.2 w':=fun t n c' e h=>by
   rw[e]at hRn ⊢;refine h.mono ?_;rintro e w' ⟨t,rfl,rfl,col',hd,ha,hf⟩;refine⟨rfl,col',⟨hd.sg,hd.wf,hd.nw,?_,hd.fut⟩,ha,hf⟩;have hj:=hd.jg;rw[hX]at hj;rcases hj with hj|⟨hj,rfl,rfl⟩
   ·exact⟨_,_,hj,hRn⟩
   ·exact⟨_,_,hj,hR⟩
  by_cases hop:(endSt s).r.op.toNat=66
  ·obtain⟨⟨l1,l2⟩,l3⟩:=batch_bs s hg hop;refine hend _ _ _ (by unfold doStr;rw[if_pos hg,if_pos hop]) (do_s (N:=(doL now c (endSt s).bs).2=c) _ B s x st b now c col w hE Z o room hsg hc hwf hnw hJ hfu hg (fun W y ht hy=>?_));refine(plan_p B _ _ (endSt s).r y st b 1 118 now _ W hop (by decide) (hsg.tch ht).stb rfl eg158b (fun W1 ht1=>?_)).mono (fun e w' he=>⟨he.1,he.2.mono hJO⟩);obtain⟨bb,ob,yc,rfl,_,h5,h6⟩:=(hy.tch ht1).at l1;exact batch_any B (endSt s).r X st b bb ob yc now c col (endSt s).bs w hE hSk Z o room hsg hc W1 (ht.trans ht1 (by simp)) l2 l3 h5 h6
  ·have hrq:=rq_ok (end_wf s) (good_right s hg hop).1;exact hend _ _ _ (by unfold doStr;rw[if_pos hg,if_neg hop]) (do_s _ B s x st b now c col w hE Z o room hsg hc hwf hnw hJ hfu hg (fun W y ht _=>(op_any B (endSt s).r X st b now c col w hE hSk hrq hop Z o room hsg hc W y ht).mono (fun e w' he=>⟨he.1,he.2.mono hJO⟩)))
end Go.Proofs.YtbdobaapadlcjabGreatDoor
