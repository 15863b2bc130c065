import Derived.Test.YtbdobaapadlcjabGreatDoorHy34
set_option maxRecDepth 8000
set_option maxHeartbeats 8000000
set_option linter.unusedVariables false
set_option linter.unusedSimpArgs false
namespace Go.Proofs.YtbdobaapadlcjabGreatDoor
open Go.RowKit
variable {B d x:Nat}{w w0:World}{v:Value}{fs:List Dk.DF}{L n:Int}{c:Nat->Option QM}{s0:ByteArray}
def bhP (B x d:Nat)(n:Int)(c:Nat->Option QM):Pty:=fun w col=>∃st b,Bh B w x st b n c col/\col 0=d+10
theorem JL.oth {w':World}{S:List Nat}{j:Nat}{dn:Bool}{room:Int}{s:Bool}{col:Nat->Nat}(h:JL w j d dn room v fs L s)(ht:Tch S w w')(hcl:∀k,B<=k->k<w.heap.size->col k≠9->k∉S)(hj:∀b∈jbl j d v,B<=b/\col b≠9):JL w' j d dn room v fs L s:=
 h.tch ht (fun b hb=>hcl b (hj b hb).1 (h.lt b hb) (hj b hb).2)
theorem bhP_stb (B x d:Nat)(n:Int)(c:Nat->Option QM):Stb9 B (bhP B x d n c):=fun w w' col cl ⟨st,b,h,h0c⟩ hB h0 hf hd=>by
 obtain⟨S,ht,hS⟩:=hf.chg;obtain⟨⟨Z,hs,hc⟩,hw,hn,⟨F,room,⟨j,d',v,L,hJ⟩,hR⟩,hfu⟩:=h;have hcl:∀k,B<=k->k<w.heap.size->col k≠9->k∉S:=fun k hB hk h9 hm=>(hS k hm).2 (hf.out k hk (hd k hB hk h9))
 have hty:∀(k:Nat) (C:Array Value) (t:TypeId),w.heap[k]?=some (.cells C t (0,0))->t∉TA->w'.heap[k]?=some (.cells C t (0,0)):=fun k C t hk ht=>hf.keep k C t hk ht
 have hsz:=hf.size;refine⟨st,b,⟨⟨Z,⟨?_,?_,?_,?_,hs.lo,hs.ls,?_⟩,hc⟩,hw,hn,⟨F,room,⟨j,d',v,L,hty _ _ _ hJ.hx (by decide),hJ.jr.oth ht hcl (fun b hb=>⟨hJ.lo b hb,hJ.cj b hb⟩),hJ.lo,hJ.bd,fun b hb=>?_,(rec9_old h0).trans hJ.dc⟩,hR⟩,fun k hk=>?_⟩,(rec9_old h0).trans h0c⟩
 ·exact(ht.block st hs.stb.lt (hcl st hs.ls hs.stb.lt hs.cs)).trans hs.stb
 ·exact fun q f hq=>hty _ _ _ (hs.tb q f hq) (by decide)
 ·exact fun i x hi hx=>(hs.qr i x hi hx).tch ht (fun k hk=>hcl k (hs.lo i x hi hx k hk) ((hs.qr i x hi hx).lt k hk) (by rw[hs.cl i x hi hx k hk];omega))
 ·exact fun i x hi hx k hk=>(rec9_old ((hs.qr i x hi hx).lt k hk)).trans (hs.cl i x hi hx k hk)
 ·rw[rec9_old hs.stb.lt];exact hs.cs
 ·rw[rec9_old (hJ.jr.lt b hb)];exact hJ.cj b hb
 ·show (if _ then _ else _)≠9
  rw[if_neg (by omega)];exact hfu k (by omega)
def bdP (B x d:Nat)(n:Int)(c:Nat->Option QM)(s:ByteArray):Pty:=fun w col=>Bd B w x d n c s col
theorem bdP_stb (B x d:Nat)(n:Int)(c:Nat->Option QM)(s:ByteArray):Stb9 B (bdP B x d n c s):=fun w w' col cl ⟨⟨st,j,v,room,fs,hx,hJ,hH,hl⟩,h0c⟩ hB h0 hf hd=>by
 obtain⟨S,ht,hS⟩:=hf.chg;have hcl:∀k,B<=k->k<w.heap.size->col k≠9->k∉S:=fun k hB hk h9 hm=>(hS k hm).2 (hf.out k hk (hd k hB hk h9))
 refine⟨⟨st,j,v,room,fs,hf.keep _ _ _ hx (by decide),hJ.oth ht hcl hl,hH,fun b hb=>⟨(hl b hb).1,?_⟩⟩,(rec9_old h0).trans h0c⟩
 rw[rec9_old (hJ.lt b hb)];exact(hl b hb).2
theorem Gp.stop {l:List Pty}(h:Gp B w0 l w)(i:Nat){x d:Nat}{n:Int}{c:Nat->Option QM}(hi:l[i]?=some (bkP B x d n c))(hc0:∃Q,c 0=some Q)(L:Int)(hL:0<=L/\L<200):
  Calls Tryz.prog 16 #[.pointer (some ⟨d,0,none⟩),.int .i64 L] w fun e w'=>e=.returned (.tuple #[])/\Gp B w0 (l.set i (bhP B x d n c)) w':=by
 obtain⟨ps,h,hl⟩:=h;obtain⟨ow,cs,h⟩:=h;have hb:=(h.all i).1;rw[hl i _ hi]at hb;obtain⟨st,b,⟨⟨Z,hs,hc⟩,hw,hn,⟨o,room,⟨j,d',v,nn,kk,hJ⟩,hR⟩,hfu⟩,h0c⟩:=hb;obtain rfl:d'=d:=by
  have:=hJ.dc;omega
 obtain⟨F,rfl⟩:∃F,o=some F:=by
  rcases hR with ⟨_,_,_,rfl⟩|⟨n0,c0,ss,rfl,_⟩
  ·obtain⟨Q,hQ⟩:=hc0
   cases hQ
  ·exact⟨_,rfl⟩
 have hdl:=lt_of_block hJ.jr.dsk.blk;have hdm:d'∈jbl j d' v:=by simp[jbl,Dk.bl]
 refine(Dk.stop_d d' v (-1) false L w hJ.jr.dsk.blk).mono ?_;rintro e w' ⟨rfl,hD,ht,hz⟩;have hLL:Dk.stopL (-1) false L=L:=by
  unfold Dk.stopL;rw[if_neg (by decide),if_neg (by omega)]
 rw[hLL]at hD;have hfr:Fr B [77] w w':=Fr.of_tch ht h.env.size (fun k hk=>by
  simp at hk;subst hk;exact hJ.lo k hdm) (fun k hk C t hC=>by
  simp at hk;subst hk;have h1:w.heap[k]?=_:=hJ.jr.dsk.blk;rw[h1]at hC;simp at hC;simp[<-hC.2])
 refine⟨rfl,_,h.act i _ (bhP_stb B x d' n c) (col':=cs i) ⟨st,b,⟨⟨Z,hs.fr hfr (by decide) (by decide) (by decide),hc⟩,hw,hn,⟨F,room,⟨j,d',v,L,hfr.keep _ _ _ hJ.hx (by decide),⟨hfr.keep _ _ _ hJ.jr.hj (by decide),⟨hD,hJ.jr.dsk.own.tch ht (fun k hk hm=>?_),hJ.jr.dsk.sep⟩,by omega,fileO_gd (by have:=hJ.bd;show F.size<=_;have e:(datO (some F)).size=F.size:=rfl;omega)⟩,hJ.lo,hJ.bd,hJ.cj,hJ.dc⟩,hR⟩,fun k hk=>hfu k (by omega)⟩,h0c⟩ (fun k _ h9 _=>h9) (FqT.of_fr (T:=[77]) hfr (by decide) (fun k hk h9=>ht.block k hk (fun hm=>?_))),up_list hl i _⟩
 ·simp at hm;subst hm;exact hJ.jr.dsk.sep hk
 ·simp at hm;subst hm;exact hJ.cj k hdm h9
theorem Gp.askh {l:List Pty}(h:Gp B w0 l w)(i:Nat){x d:Nat}{n:Int}{c:Nat->Option QM}(hi:l[i]?=some (bhP B x d n c))(s:ByteArray)(hs:s.size<=maxLen):
  Calls Tryz.prog 11 #[.pointer (some ⟨x,0,none⟩),.string s] w fun e w'=>(e=.returned (.string (doStr n c s).1)/\Gp B w0 (l.set i (bhP B x d (doStr n c s).2.1 (doStr n c s).2.2)) w')\/(e=.returned (.string ⟨#[]⟩)/\parseGood s=true/\Gp B w0 (l.set i (bdP B x d n c s)) w'):=by
 obtain⟨ps,h,hl⟩:=h;obtain⟨ow,cs,h⟩:=h;have hb:=(h.all i).1;rw[hl i _ hi]at hb;obtain⟨st,b,h1,h2⟩:=hb;refine(do_h B s x d st b n c (cs i) w h.env h1 h2 hs).mono ?_;rintro e w' (⟨rfl,col',hb',hag,hf⟩|⟨rfl,hg,hb',hf⟩)
 ·exact .inl ⟨rfl,_,h.act i _ (bhP_stb B x d _ _) ⟨st,b,hb',(hag.1 0 h.env.pos).trans h2⟩ (fun k hk h9 _=>by rw[<-hag.1 k hk];exact h9) hf,up_list hl i _⟩
 ·exact .inr ⟨rfl,hg,_,h.act i _ (bdP_stb B x d n c s) hb' (fun k _ h9 _=>h9) hf,up_list hl i _⟩
theorem do_down (x st j:Nat)(dv:Value)(room:Int)(s:ByteArray)(w:World)(hx:w.heap[x]?=some (.cells #[.pointer (some ⟨st,0,none⟩),.pointer (some ⟨j,0,none⟩)] 60 (0,0)))(hj:w.heap[j]?=some (.cells #[dv,.int .i64 room,.bool true] 85 (0,0))):
  zE 11 #[.pointer (some ⟨x,0,none⟩),.string s] w (.string ⟨#[]⟩):=by
 have a1:w.cell? ⟨x,1,none⟩=some (.pointer (some ⟨j,0,none⟩)):=(cell_of_row w x 1 _ 60 (0,0) hx).trans rfl;have aj:w.cell? ⟨j,2,none⟩=some (.bool true):=(cell_of_row w j 2 _ 85 (0,0) hj).trans rfl;clear hx hj;go_enter Tryz.func11,Tryz.ntmps11;go_wp2_with (go_at_call 27;go_in);go_ret;exact⟨rfl,rfl⟩
theorem Gp.askd {l:List Pty}(h:Gp B w0 l w)(i:Nat){x d:Nat}{n:Int}{c:Nat->Option QM}{s0:ByteArray}(hi:l[i]?=some (bdP B x d n c s0))(s:ByteArray):
  zE 11 #[.pointer (some ⟨x,0,none⟩),.string s] w (.string ⟨#[]⟩):=by
 obtain⟨col,⟨st,j,v,room,fs,hx,hJ,hH,hl⟩,_⟩:=h.get i hi;exact do_down x st j _ room s w hx hJ.hj
theorem Gp.stopd {l:List Pty}(h:Gp B w0 l w)(i:Nat){x d:Nat}{n:Int}{c:Nat->Option QM}{s0:ByteArray}(hi:l[i]?=some (bdP B x d n c s0)):
  zE 17 #[.pointer (some ⟨d,0,none⟩)] w (.bool true):=by
 obtain⟨col,⟨st,j,v,room,fs,hx,hJ,hH,hl⟩,_⟩:=h.get i hi;exact Dk.stopped_d d v 0 true w hJ.dsk.blk
theorem gp_cr {l:List Pty}(h:Gp B w0 l w)(j:Nat){d:Nat}{v:Value}{fs:List Dk.DF}{L:Int}{s:Bool}(hD:Dk.Dsk w 77 79 d v ⟨fs,L,s⟩)(hG:GdL fs)(keep:Int)(hk1:-9223372036854775808<=keep)(hk2:keep<=9223372036854775807):
  Calls Tryz.prog 15 #[.pointer (some ⟨d,0,none⟩),.int .i64 keep] w fun e w'=>∃d',e=.returned (.pointer (some ⟨d',0,none⟩))/\∀n c,Cf n c (fs.map (Dk.crF keep))->Gp B w0 (l.set j (cfP B d' n c)) w':=by
 refine(Dk.crash_d d v L s fs keep w hD.blk hD.own (by have:=hG.1;omega) (fun f hf=>by have:=hG.2 f hf;omega) hk1 hk2).mono ?_;rintro e w' ⟨rfl,v',hD',ht,hn⟩;refine⟨_,rfl,fun n c hC=>?_⟩
 obtain⟨ps,h,hl⟩:=h;have hB:=h.env.size;refine⟨_,h.add j _ (cfP_stb B _ n c) ht ⟨fun k=>if k<w.heap.size then 9 else 0,⟨v',_,hD',hC,⟨hB,by simp⟩,fun k hk=>⟨Nat.le_trans hB (hn k hk),?_⟩⟩,fun k _ hk=>if_pos hk⟩,up_list hl j _⟩
 have:=hn k hk;simp only[if_neg (show ¬k<w.heap.size by omega)];decide
theorem Gp.crashh {l:List Pty}(h:Gp B w0 l w)(i j:Nat){x d:Nat}{n:Int}{c:Nat->Option QM}(hi:l[i]?=some (bhP B x d n c))(keep:Int)(hk1:-9223372036854775808<=keep)(hk2:keep<=9223372036854775807):
  Calls Tryz.prog 15 #[.pointer (some ⟨d,0,none⟩),.int .i64 keep] w fun e w'=>∃d',e=.returned (.pointer (some ⟨d',0,none⟩))/\Gp B w0 (l.set j (cfP B d' n c)) w':=by
 obtain⟨col,st,b,hb,h0c⟩:=h.get i hi;obtain⟨F,room,⟨jj,d',v,L,hJ⟩,hR⟩:=hb.jg;obtain rfl:d'=d:=by
  have:=hJ.dc;omega
 refine(gp_cr h j hJ.jr.dsk hJ.jr.gd keep hk1 hk2).mono ?_;rintro e w' ⟨d2,rfl,hG⟩;exact⟨d2,rfl,hG n c (rep_cf hR hJ.bd.2.1 keep)⟩
theorem Gp.crashd {l:List Pty}(h:Gp B w0 l w)(i j:Nat){x d:Nat}{n:Int}{c:Nat->Option QM}{s:ByteArray}(hi:l[i]?=some (bdP B x d n c s))(hg:parseGood s=true)(keep:Int)(hk1:-9223372036854775808<=keep)(hk2:keep<=9223372036854775807):
  Calls Tryz.prog 15 #[.pointer (some ⟨d,0,none⟩),.int .i64 keep] w fun e w'=>∃d' n' c',e=.returned (.pointer (some ⟨d',0,none⟩))/\Gp B w0 (l.set j (cfP B d' n' c')) w'/\((n'=n/\c'=c)\/(n'=(doStr n c s).2.1/\c'=(doStr n c s).2.2)):=by
 obtain⟨col,⟨st,jj,v,room,fs,hx,hJ,hH,hl⟩,_⟩:=h.get i hi;refine(gp_cr h j hJ.dsk hJ.gd keep hk1 hk2).mono ?_;rintro e w' ⟨d2,rfl,hG⟩;rcases ht_cf hH hg hJ.gd keep with hC|hC
 ·exact⟨d2,n,c,rfl,hG _ _ hC,.inl ⟨rfl,rfl⟩⟩
 ·exact⟨d2,_,_,rfl,hG _ _ hC,.inr ⟨rfl,rfl⟩⟩
def AlkO (l m:List ByteArray)(w:World)(e:Ending)(w':World):Prop:=∃b:Bool,e=.returned (.bool b)/\(l=m->b=true)/\Tch [] w w'
theorem alike_any (ga ca gb cb:Nat)(l m:List ByteArray)(w:World)(hlm:l.length=m.length)(hl:l.length<=1000000)(h1:∀j (hj:j<l.length),w.cell? ⟨ga,j,none⟩=some (.string l[j]))(h2:∀j (hj:j<m.length),w.cell? ⟨gb,j,none⟩=some (.string m[j])):
  Calls Tryz.prog 13 #[.slice (some ⟨ga,0,none⟩) l.length ca,.slice (some ⟨gb,0,none⟩) m.length cb] w (AlkO l m w):=by
 have HA:=zH h1;have HB:=zH h2;have HLM:=zH hlm;rw[<-hlm];clear h1 h2 hlm;go_enter Tryz.func13,Tryz.ntmps13;go_wp2_with fail
 go_loopw [5] (fun v wr=>∃k:Nat,k<=l.length/\v=.int .i64 (k:Int)/\Tch [] w wr) (fun v _=>l.length-(intOf v).toNat)
 case atStart=>exact⟨0,Nat.zero_le _,rfl,Tch.refl _ _⟩
 case round=>
  obtain⟨k,hk,rfl,ht⟩:=hrel;have HT:=zH ht
  by_cases hlt:k<l.length
  ·have hkI:(k:Int)<(l.length:Int):=by omega
   have hlt2:k<m.length:=by rw[<-HLM.out];exact hlt
   have a1:=(ht.cell (World.block_lt_of_cell? _ _ (HA.out k hlt)) (by simp)).trans (HA.out k hlt);have b1:=(ht.cell (World.block_lt_of_cell? _ _ (HB.out k hlt2)) (by simp)).trans (HB.out k hlt2);have HEQ:Hid (l=m->l[k]=m[k]):=fun e=>by subst e;rfl
   clear ht HA HB;have HTD:=zH HT.out.drew;generalize l[k]=s at*
   generalize m[k]=t at*
   go_upto_region 6 with fail
   cases hss:(s.toList == t.toList) with
   | true=>
    go_region_held3 (fun w'=>w'.cell? ⟨ga,k,none⟩=some (.string s)/\w'.cell? ⟨gb,k,none⟩=some (.string t)) (go_keep) (fail)
    go_wp2_with fail;go_roundw
    case rel=>exact⟨k+1,by omega,by go_num,HTD.out⟩
    case measure=>simp[intOf];omega
   | false=>
    go_region_held3 (fun w'=>w'.cell? ⟨ga,k,none⟩=some (.string s)/\w'.cell? ⟨gb,k,none⟩=some (.string t)) (go_keep) (fail)
    go_wp2_with fail;go_ret;refine⟨false,rfl,fun e=>?_,HTD.out⟩
    rw[HEQ.out e]at hss;simp at hss
  ·have hkI:¬((k:Int)<(l.length:Int)):=by omega
   clear ht;go_wp2_with fail;go_ret;exact⟨true,rfl,fun _=>rfl,HT.out⟩
theorem Gp.alik {l:List Pty}(h:Gp B w0 l w)(i j:Nat){u v:Value}{ls ms:List ByteArray}(hi:l[i]?=some (stP B u ls))(hj:l[j]?=some (stP B v ms))(hn:0<ls.length)(hm:ls.length<=1000000)(hlm:ls.length=ms.length):
  Calls Tryz.prog 13 #[u,v] w fun e w'=>∃b:Bool,e=.returned (.bool b)/\(ls=ms->b=true)/\Gp B w0 l w':=by
 obtain⟨c1,h1,_⟩:=h.get i hi;obtain⟨c2,h2,_⟩:=h.get j hj;obtain⟨a,ca,rfl,ha⟩:=h1.at
 obtain⟨b,cb,rfl,hb⟩:=h2.at
 obtain⟨g1,rfl,_⟩:=ha 0 hn;obtain⟨g2,rfl,_⟩:=hb 0 (by omega);refine(alike_any g1 ca g2 cb ls ms w hlm hm (fun k hk=>?_) (fun k hk=>?_)).mono ?_
 ·obtain⟨g,e,hc,_⟩:=ha k hk;injection e with e;injection e with e;subst e;exact hc
 ·obtain⟨g,e,hc,_⟩:=hb k hk;injection e with e;injection e with e;subst e;exact hc
 ·rintro e w' ⟨bb,rfl,hbb,ht⟩;exact⟨bb,rfl,hbb,h.tch ht⟩
theorem prepared_c (B:Nat)(r:Wp.Rq)(x:Sl)(w:World)(hw:Wf r)(hz:Keep.Szs r)(hE:Env B w):
  Calls Tryz.prog 7 #[.agg (cellsOf r x.v)] w fun e w'=>∃xb yb d c,e=.returned (.tuple #[.pointer (some ⟨xb,0,none⟩),.pointer (some ⟨yb,0,none⟩),.pointer (some ⟨d,0,none⟩)])/\(∃Q,c 0=some Q)/\PI B w d xb yb 0 c 0 c w':=by
 have HSH:Hid (∀W (z:Int),(z=0\/z=1)->Calls Tryz.prog 20 #[.agg (rawQ r x 0 z)] W fun e w'=>(∃rr,e=.returned (.agg (cellsOf rr nil0.v))/\Rok rr/\rr.op=67/\rr.q.toNat=97+z.toNat)/\Tch [] W w'):=fun W z hz2=>by
  rcases hz2 with rfl|rfl
  ·exact shaped_raw r x 0 W hw hz (by decide)
  ·exact shaped_raw r x 1 W hw hz (by decide)
 have hinf:=info24;have HE:=zH hE;have HBW:=zH hE.size;have hop:=r.op.toNat_lt;rw[show cellsOf r x.v=rawQ r x (r.op.toNat:Int) (r.q.toNat:Int) from rfl]
 generalize (r.op.toNat:Int)=O;generalize (r.q.toNat:Int)=Q0;clear hw hz hE;go_enter Tryz.func7,Tryz.ntmps7;go_wp2_with fail;refine(opened_any _).mono ?_;rintro e w1 ⟨x1,s1,b1,j1,d1,rfl,hb1,ho1,hd1⟩;have HO1:=zH (⟨hb1,ho1,hd1⟩:Below _ _ w1/\Opn _ w1 x1 s1 b1 j1 d1 (.slice none 0 0)/\d1=_);clear hb1 ho1 hd1;go_wp2_with fail;refine(opened_any _).mono ?_;rintro e w2 ⟨x2,s2,b2,j2,d2,rfl,hb2,ho2,hd2⟩;obtain⟨WA,HWA⟩:∃WA,Hid (WA=w.alloc (.cells (rawQ r x O Q0) 24)):=⟨_,rfl⟩;have HP2:Hid (PI B w d1 x1 x2 0 (fun _=>none) 0 (fun _=>none) w2/\w2.heap[w.heap.size]?=some (.cells (rawQ r x O Q0) 24 (0,0))):=by
  have ht:Tch [] w (w.alloc (.cells (rawQ r x O Q0) 24)):=(Tch.refl [] w).alloc _;have hp:=two_opn (HE.out.tch ht (by simp)) HO1.out.1 HO1.out.2.1 HO1.out.2.2 hb2 ho2 hd2;obtain⟨sx,bx,sy,b2,colx,coly,g1,g2,g3⟩:=hp;have hz1:=HO1.out.1.size;have e1:(w.alloc (.cells (rawQ r x O Q0) 24)).heap.size=w.heap.size+1:=by simp
  refine⟨⟨sx,bx,sy,b2,colx,coly,g1,g2,(ht.below (by simp) HBW.out).trans g3⟩,?_⟩;rw[hb2.block _ (by omega),HO1.out.1.block _ (by omega)];exact heap_alloc_new _ _
 clear HO1 hb2 ho2 hd2 HWA;obtain⟨hp2,hbl2⟩:=HP2.out;have c0:w2.cell? ⟨w.heap.size,0,none⟩=some (.int .u8 O):=cell_qC hbl2 0 _ rfl;have z0:w2.frozen? ⟨w.heap.size,0,none⟩=false:=frozen_of_row w2 _ _ _ 24 hbl2;have HP3:Hid (PI B w d1 x1 x2 0 (fun _=>none) 0 (fun _=>none) (w2.setCell ⟨w.heap.size,0,none⟩ (.int .u8 0))/\(w2.setCell ⟨w.heap.size,0,none⟩ (.int .u8 0)).heap[w.heap.size]?=some (.cells (rawQ r x 0 Q0) 24 (0,0))):=⟨hp2.box HBW.out hbl2 _,blk_set hbl2 _ rfl⟩;clear hp2 hbl2 HP2;go_wp2_with fail
 go_loopw [9] (fun iv wr=>∃(k:Nat) (c:Nat->Option QM) (z:Int),k<=2/\iv=.int .i64 (k:Int)/\(∀i,k<=i->c i=none)/\(0<k->∃Q,c 0=some Q)/\PI B w d1 x1 x2 0 c 0 c wr/\wr.heap[w.heap.size]?=some (.cells (rawQ r x 0 z) 24 (0,0))) (fun iv _=>2-(intOf iv).toNat)
 case atStart=>exact⟨0,fun _=>none,Q0,by omega,rfl,fun _ _=>rfl,fun h=>absurd h (by omega),HP3.out.1,HP3.out.2⟩
 case round=>
  obtain⟨k,c,z,hk,rfl,hno,hq0,hpi,hbl⟩:=hrel;have HQ0:=zH hq0;clear hq0;clear HP3 c0 z0;have HPI:=zH hpi;have HNO:=zH hno
  by_cases hlt:k<2
  ·have c1:wr.cell? ⟨w.heap.size,1,none⟩=some (.int .u8 z):=cell_qC hbl 1 _ rfl;have z1:wr.frozen? ⟨w.heap.size,1,none⟩=false:=frozen_of_row wr _ _ _ 24 hbl;have HBX:Hid (PI B w d1 x1 x2 0 c 0 c (wr.setCell ⟨w.heap.size,1,none⟩ (.int .u8 (k:Int)))/\(wr.setCell ⟨w.heap.size,1,none⟩ (.int .u8 (k:Int))).heap[w.heap.size]?=some (.cells (rawQ r x 0 (k:Int)) 24 (0,0))):=⟨hpi.box HBW.out hbl _,blk_set hbl _ rfl⟩;have hsz:(rawQ r x 0 (k:Int)).size=15:=rfl;have hlI:(k:Int)<2:=by omega
   have hmI:((k:Int) % 256)=(k:Int):=by omega
   have HS:=zH (HSH.out (wr.setCell ⟨w.heap.size,1,none⟩ (.int .u8 (k:Int))) (k:Int) (by omega));clear hpi hbl hno HSH;go_wp2_with (refine wpList_load_row rfl 24 _ rfl w.heap.size rfl 24 (rawQ r x 0 (k:Int)) (0,0) _ HBX.out.2 Tryz.underlying24 rfl (by rw[hsz];exact hinf) ?_);refine HS.out.mono ?_;rintro e w3 ⟨⟨rr,rfl,hrok,hrop,hrq⟩,t3⟩;have hrq':rr.q.toNat=97+k:=by simpa using hrq
   have HRR:=zH (⟨hrok,hrop,hrq'⟩:Rok rr/\rr.op=67/\rr.q.toNat=97+k);have HX:Hid (PI B w d1 x1 x2 0 c 0 c (laidIn w3 (cellsOf rr nil0.v))/\(laidIn w3 (cellsOf rr nil0.v)).heap[w.heap.size]?=some (.cells (rawQ r x 0 (k:Int)) 24 (0,0))):=by
    have t4:=t3.trans (laidIn_tch w3 (cellsOf rr nil0.v)) (fun _ h _=>h);exact⟨HBX.out.1.tch t4,(t4.block _ (lt_of_block HBX.out.2) (by simp)).trans HBX.out.2⟩
   clear hrok hrop hrq t3 HS HBX hrq' c1 z1 HPI;go_wp2_with (first|(refine wpList_store_row rfl 24 _ _ rfl w3.heap.size (cellsOf rr nil0.v) rfl rfl 24 _ (heap_alloc_new _ _) hinf rfl (cells_one _ _) ?_)|(refine wpList_load_row rfl 24 _ rfl w3.heap.size rfl 24 (cellsOf rr nil0.v) (0,0) _ (laidIn_heap _ _) Tryz.underlying24 rfl hinf ?_));refine(HX.out.1.crx rr k HRR.out.1 HRR.out.2.1 (by omega) HRR.out.2.2 (HNO.out k (Nat.le_refl _))).mono ?_;rintro e w4 ⟨rfl,hpi4,hk4⟩;have HX4:Hid (PI B w d1 x1 x2 0 (setC c k (some (newM rr))) 0 c w4/\w4.heap[w.heap.size]?=some (.cells (rawQ r x 0 (k:Int)) 24 (0,0))/\w4.heap[w3.heap.size]?=some (.cells (cellsOf rr nil0.v) 24 (0,0))):=⟨hpi4,hk4 _ _ _ HX.out.2 (by decide),hk4 _ _ _ (laidIn_heap _ _) (by decide)⟩;clear hpi4 hk4 HX;go_wp2_with (refine wpList_load_row rfl 24 _ rfl w3.heap.size rfl 24 (cellsOf rr nil0.v) (0,0) _ HX4.out.2.2 Tryz.underlying24 rfl hinf ?_);refine(HX4.out.1.cry rr k HRR.out.1 HRR.out.2.1 (by omega) HRR.out.2.2 (HNO.out k (Nat.le_refl _))).mono ?_;rintro e w5 ⟨rfl,hpi5,hk5⟩;have HX5:Hid (PI B w d1 x1 x2 0 (setC c k (some (newM rr))) 0 (setC c k (some (newM rr))) w5/\w5.heap[w.heap.size]?=some (.cells (rawQ r x 0 (k:Int)) 24 (0,0))/\(∀i,k+1<=i->setC c k (some (newM rr)) i=none)/\∃Q,setC c k (some (newM rr)) 0=some Q):=⟨hpi5,hk5 _ _ _ HX4.out.2.1 (by decide),fun i hi=>by
    unfold setC;rw[if_neg (by omega)];exact HNO.out i (by omega),by
    unfold setC
    by_cases h0:0=k
    ·exact⟨_,if_pos h0⟩
    ·rw[if_neg h0];exact HQ0.out (by omega)⟩
   clear hpi5 hk5 HX4 HRR HNO;go_wp2_with fail;go_roundw
   case rel=>exact⟨k+1,_,_,by omega,by go_num,HX5.out.2.2.1,fun _=>HX5.out.2.2.2,HX5.out.1,HX5.out.2.1⟩
   case measure=>simp[intOf];omega
  ·have hlI:¬((k:Int)<2):=by omega
   clear hpi hno hbl HSH;go_wp2_with fail;go_ret3;exact⟨x1,x2,d1,rfl,c,HQ0.out (by omega),HPI.out⟩
theorem doQ_ne (now:Int)(c:Nat->Option QM)(r:Wp.Rq):(doQ now c r).1.size≠0:=by
 have h1:∀b:UInt8,(⟨#[b]⟩:ByteArray).size≠0:=fun b=>by
  show (#[b]).size≠0
  simp
 have hok:∀l:List UInt8,(okL l).size≠0:=fun l=>by
  show (0::l).toArray.size≠0
  simp
 have hA:∀(f:Nat->QM->Nat->(Nat->Option QM)),(doA now c r f).1.size≠0:=fun f=>by
  unfold doA
  split
  ·exact h1 _
  ·split
   ·exact h1 _
   ·split
    ·exact hok _
    ·exact h1 _
 unfold doQ
 split
 ·split
  ·exact h1 _
  ·exact hok _
 ·split
  ·exact hA _
  ·split
   ·exact hA _
   ·split
    ·split
     ·exact hok _
     ·exact h1 _
    ·split
     ·exact h1 _
     ·split
      ·exact hok _
      ·split
       ·exact hok _
       ·split
        ·exact hok _
        ·split
         ·unfold doR
          split
          ·split<;>exact hok _
          ·exact hok _
         ·unfold doS
          split
          ·exact h1 _
          ·split
           ·exact hok _
           ·split
            ·exact h1 _
            ·split
             ·exact h1 _
             ·exact hok _
theorem doStr_ne (now:Int)(c:Nat->Option QM)(s:ByteArray):(doStr now c s).1.size≠0:=by
 unfold doStr
 split
 ·split
  ·show (0::_:List UInt8).toArray.size≠0
   simp
  ·exact doQ_ne now c _
 ·show (#[1]:Array UInt8).size≠0
  simp
theorem halted_walk (r:Wp.Rq)(x:Sl)(ga:Option Addr)(gc:Nat)(sc:List RqS)(steps keep:Int)(w:World)(hw:Wf r)(hz:Keep.Szs r)(hE:Env w.heap.size w)(hok:∀s∈sc,s.Ok w)(hln:sc.length<=2000000000000)(hga:ScR w.heap.size w ga sc)(ht1:-9223372036854775808<=steps)(ht2:steps<=9223372036854775807)(hk1:-9223372036854775808<=keep)(hk2:keep<=9223372036854775807):
  zB 5 #[.agg (cellsOf r x.v),.slice ga sc.length gc,.int .i64 steps,.int .i64 keep] w (.bool true):=by
 have HPR:Hid (∀W,Tch [] w W->Calls Tryz.prog 7 #[.agg (cellsOf r x.v)] W fun e w'=>∃xb yb d c d2,e=.returned (.tuple #[.pointer (some ⟨xb,0,none⟩),.pointer (some ⟨yb,0,none⟩),.pointer (some ⟨d,0,none⟩)])/\(∃Q,c 0=some Q)/\Gp w.heap.size w [bkP w.heap.size xb d 0 c,bkP w.heap.size yb d2 0 c,noP,noP,noP,noP,noP,noP] w'):=fun W ht=>by
  refine(prepared_c w.heap.size r x W hw hz (hE.tch ht (by simp))).mono ?_;rintro e w' ⟨xb,yb,d,c,he,hQ,sx,bx,sy,b2,colx,coly,g1,g2,g3⟩;obtain⟨d2,hg⟩:=PI.gp ⟨sx,bx,sy,b2,colx,coly,g1,g2,(ht.below (by simp) hE.size).trans g3⟩;exact⟨xb,yb,d,c,d2,he,hQ,hg⟩
 have HB1:Hid (∀(W:World),Below w.heap.size w W->Env w.heap.size W->Calls Tryz.prog 8 #[.slice ga sc.length gc] W fun e w'=>∃v ls,e=.returned v/\Dk.OwnS w' v ls/\ls.length=sc.length/\(∀s∈ls,parseGood s=true)/\(∀b,v.ownBlock=some b->W.heap.size<=b)/\Tch [] W w'):=fun W hb hE'=>by
  refine bytesOf_any w.heap.size ga gc sc W hE' (fun s hs=>(hok s hs).below hb) hln ?_;intro hp;obtain⟨g,o,h1,h2,h3⟩:=hga.below hb hp;exact⟨g,o,h1,Nat.lt_of_lt_of_le h2 hb.size,h3⟩
 have HPK:Hid (∀W,zE 9 #[.int .i64 steps,.int .i64 200] W (.int .i64 (pk steps 200))):=fun W=>pick_any steps 200 W ht1 ht2 (by decide) (by decide)
 have hp1:=pk_nonneg steps 200 (by decide);have hp2:=pk_lt steps 200 (by decide);generalize pk steps 200=T at*
 have HTA:Hid (∀o,Tch [] w (w.alloc o)):=fun o=>(Tch.refl [] w).alloc o
 clear hw hz hE hok hga;obtain⟨B,HBB⟩:∃B,Hid (w.heap.size=B):=⟨_,rfl⟩;rw[HBB.out]at HPR HB1;rw[zM]at HPR ⊢;go_enter Tryz.func5,Tryz.ntmps5;go_wp2_with fail;refine(HPR.out _ (HTA.out _)).mono ?_;rintro e w1 ⟨xb,yb,d,c,d2,rfl,hQ,hp1'⟩;have HP1:=zH hp1';have HQ:=zH hQ;clear hp1' HPR HTA hQ;generalize (Value.agg #[.int .u8 (r.op.toNat:Int),.int .u8 (r.q.toNat:Int),.int .u8 (r.d.toNat:Int),.int .i64 r.vis,.int .i64 r.win,.int .i64 r.rcv,.int .i64 r.quo,.int .i64 r.mx,.int .i64 r.tic,.string r.grp,.string r.ded,.string r.bod,.string r.att,.string r.han,.slice x.a x.n x.c])=A0;go_wp2_with fail;refine(HB1.out w1 HP1.out.bel HP1.out.env).mono ?_;rintro e w2 ⟨lv,ls,rfl,ho2,hl2,hg2,hn2,ht2'⟩;have HP2:Hid (Gp B w [bkP B xb d 0 c,bkP B yb d2 0 c,stP B lv ls,noP,noP,noP,noP,noP] w2):=HP1.out.str 2 ht2' ho2 hn2;obtain⟨la,lc,rfl,_⟩:=ho2.at
 have HG2:=zH hg2;have hI2:((ls.length:Nat):Int)=((sc.length:Nat):Int):=by rw[hl2]
 clear HB1 HP1 ho2 hn2 ht2' hg2;go_wp2_with fail;refine(HPK.out _).mono ?_;rintro e w3 ⟨rfl,h3⟩;subst h3;have HSP:Hid (Calls Tryz.prog 16 #[.pointer (some ⟨d,0,none⟩),.int .i64 T] w3 fun e w'=>e=.returned (.tuple #[])/\Gp B w [bhP B xb d 0 c,bkP B yb d2 0 c,stP B (.slice la ls.length lc) ls,noP,noP,noP,noP,noP] w'):=Gp.stop HP2.out 0 rfl HQ.out T ⟨hp1,hp2⟩;clear HPK HP2 HQ;go_wp2_with fail;refine HSP.out.mono ?_;rintro e w4 ⟨rfl,hg4⟩;have HG4:=zH hg4;clear hg4 HSP;have HAX:Hid (∀W (n:Int) (cc:Nat->Option QM) (k:Nat) (hk:k<ls.length),Gp B w [bhP B xb d n cc,bkP B yb d2 n cc,stP B (.slice la ls.length lc) ls,noP,noP,noP,noP,noP] W->Calls Tryz.prog 11 #[.pointer (some ⟨xb,0,none⟩),.string ls[k]] W fun e w'=>(∃t n' c',e=.returned (.string t)/\t.toList.isEmpty=false/\Gp B w [bhP B xb d n' c',bkP B yb d2 n cc,stP B (.slice la ls.length lc) ls,noP,noP,noP,noP,noP] w'/\∀W',Gp B w [bhP B xb d n' c',bkP B yb d2 n cc,stP B (.slice la ls.length lc) ls,noP,noP,noP,noP,noP] W'->Calls Tryz.prog 11 #[.pointer (some ⟨yb,0,none⟩),.string ls[k]] W' fun e w'=>e=.returned (.string t)/\Gp B w [bhP B xb d n' c',bkP B yb d2 n' c',stP B (.slice la ls.length lc) ls,noP,noP,noP,noP,noP] w')\/(e=.returned (.string ⟨#[]⟩)/\parseGood ls[k]=true/\Gp B w [bdP B xb d n cc ls[k],bkP B yb d2 n cc,stP B (.slice la ls.length lc) ls,noP,noP,noP,noP,noP] w')):=fun W n cc k hk h=>by
  have hsz:ls[k].size<=maxLen:=by
   have:=good_size _ (HG2.out _ (List.getElem_mem hk));unfold maxLen;omega
  refine(h.askh 0 rfl ls[k] hsz).mono ?_;rintro e w' (⟨rfl,h'⟩|⟨rfl,hg,h'⟩)
  ·exact .inl ⟨_,_,_,rfl,ne_nil _ (doStr_ne n cc _),h',fun W' hW=>hW.ask 1 rfl ls[k] hsz⟩
  ·exact .inr ⟨rfl,hg,h'⟩
 have HYA:Hid (∀W (n:Int) (cc:Nat->Option QM) (Q0 Q3 Q4 Q5 Q6 Q7:Pty) (k:Nat) (hk:k<ls.length),Gp B w [Q0,bkP B yb d2 n cc,stP B (.slice la ls.length lc) ls,Q3,Q4,Q5,Q6,Q7] W->Calls Tryz.prog 11 #[.pointer (some ⟨yb,0,none⟩),.string ls[k]] W fun e w'=>∃t,e=.returned (.string t)/\Gp B w [Q0,bkP B yb d2 (doStr n cc ls[k]).2.1 (doStr n cc ls[k]).2.2,stP B (.slice la ls.length lc) ls,Q3,Q4,Q5,Q6,Q7] w'):=fun W n cc Q0 Q3 Q4 Q5 Q6 Q7 k hk h=>by
  have hsz:ls[k].size<=maxLen:=by
   have:=good_size _ (HG2.out _ (List.getElem_mem hk));unfold maxLen;omega
  refine(h.ask 1 rfl ls[k] hsz).mono ?_;rintro e w' ⟨rfl,h'⟩;exact⟨_,rfl,h'⟩
 have HCE:Hid (∀W (P0 P1 Q3 Q4 Q5 Q6 Q7:Pty) (k:Nat) (hk:k<ls.length),Gp B w [P0,P1,stP B (.slice la ls.length lc) ls,Q3,Q4,Q5,Q6,Q7] W->∃g,la=some ⟨g,0,none⟩/\W.cell? ⟨g,k,none⟩=some (.string ls[k])):=fun W P0 P1 Q3 Q4 Q5 Q6 Q7 k hk h'=>by
  obtain⟨a',c',hv',hat⟩:=h'.at 2 rfl;injection hv' with e1 e2 e3;subst e1 e3;exact hat k hk
 clear HG2;go_wp2_with fail
 go_loopw [13,14] (fun cv iv wr=>∃(k:Nat) (n:Int) (cc:Nat->Option QM),k<=ls.length/\cv=.int .i64 (sc.length:Int)/\iv=.int .i64 (k:Int)/\Gp B w [bhP B xb d n cc,bkP B yb d2 n cc,stP B (.slice la ls.length lc) ls,noP,noP,noP,noP,noP] wr) (fun _ iv _=>ls.length-(intOf iv).toNat)
 case atStart=>exact⟨0,0,c,Nat.zero_le _,rfl,rfl,HG4.out⟩
 case round=>
  obtain⟨k,n,cc,hk,rfl,rfl,hgp⟩:=hrel;have HGP:=zH hgp;clear HG4
  by_cases hlt:k<ls.length
  ·have hlI:(k:Int)<(ls.length:Int):=by omega
   obtain⟨g,rfl,hc⟩:=HCE.out wr _ _ _ _ _ _ _ k hlt hgp;have HD:=zH (HAX.out wr n cc k hlt hgp);have HCL:Hid (∀W' P0 P1 Q3 Q4 Q5 Q6 Q7,Gp B w [P0,P1,stP B (.slice (some ⟨g,0,none⟩) ls.length lc) ls,Q3,Q4,Q5,Q6,Q7] W'->W'.cell? ⟨g,k,none⟩=some (.string ls[k])):=fun W' P0 P1 Q3 Q4 Q5 Q6 Q7 h'=>by
    obtain⟨g',e,hc⟩:=HCE.out W' _ _ _ _ _ _ _ k hlt h';injection e with e;injection e with e;subst e;exact hc
   have HYK:=zH (fun W n cc Q0 Q3 Q4 Q5 Q6 Q7=>HYA.out W n cc Q0 Q3 Q4 Q5 Q6 Q7 k hlt);generalize ls[k]=s at*
   clear hgp HAX HCE HYA;go_wp2_with fail;refine HD.out.mono ?_;rintro e w5 (⟨t,n',c'',rfl,hte,hg5,hy5⟩|⟨rfl,hgd,hg5⟩)
   ·have HG5:=zH hg5;have HY5:=zH (hy5 w5 hg5);have hc5:=HCL.out w5 _ _ _ _ _ _ _ hg5;clear hg5 hy5 HD hc HGP HCL HYK;go_wp2_with fail;refine HY5.out.mono ?_;rintro e w6 ⟨rfl,hg6⟩;have HG6:=zH hg6;have htt:(t.toList == t.toList)=true:=by simp
    clear hg6 HY5 HG5 hc5;go_wp2_with fail;go_roundw
    case rel=>exact⟨k+1,n',c'',by omega,rfl,by go_num,HG6.out⟩
    case measure=>simp[intOf];omega
   ·have hem:((⟨#[]⟩:ByteArray).toList.isEmpty)=true:=by rw[ByteArray.toList_eq];rfl
    have HV:=zH (Gp.askd hg5 0 rfl ⟨#[86,97]⟩);have HSD:=zH (Gp.stopd hg5 0 rfl);have HCR:Hid (Calls Tryz.prog 15 #[.pointer (some ⟨d,0,none⟩),.int .i64 keep] w5 fun e w'=>∃d' n' c',e=.returned (.pointer (some ⟨d',0,none⟩))/\Gp B w [bdP B xb d n cc s,bkP B yb d2 n cc,stP B (.slice (some ⟨g,0,none⟩) ls.length lc) ls,cfP B d' n' c',noP,noP,noP,noP] w'/\((n'=n/\c'=cc)\/(n'=(doStr n cc s).2.1/\c'=(doStr n cc s).2.2))):=Gp.crashd hg5 0 3 rfl hgd keep hk1 hk2;clear hg5 HD hc HGP;go_wp2_with fail;refine HV.out.mono ?_;rintro e w6 ⟨rfl,h6⟩;subst h6;go_wp2_with fail;refine HSD.out.mono ?_;rintro e w7 ⟨rfl,h7⟩;subst h7;clear HV HSD;go_wp2_with fail;refine HCR.out.mono ?_;rintro e w8 ⟨d',n',c',rfl,hg8,hor⟩;have HOR:=zH hor;have HOP:Hid (Calls Tryz.prog 14 #[.pointer (some ⟨d',0,none⟩)] w8 fun e w'=>∃z,e=.returned (.tuple #[.pointer (some ⟨z,0,none⟩),.int .i64 0])/\Gp B w [bdP B xb d n cc s,bkP B yb d2 n cc,stP B (.slice (some ⟨g,0,none⟩) ls.length lc) ls,bvP B z n' c',noP,noP,noP,noP] w'):=Gp.openc hg8 3 rfl;clear hg8 hor HCR;go_wp2_with fail;refine HOP.out.mono ?_;rintro e w9 ⟨zb,rfl,hg9⟩;have HSH:Hid (Calls Tryz.prog 12 #[.pointer (some ⟨zb,0,none⟩)] w9 fun e w'=>∃v,e=.returned v/\Gp B w [bdP B xb d n cc s,bkP B yb d2 n cc,stP B (.slice (some ⟨g,0,none⟩) ls.length lc) ls,bvP B zb n' c',stP B v (shw n' c'),noP,noP,noP] w'):=gp_shv hg9 3 4 rfl;clear hg9 HOP;go_wp2_with fail;refine HSH.out.mono ?_;rintro e w10 ⟨sv,rfl,hg10⟩;have HSY:Hid (Calls Tryz.prog 12 #[.pointer (some ⟨yb,0,none⟩)] w10 fun e w'=>∃v,e=.returned v/\Gp B w [bdP B xb d n cc s,bkP B yb d2 n cc,stP B (.slice (some ⟨g,0,none⟩) ls.length lc) ls,bvP B zb n' c',stP B sv (shw n' c'),stP B v (shw n cc),noP,noP] w'):=Gp.shw hg10 1 5 rfl (by decide);clear hg10 HSH;go_wp2_with fail;refine HSY.out.mono ?_;rintro e w11 ⟨tv,rfl,hg11⟩;have hsl:=shw_len n' c';have hsl2:=shw_len n cc;have HA1:=zH (Gp.alik hg11 4 5 rfl rfl (by omega) (by omega) (by omega));clear hg11 HSY;go_wp2_with fail;refine HA1.out.mono ?_;rintro e w12 ⟨bb,rfl,hbb,hg12⟩;have HG12:=zH hg12;have HBT:=zH hbb;clear hg12 hbb HA1
    cases bb with
    | true=>
     go_wp2_with fail;go_ret;exact⟨rfl,by rw[HBB.out];exact HG12.out.bel⟩
    | false=>
     have hor2:n'=(doStr n cc s).2.1/\c'=(doStr n cc s).2.2:=by
      rcases HOR.out with ⟨rfl,rfl⟩|h
      ·exact absurd (HBT.out rfl) (by simp)
      ·exact h
     have hkn:((k:Int) == (ls.length:Int))=false:=by simp;omega
     have hc12:=HCL.out w12 _ _ _ _ _ _ _ HG12.out;have HY12:=zH (HYK.out w12 _ _ _ _ _ _ _ _ HG12.out);rw[<-hor2.1,<-hor2.2]at HY12;clear hor2 HOR HBT HYK HCL;go_wp2_with fail;refine HY12.out.mono ?_;rintro e w13 ⟨t13,rfl,hg13⟩;have HSY2:Hid (Calls Tryz.prog 12 #[.pointer (some ⟨yb,0,none⟩)] w13 fun e w'=>∃v,e=.returned v/\Gp B w [bdP B xb d n cc s,bkP B yb d2 n' c',stP B (.slice (some ⟨g,0,none⟩) ls.length lc) ls,bvP B zb n' c',stP B sv (shw n' c'),stP B tv (shw n cc),stP B v (shw n' c'),noP] w'):=Gp.shw hg13 1 6 rfl (by decide);clear hg13 HY12 hc12 HG12;go_wp2_with fail;refine HSY2.out.mono ?_;rintro e w14 ⟨tv2,rfl,hg14⟩;have HA2:=zH (Gp.alike hg14 4 6 rfl rfl (by omega) (by omega));clear hg14 HSY2;go_wp2_with fail;refine HA2.out.mono ?_;rintro e w15 ⟨rfl,hg15⟩;have HG15:=zH hg15;clear hg15 HA2;go_wp2_with fail;go_ret;exact⟨rfl,by rw[HBB.out];exact HG15.out.bel⟩
  ·have hlI:¬((k:Int)<(ls.length:Int)):=by omega
   have hls:¬((sc.length:Int)<(sc.length:Int)):=by omega
   have HCR:Hid (Calls Tryz.prog 15 #[.pointer (some ⟨d,0,none⟩),.int .i64 keep] wr fun e w'=>∃d',e=.returned (.pointer (some ⟨d',0,none⟩))/\Gp B w [bhP B xb d n cc,bkP B yb d2 n cc,stP B (.slice la ls.length lc) ls,cfP B d' n cc,noP,noP,noP,noP] w'):=Gp.crashh hgp 0 3 rfl keep hk1 hk2;clear hgp HAX HGP HCE HYA;go_wp2_with fail;refine HCR.out.mono ?_;rintro e w8 ⟨d',rfl,hg8⟩;have HOP:Hid (Calls Tryz.prog 14 #[.pointer (some ⟨d',0,none⟩)] w8 fun e w'=>∃z,e=.returned (.tuple #[.pointer (some ⟨z,0,none⟩),.int .i64 0])/\Gp B w [bhP B xb d n cc,bkP B yb d2 n cc,stP B (.slice la ls.length lc) ls,bvP B z n cc,noP,noP,noP,noP] w'):=Gp.openc hg8 3 rfl;clear hg8 HCR;go_wp2_with fail;refine HOP.out.mono ?_;rintro e w9 ⟨zb,rfl,hg9⟩;have HSH:Hid (Calls Tryz.prog 12 #[.pointer (some ⟨zb,0,none⟩)] w9 fun e w'=>∃v,e=.returned v/\Gp B w [bhP B xb d n cc,bkP B yb d2 n cc,stP B (.slice la ls.length lc) ls,bvP B zb n cc,stP B v (shw n cc),noP,noP,noP] w'):=gp_shv hg9 3 4 rfl;clear hg9 HOP;go_wp2_with fail;refine HSH.out.mono ?_;rintro e w10 ⟨sv,rfl,hg10⟩;have HSY:Hid (Calls Tryz.prog 12 #[.pointer (some ⟨yb,0,none⟩)] w10 fun e w'=>∃v,e=.returned v/\Gp B w [bhP B xb d n cc,bkP B yb d2 n cc,stP B (.slice la ls.length lc) ls,bvP B zb n cc,stP B sv (shw n cc),stP B v (shw n cc),noP,noP] w'):=Gp.shw hg10 1 5 rfl (by decide);clear hg10 HSH;go_wp2_with fail;refine HSY.out.mono ?_;rintro e w11 ⟨tv,rfl,hg11⟩;have hsl:=shw_len n cc;have HA1:=zH (Gp.alike hg11 4 5 rfl rfl (by omega) (by omega));clear hg11 HSY;go_wp2_with fail;refine HA1.out.mono ?_;rintro e w12 ⟨rfl,hg12⟩;have HG12:=zH hg12;clear hg12 HA1;go_wp2_with fail;go_ret;exact⟨rfl,by rw[HBB.out];exact HG12.out.bel⟩
end Go.Proofs.YtbdobaapadlcjabGreatDoor
