import Derived.Test.YtbdobaapadlcjabGreatDoorHy30
set_option maxRecDepth 8000
set_option maxHeartbeats 4000000
set_option linter.unusedVariables false
set_option linter.unusedSimpArgs false
namespace Go.Proofs.YtbdobaapadlcjabGreatDoor
open Go.RowKit
variable {B S st b x j d sx bx y sy b2 o i:Nat}{w W W' w' w0:World}{now nx ny:Int}{col colx coly col':Nat->Nat}{c cx cy:Nat->Option QM}{T:List TypeId}{C:Array Value}{v:Value}{l:List ByteArray}
theorem PlG.any {N:Prop}{J:World->Prop}{K:ByteArray->World->Prop}{e:Ending}(h:PlG B N J K e w):PlG B True J K e w:=by
 obtain⟨t,⟨h1,h2,h3⟩|h⟩:=h
 ·exact⟨t,.inl ⟨h1,trivial,h3⟩⟩
 ·exact⟨t,.inr h⟩
theorem plan_str (B:Nat)(s:ByteArray)(X:Gh B)(st b:Nat)(now:Int)(c:Nat->Option QM)(col:Nat->Nat)(w:World)(hE:Env B w)(hb:Sk B w X st b now c col)(hg:parseGood s=true)(W:World)(y:Sl)(ht:Tch [] w W)(hy:YS w W y (endSt s).bs):
  Calls Tryz.prog 30 #[.pointer (some ⟨st,0,none⟩),.agg (cellsOf (endSt s).r y.v)] W fun e w'=>Tch [] W w'/\PlG B True (fun w'=>X.JO w col w') (fun t w'=>t=(doStr now c s).1/\Sd B X st b w col (doStr now c s).2.1 (doStr now c s).2.2 w') e w':=by
 obtain⟨Z,hsg,hc⟩:=hb.sg
 by_cases hop:(endSt s).r.op.toNat=66
 ·obtain⟨⟨l1,l2⟩,l3⟩:=batch_bs s hg hop;have e:doStr now c s=(okL (ansB (endSt s).bs.length (doL now c (endSt s).bs).1),now,(doL now c (endSt s).bs).2):=by unfold doStr;rw[if_pos hg,if_pos hop]
  rw[e];refine(plan_p (N:=(doL now c (endSt s).bs).2=c) B _ _ (endSt s).r y st b 1 118 now _ W hop (by decide) (hsg.tch ht).stb rfl eg158b (fun W1 ht1=>?_)).mono (fun e w' he=>⟨he.1,PlG.any he.2⟩);obtain⟨bb,ob,yc,rfl,_,h5,h6⟩:=(hy.tch ht1).at l1;exact batch_any B (endSt s).r X st b bb ob yc now c col (endSt s).bs w hE hb Z none 0 hsg hc W1 (ht.trans ht1 (by simp)) l2 l3 h5 h6
 ·have hrq:=rq_ok (end_wf s) (good_right s hg hop).1;have e:doStr now c s=doQ now c (endSt s).r:=by unfold doStr;rw[if_pos hg,if_neg hop]
  rw[e];exact(op_any B (endSt s).r X st b now c col w hE hb hrq hop Z none 0 hsg hc W y ht).mono (fun e w' he=>⟨he.1,PlG.any he.2⟩)
theorem sdo_any (B:Nat)(s:ByteArray)(st b:Nat)(now:Int)(c:Nat->Option QM)(col:Nat->Nat)(w:World)(hE:Env B w)(hb:Sk B w (Gh.tt B) st b now c col)(hg:parseGood s=true)(W:World)(y:Sl)(ht:Tch [] w W)(hy:YS w W y (endSt s).bs):
  Calls Tryz.prog 64 #[.pointer (some ⟨st,0,none⟩),.agg (cellsOf (endSt s).r y.v)] W fun e w'=>(∃t,e=.returned (.string t))/\Sd B (Gh.tt B) st b w col (doStr now c s).2.1 (doStr now c s).2.2 w':=by
 have HP:Hid (∀W2,Tch [] W W2->Calls Tryz.prog 30 #[.pointer (some ⟨st,0,none⟩),.agg (cellsOf (endSt s).r y.v)] W2 fun e w'=>Tch [] W2 w'/\PlG B True (fun w'=>(Gh.tt B).JO w col w') (fun t w'=>t=(doStr now c s).1/\Sd B (Gh.tt B) st b w col (doStr now c s).2.1 (doStr now c s).2.2 w') e w'):=fun W2 h2=>plan_str B s (Gh.tt B) st b now c col w hE hb hg W2 y (ht.trans h2 (by simp)) (hy.tch h2)
 have hT:=zH ht;have hinf:=info24;generalize (endSt s).r=r at*
 generalize (doStr now c s).1=A at*
 generalize (doStr now c s).2.1=n1 at*
 generalize (doStr now c s).2.2=c1 at*
 have HTA:Hid (∀o,Tch [] W (W.alloc o)):=fun o=>(Tch.refl [] W).alloc o
 clear hE hb hg hy ht;rw[zM r y]at HP ⊢;go_enter Tryz.func64,Tryz.ntmps64;go_wp2_with fail;refine(HP.out _ (HTA.out _)).mono ?_;rintro e w1 ⟨t1,hpl⟩;have T1:Hid (Tch [] w w1):=(hT.out.trans (HTA.out _) (by simp)).trans t1 (by simp);obtain⟨t,⟨rfl,_,hk⟩|⟨f,cap,rfl,heg,hk⟩⟩:=hpl
 ·have HK:=zH (hk w1 (Tch.refl _ _));have s0:∀W:World,(binOp .neq 1 .nilFunc .nilFunc).run Tryz.prog W=.ok (.bool false) W:=fun W=>by kernel_rfl
  clear hk t1 HP HTA;go_wp2_with fail;go_ret;exact⟨⟨_,rfl⟩,HK.out.2⟩
 ·have HK:=zH (hk w1 w1 (Tch.refl _ _) (Fr.refl _ _ _) ⟨trivial,fun q hq h9=>T1.out.block q hq (by simp)⟩);have s1:=func_nn (.func f) #[] cap;clear hk t1 HP HTA;go_wp2_with (go_at_fn f;refine HK.out.mono ?_;rintro e w3 ⟨rfl,_,hd⟩;have HD:=zH hd;clear hd HK);go_ret;exact⟨⟨_,rfl⟩,HD.out⟩
theorem SG.full {Z:Nat->Option BQ}(h:SG S w st b now Z col)(hB:B<=S)(hc:∀i,i<8->ctZ Z i=c i):∃Z',SG B w st b now Z' col/\ctZ Z'=c:=by
 refine⟨fun i=>if i<8 then Z i else (c i).map (fun Q=>⟨0,nilV,Q⟩),⟨?_,h.tb,fun i x hi hx=>?_,fun i x hi hx=>?_,fun i x hi hx k hk=>?_,Nat.le_trans hB h.ls,h.cs⟩,?_⟩
 ·have h1:w.heap[st]?=_:=h.stb;exact h1
 ·rw[if_pos hi]at hx;exact h.qr i x hi hx
 ·rw[if_pos hi]at hx;exact h.cl i x hi hx
 ·rw[if_pos hi]at hx;exact Nat.le_trans hB (h.lo i x hi hx k hk)
 ·funext i;unfold ctZ
  by_cases hi:i<8
  ·simp only[hi,if_true];exact hc i hi
  ·simp only[hi,if_false]
   cases c i<;>rfl
structure Rrs (B:Nat)(w:World)(st b:Nat)(p:Int×(Nat->Option QM))(col:Nat->Nat)(W:World):Prop where
 sk:Sk B W (Gh.tt B) st b p.1 p.2 col
 old:∀k,k<w.heap.size->col k=9
 tch:Tch [] w W
theorem Rrs.next {p:Int×(Nat->Option QM)}(h:Rrs B w st b p col W){n:Int}{c:Nat->Option QM}(hd:Sd B (Gh.tt B) st b W col n c W'):∃col',Rrs B w st b (n,c) col' W':=by
 obtain⟨col',h1,h2,h3⟩:=hd;have hz:=h.tch.size;exact⟨col',h1,fun k hk=>(h2.1 k (by omega)).trans (h.old k hk),⟨h3.os.trans h.tch.os,h3.tape.trans h.tch.tape,h3.output.trans h.tch.output,Nat.le_trans hz h3.size,fun k hk hn=>(h3.out k (by omega) (h.old k hk)).trans (h.tch.block k hk (by simp))⟩⟩
theorem runS_snoc (p:Int×(Nat->Option QM))(ss:List ByteArray)(s:ByteArray):runS p (ss++[s])=(doStr (runS p ss).1 (runS p ss).2 s).2:=by
 unfold runS;rw[List.foldl_append];rfl
theorem restore_l (B:Nat)(n0:Int)(c0:Nat->Option QM)(ss:List ByteArray)(ra:Option Addr)(rc:Nat)(w:World)(hE:Env B w)(hW:WFc c0)(hn:0<=n0/\n0<=60000)(hl:(wholeC n0 c0).length<=1000000)(hs:∀s∈ss,parseGood s=true)(hS:Strs w ra ss)(hsl:ss.length<=1000000):
  Calls Tryz.prog 34 #[.string (BA (wholeC n0 c0)),.slice ra ss.length rc] w fun e w'=>∃st b col,e=.returned (.tuple #[.pointer (some ⟨st,0,none⟩),.bool true])/\Rrs B w st b (runS (n0,c0) ss) col w':=by
 have HRD:Hid (Calls Tryz.prog 63 #[.string (BA (wholeC n0 c0))] w fun e w'=>∃st b col,e=.returned (.tuple #[.pointer (some ⟨st,0,none⟩),.bool true])/\Rrs B w st b (n0,c0) col w'):=by
  refine(sread_any B n0 c0 (fun k=>if k<w.heap.size then 9 else 0) w hE hW hn (fun k hk=>by rw[if_neg (by omega)];decide) hl).mono ?_;rintro e w' ⟨st,b,Z,col,he,h1,h2,h3,h4,h5⟩;obtain⟨Z',h6,h7⟩:=h1.full hE.size h2;exact⟨st,b,col,he,⟨⟨Z',h6,h7⟩,hW,hn,.inl trivial,fun k hk=>h4 k (Nat.le_trans h5.size hk)⟩,fun k hk=>(h3 k hk).trans (if_pos hk),h5⟩
 have hne:(BA (wholeC n0 c0)).toList.isEmpty=false:=ne_nil _ (by
  rw[BA_size];unfold wholeC;rw[List.length_append,lowB_length];omega)
 have HPA:Hid (∀W (k:Nat) (hk:k<ss.length),Tch [] w W->Calls Tryz.prog 28 #[.string ss[k]] W fun e w'=>∃x:Sl,e=.returned (.tuple #[.agg (cellsOf (endSt ss[k]).r x.v),.int .i64 0])/\YS W w' x (endSt ss[k]).bs/\Tch [] W w'):=fun W k hk ht=>by
  have hg:=hs _ (List.getElem_mem hk);have hE':=hE.tch ht (by simp);have hsz:=good_size _ hg;refine(parse_any B _ W (by unfold maxLen;omega) hE'.lays hE'.size).mono ?_;rintro e w' ⟨⟨_,x,he,hxn,hfs⟩|⟨hb,_⟩,hbl⟩
  ·exact⟨x,he,⟨hxn,hfs⟩,Tch.of_below hbl⟩
  ·rw[hg]at hb
   cases hb
 have HDO:Hid (∀W W2 (k:Nat) (hk:k<ss.length) st b col (y:Sl),Rrs B w st b (runS (n0,c0) (ss.take k)) col W->Tch [] W W2->YS W W2 y (endSt ss[k]).bs->Calls Tryz.prog 64 #[.pointer (some ⟨st,0,none⟩),.agg (cellsOf (endSt ss[k]).r y.v)] W2 fun e w'=>(∃t,e=.returned (.string t))/\∃col',Rrs B w st b (runS (n0,c0) (ss.take (k+1))) col' w'):=fun W W2 k hk st b col y h ht hy=>by
  refine(sdo_any B ss[k] st b _ _ col W (hE.tch h.tch (by simp)) h.sk (hs _ (List.getElem_mem hk)) W2 y ht hy).mono ?_;rintro e w' ⟨he,hd⟩;refine⟨he,?_⟩;rw[List.take_succ_eq_append_getElem hk,runS_snoc];exact h.next hd
 have HSS:Hid (∀W,Tch [] w W->Strs W ra ss):=fun W ht=>hS.below (ht.below (by simp) (Nat.le_refl _))
 have hinf:=info24;clear hE hW hn hl hs hS;generalize BA (wholeC n0 c0)=S0 at*
 go_enter Tryz.func34,Tryz.ntmps34;go_wp2_with fail;refine HRD.out.mono ?_;rintro e w1 ⟨st,b,col,rfl,h1⟩;have H1:=zH h1;clear h1 HRD;go_wp2_with fail
 go_loopw [24] (fun v wr=>∃(k:Nat) (cl:Nat->Nat),k<=ss.length/\v=.int .i64 (k:Int)/\Rrs B w st b (runS (n0,c0) (ss.take k)) cl wr) (fun v _=>ss.length-(intOf v).toNat)
 case atStart=>exact⟨0,col,Nat.zero_le _,rfl,H1.out⟩
 case round=>
  obtain⟨k,cl,hk,rfl,hr⟩:=hrel;have HR:=zH hr
  by_cases hlt:k<ss.length
  ·have hkI:(k:Int)<(ss.length:Int):=by omega
   obtain⟨g,o,rfl,hc⟩:=HSS.out wr hr.tch k hlt;have HP:=zH (HPA.out wr k hlt hr.tch);have HD:=zH (fun W2 y=>HDO.out wr W2 k hlt st b cl y hr);clear hr HSS HPA HDO H1;generalize ss[k]=s at*
   go_wp2_with fail;refine HP.out.mono ?_;rintro e w2 ⟨x,rfl,hys,t2⟩;have tl:=laidIn_tch w2 (cellsOf (endSt s).r x.v);have HDD:=zH (HD.out (laidIn w2 (cellsOf (endSt s).r x.v)) x (t2.trans tl (by simp)) (hys.tch tl));clear hys t2 tl HP HD hc;go_wp2_with (first|(refine wpList_store_row rfl 24 _ _ rfl w2.heap.size (cellsOf (endSt s).r x.v) rfl rfl 24 _ (heap_alloc_new _ _) hinf rfl (cells_one _ _) ?_)|(refine wpList_load_row rfl 24 _ rfl w2.heap.size rfl 24 (cellsOf (endSt s).r x.v) (0,0) _ (laidIn_heap _ _) Tryz.underlying24 rfl hinf ?_));refine HDD.out.mono ?_;rintro e w3 ⟨⟨t,rfl⟩,cl',h3⟩;have H3:=zH h3;clear h3 HDD;go_wp2_with fail;go_roundw
   case rel=>exact⟨k+1,cl',by omega,by go_num,H3.out⟩
   case measure=>simp[intOf];omega
  ·have hkI:¬((k:Int)<(ss.length:Int)):=by omega
   have hke:k=ss.length:=by omega
   have HF:Hid (Rrs B w st b (runS (n0,c0) ss) cl wr):=by
    rw[hke,List.take_length]at hr;exact hr
   clear hr HSS HPA HDO H1;go_wp2_with fail;go_ret2;exact⟨st,rfl,b,cl,HF.out⟩
structure Rok (r:Wp.Rq):Prop where
 wf:Wf r
 right:rightW r nil0 (Wp.short [])=true
 small:(printS r nil0 []).size<=90000
theorem create_g (B:Nat)(r:Wp.Rq)(x st b i:Nat)(now:Int)(c:Nat->Option QM)(col:Nat->Nat)(w:World)(hE:Env B w)(hb:Bk B w x st b now c col)(hr:Rok r)(hop:r.op=67)(hi:i<8)(hq:r.q.toNat=97+i)(hno:c i=none):
  Calls Tryz.prog 21 #[.pointer (some ⟨x,0,none⟩),.agg (cellsOf r nil0.v)] w fun e w'=>e=.returned (.bool true)/\Did B x st b w col now (setC c i (some (newM r))) w':=by
 refine create_walk _ B r x w hr.right hE.lays hE.size (fun W hbW=>?_);obtain⟨hg,h1,_⟩:=print_good r nil0 [] hr.wf rfl hr.right;have tb:=Tch.of_below hbW;have e:doStr now c (printS r nil0 [])=(okL [],now,setC c i (some (newM r))):=by
  have hqi:qiR r=i:=by unfold qiR;omega
  unfold doStr;rw[if_pos hg,h1,if_neg (by rw[hop];decide)];unfold doQ;rw[hop,hqi,hno];rfl
 refine(do_any B (printS r nil0 []) x st b now c col W (hE.tch tb (by simp)) (hb.tch tb) (by have:=hr.small;unfold maxLen;omega)).mono ?_;rw[e];rintro e w' ⟨rfl,col',h2,h3,h4⟩;exact⟨rfl,col',h2,⟨fun k hk=>h3.1 k (Nat.lt_of_lt_of_le hk tb.size),h3.2⟩,(FqT.of_nil col tb hE.size).trans (Agr.refl _ _) h4⟩
theorem Opn.bk (h:Opn B w x st b j d (.slice none 0 0))(hd:B<=d)(col:Nat->Nat)(hcl:∀k,B<=k->col k≠9)(h0:col 0=d+10)(hB:B<=w.heap.size):Bk B w x st b 0 (fun _=>none) col:=by
 refine⟨⟨fun _=>none,⟨h.brk.hst,h.brk.tb,fun i x _ hx=>by simp at hx,fun i x _ hx=>by simp at hx,fun i x _ hx=>by simp at hx,h.lo.2.1,hcl st h.lo.2.1⟩,rfl⟩,fun i Q _ hQ=>by simp at hQ,⟨by omega,by omega⟩,⟨none,0,⟨j,d,.slice none 0 0,0,0,h.hx,h.jr,fun k hk=>?_,?_,fun k hk=>?_,h0⟩,.inl ⟨rfl,Int.le_refl _,rfl,rfl⟩⟩,fun k hk=>hcl k (Nat.le_trans hB hk)⟩
 ·simp[jbl,Dk.bl,Value.ownBlock]at hk;rcases hk with rfl|rfl
  ·exact h.lo.2.2.1
  ·exact hd
 ·show (0<0->((0:Nat):Int)+0<=217000)/\(0:Nat)<=310000/\_
  omega
 ·simp[jbl,Dk.bl,Value.ownBlock]at hk;rcases hk with rfl|rfl
  ·exact hcl _ h.lo.2.2.1
  ·exact hcl _ hd
def roomF (F W0:ByteArray):Int:=max 0 (16384-((F.size:Int)-(W0.size:Int)))
theorem alike_same (ga ca gb cb:Nat)(l:List ByteArray)(w:World)(hl:l.length<=1000000)(h1:∀j (hj:j<l.length),w.cell? ⟨ga,j,none⟩=some (.string l[j]))(h2:∀j (hj:j<l.length),w.cell? ⟨gb,j,none⟩=some (.string l[j])):
  zT 13 #[.slice (some ⟨ga,0,none⟩) l.length ca,.slice (some ⟨gb,0,none⟩) l.length cb] w (.bool true):=by
 have HA:=zH h1;have HB:=zH h2;clear h1 h2;go_enter Tryz.func13,Tryz.ntmps13;go_wp2_with fail
 go_loopw [5] (fun v wr=>∃k:Nat,k<=l.length/\v=.int .i64 (k:Int)/\Tch [] w wr) (fun v _=>l.length-(intOf v).toNat)
 case atStart=>exact⟨0,Nat.zero_le _,rfl,Tch.refl _ _⟩
 case round=>
  obtain⟨k,hk,rfl,ht⟩:=hrel;have HT:=zH ht
  by_cases hlt:k<l.length
  ·have hkI:(k:Int)<(l.length:Int):=by omega
   have a1:=(ht.cell (World.block_lt_of_cell? _ _ (HA.out k hlt)) (by simp)).trans (HA.out k hlt);have b1:=(ht.cell (World.block_lt_of_cell? _ _ (HB.out k hlt)) (by simp)).trans (HB.out k hlt);have hss:(l[k].toList == l[k].toList)=true:=by simp
   clear ht HA HB;generalize l[k]=s at*
   have HTD:=zH HT.out.drew
   go_upto_region 6 with fail
   go_region_held3 (fun w'=>w'.cell? ⟨ga,k,none⟩=some (.string s)/\w'.cell? ⟨gb,k,none⟩=some (.string s)) (go_keep) (fail)
   go_wp2_with fail;go_roundw
   case rel=>exact⟨k+1,by omega,by go_num,HTD.out⟩
   case measure=>simp[intOf];omega
  ·have hkI:¬((k:Int)<(l.length:Int)):=by omega
   clear ht;go_wp2_with fail;go_ret;exact⟨rfl,HT.out⟩
theorem FqT.bel (h:FqT T B col w w'):Below B w w':=⟨h.os,h.tape,h.output,h.size,fun k hk=>h.low k hk⟩
theorem Env.bel (h:Env B w)(hb:Below B w w'):Env B w':=⟨h.lays.below hb,h.tab.below hb h.three,Nat.le_trans h.size hb.size,h.three⟩
theorem Env.pos (h:Env B w):0<w.heap.size:=by
 have h1:=h.three;have h2:=h.size;omega
structure Two (B:Nat)(w:World)(x sx bx:Nat)(nx:Int)(cx:Nat->Option QM)(colx:Nat->Nat)(y sy b2:Nat)(ny:Int)(cy:Nat->Option QM)(coly:Nat->Nat):Prop where
 f:Bk B w x sx bx nx cx colx
 g:Bk B w y sy b2 ny cy coly
 ap:∀q,B<=q->q<w.heap.size->colx q=9\/coly q=9
 env:Env B w
theorem Two.symm (h:Two B w x sx bx nx cx colx y sy b2 ny cy coly):Two B w y sy b2 ny cy coly x sx bx nx cx colx:=⟨h.g,h.f,fun q h1 h2=>(h.ap q h1 h2).symm,h.env⟩
theorem Two.did {nx':Int}{cx':Nat->Option QM}(h:Two B w x sx bx nx cx colx y sy b2 ny cy coly)(hd:Did B x sx bx w colx nx' cx' w'):
  ∃colx',Two B w' x sx bx nx' cx' colx' y sy b2 ny cy (rec9 w w' coly)/\Agr w colx colx'/\FqT TA B colx w w':=by
 obtain⟨col',hb,ha,hf⟩:=hd;refine⟨col',⟨hb,h.g.oth hf (fun q hB hq h9=>(h.ap q hB hq).resolve_right h9),fun q hB hq=>?_,h.env.bel hf.bel⟩,ha,hf⟩
 by_cases hlt:q<w.heap.size
 ·rw[ha.1 q hlt,rec9_old hlt];exact h.ap q hB hlt
 ·exact .inr (if_pos ⟨by omega,hq⟩)
theorem Two.fr (h:Two B w x sx bx nx cx colx y sy b2 ny cy coly){T:List TypeId}(hf:Fr B T w w')(h1:∀t∈TA,t∉T)(h2:60∉T)(h3:186∉T):
  Two B w' x sx bx nx cx (rec9 w w' colx) y sy b2 ny cy (rec9 w w' coly):=by
 refine⟨h.f.fr hf h1 h2 h3,h.g.fr hf h1 h2 h3,fun q hB hq=>?_,h.env.bel hf.below⟩
 by_cases hlt:q<w.heap.size
 ·rw[rec9_old hlt,rec9_old hlt];exact h.ap q hB hlt
 ·exact .inr (if_pos ⟨by omega,hq⟩)
def PI (B:Nat)(w0:World)(d x y:Nat)(nx:Int)(cx:Nat->Option QM)(ny:Int)(cy:Nat->Option QM)(w:World):Prop:=∃sx bx sy b2 colx coly,Two B w x sx bx nx cx colx y sy b2 ny cy coly/\colx 0=d+10/\Below B w0 w
def Kp (w w':World):Prop:=∀(k:Nat) (C:Array Value) (t:TypeId),w.heap[k]?=some (.cells C t (0,0))->t∉TA->w'.heap[k]?=some (.cells C t (0,0))
theorem PI.env (h:PI B w0 d x y nx cx ny cy w):Env B w:=by
 obtain⟨sx,bx,sy,b2,colx,coly,h1,h2,h3⟩:=h;exact h1.env
theorem PI.fr (h:PI B w0 d x y nx cx ny cy w){T:List TypeId}(hf:Fr B T w w')(h1:∀t∈TA,t∉T)(h2:60∉T)(h3:186∉T):PI B w0 d x y nx cx ny cy w':=by
 obtain⟨sx,bx,sy,b2,colx,coly,g1,g2,g3⟩:=h;exact⟨sx,bx,sy,b2,_,_,g1.fr hf h1 h2 h3,(rec9_old g1.env.pos).trans g2,g3.trans hf.below⟩
theorem PI.tch (h:PI B w0 d x y nx cx ny cy w)(ht:Tch [] w w'):PI B w0 d x y nx cx ny cy w':=
 h.fr (T:=[]) (Fr.of_nil [] ht h.env.size) (by simp) (by simp) (by simp)
theorem PI.box (h:PI B w0 d x y nx cx ny cy w){p o:Nat}{C:Array Value}(hp:B<=p)(hb:w.heap[p]?=some (.cells C 24 (0,0)))(v:Value):PI B w0 d x y nx cx ny cy (w.setCell ⟨p,o,none⟩ v):=
 h.fr (T:=[24]) (Fr.of_tch ((Tch.refl [p] w).setCell (fun _=>by simp) v) h.env.size (fun k hk=>by simp at hk;omega) (fun k hk C' t hC=>by
  simp at hk;subst hk;rw[hb]at hC;simp at hC;simp[<-hC.2])) (by decide) (by decide) (by decide)
theorem PI.crx (h:PI B w0 d x y 0 cx ny cy w)(r:Wp.Rq)(i:Nat)(hr:Rok r)(hop:r.op=67)(hi:i<8)(hq:r.q.toNat=97+i)(hno:cx i=none):
  Calls Tryz.prog 21 #[.pointer (some ⟨x,0,none⟩),.agg (cellsOf r nil0.v)] w fun e w'=>e=.returned (.bool true)/\PI B w0 d x y 0 (setC cx i (some (newM r))) ny cy w'/\Kp w w':=by
 obtain⟨sx,bx,sy,b2,colx,coly,g1,g2,g3⟩:=h;refine(create_g B r x sx bx i 0 cx colx w g1.env g1.f hr hop hi hq hno).mono ?_;rintro e w' ⟨rfl,hd⟩;obtain⟨colx',k1,k2,k3⟩:=g1.did hd;exact⟨rfl,⟨sx,bx,sy,b2,_,_,k1,(k2.1 0 g1.env.pos).trans g2,g3.trans k3.bel⟩,k3.keep⟩
theorem PI.cry (h:PI B w0 d x y nx cx 0 cy w)(r:Wp.Rq)(i:Nat)(hr:Rok r)(hop:r.op=67)(hi:i<8)(hq:r.q.toNat=97+i)(hno:cy i=none):
  Calls Tryz.prog 21 #[.pointer (some ⟨y,0,none⟩),.agg (cellsOf r nil0.v)] w fun e w'=>e=.returned (.bool true)/\PI B w0 d x y nx cx 0 (setC cy i (some (newM r))) w'/\Kp w w':=by
 obtain⟨sx,bx,sy,b2,colx,coly,g1,g2,g3⟩:=h;refine(create_g B r y sy b2 i 0 cy coly w g1.env g1.g hr hop hi hq hno).mono ?_;rintro e w' ⟨rfl,hd⟩;obtain⟨coly',k1,k2,k3⟩:=g1.symm.did hd;exact⟨rfl,⟨sx,bx,sy,b2,_,_,k1.symm,(rec9_old g1.env.pos).trans g2,g3.trans k3.bel⟩,k3.keep⟩
def colO (d S:Nat):Nat->Nat:=fun q=>if q=0 then d+10 else if q<S then 9 else 0
theorem opn_bk (h:Opn S w x st b j d (.slice none 0 0))(hd:S<=d)(hB:B<=S)(h3:3<=B)(hS:S<=w.heap.size):Bk B w x st b 0 (fun _=>none) (colO d S):=
 (h.bk hd (colO d S) (fun k hk=>by
  unfold colO;rw[if_neg (by omega),if_neg (by omega)];decide) (if_pos rfl) hS).mono hB
theorem two_opn {wa w1 w2:World}{x1 s1 b1 j1 d1 x2 s2 j2 d2:Nat}(hE:Env B wa)(hb1:Below wa.heap.size wa w1)(h1:Opn wa.heap.size w1 x1 s1 b1 j1 d1 (.slice none 0 0))(hd1:d1=wa.heap.size)(hb2:Below w1.heap.size w1 w2)(h2:Opn w1.heap.size w2 x2 s2 b2 j2 d2 (.slice none 0 0))(hd2:d2=w1.heap.size):
  PI B wa d1 x1 x2 0 (fun _=>none) 0 (fun _=>none) w2:=by
 have hz1:=hb1.size;have hz2:=hb2.size;have hBa:=hE.size;have h3:=hE.three;have hE1:=hE.bel (hb1.mono hBa);have k1:=opn_bk h1 (by omega) hBa h3 hz1;have k2:=k1.fr (T:=[]) (Fr.of_nil [] (Tch.of_below hb2) hE1.size) (by simp) (by simp) (by simp);have k3:=opn_bk h2 (by omega) (Nat.le_trans hBa hz1) h3 hz2;refine⟨s1,b1,s2,b2,_,_,⟨k2,k3,fun q hB hq=>?_,hE1.bel (hb2.mono hE1.size)⟩,(rec9_old (by omega)).trans (if_pos rfl),(hb1.mono hBa).trans (hb2.mono hE1.size)⟩
 by_cases hlt:q<w1.heap.size
 ·right;unfold colO;rw[if_neg (by omega),if_pos hlt]
 ·exact .inl (if_pos ⟨by omega,hq⟩)
theorem blk_set {qb:Nat}{C':Array Value}{t:TypeId}(h:w.heap[qb]?=some (.cells C t (0,0)))(v:Value)(hC:C.setIfInBounds o v=C'):(w.setCell ⟨qb,o,none⟩ v).heap[qb]?=some (.cells C' t (0,0)):=by
 rw[<-hC];exact heap_setCell_same w qb o C t v h
theorem rok_of {r:Wp.Rq}(hw:Wf r)(h:rightW r nil0 (Wp.short [])=true):Rok r:=⟨hw,h,good_size _ (print_good r nil0 [] hw rfl h).1⟩
def rawQ (r:Wp.Rq)(x:Sl)(o z:Int):Array Value:=#[.int .u8 o,.int .u8 z,.int .u8 (r.d.toNat:Int),.int .i64 r.vis,.int .i64 r.win,.int .i64 r.rcv,.int .i64 r.quo,.int .i64 r.mx,.int .i64 r.tic,.string r.grp,.string r.ded,.string r.bod,.string r.att,.string r.han,.slice x.a x.n x.c]
theorem shaped_raw (r:Wp.Rq)(x:Sl)(q:UInt8)(W:World)(hw:Wf r)(hz:Keep.Szs r)(hq:q.toNat<8):
  Calls Tryz.prog 20 #[.agg (rawQ r x 0 (q.toNat:Int))] W fun e w'=>(∃rr,e=.returned (.agg (cellsOf rr nil0.v))/\Rok rr/\rr.op=67/\rr.q.toNat=97+q.toNat)/\Tch [] W w':=by
 refine(Keep.shaped_Q {r with op:=0,q:=q} x W rfl ⟨hw.vis,hw.win,hw.rcv,hw.quo,hw.mx,hw.tic⟩ ⟨hz.grp,hz.ded,hz.bod,hz.att,hz.han⟩).mono ?_;rintro e w' ⟨⟨rr,rfl,h1,h2,h3,h4⟩,hb⟩;have h4':rr.q.toNat=97+q.toNat:=by
  have:rr.q.toNat=97+q.toNat % 8:=h4;omega
 exact⟨⟨rr,rfl,rok_of h2 h1,h3,h4'⟩,Tch.of_below hb⟩
def vR (i:Nat):Wp.Rq:=⟨86,UInt8.ofNat (97+i),0,0,0,0,0,0,0,⟨#[]⟩,⟨#[]⟩,⟨#[]⟩,⟨#[]⟩,⟨#[]⟩⟩
theorem vR_q (hi:i<8):(vR i).q.toNat=97+i:=UInt8.toNat_ofNat_of_lt' (by show _<256;omega)
theorem vR_wf (i:Nat):Wf (vR i):=Keep.wf_small _ Keep.zz Keep.zz Keep.zz Keep.zz Keep.zz Keep.zz
theorem vR_right (hi:i<8):rightW (vR i) nil0 (Wp.short [])=true:=by
 refine(right_iff _ _ _ (vR_wf i)).2 ⟨21,by decide,rfl,?_,rfl,rfl⟩
 show List.all [0] _=true
 simp only[List.all_cons,List.all_nil,Bool.and_true];have:=vR_q hi;exact Keep.fits_of _ _ _ 0 (by decide) (by decide) (by decide) (show (97:Int)<=((vR i).q.toNat:Int) by omega) (show ((vR i).q.toNat:Int)<=104 by omega)
def vAns (now:Int)(c:Nat->Option QM)(i:Nat):ByteArray:=(doStr now c (printS (vR i) nil0 [])).1
def shw (now:Int)(c:Nat->Option QM):List ByteArray:=(List.range 8).map (vAns now c)
theorem doStr_V (now:Int)(c:Nat->Option QM){i:Nat}(hi:i<8):(doStr now c (printS (vR i) nil0 [])).2=(now,c):=by
 obtain⟨hg,h1,_⟩:=print_good (vR i) nil0 [] (vR_wf i) rfl (vR_right hi);unfold doStr;rw[if_pos hg,h1,if_neg (by show ¬(86:UInt8).toNat=66;decide)];unfold doQ
 show (if (86:UInt8)=84 then _ else _:ByteArray×Int×(Nat->Option QM)).2=_
 cases c (qiR (vR i))<;>rfl
theorem Bk.askV (h:Bk B w x st b now c col)(hE:Env B w)(hi:i<8):
  Calls Tryz.prog 32 #[.pointer (some ⟨x,0,none⟩),.agg (cellsOf (vR i) nil0.v)] w fun e w'=>e=.returned (.string (vAns now c i))/\Did B x st b w col now c w':=by
 have hsz:=good_size _ (print_good (vR i) nil0 [] (vR_wf i) rfl (vR_right hi)).1;refine(asked_walk (fun t w'=>t=vAns now c i/\Did B x st b w col now c w') B (vR i) x w (vR_right hi) hE.lays hE.size (fun W hb=>?_)).mono ?_
 ·have tb:=Tch.of_below hb;have hdo:=do_any B (printS (vR i) nil0 []) x st b now c col W (hE.tch tb (by simp)) (h.tch tb) (by unfold maxLen;omega);rw[doStr_V now c hi]at hdo
  have ev:(doStr now c (printS (vR i) nil0 [])).1=vAns now c i:=rfl;rw[ev]at hdo
  generalize vAns now c i=A at*
  generalize printS (vR i) nil0 []=S at*
  refine hdo.mono ?_;rintro e w' ⟨rfl,col',h2,h3,h4⟩;exact⟨A,rfl,rfl,col',h2,⟨fun k hk=>h3.1 k (Nat.lt_of_lt_of_le hk tb.size),h3.2⟩,(FqT.of_nil col tb hE.size).trans (Agr.refl _ _) h4⟩
 ·rintro e w' ⟨t,rfl,rfl,hd⟩;exact⟨rfl,hd⟩
theorem FqT.tr (h:FqT T B col w W)(h':FqT T B col' W W')(hc:∀k,k<w.heap.size->col' k=col k):FqT T B col w W':=
 ⟨h'.os.trans h.os,h'.tape.trans h.tape,h'.output.trans h.output,Nat.le_trans h.size h'.size,fun k hk=>(h'.low k hk).trans (h.low k hk),fun k C t hk ht=>h'.keep k C t (h.keep k C t hk ht) ht,fun k hk h9=>(h'.out k (Nat.lt_of_lt_of_le hk h.size) ((hc k hk).trans h9)).trans (h.out k hk h9)⟩
structure Shn (B x st b:Nat)(w:World)(col:Nat->Nat)(now:Int)(c:Nat->Option QM)(v:Value)(l:List ByteArray)(col':Nat->Nat)(W:World):Prop where
 bk:Bk B W x st b now c col'
 old:∀k,k<w.heap.size->col' k=col k
 fq:FqT TA B col w W
 own:Dk.OwnS W v l
 new:∀g,v.ownBlock=some g->w.heap.size<=g
 c9:∀g,v.ownBlock=some g->col' g=9
theorem Shn.did (h:Shn B x st b w col now c v l col' W)(hd:Did B x st b W col' now c W'):∃col2,Shn B x st b w col now c v l col2 W':=by
 obtain⟨col2,h1,h2,h3⟩:=hd;have hz:=h.fq.size;obtain⟨S,ht,hS⟩:=h3.chg;exact⟨col2,h1,fun k hk=>(h2.1 k (by omega)).trans (h.old k hk),h.fq.tr h3 h.old,h.own.tch ht (fun g hg hm=>(hS g hm).2 (h3.out g (own_lt h.own hg) (h.c9 g hg))),h.new,fun g hg=>(h2.1 g (own_lt h.own hg)).trans (h.c9 g hg)⟩
theorem Shn.row {v':Value}{l':List ByteArray}(h:Shn B x st b w col now c v l col' W)(hE:Env B W)(ht:Tch v.ownBlock.toList W W')(hty:∀g,v.ownBlock=some g->B<=g)(ho:Dk.OwnS W' v' l')(hn:∀g,v'.ownBlock=some g->v.ownBlock=some g\/W.heap.size<=g):∃col2,Shn B x st b w col now c v' l' col2 W':=by
 have hzw:=h.fq.size;have hz:=ht.size;have hB:=hE.size;have hmem:∀g,g∈v.ownBlock.toList->v.ownBlock=some g:=fun g hg=>by simpa [Option.mem_toList]using hg
 have hkeep:∀(k:Nat) (C:Array Value) (t:TypeId),W.heap[k]?=some (.cells C t (0,0))->t∉TA->W'.heap[k]?=some (.cells C t (0,0)):=fun k C t hk htT=>by
  refine(ht.block k (lt_of_block hk) (fun hm=>htT ?_)).trans hk;have hg:=hmem k hm;rcases h.own.2 with ⟨e,_⟩|⟨g',cap,cur,e,_,hb,_⟩
  ·rw[e]at hg
   cases hg
  ·rw[e]at hg;injection hg with hg;have hg':g'=k:=hg;rw[hg',hk]at hb;simp at hb;rw[hb.2];decide
 have hf:FqT TA B (fun q=>if col' q=9 then 0 else 9) W W':=⟨ht.os,ht.tape,ht.output,hz,fun k hk=>ht.block k (by omega) (fun hm=>by have:=hty k (hmem k hm);omega),hkeep,fun k hk h9=>ht.block k hk (fun hm=>by
  have h1:=h.c9 k (hmem k hm);have h9':(if col' k=9 then 0 else 9)=9:=h9;rw[if_pos h1]at h9'
  cases h9')⟩
 have hbk:=h.bk.oth hf (fun q _ _ h9=>if_neg h9);refine⟨rec9 W W' col',hbk,fun k hk=>(rec9_old (by omega)).trans (h.old k hk),⟨ht.os.trans h.fq.os,ht.tape.trans h.fq.tape,ht.output.trans h.fq.output,by omega,fun k hk=>(ht.block k (by omega) (fun hm=>by have:=hty k (hmem k hm);omega)).trans (h.fq.low k hk),fun k C t hk htT=>hkeep k C t (h.fq.keep k C t hk htT) htT,fun k hk h9=>(ht.block k (by omega) (fun hm=>by have:=h.new k (hmem k hm);omega)).trans (h.fq.out k hk h9)⟩,ho,fun g hg=>?_,fun g hg=>?_⟩
 ·rcases hn g hg with e|e
  ·exact h.new g e
  ·omega
 ·rcases hn g hg with e|e
  ·exact(rec9_old (own_lt h.own e)).trans (h.c9 g e)
  ·exact if_pos ⟨e,own_lt ho hg⟩
theorem Shn.env (h:Shn B x st b w col now c v l col' W)(hE:Env B w):Env B W:=hE.bel h.fq.bel
def vA (k:Nat):Array Value:=#[.int .u8 86,.int .u8 (97+(k:Int)),.int .u8 0,.int .i64 0,.int .i64 0,.int .i64 0,.int .i64 0,.int .i64 0,.int .i64 0,.string ⟨#[]⟩,.string ⟨#[]⟩,.string ⟨#[]⟩,.string ⟨#[]⟩,.string ⟨#[]⟩,.slice none 0 0]
theorem vA_eq {k:Nat}(hk:k<8):cellsOf (vR k) nil0.v=vA k:=by
 have h:=vR_q hk;have e:(((vR k).q.toNat:Nat):Int)=97+(k:Int):=by rw[h];simp
 rw[zM];rw[e];rfl
theorem shown_any (B x st b:Nat)(now:Int)(c:Nat->Option QM)(col:Nat->Nat)(w:World)(hE:Env B w)(hb:Bk B w x st b now c col):
  Calls Tryz.prog 12 #[.pointer (some ⟨x,0,none⟩)] w fun e w'=>∃v col',e=.returned v/\Shn B x st b w col now c v (shw now c) col' w':=by
 have hBw:=hE.size;have H0:Hid (Shn B x st b w col now c (.slice none 0 0) ((List.range 0).map (vAns now c)) col w):=⟨hb,fun _ _=>rfl,FqT.of_nil col (Tch.refl [] w) hBw,Dk.OwnS.nil _,fun g hg=>by simp[Value.ownBlock]at hg,fun g hg=>by simp[Value.ownBlock]at hg⟩
 have HAV:Hid (∀W k v l col',k<8->Shn B x st b w col now c v l col' W->Calls Tryz.prog 32 #[.pointer (some ⟨x,0,none⟩),.agg (vA k)] W fun e w'=>e=.returned (.string (vAns now c k))/\∃col2,Shn B x st b w col now c v l col2 w'):=fun W k v l col' hk h=>by
  rw[<-vA_eq hk];refine(h.bk.askV (h.env hE) hk).mono ?_;rintro e w' ⟨he,hd⟩;exact⟨he,h.did hd⟩
 have HRW:Hid (∀(W W':World) (v v':Value) (l l':List ByteArray) (col':Nat->Nat),Shn B x st b w col now c v l col' W->Tch v.ownBlock.toList W W'->Dk.OwnS W' v' l'->(∀g,v'.ownBlock=some g->v.ownBlock=some g\/W.heap.size<=g)->∃col2,Shn B x st b w col now c v' l' col2 W'):=fun W W' v v' l l' col' h ht ho hn=>h.row (h.env hE) ht (fun g hg=>by have:=h.new g hg;omega) ho hn
 unfold shw;clear hb hE;go_enter Tryz.func12,Tryz.ntmps12;go_wp2_with fail
 go_loopw [3,4] (fun ov iv wr=>∃(k:Nat) (col':Nat->Nat),k<=8/\iv=.int .i64 (k:Int)/\Shn B x st b w col now c ov ((List.range k).map (vAns now c)) col' wr) (fun _ iv _=>8-(intOf iv).toNat)
 case atStart=>exact⟨0,col,by omega,rfl,H0.out⟩
 case round=>
  obtain⟨k,col',hk,rfl,hs⟩:=hrel;have HS:=zH hs;clear H0
  by_cases hlt:k<8
  ·have hkI:(k:Int)<8:=by omega
   have hmI:((k:Int) % 256)=(k:Int):=by omega
   have hwr:IntKind.u8.wrap (97+(k:Int))=97+(k:Int):=by
    rw[IntKind.wrap_u8];omega
   have HC:=zH (HAV.out wr k u3 _ col' hlt hs);have hrs:(List.range (k+1)).map (vAns now c)=(List.range k).map (vAns now c)++[vAns now c k]:=by rw[List.range_succ,List.map_append];rfl
   have hll:((List.range k).map (vAns now c)).length=k:=by simp
   clear hs HAV;generalize vAns now c k=A at*
   generalize (List.range k).map (vAns now c)=L at*
   go_wp2_with fail;refine HC.out.mono ?_;rintro e w2 ⟨rfl,col2,hs2⟩;have H2:=zH hs2;clear hs2 HC HS;go_wp2_with (at_builtin;refine Dk.wpList_strs _ rfl _ _ rfl u3 L rfl (H2.out.own.tch ((Tch.refl [] _).alloc _) (fun _ _=>by simp)) w2.heap.size [A] 1 rfl rfl (by decide) (heap_alloc_new _ _) (by omega) ?_);intro v' w3 ho3 hg3 hb3;have HF:Hid (∃col3,Shn B x st b w col now c v' (L++[A]) col3 w3):=HRW.out w2 w3 u3 v' L (L++[A]) col2 H2.out (((Tch.refl _ w2).alloc _).grown hg3 (fun g hg _=>by simp[hg])) ho3 (fun g hg=>by
    have hal:(w2.alloc (.cells #[.string A] 9)).heap.size=w2.heap.size+1:=by simp
    rcases hb3 with h|h
    ·exact .inl (h.symm.trans hg)
    ·rw[hg]at h;injection h with h;right;omega)
   obtain⟨col3,hs3⟩:=HF.out;have H3:=zH hs3;clear hs3 HF ho3 hg3 hb3 H2;go_wp2_with fail;go_roundw
   case rel=>exact⟨k+1,col3,by omega,by go_num,by rw[hrs];exact H3.out⟩
   case measure=>simp[intOf];omega
  ·have hkI:¬((k:Int)<8):=by omega
   obtain rfl:k=8:=by omega
   clear hs;go_wp2_with fail;go_ret;exact⟨_,rfl,col',HS.out⟩
end Go.Proofs.YtbdobaapadlcjabGreatDoor
