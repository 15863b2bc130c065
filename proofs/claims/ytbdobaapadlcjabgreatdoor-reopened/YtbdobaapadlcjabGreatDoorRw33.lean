import Derived.Test.YtbdobaapadlcjabGreatDoorRw32
set_option maxRecDepth 8000
set_option maxHeartbeats 4000000
set_option linter.unusedVariables false
set_option linter.unusedSimpArgs false
namespace Go.Proofs.YtbdobaapadlcjabGreatDoor
open Go.RowKit
variable {B st b x j d:Nat}{w:World}{col:Nat->Nat}{c:Nat->Option QM}{v:Value}
theorem PlG.any {N:Prop}{J:World->Prop}{K:ByteArray->World->Prop}{e:Ending}(h:PlG B N J K e w):PlG B True J K e w:=by
 obtain⟨t,⟨h1,h2,h3⟩|h⟩:=h
 ·exact⟨t,.inl ⟨h1,trivial,h3⟩⟩
 ·exact⟨t,.inr h⟩
theorem plan_str (B:Nat)(s:ByteArray)(X:Gh B)(st b:Nat)(now:Int)(c:Nat->Option QM)(col:Nat->Nat)(w:World)(hE:Env B w)(hb:Sk B w X st b now c col)(hg:parseGood s=true)(W:World)(y:Sl)(ht:Tch [] w W)(hy:YS w W y (endSt s).bs):
  Calls Tryz.prog 30 #[.pointer (some ⟨st,0,none⟩),.agg (cellsOf (endSt s).r y.v)] W fun e w'=>Tch [] W w'/\PlG B True (fun w'=>X.JO w col w') (fun t w'=>t=(doStr now c s).1/\Sd B X st b w col (doStr now c s).2.1 (doStr now c s).2.2 w') e w':=by
 obtain⟨Z,hsg,hc⟩:=hb.sg
 by_cases hop:(endSt s).r.op.toNat=66
 ·obtain⟨⟨l1,l2⟩,l3⟩:=batch_bs s hg hop;have e:doStr now c s=(okL (ansB (endSt s).bs.length (doL now c (endSt s).bs).1),now,(doL now c (endSt s).bs).2):=by unfold doStr;rw[if_pos hg,if_pos hop]
  rw[e];refine(plan_p (N:=(doL now c (endSt s).bs).2=c) B _ _ (endSt s).r y st b 1 118 now _ W hop (by decide) (hsg.tch ht).stb rfl eg158b (fun W1 ht1=>?_)).mono (fun e w' he=>⟨he.1,PlG.any he.2⟩);obtain⟨bb,ob,yc,rfl,_,h5,h6⟩:=(hy.tch ht1).at l1;exact batch_any B (endSt s).r X st b bb ob yc now c col (endSt s).bs w hE hb Z none 0 hsg hc W1 (ht.trans ht1 (by simp)) l2 l3 h5 h6
 ·have hrq:=rq_ok (end_wf s) (good_right s hg hop).1;have e:doStr now c s=doQ now c (endSt s).r:=by unfold doStr;rw[if_pos hg,if_neg hop]
  rw[e];exact(op_any B (endSt s).r X st b now c col w hE hb hrq hop Z none 0 hsg hc W y ht).mono (fun e w' he=>⟨he.1,PlG.any he.2⟩)
theorem sdo_any (B:Nat)(s:ByteArray)(st b:Nat)(now:Int)(c:Nat->Option QM)(col:Nat->Nat)(w:World)(hE:Env B w)(hb:Sk B w (Gh.tt B) st b now c col)(hg:parseGood s=true)(W:World)(y:Sl)(ht:Tch [] w W)(hy:YS w W y (endSt s).bs):
  Calls Tryz.prog 64 #[.pointer (some ⟨st,0,none⟩),.agg (cellsOf (endSt s).r y.v)] W fun e w'=>(∃t,e=.returned (.string t))/\Sd B (Gh.tt B) st b w col (doStr now c s).2.1 (doStr now c s).2.2 w':=by
 have HP:Hid (∀W2,Tch [] W W2->Calls Tryz.prog 30 #[.pointer (some ⟨st,0,none⟩),.agg (cellsOf (endSt s).r y.v)] W2 fun e w'=>Tch [] W2 w'/\PlG B True (fun w'=>(Gh.tt B).JO w col w') (fun t w'=>t=(doStr now c s).1/\Sd B (Gh.tt B) st b w col (doStr now c s).2.1 (doStr now c s).2.2 w') e w'):=fun W2 h2=>plan_str B s (Gh.tt B) st b now c col w hE hb hg W2 y (ht.trans h2 (by simp)) (hy.tch h2)
 have hT:=zH ht;have hinf:=info24;generalize (endSt s).r=r at*
 generalize (doStr now c s).1=A at*
 generalize (doStr now c s).2.1=n1 at*
 generalize (doStr now c s).2.2=c1 at*
 have HTA:Hid (∀o,Tch [] W (W.alloc o)):=fun o=>(Tch.refl [] W).alloc o
 clear hE hb hg hy ht;rw[zM r y]at HP ⊢;go_enter Tryz.func64,Tryz.ntmps64;go_wp2_with fail;refine(HP.out _ (HTA.out _)).mono ?_;rintro e w1 ⟨t1,hpl⟩;have T1:Hid (Tch [] w w1):=(hT.out.trans (HTA.out _) (by simp)).trans t1 (by simp);obtain⟨t,⟨rfl,_,hk⟩|⟨f,cap,rfl,heg,hk⟩⟩:=hpl
 ·have HK:=zH (hk w1 (Tch.refl _ _));have s0:∀W:World,(binOp .neq 1 .nilFunc .nilFunc).run Tryz.prog W=.ok (.bool false) W:=fun W=>by kernel_rfl
  clear hk t1 HP HTA;go_wp2_with fail;go_ret;exact⟨⟨_,rfl⟩,HK.out.2⟩
 ·have HK:=zH (hk w1 w1 (Tch.refl _ _) (Fr.refl _ _ _) ⟨trivial,fun q hq h9=>T1.out.block q hq (by simp)⟩);have s1:=func_nn (.func f) #[] cap;clear hk t1 HP HTA;go_wp2_with (go_at_fn f;refine HK.out.mono ?_;rintro e w3 ⟨rfl,_,hd⟩;have HD:=zH hd;clear hd HK);go_ret;exact⟨⟨_,rfl⟩,HD.out⟩
theorem SG.full {S:Nat}{now:Int}{Z:Nat->Option BQ}(h:SG S w st b now Z col)(hB:B<=S)(hc:∀i,i<8->ctZ Z i=c i):∃Z',SG B w st b now Z' col/\ctZ Z'=c:=by
 refine⟨fun i=>if i<8 then Z i else (c i).map (fun Q=>⟨0,nilV,Q⟩),⟨?_,h.tb,fun i x hi hx=>?_,fun i x hi hx=>?_,fun i x hi hx k hk=>?_,Nat.le_trans hB h.ls,h.cs⟩,?_⟩
 ·have h1:w.heap[st]?=_:=h.stb;exact h1
 ·rw[if_pos hi]at hx;exact h.qr i x hi hx
 ·rw[if_pos hi]at hx;exact h.cl i x hi hx
 ·rw[if_pos hi]at hx;exact Nat.le_trans hB (h.lo i x hi hx k hk)
 ·funext i;unfold ctZ
  by_cases hi:i<8
  ·simp only[hi,if_true];exact hc i hi
  ·simp only[hi,if_false]
   cases c i<;>rfl
structure Rrs (B:Nat)(w:World)(st b:Nat)(p:Int×(Nat->Option QM))(col:Nat->Nat)(W:World):Prop where
 sk:Sk B W (Gh.tt B) st b p.1 p.2 col
 old:∀k,k<w.heap.size->col k=9
 tch:Tch [] w W
theorem Rrs.next {W W':World}{p:Int×(Nat->Option QM)}(h:Rrs B w st b p col W){n:Int}{c:Nat->Option QM}(hd:Sd B (Gh.tt B) st b W col n c W'):∃col',Rrs B w st b (n,c) col' W':=by
 obtain⟨col',h1,h2,h3⟩:=hd;have hz:=h.tch.size;exact⟨col',h1,fun k hk=>(h2.1 k (by omega)).trans (h.old k hk),⟨h3.os.trans h.tch.os,h3.tape.trans h.tch.tape,h3.output.trans h.tch.output,Nat.le_trans hz h3.size,fun k hk hn=>(h3.out k (by omega) (h.old k hk)).trans (h.tch.block k hk (by simp))⟩⟩
theorem runS_snoc (p:Int×(Nat->Option QM))(ss:List ByteArray)(s:ByteArray):runS p (ss++[s])=(doStr (runS p ss).1 (runS p ss).2 s).2:=by
 unfold runS;rw[List.foldl_append];rfl
theorem restore_l (B:Nat)(n0:Int)(c0:Nat->Option QM)(ss:List ByteArray)(ra:Option Addr)(rc:Nat)(w:World)(hE:Env B w)(hW:WFc c0)(hn:0<=n0/\n0<=60000)(hl:(wholeC n0 c0).length<=1000000)(hs:∀s∈ss,parseGood s=true)(hS:Strs w ra ss)(hsl:ss.length<=1000000):
  Calls Tryz.prog 34 #[.string (BA (wholeC n0 c0)),.slice ra ss.length rc] w fun e w'=>∃st b col,e=.returned (.tuple #[.pointer (some ⟨st,0,none⟩),.bool true])/\Rrs B w st b (runS (n0,c0) ss) col w':=by
 have HRD:Hid (Calls Tryz.prog 63 #[.string (BA (wholeC n0 c0))] w fun e w'=>∃st b col,e=.returned (.tuple #[.pointer (some ⟨st,0,none⟩),.bool true])/\Rrs B w st b (n0,c0) col w'):=by
  refine(sread_any B n0 c0 (fun k=>if k<w.heap.size then 9 else 0) w hE hW hn (fun k hk=>by rw[if_neg (by omega)];decide) hl).mono ?_;rintro e w' ⟨st,b,Z,col,he,h1,h2,h3,h4,h5⟩;obtain⟨Z',h6,h7⟩:=h1.full hE.size h2;exact⟨st,b,col,he,⟨⟨Z',h6,h7⟩,hW,hn,.inl trivial,fun k hk=>h4 k (Nat.le_trans h5.size hk)⟩,fun k hk=>(h3 k hk).trans (if_pos hk),h5⟩
 have hne:(BA (wholeC n0 c0)).toList.isEmpty=false:=ne_nil _ (by
  rw[BA_size];unfold wholeC;rw[List.length_append,lowB_length];omega)
 have HPA:Hid (∀W (k:Nat) (hk:k<ss.length),Tch [] w W->Calls Tryz.prog 28 #[.string ss[k]] W fun e w'=>∃x:Sl,e=.returned (.tuple #[.agg (cellsOf (endSt ss[k]).r x.v),.int .i64 0])/\YS W w' x (endSt ss[k]).bs/\Tch [] W w'):=fun W k hk ht=>by
  have hg:=hs _ (List.getElem_mem hk);have hE':=hE.tch ht (by simp);have hsz:=good_size _ hg;refine(parse_any B _ W (by unfold maxLen;omega) hE'.lays hE'.size).mono ?_;rintro e w' ⟨⟨_,x,he,hxn,hfs⟩|⟨hb,_⟩,hbl⟩
  ·exact⟨x,he,⟨hxn,hfs⟩,Tch.of_below hbl⟩
  ·rw[hg]at hb
   cases hb
 have HDO:Hid (∀W W2 (k:Nat) (hk:k<ss.length) st b col (y:Sl),Rrs B w st b (runS (n0,c0) (ss.take k)) col W->Tch [] W W2->YS W W2 y (endSt ss[k]).bs->Calls Tryz.prog 64 #[.pointer (some ⟨st,0,none⟩),.agg (cellsOf (endSt ss[k]).r y.v)] W2 fun e w'=>(∃t,e=.returned (.string t))/\∃col',Rrs B w st b (runS (n0,c0) (ss.take (k+1))) col' w'):=fun W W2 k hk st b col y h ht hy=>by
  refine(sdo_any B ss[k] st b _ _ col W (hE.tch h.tch (by simp)) h.sk (hs _ (List.getElem_mem hk)) W2 y ht hy).mono ?_;rintro e w' ⟨he,hd⟩;refine⟨he,?_⟩;rw[List.take_succ_eq_append_getElem hk,runS_snoc];exact h.next hd
 have HSS:Hid (∀W,Tch [] w W->Strs W ra ss):=fun W ht=>hS.below (ht.below (by simp) (Nat.le_refl _))
 have hinf:=info24;clear hE hW hn hl hs hS;generalize BA (wholeC n0 c0)=S0 at*
 go_enter Tryz.func34,Tryz.ntmps34;go_wp2_with fail;refine HRD.out.mono ?_;rintro e w1 ⟨st,b,col,rfl,h1⟩;have H1:=zH h1;clear h1 HRD;go_wp2_with fail
 go_loopw [24] (fun v wr=>∃(k:Nat) (cl:Nat->Nat),k<=ss.length/\v=.int .i64 (k:Int)/\Rrs B w st b (runS (n0,c0) (ss.take k)) cl wr) (fun v _=>ss.length-(intOf v).toNat)
 case atStart=>exact⟨0,col,Nat.zero_le _,rfl,H1.out⟩
 case round=>
  obtain⟨k,cl,hk,rfl,hr⟩:=hrel;have HR:=zH hr
  by_cases hlt:k<ss.length
  ·have hkI:(k:Int)<(ss.length:Int):=by omega
   obtain⟨g,o,rfl,hc⟩:=HSS.out wr hr.tch k hlt;have HP:=zH (HPA.out wr k hlt hr.tch);have HD:=zH (fun W2 y=>HDO.out wr W2 k hlt st b cl y hr);clear hr HSS HPA HDO H1;generalize ss[k]=s at*
   go_wp2_with fail;refine HP.out.mono ?_;rintro e w2 ⟨x,rfl,hys,t2⟩;have tl:=laidIn_tch w2 (cellsOf (endSt s).r x.v);have HDD:=zH (HD.out (laidIn w2 (cellsOf (endSt s).r x.v)) x (t2.trans tl (by simp)) (hys.tch tl));clear hys t2 tl HP HD hc;go_wp2_with (first|(refine wpList_store_row rfl 24 _ _ rfl w2.heap.size (cellsOf (endSt s).r x.v) rfl rfl 24 _ (heap_alloc_new _ _) hinf rfl (cells_one _ _) ?_)|(refine wpList_load_row rfl 24 _ rfl w2.heap.size rfl 24 (cellsOf (endSt s).r x.v) (0,0) _ (laidIn_heap _ _) Tryz.underlying24 rfl hinf ?_));refine HDD.out.mono ?_;rintro e w3 ⟨⟨t,rfl⟩,cl',h3⟩;have H3:=zH h3;clear h3 HDD;go_wp2_with fail;go_roundw
   case rel=>exact⟨k+1,cl',by omega,by go_num,H3.out⟩
   case measure=>simp[intOf];omega
  ·have hkI:¬((k:Int)<(ss.length:Int)):=by omega
   have hke:k=ss.length:=by omega
   have HF:Hid (Rrs B w st b (runS (n0,c0) ss) cl wr):=by
    rw[hke,List.take_length]at hr;exact hr
   clear hr HSS HPA HDO H1;go_wp2_with fail;go_ret2;exact⟨st,rfl,b,cl,HF.out⟩
structure Rok (r:Wp.Rq):Prop where
 wf:Wf r
 right:rightW r nil0 (Wp.short [])=true
 small:(printS r nil0 []).size<=90000
theorem create_g (B:Nat)(r:Wp.Rq)(x st b i:Nat)(now:Int)(c:Nat->Option QM)(col:Nat->Nat)(w:World)(hE:Env B w)(hb:Bk B w x st b now c col)(hr:Rok r)(hop:r.op=67)(hi:i<8)(hq:r.q.toNat=97+i)(hno:c i=none):
  Calls Tryz.prog 21 #[.pointer (some ⟨x,0,none⟩),.agg (cellsOf r nil0.v)] w fun e w'=>e=.returned (.bool true)/\Did B x st b w col now (setC c i (some (newM r))) w':=by
 refine create_walk _ B r x w hr.right hE.lays hE.size (fun W hbW=>?_);obtain⟨hg,h1,_⟩:=print_good r nil0 [] hr.wf rfl hr.right;have tb:=Tch.of_below hbW;have e:doStr now c (printS r nil0 [])=(okL [],now,setC c i (some (newM r))):=by
  have hqi:qiR r=i:=by unfold qiR;omega
  unfold doStr;rw[if_pos hg,h1,if_neg (by rw[hop];decide)];unfold doQ;rw[hop,hqi,hno];rfl
 refine(do_any B (printS r nil0 []) x st b now c col W (hE.tch tb (by simp)) (hb.tch tb) (by have:=hr.small;unfold maxLen;omega)).mono ?_;rw[e];rintro e w' ⟨rfl,col',h2,h3,h4⟩;exact⟨rfl,col',h2,⟨fun k hk=>h3.1 k (Nat.lt_of_lt_of_le hk tb.size),h3.2⟩,(FqT.of_nil col tb hE.size).trans (Agr.refl _ _) h4⟩
theorem Opn.bk (h:Opn B w x st b j d (.slice none 0 0))(hd:B<=d)(col:Nat->Nat)(hcl:∀k,B<=k->col k≠9)(h0:col 0=d+10)(hB:B<=w.heap.size):Bk B w x st b 0 (fun _=>none) col:=by
 refine⟨⟨fun _=>none,⟨h.brk.hst,h.brk.tb,fun i x _ hx=>by simp at hx,fun i x _ hx=>by simp at hx,fun i x _ hx=>by simp at hx,h.lo.2.1,hcl st h.lo.2.1⟩,rfl⟩,fun i Q _ hQ=>by simp at hQ,⟨by omega,by omega⟩,⟨none,0,⟨j,d,.slice none 0 0,0,0,h.hx,h.jr,fun k hk=>?_,?_,fun k hk=>?_,h0⟩,.inl ⟨rfl,Int.le_refl _,rfl,rfl⟩⟩,fun k hk=>hcl k (Nat.le_trans hB hk)⟩
 ·simp[jbl,Dk.bl,Value.ownBlock]at hk;rcases hk with rfl|rfl
  ·exact h.lo.2.2.1
  ·exact hd
 ·show (0<0->((0:Nat):Int)+0<=217000)/\(0:Nat)<=310000/\_
  omega
 ·simp[jbl,Dk.bl,Value.ownBlock]at hk;rcases hk with rfl|rfl
  ·exact hcl _ h.lo.2.2.1
  ·exact hcl _ hd
theorem rd_one (o:Option ByteArray)(k:Nat)(hk:k<(fileO o).length):Dk.rd (fileO o)[k].name (fileO o)=datO o:=by
 cases o with
 | none=>exact absurd hk (by simp[fileO])
 | some a=>
  have hk0:k=0:=by simp[fileO]at hk;omega
  subst hk0;rw[Dk.rd_some (k:=0) hk (Dk.fnd_at _ _ 0 hk (by simp[Dk.isN]) (fun j hj=>absurd hj (by omega)))];rfl
def roomF (F W0:ByteArray):Int:=max 0 (16384-((F.size:Int)-(W0.size:Int)))
theorem jopen_some (B d:Nat)(v:Value)(W0:ByteArray)(ss:List ByteArray)(w:World)(hE:Env B w)(h:Dd0 w d v (fileO (some (BA ((W0::ss).flatMap recB)))))(hl:((W0::ss).flatMap recB).length<=1000000):
  Calls Tryz.prog 33 #[.pointer (some ⟨d,0,none⟩)] w fun e w'=>∃ra rc,e=.returned (.tuple #[.pointer (some ⟨w.heap.size,0,none⟩),.string W0,.slice ra ss.length rc])/\w'.heap[w.heap.size]?=some (.cells #[.pointer (some ⟨d,0,none⟩),.int .i64 (roomF (BA ((W0::ss).flatMap recB)) W0),.bool false] 85 (0,0))/\Strs w' ra ss/\Tch [] w w':=by
 obtain⟨F,hF⟩:∃F,F=BA ((W0::ss).flatMap recB):=⟨_,rfl⟩;have hFs:F.size<=1000000:=by rw[hF,BA_size];exact hl
 have hWs:W0.size<=F.size:=by
  rw[hF,BA_size,List.flatMap_cons,List.length_append,recB_length];omega
 have hsl:ss.length<=1000000:=by
  have:=recs_len (W0::ss);rw[List.length_cons]at this;omega
 have HRC:Hid (∀W,Tch [] w W->Calls Tryz.prog 60 #[.string F] W fun e w'=>∃v,e=.returned (.tuple #[v,.bool true])/\Dk.OwnS w' v (W0::ss)/\(∀k,v.ownBlock=some k->W.heap.size<k)/\Tch [] W w'):=fun W ht=>by
  rw[hF];exact readRecs_l B (W0::ss) W (hE.tch ht (by simp)) hl
 rw[<-hF]at h ⊢;have HRD:Hid (∀W,Tch [] w W->zE 37 #[.pointer (some ⟨d,0,none⟩),.string jn] W (.string F)):=fun W ht=>by
  have h':=h.tch ht (by simp);have h1:=Dk.read_d d v (-1) false _ jn W h'.blk h'.own (by simp[fileO]);have h2:Dk.rd jn (fileO (some F))=F:=rd_one (some F) 0 (by simp[fileO]);rw[h2]at h1;exact h1
 have HHS:Hid (∀W,Tch [] w W->zE 61 #[.pointer (some ⟨d,0,none⟩),.string jw] W (.bool false)):=fun W ht=>by
  have h':=h.tch ht (by simp);have h1:=Dk.has_d d v (-1) false _ jw W h'.blk h'.own (by simp[fileO]);rw[fnd_jw]at h1;exact h1
 have HTA:Hid (∀o,Tch [] w (w.alloc o)):=fun o=>(Tch.refl [] w).alloc o
 clear hE h hl hF;go_enter Tryz.func33,Tryz.ntmps33;go_wp2_with fail;refine(HRD.out _ (HTA.out _)).mono ?_;rintro e w1 ⟨rfl,hw1⟩;have H1:Hid (Tch [] w w1/\w1.heap[w.heap.size]?=some (.cells #[.pointer (some ⟨d,0,none⟩),.int .i64 0,.bool false] 85 (0,0))):=by
  rw[hw1];exact⟨HTA.out _,heap_alloc_new _ _⟩
 clear hw1 HRD HTA;go_wp2_with fail;refine(HRC.out w1 H1.out.1).mono ?_;rintro e w2 ⟨rv,rfl,ho2,hn2,t2⟩;have H2:Hid (Tch [] w w2/\w2.heap[w.heap.size]?=some (.cells #[.pointer (some ⟨d,0,none⟩),.int .i64 0,.bool false] 85 (0,0))):=⟨H1.out.1.trans t2 (by simp),(t2.block _ (lt_of_block H1.out.2) (by simp)).trans H1.out.2⟩;obtain⟨g,cap,hrv,hcs,hcap,hcm⟩:=strs_range (l:=W0::ss) ho2 rfl (by simp);subst hrv;have cj:w2.cell? ⟨w.heap.size,1,none⟩=some (.int .i64 0):=cell_qC H2.out.2 1 _ rfl;have zj:w2.frozen? ⟨w.heap.size,1,none⟩=false:=frozen_of_row w2 _ _ _ 85 H2.out.2;have c0:w2.cell? ⟨g,0,none⟩=some (.string W0):=hcs 0 (by simp);have HHH:=zH (HHS.out w2 H2.out.1);have HHD:=zH (HHS.out w2.drew H2.out.1.drew);have hln:(W0::ss).length=ss.length+1:=rfl;rw[hln]at hcap ⊢;have HSR:Hid (Strs w2 (some ⟨g,1,none⟩) ss):=fun j hj=>⟨g,1,rfl,by
  have:=hcs (j+1) (by simp;omega);rw[Nat.add_comm 1 j];simpa using this⟩
 have hgw:g≠w.heap.size:=fun e=>by
  have:=hn2 g rfl;have:=H1.out.1.size;omega
 have hne0:¬((ss.length+1:Nat):Int)=0:=by omega
 clear hcs ho2 hn2 t2 H1 HHS HRC;have hsr1:ss.length=(ss.length+1)-1:=by omega
 obtain⟨n,hnn⟩:∃n,n=ss.length+1:=⟨_,rfl⟩;rw[<-hnn]at hcap ⊢;have HN:=zH hnn;have h1n:1<=n:=by omega
 have h1nI:(1:Int)<=(n:Int):=by omega
 have h0nI:(0:Int)<(n:Int):=by omega
 have h0n:0<n:=by omega
 have hnc:(n:Int)<=(cap:Int):=by omega
 have hc1I:(1:Int)<=(cap:Int):=by omega
 have h1c:1<=cap:=by omega
 have hn0:¬((n:Int)=0):=by omega
 have hn0':((n:Int) == 0)=false:=by simp;omega
 have hnb:n<=1000001:=by omega
 clear hnn hne0 hsr1;have HFN:Hid (∀ra:Option Addr,Strs w2 ra ss->(w2.setCell ⟨w.heap.size,1,none⟩ (.int .i64 (roomF F W0))).drew.heap[w.heap.size]?=some (.cells #[.pointer (some ⟨d,0,none⟩),.int .i64 (roomF F W0),.bool false] 85 (0,0))/\Strs (w2.setCell ⟨w.heap.size,1,none⟩ (.int .i64 (roomF F W0))).drew ra ss/\Tch [] w (w2.setCell ⟨w.heap.size,1,none⟩ (.int .i64 (roomF F W0))).drew):=fun ra hra=>by
  have t1:=set_tch w2 w.heap.size 1 (.int .i64 (roomF F W0));refine⟨heap_setCell_same w2 w.heap.size 1 _ 85 _ H2.out.2,fun j hj=>?_,(H2.out.1.trans t1 (fun k hk hl=>by simp at hk;omega)).drew⟩
  obtain⟨b',o',e1,e2⟩:=hra j hj
  by_cases hbw:b'=w.heap.size
  ·subst hbw;have h3:=cell_of_row w2 w.heap.size (o'+j) _ 85 (0,0) H2.out.2;rw[e2]at h3;have h4:o'+j=0\/o'+j=1\/o'+j=2\/3<=o'+j:=by omega
   rcases h4 with h4|h4|h4|h4
   ·rw[h4]at h3
    cases h3
   ·rw[h4]at h3
    cases h3
   ·rw[h4]at h3
    cases h3
   ·rw[Array.getElem?_eq_none (by simpa using h4)]at h3
    cases h3
  ·exact⟨b',o',e1,(t1.cell (a:=⟨b',o'+j,none⟩) (World.block_lt_of_cell? _ _ e2) (by simpa using hbw)).trans e2⟩
 have hn1:n-1=ss.length:=by have:=HN.out;omega
 by_cases hc1:cap=1
 ·subst hc1;obtain rfl:n=1:=by omega
  have hs0:ss.length=0:=by omega
  go_upto_region 6 with fail
  go_region_held3 (fun w'=>w'.cell? ⟨g,0,none⟩=some (.string W0)) (go_keep) (fail)
  go_wp2_with (first|(go_at_call 61;refine HHH.out.mono ?_;rintro e w3 ⟨rfl,rfl⟩)|(go_at_call 61;refine HHD.out.mono ?_;rintro e w3 ⟨rfl,rfl⟩));go_ret3;obtain⟨q1,q2,q3⟩:=HFN.out (some ⟨g,0,none⟩) (fun j hj=>absurd hj (by omega));refine⟨some ⟨g,0,none⟩,0,?_,q1,q2,q3⟩;rw[hs0];rfl
 ·have hc2:¬(1=cap):=fun e=>hc1 e.symm
  have hc3:1<cap:=by omega
  have hc3I:(1:Int)<(cap:Int):=by omega
  go_upto_region 6 with fail
  go_region_held3 (fun w'=>w'.cell? ⟨g,0,none⟩=some (.string W0)) (go_keep) (fail)
  go_wp2_with (first|(go_at_call 61;refine HHH.out.mono ?_;rintro e w3 ⟨rfl,rfl⟩)|(go_at_call 61;refine HHD.out.mono ?_;rintro e w3 ⟨rfl,rfl⟩));go_ret3;obtain⟨q1,q2,q3⟩:=HFN.out (some ⟨g,1,none⟩) HSR.out;refine⟨some ⟨g,1,none⟩,cap-1,?_,q1,q2,q3⟩;rw[<-hn1];rfl
def colD (d j:Nat)(v:Value)(col:Nat->Nat):Nat->Nat:=fun k=>if k=0 then d+10 else if k=d\/v.ownBlock=some k\/k=j then 0 else col k
theorem colD_ne {k:Nat}(h:col k≠9):colD d j v col k≠9:=by
 unfold colD
 split
 ·omega
 ·split
  ·omega
  ·exact h
def filB (n0:Int)(c0:Nat->Option QM)(ss:List ByteArray):ByteArray:=BA ((BA (wholeC n0 c0)::ss).flatMap recB)
theorem open_asm {nn kk:Nat}{w1 w3:World}{n0:Int}{c0:Nat->Option QM}{ss:List ByteArray}(h3:3<=B)(hr:Rrs B w1 st b (runS (n0,c0) ss) col w3)(hd:d<w1.heap.size)(hv:∀k,v.ownBlock=some k->k<w1.heap.size)(hj:j<w1.heap.size)(hBd:B<=d)(hBv:∀k,v.ownBlock=some k->B<=k)(hBj:B<=j)(h0:B<=w1.heap.size)
  (hx:w3.heap[x]?=some (.cells #[.pointer (some ⟨st,0,none⟩),.pointer (some ⟨j,0,none⟩)] 60 (0,0)))(hJ:Jr w3 j d (roomF (filB n0 c0 ss) (BA (wholeC n0 c0))) v (fileO (some (filB n0 c0 ss))) nn kk)
  (hF:(filB n0 c0 ss).size<=310000)(hW0:(BA (wholeC n0 c0)).size<=160000)(hle:(BA (wholeC n0 c0)).size<=(filB n0 c0 ss).size)(hW:WFc c0)(hn:0<=n0/\n0<=60000)(hs:∀s∈ss,parseGood s=true):
  Bk B w3 x st b (runS (n0,c0) ss).1 (runS (n0,c0) ss).2 (colD d j v col):=by
 obtain⟨⟨Z,hsg,hc⟩,hwf,hnw,_,hfu⟩:=hr.sk;have hsp:∀k,col k≠9->colD d j v col k=col k:=fun k hk=>by
  have hk1:¬k<w1.heap.size:=fun h=>hk (hr.old k h)
  unfold colD;rw[if_neg (by omega),if_neg (fun h=>?_)];rcases h with h|h|h
  ·omega
  ·exact hk1 (hv k h)
  ·omega
 refine⟨⟨Z,⟨hsg.stb,hsg.tb,hsg.qr,fun i y hi hy k hk=>?_,hsg.lo,hsg.ls,colD_ne hsg.cs⟩,hc⟩,hwf,hnw,⟨some (filB n0 c0 ss),_,⟨j,d,v,nn,kk,hx,hJ,fun k hk=>?_,?_,fun k hk=>?_,if_pos rfl⟩,.inr ⟨n0,c0,ss,?_,hW,hn,hs,rfl⟩⟩,fun k hk=>colD_ne (hfu k hk)⟩
 ·have h1:=hsg.cl i y hi hy k hk;rw[hsp k (by omega)];exact h1
 ·rcases List.mem_cons.1 hk with e|e
  ·rw[e];exact hBj
  ·rcases List.mem_cons.1 e with e|e
   ·rw[e];exact hBd
   ·exact hBv k (by simpa [Option.mem_toList]using e)
 ·show (0<roomF _ _->((filB n0 c0 ss).size:Int)+roomF _ _<=217000)/\(filB n0 c0 ss).size<=310000/\_
  unfold roomF;omega
 ·have hk':k=d\/v.ownBlock=some k\/k=j:=by
   rcases List.mem_cons.1 hk with e|e
   ·exact .inr (.inr e)
   ·rcases List.mem_cons.1 e with e|e
    ·exact .inl e
    ·exact .inr (.inl (by simpa [Option.mem_toList]using e))
  unfold colD
  by_cases hk0:k=0
  ·rw[if_pos hk0];omega
  ·rw[if_neg hk0,if_pos hk'];decide
 ·unfold filB;rw[List.flatMap_cons];rfl
theorem open_file (B d nn kk:Nat)(v:Value)(n0:Int)(c0:Nat->Option QM)(ss:List ByteArray)(w:World)(hE:Env B w)(h:Dd0 w d v (fileO (some (filB n0 c0 ss))))(hg:Gd0 (fileO (some (filB n0 c0 ss))) nn kk)(hBd:B<=d)(hBv:∀k,v.ownBlock=some k->B<=k)(hF:(filB n0 c0 ss).size<=310000)(hW:WFc c0)(hn:0<=n0/\n0<=60000)(hs:∀s∈ss,parseGood s=true):
  Calls Tryz.prog 14 #[.pointer (some ⟨d,0,none⟩)] w fun e w'=>∃x st b j col,e=.returned (.tuple #[.pointer (some ⟨x,0,none⟩),.int .i64 0])/\Bk B w' x st b (runS (n0,c0) ss).1 (runS (n0,c0) ss).2 (colD d j v col)/\(∀k,k<w.heap.size->col k=9)/\w.heap.size<=j/\Tch [] w w':=by
 have hdl:d<w.heap.size:=lt_of_block h.blk;have hvl:∀k,v.ownBlock=some k->k<w.heap.size:=fun k hk=>own_lt h.own hk
 have hBw:=hE.size;have hFl:((BA (wholeC n0 c0)::ss).flatMap recB).length<=310000:=by
  unfold filB at hF;rw[BA_size]at hF;exact hF
 have hle:(BA (wholeC n0 c0)).size<=(filB n0 c0 ss).size:=by
  unfold filB;rw[BA_size,BA_size,List.flatMap_cons,List.length_append,recB_length,BA_size];omega
 have hsl:ss.length<=1000000:=by
  have:=recs_len (BA (wholeC n0 c0)::ss);rw[List.length_cons]at this;omega
 have hW0:(BA (wholeC n0 c0)).size<=160000:=by
  obtain⟨Z,hZ⟩:∃Z:Nat->Option BQ,ctZ Z=c0:=⟨fun i=>(c0 i).map (fun Q=>⟨0,nilV,Q⟩),by
   funext i
   show ((c0 i).map (fun Q=>(⟨0,nilV,Q⟩:BQ))).map BQ.Q=c0 i
   cases c0 i<;>rfl⟩
  rw[BA_size,<-hZ,<-wholeB_c];exact wholeB_len (fun i x hi hx=>(hW i x.Q hi (by rw[<-hZ];exact ctZ_some hx)).ok)
 have HST:=zH (Dk.stopped_d d v (-1) false w h.blk);have HJO:=zH (jopen_some B d v (BA (wholeC n0 c0)) ss w hE h (by omega));rw[show BA ((BA (wholeC n0 c0)::ss).flatMap recB)=filB n0 c0 ss from rfl]at HJO
 have HRS:Hid (∀W ra rc,Tch [] w W->Strs W ra ss->Calls Tryz.prog 34 #[.string (BA (wholeC n0 c0)),.slice ra ss.length rc] W fun e w'=>∃st b col,e=.returned (.tuple #[.pointer (some ⟨st,0,none⟩),.bool true])/\Rrs B W st b (runS (n0,c0) ss) col w'):=fun W ra rc ht hS=>restore_l B n0 c0 ss ra rc W (hE.tch ht (by simp)) hW hn (by rw[BA_size]at hW0;omega) hs hS hsl
 have HDD:Hid (∀W,Tch [] w W->Dd0 W d v (fileO (some (filB n0 c0 ss)))):=fun W ht=>h.tch ht (by simp)
 have HFN:Hid (∀w1 w2 w3 st b x col,Tch [] w w1->w.heap.size<w1.heap.size->w1.heap[w.heap.size]?=some (.cells #[.pointer (some ⟨d,0,none⟩),.int .i64 (roomF (filB n0 c0 ss) (BA (wholeC n0 c0))),.bool false] 85 (0,0))->Rrs B w1 st b (runS (n0,c0) ss) col w2->Tch [] w2 w3->w3.heap[x]?=some (.cells #[.pointer (some ⟨st,0,none⟩),.pointer (some ⟨w.heap.size,0,none⟩)] 60 (0,0))->Bk B w3 x st b (runS (n0,c0) ss).1 (runS (n0,c0) ss).2 (colD d w.heap.size v col)/\(∀k,k<w.heap.size->col k=9)/\Tch [] w w3):=fun w1 w2 w3 st b x col t1 hz1 hj hr t3 hx=>by
  have hr3:Rrs B w1 st b (runS (n0,c0) ss) col w3:=⟨hr.sk.tch t3,hr.old,hr.tch.trans t3 (by simp)⟩;refine⟨open_asm hE.three hr3 (by omega) (fun k hk=>by have:=hvl k hk;omega) hz1 hBd hBv hBw (by omega) hx ⟨(hr3.tch.block _ hz1 (by simp)).trans hj,HDD.out w3 (t1.trans hr3.tch (by simp)),hg⟩ hF hW0 hle hW hn hs,fun k hk=>hr.old k (by omega),t1.trans hr3.tch (by simp)⟩
 clear hE h hg hF hW hn hs hFl HDD;generalize BA (wholeC n0 c0)=W0 at*
 generalize filB n0 c0 ss=F at*
 generalize runS (n0,c0) ss=p at*
 go_enter Tryz.func14,Tryz.ntmps14;go_wp2_with fail;refine HST.out.mono ?_;rintro e w0 ⟨rfl,h0⟩;subst h0;go_wp2_with fail;refine HJO.out.mono ?_;rintro e w1 ⟨ra,rc,rfl,hj1,hs1,t1⟩;have hz1:=lt_of_block hj1;have H1:=zH (⟨t1,hz1,hj1⟩:Tch [] w0 w1/\w0.heap.size<w1.heap.size/\_);have HR1:=zH (HRS.out w1 ra rc t1 hs1);clear hj1 hs1 t1 hz1 HJO HRS HST;go_wp2_with fail;refine HR1.out.mono ?_;rintro e w2 ⟨st,b,col,rfl,hr⟩;have H2:=zH hr;clear hr HR1;go_wp2_with fail;go_ret2;obtain⟨q1,q2,q3⟩:=HFN.out w1 w2 _ st b w2.heap.size col H1.out.1 H1.out.2.1 H1.out.2.2 H2.out ((Tch.refl [] w2).alloc _) (heap_alloc_new _ _);exact⟨_,st,b,_,col,rfl,q1,q2,Nat.le_refl _,q3⟩
theorem alike_same (ga ca gb cb:Nat)(l:List ByteArray)(w:World)(hl:l.length<=1000000)(h1:∀j (hj:j<l.length),w.cell? ⟨ga,j,none⟩=some (.string l[j]))(h2:∀j (hj:j<l.length),w.cell? ⟨gb,j,none⟩=some (.string l[j])):
  zT 13 #[.slice (some ⟨ga,0,none⟩) l.length ca,.slice (some ⟨gb,0,none⟩) l.length cb] w (.bool true):=by
 have HA:=zH h1;have HB:=zH h2;clear h1 h2;go_enter Tryz.func13,Tryz.ntmps13;go_wp2_with fail
 go_loopw [5] (fun v wr=>∃k:Nat,k<=l.length/\v=.int .i64 (k:Int)/\Tch [] w wr) (fun v _=>l.length-(intOf v).toNat)
 case atStart=>exact⟨0,Nat.zero_le _,rfl,Tch.refl _ _⟩
 case round=>
  obtain⟨k,hk,rfl,ht⟩:=hrel;have HT:=zH ht
  by_cases hlt:k<l.length
  ·have hkI:(k:Int)<(l.length:Int):=by omega
   have a1:=(ht.cell (World.block_lt_of_cell? _ _ (HA.out k hlt)) (by simp)).trans (HA.out k hlt);have b1:=(ht.cell (World.block_lt_of_cell? _ _ (HB.out k hlt)) (by simp)).trans (HB.out k hlt);have hss:(l[k].toList == l[k].toList)=true:=by simp
   clear ht HA HB;generalize l[k]=s at*
   have HTD:=zH HT.out.drew
   go_upto_region 6 with fail
   go_region_held3 (fun w'=>w'.cell? ⟨ga,k,none⟩=some (.string s)/\w'.cell? ⟨gb,k,none⟩=some (.string s)) (go_keep) (fail)
   go_wp2_with fail;go_roundw
   case rel=>exact⟨k+1,by omega,by go_num,HTD.out⟩
   case measure=>simp[intOf];omega
  ·have hkI:¬((k:Int)<(l.length:Int)):=by omega
   clear ht;go_wp2_with fail;go_ret;exact⟨rfl,HT.out⟩
end Go.Proofs.YtbdobaapadlcjabGreatDoor
