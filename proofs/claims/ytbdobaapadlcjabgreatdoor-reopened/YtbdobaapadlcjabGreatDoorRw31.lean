import Derived.Test.YtbdobaapadlcjabGreatDoorRw30
set_option maxRecDepth 100000
set_option maxHeartbeats 4000000
set_option linter.unusedVariables false
set_option linter.unusedSimpArgs false
namespace Go.Proofs.YtbdobaapadlcjabGreatDoor.Keep
open Go.RowKit
variable {w:World}{base c:Nat}{v:Value}{l:List ByteArray}{a:Option Addr}
theorem shaped_Q (r:Wp.Rq)(x:Sl)(w:World)(hm:r.op.toNat % 10=0)(hw:Wf r)(hz:Szs r):
  Calls Tryz.prog 20 #[.agg (cellsOf r x.v)] w fun e w'=>(∃rr:Wp.Rq,e=.returned (.agg (cellsOf rr (Sl.v ⟨none,0,0⟩)))/\rightW rr ⟨none,0,0⟩ (Wp.short [])=true/\Wf rr/\rr.op=67/\rr.q.toNat=97+r.q.toNat % 8)/\Below w.heap.size w w':=by
 have hmi:((r.op.toNat:Nat):Int) % 10=0:=by omega
 have hch:(ByteArray.mk #[67,88,80,83,82,65,69,84,86,66])[0].toNat=67:=rfl;have hpkV:Hid (∀W,Calls Tryz.prog 9 #[.int .i64 r.vis,.int .i64 1000] W fun e w'=>e=.returned (.int .i64 (pk r.vis 1000))/\w'=W):=fun W=>pick_any r.vis 1000 W hw.vis.1 hw.vis.2 (by decide) (by decide)
 have hp1V:=pk_nonneg r.vis 1000 (by decide);have hp2V:=pk_lt r.vis 1000 (by decide);generalize pk r.vis 1000=V at hpkV hp1V hp2V;have hpkW2:Hid (∀W,Calls Tryz.prog 9 #[.int .i64 r.win,.int .i64 1001] W fun e w'=>e=.returned (.int .i64 (pk r.win 1001))/\w'=W):=fun W=>pick_any r.win 1001 W hw.win.1 hw.win.2 (by decide) (by decide)
 have hp1W2:=pk_nonneg r.win 1001 (by decide);have hp2W2:=pk_lt r.win 1001 (by decide);generalize pk r.win 1001=W2 at hpkW2 hp1W2 hp2W2;have hpkR:Hid (∀W,Calls Tryz.prog 9 #[.int .i64 r.rcv,.int .i64 10] W fun e w'=>e=.returned (.int .i64 (pk r.rcv 10))/\w'=W):=fun W=>pick_any r.rcv 10 W hw.rcv.1 hw.rcv.2 (by decide) (by decide)
 have hp1R:=pk_nonneg r.rcv 10 (by decide);have hp2R:=pk_lt r.rcv 10 (by decide);generalize pk r.rcv 10=R at hpkR hp1R hp2R;have hpkU:Hid (∀W,Calls Tryz.prog 9 #[.int .i64 r.quo,.int .i64 50] W fun e w'=>e=.returned (.int .i64 (pk r.quo 50))/\w'=W):=fun W=>pick_any r.quo 50 W hw.quo.1 hw.quo.2 (by decide) (by decide)
 have hp1U:=pk_nonneg r.quo 50 (by decide);have hp2U:=pk_lt r.quo 50 (by decide);generalize pk r.quo 50=U at hpkU hp1U hp2U;have hinf:=info37;clear hw hz;unfold cellsOf Sl.v;go_enter Tryz.func20,Tryz.ntmps20;go_wp2_with fail;refine(letter_eq r.q _).mono ?_;rintro e w' ⟨⟨d,rfl,hdq⟩,rfl⟩;have hd1:97<=d.toNat:=by omega
 have hd2:d.toNat<=104:=by omega
 have HDQ:Hid (d.toNat=97+r.q.toNat % 8):=hdq;clear hdq;go_wp2_with fail;refine(hpkV.out _).mono ?_;rintro e w' ⟨rfl,rfl⟩;go_wp2_with fail;refine(hpkW2.out _).mono ?_;rintro e w' ⟨rfl,rfl⟩;go_wp2_with fail;refine(hpkR.out _).mono ?_;rintro e w' ⟨rfl,rfl⟩;go_wp2_with fail;refine(hpkU.out _).mono ?_;rintro e w' ⟨rfl,rfl⟩;go_wp2_with fail;refine(letter_any r.d _).mono ?_;rintro e w' ⟨⟨d2,rfl,he1,he2⟩,rfl⟩
 by_cases hdd:d2=d
 ·have hdb:(((d2.toNat:Nat):Int) == ((d.toNat:Nat):Int))=true:=by rw[hdd];simp
  clear hdd;go_wp2_with fail;have hrt:rightW (⟨67,d,45,(1+V),W2,R,(1+U),0,0,⟨#[]⟩,⟨#[]⟩,⟨#[]⟩,⟨#[]⟩,⟨#[]⟩⟩:Wp.Rq) ⟨none,0,0⟩ (Wp.short [])=true:=by
   refine(right_iff _ _ _ (wf_small _ ⟨by show (0:Int)<=1+V;omega,by show 1+V<=(1001:Int);omega⟩ ⟨by show (0:Int)<=W2;omega,by show W2<=(1001:Int);omega⟩ ⟨by show (0:Int)<=R;omega,by show R<=(1001:Int);omega⟩ ⟨by show (0:Int)<=1+U;omega,by show 1+U<=(1001:Int);omega⟩ zz zz)).2 ⟨2,by decide,rfl,?_,rfl,rfl⟩
   show List.all [0,2,3,4,1,5] _=true
   simp only[List.all_cons,List.all_nil,Bool.and_true,Bool.and_eq_true];exact⟨fits_of _ _ _ 0 (by decide) (by decide) (by decide) (show (97:Int)<=(d.toNat:Int) by omega) (show (d.toNat:Int)<=104 by omega),fits_of _ _ _ 2 (by decide) (by decide) (by decide) (show (1:Int)<=1+V by omega) (show 1+V<=(1000:Int) by omega),fits_of _ _ _ 3 (by decide) (by decide) (by decide) (show (0:Int)<=W2 by omega) (show W2<=(1000:Int) by omega),fits_of _ _ _ 4 (by decide) (by decide) (by decide) (show (0:Int)<=R by omega) (show R<=(9:Int) by omega),fits_dead _ _ _ (Or.inl rfl),fits_of _ _ _ 5 (by decide) (by decide) (by decide) (show (1:Int)<=1+U by omega) (show 1+U<=(50:Int) by omega)⟩
  refine bodyPost_ret (results_cell_row (p:=2) rfl _ _ (w.heap.size+1) 24 (cellsOf ⟨67,d,45,(1+V),W2,R,(1+U),0,0,⟨#[]⟩,⟨#[]⟩,⟨#[]⟩,⟨#[]⟩,⟨#[]⟩⟩ (Sl.v ⟨none,0,0⟩)) (0,0) _ rfl ?_ Tryz.underlying24 rfl hinf) rfl ⟨⟨_,rfl,hrt,(wf_small _ ⟨by show (0:Int)<=1+V;omega,by show 1+V<=(1001:Int);omega⟩ ⟨by show (0:Int)<=W2;omega,by show W2<=(1001:Int);omega⟩ ⟨by show (0:Int)<=R;omega,by show R<=(1001:Int);omega⟩ ⟨by show (0:Int)<=1+U;omega,by show 1+U<=(1001:Int);omega⟩ zz zz),rfl,HDQ.out⟩,?_⟩
  ·exact heap3 _ _ _ _
  ·exact below3 _ _ _ _
 ·have hdb:(((d2.toNat:Nat):Int) == ((d.toNat:Nat):Int))=false:=by
   rw[beq_eq_false_iff_ne];intro e;exact hdd (UInt8.toNat_inj.1 (by omega))
  have HDD:Hid (d2≠d):=hdd;clear hdd;go_wp2_with fail;have hrt:rightW (⟨67,d,d2,(1+V),W2,R,(1+U),0,0,⟨#[]⟩,⟨#[]⟩,⟨#[]⟩,⟨#[]⟩,⟨#[]⟩⟩:Wp.Rq) ⟨none,0,0⟩ (Wp.short [])=true:=by
   refine(right_iff _ _ _ (wf_small _ ⟨by show (0:Int)<=1+V;omega,by show 1+V<=(1001:Int);omega⟩ ⟨by show (0:Int)<=W2;omega,by show W2<=(1001:Int);omega⟩ ⟨by show (0:Int)<=R;omega,by show R<=(1001:Int);omega⟩ ⟨by show (0:Int)<=1+U;omega,by show 1+U<=(1001:Int);omega⟩ zz zz)).2 ⟨2,by decide,rfl,?_,rfl,rfl⟩
   show List.all [0,2,3,4,1,5] _=true
   simp only[List.all_cons,List.all_nil,Bool.and_true,Bool.and_eq_true];exact⟨fits_of _ _ _ 0 (by decide) (by decide) (by decide) (show (97:Int)<=(d.toNat:Int) by omega) (show (d.toNat:Int)<=104 by omega),fits_of _ _ _ 2 (by decide) (by decide) (by decide) (show (1:Int)<=1+V by omega) (show 1+V<=(1000:Int) by omega),fits_of _ _ _ 3 (by decide) (by decide) (by decide) (show (0:Int)<=W2 by omega) (show W2<=(1000:Int) by omega),fits_of _ _ _ 4 (by decide) (by decide) (by decide) (show (0:Int)<=R by omega) (show R<=(9:Int) by omega),fits_dead _ _ _ (Or.inr ⟨he1,he2,HDD.out⟩),fits_of _ _ _ 5 (by decide) (by decide) (by decide) (show (1:Int)<=1+U by omega) (show 1+U<=(50:Int) by omega)⟩
  refine bodyPost_ret (results_cell_row (p:=2) rfl _ _ (w.heap.size+1) 24 (cellsOf ⟨67,d,d2,(1+V),W2,R,(1+U),0,0,⟨#[]⟩,⟨#[]⟩,⟨#[]⟩,⟨#[]⟩,⟨#[]⟩⟩ (Sl.v ⟨none,0,0⟩)) (0,0) _ rfl ?_ Tryz.underlying24 rfl hinf) rfl ⟨⟨_,rfl,hrt,(wf_small _ ⟨by show (0:Int)<=1+V;omega,by show 1+V<=(1001:Int);omega⟩ ⟨by show (0:Int)<=W2;omega,by show W2<=(1001:Int);omega⟩ ⟨by show (0:Int)<=R;omega,by show R<=(1001:Int);omega⟩ ⟨by show (0:Int)<=1+U;omega,by show 1+U<=(1001:Int);omega⟩ zz zz),rfl,HDQ.out⟩,?_⟩
  ·exact heap3 _ _ _ _
  ·exact below3 _ _ _ _
theorem shaped_0 (r:Wp.Rq)(x:Sl)(w:World)(hm:r.op.toNat % 10=0)(hw:Wf r)(hz:Szs r):
  Calls Tryz.prog 20 #[.agg (cellsOf r x.v)] w fun e w'=>Shaped w e w'/\Below w.heap.size w w':=
 (shaped_Q r x w hm hw hz).mono (fun e w' ⟨⟨rr,he,h1,h2,_,_⟩,hb⟩=>⟨by rw[he];exact shaped_end rr h1 h2,hb⟩)
theorem addr_zero (n j:Nat):(⟨n,0,none⟩:Addr).add j=⟨n,j,none⟩:=by
 unfold Addr.add
 split
 ·next h=>rw[h]
 ·rw[Nat.zero_add]
def OwnS (w:World)(base:Nat)(v:Value)(l:List ByteArray):Prop:=w.ownsRow base 9 1 v l.length (l.map Value.string)
theorem OwnS.form (h:OwnS w base v l):∃a c,v=.slice a l.length c:=by
 obtain⟨h1,h2|⟨g,cap,cur,h2,_⟩⟩:=h
 ·exact⟨none,0,by rw[h2.1,h2.2]⟩
 ·exact⟨_,_,h2⟩
theorem OwnS.strs {n:Nat}(h:OwnS w base (.slice a n c) l):FStrs base w a l:=by
 intro j hj;have h':=h;obtain⟨h1,h2|⟨g,cap,cur,h2,hg,hh,_⟩⟩:=h
 ·omega
 ·injection h2 with e1 e2 e3;subst e1;refine⟨g,0,rfl,hg,?_⟩;have hc:=World.ownsRow.cells h' (g:=g) rfl j (.string l[j]) (by simp[hj]);rw[addr_zero]at hc;rw[Nat.zero_add];exact hc
theorem OwnS.snoc {x:ByteArray}(h:w.ownsRow base 9 1 v (l.length+1) (l.map Value.string++[.string x])):OwnS w base v (l++[x]):=by
 unfold OwnS;rw[List.length_append,List.map_append];exact h
theorem sh_all (bs:List ByteArray):∀s∈bs.map (sh · 255),s.size<=255:=by
 intro s hs;obtain⟨t,_,rfl⟩:=List.mem_map.1 hs;exact sh_size t 255
theorem batch_right (a:Option Addr)(k c:Nat)(l:List ByteArray)(hk:k=l.length)(h1:1<=k)(h2:k<=10)(hs:∀s∈l,s.size<=255):rightW (opR 66) ⟨a,k,c⟩ (Wp.short l)=true:=by
 have hw:Wf (opR 66):=wf_small _ zz zz zz zz zz zz;refine(right_iff _ _ _ hw).2 ⟨1,by decide,rfl,?_,rfl,rfl⟩;have hsh:Wp.short l=true:=List.all_eq_true.2 fun s h=>by simpa using hs s h
 show List.all [14] _=true
 simp only[List.all_cons,List.all_nil,Bool.and_true];unfold Wp.Rq.fits;have e1:(opR 66).measure k 14=(k:Int):=rfl;have e2:Wp.least 14=1:=rfl;have e3:Wp.most 14=10:=rfl
 show (if 14=1/\(opR 66).d=45 then true else if (opR 66).measure k 14<Wp.least 14 then false else if Wp.most 14<(opR 66).measure k 14 then false else if 14=1 then _ else if 14=10 then _ else if 14=14 then Wp.short l else true)=true
 rw[if_neg (fun e=>by cases e.1),e1,e2,e3,if_neg (by omega),if_neg (by omega),if_neg (by decide),if_neg (by decide),if_pos rfl];exact hsh
theorem batch_end {wr:World}{k:Nat}(h0:w.heap.size+1<w.heap.size+1+1+1)(hk:k=l.length)(h1:1<=k)(h2:k<=10)(hs:∀s∈l,s.size<=255)(hown:OwnS wr (w.heap.size+1+1+1) (.slice a k c) l)(hb:Below w.heap.size w wr):
  Shaped w (.returned (.agg (cellsOf (opR 66) (Sl.v ⟨a,k,c⟩)))) (wr.setRow (w.heap.size+1) (cellsOf (opR 66) (Sl.v ⟨a,k,c⟩)))/\Below w.heap.size w (wr.setRow (w.heap.size+1) (cellsOf (opR 66) (Sl.v ⟨a,k,c⟩))):=by
 refine⟨⟨opR 66,⟨a,k,c⟩,l,rfl,batch_right a k c l hk h1 h2 hs,wf_small _ zz zz zz zz zz zz,hk,by omega,fun j hj=>?_⟩,Go.Proofs.YtbdobaapadlcjabGreatDoor.below_setRow hb (by omega) _⟩
 obtain⟨g,o,ha,hg,hc⟩:=hown.strs j hj;have hne:g≠w.heap.size+1:=by omega
 have e1:(wr.setRow (w.heap.size+1) (cellsOf (opR 66) (Sl.v ⟨a,k,c⟩))).heap[g]?=wr.heap[g]?:=setRow_other _ _ g _ hne;exact⟨g,o,ha,by omega,(World.cell?_of_block (a:=⟨g,o+j,none⟩) e1).trans hc⟩
theorem shaped_9 (r:Wp.Rq)(xa:Option Addr)(xc:Nat)(bs:List ByteArray)(w:World)(hm:r.op.toNat % 10=9)(hn:bs.length<=maxLen)(hbs:∀s∈bs,s.size<=maxLen)(hS:Strs w xa bs):
  Calls Tryz.prog 20 #[.agg (cellsOf r (.slice xa bs.length xc))] w fun e w'=>Shaped w e w'/\Below w.heap.size w w':=by
 have hmi:((r.op.toNat:Nat):Int) % 10=9:=by omega
 have hch:(ByteArray.mk #[67,88,80,83,82,65,69,84,86,66])[9].toNat=66:=rfl;have hinf:=info37;obtain⟨i0,hi,hz0,hz1,hz2⟩:=info_parts info9;unfold maxLen at hn;have HS:Hid (Strs w xa bs):=hS;have HBS:Hid (∀s∈bs,s.size<=maxLen):=hbs;clear hS hbs;unfold cellsOf;go_enter Tryz.func20,Tryz.ntmps20;go_wp2_with fail;refine(letter_any r.q _).mono ?_;rintro e w' ⟨⟨d,rfl,hd1,hd2⟩,rfl⟩;go_wp2_with fail
 go_loopw [5] (fun v wr=>∃(k:Nat) (a:Option Addr) (c:Nat),k<=bs.length/\k<=10/\v=.int .i64 k/\OwnS wr (w.heap.size+1+1+1) (.slice a k c) ((bs.take k).map (sh · 255))/\Below w.heap.size w wr/\Blk wr w.heap.size r ⟨xa,bs.length,xc⟩/\Blk wr (w.heap.size+1) (opR 0) ⟨none,0,0⟩/\Blk wr (w.heap.size+1+1) (opR 66) ⟨a,k,c⟩/\w.heap.size+1+1+1<=wr.heap.size) (fun v _=>10-(intOf v).toNat)
 case atStart=>
  refine⟨0,none,0,Nat.zero_le _,Nat.zero_le _,rfl,World.ownsRow_nil _ _ _ _,below3 _ _ _ _,?_,?_,?_,by simp⟩
  ·unfold Blk;rw[Below.heap_alloc _ _ _ (by simp;omega),heap_alloc2_old];rfl
  ·exact heap3 _ _ _ _
  ·unfold Blk;have h:=heap_alloc_new ((w.alloc (.cells (cellsOf r (.slice xa bs.length xc)) 24)).alloc (.cells (cellsOf (opR 0) (.slice none 0 0)) 24)) (.cells (cellsOf (opR 66) (Sl.v ⟨none,0,0⟩)) 24);rw[World.size_alloc,World.size_alloc]at h;exact h
 case round=>
  obtain⟨k,a,c,hk,hk10,rfl,hown,hbw,hbk0,hbk1,hbk2,hsw⟩:=hrel;have HOWN:Hid (OwnS wr (w.heap.size+1+1+1) (.slice a k c) ((bs.take k).map (sh · 255))):=hown;have HBW:Hid (Below w.heap.size w wr):=hbw;have HB0:Hid (Blk wr w.heap.size r ⟨xa,bs.length,xc⟩):=hbk0;have HB1:Hid (Blk wr (w.heap.size+1) (opR 0) ⟨none,0,0⟩):=hbk1;have HB2:Hid (Blk wr (w.heap.size+1+1) (opR 66) ⟨a,k,c⟩):=hbk2;have c0:wr.cell? ⟨w.heap.size,14,none⟩=some (.slice xa bs.length xc):=hbk0.box 14 _ rfl;have c2:wr.cell? ⟨w.heap.size+1+1,14,none⟩=some (.slice a k c):=hbk2.box 14 _ rfl;have f2:=hbk2.frozen 14;have hlk:((bs.take k).map (sh · 255)).length=k:=by rw[List.length_map,List.length_take];omega
  have HLK:Hid (((bs.take k).map (sh · 255)).length=k):=hlk;clear hown hbk0 hbk1 hbk2 hlk
  by_cases hgo:k<bs.length/\k<10
  ·obtain⟨hlt,hlt10⟩:=hgo;obtain⟨g1,o1,rfl,hc1⟩:=HS.out k hlt;have hg1:g1<w.heap.size:=World.block_lt_of_cell? _ _ hc1;have hd1:=(hbw.cell (p:=⟨g1,o1+k,none⟩) hg1).trans hc1;have htk:Hid ((bs.take (k+1)).map (sh · 255)=(bs.take k).map (sh · 255)++[sh bs[k] 255]):=by
    show _=_
    rw[List.take_succ_eq_append_getElem hlt,List.map_append];rfl
   have hsz:=HBS.out bs[k] (List.getElem_mem hlt);have hsh:Hid (∀W,Calls Tryz.prog 41 #[.string bs[k],.int .i64 255] W fun e w'=>e=.returned (.string (sh bs[k] 255))/\w'=W):=fun W=>short_any bs[k] 255 W hsz (by decide)
   generalize sh bs[k] 255=T at hsh htk;generalize bs[k]=S at hd1 hsh hc1 hsz;generalize (bs.take k).map (sh · 255)=L at HOWN htk HLK;have hLle:L.length<=10:=by rw[HLK.out];exact hk10
   have hown1:OwnS wr (w.heap.size+1+1+1) (.slice a k c) L:=HOWN.out;clear hbw hc1 hown1;go_wp2_with fail;refine(hsh.out _).mono ?_;rintro e w2 ⟨rfl,rfl⟩;go_wp2_with (at_builtin;refine wpList_append_own _ rfl _ _ 22 rfl (w.heap.size+1+1+1) 9 i0 (.string ⟨#[]⟩) 1 16 Tryz.underlying22 hi hz0 hz1 hz2 rfl (by decide) _ _ _ rfl (World.ownsRow.alloc HOWN.out _) ⟨w2.heap.size,0,none⟩ 1 1 [.string T] rfl rfl ?c1 ?c2 ?c3 ?c4 ?c5 ?_)
   case c1=>exact cell_one_new _ _ _
   case c2=>intro u hu;simp at hu;subst hu;rfl
   case c3=>unfold maxLen;omega
   case c4=>omega
   case c5=>simp;omega
   intro v' w3 hown' hgrow _;have hown3:OwnS w3 (w.heap.size+1+1+1) v' (L++[T]):=OwnS.snoc hown';obtain⟨a',c',hv'⟩:=hown3.form;have hL1:(L++[T]).length=k+1:=by rw[List.length_append,HLK.out];rfl
   rw[hL1]at hv';have hb3:Below (w.heap.size+1+1+1) w2 w3:=by
    refine Below.grown ((Below.refl _ _).alloc (by omega) _) hgrow (by simp;omega) ?_;intro q hq;exact(World.ownsRow.lt HOWN.out q hq).1
   rw[hv']at hown3 ⊢;rw[<-htk.out]at hown3;have hb2:Blk w3 (w.heap.size+1+1) (opR 66) ⟨a,k,c⟩:=by
    unfold Blk;rw[hb3.block _ (by omega)];exact HB2.out
   have c3:w3.cell? ⟨w.heap.size+1+1,14,none⟩=some (.slice a k c):=hb2.box 14 _ rfl;have f3:=hb2.frozen 14;have HF:Hid (OwnS (w3.setCell ⟨w.heap.size+1+1,14,none⟩ (.slice a' (k+1) c')) (w.heap.size+1+1+1) (.slice a' (k+1) c') ((bs.take (k+1)).map (sh · 255))/\
     Below w.heap.size w (w3.setCell ⟨w.heap.size+1+1,14,none⟩ (.slice a' (k+1) c'))/\
     Blk (w3.setCell ⟨w.heap.size+1+1,14,none⟩ (.slice a' (k+1) c')) w.heap.size r ⟨some ⟨g1,o1,none⟩,bs.length,xc⟩/\
     Blk (w3.setCell ⟨w.heap.size+1+1,14,none⟩ (.slice a' (k+1) c')) (w.heap.size+1) (opR 0) ⟨none,0,0⟩/\
     Blk (w3.setCell ⟨w.heap.size+1+1,14,none⟩ (.slice a' (k+1) c')) (w.heap.size+1+1) (opR 66) ⟨a',k+1,c'⟩/\
     w.heap.size+1+1+1<=(w3.setCell ⟨w.heap.size+1+1,14,none⟩ (.slice a' (k+1) c')).heap.size):=by
    refine⟨ownsRow_setCell_below hown3 (by show w.heap.size+1+1<_;omega) _,(HBW.out.trans (hb3.mono (by omega))).setCell (by show _<=w.heap.size+1+1;omega) _,?_,?_,?_,?_⟩
    ·unfold Blk;rw[heap_setCell_other _ _ _ _ (by show w.heap.size≠w.heap.size+1+1;omega),hb3.block _ (by omega)];exact HB0.out
    ·unfold Blk;rw[heap_setCell_other _ _ _ _ (by show w.heap.size+1≠w.heap.size+1+1;omega),hb3.block _ (by omega)];exact HB1.out
    ·exact heap_setCell_same w3 (w.heap.size+1+1) 14 _ 24 _ hb2
    ·rw[World.size_setCell];have:=hb3.size;omega
   clear hown' hgrow hown3 hb3 hb2 hL1 hv';go_wp2_with fail;go_roundw
   case rel=>exact⟨k+1,a',c',by omega,by omega,by go_num,HF.out.1,HF.out.2.1,HF.out.2.2.1,HF.out.2.2.2.1,HF.out.2.2.2.2.1,HF.out.2.2.2.2.2⟩
   case measure=>simp[intOf];omega
  ·have hbeg:¬(k<bs.length/\k<10):=hgo
   by_cases hz:k=0
   ·have hnil:Hid (bs.length=0):=by show _=_;omega
    subst hz;have hbl:¬(0<bs.length):=by omega
    have HL0:Hid (((bs.take 0).map (sh · 255))=[]):=rfl;have hown0:OwnS wr (w.heap.size+1+1+1) (.slice a 0 c) []:=HOWN.out;have HOWN0:Hid (OwnS wr (w.heap.size+1+1+1) (.slice a 0 c) []):=hown0;clear hbw hown0 hbeg hgo;go_wp2_with (at_builtin;refine wpList_append_own _ rfl _ _ 22 rfl (w.heap.size+1+1+1) 9 i0 (.string ⟨#[]⟩) 1 16 Tryz.underlying22 hi hz0 hz1 hz2 rfl (by decide) _ _ _ rfl (World.ownsRow.alloc HOWN0.out _) ⟨wr.heap.size,0,none⟩ 1 1 [.string ⟨#[]⟩] rfl rfl ?c1 ?c2 ?c3 ?c4 ?c5 ?_)
    case c1=>exact cell_one_new _ _ _
    case c2=>intro u hu;simp at hu;subst hu;rfl
    case c3=>unfold maxLen;simp
    case c4=>simp
    case c5=>simp;omega
    intro v' w3 hown' hgrow _;have hown3:OwnS w3 (w.heap.size+1+1+1) v' [⟨#[]⟩]:=OwnS.snoc (l:=[]) hown';obtain⟨a',c',hv'⟩:=hown3.form;have hb3:Below (w.heap.size+1+1+1) wr w3:=by
     refine Below.grown ((Below.refl _ _).alloc (by omega) _) hgrow (by simp;omega) ?_;intro q hq;exact(World.ownsRow.lt HOWN0.out q hq).1
    have hv2:v'=.slice a' 1 c':=hv';clear hv';rw[hv2]at hown3 ⊢;have hb2:Blk w3 (w.heap.size+1+1) (opR 66) ⟨a,0,c⟩:=by
     unfold Blk;rw[hb3.block _ (by omega)];exact HB2.out
    have c3:w3.cell? ⟨w.heap.size+1+1,14,none⟩=some (.slice a 0 c):=hb2.box 14 _ rfl;have f3:=hb2.frozen 14;have HE1:Hid ((w3.setCell ⟨w.heap.size+1+1,14,none⟩ (.slice a' 1 c')).heap[w.heap.size+1]?=some (.cells (cellsOf (opR 0) (Sl.v ⟨none,0,0⟩)) 24 (0,0))):=by
     show _=_
     rw[heap_setCell_other _ _ _ _ (by show w.heap.size+1≠w.heap.size+1+1;omega),hb3.block _ (by omega)];exact HB1.out
    have HE2:Hid ((w3.setCell ⟨w.heap.size+1+1,14,none⟩ (.slice a' 1 c')).heap[w.heap.size+1+1]?=some (.cells (cellsOf (opR 66) (Sl.v ⟨a',1,c'⟩)) 24 (0,0))):=heap_setCell_same w3 (w.heap.size+1+1) 14 _ 24 _ hb2;have HE:Hid (Shaped w (.returned (.agg (cellsOf (opR 66) (Sl.v ⟨a',1,c'⟩)))) ((w3.setCell ⟨w.heap.size+1+1,14,none⟩ (.slice a' 1 c')).setRow (w.heap.size+1) (cellsOf (opR 66) (Sl.v ⟨a',1,c'⟩)))/\Below w.heap.size w ((w3.setCell ⟨w.heap.size+1+1,14,none⟩ (.slice a' 1 c')).setRow (w.heap.size+1) (cellsOf (opR 66) (Sl.v ⟨a',1,c'⟩)))):=
     batch_end (l:=[⟨#[]⟩]) (by omega) rfl (by omega) (by omega) (by intro s hs;simp at hs;subst hs;decide) (ownsRow_setCell_below hown3 (by show w.heap.size+1+1<_;omega) _) ((HBW.out.trans (hb3.mono (by omega))).setCell (by show _<=w.heap.size+1+1;omega) _)
    clear hown' hgrow hown3 hb3 hb2 hv2;go_wp2_with (first|(refine wpList_load_row rfl 24 _ rfl (w.heap.size+1+1) rfl 24 _ (0,0) _ HE2.out Tryz.underlying24 rfl hinf ?_)|(refine wpList_store_row rfl 24 _ _ rfl (w.heap.size+1) _ rfl rfl 24 _ HE1.out hinf rfl (cells_one _ _) ?_));refine bodyPost_ret (results_cell_row (p:=2) rfl _ _ (w.heap.size+1) 24 _ (0,0) _ rfl (setRow_heap _ _ _ _ 24 (0,0) HE1.out) Tryz.underlying24 rfl hinf) rfl HE.out
   ·by_cases hend:k<bs.length
    ·have hk0:k=10:=by omega
     have hkb:(((k:Nat):Int) == 0)=false:=beq_eq_false_iff_ne.2 (by omega);have hn10:¬(k<10):=by omega
     have HE1:Hid (wr.heap[w.heap.size+1]?=some (.cells (cellsOf (opR 0) (Sl.v ⟨none,0,0⟩)) 24 (0,0))):=HB1.out;have HE2:Hid (wr.heap[w.heap.size+1+1]?=some (.cells (cellsOf (opR 66) (Sl.v ⟨a,k,c⟩)) 24 (0,0))):=HB2.out;have HE:Hid (Shaped w (.returned (.agg (cellsOf (opR 66) (Sl.v ⟨a,k,c⟩)))) (wr.setRow (w.heap.size+1) (cellsOf (opR 66) (Sl.v ⟨a,k,c⟩)))/\Below w.heap.size w (wr.setRow (w.heap.size+1) (cellsOf (opR 66) (Sl.v ⟨a,k,c⟩)))):=
      batch_end (by omega) HLK.out.symm (by omega) hk10 (sh_all _) HOWN.out HBW.out
     clear hbw hk0 hz hbeg hgo;go_wp2_with (first|(refine wpList_load_row rfl 24 _ rfl (w.heap.size+1+1) rfl 24 _ (0,0) _ HE2.out Tryz.underlying24 rfl hinf ?_)|(refine wpList_store_row rfl 24 _ _ rfl (w.heap.size+1) _ rfl rfl 24 _ HE1.out hinf rfl (cells_one _ _) ?_));refine bodyPost_ret (results_cell_row (p:=2) rfl _ _ (w.heap.size+1) 24 _ (0,0) _ rfl (setRow_heap _ _ _ _ 24 (0,0) HE1.out) Tryz.underlying24 rfl hinf) rfl HE.out
    ·have hkb:(((k:Nat):Int) == 0)=false:=beq_eq_false_iff_ne.2 (by omega);have HE1:Hid (wr.heap[w.heap.size+1]?=some (.cells (cellsOf (opR 0) (Sl.v ⟨none,0,0⟩)) 24 (0,0))):=HB1.out;have HE2:Hid (wr.heap[w.heap.size+1+1]?=some (.cells (cellsOf (opR 66) (Sl.v ⟨a,k,c⟩)) 24 (0,0))):=HB2.out;have HE:Hid (Shaped w (.returned (.agg (cellsOf (opR 66) (Sl.v ⟨a,k,c⟩)))) (wr.setRow (w.heap.size+1) (cellsOf (opR 66) (Sl.v ⟨a,k,c⟩)))/\Below w.heap.size w (wr.setRow (w.heap.size+1) (cellsOf (opR 66) (Sl.v ⟨a,k,c⟩)))):=
      batch_end (by omega) HLK.out.symm (by omega) hk10 (sh_all _) HOWN.out HBW.out
     clear hbw hz hbeg hgo;go_wp2_with (first|(refine wpList_load_row rfl 24 _ rfl (w.heap.size+1+1) rfl 24 _ (0,0) _ HE2.out Tryz.underlying24 rfl hinf ?_)|(refine wpList_store_row rfl 24 _ _ rfl (w.heap.size+1) _ rfl rfl 24 _ HE1.out hinf rfl (cells_one _ _) ?_));refine bodyPost_ret (results_cell_row (p:=2) rfl _ _ (w.heap.size+1) 24 _ (0,0) _ rfl (setRow_heap _ _ _ _ 24 (0,0) HE1.out) Tryz.underlying24 rfl hinf) rfl HE.out
theorem shaped_any (r:Wp.Rq)(xa:Option Addr)(xc:Nat)(bs:List ByteArray)(w:World)(hw:Wf r)(hz:Szs r)(hn:bs.length<=maxLen)(hbs:∀s∈bs,s.size<=maxLen)(hS:Strs w xa bs):
  Calls Tryz.prog 20 #[.agg (cellsOf r (.slice xa bs.length xc))] w fun e w'=>Shaped w e w'/\Below w.heap.size w w':=by
 have hx:r.op.toNat % 10=0\/r.op.toNat % 10=1\/r.op.toNat % 10=2\/r.op.toNat % 10=3\/r.op.toNat % 10=4\/r.op.toNat % 10=5\/r.op.toNat % 10=6\/r.op.toNat % 10=7\/r.op.toNat % 10=8\/r.op.toNat % 10=9:=by omega
 rcases hx with h|h|h|h|h|h|h|h|h|h
 ·exact shaped_0 r ⟨xa,bs.length,xc⟩ w h hw hz
 ·exact shaped_1 r ⟨xa,bs.length,xc⟩ w h hw hz
 ·exact shaped_2 r ⟨xa,bs.length,xc⟩ w h hw hz
 ·exact shaped_3 r ⟨xa,bs.length,xc⟩ w h hw hz
 ·exact shaped_4 r ⟨xa,bs.length,xc⟩ w h hw hz
 ·exact shaped_5 r ⟨xa,bs.length,xc⟩ w h hw hz
 ·exact shaped_6 r ⟨xa,bs.length,xc⟩ w h hw hz
 ·exact shaped_7 r ⟨xa,bs.length,xc⟩ w h hw hz
 ·exact shaped_8 r ⟨xa,bs.length,xc⟩ w h hw hz
 ·exact shaped_9 r xa xc bs w h hn hbs hS
end Go.Proofs.YtbdobaapadlcjabGreatDoor.Keep
namespace Go.Proofs.YtbdobaapadlcjabGreatDoor.Dk
open Go.RowKit
variable {w:World}{v:Value}{l:List ByteArray}
theorem info9:(Tryz.prog.info? 9).map (fun i=>(i.zero,i.size,i.bytes))=some (some (Value.string ⟨#[]⟩),1,16):=by kernel_rfl
def OwnS (w:World)(v:Value)(l:List ByteArray):Prop:=w.ownsRow 0 9 1 v l.length (l.map Value.string)
theorem OwnS.nil (w:World):OwnS w (.slice none 0 0) []:=World.ownsRow_nil w 0 9 1
theorem OwnS.tch {w':World}(h:OwnS w v l){S:List Nat}(ht:Tch S w w')(hS:∀b,v.ownBlock=some b->b∉S):OwnS w' v l:=by
 refine⟨h.1,?_⟩;rcases h.2 with h0|⟨g,cap,cur,rfl,hb,hg,h1,h2,h3,h4⟩
 ·exact .inl h0
 ·exact .inr ⟨g,cap,cur,rfl,hb,(ht.block g (Array.getElem?_eq_some_iff.1 hg).1 (hS g rfl)).trans hg,h1,h2,h3,h4⟩
theorem OwnS.at (h:OwnS w v l):∃a cap,v=.slice a l.length cap/\∀j (hj:j<l.length),∃g,a=some ⟨g,0,none⟩/\w.cell? ⟨g,j,none⟩=some (.string l[j])/\w.frozen? ⟨g,j,none⟩=false:=by
 rcases h.2 with ⟨rfl,hn⟩|⟨g,cap,cur,rfl,_,hg,_⟩
 ·obtain rfl:=List.eq_nil_of_length_eq_zero hn;exact⟨none,0,rfl,fun j hj=>by cases hj⟩
 ·refine⟨_,_,rfl,fun j hj=>⟨g,rfl,?_,World.ownsRow.frozenAt h j⟩⟩
  rw[World.ownsRow.cellAt h j (by omega)];simp[hj]
theorem wpList_strs (w:World){ops:Array Oper}{rest:List Oper}{o:Oper}{a:Act}{Q:Exit->Act->World->Prop}(hgd:o.guard=none)(s x:Operand)
  (ho:o.op=.call {callee:=.builtin .append,args:=#[s,x],argTypes:=#[22,22]})
  (v:Value)(l:List ByteArray)(hs:a.eval s=v)(hown:OwnS w v l)(g:Nat)(news:List ByteArray)(m:Nat)(hx:a.eval x=.slice (some ⟨g,0,none⟩) m m)(hm:news.length=m)(hm0:0<m)(hg:w.heap[g]?=some (.cells (news.map Value.string).toArray 9 (0,0)))(hn:l.length+m<=4000000000000)
  (h:∀v' w',OwnS w' v' (l++news)->w.grownBy w' v.ownBlock->(v'.ownBlock=v.ownBlock\/v'.ownBlock=some w.heap.size)->wpList Tryz.prog ops Q rest (a.put o.dst v') w'):wpList Tryz.prog ops Q (o::rest) a w:=by
 obtain⟨i0,hi,hz0,hz1,hz2⟩:=info_parts info9;refine wpList_app w hgd s x 22 ho 0 9 i0 _ 1 16 Tryz.underlying22 hi hz0 hz1 hz2 rfl (by decide) v l.length (l.map Value.string) hs hown ⟨g,0,none⟩ m m (news.map Value.string) hx (by simp[hm]) ?_ ?_ ?_ ?_ (Nat.zero_le _) hm0 ?_
 ·intro j u hj;have e:(⟨g,0,none⟩:Addr).add j=⟨g,j,none⟩:=by unfold Addr.add;split<;>simp_all
  rw[e,cell_of_row w g j _ 9 (0,0) hg,<-hj];simp
 ·intro u hu;obtain⟨b,_,rfl⟩:=List.mem_map.1 hu;rfl
 ·unfold maxLen;omega
 ·omega
 ·intro v' w' h1 h2 h3;refine h v' w' ?_ h2 h3
  show w'.ownsRow 0 9 1 v' (l++news).length ((l++news).map Value.string)
  rw[List.length_append,List.map_append,hm];exact h1
end Go.Proofs.YtbdobaapadlcjabGreatDoor.Dk
namespace Go.Proofs.YtbdobaapadlcjabGreatDoor
open Go.RowKit
variable {w W:World}{B:Nat}
structure RqS where
 r:Wp.Rq
 xa:Option Addr
 xc:Nat
 bs:List ByteArray
def RqS.arr (s:RqS):Array Value:=cellsOf s.r (.slice s.xa s.bs.length s.xc)
structure RqS.Ok (s:RqS)(w:World):Prop where
 wf:Wf s.r
 sz:Keep.Szs s.r
 n:s.bs.length<=maxLen
 m:∀t∈s.bs,t.size<=maxLen
 st:Strs w s.xa s.bs
def ScR (B:Nat)(w:World)(ga:Option Addr)(sc:List RqS):Prop:=0<sc.length->∃g o,ga=some ⟨g,o,none⟩/\g<B/\∀j (hj:j<sc.length) i u,(sc[j].arr.toList)[i]?=some u->w.cell? ⟨g,o+j*15+i,none⟩=some u
theorem RqS.Ok.below {s:RqS}(h:s.Ok w)(hb:Below w.heap.size w W):s.Ok W:=⟨h.wf,h.sz,h.n,h.m,h.st.below hb⟩
theorem ScR.below {ga:Option Addr}{sc:List RqS}(h:ScR B w ga sc)(hb:Below B w W):ScR B W ga sc:=fun hp=>by
 obtain⟨g,o,h1,h2,h3⟩:=h hp;exact⟨g,o,h1,h2,fun j hj i u hu=>(hb.cell (p:=⟨g,o+j*15+i,none⟩) h2).trans (h3 j hj i u hu)⟩
theorem info24:(Tryz.prog.info? 24).map (fun i=>i.size)=some 15:=by kernel_rfl
theorem FStrs.strs {a:Option Addr}{bs:List ByteArray}(h:FStrs B w a bs):Strs w a bs:=fun j hj=>by
 obtain⟨b,o,h1,_,h2⟩:=h j hj;exact⟨b,o,h1,h2⟩
theorem bytesOf_any (B:Nat)(ga:Option Addr)(gc:Nat)(sc:List RqS)(w:World)(hE:Env B w)(hok:∀s∈sc,s.Ok w)(hln:sc.length<=2000000000000)(hga:ScR w.heap.size w ga sc):
  Calls Tryz.prog 8 #[.slice ga sc.length gc] w fun e w'=>∃v ls,e=.returned v/\Dk.OwnS w' v ls/\ls.length=sc.length/\(∀s∈ls,parseGood s=true)/\(∀b,v.ownBlock=some b->w.heap.size<=b)/\Tch [] w w':=by
 have HSH:Hid (∀W (j:Nat) (hj:j<sc.length),Tch [] w W->Calls Tryz.prog 20 #[.agg sc[j].arr] W fun e w'=>Keep.Shaped W e w'/\Below W.heap.size W w'):=fun W j hj ht=>by
  have h:=(hok _ (List.getElem_mem hj)).below (ht.below (by simp) (Nat.le_refl _));exact Keep.shaped_any _ _ _ _ W h.wf h.sz h.n h.m h.st
 have HPR:Hid (∀W (r:Wp.Rq) (x:Sl) (bs:List ByteArray),Tch [] w W->rightW r x (Wp.short bs)=true->x.n=bs.length->bs.length<=10->Strs W x.a bs->zB 22 #[.agg (cellsOf r x.v)] W (.tuple #[.string (printS r x bs),.int .i64 0])):=fun W r x bs ht hr hx hb hs=>by
  have hE':=hE.tch ht (by simp);have h:=wharf_print B r x bs W hx (by unfold maxLen;omega) hE'.lays hE'.size hs;rw[(print_bytes r x bs hr).2]at h;exact h
 have HGA:Hid (∀W,Tch [] w W->ScR w.heap.size W ga sc):=fun W ht=>hga.below (ht.below (by simp) (Nat.le_refl _))
 have hinf:=info24;clear hE hok hga;go_enter Tryz.func8,Tryz.ntmps8;go_wp2_with fail
 go_loopw [3,4] (fun ov iv wr=>∃(k:Nat) (ls:List ByteArray),k<=sc.length/\iv=.int .i64 (k:Int)/\Dk.OwnS wr ov ls/\ls.length=k/\(∀s∈ls,parseGood s=true)/\(∀b,ov.ownBlock=some b->w.heap.size<=b)/\Tch [] w wr) (fun _ iv _=>sc.length-(intOf iv).toNat)
 case atStart=>exact⟨0,[],Nat.zero_le _,rfl,Dk.OwnS.nil _,rfl,fun s hs=>absurd hs (by simp),fun b hb=>by simp[Value.ownBlock]at hb,Tch.refl _ _⟩
 case round=>
  obtain⟨k,ls,hk,rfl,hown,hlen,hgood,hnew,ht⟩:=hrel;have HOW:=zH (⟨hown,hlen,hgood,hnew⟩:Dk.OwnS wr u3 ls/\ls.length=k/\(∀s∈ls,parseGood s=true)/\(∀b,u3.ownBlock=some b->w.heap.size<=b));have HT:=zH ht
  by_cases hlt:k<sc.length
  ·obtain⟨g,o,rfl,hg,hcs⟩:=HGA.out wr ht (by omega);have HRG:Hid (wr.rangeAt g (o+k*15) (sc[k].arr.toList)):=fun i u hu=>hcs k hlt i u hu
   have hlI:(k:Int)<(sc.length:Int):=by omega
   have HS:=zH (HSH.out wr k hlt ht);have hsz:sc[k].arr.toList.length=15:=rfl;clear hcs hown hlen hgood hnew ht HSH HGA;generalize sc[k].arr=A at*
   go_wp2_with (refine wpList_load_mid rfl 24 _ rfl g (o+k*15) rfl A.toList _ HRG.out Tryz.underlying24 rfl (by rw[hsz];exact hinf) ?_);refine HS.out.mono ?_;rintro e w1 ⟨⟨r,x,bs,rfl,hright,hwf,hxn,hbl,hfs⟩,hb1⟩;have t1:Tch [] wr w1:=Tch.of_below hb1;have HT1:=zH (HT.out.trans t1 (fun _ h _=>h):Tch [] w w1);have HOW1:=zH (HOW.out.1.tch t1 (fun _ _=>by simp));have HPQ:=zH (HPR.out (laidIn w1 (cellsOf r x.v)) r x bs (HT1.out.trans (laidIn_tch _ _) (fun _ h _=>h)) hright hxn hbl ((FStrs.strs hfs).below ((laidIn_tch _ _).below (by simp) (Nat.le_refl _))));have HGD:=zH (print_good r x bs hwf hxn hright).1;generalize printS r x bs=S at HPQ HGD;clear hright hwf hxn hbl hfs hb1 t1 HS HRG;go_wp2_with (first|(refine wpList_store_row rfl 24 _ _ rfl w1.heap.size (cellsOf r x.v) rfl rfl 24 _ (heap_alloc_new _ _) hinf rfl (cells_one _ _) ?_)|(refine wpList_load_row rfl 24 _ rfl w1.heap.size rfl 24 (cellsOf r x.v) (0,0) _ (laidIn_heap _ _) Tryz.underlying24 rfl hinf ?_));refine HPQ.out.mono ?_;rintro e w2 ⟨rfl,hb2⟩;have t2:Tch [] w1 w2:=(laidIn_tch w1 (cellsOf r x.v)).trans (Tch.of_below hb2) (fun _ h _=>h);have HT2:=zH (HT1.out.trans t2 (fun _ h _=>h):Tch [] w w2);have HOW2:=zH (HOW1.out.tch t2 (fun _ _=>by simp));clear hb2 t2 HPQ HT1 HOW1;have hkl:=HOW.out.2.1;go_wp2_with (at_builtin;refine Dk.wpList_strs _ rfl _ _ rfl u3 ls rfl (HOW2.out.tch ((Tch.refl [] _).alloc _) (fun _ _=>by simp)) w2.heap.size [S] 1 rfl rfl (by decide) (heap_alloc_new _ _) (by omega) ?_);intro v' w3 ho3 hg3 hb3;have HF:Hid (Dk.OwnS w3 v' (ls++[S])/\(ls++[S]).length=k+1/\(∀s∈ls++[S],parseGood s=true)/\(∀b,v'.ownBlock=some b->w.heap.size<=b)/\Tch [] w w3):=by
    refine⟨ho3,by rw[List.length_append,hkl];rfl,fun s hs=>?_,fun b hb=>?_,?_⟩
    ·rcases List.mem_append.1 hs with h|h
     ·exact HOW.out.2.2.1 s h
     ·rw[List.mem_singleton.1 h];exact HGD.out
    ·rcases hb3 with h|h
     ·exact HOW.out.2.2.2 b (h.symm.trans hb)
     ·rw[hb]at h;injection h with h;have:=HT2.out.size;have hsz2:(w2.alloc (.cells #[.string S] 9)).heap.size=w2.heap.size+1:=by simp
      omega
    ·exact(HT2.out.alloc _).grown hg3 (fun b hb hlt=>by have:=HOW.out.2.2.2 b hb;omega)
   clear ho3 hg3 hb3;go_wp2_with fail;go_roundw
   case rel=>exact⟨k+1,ls++[S],by omega,by go_num,HF.out.1,HF.out.2.1,HF.out.2.2.1,HF.out.2.2.2.1,HF.out.2.2.2.2⟩
   case measure=>simp[intOf];omega
  ·have hlI:¬((k:Int)<(sc.length:Int)):=by omega
   have hks:k=sc.length:=by omega
   clear hown hlen hgood hnew ht HSH HGA HPR;go_wp2_with fail;go_ret;exact⟨_,rfl,ls,HOW.out.1,HOW.out.2.1.trans hks,HOW.out.2.2.1,HOW.out.2.2.2,HT.out⟩
end Go.Proofs.YtbdobaapadlcjabGreatDoor
