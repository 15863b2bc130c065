import Derived.Test.YtbdobaapadlcjabGreatDoorSx34
set_option maxRecDepth 100000
set_option maxHeartbeats 4000000
set_option linter.unusedVariables false
set_option linter.unusedSimpArgs false
namespace Go.Proofs.YtbdobaapadlcjabGreatDoor.Keep
open Go.RowKit
variable {w:World}{base c:Nat}{v:Value}{l:List ByteArray}{a:Option Addr}
theorem shaped_Q (r:Wp.Rq)(x:Sl)(w:World)(hm:r.op.toNat % 10=0)(hw:Wf r)(hz:Szs r):
  Calls Tryz.prog 20 #[.agg (cellsOf r x.v)] w fun e w'=>(∃rr:Wp.Rq,e=.returned (.agg (cellsOf rr (Sl.v ⟨none,0,0⟩)))/\rightW rr ⟨none,0,0⟩ (Wp.short [])=true/\Wf rr/\rr.op=67/\rr.q.toNat=97+r.q.toNat % 8)/\Below w.heap.size w w':=by
 have hmi:((r.op.toNat:Nat):Int) % 10=0:=by omega
 have hch:(ByteArray.mk #[67,88,80,83,82,65,69,84,86,66])[0].toNat=67:=rfl;have hpkV:Hid (∀W,Calls Tryz.prog 9 #[.int .i64 r.vis,.int .i64 1000] W fun e w'=>e=.returned (.int .i64 (pk r.vis 1000))/\w'=W):=fun W=>pick_any r.vis 1000 W hw.vis.1 hw.vis.2 (by decide) (by decide)
 have hp1V:=pk_nonneg r.vis 1000 (by decide);have hp2V:=pk_lt r.vis 1000 (by decide);generalize pk r.vis 1000=V at hpkV hp1V hp2V;have hpkW2:Hid (∀W,Calls Tryz.prog 9 #[.int .i64 r.win,.int .i64 1001] W fun e w'=>e=.returned (.int .i64 (pk r.win 1001))/\w'=W):=fun W=>pick_any r.win 1001 W hw.win.1 hw.win.2 (by decide) (by decide)
 have hp1W2:=pk_nonneg r.win 1001 (by decide);have hp2W2:=pk_lt r.win 1001 (by decide);generalize pk r.win 1001=W2 at hpkW2 hp1W2 hp2W2;have hpkR:Hid (∀W,Calls Tryz.prog 9 #[.int .i64 r.rcv,.int .i64 10] W fun e w'=>e=.returned (.int .i64 (pk r.rcv 10))/\w'=W):=fun W=>pick_any r.rcv 10 W hw.rcv.1 hw.rcv.2 (by decide) (by decide)
 have hp1R:=pk_nonneg r.rcv 10 (by decide);have hp2R:=pk_lt r.rcv 10 (by decide);generalize pk r.rcv 10=R at hpkR hp1R hp2R;have hpkU:Hid (∀W,Calls Tryz.prog 9 #[.int .i64 r.quo,.int .i64 50] W fun e w'=>e=.returned (.int .i64 (pk r.quo 50))/\w'=W):=fun W=>pick_any r.quo 50 W hw.quo.1 hw.quo.2 (by decide) (by decide)
 have hp1U:=pk_nonneg r.quo 50 (by decide);have hp2U:=pk_lt r.quo 50 (by decide);generalize pk r.quo 50=U at hpkU hp1U hp2U;have hinf:=info37;clear hw hz;unfold cellsOf Sl.v;go_enter Tryz.func20,Tryz.ntmps20;go_wp2_with fail;refine(letter_eq r.q _).mono ?_;rintro e w' ⟨⟨d,rfl,hdq⟩,rfl⟩;have hd1:97<=d.toNat:=by omega
 have hd2:d.toNat<=104:=by omega
 have HDQ:Hid (d.toNat=97+r.q.toNat % 8):=hdq;clear hdq;go_wp2_with fail;refine(hpkV.out _).mono ?_;rintro e w' ⟨rfl,rfl⟩;go_wp2_with fail;refine(hpkW2.out _).mono ?_;rintro e w' ⟨rfl,rfl⟩;go_wp2_with fail;refine(hpkR.out _).mono ?_;rintro e w' ⟨rfl,rfl⟩;go_wp2_with fail;refine(hpkU.out _).mono ?_;rintro e w' ⟨rfl,rfl⟩;go_wp2_with fail;refine(letter_any r.d _).mono ?_;rintro e w' ⟨⟨d2,rfl,he1,he2⟩,rfl⟩
 by_cases hdd:d2=d
 ·have hdb:(((d2.toNat:Nat):Int) == ((d.toNat:Nat):Int))=true:=by rw[hdd];simp
  clear hdd;go_wp2_with fail;have hrt:rightW (⟨67,d,45,(1+V),W2,R,(1+U),0,0,⟨#[]⟩,⟨#[]⟩,⟨#[]⟩,⟨#[]⟩,⟨#[]⟩⟩:Wp.Rq) ⟨none,0,0⟩ (Wp.short [])=true:=by
   refine(right_iff _ _ _ (wf_small _ ⟨by show (0:Int)<=1+V;omega,by show 1+V<=(1001:Int);omega⟩ ⟨by show (0:Int)<=W2;omega,by show W2<=(1001:Int);omega⟩ ⟨by show (0:Int)<=R;omega,by show R<=(1001:Int);omega⟩ ⟨by show (0:Int)<=1+U;omega,by show 1+U<=(1001:Int);omega⟩ zz zz)).2 ⟨2,by decide,rfl,?_,rfl,rfl⟩
   show List.all [0,2,3,4,1,5] _=true
   simp only[List.all_cons,List.all_nil,Bool.and_true,Bool.and_eq_true];exact⟨fits_of _ _ _ 0 (by decide) (by decide) (by decide) (show (97:Int)<=(d.toNat:Int) by omega) (show (d.toNat:Int)<=104 by omega),fits_of _ _ _ 2 (by decide) (by decide) (by decide) (show (1:Int)<=1+V by omega) (show 1+V<=(1000:Int) by omega),fits_of _ _ _ 3 (by decide) (by decide) (by decide) (show (0:Int)<=W2 by omega) (show W2<=(1000:Int) by omega),fits_of _ _ _ 4 (by decide) (by decide) (by decide) (show (0:Int)<=R by omega) (show R<=(9:Int) by omega),fits_dead _ _ _ (Or.inl rfl),fits_of _ _ _ 5 (by decide) (by decide) (by decide) (show (1:Int)<=1+U by omega) (show 1+U<=(50:Int) by omega)⟩
  refine bodyPost_ret (results_cell_row (p:=2) rfl _ _ (w.heap.size+1) 24 (cellsOf ⟨67,d,45,(1+V),W2,R,(1+U),0,0,⟨#[]⟩,⟨#[]⟩,⟨#[]⟩,⟨#[]⟩,⟨#[]⟩⟩ (Sl.v ⟨none,0,0⟩)) (0,0) _ rfl ?_ Tryz.underlying24 rfl hinf) rfl ⟨⟨_,rfl,hrt,(wf_small _ ⟨by show (0:Int)<=1+V;omega,by show 1+V<=(1001:Int);omega⟩ ⟨by show (0:Int)<=W2;omega,by show W2<=(1001:Int);omega⟩ ⟨by show (0:Int)<=R;omega,by show R<=(1001:Int);omega⟩ ⟨by show (0:Int)<=1+U;omega,by show 1+U<=(1001:Int);omega⟩ zz zz),rfl,HDQ.out⟩,?_⟩
  ·exact heap3 _ _ _ _
  ·exact below3 _ _ _ _
 ·have hdb:(((d2.toNat:Nat):Int) == ((d.toNat:Nat):Int))=false:=by
   rw[beq_eq_false_iff_ne];intro e;exact hdd (UInt8.toNat_inj.1 (by omega))
  have HDD:Hid (d2≠d):=hdd;clear hdd;go_wp2_with fail;have hrt:rightW (⟨67,d,d2,(1+V),W2,R,(1+U),0,0,⟨#[]⟩,⟨#[]⟩,⟨#[]⟩,⟨#[]⟩,⟨#[]⟩⟩:Wp.Rq) ⟨none,0,0⟩ (Wp.short [])=true:=by
   refine(right_iff _ _ _ (wf_small _ ⟨by show (0:Int)<=1+V;omega,by show 1+V<=(1001:Int);omega⟩ ⟨by show (0:Int)<=W2;omega,by show W2<=(1001:Int);omega⟩ ⟨by show (0:Int)<=R;omega,by show R<=(1001:Int);omega⟩ ⟨by show (0:Int)<=1+U;omega,by show 1+U<=(1001:Int);omega⟩ zz zz)).2 ⟨2,by decide,rfl,?_,rfl,rfl⟩
   show List.all [0,2,3,4,1,5] _=true
   simp only[List.all_cons,List.all_nil,Bool.and_true,Bool.and_eq_true];exact⟨fits_of _ _ _ 0 (by decide) (by decide) (by decide) (show (97:Int)<=(d.toNat:Int) by omega) (show (d.toNat:Int)<=104 by omega),fits_of _ _ _ 2 (by decide) (by decide) (by decide) (show (1:Int)<=1+V by omega) (show 1+V<=(1000:Int) by omega),fits_of _ _ _ 3 (by decide) (by decide) (by decide) (show (0:Int)<=W2 by omega) (show W2<=(1000:Int) by omega),fits_of _ _ _ 4 (by decide) (by decide) (by decide) (show (0:Int)<=R by omega) (show R<=(9:Int) by omega),fits_dead _ _ _ (Or.inr ⟨he1,he2,HDD.out⟩),fits_of _ _ _ 5 (by decide) (by decide) (by decide) (show (1:Int)<=1+U by omega) (show 1+U<=(50:Int) by omega)⟩
  refine bodyPost_ret (results_cell_row (p:=2) rfl _ _ (w.heap.size+1) 24 (cellsOf ⟨67,d,d2,(1+V),W2,R,(1+U),0,0,⟨#[]⟩,⟨#[]⟩,⟨#[]⟩,⟨#[]⟩,⟨#[]⟩⟩ (Sl.v ⟨none,0,0⟩)) (0,0) _ rfl ?_ Tryz.underlying24 rfl hinf) rfl ⟨⟨_,rfl,hrt,(wf_small _ ⟨by show (0:Int)<=1+V;omega,by show 1+V<=(1001:Int);omega⟩ ⟨by show (0:Int)<=W2;omega,by show W2<=(1001:Int);omega⟩ ⟨by show (0:Int)<=R;omega,by show R<=(1001:Int);omega⟩ ⟨by show (0:Int)<=1+U;omega,by show 1+U<=(1001:Int);omega⟩ zz zz),rfl,HDQ.out⟩,?_⟩
  ·exact heap3 _ _ _ _
  ·exact below3 _ _ _ _
theorem shaped_0 (r:Wp.Rq)(x:Sl)(w:World)(hm:r.op.toNat % 10=0)(hw:Wf r)(hz:Szs r):
  Calls Tryz.prog 20 #[.agg (cellsOf r x.v)] w fun e w'=>Shaped w e w'/\Below w.heap.size w w':=
 (shaped_Q r x w hm hw hz).mono (fun e w' ⟨⟨rr,he,h1,h2,_,_⟩,hb⟩=>⟨by rw[he];exact shaped_end rr h1 h2,hb⟩)
theorem addr_zero (n j:Nat):(⟨n,0,none⟩:Addr).add j=⟨n,j,none⟩:=by
 unfold Addr.add
 split
 ·next h=>rw[h]
 ·rw[Nat.zero_add]
def OwnS (w:World)(base:Nat)(v:Value)(l:List ByteArray):Prop:=w.ownsRow base 9 1 v l.length (l.map Value.string)
theorem OwnS.form (h:OwnS w base v l):∃a c,v=.slice a l.length c:=by
 obtain⟨h1,h2|⟨g,cap,cur,h2,_⟩⟩:=h
 ·exact⟨none,0,by rw[h2.1,h2.2]⟩
 ·exact⟨_,_,h2⟩
theorem OwnS.strs {n:Nat}(h:OwnS w base (.slice a n c) l):FStrs base w a l:=by
 intro j hj;have h':=h;obtain⟨h1,h2|⟨g,cap,cur,h2,hg,hh,_⟩⟩:=h
 ·omega
 ·injection h2 with e1 e2 e3;subst e1;refine⟨g,0,rfl,hg,?_⟩;have hc:=World.ownsRow.cells h' (g:=g) rfl j (.string l[j]) (by simp[hj]);rw[addr_zero]at hc;rw[Nat.zero_add];exact hc
theorem OwnS.snoc {x:ByteArray}(h:w.ownsRow base 9 1 v (l.length+1) (l.map Value.string++[.string x])):OwnS w base v (l++[x]):=by
 unfold OwnS;rw[List.length_append,List.map_append];exact h
theorem sh_all (bs:List ByteArray):∀s∈bs.map (sh · 255),s.size<=255:=by
 intro s hs;obtain⟨t,_,rfl⟩:=List.mem_map.1 hs;exact sh_size t 255
theorem batch_right (a:Option Addr)(k c:Nat)(l:List ByteArray)(hk:k=l.length)(h1:1<=k)(h2:k<=10)(hs:∀s∈l,s.size<=255):rightW (opR 66) ⟨a,k,c⟩ (Wp.short l)=true:=by
 have hw:Wf (opR 66):=wf_small _ zz zz zz zz zz zz;refine(right_iff _ _ _ hw).2 ⟨1,by decide,rfl,?_,rfl,rfl⟩;have hsh:Wp.short l=true:=List.all_eq_true.2 fun s h=>by simpa using hs s h
 show List.all [14] _=true
 simp only[List.all_cons,List.all_nil,Bool.and_true];unfold Wp.Rq.fits;have e1:(opR 66).measure k 14=(k:Int):=rfl;have e2:Wp.least 14=1:=rfl;have e3:Wp.most 14=10:=rfl
 show (if 14=1/\(opR 66).d=45 then true else if (opR 66).measure k 14<Wp.least 14 then false else if Wp.most 14<(opR 66).measure k 14 then false else if 14=1 then _ else if 14=10 then _ else if 14=14 then Wp.short l else true)=true
 rw[if_neg (fun e=>by cases e.1),e1,e2,e3,if_neg (by omega),if_neg (by omega),if_neg (by decide),if_neg (by decide),if_pos rfl];exact hsh
theorem batch_end {wr:World}{k:Nat}(h0:w.heap.size+1<w.heap.size+1+1+1)(hk:k=l.length)(h1:1<=k)(h2:k<=10)(hs:∀s∈l,s.size<=255)(hown:OwnS wr (w.heap.size+1+1+1) (.slice a k c) l)(hb:Below w.heap.size w wr):
  Shaped w (.returned (.agg (cellsOf (opR 66) (Sl.v ⟨a,k,c⟩)))) (wr.setRow (w.heap.size+1) (cellsOf (opR 66) (Sl.v ⟨a,k,c⟩)))/\Below w.heap.size w (wr.setRow (w.heap.size+1) (cellsOf (opR 66) (Sl.v ⟨a,k,c⟩))):=by
 refine⟨⟨opR 66,⟨a,k,c⟩,l,rfl,batch_right a k c l hk h1 h2 hs,wf_small _ zz zz zz zz zz zz,hk,by omega,fun j hj=>?_⟩,Go.Proofs.YtbdobaapadlcjabGreatDoor.below_setRow hb (by omega) _⟩
 obtain⟨g,o,ha,hg,hc⟩:=hown.strs j hj;have hne:g≠w.heap.size+1:=by omega
 have e1:(wr.setRow (w.heap.size+1) (cellsOf (opR 66) (Sl.v ⟨a,k,c⟩))).heap[g]?=wr.heap[g]?:=setRow_other _ _ g _ hne;exact⟨g,o,ha,by omega,(World.cell?_of_block (a:=⟨g,o+j,none⟩) e1).trans hc⟩
theorem shaped_9 (r:Wp.Rq)(xa:Option Addr)(xc:Nat)(bs:List ByteArray)(w:World)(hm:r.op.toNat % 10=9)(hn:bs.length<=maxLen)(hbs:∀s∈bs,s.size<=maxLen)(hS:Strs w xa bs):
  Calls Tryz.prog 20 #[.agg (cellsOf r (.slice xa bs.length xc))] w fun e w'=>Shaped w e w'/\Below w.heap.size w w':=by
 have hmi:((r.op.toNat:Nat):Int) % 10=9:=by omega
 have hch:(ByteArray.mk #[67,88,80,83,82,65,69,84,86,66])[9].toNat=66:=rfl;have hinf:=info37;obtain⟨i0,hi,hz0,hz1,hz2⟩:=info_parts info9;unfold maxLen at hn;have HS:Hid (Strs w xa bs):=hS;have HBS:Hid (∀s∈bs,s.size<=maxLen):=hbs;clear hS hbs;unfold cellsOf;go_enter Tryz.func20,Tryz.ntmps20;go_wp2_with fail;refine(letter_any r.q _).mono ?_;rintro e w' ⟨⟨d,rfl,hd1,hd2⟩,rfl⟩;go_wp2_with fail
 go_loopw [5] (fun v wr=>∃(k:Nat) (a:Option Addr) (c:Nat),k<=bs.length/\k<=10/\v=.int .i64 k/\OwnS wr (w.heap.size+1+1+1) (.slice a k c) ((bs.take k).map (sh · 255))/\Below w.heap.size w wr/\Blk wr w.heap.size r ⟨xa,bs.length,xc⟩/\Blk wr (w.heap.size+1) (opR 0) ⟨none,0,0⟩/\Blk wr (w.heap.size+1+1) (opR 66) ⟨a,k,c⟩/\w.heap.size+1+1+1<=wr.heap.size) (fun v _=>10-(intOf v).toNat)
 case atStart=>
  refine⟨0,none,0,Nat.zero_le _,Nat.zero_le _,rfl,World.ownsRow_nil _ _ _ _,below3 _ _ _ _,?_,?_,?_,by simp⟩
  ·unfold Blk;rw[Below.heap_alloc _ _ _ (by simp;omega),heap_alloc2_old];rfl
  ·exact heap3 _ _ _ _
  ·unfold Blk;have h:=heap_alloc_new ((w.alloc (.cells (cellsOf r (.slice xa bs.length xc)) 24)).alloc (.cells (cellsOf (opR 0) (.slice none 0 0)) 24)) (.cells (cellsOf (opR 66) (Sl.v ⟨none,0,0⟩)) 24);rw[World.size_alloc,World.size_alloc]at h;exact h
 case round=>
  obtain⟨k,a,c,hk,hk10,rfl,hown,hbw,hbk0,hbk1,hbk2,hsw⟩:=hrel;have HOWN:Hid (OwnS wr (w.heap.size+1+1+1) (.slice a k c) ((bs.take k).map (sh · 255))):=hown;have HBW:Hid (Below w.heap.size w wr):=hbw;have HB0:Hid (Blk wr w.heap.size r ⟨xa,bs.length,xc⟩):=hbk0;have HB1:Hid (Blk wr (w.heap.size+1) (opR 0) ⟨none,0,0⟩):=hbk1;have HB2:Hid (Blk wr (w.heap.size+1+1) (opR 66) ⟨a,k,c⟩):=hbk2;have c0:wr.cell? ⟨w.heap.size,14,none⟩=some (.slice xa bs.length xc):=hbk0.box 14 _ rfl;have c2:wr.cell? ⟨w.heap.size+1+1,14,none⟩=some (.slice a k c):=hbk2.box 14 _ rfl;have f2:=hbk2.frozen 14;have hlk:((bs.take k).map (sh · 255)).length=k:=by rw[List.length_map,List.length_take];omega
  have HLK:Hid (((bs.take k).map (sh · 255)).length=k):=hlk;clear hown hbk0 hbk1 hbk2 hlk
  by_cases hgo:k<bs.length/\k<10
  ·obtain⟨hlt,hlt10⟩:=hgo;obtain⟨g1,o1,rfl,hc1⟩:=HS.out k hlt;have hg1:g1<w.heap.size:=World.block_lt_of_cell? _ _ hc1;have hd1:=(hbw.cell (p:=⟨g1,o1+k,none⟩) hg1).trans hc1;have htk:Hid ((bs.take (k+1)).map (sh · 255)=(bs.take k).map (sh · 255)++[sh bs[k] 255]):=by
    show _=_
    rw[List.take_succ_eq_append_getElem hlt,List.map_append];rfl
   have hsz:=HBS.out bs[k] (List.getElem_mem hlt);have hsh:Hid (∀W,Calls Tryz.prog 41 #[.string bs[k],.int .i64 255] W fun e w'=>e=.returned (.string (sh bs[k] 255))/\w'=W):=fun W=>short_any bs[k] 255 W hsz (by decide)
   generalize sh bs[k] 255=T at hsh htk;generalize bs[k]=S at hd1 hsh hc1 hsz;generalize (bs.take k).map (sh · 255)=L at HOWN htk HLK;have hLle:L.length<=10:=by rw[HLK.out];exact hk10
   have hown1:OwnS wr (w.heap.size+1+1+1) (.slice a k c) L:=HOWN.out;clear hbw hc1 hown1;go_wp2_with fail;refine(hsh.out _).mono ?_;rintro e w2 ⟨rfl,rfl⟩;go_wp2_with (at_builtin;refine wpList_append_own _ rfl _ _ 22 rfl (w.heap.size+1+1+1) 9 i0 (.string ⟨#[]⟩) 1 16 Tryz.underlying22 hi hz0 hz1 hz2 rfl (by decide) _ _ _ rfl (World.ownsRow.alloc HOWN.out _) ⟨w2.heap.size,0,none⟩ 1 1 [.string T] rfl rfl ?c1 ?c2 ?c3 ?c4 ?c5 ?_)
   case c1=>exact cell_one_new _ _ _
   case c2=>intro u hu;simp at hu;subst hu;rfl
   case c3=>unfold maxLen;omega
   case c4=>omega
   case c5=>simp;omega
   intro v' w3 hown' hgrow _;have hown3:OwnS w3 (w.heap.size+1+1+1) v' (L++[T]):=OwnS.snoc hown';obtain⟨a',c',hv'⟩:=hown3.form;have hL1:(L++[T]).length=k+1:=by rw[List.length_append,HLK.out];rfl
   rw[hL1]at hv';have hb3:Below (w.heap.size+1+1+1) w2 w3:=by
    refine Below.grown ((Below.refl _ _).alloc (by omega) _) hgrow (by simp;omega) ?_;intro q hq;exact(World.ownsRow.lt HOWN.out q hq).1
   rw[hv']at hown3 ⊢;rw[<-htk.out]at hown3;have hb2:Blk w3 (w.heap.size+1+1) (opR 66) ⟨a,k,c⟩:=by
    unfold Blk;rw[hb3.block _ (by omega)];exact HB2.out
   have c3:w3.cell? ⟨w.heap.size+1+1,14,none⟩=some (.slice a k c):=hb2.box 14 _ rfl;have f3:=hb2.frozen 14;have HF:Hid (OwnS (w3.setCell ⟨w.heap.size+1+1,14,none⟩ (.slice a' (k+1) c')) (w.heap.size+1+1+1) (.slice a' (k+1) c') ((bs.take (k+1)).map (sh · 255))/\
     Below w.heap.size w (w3.setCell ⟨w.heap.size+1+1,14,none⟩ (.slice a' (k+1) c'))/\
     Blk (w3.setCell ⟨w.heap.size+1+1,14,none⟩ (.slice a' (k+1) c')) w.heap.size r ⟨some ⟨g1,o1,none⟩,bs.length,xc⟩/\
     Blk (w3.setCell ⟨w.heap.size+1+1,14,none⟩ (.slice a' (k+1) c')) (w.heap.size+1) (opR 0) ⟨none,0,0⟩/\
     Blk (w3.setCell ⟨w.heap.size+1+1,14,none⟩ (.slice a' (k+1) c')) (w.heap.size+1+1) (opR 66) ⟨a',k+1,c'⟩/\
     w.heap.size+1+1+1<=(w3.setCell ⟨w.heap.size+1+1,14,none⟩ (.slice a' (k+1) c')).heap.size):=by
    refine⟨ownsRow_setCell_below hown3 (by show w.heap.size+1+1<_;omega) _,(HBW.out.trans (hb3.mono (by omega))).setCell (by show _<=w.heap.size+1+1;omega) _,?_,?_,?_,?_⟩
    ·unfold Blk;rw[heap_setCell_other _ _ _ _ (by show w.heap.size≠w.heap.size+1+1;omega),hb3.block _ (by omega)];exact HB0.out
    ·unfold Blk;rw[heap_setCell_other _ _ _ _ (by show w.heap.size+1≠w.heap.size+1+1;omega),hb3.block _ (by omega)];exact HB1.out
    ·exact heap_setCell_same w3 (w.heap.size+1+1) 14 _ 24 _ hb2
    ·rw[World.size_setCell];have:=hb3.size;omega
   clear hown' hgrow hown3 hb3 hb2 hL1 hv';go_wp2_with fail;go_roundw
   case rel=>exact⟨k+1,a',c',by omega,by omega,by go_num,HF.out.1,HF.out.2.1,HF.out.2.2.1,HF.out.2.2.2.1,HF.out.2.2.2.2.1,HF.out.2.2.2.2.2⟩
   case measure=>simp[intOf];omega
  ·have hbeg:¬(k<bs.length/\k<10):=hgo
   by_cases hz:k=0
   ·have hnil:Hid (bs.length=0):=by show _=_;omega
    subst hz;have hbl:¬(0<bs.length):=by omega
    have HL0:Hid (((bs.take 0).map (sh · 255))=[]):=rfl;have hown0:OwnS wr (w.heap.size+1+1+1) (.slice a 0 c) []:=HOWN.out;have HOWN0:Hid (OwnS wr (w.heap.size+1+1+1) (.slice a 0 c) []):=hown0;clear hbw hown0 hbeg hgo;go_wp2_with (at_builtin;refine wpList_append_own _ rfl _ _ 22 rfl (w.heap.size+1+1+1) 9 i0 (.string ⟨#[]⟩) 1 16 Tryz.underlying22 hi hz0 hz1 hz2 rfl (by decide) _ _ _ rfl (World.ownsRow.alloc HOWN0.out _) ⟨wr.heap.size,0,none⟩ 1 1 [.string ⟨#[]⟩] rfl rfl ?c1 ?c2 ?c3 ?c4 ?c5 ?_)
    case c1=>exact cell_one_new _ _ _
    case c2=>intro u hu;simp at hu;subst hu;rfl
    case c3=>unfold maxLen;simp
    case c4=>simp
    case c5=>simp;omega
    intro v' w3 hown' hgrow _;have hown3:OwnS w3 (w.heap.size+1+1+1) v' [⟨#[]⟩]:=OwnS.snoc (l:=[]) hown';obtain⟨a',c',hv'⟩:=hown3.form;have hb3:Below (w.heap.size+1+1+1) wr w3:=by
     refine Below.grown ((Below.refl _ _).alloc (by omega) _) hgrow (by simp;omega) ?_;intro q hq;exact(World.ownsRow.lt HOWN0.out q hq).1
    have hv2:v'=.slice a' 1 c':=hv';clear hv';rw[hv2]at hown3 ⊢;have hb2:Blk w3 (w.heap.size+1+1) (opR 66) ⟨a,0,c⟩:=by
     unfold Blk;rw[hb3.block _ (by omega)];exact HB2.out
    have c3:w3.cell? ⟨w.heap.size+1+1,14,none⟩=some (.slice a 0 c):=hb2.box 14 _ rfl;have f3:=hb2.frozen 14;have HE1:Hid ((w3.setCell ⟨w.heap.size+1+1,14,none⟩ (.slice a' 1 c')).heap[w.heap.size+1]?=some (.cells (cellsOf (opR 0) (Sl.v ⟨none,0,0⟩)) 24 (0,0))):=by
     show _=_
     rw[heap_setCell_other _ _ _ _ (by show w.heap.size+1≠w.heap.size+1+1;omega),hb3.block _ (by omega)];exact HB1.out
    have HE2:Hid ((w3.setCell ⟨w.heap.size+1+1,14,none⟩ (.slice a' 1 c')).heap[w.heap.size+1+1]?=some (.cells (cellsOf (opR 66) (Sl.v ⟨a',1,c'⟩)) 24 (0,0))):=heap_setCell_same w3 (w.heap.size+1+1) 14 _ 24 _ hb2;have HE:Hid (Shaped w (.returned (.agg (cellsOf (opR 66) (Sl.v ⟨a',1,c'⟩)))) ((w3.setCell ⟨w.heap.size+1+1,14,none⟩ (.slice a' 1 c')).setRow (w.heap.size+1) (cellsOf (opR 66) (Sl.v ⟨a',1,c'⟩)))/\Below w.heap.size w ((w3.setCell ⟨w.heap.size+1+1,14,none⟩ (.slice a' 1 c')).setRow (w.heap.size+1) (cellsOf (opR 66) (Sl.v ⟨a',1,c'⟩)))):=
     batch_end (l:=[⟨#[]⟩]) (by omega) rfl (by omega) (by omega) (by intro s hs;simp at hs;subst hs;decide) (ownsRow_setCell_below hown3 (by show w.heap.size+1+1<_;omega) _) ((HBW.out.trans (hb3.mono (by omega))).setCell (by show _<=w.heap.size+1+1;omega) _)
    clear hown' hgrow hown3 hb3 hb2 hv2;go_wp2_with (first|(refine wpList_load_row rfl 24 _ rfl (w.heap.size+1+1) rfl 24 _ (0,0) _ HE2.out Tryz.underlying24 rfl hinf ?_)|(refine wpList_store_row rfl 24 _ _ rfl (w.heap.size+1) _ rfl rfl 24 _ HE1.out hinf rfl (cells_one _ _) ?_));refine bodyPost_ret (results_cell_row (p:=2) rfl _ _ (w.heap.size+1) 24 _ (0,0) _ rfl (setRow_heap _ _ _ _ 24 (0,0) HE1.out) Tryz.underlying24 rfl hinf) rfl HE.out
   ·by_cases hend:k<bs.length
    ·have hk0:k=10:=by omega
     have hkb:(((k:Nat):Int) == 0)=false:=beq_eq_false_iff_ne.2 (by omega);have hn10:¬(k<10):=by omega
     have HE1:Hid (wr.heap[w.heap.size+1]?=some (.cells (cellsOf (opR 0) (Sl.v ⟨none,0,0⟩)) 24 (0,0))):=HB1.out;have HE2:Hid (wr.heap[w.heap.size+1+1]?=some (.cells (cellsOf (opR 66) (Sl.v ⟨a,k,c⟩)) 24 (0,0))):=HB2.out;have HE:Hid (Shaped w (.returned (.agg (cellsOf (opR 66) (Sl.v ⟨a,k,c⟩)))) (wr.setRow (w.heap.size+1) (cellsOf (opR 66) (Sl.v ⟨a,k,c⟩)))/\Below w.heap.size w (wr.setRow (w.heap.size+1) (cellsOf (opR 66) (Sl.v ⟨a,k,c⟩)))):=
      batch_end (by omega) HLK.out.symm (by omega) hk10 (sh_all _) HOWN.out HBW.out
     clear hbw hk0 hz hbeg hgo;go_wp2_with (first|(refine wpList_load_row rfl 24 _ rfl (w.heap.size+1+1) rfl 24 _ (0,0) _ HE2.out Tryz.underlying24 rfl hinf ?_)|(refine wpList_store_row rfl 24 _ _ rfl (w.heap.size+1) _ rfl rfl 24 _ HE1.out hinf rfl (cells_one _ _) ?_));refine bodyPost_ret (results_cell_row (p:=2) rfl _ _ (w.heap.size+1) 24 _ (0,0) _ rfl (setRow_heap _ _ _ _ 24 (0,0) HE1.out) Tryz.underlying24 rfl hinf) rfl HE.out
    ·have hkb:(((k:Nat):Int) == 0)=false:=beq_eq_false_iff_ne.2 (by omega);have HE1:Hid (wr.heap[w.heap.size+1]?=some (.cells (cellsOf (opR 0) (Sl.v ⟨none,0,0⟩)) 24 (0,0))):=HB1.out;have HE2:Hid (wr.heap[w.heap.size+1+1]?=some (.cells (cellsOf (opR 66) (Sl.v ⟨a,k,c⟩)) 24 (0,0))):=HB2.out;have HE:Hid (Shaped w (.returned (.agg (cellsOf (opR 66) (Sl.v ⟨a,k,c⟩)))) (wr.setRow (w.heap.size+1) (cellsOf (opR 66) (Sl.v ⟨a,k,c⟩)))/\Below w.heap.size w (wr.setRow (w.heap.size+1) (cellsOf (opR 66) (Sl.v ⟨a,k,c⟩)))):=
      batch_end (by omega) HLK.out.symm (by omega) hk10 (sh_all _) HOWN.out HBW.out
     clear hbw hz hbeg hgo;go_wp2_with (first|(refine wpList_load_row rfl 24 _ rfl (w.heap.size+1+1) rfl 24 _ (0,0) _ HE2.out Tryz.underlying24 rfl hinf ?_)|(refine wpList_store_row rfl 24 _ _ rfl (w.heap.size+1) _ rfl rfl 24 _ HE1.out hinf rfl (cells_one _ _) ?_));refine bodyPost_ret (results_cell_row (p:=2) rfl _ _ (w.heap.size+1) 24 _ (0,0) _ rfl (setRow_heap _ _ _ _ 24 (0,0) HE1.out) Tryz.underlying24 rfl hinf) rfl HE.out
theorem shaped_any (r:Wp.Rq)(xa:Option Addr)(xc:Nat)(bs:List ByteArray)(w:World)(hw:Wf r)(hz:Szs r)(hn:bs.length<=maxLen)(hbs:∀s∈bs,s.size<=maxLen)(hS:Strs w xa bs):
  Calls Tryz.prog 20 #[.agg (cellsOf r (.slice xa bs.length xc))] w fun e w'=>Shaped w e w'/\Below w.heap.size w w':=by
 have hx:r.op.toNat % 10=0\/r.op.toNat % 10=1\/r.op.toNat % 10=2\/r.op.toNat % 10=3\/r.op.toNat % 10=4\/r.op.toNat % 10=5\/r.op.toNat % 10=6\/r.op.toNat % 10=7\/r.op.toNat % 10=8\/r.op.toNat % 10=9:=by omega
 rcases hx with h|h|h|h|h|h|h|h|h|h
 ·exact shaped_0 r ⟨xa,bs.length,xc⟩ w h hw hz
 ·exact shaped_1 r ⟨xa,bs.length,xc⟩ w h hw hz
 ·exact shaped_2 r ⟨xa,bs.length,xc⟩ w h hw hz
 ·exact shaped_3 r ⟨xa,bs.length,xc⟩ w h hw hz
 ·exact shaped_4 r ⟨xa,bs.length,xc⟩ w h hw hz
 ·exact shaped_5 r ⟨xa,bs.length,xc⟩ w h hw hz
 ·exact shaped_6 r ⟨xa,bs.length,xc⟩ w h hw hz
 ·exact shaped_7 r ⟨xa,bs.length,xc⟩ w h hw hz
 ·exact shaped_8 r ⟨xa,bs.length,xc⟩ w h hw hz
 ·exact shaped_9 r xa xc bs w h hn hbs hS
end Go.Proofs.YtbdobaapadlcjabGreatDoor.Keep
namespace Go.Proofs.YtbdobaapadlcjabGreatDoor
open Go.RowKit
variable {w W w' w0:World}{B x sx bx y sy b2 d o:Nat}{T:List TypeId}{nx ny:Int}{cx cy:Nat->Option QM}{colx coly:Nat->Nat}{C:Array Value}
structure RqS where
 r:Wp.Rq
 xa:Option Addr
 xc:Nat
 bs:List ByteArray
def RqS.arr (s:RqS):Array Value:=cellsOf s.r (.slice s.xa s.bs.length s.xc)
structure RqS.Ok (s:RqS)(w:World):Prop where
 wf:Wf s.r
 sz:Keep.Szs s.r
 n:s.bs.length<=maxLen
 m:∀t∈s.bs,t.size<=maxLen
 st:Strs w s.xa s.bs
def ScR (B:Nat)(w:World)(ga:Option Addr)(sc:List RqS):Prop:=0<sc.length->∃g o,ga=some ⟨g,o,none⟩/\g<B/\∀j (hj:j<sc.length) i u,(sc[j].arr.toList)[i]?=some u->w.cell? ⟨g,o+j*15+i,none⟩=some u
theorem RqS.Ok.below {s:RqS}(h:s.Ok w)(hb:Below w.heap.size w W):s.Ok W:=⟨h.wf,h.sz,h.n,h.m,h.st.below hb⟩
theorem ScR.below {ga:Option Addr}{sc:List RqS}(h:ScR B w ga sc)(hb:Below B w W):ScR B W ga sc:=fun hp=>by
 obtain⟨g,o,h1,h2,h3⟩:=h hp;exact⟨g,o,h1,h2,fun j hj i u hu=>(hb.cell (p:=⟨g,o+j*15+i,none⟩) h2).trans (h3 j hj i u hu)⟩
theorem info24:(Tryz.prog.info? 24).map (fun i=>i.size)=some 15:=by kernel_rfl
theorem FStrs.strs {a:Option Addr}{bs:List ByteArray}(h:FStrs B w a bs):Strs w a bs:=fun j hj=>by
 obtain⟨b,o,h1,_,h2⟩:=h j hj;exact⟨b,o,h1,h2⟩
theorem bytesOf_any (B:Nat)(ga:Option Addr)(gc:Nat)(sc:List RqS)(w:World)(hE:Env B w)(hok:∀s∈sc,s.Ok w)(hln:sc.length<=2000000000000)(hga:ScR w.heap.size w ga sc):
  Calls Tryz.prog 8 #[.slice ga sc.length gc] w fun e w'=>∃v ls,e=.returned v/\Dk.OwnS w' v ls/\ls.length=sc.length/\(∀s∈ls,parseGood s=true)/\(∀b,v.ownBlock=some b->w.heap.size<=b)/\Tch [] w w':=by
 have HSH:Hid (∀W (j:Nat) (hj:j<sc.length),Tch [] w W->Calls Tryz.prog 20 #[.agg sc[j].arr] W fun e w'=>Keep.Shaped W e w'/\Below W.heap.size W w'):=fun W j hj ht=>by
  have h:=(hok _ (List.getElem_mem hj)).below (ht.below (by simp) (Nat.le_refl _));exact Keep.shaped_any _ _ _ _ W h.wf h.sz h.n h.m h.st
 have HPR:Hid (∀W (r:Wp.Rq) (x:Sl) (bs:List ByteArray),Tch [] w W->rightW r x (Wp.short bs)=true->x.n=bs.length->bs.length<=10->Strs W x.a bs->zB 22 #[.agg (cellsOf r x.v)] W (.tuple #[.string (printS r x bs),.int .i64 0])):=fun W r x bs ht hr hx hb hs=>by
  have hE':=hE.tch ht (by simp);have h:=wharf_print B r x bs W hx (by unfold maxLen;omega) hE'.lays hE'.size hs;rw[(print_bytes r x bs hr).2]at h;exact h
 have HGA:Hid (∀W,Tch [] w W->ScR w.heap.size W ga sc):=fun W ht=>hga.below (ht.below (by simp) (Nat.le_refl _))
 have hinf:=info24;clear hE hok hga;go_enter Tryz.func8,Tryz.ntmps8;go_wp2_with fail
 go_loopw [3,4] (fun ov iv wr=>∃(k:Nat) (ls:List ByteArray),k<=sc.length/\iv=.int .i64 (k:Int)/\Dk.OwnS wr ov ls/\ls.length=k/\(∀s∈ls,parseGood s=true)/\(∀b,ov.ownBlock=some b->w.heap.size<=b)/\Tch [] w wr) (fun _ iv _=>sc.length-(intOf iv).toNat)
 case atStart=>exact⟨0,[],Nat.zero_le _,rfl,Dk.OwnS.nil _,rfl,fun s hs=>absurd hs (by simp),fun b hb=>by simp[Value.ownBlock]at hb,Tch.refl _ _⟩
 case round=>
  obtain⟨k,ls,hk,rfl,hown,hlen,hgood,hnew,ht⟩:=hrel;have HOW:=zH (⟨hown,hlen,hgood,hnew⟩:Dk.OwnS wr u3 ls/\ls.length=k/\(∀s∈ls,parseGood s=true)/\(∀b,u3.ownBlock=some b->w.heap.size<=b));have HT:=zH ht
  by_cases hlt:k<sc.length
  ·obtain⟨g,o,rfl,hg,hcs⟩:=HGA.out wr ht (by omega);have HRG:Hid (wr.rangeAt g (o+k*15) (sc[k].arr.toList)):=fun i u hu=>hcs k hlt i u hu
   have hlI:(k:Int)<(sc.length:Int):=by omega
   have HS:=zH (HSH.out wr k hlt ht);have hsz:sc[k].arr.toList.length=15:=rfl;clear hcs hown hlen hgood hnew ht HSH HGA;generalize sc[k].arr=A at*
   go_wp2_with (refine wpList_load_mid rfl 24 _ rfl g (o+k*15) rfl A.toList _ HRG.out Tryz.underlying24 rfl (by rw[hsz];exact hinf) ?_);refine HS.out.mono ?_;rintro e w1 ⟨⟨r,x,bs,rfl,hright,hwf,hxn,hbl,hfs⟩,hb1⟩;have t1:Tch [] wr w1:=Tch.of_below hb1;have HT1:=zH (HT.out.trans t1 (fun _ h _=>h):Tch [] w w1);have HOW1:=zH (HOW.out.1.tch t1 (fun _ _=>by simp));have HPQ:=zH (HPR.out (laidIn w1 (cellsOf r x.v)) r x bs (HT1.out.trans (laidIn_tch _ _) (fun _ h _=>h)) hright hxn hbl ((FStrs.strs hfs).below ((laidIn_tch _ _).below (by simp) (Nat.le_refl _))));have HGD:=zH (print_good r x bs hwf hxn hright).1;generalize printS r x bs=S at HPQ HGD;clear hright hwf hxn hbl hfs hb1 t1 HS HRG;go_wp2_with (first|(refine wpList_store_row rfl 24 _ _ rfl w1.heap.size (cellsOf r x.v) rfl rfl 24 _ (heap_alloc_new _ _) hinf rfl (cells_one _ _) ?_)|(refine wpList_load_row rfl 24 _ rfl w1.heap.size rfl 24 (cellsOf r x.v) (0,0) _ (laidIn_heap _ _) Tryz.underlying24 rfl hinf ?_));refine HPQ.out.mono ?_;rintro e w2 ⟨rfl,hb2⟩;have t2:Tch [] w1 w2:=(laidIn_tch w1 (cellsOf r x.v)).trans (Tch.of_below hb2) (fun _ h _=>h);have HT2:=zH (HT1.out.trans t2 (fun _ h _=>h):Tch [] w w2);have HOW2:=zH (HOW1.out.tch t2 (fun _ _=>by simp));clear hb2 t2 HPQ HT1 HOW1;have hkl:=HOW.out.2.1;go_wp2_with (at_builtin;refine Dk.wpList_strs _ rfl _ _ rfl u3 ls rfl (HOW2.out.tch ((Tch.refl [] _).alloc _) (fun _ _=>by simp)) w2.heap.size [S] 1 rfl rfl (by decide) (heap_alloc_new _ _) (by omega) ?_);intro v' w3 ho3 hg3 hb3;have HF:Hid (Dk.OwnS w3 v' (ls++[S])/\(ls++[S]).length=k+1/\(∀s∈ls++[S],parseGood s=true)/\(∀b,v'.ownBlock=some b->w.heap.size<=b)/\Tch [] w w3):=by
    refine⟨ho3,by rw[List.length_append,hkl];rfl,fun s hs=>?_,fun b hb=>?_,?_⟩
    ·rcases List.mem_append.1 hs with h|h
     ·exact HOW.out.2.2.1 s h
     ·rw[List.mem_singleton.1 h];exact HGD.out
    ·rcases hb3 with h|h
     ·exact HOW.out.2.2.2 b (h.symm.trans hb)
     ·rw[hb]at h;injection h with h;have:=HT2.out.size;have hsz2:(w2.alloc (.cells #[.string S] 9)).heap.size=w2.heap.size+1:=by simp
      omega
    ·exact(HT2.out.alloc _).grown hg3 (fun b hb hlt=>by have:=HOW.out.2.2.2 b hb;omega)
   clear ho3 hg3 hb3;go_wp2_with fail;go_roundw
   case rel=>exact⟨k+1,ls++[S],by omega,by go_num,HF.out.1,HF.out.2.1,HF.out.2.2.1,HF.out.2.2.2.1,HF.out.2.2.2.2⟩
   case measure=>simp[intOf];omega
  ·have hlI:¬((k:Int)<(sc.length:Int)):=by omega
   have hks:k=sc.length:=by omega
   clear hown hlen hgood hnew ht HSH HGA HPR;go_wp2_with fail;go_ret;exact⟨_,rfl,ls,HOW.out.1,HOW.out.2.1.trans hks,HOW.out.2.2.1,HOW.out.2.2.2,HT.out⟩
theorem FqT.bel {col:Nat->Nat}(h:FqT T B col w w'):Below B w w':=⟨h.os,h.tape,h.output,h.size,fun k hk=>h.low k hk⟩
theorem Env.bel (h:Env B w)(hb:Below B w w'):Env B w':=⟨h.lays.below hb,h.tab.below hb h.three,Nat.le_trans h.size hb.size,h.three⟩
theorem Env.pos (h:Env B w):0<w.heap.size:=by
 have h1:=h.three;have h2:=h.size;omega
structure Two (B:Nat)(w:World)(x sx bx:Nat)(nx:Int)(cx:Nat->Option QM)(colx:Nat->Nat)(y sy b2:Nat)(ny:Int)(cy:Nat->Option QM)(coly:Nat->Nat):Prop where
 f:Bk B w x sx bx nx cx colx
 g:Bk B w y sy b2 ny cy coly
 ap:∀q,B<=q->q<w.heap.size->colx q=9\/coly q=9
 env:Env B w
theorem Two.symm (h:Two B w x sx bx nx cx colx y sy b2 ny cy coly):Two B w y sy b2 ny cy coly x sx bx nx cx colx:=⟨h.g,h.f,fun q h1 h2=>(h.ap q h1 h2).symm,h.env⟩
theorem Two.did {nx':Int}{cx':Nat->Option QM}(h:Two B w x sx bx nx cx colx y sy b2 ny cy coly)(hd:Did B x sx bx w colx nx' cx' w'):
  ∃colx',Two B w' x sx bx nx' cx' colx' y sy b2 ny cy (rec9 w w' coly)/\Agr w colx colx'/\FqT TA B colx w w':=by
 obtain⟨col',hb,ha,hf⟩:=hd;refine⟨col',⟨hb,h.g.oth hf (fun q hB hq h9=>(h.ap q hB hq).resolve_right h9),fun q hB hq=>?_,h.env.bel hf.bel⟩,ha,hf⟩
 by_cases hlt:q<w.heap.size
 ·rw[ha.1 q hlt,rec9_old hlt];exact h.ap q hB hlt
 ·exact .inr (if_pos ⟨by omega,hq⟩)
theorem Two.fr (h:Two B w x sx bx nx cx colx y sy b2 ny cy coly){T:List TypeId}(hf:Fr B T w w')(h1:∀t∈TA,t∉T)(h2:60∉T)(h3:186∉T):
  Two B w' x sx bx nx cx (rec9 w w' colx) y sy b2 ny cy (rec9 w w' coly):=by
 refine⟨h.f.fr hf h1 h2 h3,h.g.fr hf h1 h2 h3,fun q hB hq=>?_,h.env.bel hf.below⟩
 by_cases hlt:q<w.heap.size
 ·rw[rec9_old hlt,rec9_old hlt];exact h.ap q hB hlt
 ·exact .inr (if_pos ⟨by omega,hq⟩)
def PI (B:Nat)(w0:World)(d x y:Nat)(nx:Int)(cx:Nat->Option QM)(ny:Int)(cy:Nat->Option QM)(w:World):Prop:=∃sx bx sy b2 colx coly,Two B w x sx bx nx cx colx y sy b2 ny cy coly/\colx 0=d+10/\Below B w0 w
def Kp (w w':World):Prop:=∀(k:Nat) (C:Array Value) (t:TypeId),w.heap[k]?=some (.cells C t (0,0))->t∉TA->w'.heap[k]?=some (.cells C t (0,0))
theorem PI.env (h:PI B w0 d x y nx cx ny cy w):Env B w:=by
 obtain⟨sx,bx,sy,b2,colx,coly,h1,h2,h3⟩:=h;exact h1.env
theorem PI.bel (h:PI B w0 d x y nx cx ny cy w):Below B w0 w:=by
 obtain⟨sx,bx,sy,b2,colx,coly,h1,h2,h3⟩:=h;exact h3
theorem PI.fr (h:PI B w0 d x y nx cx ny cy w){T:List TypeId}(hf:Fr B T w w')(h1:∀t∈TA,t∉T)(h2:60∉T)(h3:186∉T):PI B w0 d x y nx cx ny cy w':=by
 obtain⟨sx,bx,sy,b2,colx,coly,g1,g2,g3⟩:=h;exact⟨sx,bx,sy,b2,_,_,g1.fr hf h1 h2 h3,(rec9_old g1.env.pos).trans g2,g3.trans hf.below⟩
theorem PI.tch (h:PI B w0 d x y nx cx ny cy w)(ht:Tch [] w w'):PI B w0 d x y nx cx ny cy w':=
 h.fr (T:=[]) (Fr.of_nil [] ht h.env.size) (by simp) (by simp) (by simp)
theorem PI.box (h:PI B w0 d x y nx cx ny cy w){p o:Nat}{C:Array Value}(hp:B<=p)(hb:w.heap[p]?=some (.cells C 24 (0,0)))(v:Value):PI B w0 d x y nx cx ny cy (w.setCell ⟨p,o,none⟩ v):=
 h.fr (T:=[24]) (Fr.of_tch ((Tch.refl [p] w).setCell (fun _=>by simp) v) h.env.size (fun k hk=>by simp at hk;omega) (fun k hk C' t hC=>by
  simp at hk;subst hk;rw[hb]at hC;simp at hC;simp[<-hC.2])) (by decide) (by decide) (by decide)
theorem PI.crx (h:PI B w0 d x y 0 cx ny cy w)(r:Wp.Rq)(i:Nat)(hr:Rok r)(hop:r.op=67)(hi:i<8)(hq:r.q.toNat=97+i)(hno:cx i=none):
  Calls Tryz.prog 21 #[.pointer (some ⟨x,0,none⟩),.agg (cellsOf r nil0.v)] w fun e w'=>e=.returned (.bool true)/\PI B w0 d x y 0 (setC cx i (some (newM r))) ny cy w'/\Kp w w':=by
 obtain⟨sx,bx,sy,b2,colx,coly,g1,g2,g3⟩:=h;refine(create_g B r x sx bx i 0 cx colx w g1.env g1.f hr hop hi hq hno).mono ?_;rintro e w' ⟨rfl,hd⟩;obtain⟨colx',k1,k2,k3⟩:=g1.did hd;exact⟨rfl,⟨sx,bx,sy,b2,_,_,k1,(k2.1 0 g1.env.pos).trans g2,g3.trans k3.bel⟩,k3.keep⟩
theorem PI.cry (h:PI B w0 d x y nx cx 0 cy w)(r:Wp.Rq)(i:Nat)(hr:Rok r)(hop:r.op=67)(hi:i<8)(hq:r.q.toNat=97+i)(hno:cy i=none):
  Calls Tryz.prog 21 #[.pointer (some ⟨y,0,none⟩),.agg (cellsOf r nil0.v)] w fun e w'=>e=.returned (.bool true)/\PI B w0 d x y nx cx 0 (setC cy i (some (newM r))) w'/\Kp w w':=by
 obtain⟨sx,bx,sy,b2,colx,coly,g1,g2,g3⟩:=h;refine(create_g B r y sy b2 i 0 cy coly w g1.env g1.g hr hop hi hq hno).mono ?_;rintro e w' ⟨rfl,hd⟩;obtain⟨coly',k1,k2,k3⟩:=g1.symm.did hd;exact⟨rfl,⟨sx,bx,sy,b2,_,_,k1.symm,(rec9_old g1.env.pos).trans g2,g3.trans k3.bel⟩,k3.keep⟩
def colO (d S:Nat):Nat->Nat:=fun q=>if q=0 then d+10 else if q<S then 9 else 0
theorem opn_bk {S:Nat}{st b j:Nat}(h:Opn S w x st b j d (.slice none 0 0))(hd:S<=d)(hB:B<=S)(h3:3<=B)(hS:S<=w.heap.size):Bk B w x st b 0 (fun _=>none) (colO d S):=
 (h.bk hd (colO d S) (fun k hk=>by
  unfold colO;rw[if_neg (by omega),if_neg (by omega)];decide) (if_pos rfl) hS).mono hB
theorem two_opn {wa w1 w2:World}{x1 s1 b1 j1 d1 x2 s2 j2 d2:Nat}(hE:Env B wa)(hb1:Below wa.heap.size wa w1)(h1:Opn wa.heap.size w1 x1 s1 b1 j1 d1 (.slice none 0 0))(hd1:d1=wa.heap.size)(hb2:Below w1.heap.size w1 w2)(h2:Opn w1.heap.size w2 x2 s2 b2 j2 d2 (.slice none 0 0))(hd2:d2=w1.heap.size):
  PI B wa d1 x1 x2 0 (fun _=>none) 0 (fun _=>none) w2:=by
 have hz1:=hb1.size;have hz2:=hb2.size;have hBa:=hE.size;have h3:=hE.three;have hE1:=hE.bel (hb1.mono hBa);have k1:=opn_bk h1 (by omega) hBa h3 hz1;have k2:=k1.fr (T:=[]) (Fr.of_nil [] (Tch.of_below hb2) hE1.size) (by simp) (by simp) (by simp);have k3:=opn_bk h2 (by omega) (Nat.le_trans hBa hz1) h3 hz2;refine⟨s1,b1,s2,b2,_,_,⟨k2,k3,fun q hB hq=>?_,hE1.bel (hb2.mono hE1.size)⟩,(rec9_old (by omega)).trans (if_pos rfl),(hb1.mono hBa).trans (hb2.mono hE1.size)⟩
 by_cases hlt:q<w1.heap.size
 ·right;unfold colO;rw[if_neg (by omega),if_pos hlt]
 ·exact .inl (if_pos ⟨by omega,hq⟩)
theorem blk_set {qb:Nat}{C':Array Value}{t:TypeId}(h:w.heap[qb]?=some (.cells C t (0,0)))(v:Value)(hC:C.setIfInBounds o v=C'):(w.setCell ⟨qb,o,none⟩ v).heap[qb]?=some (.cells C' t (0,0)):=by
 rw[<-hC];exact heap_setCell_same w qb o C t v h
theorem rok_of {r:Wp.Rq}(hw:Wf r)(h:rightW r nil0 (Wp.short [])=true):Rok r:=⟨hw,h,good_size _ (print_good r nil0 [] hw rfl h).1⟩
def rawQ (r:Wp.Rq)(x:Sl)(o z:Int):Array Value:=#[.int .u8 o,.int .u8 z,.int .u8 (r.d.toNat:Int),.int .i64 r.vis,.int .i64 r.win,.int .i64 r.rcv,.int .i64 r.quo,.int .i64 r.mx,.int .i64 r.tic,.string r.grp,.string r.ded,.string r.bod,.string r.att,.string r.han,.slice x.a x.n x.c]
theorem shaped_raw (r:Wp.Rq)(x:Sl)(q:UInt8)(W:World)(hw:Wf r)(hz:Keep.Szs r)(hq:q.toNat<8):
  Calls Tryz.prog 20 #[.agg (rawQ r x 0 (q.toNat:Int))] W fun e w'=>(∃rr,e=.returned (.agg (cellsOf rr nil0.v))/\Rok rr/\rr.op=67/\rr.q.toNat=97+q.toNat)/\Tch [] W w':=by
 refine(Keep.shaped_Q {r with op:=0,q:=q} x W rfl ⟨hw.vis,hw.win,hw.rcv,hw.quo,hw.mx,hw.tic⟩ ⟨hz.grp,hz.ded,hz.bod,hz.att,hz.han⟩).mono ?_;rintro e w' ⟨⟨rr,rfl,h1,h2,h3,h4⟩,hb⟩;have h4':rr.q.toNat=97+q.toNat:=by
  have:rr.q.toNat=97+q.toNat % 8:=h4;omega
 exact⟨⟨rr,rfl,rok_of h2 h1,h3,h4'⟩,Tch.of_below hb⟩
theorem prepared_any (B:Nat)(r:Wp.Rq)(x:Sl)(w:World)(hw:Wf r)(hz:Keep.Szs r)(hE:Env B w):
  Calls Tryz.prog 7 #[.agg (cellsOf r x.v)] w fun e w'=>∃xb yb d c,e=.returned (.tuple #[.pointer (some ⟨xb,0,none⟩),.pointer (some ⟨yb,0,none⟩),.pointer (some ⟨d,0,none⟩)])/\PI B w d xb yb 0 c 0 c w':=by
 have HSH:Hid (∀W (z:Int),(z=0\/z=1)->Calls Tryz.prog 20 #[.agg (rawQ r x 0 z)] W fun e w'=>(∃rr,e=.returned (.agg (cellsOf rr nil0.v))/\Rok rr/\rr.op=67/\rr.q.toNat=97+z.toNat)/\Tch [] W w'):=fun W z hz2=>by
  rcases hz2 with rfl|rfl
  ·exact shaped_raw r x 0 W hw hz (by decide)
  ·exact shaped_raw r x 1 W hw hz (by decide)
 have hinf:=info24;have HE:=zH hE;have HBW:=zH hE.size;have hop:=r.op.toNat_lt;rw[show cellsOf r x.v=rawQ r x (r.op.toNat:Int) (r.q.toNat:Int) from rfl]
 generalize (r.op.toNat:Int)=O;generalize (r.q.toNat:Int)=Q0;clear hw hz hE;go_enter Tryz.func7,Tryz.ntmps7;go_wp2_with fail;refine(opened_any _).mono ?_;rintro e w1 ⟨x1,s1,b1,j1,d1,rfl,hb1,ho1,hd1⟩;have HO1:=zH (⟨hb1,ho1,hd1⟩:Below _ _ w1/\Opn _ w1 x1 s1 b1 j1 d1 (.slice none 0 0)/\d1=_);clear hb1 ho1 hd1;go_wp2_with fail;refine(opened_any _).mono ?_;rintro e w2 ⟨x2,s2,b2,j2,d2,rfl,hb2,ho2,hd2⟩;obtain⟨WA,HWA⟩:∃WA,Hid (WA=w.alloc (.cells (rawQ r x O Q0) 24)):=⟨_,rfl⟩;have HP2:Hid (PI B w d1 x1 x2 0 (fun _=>none) 0 (fun _=>none) w2/\w2.heap[w.heap.size]?=some (.cells (rawQ r x O Q0) 24 (0,0))):=by
  have ht:Tch [] w (w.alloc (.cells (rawQ r x O Q0) 24)):=(Tch.refl [] w).alloc _;have hp:=two_opn (HE.out.tch ht (by simp)) HO1.out.1 HO1.out.2.1 HO1.out.2.2 hb2 ho2 hd2;obtain⟨sx,bx,sy,b2,colx,coly,g1,g2,g3⟩:=hp;have hz1:=HO1.out.1.size;have e1:(w.alloc (.cells (rawQ r x O Q0) 24)).heap.size=w.heap.size+1:=by simp
  refine⟨⟨sx,bx,sy,b2,colx,coly,g1,g2,(ht.below (by simp) HBW.out).trans g3⟩,?_⟩;rw[hb2.block _ (by omega),HO1.out.1.block _ (by omega)];exact heap_alloc_new _ _
 clear HO1 hb2 ho2 hd2 HWA;obtain⟨hp2,hbl2⟩:=HP2.out;have c0:w2.cell? ⟨w.heap.size,0,none⟩=some (.int .u8 O):=cell_qC hbl2 0 _ rfl;have z0:w2.frozen? ⟨w.heap.size,0,none⟩=false:=frozen_of_row w2 _ _ _ 24 hbl2;have HP3:Hid (PI B w d1 x1 x2 0 (fun _=>none) 0 (fun _=>none) (w2.setCell ⟨w.heap.size,0,none⟩ (.int .u8 0))/\(w2.setCell ⟨w.heap.size,0,none⟩ (.int .u8 0)).heap[w.heap.size]?=some (.cells (rawQ r x 0 Q0) 24 (0,0))):=⟨hp2.box HBW.out hbl2 _,blk_set hbl2 _ rfl⟩;clear hp2 hbl2 HP2;go_wp2_with fail
 go_loopw [9] (fun iv wr=>∃(k:Nat) (c:Nat->Option QM) (z:Int),k<=2/\iv=.int .i64 (k:Int)/\(∀i,k<=i->c i=none)/\PI B w d1 x1 x2 0 c 0 c wr/\wr.heap[w.heap.size]?=some (.cells (rawQ r x 0 z) 24 (0,0))) (fun iv _=>2-(intOf iv).toNat)
 case atStart=>exact⟨0,fun _=>none,Q0,by omega,rfl,fun _ _=>rfl,HP3.out.1,HP3.out.2⟩
 case round=>
  obtain⟨k,c,z,hk,rfl,hno,hpi,hbl⟩:=hrel;clear HP3 c0 z0;have HPI:=zH hpi;have HNO:=zH hno
  by_cases hlt:k<2
  ·have c1:wr.cell? ⟨w.heap.size,1,none⟩=some (.int .u8 z):=cell_qC hbl 1 _ rfl;have z1:wr.frozen? ⟨w.heap.size,1,none⟩=false:=frozen_of_row wr _ _ _ 24 hbl;have HBX:Hid (PI B w d1 x1 x2 0 c 0 c (wr.setCell ⟨w.heap.size,1,none⟩ (.int .u8 (k:Int)))/\(wr.setCell ⟨w.heap.size,1,none⟩ (.int .u8 (k:Int))).heap[w.heap.size]?=some (.cells (rawQ r x 0 (k:Int)) 24 (0,0))):=⟨hpi.box HBW.out hbl _,blk_set hbl _ rfl⟩;have hsz:(rawQ r x 0 (k:Int)).size=15:=rfl;have hlI:(k:Int)<2:=by omega
   have hmI:((k:Int) % 256)=(k:Int):=by omega
   have HS:=zH (HSH.out (wr.setCell ⟨w.heap.size,1,none⟩ (.int .u8 (k:Int))) (k:Int) (by omega));clear hpi hbl hno HSH;go_wp2_with (refine wpList_load_row rfl 24 _ rfl w.heap.size rfl 24 (rawQ r x 0 (k:Int)) (0,0) _ HBX.out.2 Tryz.underlying24 rfl (by rw[hsz];exact hinf) ?_);refine HS.out.mono ?_;rintro e w3 ⟨⟨rr,rfl,hrok,hrop,hrq⟩,t3⟩;have hrq':rr.q.toNat=97+k:=by simpa using hrq
   have HRR:=zH (⟨hrok,hrop,hrq'⟩:Rok rr/\rr.op=67/\rr.q.toNat=97+k);have HX:Hid (PI B w d1 x1 x2 0 c 0 c (laidIn w3 (cellsOf rr nil0.v))/\(laidIn w3 (cellsOf rr nil0.v)).heap[w.heap.size]?=some (.cells (rawQ r x 0 (k:Int)) 24 (0,0))):=by
    have t4:=t3.trans (laidIn_tch w3 (cellsOf rr nil0.v)) (fun _ h _=>h);exact⟨HBX.out.1.tch t4,(t4.block _ (lt_of_block HBX.out.2) (by simp)).trans HBX.out.2⟩
   clear hrok hrop hrq t3 HS HBX hrq' c1 z1 HPI;go_wp2_with (first|(refine wpList_store_row rfl 24 _ _ rfl w3.heap.size (cellsOf rr nil0.v) rfl rfl 24 _ (heap_alloc_new _ _) hinf rfl (cells_one _ _) ?_)|(refine wpList_load_row rfl 24 _ rfl w3.heap.size rfl 24 (cellsOf rr nil0.v) (0,0) _ (laidIn_heap _ _) Tryz.underlying24 rfl hinf ?_));refine(HX.out.1.crx rr k HRR.out.1 HRR.out.2.1 (by omega) HRR.out.2.2 (HNO.out k (Nat.le_refl _))).mono ?_;rintro e w4 ⟨rfl,hpi4,hk4⟩;have HX4:Hid (PI B w d1 x1 x2 0 (setC c k (some (newM rr))) 0 c w4/\w4.heap[w.heap.size]?=some (.cells (rawQ r x 0 (k:Int)) 24 (0,0))/\w4.heap[w3.heap.size]?=some (.cells (cellsOf rr nil0.v) 24 (0,0))):=⟨hpi4,hk4 _ _ _ HX.out.2 (by decide),hk4 _ _ _ (laidIn_heap _ _) (by decide)⟩;clear hpi4 hk4 HX;go_wp2_with (refine wpList_load_row rfl 24 _ rfl w3.heap.size rfl 24 (cellsOf rr nil0.v) (0,0) _ HX4.out.2.2 Tryz.underlying24 rfl hinf ?_);refine(HX4.out.1.cry rr k HRR.out.1 HRR.out.2.1 (by omega) HRR.out.2.2 (HNO.out k (Nat.le_refl _))).mono ?_;rintro e w5 ⟨rfl,hpi5,hk5⟩;have HX5:Hid (PI B w d1 x1 x2 0 (setC c k (some (newM rr))) 0 (setC c k (some (newM rr))) w5/\w5.heap[w.heap.size]?=some (.cells (rawQ r x 0 (k:Int)) 24 (0,0))/\∀i,k+1<=i->setC c k (some (newM rr)) i=none):=⟨hpi5,hk5 _ _ _ HX4.out.2.1 (by decide),fun i hi=>by
    unfold setC;rw[if_neg (by omega)];exact HNO.out i (by omega)⟩
   clear hpi5 hk5 HX4 HRR HNO;go_wp2_with fail;go_roundw
   case rel=>exact⟨k+1,_,_,by omega,by go_num,HX5.out.2.2,HX5.out.1,HX5.out.2.1⟩
   case measure=>simp[intOf];omega
  ·have hlI:¬((k:Int)<2):=by omega
   clear hpi hno hbl HSH;go_wp2_with fail;go_ret3;exact⟨x1,x2,d1,rfl,c,HPI.out⟩
end Go.Proofs.YtbdobaapadlcjabGreatDoor
