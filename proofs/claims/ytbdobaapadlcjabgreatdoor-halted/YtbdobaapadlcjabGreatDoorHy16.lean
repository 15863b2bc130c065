import Derived.Test.YtbdobaapadlcjabGreatDoorHy15
set_option maxRecDepth 8000
set_option maxHeartbeats 4000000
set_option linter.unusedVariables false
set_option linter.unusedSimpArgs false
namespace Go.Proofs.YtbdobaapadlcjabGreatDoor
open Go.RowKit
variable {w w':World}{base k B st i j:Nat}{Q Q':QM}{now:Int}{col c:Nat->Nat}{T:List TypeId}{t:TypeId}{V' VT':QV}
theorem add_zero_at (g j:Nat):(⟨g,0,none⟩:Addr).add j=⟨g,j,none⟩:=by unfold Addr.add;split<;>simp_all
theorem bring_walk (I:Nat->List Int->World->Prop)(K:World->Prop)(st qb:Nat)(now:Int)(dv:Value)(w:World)(c0:w.cell? ⟨st,0,none⟩=some (.int .i64 now))
  (hD:zE 157 #[.pointer (some ⟨st,0,none⟩),.pointer (some ⟨qb,0,none⟩)] w dv)
  (hU:Calls Tryz.prog 213 #[.pointer (some ⟨qb,0,none⟩),.int .i64 now] w fun e w'=>∃v ns,e=.returned v/\w'.ownsRow w.heap.size 3 1 v ns.length (ns.map fun n=>.int .i64 n)/\ns.length<=1000/\I w'.heap.size ns w')
  (hS:∀B n ns W,I B (n::ns) W->Calls Tryz.prog 156 #[.pointer (some ⟨qb,0,none⟩),.int .i64 n,dv] W fun e w'=>e=.returned (.tuple #[])/\I B ns w'/\∃S,Tch S W w'/\∀x∈S,x<w.heap.size\/B<=x)
  (hK:∀B W,I B [] W->K W):
  Calls Tryz.prog 200 #[.pointer (some ⟨st,0,none⟩),.pointer (some ⟨qb,0,none⟩)] w fun e w'=>e=.returned (.tuple #[])/\K w':=by
 have HD:=zH hD;have HU:=zH hU;have HS:=zH hS;have HK:=zH hK;clear hD hU hS hK;go_enter Tryz.func200,Tryz.ntmps200;go_wp2_with fail;refine HD.out.mono ?_;rintro e w' ⟨rfl,h'⟩;have h'':=h'.symm;subst h'';clear HD;go_wp2_with fail;refine HU.out.mono ?_;rintro e w1 ⟨v,ns,rfl,ho,hn,hI⟩;clear HU;have HI:=zH hI;clear hI;rcases ho.2 with ⟨rfl,h0⟩|⟨g,c,cur,rfl,hb,hg,_⟩
 ·have hne:ns=[]:=List.length_eq_zero_iff.1 h0;subst hne;have HK1:=zH (HK.out _ _ HI.out);clear HI HK HS ho;go_wp2_with fail;refine wp_loop_rounds 1 ?_;rw[rounds_succ];go_wp2_with fail;go_end0;exact⟨rfl,HK1.out⟩
 ·have hgl:=lt_of_block hg;have HO1:=zH ho;clear ho hg;obtain⟨B,hB⟩:∃B,B=w1.heap.size:=⟨_,rfl⟩;rw[<-hB]at HI hgl;go_wp2_with fail
  go_loopw [17] (fun jv wr=>∃j:Nat,j<=ns.length/\jv=.int .i64 (j:Int)/\wr.ownsRow w.heap.size 3 1 (.slice (some ⟨g,0,none⟩) ns.length c) ns.length (ns.map fun n=>.int .i64 n)/\I B (ns.drop j) wr) (fun jv _=>ns.length-(intOf jv).toNat)
  case atStart=>exact⟨0,Nat.zero_le _,rfl,HO1.out,HI.out⟩
  case round=>
   obtain⟨j,hj,rfl,ho,hI⟩:=hrel;have HO:=zH ho
   by_cases hlt:j<ns.length
   ·have hdrop:ns.drop j=ns[j]::ns.drop (j+1):=List.drop_eq_getElem_cons hlt;have cj:wr.cell? ⟨g,j,none⟩=some (.int .i64 ns[j]):=by
     have h1:=World.ownsRow.cells ho (g:=g) rfl j (.int .i64 ns[j]) (by simp[hlt]);rw[add_zero_at]at h1;exact h1
    rw[hdrop]at hI;have HC:=HS.out _ _ _ _ hI;generalize ns[j]=n at*
    have HC':=zH HC;clear HC hI hdrop ho;go_wp2_with fail;refine HC'.out.mono ?_;rintro e w2 ⟨rfl,hI2,S,hT,hSx⟩;have HN:Hid (w2.ownsRow w.heap.size 3 1 (.slice (some ⟨g,0,none⟩) ns.length c) ns.length (ns.map fun n=>.int .i64 n)/\I B (ns.drop (j+1)) w2):=⟨own_tch HO.out hT (fun k hk hm=>by
     simp[Value.ownBlock]at hk;subst hk;rcases hSx g hm with h|h<;>omega),hI2⟩
    clear hI2 hT hSx HC';go_wp2_with fail;go_roundw
    case rel=>exact⟨j+1,by omega,by go_num,HN.out.1,HN.out.2⟩
    case measure=>simp[intOf];omega
   ·have hje:j=ns.length:=by omega
    subst hje;have HK1:Hid (K wr):=HK.out B wr (by rw[List.drop_length]at hI;exact hI);clear hI ho;go_wp2_with fail;go_end0;exact⟨rfl,HK1.out⟩
theorem qrow_cell {oa:Option Addr}{oc:Nat}{qs:List Nat}(h:w.ownsRow base 88 1 (.slice oa qs.length oc) qs.length (qs.map fun q=>.pointer (some ⟨q,0,none⟩)))(j:Nat)(hj:j<qs.length):
  ∃g,oa=some ⟨g,0,none⟩/\base<=g/\g<w.heap.size/\w.cell? ⟨g,j,none⟩=some (.pointer (some ⟨qs[j],0,none⟩)):=by
 rcases h.2 with ⟨h1,h0⟩|⟨g,c,cur,h1,hb,hg,_⟩
 ·omega
 ·simp only[Value.slice.injEq,true_and]at h1;obtain⟨rfl,rfl⟩:=h1;have h2:=World.ownsRow.cells h (g:=g) rfl j (.pointer (some ⟨qs[j],0,none⟩)) (by simp[hj]);rw[add_zero_at]at h2;exact⟨g,rfl,hb,lt_of_block hg,h2⟩
theorem setg_walk (I:Nat->List Nat->World->Prop)(J:Nat->Nat->List Nat->World->Prop)(K:World->Prop)(st b:Nat)(now0 now:Int)(Pq:Nat->Option Nat)(w:World)(h:Stb w st b now0 (fun i=>ptrV (Pq i)))
  (hI0:∀W,Tch [] (w.setCell ⟨st,0,none⟩ (.int .i64 now)) W->I W.heap.size (qsL Pq 8) W)
  (hI:∀B q qs W,I B (q::qs) W->Calls Tryz.prog 199 #[.pointer (some ⟨q,0,none⟩),.int .i64 now] W fun e w'=>e=.returned (.tuple #[])/\I B qs w'/\∃S,Tch S W w'/\∀x∈S,x<w.heap.size\/B<=x)
  (hIJ:∀B W,I B [] W->Stb W st b now (fun i=>ptrV (Pq i))/\∀W',Tch [] W W'->J W.heap.size W'.heap.size (qsL Pq 8) W')
  (hJ:∀A B q qs W,J A B (q::qs) W->Calls Tryz.prog 200 #[.pointer (some ⟨st,0,none⟩),.pointer (some ⟨q,0,none⟩)] W fun e w'=>e=.returned (.tuple #[])/\J A B qs w'/\∃S,Tch S W w'/\∀x∈S,x<A\/B<=x)
  (hK:∀A B W,J A B [] W->K W):
  Calls Tryz.prog 174 #[.pointer (some ⟨st,0,none⟩),.int .i64 now] w fun e w'=>e=.returned (.tuple #[])/\K w':=by
 have c0:=h.now;have z0:=h.fz 0;obtain⟨ws,hws⟩:∃ws,ws=w.setCell ⟨st,0,none⟩ (.int .i64 now):=⟨_,rfl⟩;have hst:Stb ws st b now (fun i=>ptrV (Pq i)):=by rw[hws];exact h.set0 now
 have zs:ws.heap.size=w.heap.size:=by rw[hws];exact World.size_setCell _ _ _
 have HT:=there_g st b now Pq ws hst;rw[zs]at HT;have HTH:=zH HT;rw[<-hws]at hI0;have HI0:=zH hI0;have HI:=zH hI;have HIJ:=zH hIJ;have HJ:=zH hJ;have HK:=zH hK;have HTG:Hid (∀W,Stb W st b now (fun i=>ptrV (Pq i))->Calls Tryz.prog 47 #[.pointer (some ⟨st,0,none⟩)] W fun e w'=>∃v,e=.returned v/\w'.ownsRow W.heap.size 88 1 v (qsL Pq 8).length ((qsL Pq 8).map fun q=>.pointer (some ⟨q,0,none⟩))/\Tch [] W w'):=fun W hW=>there_g st b now Pq W hW
 have hq8:=qsL_len Pq 8;clear h hst HT hI0 hI hIJ hJ hK zs;generalize qsL Pq 8=qs at*
 go_enter Tryz.func174,Tryz.ntmps174;go_wp2_with fail;rw[<-hws];clear hws;refine HTH.out.mono ?_;rintro e w1 ⟨v,rfl,ho,ht⟩;have HI1:=zH (HI0.out w1 ht);clear HTH HI0 ht;obtain⟨B,hB⟩:∃B,B=w1.heap.size:=⟨_,rfl⟩;rw[<-hB]at HI1;obtain⟨oa,oc,hoe⟩:=own_shape' ho;subst hoe;have HO1:=zH ho;have HGB:Hid (∀g,oa=some ⟨g,0,none⟩->0<qs.length->w.heap.size<=g/\g<B):=fun g hg h0=>by
  obtain⟨g',hg',h1,h2,_⟩:=qrow_cell ho 0 h0;rw[hg]at hg';simp only[Option.some.injEq,Addr.mk.injEq,and_true]at hg';subst hg';rw[hB];exact⟨h1,h2⟩
 clear ho hB;go_wp2_with fail
 go_loopw [15] (fun jv wr=>∃j:Nat,j<=qs.length/\jv=.int .i64 (j:Int)/\wr.ownsRow w.heap.size 88 1 (.slice oa qs.length oc) qs.length (qs.map fun q=>.pointer (some ⟨q,0,none⟩))/\I B (qs.drop j) wr) (fun jv _=>qs.length-(intOf jv).toNat)
 case atStart=>exact⟨0,Nat.zero_le _,rfl,HO1.out,HI1.out⟩
 case round=>
  obtain⟨j,hj,rfl,ho,hIj⟩:=hrel;have HO:=zH ho
  by_cases hlt:j<qs.length
  ·have hdrop:qs.drop j=qs[j]::qs.drop (j+1):=List.drop_eq_getElem_cons hlt;obtain⟨g,hoa,hbg,hgr,cj⟩:=qrow_cell ho j hlt;have hgB:=HGB.out g hoa (by omega);subst hoa;rw[hdrop]at hIj;have HC:=HI.out _ _ _ _ hIj;generalize qs[j]=q at*
   have HC':=zH HC;clear HC hIj hdrop ho;go_wp2_with fail;refine HC'.out.mono ?_;rintro e w2 ⟨rfl,hI2,S,hT,hSx⟩;have HN:Hid (w2.ownsRow w.heap.size 88 1 (.slice (some ⟨g,0,none⟩) qs.length oc) qs.length (qs.map fun q=>.pointer (some ⟨q,0,none⟩))/\I B (qs.drop (j+1)) w2):=⟨own_tch HO.out hT (fun k hk hm=>by
    simp[Value.ownBlock]at hk;subst hk;rcases hSx g hm with h|h<;>omega),hI2⟩
   clear hI2 hT hSx HC';go_wp2_with fail;go_roundw
   case rel=>exact⟨j+1,by omega,by go_num,HN.out.1,HN.out.2⟩
   case measure=>simp[intOf];omega
  ·have hje:j=qs.length:=by omega
   subst hje;rw[List.drop_length]at hIj;obtain⟨hst2,hJ0⟩:=HIJ.out B wr hIj;have HT2:=zH (HTG.out wr hst2);have HJ0:=zH hJ0;clear hIj hst2 hJ0 ho HO HI HIJ HTG HO1 HI1 HGB;go_wp2_with fail;refine HT2.out.mono ?_;rintro e w1 ⟨v,rfl,ho,ht⟩;have HJ1:=zH (HJ0.out w1 ht);obtain⟨B2,hB⟩:∃B2,B2=w1.heap.size:=⟨_,rfl⟩;obtain⟨A,hA⟩:∃A,A=wr.heap.size:=⟨_,rfl⟩;rw[<-hB,<-hA]at HJ1;rw[<-hA]at ho;obtain⟨oa2,oc2,hoe⟩:=own_shape' ho;subst hoe;have HO1:=zH ho;have HGB:Hid (∀g,oa2=some ⟨g,0,none⟩->0<qs.length->A<=g/\g<B2):=fun g hg h0=>by
    obtain⟨g',hg',h1,h2,_⟩:=qrow_cell ho 0 h0;rw[hg]at hg';simp only[Option.some.injEq,Addr.mk.injEq,and_true]at hg';subst hg';rw[hB];exact⟨h1,h2⟩
   clear ho hB hA ht HT2 HJ0;go_wp2_with fail
   go_loopw [26] (fun jv wq=>∃j:Nat,j<=qs.length/\jv=.int .i64 (j:Int)/\wq.ownsRow A 88 1 (.slice oa2 qs.length oc2) qs.length (qs.map fun q=>.pointer (some ⟨q,0,none⟩))/\J A B2 (qs.drop j) wq) (fun jv _=>qs.length-(intOf jv).toNat)
   case atStart=>exact⟨0,Nat.zero_le _,rfl,HO1.out,HJ1.out⟩
   case round=>
    obtain⟨j,hj2,rfl,ho,hIj⟩:=hrel;have HO:=zH ho
    by_cases hlt:j<qs.length
    ·have hdrop:qs.drop j=qs[j]::qs.drop (j+1):=List.drop_eq_getElem_cons hlt;obtain⟨g,hoa,hbg,hgr,cj⟩:=qrow_cell ho j hlt;have hgB:=HGB.out g hoa (by omega);subst hoa;rw[hdrop]at hIj;have HC:=HJ.out _ _ _ _ _ hIj;generalize qs[j]=q at*
     have HC':=zH HC;clear HC hIj hdrop ho;go_wp2_with fail;refine HC'.out.mono ?_;rintro e w2 ⟨rfl,hI2,S,hT,hSx⟩;have HN:Hid (w2.ownsRow A 88 1 (.slice (some ⟨g,0,none⟩) qs.length oc2) qs.length (qs.map fun q=>.pointer (some ⟨q,0,none⟩))/\J A B2 (qs.drop (j+1)) w2):=⟨own_tch HO.out hT (fun k hk hm=>by
      simp[Value.ownBlock]at hk;subst hk;rcases hSx g hm with h|h<;>omega),hI2⟩
     clear hI2 hT hSx HC';go_wp2_with fail;go_roundw
     case rel=>exact⟨j+1,by omega,by go_num,HN.out.1,HN.out.2⟩
     case measure=>simp[intOf];omega
    ·have hje:j=qs.length:=by omega
     subst hje;have HK1:Hid (K wr):=HK.out A B2 wr (by rw[List.drop_length]at hIj;exact hIj);clear hIj ho;go_wp2_with fail;go_end0;exact⟨rfl,HK1.out⟩
structure BQ where
 qb:Nat
 V:QV
 Q:QM
def ptZ (Z:Nat->Option BQ)(i:Nat):Option Nat:=(Z i).map BQ.qb
structure SG (B:Nat)(w:World)(st b:Nat)(now:Int)(Z:Nat->Option BQ)(col:Nat->Nat):Prop where
 stb:Stb w st b now (fun i=>ptrV (ptZ Z i))
 tb:Tbl w b
 qr:∀i x,i<8->Z i=some x->QR w x.qb x.V x.Q
 cl:∀i x,i<8->Z i=some x->∀k∈qbl x.qb x.V,col k=i
 lo:∀i x,i<8->Z i=some x->∀k∈qbl x.qb x.V,B<=k
 ls:B<=st
 cs:col st≠9
def bqL (Z:Nat->Option BQ)(k:Nat):List BQ:=(List.range k).filterMap Z
theorem qsL_bqL (Z:Nat->Option BQ)(k:Nat):qsL (ptZ Z) k=(bqL Z k).map BQ.qb:=by
 unfold qsL bqL;rw[List.map_filterMap];rfl
theorem bqL_mem {Z:Nat->Option BQ}{x:BQ}(h:x∈bqL Z k):∃i,i<k/\Z i=some x:=by
 obtain⟨i,hi,he⟩:=List.mem_filterMap.1 h;exact⟨i,List.mem_range.1 hi,he⟩
theorem bqL_len (Z:Nat->Option BQ)(k:Nat):(bqL Z k).length<=k:=by
 have:=List.length_filterMap_le Z (List.range k);simpa [bqL]using this
theorem flt_one {α:Type}(f:α->Value)(l:List α):(l.flatMap fun x=>[f x])=l.map f:=by
 induction l with
 | nil=>rfl
 | cons a r ih=>rw[List.flatMap_cons,ih];rfl
def bqB (x:BQ):List UInt8:=x.Q.c.q::allB x.Q
def wholeB (now:Int)(Z:Nat->Option BQ):List UInt8:=lowB now.toNat 4++(bqL Z 8).flatMap bqB
theorem allB_len (h:QOk Q):(allB Q).length<=19200:=by
 have h1:=h.lens;have h2:=setB_length Q.c;simp only[allB,List.length_append,lowB_length];omega
theorem wholeB_len {Z:Nat->Option BQ}(hQ:∀i x,i<8->Z i=some x->QOk x.Q):(wholeB now Z).length<=160000:=by
 have h1:=flt_len bqB 19201 (bqL Z 8) (fun x hx=>by
  obtain⟨i,hi,he⟩:=bqL_mem hx;have h2:=allB_len (hQ i x hi he);simp only[bqB,List.length_cons];omega)
 have h2:=bqL_len Z 8;simp only[wholeB,List.length_append,lowB_length];omega
theorem SG.tch {b:Nat}{Z:Nat->Option BQ}(h:SG B w st b now Z col)(ht:Tch [] w w'):SG B w' st b now Z col:=
 ⟨h.stb.tch ht (by simp),h.tb.tch ht (by simp),fun i x hi hx=>(h.qr i x hi hx).tch ht (by simp),h.cl,h.lo,h.ls,h.cs⟩
theorem SG.fr {b:Nat}{Z:Nat->Option BQ}(h:SG B w st b now Z col)(hf:Fr B T w w')(h1:94∉T)(h2:186∉T)(h3:∀t∈TQ,t∉T):SG B w' st b now Z col:=
 ⟨h.stb.fr hf h1,fun i f hi=>hf.keep _ _ _ (h.tb i f hi) h2,fun i x hi hx=>(h.qr i x hi hx).keep hf h3,h.cl,h.lo,h.ls,h.cs⟩
theorem whole_any (B st b:Nat)(now:Int)(Z:Nat->Option BQ)(col:Nat->Nat)(w:World)(h:SG B w st b now Z col)(hn:inN now)(hQ:∀i x,i<8->Z i=some x->QOk x.Q):
  zT 25 #[.pointer (some ⟨st,0,none⟩)] w (.string ⟨(wholeB now Z).toArray⟩):=by
 have c0:=h.stb.now;have H1:Hid (Calls Tryz.prog 46 #[.slice none 0 0,.int .i64 now,.int .i64 4] w fun e w'=>∃v',e=.returned v'/\OwnB w' w.heap.size v' ([]++lowB now.toNat 4)/\Below w.heap.size w w'/\Fr 0 [5] w w'):=appendInt_f w.heap.size _ [] now 4 w hn (by decide) (by decide) (Nat.le_refl _) (World.ownsRow_nil _ _ _ _);have HST:Hid (∀W,BF w.heap.size w W->Calls Tryz.prog 47 #[.pointer (some ⟨st,0,none⟩)] W fun e w'=>∃v,e=.returned v/\w'.ownsRow W.heap.size 88 1 v (bqL Z 8).length ((bqL Z 8).map fun x=>.pointer (some ⟨x.qb,0,none⟩))/\Tch [] W w'):=fun W hb=>by
  have h1:=there_g st b now (ptZ Z) W (h.stb.tch (Tch.of_below hb.1) (by simp));rw[qsL_bqL,List.length_map,List.map_map]at h1;exact h1
 have HQS:Hid (∀x∈bqL Z 8,QR w x.qb x.V x.Q/\QOk x.Q):=fun x hx=>by
  obtain⟨i,hi,he⟩:=bqL_mem hx;exact⟨h.qr i x hi he,hQ i x hi he⟩
 have hbl:=bqL_len Z 8;have HWB:Hid (wholeB now Z=([]++lowB now.toNat 4)++(bqL Z 8).flatMap bqB):=rfl;generalize wholeB now Z=WB at HWB;generalize bqL Z 8=xs at*
 clear h hQ hn;go_enter Tryz.func25,Tryz.ntmps25;go_wp2_with fail;refine H1.out.mono ?_;rintro e w1 ⟨v1,rfl,ho1,hb1,hf1⟩;have HB1:Hid (BF w.heap.size w w1):=⟨hb1,hf1⟩;have hl1:([]++lowB now.toNat 4).length=4:=by simp[lowB_length]
 generalize []++lowB now.toNat 4=L at*
 have HO1:=zH ho1;have H2:=zH (HST.out w1 HB1.out);clear ho1 hb1 hf1 H1 c0;go_wp2_with fail;refine H2.out.mono ?_;rintro e w2 ⟨vt,rfl,hot,ht2⟩;obtain⟨ta,tc,rfl⟩:=own_shape' hot;have HOT:Hid (w2.ownsRow w1.heap.size 88 1 (.slice ta xs.length tc) xs.length (xs.map fun x=>.pointer (some ⟨x.qb,0,none⟩))):=hot;have HB2:Hid (BF w.heap.size w w2):=HB1.out.trans ⟨⟨ht2.os,ht2.tape,ht2.output,ht2.size,fun k hk=>ht2.block k (by have:=HB1.out.size;omega) (by simp)⟩,Fr.of_nil [5] ht2 (Nat.zero_le _)⟩
 have HO2:Hid (OwnB w2 w.heap.size v1 L):=own_tch HO1.out ht2 (by simp);clear hot ht2 H2 HST;go_wp2_with fail
 go_loopw [3,14] (fun o i wr=>∃k:Nat,k<=xs.length/\i=.int .i64 (k:Int)/\OwnB wr w.heap.size o (L++(xs.take k).flatMap bqB)/\BF w.heap.size w wr/\wr.ownsRow w1.heap.size 88 1 (.slice ta xs.length tc) xs.length (xs.map fun x=>.pointer (some ⟨x.qb,0,none⟩))) (fun _ i _=>xs.length-(intOf i).toNat)
 case atStart=>exact⟨0,Nat.zero_le _,rfl,by simpa using HO2.out,HB2.out,HOT.out⟩
 case round=>
  obtain⟨k,hk,rfl,ho,hbr,hrow⟩:=hrel
  by_cases hlt:k<xs.length
  ·obtain⟨hqr,hok⟩:=HQS.out _ (List.getElem_mem hlt);have HS:=zH (flt_succ bqB L xs k hlt);have hle:(L++(xs.take k).flatMap bqB).length<=100000000:=by
    rw[List.length_append];have h1:=flt_len bqB 19201 (xs.take k) (fun x hx=>by
     have h2:=allB_len (HQS.out x (List.mem_of_mem_take hx)).2;simp only[bqB,List.length_cons];omega)
    rw[List.length_take]at h1;omega
   obtain⟨g,hg,hgl⟩:∃g,ta=some ⟨g,0,none⟩/\wr.cell? ⟨g,k,none⟩=some (.pointer (some ⟨xs[k].qb,0,none⟩)):=by
    rcases hrow.2 with ⟨h0,h1⟩|⟨g,cap,cur,h0,hb0,hg0,h5,h6,h7,h8⟩
    ·omega
    ·simp only[Value.slice.injEq,true_and]at h0;obtain⟨rfl,rfl⟩:=h0;have inh:Inhabited BQ:=⟨xs[k]⟩;have hm:wr.ownsRow w1.heap.size 88 1 (.slice (some ⟨g,0,none⟩) xs.length tc) xs.length (xs.flatMap fun x=>[Value.pointer (some ⟨x.qb,0,none⟩)]):=by
      have e:(xs.flatMap fun x=>[Value.pointer (some ⟨x.qb,0,none⟩)])=xs.map fun x=>.pointer (some ⟨x.qb,0,none⟩):=flt_one _ xs
      rw[e];exact hrow
     have h1:=own_cells (fun x:BQ=>[Value.pointer (some ⟨x.qb,0,none⟩)]) 1 (fun _=>rfl) (own_le hm (Nat.zero_le _)) k hlt 0 (.pointer (some ⟨xs[k].qb,0,none⟩)) (by rw[List.getElem!_eq_getElem?_getD,List.getElem?_eq_getElem hlt];rfl);exact⟨g,rfl,by simpa using h1⟩
   subst hg;have zr:=hbr.size;have H3:Hid (Calls Tryz.prog 48 #[.pointer (some ⟨xs[k].qb,0,none⟩),u3] wr fun e w'=>∃v',e=.returned v'/\OwnB w' w.heap.size v' ((L++(xs.take k).flatMap bqB)++bqB xs[k])/\BF w.heap.size wr w'):=append_any w.heap.size u3 _ xs[k].Q xs[k].V xs[k].qb wr (hqr.below hqr.lt hbr.1) hqr.lt hok (by omega) (by omega) ho;rw[<-HS.out]at H3;have HBR:=zH hbr;have HRW:=zH hrow;clear hqr hok hle ho hbr hrow;generalize xs[k].qb=qk at*
   go_wp2_with fail;refine H3.out.mono ?_;rintro e w3 ⟨v3,rfl,ho3,hb3⟩;have HN:Hid (OwnB w3 w.heap.size v3 (L++(xs.take (k+1)).flatMap bqB)/\BF w.heap.size w w3/\w3.ownsRow w1.heap.size 88 1 (.slice (some ⟨g,0,none⟩) xs.length tc) xs.length (xs.map fun x=>.pointer (some ⟨x.qb,0,none⟩))):=⟨ho3,HBR.out.trans hb3,hb3.2.own HRW.out (by decide)⟩;clear ho3 hb3 H3;go_wp2_with fail;go_roundw
   case rel=>exact⟨k+1,by omega,by go_num,HN.out.1,HN.out.2.1,HN.out.2.2⟩
   case measure=>simp[intOf];omega
  ·have he:xs.take k=xs:=List.take_of_length_le (by omega);rw[he,<-HWB.out]at ho;have hwl:0<WB.length:=by rw[HWB.out,List.length_append];omega
   have hstr:=OwnB.str ho hwl;have HT:=zH (Tch.of_below hbr.1);clear he ho hbr hrow hwl;go_wp2_with fail;go_ret;exact⟨rfl,HT.out⟩
abbrev TSt:List TypeId:=[137,191,9,195,199,94]
abbrev TA:List TypeId:=[85,77,79,137,191,9,195,199,94]
structure FqT (T:List TypeId)(B:Nat)(col:Nat->Nat)(w w':World):Prop where
 os:w'.os=w.os
 tape:w'.tape=w.tape
 output:w'.output=w.output
 size:w.heap.size<=w'.heap.size
 low:∀k:Nat,k<B->w'.heap[k]?=w.heap[k]?
 keep:∀(k:Nat) (C:Array Value) (t:TypeId),w.heap[k]?=some (.cells C t (0,0))->t∉T->w'.heap[k]?=some (.cells C t (0,0))
 out:∀k:Nat,k<w.heap.size->col k=9->w'.heap[k]?=w.heap[k]?
abbrev Fq (B:Nat)(col:Nat->Nat)(w w':World):Prop:=FqT TSt B col w w'
def Agr (w:World)(c c':Nat->Nat):Prop:=(∀k,k<w.heap.size->c' k=c k)/\∀k,c' k=9->c k=9
theorem Agr.refl (w:World)(c:Nat->Nat):Agr w c c:=⟨fun _ _=>rfl,fun _ h=>h⟩
theorem agr_new (hi:i≠9):Agr w c (fun k=>if k<w.heap.size then c k else i):=⟨fun k hk=>if_pos hk,fun k hk=>by
 have hk:(if k<w.heap.size then c k else i)=9:=hk
 by_cases h:k<w.heap.size
 ·rw[if_pos h]at hk;exact hk
 ·rw[if_neg h]at hk;exact absurd hk hi⟩
theorem Agr.trans {a b:World}{d e:Nat->Nat}(h:Agr a c d)(k:Agr b d e)(hz:a.heap.size<=b.heap.size):Agr a c e:=⟨fun x hx=>(k.1 x (by omega)).trans (h.1 x hx),fun x hx=>h.2 x (k.2 x hx)⟩
theorem FqT.trans {c':Nat->Nat}{x y z:World}(h:FqT T B c x y)(hc:Agr x c c')(k:FqT T B c' y z):FqT T B c x z:=
 ⟨k.os.trans h.os,k.tape.trans h.tape,k.output.trans h.output,Nat.le_trans h.size k.size,fun q hq=>(k.low q hq).trans (h.low q hq),fun q C t hq ht=>k.keep q C t (h.keep q C t hq ht) ht,fun q hq h9=>(k.out q (Nat.lt_of_lt_of_le hq h.size) ((hc.1 q hq).trans h9)).trans (h.out q hq h9)⟩
theorem FqT.of_fr {T':List TypeId}(h:Fr B T w w')(hT:∀t∈T,t∈T')(ho:∀k:Nat,k<w.heap.size->c k=9->w'.heap[k]?=w.heap[k]?):FqT T' B c w w':=
 ⟨h.os,h.tape,h.output,h.size,h.low,fun k C t hk ht=>h.keep k C t hk (fun hm=>ht (hT t hm)),ho⟩
theorem FqT.of_nil {T':List TypeId}(c:Nat->Nat){w w':World}(h:Tch [] w w')(hB:B<=w.heap.size):FqT T' B c w w':=FqT.of_fr (T:=[]) (Fr.of_nil [] h hB) (by simp) (fun k hk _=>h.block k hk (by simp))
theorem FqT.of_tch {S:List Nat}(h:Tch S w w')(hB:B<=w.heap.size)(hlow:∀k∈S,B<=k)(hty:∀k∈S,∀(C:Array Value) (t:TypeId),w.heap[k]?=some (.cells C t (0,0))->t∈T)(hcl:∀k∈S,c k≠9):FqT T B c w w':=
 ⟨h.os,h.tape,h.output,h.size,fun k hk=>h.block k (by omega) (fun hm=>by have:=hlow k hm;omega),fun k C t hk ht=>(h.block k (lt_of_block hk) (fun hm=>ht (hty k hm C t hk))).trans hk,fun k hk h9=>h.block k hk (fun hm=>hcl k hm h9)⟩
theorem FqT.mono {T':List TypeId}(h:FqT T B c w w')(hT:∀t∈T,t∈T'):FqT T' B c w w':=
 ⟨h.os,h.tape,h.output,h.size,h.low,fun k C t hk ht=>h.keep k C t hk (fun hm=>ht (hT t hm)),h.out⟩
theorem ts_ta:∀t∈TSt,t∈TA:=by decide
theorem FqT.own (h:FqT T B c w w'){base size n:Nat}{t:TypeId}{v:Value}{xs:List Value}(ho:w.ownsRow base t size v n xs)(ht:t∉T):w'.ownsRow base t size v n xs:=by
 refine⟨ho.1,?_⟩;rcases ho.2 with hn|⟨g,cap,cur,rfl,hb,hg,rest⟩
 ·exact .inl hn
 ·exact .inr ⟨g,cap,cur,rfl,hb,h.keep g cur t hg ht,rest⟩
def updZ (Z:Nat->Option BQ)(i:Nat)(v:Option BQ):Nat->Option BQ:=fun j=>if j=i then v else Z j
theorem updZ_same (Z:Nat->Option BQ)(i:Nat)(v:Option BQ):updZ Z i v i=v:=by simp[updZ]
theorem updZ_ne (Z:Nat->Option BQ){i j:Nat}(v:Option BQ)(h:j≠i):updZ Z i v j=Z j:=by simp[updZ,h]
theorem ptZ_upd (Z:Nat->Option BQ)(i:Nat)(v:Option BQ)(h:v.map BQ.qb=(Z i).map BQ.qb):ptZ (updZ Z i v)=ptZ Z:=by
 funext j;unfold ptZ updZ
 by_cases e:j=i
 ·subst e;simp[h]
 ·simp[e]
theorem SG.dis {b:Nat}{Z:Nat->Option BQ}(h:SG B w st b now Z col){i j:Nat}{x y:BQ}(hi:i<8)(hj:j<8)(hx:Z i=some x)(hy:Z j=some y)(hne:i≠j):Apart x.qb x.V y.qb y.V:=fun k hk hm=>hne ((h.cl i x hi hx k hk).symm.trans (h.cl j y hj hy k hm))
theorem QR.nty {qb:Nat}{V:QV}(h:QR w qb V Q){k:Nat}{C:Array Value}{t:TypeId}(hk:w.heap[k]?=some (.cells C t (0,0)))(ht:t∉TQ):k∉qbl qb V:=fun hm=>ht (h.ty k hm C t hk)
theorem tq_ta (h:t∈TQ):t∈TSt:=by
 simp only[TQ,List.mem_cons,List.not_mem_nil,or_false]at h;rcases h with rfl|rfl|rfl|rfl|rfl<;>decide
theorem SG.upd2 {b:Nat}{Z:Nat->Option BQ}(h:SG B w st b now Z col)(hB:B<=w.heap.size){i j:Nat}(hi:i<8)(hj:j<8){x y:BQ}(hx:Z i=some x)(hy:Z j=some y)(hij:i≠j){V' VT':QV}{Q' T':QM}
  (hQ:QR w' x.qb V' Q')(hT:QR w' y.qb VT' T')(ht:Tch (qbl x.qb x.V++qbl y.qb y.V) w w')(hN:∀k∈qbl x.qb V',k∈qbl x.qb x.V)(hM:∀k∈qbl y.qb VT',k∈qbl y.qb y.V\/w.heap.size<=k):
  ∃col',SG B w' st b now (updZ (updZ Z i (some ⟨x.qb,V',Q'⟩)) j (some ⟨y.qb,VT',T'⟩)) col'/\Agr w col col'/\Fq B col w w':=by
 have hqx:=h.qr i x hi hx;have hqy:=h.qr j y hj hy;refine⟨fun k=>if k<w.heap.size then col k else j,⟨?_,?_,?_,?_,?_,h.ls,by show (if st<w.heap.size then col st else j)≠9;rw[if_pos h.stb.lt];exact h.cs⟩,agr_new (by omega),?_⟩
 ·have e:ptZ (updZ (updZ Z i (some ⟨x.qb,V',Q'⟩)) j (some ⟨y.qb,VT',T'⟩))=ptZ Z:=by
   rw[ptZ_upd _ _ _ (by rw[updZ_ne _ _ (Ne.symm hij),hy];rfl),ptZ_upd _ _ _ (by rw[hx];rfl)]
  rw[e];exact h.stb.tch ht (fun hm=>by
   rcases List.mem_append.1 hm with hm|hm
   ·exact hqx.nty h.stb (by decide) hm
   ·exact hqy.nty h.stb (by decide) hm)
 ·exact fun q f hq=>(ht.block _ (lt_of_block (h.tb q f hq)) (fun hm=>by
   rcases List.mem_append.1 hm with hm|hm
   ·exact hqx.nty (h.tb q f hq) (by decide) hm
   ·exact hqy.nty (h.tb q f hq) (by decide) hm)).trans (h.tb q f hq)
 ·intro q z hq hz
  by_cases e1:q=j
  ·subst e1;rw[updZ_same]at hz;injection hz with hz;subst hz;exact hT
  ·rw[updZ_ne _ _ e1]at hz
   by_cases e2:q=i
   ·subst e2;rw[updZ_same]at hz;injection hz with hz;subst hz;exact hQ
   ·rw[updZ_ne _ _ e2]at hz;exact(h.qr q z hq hz).tch ht (fun k hk hm=>by
     rcases List.mem_append.1 hm with hm|hm
     ·exact h.dis hq hi hz hx e2 k hk hm
     ·exact h.dis hq hj hz hy e1 k hk hm)
 ·intro q z hq hz k hk
  by_cases e1:q=j
  ·subst e1;rw[updZ_same]at hz;injection hz with hz;subst hz;rcases hM k hk with hm|hm
   ·simp[hqy.lt k hm,h.cl q y hj hy k hm]
   ·simp[Nat.not_lt.2 hm]
  ·rw[updZ_ne _ _ e1]at hz
   by_cases e2:q=i
   ·subst e2;rw[updZ_same]at hz;injection hz with hz;subst hz;have hm:=hN k hk;simp[hqx.lt k hm,h.cl q x hi hx k hm]
   ·rw[updZ_ne _ _ e2]at hz;simp[(h.qr q z hq hz).lt k hk,h.cl q z hq hz k hk]
 ·intro q z hq hz k hk
  by_cases e1:q=j
  ·subst e1;rw[updZ_same]at hz;injection hz with hz;subst hz;rcases hM k hk with hm|hm
   ·exact h.lo q y hj hy k hm
   ·omega
  ·rw[updZ_ne _ _ e1]at hz
   by_cases e2:q=i
   ·subst e2;rw[updZ_same]at hz;injection hz with hz;subst hz;exact h.lo q x hi hx k (hN k hk)
   ·rw[updZ_ne _ _ e2]at hz;exact h.lo q z hq hz k hk
 ·refine FqT.of_tch ht hB (fun k hk=>?_) (fun k hk C t hC=>?_) (fun k hk=>?_)
  ·rcases List.mem_append.1 hk with hm|hm
   ·exact h.lo i x hi hx k hm
   ·exact h.lo j y hj hy k hm
  ·rcases List.mem_append.1 hk with hm|hm
   ·exact tq_ta (hqx.ty k hm C t hC)
   ·exact tq_ta (hqy.ty k hm C t hC)
  ·rcases List.mem_append.1 hk with hm|hm
   ·rw[h.cl i x hi hx k hm];omega
   ·rw[h.cl j y hj hy k hm];omega
theorem SG.upd {b:Nat}{Z:Nat->Option BQ}(h:SG B w st b now Z col)(hB:B<=w.heap.size){i:Nat}(hi:i<8){x:BQ}(hx:Z i=some x){Q':QM}(hq:QL w w' x.qb x.V Q'):
  ∃V' col',SG B w' st b now (updZ Z i (some ⟨x.qb,V',Q'⟩)) col'/\Agr w col col'/\Fq B col w w'/\(∀k∈qbl x.qb V',k∈qbl x.qb x.V\/w.heap.size<=k)/\Tch (qbl x.qb x.V) w w':=by
 obtain⟨V',hQ,ht,hN⟩:=hq;have hqx:=h.qr i x hi hx;refine⟨V',fun k=>if k<w.heap.size then col k else i,⟨?_,?_,?_,?_,?_,h.ls,by show (if st<w.heap.size then col st else i)≠9;rw[if_pos h.stb.lt];exact h.cs⟩,agr_new (by omega),?_,hN,ht⟩
 ·rw[ptZ_upd _ _ _ (by rw[hx];rfl)];exact h.stb.tch ht (fun hm=>hqx.nty h.stb (by decide) hm)
 ·exact fun q f hq=>(ht.block _ (lt_of_block (h.tb q f hq)) (fun hm=>hqx.nty (h.tb q f hq) (by decide) hm)).trans (h.tb q f hq)
 ·intro q z hq hz
  by_cases e2:q=i
  ·subst e2;rw[updZ_same]at hz;injection hz with hz;subst hz;exact hQ
  ·rw[updZ_ne _ _ e2]at hz;exact(h.qr q z hq hz).tch ht (fun k hk hm=>h.dis hq hi hz hx e2 k hk hm)
 ·intro q z hq hz k hk
  by_cases e2:q=i
  ·subst e2;rw[updZ_same]at hz;injection hz with hz;subst hz;rcases hN k hk with hm|hm
   ·simp[hqx.lt k hm,h.cl q x hi hx k hm]
   ·simp[Nat.not_lt.2 hm]
  ·rw[updZ_ne _ _ e2]at hz;simp[(h.qr q z hq hz).lt k hk,h.cl q z hq hz k hk]
 ·intro q z hq hz k hk
  by_cases e2:q=i
  ·subst e2;rw[updZ_same]at hz;injection hz with hz;subst hz;rcases hN k hk with hm|hm
   ·exact h.lo q x hi hx k hm
   ·omega
  ·rw[updZ_ne _ _ e2]at hz;exact h.lo q z hq hz k hk
 ·exact FqT.of_tch ht hB (fun k hk=>h.lo i x hi hx k hk) (fun k hk C t hC=>tq_ta (hqx.ty k hk C t hC)) (fun k hk=>by rw[h.cl i x hi hx k hk];omega)
theorem SG.time {b:Nat}{Z:Nat->Option BQ}(h:SG B w st b now Z col)(n:Int):SG B (w.setCell ⟨st,0,none⟩ (.int .i64 n)) st b n Z col:=by
 have ht:Tch [st] w (w.setCell ⟨st,0,none⟩ (.int .i64 n)):=(Tch.refl _ _).setCell (fun _=>by simp) _;refine⟨h.stb.set0 n,fun q f hq=>(ht.block _ (lt_of_block (h.tb q f hq)) (fun hm=>?_)).trans (h.tb q f hq),fun i x hi hx=>(h.qr i x hi hx).tch ht (fun k hk hm=>?_),h.cl,h.lo,h.ls,h.cs⟩
 ·simp at hm;have h1:=h.tb q f hq;have h2:=h.stb;rw[hm,h2]at h1;simp at h1
 ·simp at hm;subst hm;exact(h.qr i x hi hx).nty h.stb (by decide) hk
theorem SG.timeF {b:Nat}{Z:Nat->Option BQ}(h:SG B w st b now Z col)(hB:B<=w.heap.size)(n:Int):Fq B col w (w.setCell ⟨st,0,none⟩ (.int .i64 n)):=by
 have ht:Tch [st] w (w.setCell ⟨st,0,none⟩ (.int .i64 n)):=(Tch.refl _ _).setCell (fun _=>by simp) _;refine FqT.of_tch ht hB (fun k hk=>?_) (fun k hk C t hC=>?_) (fun k hk=>?_)
 ·simp at hk;subst hk;exact h.ls
 ·simp at hk;subst hk;have h2:=h.stb;rw[h2]at hC;simp at hC;rw[<-hC.2];decide
 ·simp at hk;subst hk;exact h.cs
def ctZ (Z:Nat->Option BQ):Nat->Option QM:=fun i=>(Z i).map BQ.Q
def setC (c:Nat->Option QM)(i:Nat)(v:Option QM):Nat->Option QM:=fun j=>if j=i then v else c j
theorem setC_same (c:Nat->Option QM)(i:Nat)(v:Option QM):setC c i v i=v:=by simp[setC]
theorem setC_ne (c:Nat->Option QM){i j:Nat}(v:Option QM)(h:j≠i):setC c i v j=c j:=by simp[setC,h]
theorem ctZ_upd (Z:Nat->Option BQ)(i:Nat)(v:Option BQ):ctZ (updZ Z i v)=setC (ctZ Z) i (v.map BQ.Q):=by
 funext j;unfold ctZ updZ setC
 by_cases e:j=i
 ·simp[e]
 ·simp[e]
theorem ctZ_some {Z:Nat->Option BQ}{x:BQ}(h:Z i=some x):ctZ Z i=some x.Q:=by unfold ctZ;rw[h];rfl
theorem ctZ_get {Z:Nat->Option BQ}(h:ctZ Z i=some Q):∃x,Z i=some x/\x.Q=Q:=by
 unfold ctZ at h
 cases hz:Z i with
 | none=>rw[hz]at h;simp at h
 | some x=>rw[hz]at h;simp at h;exact⟨x,rfl,h⟩
theorem ctZ_none {Z:Nat->Option BQ}(h:ctZ Z i=none):Z i=none:=by
 unfold ctZ at h
 cases hz:Z i with
 | none=>rfl
 | some x=>rw[hz]at h;simp at h
def allK (Z:Nat->Option BQ)(k:Nat):Prop:=∃j y,j<8/\Z j=some y/\k∈qbl y.qb y.V
theorem SG.allLt {b:Nat}{Z:Nat->Option BQ}(h:SG B w st b now Z col){k:Nat}(hk:allK Z k):k<w.heap.size:=by
 obtain⟨j,y,hj,hy,hk⟩:=hk;exact(h.qr j y hj hy).lt k hk
def SGn (B st b:Nat)(now:Int)(w w':World)(Z:Nat->Option BQ)(col:Nat->Nat)(c:Nat->Option QM):Prop:=
 ∃Z' col',SG B w' st b now Z' col'/\ctZ Z'=c/\ptZ Z'=ptZ Z/\Agr w col col'/\Fq B col w w'/\(∃S,Tch S w w'/\∀k∈S,allK Z k)/\∀k,allK Z' k->allK Z k\/w.heap.size<=k
theorem SG.updn {b:Nat}{Z:Nat->Option BQ}(h:SG B w st b now Z col)(hB:B<=w.heap.size){i:Nat}(hi:i<8){x:BQ}(hx:Z i=some x){Q':QM}(hq:QL w w' x.qb x.V Q'):SGn B st b now w w' Z col (setC (ctZ Z) i (some Q')):=by
 obtain⟨V',col',h1,h2,h3,h4,h5⟩:=h.upd hB hi hx hq;refine⟨_,col',h1,ctZ_upd _ _ _,ptZ_upd _ _ _ (by rw[hx];rfl),h2,h3,⟨_,h5,fun k hk=>⟨i,x,hi,hx,hk⟩⟩,fun k hk=>?_⟩
 obtain⟨j,y,hj,hy,hk⟩:=hk
 by_cases e:j=i
 ·subst e;rw[updZ_same]at hy;injection hy with hy;subst hy;exact(h4 k hk).imp (fun h=>⟨j,x,hj,hx,h⟩) id
 ·rw[updZ_ne _ _ e]at hy;exact .inl ⟨j,y,hj,hy,hk⟩
theorem SG.upd2n {b:Nat}{Z:Nat->Option BQ}(h:SG B w st b now Z col)(hB:B<=w.heap.size){i j:Nat}(hi:i<8)(hj:j<8){x y:BQ}(hx:Z i=some x)(hy:Z j=some y)(hij:i≠j){V' VT':QV}{Q' T':QM}
  (hQ:QR w' x.qb V' Q')(hT:QR w' y.qb VT' T')(ht:Tch (qbl x.qb x.V++qbl y.qb y.V) w w')(hN:∀k∈qbl x.qb V',k∈qbl x.qb x.V)(hM:∀k∈qbl y.qb VT',k∈qbl y.qb y.V\/w.heap.size<=k):
  SGn B st b now w w' Z col (setC (setC (ctZ Z) i (some Q')) j (some T')):=by
 obtain⟨col',h1,h2,h3⟩:=h.upd2 hB hi hj hx hy hij hQ hT ht hN hM;refine⟨_,col',h1,?_,?_,h2,h3,⟨_,ht,fun k hk=>?_⟩,fun k hk=>?_⟩
 ·rw[ctZ_upd,ctZ_upd];rfl
 ·rw[ptZ_upd _ _ _ (by rw[updZ_ne _ _ (Ne.symm hij),hy];rfl),ptZ_upd _ _ _ (by rw[hx];rfl)]
 ·rcases List.mem_append.1 hk with hk|hk
  ·exact⟨i,x,hi,hx,hk⟩
  ·exact⟨j,y,hj,hy,hk⟩
 ·obtain⟨q,z,hq,hz,hk⟩:=hk
  by_cases e1:q=j
  ·subst e1;rw[updZ_same]at hz;injection hz with hz;subst hz;exact(hM k hk).imp (fun h=>⟨q,y,hj,hy,h⟩) id
  ·rw[updZ_ne _ _ e1]at hz
   by_cases e2:q=i
   ·subst e2;rw[updZ_same]at hz;injection hz with hz;subst hz;exact .inl ⟨q,x,hi,hx,hN k hk⟩
   ·rw[updZ_ne _ _ e2]at hz;exact .inl ⟨q,z,hq,hz,hk⟩
def deadJ (c:Wp.Rq):Option Nat:=if c.d=45 then none else some (c.d.toNat-97)
def deadC (c:Nat->Option QM)(q:Wp.Rq):Option (Nat×QM):=(deadJ q).bind (fun j=>(c j).map (fun T=>(j,T)))
def backC (c:Nat->Option QM)(i:Nat)(num:Int):Nat->Option QM:=
 match c i with
 | none=>c
 | some Q=>match Q.ms.find? (isN num) with
  | none=>c
  | some m=>match deadC c Q.c with
   | none=>setC c i (some (readyQ (tilQ Q num 0) m.grp))
   | some (j,T)=>if upQ Q.c m.rcv=true/\roomQ T (cntG m.grp (tilQ Q num 0).ms)=true then
     setC (setC c i (some {tilQ Q num 0 with ms:=(tilQ Q num 0).ms.filter (fun x=>!isG m.grp x)})) j (some (putL T ((tilQ Q num 0).ms.filter (isG m.grp))))
    else setC c i (some (readyQ (tilQ Q num 0) m.grp))
def DeadOk (i:Nat)(c:Wp.Rq):Prop:=c.d=45\/∃j,j<8/\j≠i/\c.d.toNat=97+j
def dvZ (Z:Nat->Option BQ)(c:Wp.Rq):Value:=ptrV ((deadJ c).bind (ptZ Z))
theorem find_idx {num:Int}{l:List Ms}{m:Ms}(h:l.find? (isN num)=some m):∃i:Nat,idxL (isN num) l=(i:Int)/\∃hi:i<l.length,l[i]=m:=by
 have h0:0<=idxL (isN num) l:=by
  by_cases h1:idxL (isN num) l<0
  ·rw[idxL_no _ _ h1]at h;simp at h
  ·omega
 refine⟨(idxL (isN num) l).toNat,(Int.toNat_of_nonneg h0).symm,?_⟩;obtain⟨hi,_,hf⟩:=idxL_fnd (isN num) l _ (Int.toNat_of_nonneg h0).symm;rw[h]at hf;exact⟨hi,(Option.some.inj hf).symm⟩
theorem tilQ_len (Q:QM)(num til:Int):(tilQ Q num til).ms.length=Q.ms.length:=by unfold tilQ;split<;>simp
theorem tilQ_c (Q:QM)(num til:Int):(tilQ Q num til).c=Q.c:=by unfold tilQ;split<;>rfl
theorem back_sg (B st b i:Nat)(now:Int)(Z:Nat->Option BQ)(col:Nat->Nat)(w:World)(h:SG B w st b now Z col)(hB:B<=w.heap.size)(hi:i<8)(x:BQ)(hx:Z i=some x)(num:Int)(m:Ms)(hm:x.Q.ms.find? (isN num)=some m)
  (hd:DeadOk i x.Q.c)(hb:∀j T,j<8->ctZ Z j=some T->T.ms.length<=100/\T.rs.length<=100/\T.next<=201):
  Calls Tryz.prog 156 #[.pointer (some ⟨x.qb,0,none⟩),.int .i64 num,dvZ Z x.Q.c] w fun e w'=>e=.returned (.tuple #[])/\SGn B st b now w w' Z col (backC (ctZ Z) i num):=by
 obtain⟨p,hp,hpl,hpm⟩:=find_idx hm;have hqx:=h.qr i x hi hx;have hcx:=ctZ_some hx;have hbx:=hb i x.Q hi hcx;have hbk:backC (ctZ Z) i num=match deadC (ctZ Z) x.Q.c with
   | none=>setC (ctZ Z) i (some (readyQ (tilQ x.Q num 0) m.grp))
   | some (j,T)=>if upQ x.Q.c m.rcv=true/\roomQ T (cntG m.grp (tilQ x.Q num 0).ms)=true then
     setC (setC (ctZ Z) i (some {tilQ x.Q num 0 with ms:=(tilQ x.Q num 0).ms.filter (fun x=>!isG m.grp x)})) j (some (putL T ((tilQ x.Q num 0).ms.filter (isG m.grp))))
    else setC (ctZ Z) i (some (readyQ (tilQ x.Q num 0) m.grp)):=by
  unfold backC;rw[hcx];simp only[hm]
 have hrdy:∀w',QL w w' x.qb x.V (readyQ (tilQ x.Q num 0) x.Q.ms[p].grp)->SGn B st b now w w' Z col (setC (ctZ Z) i (some (readyQ (tilQ x.Q num 0) m.grp))):=fun w' hq=>by
  rw[hpm]at hq;exact h.updn hB hi hx hq
 rw[hbk];have hstay:deadC (ctZ Z) x.Q.c=none->Calls Tryz.prog 156 #[.pointer (some ⟨x.qb,0,none⟩),.int .i64 num,.pointer none] w fun e w'=>e=.returned (.tuple #[])/\SGn B st b now w w' Z col (setC (ctZ Z) i (some (readyQ (tilQ x.Q num 0) m.grp))):=fun _=>
  back_walk _ x.Q x.V x.qb num (.pointer none) w hqx (by omega) (by omega) p hp hpl (.inl rfl) (.inl ⟨.inr rfl,hrdy⟩)
 rcases hd with hd|⟨j,hj,hji,hd⟩
 ·have e1:deadJ x.Q.c=none:=if_pos hd;have e2:deadC (ctZ Z) x.Q.c=none:=by unfold deadC;rw[e1];rfl
  have e3:dvZ Z x.Q.c=.pointer none:=by unfold dvZ;rw[e1];rfl
  rw[e2,e3];exact hstay e2
 ·have hne:x.Q.c.d≠45:=fun e=>by rw[e]at hd;simp at hd;omega
  have e1:deadJ x.Q.c=some j:=by unfold deadJ;rw[if_neg hne,hd];congr 1;omega
  cases hz:Z j with
  | none=>
   have e2:deadC (ctZ Z) x.Q.c=none:=by unfold deadC ctZ;rw[e1];simp[hz]
   have e3:dvZ Z x.Q.c=.pointer none:=by unfold dvZ ptZ;rw[e1];simp[hz,ptrV]
   rw[e2,e3];exact hstay e2
  | some y=>
   have hcy:=ctZ_some hz;have e2:deadC (ctZ Z) x.Q.c=some (j,y.Q):=by unfold deadC;rw[e1];simp[hcy]
   have e3:dvZ Z x.Q.c=.pointer (some ⟨y.qb,0,none⟩):=by unfold dvZ ptZ;rw[e1];simp[hz,ptrV]
   rw[e2,e3];have hqy:=h.qr j y hj hz;have hap:=h.dis hi hj hx hz (Ne.symm hji);have hby:=hb j y.Q hj hcy;have hcl:cntG m.grp (tilQ x.Q num 0).ms<=100:=by
    have h1:=cntG_le m.grp (tilQ x.Q num 0).ms;rw[tilQ_len]at h1;omega
   by_cases hu:upQ x.Q.c m.rcv=true
   ·refine back_walk _ x.Q x.V x.qb num _ w hqx (by omega) (by omega) p hp hpl (.inr ⟨_,rfl⟩) (.inr ⟨y.qb,roomQ y.Q (cntG m.grp (tilQ x.Q num 0).ms),by rw[hpm];exact hu,rfl,fun W hW=>?_,?_⟩)
    ·rw[hpm];have hqw:=hqy.tch hW.tch (fun k hk hm=>hap k hm hk);exact hasRoom_any y.Q y.V y.qb _ W hqw (by omega) (by omega) (by omega)
    ·by_cases hr:roomQ y.Q (cntG m.grp (tilQ x.Q num 0).ms)=true
     ·rw[if_pos hr];intro W hW;rw[hpm];have hqw:=hqy.tch hW.tch (fun k hk hm=>hap k hm hk);have hroom:y.Q.next+cntG m.grp (tilQ x.Q num 0).ms<=201:=by
       unfold roomQ at hr;simp at hr;omega
      refine(move_any (tilQ x.Q num 0) y.Q x.V y.V x.qb y.qb m.grp W hW.qr hqw hap (by rw[tilQ_len];omega) (by omega) (by omega) hroom).mono ?_;rintro e w' ⟨rfl,V',VT',h1,h2,h3,h4,h5⟩;refine⟨rfl,?_⟩;simp only[hu,hr,and_self,if_true];have hz0:=hW.tch.size;refine h.upd2n hB hi hj hx hz (Ne.symm hji) h1 h2 ((hW.tch.sub (fun k hk _=>List.mem_append.2 (.inl hk))).trans h3 (fun k hk _=>hk)) h4 (fun k hk=>?_);rcases h5 k hk with h6|h6
      ·exact .inl h6
      ·exact .inr (by omega)
     ·rw[if_neg hr];have:¬(upQ x.Q.c m.rcv=true/\roomQ y.Q (cntG m.grp (tilQ x.Q num 0).ms)=true):=fun hh=>hr hh.2
      simp only[this,if_false];exact hrdy
   ·have:¬(upQ x.Q.c m.rcv=true/\roomQ y.Q (cntG m.grp (tilQ x.Q num 0).ms)=true):=fun hh=>hu hh.1
    simp only[this,if_false];exact back_walk _ x.Q x.V x.qb num _ w hqx (by omega) (by omega) p hp hpl (.inr ⟨_,rfl⟩) (.inl ⟨.inl (by rw[hpm];simpa using hu),hrdy⟩)
theorem info234:(Tryz.prog.info? 199).map (fun i=>(i.zero,i.size,i.bytes))=some (some (.agg #[.string ⟨#[]⟩,.int .i64 0,.string ⟨#[]⟩]),3,40):=by kernel_rfl
def remQ (Q:QM)(a:At):QM:=if a.id.size=0 then Q else {Q with ats:=Q.ats++[a]}
abbrev atV (a:At):List Value:=[.string a.id,.int .i64 a.til,.string a.ans]
theorem rem_fin (Q:QM)(V:QV)(a:At)(qb:Nat)(w W:World)(ht:Tch [] w W)(h:QR W qb V Q)
  (v':Value)(w':World)(ho:w'.ownsRow 0 199 3 v' (Q.ats.length+1) (Q.ats.flatMap At.row++atV a))(hg:(W.drew.alloc (.cells (atV a).toArray 199)).grownBy w' V.a.ownBlock)(hb:v'.ownBlock=V.a.ownBlock\/v'.ownBlock=some (W.drew.alloc (.cells (atV a).toArray 199)).heap.size):
  ∃g4 cap4,v'=.slice (some ⟨g4,0,none⟩) (Q.ats.length+1) cap4/\w'.cell? ⟨qb,10,none⟩=some V.a/\w'.frozen? ⟨qb,10,none⟩=false/\(w'.setCell ⟨qb,10,none⟩ v').cell? ⟨qb,10,none⟩=some v'/\qb<w'.heap.size/\
   QL w (w'.setCell ⟨qb,10,none⟩ v') qb V {Q with ats:=Q.ats++[a]}:=by
 obtain⟨g4,cap4,hv⟩:=own_some ho;have t1:Tch [] W (W.drew.alloc (.cells (atV a).toArray 199)):=(Tch.refl _ _).drew.alloc _;have t2:Tch (bl V.a) W w':=(t1.sub (by simp)).trans (grown_tch hg) (fun x hx _=>hx);have f2:Fr 0 [199] W w':=Fr.of_tch t2 (Nat.zero_le _) (fun _ _=>Nat.zero_le _) (fun b hb' C t hC=>by
  by_cases e:199=t
  ·rw[<-e];decide
  ·exact absurd (mem_bl.1 hb') (own_ne h.a hC e))
 have hq1:Qb w' qb Q.c (Q.next:Int) V.m V.r V.d V.a:=f2.keep _ _ _ h.blk (by decide);have hq2:=hq1.set10 v';have t3:Tch [qb] w' (w'.setCell ⟨qb,10,none⟩ v'):=(Tch.refl _ _).setCell (fun _=>by simp) _;have f3:Fr 0 [137] w' (w'.setCell ⟨qb,10,none⟩ v'):=Fr.one t3 (Nat.zero_le _) (Nat.zero_le _) hq1 (by decide);refine⟨g4,cap4,hv,cell_qC hq1 10 _ rfl,hq1.fz 10,cell_qC hq2 10 _ rfl,hq1.lt,⟨V.m,V.r,V.d,v'⟩,⟨hq2,f3.own (f2.own h.m (by decide)) (by decide),f3.own (f2.own h.r (by decide)) (by decide),f3.own (f2.own h.d (by decide)) (by decide),?_⟩,?_,fun b hb'=>?_⟩
 ·have h5:=f3.own ho (by decide);simpa [At.row,atV]using h5
 ·refine((ht.sub (S':=qbl qb V) (by simp)).trans t2 (fun x hx _=>mem_qbl.2 (.inr (.inr (.inr (.inr (mem_bl.1 hx))))))).trans t3 (fun x hx _=>mem_qbl.2 (.inl (by simpa using hx)))
 ·rcases mem_qbl.1 hb' with e|e|e|e|e
  ·exact .inl (mem_qbl.2 (.inl e))
  ·exact .inl (mem_qbl.2 (.inr (.inl e)))
  ·exact .inl (mem_qbl.2 (.inr (.inr (.inl e))))
  ·exact .inl (mem_qbl.2 (.inr (.inr (.inr (.inl e)))))
  ·rcases hb with h0|h0
   ·exact .inl (mem_qbl.2 (.inr (.inr (.inr (.inr (h0.symm.trans e))))))
   ·right;have e':=e;rw[e']at h0;injection h0 with h0;have:=ht.size;have:=t1.size;omega
theorem remember_any (Q:QM)(V:QV)(a:At)(qb:Nat)(w:World)(h:QR w qb V Q)(hn:Q.ats.length<20):
  Calls Tryz.prog 168 #[.pointer (some ⟨qb,0,none⟩),.agg #[.string a.id,.int .i64 a.til,.string a.ans]] w fun e w'=>e=.returned (.tuple #[])/\QL w w' qb V (remQ Q a):=by
 have HQ:=zH h
 by_cases hz:a.id.size=0
 ·have e0:a.id=⟨#[]⟩:=toList_nil _ hz;have hr:Hid (remQ Q a=Q):=by show _=_;unfold remQ;rw[if_pos hz]
  rw[e0];clear h;go_enter Tryz.func168,Tryz.ntmps168;go_wp2_with fail;refine bodyPost_ret (results_none rfl _ _ _) rfl ⟨rfl,?_⟩;rw[hr.out];exact⟨V,HQ.out.tch ((Tch.refl [] w).alloc _) (by simp),((Tch.refl [] w).alloc _).sub (by simp),fun _ h=>.inl h⟩
 ·have hne:=ne_nil _ hz;have hr:Hid (remQ Q a={Q with ats:=Q.ats++[a]}):=by show _=_;unfold remQ;rw[if_neg hz]
  obtain⟨wa,hwa⟩:∃wa,wa=w.alloc (.cells #[.string a.id,.int .i64 a.til,.string a.ans] 199):=⟨_,rfl⟩;have ta:Tch [] w wa:=by rw[hwa];exact(Tch.refl [] w).alloc _
  have ha:=h.tch ta (by simp);have HWA:=zH ha;have hbx:wa.heap[w.heap.size]?=some (.cells #[.string a.id,.int .i64 a.til,.string a.ans] 199 (0,0)):=by rw[hwa];exact heap_alloc_new _ _
  have b0:wa.cell? ⟨w.heap.size,0,none⟩=some (.string a.id):=cell_qC hbx 0 _ rfl;have b1:wa.cell? ⟨w.heap.size,1,none⟩=some (.int .i64 a.til):=cell_qC hbx 1 _ rfl;have b2:wa.cell? ⟨w.heap.size,2,none⟩=some (.string a.ans):=cell_qC hbx 2 _ rfl;have q10:wa.cell? ⟨qb,10,none⟩=some V.a:=cell_qC ha.blk 10 _ rfl;have hlt:=ha.blk.lt;have HG:Hid (∀v' w',w'.ownsRow 0 199 3 v' (Q.ats.length+1) (Q.ats.flatMap At.row++atV a)->(wa.drew.alloc (.cells (atV a).toArray 199)).grownBy w' V.a.ownBlock->(v'.ownBlock=V.a.ownBlock\/v'.ownBlock=some (wa.drew.alloc (.cells (atV a).toArray 199)).heap.size)->_):=fun v' w'=>rem_fin Q V a qb w wa ta ha v' w'
  clear h ha ta hbx hz;go_enter Tryz.func168,Tryz.ntmps168;go_wp2_with fail;rw[<-hwa];clear hwa
  go_region_law (refine step_vals rfl (.tmp 11) (.tmp 13) 135 199 rfl Tryz.underlying135 (.agg #[.string ⟨#[]⟩,.int .i64 0,.string ⟨#[]⟩]) 3 40 info234 rfl (by decide) (by decide) V.a Q.ats.length (Q.ats.flatMap At.row) (by simp[Act.eval,Act.put]) (own_tch HWA.out.a ((Tch.refl [] _).drew.alloc _) (fun _ _=>by simp)) wa.heap.size (atV a) 1 (by simp[Act.eval,Act.put]) rfl (by decide) (heap_alloc_new _ _) (by intro u hu;simp at hu;rcases hu with rfl|rfl|rfl<;>rfl) (by omega) ?_;intro v' w9 ho3 hg3 hb3;obtain⟨g4,cap4,hv4,c9,z9,c10,l9,hfin⟩:=HG.out v' w9 ho3 hg3 hb3;subst hv4;clear ho3 hg3 hb3;have HFIN:Hid (QL _ _ _ _ _):=hfin;clear hfin)
  all_goals (go_wp2_with fail;go_end0;exact⟨rfl,by rw[hr.out];exact HFIN.out⟩)
end Go.Proofs.YtbdobaapadlcjabGreatDoor
