import Derived.Test.YtbdobaapadlcjaaGreatDoorBy11
set_option maxRecDepth 8000
set_option maxHeartbeats 4000000
set_option linter.unusedVariables false
set_option linter.unusedSimpArgs false
namespace Go.Proofs.YtbdobaapadlcjaaGreatDoor
open Go.RowKit
variable {w w':World}{base k B st i j:Nat}{Q Q':QM}{now:Int}{col c:Nat->Nat}{T:List TypeId}{S:List Nat}{t:TypeId}{V' VT':QV}
theorem a1T (g j:Nat):(⟨g,0,none⟩:Addr).add j=⟨g,j,none⟩:=by unfold Addr.add;split<;>simp_all
theorem a6y (I:Nat->List Int->World->Prop)(K:World->Prop)(st qb:Nat)(now:Int)(dv:Value)(w:World)(c0:w.cell? ⟨st,0,none⟩=some (.int .i64 now))
  (hD:zE 204 #[zp st,zp qb] w dv)
  (hU:Cp 297 #[zp qb,.int .i64 now] w fun e w'=>∃v ns,e=.returned v/\w'.ownsRow w.heap.size 3 1 v ns.length (ns.map fun n=>.int .i64 n)/\ns.length<=1000/\I w'.heap.size ns w')
  (hS:∀B n ns W,I B (n::ns) W->Cp 203 #[zp qb,.int .i64 n,dv] W fun e w'=>e=.returned (.tuple #[])/\I B ns w'/\∃S,Tch S W w'/\∀x∈S,x<w.heap.size\/B<=x)
  (hK:∀B W,I B [] W->K W):
  Cp 271 #[zp st,zp qb] w fun e w'=>e=.returned (.tuple #[])/\K w':=by
 have HD:=zH hD;have HU:=zH hU;have HS:=zH hS;have HK:=zH hK;clear hD hU hS hK;go_enter Tryz.func271,Tryz.ntmps271;go_wp2_with fail;refine HD.out.mono ?_;rintro e w' ⟨rfl,h'⟩;have h'':=h'.symm;subst h'';clear HD;go_wp2_with fail;refine HU.out.mono ?_;rintro e w1 ⟨v,ns,rfl,ho,hn,hI⟩;clear HU;have HI:=zH hI;clear hI;rcases ho.2 with ⟨rfl,h0⟩|⟨g,c,cur,rfl,hb,hg,_⟩
 ·have hne:ns=[]:=List.length_eq_zero_iff.1 h0;subst hne;have HK1:=zH (HK.out _ _ HI.out);clear HI HK HS ho;go_wp2_with fail;refine wp_loop_rounds 1 ?_;rw[rounds_succ];go_wp2_with fail;go_end0;exact⟨rfl,HK1.out⟩
 ·have hgl:=lt_of_block hg;have HO1:=zH ho;clear ho hg;obtain⟨B,hB⟩:∃B,B=w1.heap.size:=⟨_,rfl⟩;rw[<-hB]at HI hgl;go_wp2_with fail
  go_loopw [17] (fun jv wr=>∃j:Nat,j<=ns.length/\jv=.int .i64 (j:Int)/\wr.ownsRow w.heap.size 3 1 (.slice (some ⟨g,0,none⟩) ns.length c) ns.length (ns.map fun n=>.int .i64 n)/\I B (ns.drop j) wr) (fun jv _=>ns.length-(intOf jv).toNat)
  case atStart=>exact⟨0,Nat.zero_le _,rfl,HO1.out,HI.out⟩
  case round=>
   obtain⟨j,hj,rfl,ho,hI⟩:=hrel;have HO:=zH ho
   by_cases hlt:j<ns.length
   ·have hdrop:ns.drop j=ns[j]::ns.drop (j+1):=List.drop_eq_getElem_cons hlt;have cj:wr.cell? ⟨g,j,none⟩=some (.int .i64 ns[j]):=by
     have h1:=World.ownsRow.cells ho (g:=g) rfl j (.int .i64 ns[j]) (by simp[hlt]);rw[a1T]at h1;exact h1
    rw[hdrop]at hI;have HC:=HS.out _ _ _ _ hI;generalize ns[j]=n at*
    have HC':=zH HC;clear HC hI hdrop ho;go_wp2_with fail;refine HC'.out.mono ?_;rintro e w2 ⟨rfl,hI2,S,hT,hSx⟩;have HN:Hid (w2.ownsRow w.heap.size 3 1 (.slice (some ⟨g,0,none⟩) ns.length c) ns.length (ns.map fun n=>.int .i64 n)/\I B (ns.drop (j+1)) w2):=⟨jf HO.out hT (fun k hk hm=>by
     simp[Value.ownBlock]at hk;subst hk;rcases hSx g hm with h|h<;>omega),hI2⟩
    clear hI2 hT hSx HC';go_wp2_with fail;go_roundw
    case rel=>exact⟨j+1,by omega,by go_num,HN.out.1,HN.out.2⟩
    case measure=>simp[intOf];omega
   ·have hje:j=ns.length:=by omega
    subst hje;have HK1:Hid (K wr):=HK.out B wr (by rw[List.drop_length]at hI;exact hI);clear hI ho;go_wp2_with fail;go_end0;exact⟨rfl,HK1.out⟩
theorem a0y {oa:Option Addr}{oc:Nat}{qs:List Nat}(h:w.ownsRow base 152 1 (.slice oa qs.length oc) qs.length (qs.map fun q=>zp q))(j:Nat)(hj:j<qs.length):
  ∃g,oa=some ⟨g,0,none⟩/\base<=g/\g<w.heap.size/\w.cell? ⟨g,j,none⟩=some (zp (qs[j])):=by
 rcases h.2 with ⟨h1,h0⟩|⟨g,c,cur,h1,hb,hg,_⟩
 ·omega
 ·simp only[Value.slice.injEq,true_and]at h1;obtain⟨rfl,rfl⟩:=h1;have h2:=World.ownsRow.cells h (g:=g) rfl j (zp (qs[j])) (by simp[hj]);rw[a1T]at h2;exact⟨g,rfl,hb,lt_of_block hg,h2⟩
theorem a9Z (I:Nat->List Nat->World->Prop)(J:Nat->Nat->List Nat->World->Prop)(K:World->Prop)(st b:Nat)(now0 now:Int)(Pq:Nat->Option Nat)(w:World)(h:Stb w st b now0 (fun i=>jB (Pq i)))
  (hI0:∀W,Tch [] (w.setCell ⟨st,0,none⟩ (.int .i64 now)) W->I W.heap.size (qsL Pq 8) W)
  (hI:∀B q qs W,I B (q::qs) W->Cp 270 #[zp q,.int .i64 now] W fun e w'=>e=.returned (.tuple #[])/\I B qs w'/\∃S,Tch S W w'/\∀x∈S,x<w.heap.size\/B<=x)
  (hIJ:∀B W,I B [] W->Stb W st b now (fun i=>jB (Pq i))/\∀W',Tch [] W W'->J W.heap.size W'.heap.size (qsL Pq 8) W')
  (hJ:∀A B q qs W,J A B (q::qs) W->Cp 271 #[zp st,zp q] W fun e w'=>e=.returned (.tuple #[])/\J A B qs w'/\∃S,Tch S W w'/\∀x∈S,x<A\/B<=x)
  (hK:∀A B W,J A B [] W->K W):
  Cp 221 #[zp st,.int .i64 now] w fun e w'=>e=.returned (.tuple #[])/\K w':=by
 have c0:=h.now;have z0:=h.fz 0;obtain⟨ws,hws⟩:∃ws,ws=w.setCell ⟨st,0,none⟩ (.int .i64 now):=⟨_,rfl⟩;have hst:Stb ws st b now (fun i=>jB (Pq i)):=by rw[hws];exact h.set0 now
 have zs:ws.heap.size=w.heap.size:=by rw[hws];exact World.size_setCell _ _ _
 have HT:=a5i st b now Pq ws hst;rw[zs]at HT;have HTH:=zH HT;rw[<-hws]at hI0;have HI0:=zH hI0;have HI:=zH hI;have HIJ:=zH hIJ;have HJ:=zH hJ;have HK:=zH hK;have HTG:Hid (∀W,Stb W st b now (fun i=>jB (Pq i))->Cp 93 #[zp st] W fun e w'=>∃v,e=.returned v/\w'.ownsRow W.heap.size 152 1 v (qsL Pq 8).length ((qsL Pq 8).map fun q=>zp q)/\Tch [] W w'):=fun W hW=>a5i st b now Pq W hW
 have hq8:=a8z Pq 8;clear h hst HT hI0 hI hIJ hJ hK zs;generalize qsL Pq 8=qs at*
 go_enter Tryz.func221,Tryz.ntmps221;go_wp2_with fail;rw[<-hws];clear hws;refine HTH.out.mono ?_;rintro e w1 ⟨v,rfl,ho,ht⟩;have HI1:=zH (HI0.out w1 ht);clear HTH HI0 ht;obtain⟨B,hB⟩:∃B,B=w1.heap.size:=⟨_,rfl⟩;rw[<-hB]at HI1;obtain⟨oa,oc,hoe⟩:=vf ho;subst hoe;have HO1:=zH ho;have HGB:Hid (∀g,oa=some ⟨g,0,none⟩->0<qs.length->w.heap.size<=g/\g<B):=fun g hg h0=>by
  obtain⟨g',hg',h1,h2,_⟩:=a0y ho 0 h0;rw[hg]at hg';simp only[Option.some.injEq,Addr.mk.injEq,and_true]at hg';subst hg';rw[hB];exact⟨h1,h2⟩
 clear ho hB;go_wp2_with fail
 go_loopw [15] (fun jv wr=>∃j:Nat,j<=qs.length/\jv=.int .i64 (j:Int)/\wr.ownsRow w.heap.size 152 1 (.slice oa qs.length oc) qs.length (qs.map fun q=>zp q)/\I B (qs.drop j) wr) (fun jv _=>qs.length-(intOf jv).toNat)
 case atStart=>exact⟨0,Nat.zero_le _,rfl,HO1.out,HI1.out⟩
 case round=>
  obtain⟨j,hj,rfl,ho,hIj⟩:=hrel;have HO:=zH ho
  by_cases hlt:j<qs.length
  ·have hdrop:qs.drop j=qs[j]::qs.drop (j+1):=List.drop_eq_getElem_cons hlt;obtain⟨g,hoa,hbg,hgr,cj⟩:=a0y ho j hlt;have hgB:=HGB.out g hoa (by omega);subst hoa;rw[hdrop]at hIj;have HC:=HI.out _ _ _ _ hIj;generalize qs[j]=q at*
   have HC':=zH HC;clear HC hIj hdrop ho;go_wp2_with fail;refine HC'.out.mono ?_;rintro e w2 ⟨rfl,hI2,S,hT,hSx⟩;have HN:Hid (w2.ownsRow w.heap.size 152 1 (.slice (some ⟨g,0,none⟩) qs.length oc) qs.length (qs.map fun q=>zp q)/\I B (qs.drop (j+1)) w2):=⟨jf HO.out hT (fun k hk hm=>by
    simp[Value.ownBlock]at hk;subst hk;rcases hSx g hm with h|h<;>omega),hI2⟩
   clear hI2 hT hSx HC';go_wp2_with fail;go_roundw
   case rel=>exact⟨j+1,by omega,by go_num,HN.out.1,HN.out.2⟩
   case measure=>simp[intOf];omega
  ·have hje:j=qs.length:=by omega
   subst hje;rw[List.drop_length]at hIj;obtain⟨hst2,hJ0⟩:=HIJ.out B wr hIj;have HT2:=zH (HTG.out wr hst2);have HJ0:=zH hJ0;clear hIj hst2 hJ0 ho HO HI HIJ HTG HO1 HI1 HGB;go_wp2_with fail;refine HT2.out.mono ?_;rintro e w1 ⟨v,rfl,ho,ht⟩;have HJ1:=zH (HJ0.out w1 ht);obtain⟨B2,hB⟩:∃B2,B2=w1.heap.size:=⟨_,rfl⟩;obtain⟨A,hA⟩:∃A,A=wr.heap.size:=⟨_,rfl⟩;rw[<-hB,<-hA]at HJ1;rw[<-hA]at ho;obtain⟨oa2,oc2,hoe⟩:=vf ho;subst hoe;have HO1:=zH ho;have HGB:Hid (∀g,oa2=some ⟨g,0,none⟩->0<qs.length->A<=g/\g<B2):=fun g hg h0=>by
    obtain⟨g',hg',h1,h2,_⟩:=a0y ho 0 h0;rw[hg]at hg';simp only[Option.some.injEq,Addr.mk.injEq,and_true]at hg';subst hg';rw[hB];exact⟨h1,h2⟩
   clear ho hB hA ht HT2 HJ0;go_wp2_with fail
   go_loopw [26] (fun jv wq=>∃j:Nat,j<=qs.length/\jv=.int .i64 (j:Int)/\wq.ownsRow A 152 1 (.slice oa2 qs.length oc2) qs.length (qs.map fun q=>zp q)/\J A B2 (qs.drop j) wq) (fun jv _=>qs.length-(intOf jv).toNat)
   case atStart=>exact⟨0,Nat.zero_le _,rfl,HO1.out,HJ1.out⟩
   case round=>
    obtain⟨j,hj2,rfl,ho,hIj⟩:=hrel;have HO:=zH ho
    by_cases hlt:j<qs.length
    ·have hdrop:qs.drop j=qs[j]::qs.drop (j+1):=List.drop_eq_getElem_cons hlt;obtain⟨g,hoa,hbg,hgr,cj⟩:=a0y ho j hlt;have hgB:=HGB.out g hoa (by omega);subst hoa;rw[hdrop]at hIj;have HC:=HJ.out _ _ _ _ _ hIj;generalize qs[j]=q at*
     have HC':=zH HC;clear HC hIj hdrop ho;go_wp2_with fail;refine HC'.out.mono ?_;rintro e w2 ⟨rfl,hI2,S,hT,hSx⟩;have HN:Hid (w2.ownsRow A 152 1 (.slice (some ⟨g,0,none⟩) qs.length oc2) qs.length (qs.map fun q=>zp q)/\J A B2 (qs.drop (j+1)) w2):=⟨jf HO.out hT (fun k hk hm=>by
      simp[Value.ownBlock]at hk;subst hk;rcases hSx g hm with h|h<;>omega),hI2⟩
     clear hI2 hT hSx HC';go_wp2_with fail;go_roundw
     case rel=>exact⟨j+1,by omega,by go_num,HN.out.1,HN.out.2⟩
     case measure=>simp[intOf];omega
    ·have hje:j=qs.length:=by omega
     subst hje;have HK1:Hid (K wr):=HK.out A B2 wr (by rw[List.drop_length]at hIj;exact hIj);clear hIj ho;go_wp2_with fail;go_end0;exact⟨rfl,HK1.out⟩
structure BQ where
 qb:Nat
 V:QV
 Q:QM
def ptZ (Z:Nat->Option BQ)(i:Nat):Option Nat:=(Z i).map BQ.qb
structure SG (B:Nat)(w:World)(st b:Nat)(now:Int)(Z:Nat->Option BQ)(col:Nat->Nat):Prop where
 stb:Stb w st b now (fun i=>jB (ptZ Z i))
 tb:Tbl w b
 qr:∀i x,i<8->Z i=some x->QR w x.qb x.V x.Q
 cl:∀i x,i<8->Z i=some x->∀k∈qbl x.qb x.V,col k=i
 lo:∀i x,i<8->Z i=some x->∀k∈qbl x.qb x.V,B<=k
 ls:B<=st
 cs:col st≠9
def bqL (Z:Nat->Option BQ)(k:Nat):List BQ:=(List.range k).filterMap Z
theorem b4w (Z:Nat->Option BQ)(k:Nat):qsL (ptZ Z) k=(bqL Z k).map BQ.qb:=by
 unfold qsL bqL;rw[List.map_filterMap];rfl
theorem a7T {Z:Nat->Option BQ}{x:BQ}(h:x∈bqL Z k):∃i,i<k/\Z i=some x:=by
 obtain⟨i,hi,he⟩:=List.mem_filterMap.1 h;exact⟨i,List.mem_range.1 hi,he⟩
theorem a7S (Z:Nat->Option BQ)(k:Nat):(bqL Z k).length<=k:=by
 have:=List.length_filterMap_le Z (List.range k);simpa [bqL]using this
theorem b3S {α:Type}(f:α->Value)(l:List α):(l.flatMap fun x=>[f x])=l.map f:=by
 induction l with
 | nil=>rfl
 | cons a r ih=>rw[List.flatMap_cons,ih];rfl
def bqB (x:BQ):List UInt8:=x.Q.c.q::xD x.Q
def a1R (now:Int)(Z:Nat->Option BQ):List UInt8:=je now.toNat 4++(bqL Z 8).flatMap bqB
theorem a2x (h:QOk Q):(xD Q).length<=19200:=by
 have h1:=h.lens;have h2:=vo Q.c;simp only[xD,List.length_append,jc];omega
theorem a7D {Z:Nat->Option BQ}(hQ:∀i x,i<8->Z i=some x->QOk x.Q):(a1R now Z).length<=160000:=by
 have h1:=vb bqB 19201 (bqL Z 8) (fun x hx=>by
  obtain⟨i,hi,he⟩:=a7T hx;have h2:=a2x (hQ i x hi he);simp only[bqB,List.length_cons];omega)
 have h2:=a7S Z 8;simp only[a1R,List.length_append,jc];omega
theorem SG.tch {b:Nat}{Z:Nat->Option BQ}(h:SG B w st b now Z col)(ht:Tch [] w w'):SG B w' st b now Z col:=
 ⟨h.stb.tch ht (by simp),h.tb.tch ht (by simp),fun i x hi hx=>(h.qr i x hi hx).tch ht (by simp),h.cl,h.lo,h.ls,h.cs⟩
theorem SG.fr {b:Nat}{Z:Nat->Option BQ}(h:SG B w st b now Z col)(hf:Fr B T w w')(h1:156∉T)(h2:221∉T)(h3:∀t∈TQ,t∉T):SG B w' st b now Z col:=
 ⟨h.stb.fr hf h1,fun i f hi=>hf.keep _ _ _ (h.tb i f hi) h2,fun i x hi hx=>(h.qr i x hi hx).keep hf h3,h.cl,h.lo,h.ls,h.cs⟩
theorem b0f (B st b:Nat)(now:Int)(Z:Nat->Option BQ)(col:Nat->Nat)(w:World)(h:SG B w st b now Z col)(hn:inN now)(hQ:∀i x,i<8->Z i=some x->QOk x.Q):
  zT 65 #[zp st] w (.string ⟨(a1R now Z).toArray⟩):=by
 have c0:=h.stb.now;have H1:Hid (Cp 91 #[.slice none 0 0,.int .i64 now,.int .i64 4] w fun e w'=>∃v',e=.returned v'/\OwnB w' w.heap.size v' ([]++je now.toNat 4)/\Below w.heap.size w w'/\Fr 0 [5] w w'):=kH w.heap.size _ [] now 4 w hn (by decide) (by decide) (Nat.le_refl _) (World.ownsRow_nil _ _ _ _);have HST:Hid (∀W,BF w.heap.size w W->Cp 93 #[zp st] W fun e w'=>∃v,e=.returned v/\w'.ownsRow W.heap.size 152 1 v (bqL Z 8).length ((bqL Z 8).map fun x=>zp x.qb)/\Tch [] W w'):=fun W hb=>by
  have h1:=a5i st b now (ptZ Z) W (h.stb.tch (Tch.of_below hb.1) (by simp));rw[b4w,List.length_map,List.map_map]at h1;exact h1
 have HQS:Hid (∀x∈bqL Z 8,QR w x.qb x.V x.Q/\QOk x.Q):=fun x hx=>by
  obtain⟨i,hi,he⟩:=a7T hx;exact⟨h.qr i x hi he,hQ i x hi he⟩
 have hbl:=a7S Z 8;have HWB:Hid (a1R now Z=([]++je now.toNat 4)++(bqL Z 8).flatMap bqB):=rfl;generalize a1R now Z=WB at HWB;generalize bqL Z 8=xs at*
 clear h hQ hn;go_enter Tryz.func65,Tryz.ntmps65;go_wp2_with fail;refine H1.out.mono ?_;rintro e w1 ⟨v1,rfl,ho1,hb1,hf1⟩;have HB1:Hid (BF w.heap.size w w1):=⟨hb1,hf1⟩;have hl1:([]++je now.toNat 4).length=4:=by simp[jc]
 generalize []++je now.toNat 4=L at*
 have HO1:=zH ho1;have H2:=zH (HST.out w1 HB1.out);clear ho1 hb1 hf1 H1 c0;go_wp2_with fail;refine H2.out.mono ?_;rintro e w2 ⟨vt,rfl,hot,ht2⟩;obtain⟨ta,tc,rfl⟩:=vf hot;have HOT:Hid (w2.ownsRow w1.heap.size 152 1 (.slice ta xs.length tc) xs.length (xs.map fun x=>zp x.qb)):=hot;have HB2:Hid (BF w.heap.size w w2):=HB1.out.trans ⟨⟨ht2.os,ht2.tape,ht2.output,ht2.size,fun k hk=>ht2.block k (by have:=HB1.out.size;omega) (by simp)⟩,Fr.of_nil [5] ht2 (Nat.zero_le _)⟩
 have HO2:Hid (OwnB w2 w.heap.size v1 L):=jf HO1.out ht2 (by simp);clear hot ht2 H2 HST;go_wp2_with fail
 go_loopw [3,14] (fun o i wr=>∃k:Nat,k<=xs.length/\i=.int .i64 (k:Int)/\OwnB wr w.heap.size o (L++(xs.take k).flatMap bqB)/\BF w.heap.size w wr/\wr.ownsRow w1.heap.size 152 1 (.slice ta xs.length tc) xs.length (xs.map fun x=>zp x.qb)) (fun _ i _=>xs.length-(intOf i).toNat)
 case atStart=>exact⟨0,Nat.zero_le _,rfl,by simpa using HO2.out,HB2.out,HOT.out⟩
 case round=>
  obtain⟨k,hk,rfl,ho,hbr,hrow⟩:=hrel
  by_cases hlt:k<xs.length
  ·obtain⟨hqr,hok⟩:=HQS.out _ (List.getElem_mem hlt);have HS:=zH (a1c bqB L xs k hlt);have hle:(L++(xs.take k).flatMap bqB).length<=100000000:=by
    rw[List.length_append];have h1:=vb bqB 19201 (xs.take k) (fun x hx=>by
     have h2:=a2x (HQS.out x (List.mem_of_mem_take hx)).2;simp only[bqB,List.length_cons];omega)
    rw[List.length_take]at h1;omega
   obtain⟨g,hg,hgl⟩:∃g,ta=some ⟨g,0,none⟩/\wr.cell? ⟨g,k,none⟩=some (zp (xs[k].qb)):=by
    rcases hrow.2 with ⟨h0,h1⟩|⟨g,cap,cur,h0,hb0,hg0,h5,h6,h7,h8⟩
    ·omega
    ·simp only[Value.slice.injEq,true_and]at h0;obtain⟨rfl,rfl⟩:=h0;have inh:Inhabited BQ:=⟨xs[k]⟩;have hm:wr.ownsRow w1.heap.size 152 1 (.slice (some ⟨g,0,none⟩) xs.length tc) xs.length (xs.flatMap fun x=>[zp x.qb]):=by
      have e:(xs.flatMap fun x=>[zp x.qb])=xs.map fun x=>zp x.qb:=b3S _ xs
      rw[e];exact hrow
     have h1:=jF (fun x:BQ=>[zp x.qb]) 1 (fun _=>rfl) (a1F hm (Nat.zero_le _)) k hlt 0 (zp (xs[k].qb)) (by rw[List.getElem!_eq_getElem?_getD,List.getElem?_eq_getElem hlt];rfl);exact⟨g,rfl,by simpa using h1⟩
   subst hg;have zr:=hbr.size;have H3:Hid (Cp 94 #[zp (xs[k].qb),u3] wr fun e w'=>∃v',e=.returned v'/\OwnB w' w.heap.size v' ((L++(xs.take k).flatMap bqB)++bqB xs[k])/\BF w.heap.size wr w'):=a6x w.heap.size u3 _ xs[k].Q xs[k].V xs[k].qb wr (hqr.below hqr.lt hbr.1) hqr.lt hok (by omega) (by omega) ho;rw[<-HS.out]at H3;have HBR:=zH hbr;have HRW:=zH hrow;clear hqr hok hle ho hbr hrow;generalize xs[k].qb=qk at*
   go_wp2_with fail;refine H3.out.mono ?_;rintro e w3 ⟨v3,rfl,ho3,hb3⟩;have HN:Hid (OwnB w3 w.heap.size v3 (L++(xs.take (k+1)).flatMap bqB)/\BF w.heap.size w w3/\w3.ownsRow w1.heap.size 152 1 (.slice (some ⟨g,0,none⟩) xs.length tc) xs.length (xs.map fun x=>zp x.qb)):=⟨ho3,HBR.out.trans hb3,hb3.2.own HRW.out (by decide)⟩;clear ho3 hb3 H3;go_wp2_with fail;go_roundw
   case rel=>exact⟨k+1,by omega,by go_num,HN.out.1,HN.out.2.1,HN.out.2.2⟩
   case measure=>simp[intOf];omega
  ·have he:xs.take k=xs:=List.take_of_length_le (by omega);rw[he,<-HWB.out]at ho;have hwl:0<WB.length:=by rw[HWB.out,List.length_append];omega
   have hstr:=OwnB.str ho hwl;have HT:=zH (Tch.of_below hbr.1);clear he ho hbr hrow hwl;go_wp2_with fail;go_ret;exact⟨rfl,HT.out⟩
abbrev TSt:List TypeId:=[191,226,9,230,234,156]
abbrev TA:List TypeId:=[143,110,116,191,226,9,230,234,156]
structure FqT (T:List TypeId)(B:Nat)(col:Nat->Nat)(w w':World):Prop where
 os:w'.os=w.os
 tape:w'.tape=w.tape
 output:w'.output=w.output
 size:w.heap.size<=w'.heap.size
 low:∀k:Nat,k<B->w'.heap[k]?=w.heap[k]?
 keep:∀(k:Nat) (C:Array Value) (t:TypeId),w.heap[k]?=some (.cells C t (0,0))->t∉T->w'.heap[k]?=some (.cells C t (0,0))
 out:∀k:Nat,k<w.heap.size->col k=9->w'.heap[k]?=w.heap[k]?
abbrev Fq (B:Nat)(col:Nat->Nat)(w w':World):Prop:=FqT TSt B col w w'
def Agr (w:World)(c c':Nat->Nat):Prop:=(∀k,k<w.heap.size->c' k=c k)/\∀k,c' k=9->c k=9
theorem Agr.refl (w:World)(c:Nat->Nat):Agr w c c:=⟨fun _ _=>rfl,fun _ h=>h⟩
theorem a4o (hi:i≠9):Agr w c (fun k=>if k<w.heap.size then c k else i):=⟨fun k hk=>if_pos hk,fun k hk=>by
 have hk:(if k<w.heap.size then c k else i)=9:=hk
 by_cases h:k<w.heap.size
 ·rw[if_pos h]at hk;exact hk
 ·rw[if_neg h]at hk;exact absurd hk hi⟩
theorem Agr.trans {a b:World}{d e:Nat->Nat}(h:Agr a c d)(k:Agr b d e)(hz:a.heap.size<=b.heap.size):Agr a c e:=⟨fun x hx=>(k.1 x (by omega)).trans (h.1 x hx),fun x hx=>h.2 x (k.2 x hx)⟩
theorem FqT.trans {c':Nat->Nat}{x y z:World}(h:FqT T B c x y)(hc:Agr x c c')(k:FqT T B c' y z):FqT T B c x z:=
 ⟨k.os.trans h.os,k.tape.trans h.tape,k.output.trans h.output,Nat.le_trans h.size k.size,fun q hq=>(k.low q hq).trans (h.low q hq),fun q C t hq ht=>k.keep q C t (h.keep q C t hq ht) ht,fun q hq h9=>(k.out q (Nat.lt_of_lt_of_le hq h.size) ((hc.1 q hq).trans h9)).trans (h.out q hq h9)⟩
theorem FqT.of_fr {T':List TypeId}(h:Fr B T w w')(hT:∀t∈T,t∈T')(ho:∀k:Nat,k<w.heap.size->c k=9->w'.heap[k]?=w.heap[k]?):FqT T' B c w w':=
 ⟨h.os,h.tape,h.output,h.size,h.low,fun k C t hk ht=>h.keep k C t hk (fun hm=>ht (hT t hm)),ho⟩
theorem FqT.of_nil {T':List TypeId}(c:Nat->Nat){w w':World}(h:Tch [] w w')(hB:B<=w.heap.size):FqT T' B c w w':=FqT.of_fr (T:=[]) (Fr.of_nil [] h hB) (by simp) (fun k hk _=>h.block k hk (by simp))
theorem FqT.below (h:FqT T B c w w'):Below B w w':=⟨h.os,h.tape,h.output,h.size,fun k hk=>h.low k hk⟩
theorem FqT.of_tch (h:Tch S w w')(hB:B<=w.heap.size)(hlow:∀k∈S,B<=k)(hty:∀k∈S,∀(C:Array Value) (t:TypeId),w.heap[k]?=some (.cells C t (0,0))->t∈T)(hcl:∀k∈S,c k≠9):FqT T B c w w':=
 ⟨h.os,h.tape,h.output,h.size,fun k hk=>h.block k (by omega) (fun hm=>by have:=hlow k hm;omega),fun k C t hk ht=>(h.block k (lt_of_block hk) (fun hm=>ht (hty k hm C t hk))).trans hk,fun k hk h9=>h.block k hk (fun hm=>hcl k hm h9)⟩
theorem FqT.mono {T':List TypeId}(h:FqT T B c w w')(hT:∀t∈T,t∈T'):FqT T' B c w w':=
 ⟨h.os,h.tape,h.output,h.size,h.low,fun k C t hk ht=>h.keep k C t hk (fun hm=>ht (hT t hm)),h.out⟩
theorem b5P:∀t∈TSt,t∈TA:=by decide
theorem FqT.own (h:FqT T B c w w'){base size n:Nat}{t:TypeId}{v:Value}{xs:List Value}(ho:w.ownsRow base t size v n xs)(ht:t∉T):w'.ownsRow base t size v n xs:=by
 refine⟨ho.1,?_⟩;rcases ho.2 with hn|⟨g,cap,cur,rfl,hb,hg,rest⟩
 ·exact .inl hn
 ·exact .inr ⟨g,cap,cur,rfl,hb,h.keep g cur t hg ht,rest⟩
def xM (Z:Nat->Option BQ)(i:Nat)(v:Option BQ):Nat->Option BQ:=fun j=>if j=i then v else Z j
theorem kz (Z:Nat->Option BQ)(i:Nat)(v:Option BQ):xM Z i v i=v:=by simp[xM]
theorem kN (Z:Nat->Option BQ){i j:Nat}(v:Option BQ)(h:j≠i):xM Z i v j=Z j:=by simp[xM,h]
theorem a0x (Z:Nat->Option BQ)(i:Nat)(v:Option BQ)(h:v.map BQ.qb=(Z i).map BQ.qb):ptZ (xM Z i v)=ptZ Z:=by
 funext j;unfold ptZ xM
 by_cases e:j=i
 ·subst e;simp[h]
 ·simp[e]
theorem SG.dis {b:Nat}{Z:Nat->Option BQ}(h:SG B w st b now Z col){i j:Nat}{x y:BQ}(hi:i<8)(hj:j<8)(hx:Z i=some x)(hy:Z j=some y)(hne:i≠j):b5q x.qb x.V y.qb y.V:=fun k hk hm=>hne ((h.cl i x hi hx k hk).symm.trans (h.cl j y hj hy k hm))
theorem QR.nty {qb:Nat}{V:QV}(h:QR w qb V Q){k:Nat}{C:Array Value}{t:TypeId}(hk:w.heap[k]?=some (.cells C t (0,0)))(ht:t∉TQ):k∉qbl qb V:=fun hm=>ht (h.ty k hm C t hk)
theorem a8G (h:t∈TQ):t∈TSt:=by
 simp only[TQ,List.mem_cons,List.not_mem_nil,or_false]at h;rcases h with rfl|rfl|rfl|rfl|rfl<;>decide
theorem SG.upd2 {b:Nat}{Z:Nat->Option BQ}(h:SG B w st b now Z col)(hB:B<=w.heap.size){i j:Nat}(hi:i<8)(hj:j<8){x y:BQ}(hx:Z i=some x)(hy:Z j=some y)(hij:i≠j){V' VT':QV}{Q' T':QM}
  (hQ:QR w' x.qb V' Q')(hT:QR w' y.qb VT' T')(ht:Tch (qbl x.qb x.V++qbl y.qb y.V) w w')(hN:∀k∈qbl x.qb V',k∈qbl x.qb x.V)(hM:∀k∈qbl y.qb VT',k∈qbl y.qb y.V\/w.heap.size<=k):
  ∃col',SG B w' st b now (xM (xM Z i (some ⟨x.qb,V',Q'⟩)) j (some ⟨y.qb,VT',T'⟩)) col'/\Agr w col col'/\Fq B col w w':=by
 have hqx:=h.qr i x hi hx;have hqy:=h.qr j y hj hy;refine⟨fun k=>if k<w.heap.size then col k else j,⟨?_,?_,?_,?_,?_,h.ls,by show (if st<w.heap.size then col st else j)≠9;rw[if_pos h.stb.lt];exact h.cs⟩,a4o (by omega),?_⟩
 ·have e:ptZ (xM (xM Z i (some ⟨x.qb,V',Q'⟩)) j (some ⟨y.qb,VT',T'⟩))=ptZ Z:=by
   rw[a0x _ _ _ (by rw[kN _ _ (Ne.symm hij),hy];rfl),a0x _ _ _ (by rw[hx];rfl)]
  rw[e];exact h.stb.tch ht (fun hm=>by
   rcases List.mem_append.1 hm with hm|hm
   ·exact hqx.nty h.stb (by decide) hm
   ·exact hqy.nty h.stb (by decide) hm)
 ·exact fun q f hq=>(ht.block _ (lt_of_block (h.tb q f hq)) (fun hm=>by
   rcases List.mem_append.1 hm with hm|hm
   ·exact hqx.nty (h.tb q f hq) (by decide) hm
   ·exact hqy.nty (h.tb q f hq) (by decide) hm)).trans (h.tb q f hq)
 ·intro q z hq hz
  by_cases e1:q=j
  ·subst e1;rw[kz]at hz;injection hz with hz;subst hz;exact hT
  ·rw[kN _ _ e1]at hz
   by_cases e2:q=i
   ·subst e2;rw[kz]at hz;injection hz with hz;subst hz;exact hQ
   ·rw[kN _ _ e2]at hz;exact(h.qr q z hq hz).tch ht (fun k hk hm=>by
     rcases List.mem_append.1 hm with hm|hm
     ·exact h.dis hq hi hz hx e2 k hk hm
     ·exact h.dis hq hj hz hy e1 k hk hm)
 ·intro q z hq hz k hk
  by_cases e1:q=j
  ·subst e1;rw[kz]at hz;injection hz with hz;subst hz;rcases hM k hk with hm|hm
   ·simp[hqy.lt k hm,h.cl q y hj hy k hm]
   ·simp[Nat.not_lt.2 hm]
  ·rw[kN _ _ e1]at hz
   by_cases e2:q=i
   ·subst e2;rw[kz]at hz;injection hz with hz;subst hz;have hm:=hN k hk;simp[hqx.lt k hm,h.cl q x hi hx k hm]
   ·rw[kN _ _ e2]at hz;simp[(h.qr q z hq hz).lt k hk,h.cl q z hq hz k hk]
 ·intro q z hq hz k hk
  by_cases e1:q=j
  ·subst e1;rw[kz]at hz;injection hz with hz;subst hz;rcases hM k hk with hm|hm
   ·exact h.lo q y hj hy k hm
   ·omega
  ·rw[kN _ _ e1]at hz
   by_cases e2:q=i
   ·subst e2;rw[kz]at hz;injection hz with hz;subst hz;exact h.lo q x hi hx k (hN k hk)
   ·rw[kN _ _ e2]at hz;exact h.lo q z hq hz k hk
 ·refine FqT.of_tch ht hB (fun k hk=>?_) (fun k hk C t hC=>?_) (fun k hk=>?_)
  ·rcases List.mem_append.1 hk with hm|hm
   ·exact h.lo i x hi hx k hm
   ·exact h.lo j y hj hy k hm
  ·rcases List.mem_append.1 hk with hm|hm
   ·exact a8G (hqx.ty k hm C t hC)
   ·exact a8G (hqy.ty k hm C t hC)
  ·rcases List.mem_append.1 hk with hm|hm
   ·rw[h.cl i x hi hx k hm];omega
   ·rw[h.cl j y hj hy k hm];omega
theorem SG.upd {b:Nat}{Z:Nat->Option BQ}(h:SG B w st b now Z col)(hB:B<=w.heap.size){i:Nat}(hi:i<8){x:BQ}(hx:Z i=some x){Q':QM}(hq:QL w w' x.qb x.V Q'):
  ∃V' col',SG B w' st b now (xM Z i (some ⟨x.qb,V',Q'⟩)) col'/\Agr w col col'/\Fq B col w w'/\(∀k∈qbl x.qb V',k∈qbl x.qb x.V\/w.heap.size<=k)/\Tch (qbl x.qb x.V) w w':=by
 obtain⟨V',hQ,ht,hN⟩:=hq;have hqx:=h.qr i x hi hx;refine⟨V',fun k=>if k<w.heap.size then col k else i,⟨?_,?_,?_,?_,?_,h.ls,by show (if st<w.heap.size then col st else i)≠9;rw[if_pos h.stb.lt];exact h.cs⟩,a4o (by omega),?_,hN,ht⟩
 ·rw[a0x _ _ _ (by rw[hx];rfl)];exact h.stb.tch ht (fun hm=>hqx.nty h.stb (by decide) hm)
 ·exact fun q f hq=>(ht.block _ (lt_of_block (h.tb q f hq)) (fun hm=>hqx.nty (h.tb q f hq) (by decide) hm)).trans (h.tb q f hq)
 ·intro q z hq hz
  by_cases e2:q=i
  ·subst e2;rw[kz]at hz;injection hz with hz;subst hz;exact hQ
  ·rw[kN _ _ e2]at hz;exact(h.qr q z hq hz).tch ht (fun k hk hm=>h.dis hq hi hz hx e2 k hk hm)
 ·intro q z hq hz k hk
  by_cases e2:q=i
  ·subst e2;rw[kz]at hz;injection hz with hz;subst hz;rcases hN k hk with hm|hm
   ·simp[hqx.lt k hm,h.cl q x hi hx k hm]
   ·simp[Nat.not_lt.2 hm]
  ·rw[kN _ _ e2]at hz;simp[(h.qr q z hq hz).lt k hk,h.cl q z hq hz k hk]
 ·intro q z hq hz k hk
  by_cases e2:q=i
  ·subst e2;rw[kz]at hz;injection hz with hz;subst hz;rcases hN k hk with hm|hm
   ·exact h.lo q x hi hx k hm
   ·omega
  ·rw[kN _ _ e2]at hz;exact h.lo q z hq hz k hk
 ·exact FqT.of_tch ht hB (fun k hk=>h.lo i x hi hx k hk) (fun k hk C t hC=>a8G (hqx.ty k hk C t hC)) (fun k hk=>by rw[h.cl i x hi hx k hk];omega)
theorem SG.time {b:Nat}{Z:Nat->Option BQ}(h:SG B w st b now Z col)(n:Int):SG B (w.setCell ⟨st,0,none⟩ (.int .i64 n)) st b n Z col:=by
 have ht:Tch [st] w (w.setCell ⟨st,0,none⟩ (.int .i64 n)):=(Tch.refl _ _).setCell (fun _=>by simp) _;refine⟨h.stb.set0 n,fun q f hq=>(ht.block _ (lt_of_block (h.tb q f hq)) (fun hm=>?_)).trans (h.tb q f hq),fun i x hi hx=>(h.qr i x hi hx).tch ht (fun k hk hm=>?_),h.cl,h.lo,h.ls,h.cs⟩
 ·simp at hm;have h1:=h.tb q f hq;have h2:=h.stb;rw[hm,h2]at h1;simp at h1
 ·simp at hm;subst hm;exact(h.qr i x hi hx).nty h.stb (by decide) hk
theorem SG.timeF {b:Nat}{Z:Nat->Option BQ}(h:SG B w st b now Z col)(hB:B<=w.heap.size)(n:Int):Fq B col w (w.setCell ⟨st,0,none⟩ (.int .i64 n)):=by
 have ht:Tch [st] w (w.setCell ⟨st,0,none⟩ (.int .i64 n)):=(Tch.refl _ _).setCell (fun _=>by simp) _;refine FqT.of_tch ht hB (fun k hk=>?_) (fun k hk C t hC=>?_) (fun k hk=>?_)
 ·simp at hk;subst hk;exact h.ls
 ·simp at hk;subst hk;have h2:=h.stb;rw[h2]at hC;simp at hC;rw[<-hC.2];decide
 ·simp at hk;subst hk;exact h.cs
def ctZ (Z:Nat->Option BQ):Nat->Option QM:=fun i=>(Z i).map BQ.Q
def jI (c:Nat->Option QM)(i:Nat)(v:Option QM):Nat->Option QM:=fun j=>if j=i then v else c j
theorem vQ (c:Nat->Option QM)(i:Nat)(v:Option QM):jI c i v i=v:=by simp[jI]
theorem a2u (c:Nat->Option QM){i j:Nat}(v:Option QM)(h:j≠i):jI c i v j=c j:=by simp[jI,h]
theorem a0p (Z:Nat->Option BQ)(i:Nat)(v:Option BQ):ctZ (xM Z i v)=jI (ctZ Z) i (v.map BQ.Q):=by
 funext j;unfold ctZ xM jI
 by_cases e:j=i
 ·simp[e]
 ·simp[e]
theorem vV {Z:Nat->Option BQ}{x:BQ}(h:Z i=some x):ctZ Z i=some x.Q:=by unfold ctZ;rw[h];rfl
theorem qN {Z:Nat->Option BQ}(h:ctZ Z i=some Q):∃x,Z i=some x/\x.Q=Q:=by
 unfold ctZ at h
 cases hz:Z i with
 | none=>rw[hz]at h;simp at h
 | some x=>rw[hz]at h;simp at h;exact⟨x,rfl,h⟩
theorem b0F {Z:Nat->Option BQ}(h:ctZ Z i=none):Z i=none:=by
 unfold ctZ at h
 cases hz:Z i with
 | none=>rfl
 | some x=>rw[hz]at h;simp at h
def a2y (Z:Nat->Option BQ)(k:Nat):Prop:=∃j y,j<8/\Z j=some y/\k∈qbl y.qb y.V
theorem SG.allLt {b:Nat}{Z:Nat->Option BQ}(h:SG B w st b now Z col){k:Nat}(hk:a2y Z k):k<w.heap.size:=by
 obtain⟨j,y,hj,hy,hk⟩:=hk;exact(h.qr j y hj hy).lt k hk
def SGn (B st b:Nat)(now:Int)(w w':World)(Z:Nat->Option BQ)(col:Nat->Nat)(c:Nat->Option QM):Prop:=
 ∃Z' col',SG B w' st b now Z' col'/\ctZ Z'=c/\ptZ Z'=ptZ Z/\Agr w col col'/\Fq B col w w'/\(∃S,Tch S w w'/\∀k∈S,a2y Z k)/\∀k,a2y Z' k->a2y Z k\/w.heap.size<=k
theorem SG.updn {b:Nat}{Z:Nat->Option BQ}(h:SG B w st b now Z col)(hB:B<=w.heap.size){i:Nat}(hi:i<8){x:BQ}(hx:Z i=some x){Q':QM}(hq:QL w w' x.qb x.V Q'):SGn B st b now w w' Z col (jI (ctZ Z) i (some Q')):=by
 obtain⟨V',col',h1,h2,h3,h4,h5⟩:=h.upd hB hi hx hq;refine⟨_,col',h1,a0p _ _ _,a0x _ _ _ (by rw[hx];rfl),h2,h3,⟨_,h5,fun k hk=>⟨i,x,hi,hx,hk⟩⟩,fun k hk=>?_⟩
 obtain⟨j,y,hj,hy,hk⟩:=hk
 by_cases e:j=i
 ·subst e;rw[kz]at hy;injection hy with hy;subst hy;exact(h4 k hk).imp (fun h=>⟨j,x,hj,hx,h⟩) id
 ·rw[kN _ _ e]at hy;exact .inl ⟨j,y,hj,hy,hk⟩
theorem SG.upd2n {b:Nat}{Z:Nat->Option BQ}(h:SG B w st b now Z col)(hB:B<=w.heap.size){i j:Nat}(hi:i<8)(hj:j<8){x y:BQ}(hx:Z i=some x)(hy:Z j=some y)(hij:i≠j){V' VT':QV}{Q' T':QM}
  (hQ:QR w' x.qb V' Q')(hT:QR w' y.qb VT' T')(ht:Tch (qbl x.qb x.V++qbl y.qb y.V) w w')(hN:∀k∈qbl x.qb V',k∈qbl x.qb x.V)(hM:∀k∈qbl y.qb VT',k∈qbl y.qb y.V\/w.heap.size<=k):
  SGn B st b now w w' Z col (jI (jI (ctZ Z) i (some Q')) j (some T')):=by
 obtain⟨col',h1,h2,h3⟩:=h.upd2 hB hi hj hx hy hij hQ hT ht hN hM;refine⟨_,col',h1,?_,?_,h2,h3,⟨_,ht,fun k hk=>?_⟩,fun k hk=>?_⟩
 ·rw[a0p,a0p];rfl
 ·rw[a0x _ _ _ (by rw[kN _ _ (Ne.symm hij),hy];rfl),a0x _ _ _ (by rw[hx];rfl)]
 ·rcases List.mem_append.1 hk with hk|hk
  ·exact⟨i,x,hi,hx,hk⟩
  ·exact⟨j,y,hj,hy,hk⟩
 ·obtain⟨q,z,hq,hz,hk⟩:=hk
  by_cases e1:q=j
  ·subst e1;rw[kz]at hz;injection hz with hz;subst hz;exact(hM k hk).imp (fun h=>⟨q,y,hj,hy,h⟩) id
  ·rw[kN _ _ e1]at hz
   by_cases e2:q=i
   ·subst e2;rw[kz]at hz;injection hz with hz;subst hz;exact .inl ⟨q,x,hi,hx,hN k hk⟩
   ·rw[kN _ _ e2]at hz;exact .inl ⟨q,z,hq,hz,hk⟩
def xl (c:Wp.Rq):Option Nat:=if c.d=45 then none else some (c.d.toNat-97)
def qS (c:Nat->Option QM)(q:Wp.Rq):Option (Nat×QM):=(xl q).bind (fun j=>(c j).map (fun T=>(j,T)))
def qp (c:Nat->Option QM)(i:Nat)(num:Int):Nat->Option QM:=
 match c i with
 | none=>c
 | some Q=>match Q.ms.find? (isN num) with
  | none=>c
  | some m=>match qS c Q.c with
   | none=>jI c i (some (jW (jm Q num 0) m.grp))
   | some (j,T)=>if upQ Q.c m.rcv=true/\qY T (jZ m.grp (jm Q num 0).ms)=true then
     jI (jI c i (some {jm Q num 0 with ms:=(jm Q num 0).ms.filter (fun x=>!isG m.grp x)})) j (some (putL T ((jm Q num 0).ms.filter (isG m.grp))))
    else jI c i (some (jW (jm Q num 0) m.grp))
def a4m (i:Nat)(c:Wp.Rq):Prop:=c.d=45\/∃j,j<8/\j≠i/\c.d.toNat=97+j
def dvZ (Z:Nat->Option BQ)(c:Wp.Rq):Value:=jB ((xl c).bind (ptZ Z))
theorem zY {num:Int}{l:List Ms}{m:Ms}(h:l.find? (isN num)=some m):∃i:Nat,jj (isN num) l=(i:Int)/\∃hi:i<l.length,l[i]=m:=by
 have h0:0<=jj (isN num) l:=by
  by_cases h1:jj (isN num) l<0
  ·rw[a4J _ _ h1]at h;simp at h
  ·omega
 refine⟨(jj (isN num) l).toNat,(Int.toNat_of_nonneg h0).symm,?_⟩;obtain⟨hi,_,hf⟩:=qA (isN num) l _ (Int.toNat_of_nonneg h0).symm;rw[h]at hf;exact⟨hi,(Option.some.inj hf).symm⟩
theorem a6r (Q:QM)(num til:Int):(jm Q num til).ms.length=Q.ms.length:=by unfold jm;split<;>simp
theorem a1O (Q:QM)(num til:Int):(jm Q num til).c=Q.c:=by unfold jm;split<;>rfl
theorem a7R (B st b i:Nat)(now:Int)(Z:Nat->Option BQ)(col:Nat->Nat)(w:World)(h:SG B w st b now Z col)(hB:B<=w.heap.size)(hi:i<8)(x:BQ)(hx:Z i=some x)(num:Int)(m:Ms)(hm:x.Q.ms.find? (isN num)=some m)
  (hd:a4m i x.Q.c)(hb:∀j T,j<8->ctZ Z j=some T->T.ms.length<=100/\T.rs.length<=100/\T.next<=201):
  Cp 203 #[zp x.qb,.int .i64 num,dvZ Z x.Q.c] w fun e w'=>e=.returned (.tuple #[])/\SGn B st b now w w' Z col (qp (ctZ Z) i num):=by
 obtain⟨p,hp,hpl,hpm⟩:=zY hm;have hqx:=h.qr i x hi hx;have hcx:=vV hx;have hbx:=hb i x.Q hi hcx;have hbk:qp (ctZ Z) i num=match qS (ctZ Z) x.Q.c with
   | none=>jI (ctZ Z) i (some (jW (jm x.Q num 0) m.grp))
   | some (j,T)=>if upQ x.Q.c m.rcv=true/\qY T (jZ m.grp (jm x.Q num 0).ms)=true then
     jI (jI (ctZ Z) i (some {jm x.Q num 0 with ms:=(jm x.Q num 0).ms.filter (fun x=>!isG m.grp x)})) j (some (putL T ((jm x.Q num 0).ms.filter (isG m.grp))))
    else jI (ctZ Z) i (some (jW (jm x.Q num 0) m.grp)):=by
  unfold qp;rw[hcx];simp only[hm]
 have hrdy:∀w',QL w w' x.qb x.V (jW (jm x.Q num 0) x.Q.ms[p].grp)->SGn B st b now w w' Z col (jI (ctZ Z) i (some (jW (jm x.Q num 0) m.grp))):=fun w' hq=>by
  rw[hpm]at hq;exact h.updn hB hi hx hq
 rw[hbk];have hstay:qS (ctZ Z) x.Q.c=none->Cp 203 #[zp x.qb,.int .i64 num,.pointer none] w fun e w'=>e=.returned (.tuple #[])/\SGn B st b now w w' Z col (jI (ctZ Z) i (some (jW (jm x.Q num 0) m.grp))):=fun _=>
  a1r _ x.Q x.V x.qb num (.pointer none) w hqx (by omega) (by omega) p hp hpl (.inl rfl) (.inl ⟨.inr rfl,hrdy⟩)
 rcases hd with hd|⟨j,hj,hji,hd⟩
 ·have e1:xl x.Q.c=none:=if_pos hd;have e2:qS (ctZ Z) x.Q.c=none:=by unfold qS;rw[e1];rfl
  have e3:dvZ Z x.Q.c=.pointer none:=by unfold dvZ;rw[e1];rfl
  rw[e2,e3];exact hstay e2
 ·have hne:x.Q.c.d≠45:=fun e=>by rw[e]at hd;simp at hd;omega
  have e1:xl x.Q.c=some j:=by unfold xl;rw[if_neg hne,hd];congr 1;omega
  cases hz:Z j with
  | none=>
   have e2:qS (ctZ Z) x.Q.c=none:=by unfold qS ctZ;rw[e1];simp[hz]
   have e3:dvZ Z x.Q.c=.pointer none:=by unfold dvZ ptZ;rw[e1];simp[hz,jB]
   rw[e2,e3];exact hstay e2
  | some y=>
   have hcy:=vV hz;have e2:qS (ctZ Z) x.Q.c=some (j,y.Q):=by unfold qS;rw[e1];simp[hcy]
   have e3:dvZ Z x.Q.c=zp y.qb:=by unfold dvZ ptZ;rw[e1];simp[hz,jB]
   rw[e2,e3];have hqy:=h.qr j y hj hz;have hap:=h.dis hi hj hx hz (Ne.symm hji);have hby:=hb j y.Q hj hcy;have hcl:jZ m.grp (jm x.Q num 0).ms<=100:=by
    have h1:=zq m.grp (jm x.Q num 0).ms;rw[a6r]at h1;omega
   by_cases hu:upQ x.Q.c m.rcv=true
   ·refine a1r _ x.Q x.V x.qb num _ w hqx (by omega) (by omega) p hp hpl (.inr ⟨_,rfl⟩) (.inr ⟨y.qb,qY y.Q (jZ m.grp (jm x.Q num 0).ms),by rw[hpm];exact hu,rfl,fun W hW=>?_,?_⟩)
    ·rw[hpm];have hqw:=hqy.tch hW.tch (fun k hk hm=>hap k hm hk);exact a5M y.Q y.V y.qb _ W hqw (by omega) (by omega) (by omega)
    ·by_cases hr:qY y.Q (jZ m.grp (jm x.Q num 0).ms)=true
     ·rw[if_pos hr];intro W hW;rw[hpm];have hqw:=hqy.tch hW.tch (fun k hk hm=>hap k hm hk);have hroom:y.Q.next+jZ m.grp (jm x.Q num 0).ms<=201:=by
       unfold qY at hr;simp at hr;omega
      refine(b1P (jm x.Q num 0) y.Q x.V y.V x.qb y.qb m.grp W hW.qr hqw hap (by rw[a6r];omega) (by omega) (by omega) hroom).mono ?_;rintro e w' ⟨rfl,V',VT',h1,h2,h3,h4,h5⟩;refine⟨rfl,?_⟩;simp only[hu,hr,and_self,if_true];have hz0:=hW.tch.size;refine h.upd2n hB hi hj hx hz (Ne.symm hji) h1 h2 ((hW.tch.sub (fun k hk _=>List.mem_append.2 (.inl hk))).trans h3 (fun k hk _=>hk)) h4 (fun k hk=>?_);rcases h5 k hk with h6|h6
      ·exact .inl h6
      ·exact .inr (by omega)
     ·rw[if_neg hr];have:¬(upQ x.Q.c m.rcv=true/\qY y.Q (jZ m.grp (jm x.Q num 0).ms)=true):=fun hh=>hr hh.2
      simp only[this,if_false];exact hrdy
   ·have:¬(upQ x.Q.c m.rcv=true/\qY y.Q (jZ m.grp (jm x.Q num 0).ms)=true):=fun hh=>hu hh.1
    simp only[this,if_false];exact a1r _ x.Q x.V x.qb num _ w hqx (by omega) (by omega) p hp hpl (.inr ⟨_,rfl⟩) (.inl ⟨.inl (by rw[hpm];simpa using hu),hrdy⟩)
theorem a1f:(Tryz.prog.info? 234).map (fun i=>(i.zero,i.size,i.bytes))=some (some (.agg #[.string ⟨#[]⟩,.int .i64 0,.string ⟨#[]⟩]),3,40):=by kernel_rfl
def a7n (Q:QM)(a:At):QM:=if a.id.size=0 then Q else {Q with ats:=Q.ats++[a]}
abbrev atV (a:At):List Value:=[.string a.id,.int .i64 a.til,.string a.ans]
theorem a8A (Q:QM)(V:QV)(a:At)(qb:Nat)(w W:World)(ht:Tch [] w W)(h:QR W qb V Q)
  (v':Value)(w':World)(ho:w'.ownsRow 0 234 3 v' (Q.ats.length+1) (Q.ats.flatMap At.row++atV a))(hg:(W.drew.alloc (.cells (atV a).toArray 234)).grownBy w' V.a.ownBlock)(hb:v'.ownBlock=V.a.ownBlock\/v'.ownBlock=some (W.drew.alloc (.cells (atV a).toArray 234)).heap.size):
  ∃g4 cap4,v'=.slice (some ⟨g4,0,none⟩) (Q.ats.length+1) cap4/\w'.cell? ⟨qb,10,none⟩=some V.a/\w'.frozen? ⟨qb,10,none⟩=false/\(w'.setCell ⟨qb,10,none⟩ v').cell? ⟨qb,10,none⟩=some v'/\qb<w'.heap.size/\
   QL w (w'.setCell ⟨qb,10,none⟩ v') qb V {Q with ats:=Q.ats++[a]}:=by
 obtain⟨g4,cap4,hv⟩:=qB ho;have t1:Tch [] W (W.drew.alloc (.cells (atV a).toArray 234)):=(Tch.refl _ _).drew.alloc _;have t2:Tch (bl V.a) W w':=(t1.sub (by simp)).trans (kK hg) (fun x hx _=>hx);have f2:Fr 0 [234] W w':=Fr.of_tch t2 (Nat.zero_le _) (fun _ _=>Nat.zero_le _) (fun b hb' C t hC=>by
  by_cases e:234=t
  ·rw[<-e];decide
  ·exact absurd (jq.1 hb') (jA h.a hC e))
 have hq1:Qb w' qb Q.c (Q.next:Int) V.m V.r V.d V.a:=f2.keep _ _ _ h.blk (by decide);have hq2:=hq1.set10 v';have t3:Tch [qb] w' (w'.setCell ⟨qb,10,none⟩ v'):=(Tch.refl _ _).setCell (fun _=>by simp) _;have f3:Fr 0 [191] w' (w'.setCell ⟨qb,10,none⟩ v'):=Fr.one t3 (Nat.zero_le _) (Nat.zero_le _) hq1 (by decide);refine⟨g4,cap4,hv,jb hq1 10 _ rfl,hq1.fz 10,jb hq2 10 _ rfl,hq1.lt,⟨V.m,V.r,V.d,v'⟩,⟨hq2,f3.own (f2.own h.m (by decide)) (by decide),f3.own (f2.own h.r (by decide)) (by decide),f3.own (f2.own h.d (by decide)) (by decide),?_⟩,?_,fun b hb'=>?_⟩
 ·have h5:=f3.own ho (by decide);simpa [At.row,atV]using h5
 ·refine((ht.sub (S':=qbl qb V) (by simp)).trans t2 (fun x hx _=>ji.2 (.inr (.inr (.inr (.inr (jq.1 hx))))))).trans t3 (fun x hx _=>ji.2 (.inl (by simpa using hx)))
 ·rcases ji.1 hb' with e|e|e|e|e
  ·exact .inl (ji.2 (.inl e))
  ·exact .inl (ji.2 (.inr (.inl e)))
  ·exact .inl (ji.2 (.inr (.inr (.inl e))))
  ·exact .inl (ji.2 (.inr (.inr (.inr (.inl e)))))
  ·rcases hb with h0|h0
   ·exact .inl (ji.2 (.inr (.inr (.inr (.inr (h0.symm.trans e))))))
   ·right;have e':=e;rw[e']at h0;injection h0 with h0;have:=ht.size;have:=t1.size;omega
theorem a5d (Q:QM)(V:QV)(a:At)(qb:Nat)(w:World)(h:QR w qb V Q)(hn:Q.ats.length<20):
  Cp 215 #[zp qb,.agg #[.string a.id,.int .i64 a.til,.string a.ans]] w fun e w'=>e=.returned (.tuple #[])/\QL w w' qb V (a7n Q a):=by
 have HQ:=zH h
 by_cases hz:a.id.size=0
 ·have e0:a.id=⟨#[]⟩:=vR _ hz;have hr:Hid (a7n Q a=Q):=by show _=_;unfold a7n;rw[if_pos hz]
  rw[e0];clear h;go_enter Tryz.func215,Tryz.ntmps215;go_wp2_with fail;refine bodyPost_ret (results_none rfl _ _ _) rfl ⟨rfl,?_⟩;rw[hr.out];exact⟨V,HQ.out.tch ((Tch.refl [] w).alloc _) (by simp),((Tch.refl [] w).alloc _).sub (by simp),fun _ h=>.inl h⟩
 ·have hne:=a0h _ hz;have hr:Hid (a7n Q a={Q with ats:=Q.ats++[a]}):=by show _=_;unfold a7n;rw[if_neg hz]
  obtain⟨wa,hwa⟩:∃wa,wa=w.alloc (.cells #[.string a.id,.int .i64 a.til,.string a.ans] 234):=⟨_,rfl⟩;have ta:Tch [] w wa:=by rw[hwa];exact(Tch.refl [] w).alloc _
  have ha:=h.tch ta (by simp);have HWA:=zH ha;have hbx:wa.heap[w.heap.size]?=some (.cells #[.string a.id,.int .i64 a.til,.string a.ans] 234 (0,0)):=by rw[hwa];exact heap_alloc_new _ _
  have b0:wa.cell? ⟨w.heap.size,0,none⟩=some (.string a.id):=jb hbx 0 _ rfl;have b1:wa.cell? ⟨w.heap.size,1,none⟩=some (.int .i64 a.til):=jb hbx 1 _ rfl;have b2:wa.cell? ⟨w.heap.size,2,none⟩=some (.string a.ans):=jb hbx 2 _ rfl;have q10:wa.cell? ⟨qb,10,none⟩=some V.a:=jb ha.blk 10 _ rfl;have hlt:=ha.blk.lt;have HG:Hid (∀v' w',w'.ownsRow 0 234 3 v' (Q.ats.length+1) (Q.ats.flatMap At.row++atV a)->(wa.drew.alloc (.cells (atV a).toArray 234)).grownBy w' V.a.ownBlock->(v'.ownBlock=V.a.ownBlock\/v'.ownBlock=some (wa.drew.alloc (.cells (atV a).toArray 234)).heap.size)->_):=fun v' w'=>a8A Q V a qb w wa ta ha v' w'
  clear h ha ta hbx hz;go_enter Tryz.func215,Tryz.ntmps215;go_wp2_with fail;rw[<-hwa];clear hwa
  go_region_law (refine qu rfl (.tmp 11) (.tmp 13) 189 234 rfl Tryz.underlying189 (.agg #[.string ⟨#[]⟩,.int .i64 0,.string ⟨#[]⟩]) 3 40 a1f rfl (by decide) (by decide) V.a Q.ats.length (Q.ats.flatMap At.row) (by simp[Act.eval,Act.put]) (jf HWA.out.a ((Tch.refl [] _).drew.alloc _) (fun _ _=>by simp)) wa.heap.size (atV a) 1 (by simp[Act.eval,Act.put]) rfl (by decide) (heap_alloc_new _ _) (by intro u hu;simp at hu;rcases hu with rfl|rfl|rfl<;>rfl) (by omega) ?_;intro v' w9 ho3 hg3 hb3;obtain⟨g4,cap4,hv4,c9,z9,c10,l9,hfin⟩:=HG.out v' w9 ho3 hg3 hb3;subst hv4;clear ho3 hg3 hb3;have HFIN:Hid (QL _ _ _ _ _):=hfin;clear hfin)
  all_goals (go_wp2_with fail;go_end0;exact⟨rfl,by rw[hr.out];exact HFIN.out⟩)
theorem a0a (til:Int)(ms:List Ms)(zs:List Int)(z:Int):jP til ms (zs++[z])=zO til (jP til ms zs) z:=by
 simp[jP,List.foldl_append]
abbrev okL (l:List UInt8):ByteArray:=⟨(0::l).toArray⟩
theorem b8i:∀args w,(callFunc 218 args).run Tryz.prog w=.ok (.enter 218 args) w:=enters_of Tryz.func218 (by kernel_rfl) rfl
theorem Tab.tch (h:Tab w){S:List Nat}(ht:Tch S w w')(hS:∀k∈S,3<=k)(h3:3<=w.heap.size):Tab w':=h.below (B:=3) (ht.below hS h3) (by decide)
theorem Lays.tch (h:Lays B w){S:List Nat}(ht:Tch S w w')(hS:∀k∈S,B<=k)(hB:B<=w.heap.size):Lays B w':=h.below (ht.below hS hB)
end Go.Proofs.YtbdobaapadlcjaaGreatDoor
namespace Go.Proofs.YtbdobaapadlcjaaGreatDoor
open Go.Shelf Go.RowKit Go.Lib
end Go.Proofs.YtbdobaapadlcjaaGreatDoor
namespace Go.Proofs.YtbdobaapadlcjaaGreatDoor
open Go.RowKit
variable {B:Nat}{w w':World}
theorem b0e (K:World->Prop)(gs gl st:Nat)(now:Int)(w:World)(hgs:w.heap[gs]?=some (.cells #[zp st] 96 (0,0)))(hgl:w.heap[gl]?=some (.cells #[.int .i64 now] 3 (0,0)))
  (hS:Cp 221 #[zp st,.int .i64 now] w fun e w'=>e=.returned (.tuple #[])/\K w'):
  Cp 220 #[zp gs,zp gl] w fun e w'=>e=.returned (.tuple #[])/\K w':=by
 have c1:=cell_of_one hgs;have c2:=cell_of_one hgl;have HS:=zH hS;clear hS hgs hgl;go_enter Tryz.func220,Tryz.ntmps220;go_wp2_with (go_at_call 221;refine HS.out.mono ?_;rintro e w' ⟨rfl,hk⟩);go_end0;exact⟨rfl,by assumption⟩
theorem b8o:∀args w,(callFunc 212 args).run Tryz.prog w=.ok (.enter 212 args) w:=enters_of Tryz.func212 (by kernel_rfl) rfl
theorem xZ (Q:QM)(cnt k:Nat):0<(jQ Q cnt k).length:=by
 unfold jQ;rw[List.length_append,jc];omega
theorem vY {α:Type}(p:α->Bool):∀(l:List α) (j:Nat) (hj:j<l.length),p l[j]=true->(∀i (hi:i<j),p (l[i]'(by omega))=false)->jj p l=(j:Int)
 | x::l,0,hj,hp,hb=>by
  have hp':p x=true:=hp;simp[jj,hp']
 | x::l,j+1,hj,hp,hb=>by
  have h0:p x=false:=hb 0 (by omega);have ih:=vY p l j (by simpa using hj) hp (fun i hi=>hb (i+1) (by omega));simp only[jj,h0,Bool.false_eq_true,if_false,ih];rw[if_neg (by omega)];omega
structure Env (B:Nat)(w:World):Prop where
 lays:Lays B w
 tab:Tab w
 size:B<=w.heap.size
 three:3<=B
theorem Env.tch (h:Env B w){S:List Nat}(ht:Tch S w w')(hS:∀k∈S,B<=k):Env B w':=⟨Lays.tch h.lays ht hS h.size,h.tab.tch ht (fun k hk=>Nat.le_trans h.three (hS k hk)) (Nat.le_trans h.three h.size),Nat.le_trans h.size ht.size,h.three⟩
theorem Env.fr {T:List TypeId}(h:Env B w)(hf:Fr B T w w'):Env B w':=⟨h.lays.fr hf,h.tab.fr hf h.three,Nat.le_trans h.size hf.size,h.three⟩
end Go.Proofs.YtbdobaapadlcjaaGreatDoor
namespace Go.Proofs.YtbdobaapadlcjaaGreatDoor
open Go.RowKit Keep
theorem a2n {α:Type}(p:α->Bool)(l:List α):0<=jj p l↔∃x∈l,p x=true:=by
 constructor
 ·intro h
  by_cases hc:∃x∈l,p x=true
  ·exact hc
  ·have:jj p l<0:=(qq p l).2 (fun x hx=>by
    cases hp:p x with
    | false=>rfl
    | true=>exact absurd ⟨x,hx,hp⟩ hc)
   omega
 ·rintro ⟨x,hx,hp⟩
  by_cases hc:jj p l<0
  ·have:=(qq p l).1 hc x hx;rw[hp]at this
   cases this
  ·omega
theorem xk {w:World}{base t size n:Nat}{v:Value}{xs:List Value}(h:w.ownsRow base t size v n xs):∀k,v.ownBlock=some k->base<=k:=fun k hk=>by
 rcases h.2 with ⟨rfl,_⟩|⟨g,cap,cur,rfl,hb,hg,rest⟩
 ·simp[Value.ownBlock]at hk
 ·simp only[Value.ownBlock,Option.some.injEq]at hk;omega
theorem xz (base:Nat)(w:World){ops:Array Oper}{rest:List Oper}{o:Oper}{a:Act}{Q:Exit->Act->World->Prop}(hgd:o.guard=none)(s x:Operand)(t te:TypeId)
  (ho:o.op=.call {callee:=.builtin .append,args:=#[s,x],argTypes:=#[t,t]})(ht:Tryz.prog.underlying t=some (.slice te))(z:Value)(size bytes:Nat)
  (hinfo:(Tryz.prog.info? te).map (fun i=>(i.zero,i.size,i.bytes))=some (some z,size,bytes))(hzs:z.cells.size=size)(hsz:0<size)(hby:bytes<=100)
  (v:Value)(n:Nat)(xs:List Value)(hs:a.eval s=v)(hown:w.ownsRow base te size v n xs)(hbase:base<=w.heap.size)(g:Nat)(news:List Value)(m:Nat)(hx:a.eval x=.slice (some ⟨g,0,none⟩) m m)(hm:news.length=m*size)(hm0:0<m)(hg:w.heap[g]?=some (.cells news.toArray te (0,0)))(hone:∀u∈news,u.oneCell'=true)(hn:n+m<=1073741824)
  (h:∀v' w',w'.ownsRow base te size v' (n+m) (xs++news)->w.grownBy w' v.ownBlock->(v'.ownBlock=v.ownBlock\/v'.ownBlock=some w.heap.size)->wpList Tryz.prog ops Q rest (a.put o.dst v') w'):wpList Tryz.prog ops Q (o::rest) a w:=by
 obtain⟨i0,hi,hz0,hz1,hz2⟩:=info_parts hinfo;refine vS w hgd s x t ho base te i0 _ size bytes ht hi hz0 hz1 hz2 hzs hsz v n xs hs hown ⟨g,0,none⟩ m m news hx hm ?_ hone (by unfold maxLen;omega) ?_ hbase hm0 h
 ·intro j u hj;have e:(⟨g,0,none⟩:Addr).add j=⟨g,j,none⟩:=by unfold Addr.add;split<;>simp_all
  rw[e,cell_of_row w g j _ te (0,0) hg,<-hj];simp
 ·have h1:(n+m)*bytes<=1073741824*100:=Nat.mul_le_mul hn hby
  omega
theorem a2v {a b:ByteArray}(h:a.toList=b.toList):a=b:=ByteArray.ext (Array.toList_inj.1 (by rw[<-ByteArray.toList_eq,<-ByteArray.toList_eq];exact h))
theorem jY (g:ByteArray)(m:Ms):isG g m=true↔m.grp=g:=by
 unfold isG;rw[beq_iff_eq];exact⟨a2v,fun h=>by rw[h]⟩
theorem a9l (til:Int)(ms:List Ms)(z:Int):(zO til ms z).map Ms.grp=ms.map Ms.grp:=by
 unfold zO
 split
 ·rename_i m hm
  obtain⟨hl,hm⟩:=List.getElem?_eq_some_iff.1 hm;rw[List.map_set];apply List.ext_getElem (by simp);intro i h1 h2;rw[List.getElem_set]
  split
  ·rename_i e
   subst e;simp[a0c,hm]
  ·rfl
 ·rfl
theorem a6K (til:Int)(ms:List Ms)(zs:List Int):(jP til ms zs).map Ms.grp=ms.map Ms.grp:=by
 unfold jP
 induction zs generalizing ms with
 | nil=>rfl
 | cons z zs ih=>rw[List.foldl_cons,ih,a9l]
theorem a4I {α:Type}(p:α->Bool):∀(l:List α) (i:Nat),jj p l=(i:Int)->∃h:i<l.length,p l[i]=true
 | [],i,h=>by simp only[jj]at h;omega
 | x::l,i,h=>by
  simp only[jj]at h
  by_cases hx:p x=true
  ·rw[if_pos hx]at h;have:i=0:=by omega
   subst this;exact⟨by simp,hx⟩
  ·rw[if_neg hx]at h
   split at h
   ·omega
   ·obtain⟨j,rfl⟩:∃j,i=j+1:=⟨i-1,by omega⟩;obtain⟨hl,hp⟩:=a4I p l j (by omega);exact⟨by simp;omega,by simpa using hp⟩
end Go.Proofs.YtbdobaapadlcjaaGreatDoor
namespace Go.Proofs.YtbdobaapadlcjaaGreatDoor
open Go.RowKit
variable {l:List Ms}{m a b:Ms}{i:Nat}{Q:QM}
theorem qO (n:Int)(m:Ms):isN n m=true↔m.num=n:=by
 show (m.num == n)=true↔_
 rw[beq_iff_eq]
abbrev Ups (l:List Ms):Prop:=l.Pairwise (fun a b=>a.num<b.num)
theorem xG:∀(l:List Ms),Ups l->∀m∈l,l.find? (isN m.num)=some m
 | [],_,m,hm=>by simp at hm
 | a::r,hp,m,hm=>by
  rcases List.mem_cons.1 hm with rfl|hm
  ·simp[List.find?_cons]
  ·have h1:=(List.pairwise_cons.1 hp).1 m hm;have h2:isN m.num a=false:=by
    show (a.num == m.num)=false
    exact beq_eq_false_iff_ne.2 (by omega)
   rw[List.find?_cons,h2];exact xG r (List.pairwise_cons.1 hp).2 m hm
theorem vv {n:Int}(h:l.find? (isN n)=some m):m∈l/\m.num=n:=⟨List.mem_of_find?_eq_some h,(qO n m).1 (List.find?_some h)⟩
theorem vx (hp:Ups l){a b:Ms}(ha:a∈l)(hb:b∈l)(e:a.num=b.num):a=b:=by
 have h1:=xG l hp a ha;have h2:=xG l hp b hb;rw[e,h2]at h1;exact(Option.some.inj h1).symm
def kZ (num til:Int)(a:Ms):Ms:=if isN num a=true then {a with til:=til} else a
theorem qZ (num til:Int)(a:Ms):(kZ num til a).num=a.num:=by unfold kZ;split<;>rfl
theorem ki (num til:Int)(a:Ms):(kZ num til a).grp=a.grp:=by unfold kZ;split<;>rfl
theorem b3e (num til:Int)(a:Ms):(kZ num til a).bod=a.bod:=by unfold kZ;split<;>rfl
theorem b3f (num til:Int)(a:Ms):(kZ num til a).rcv=a.rcv:=by unfold kZ;split<;>rfl
theorem xf (num til:Int)(a:Ms):(kZ num til a).til=if a.num=num then til else a.til:=by
 unfold kZ
 by_cases h:a.num=num
 ·rw[if_pos ((qO num a).2 h),if_pos h]
 ·rw[if_neg (fun e=>h ((qO num a).1 e)),if_neg h]
theorem a8C (num til:Int):∀(l:List Ms) (m:Ms),Ups l->l.find? (isN num)=some m->l.set (jj (isN num) l).toNat {m with til:=til}=l.map (kZ num til)
 | [],m,_,hf=>by simp at hf
 | a::r,m,hp,hf=>by
  obtain⟨h1,h2⟩:=List.pairwise_cons.1 hp
  by_cases ha:isN num a=true
  ·rw[List.find?_cons,ha]at hf;injection hf with hf;subst hf;have e:jj (isN num) (a::r)=0:=by unfold jj;rw[if_pos ha]
   rw[e,List.map_cons];have e2:r.map (kZ num til)=r:=by
    rw[List.map_congr_left (g:=id) (fun x hx=>?_),List.map_id];have:=h1 x hx;have:=(qO num a).1 ha;exact if_neg (fun e=>by have:=(qO num x).1 e;omega)
   rw[e2]
   show {a with til:=til}::r=_
   unfold kZ;rw[if_pos ha]
  ·have ha':isN num a=false:=by simpa using ha
   rw[List.find?_cons,ha']at hf;have ih:=a8C num til r m h2 hf;obtain⟨p,hp1,hp2,_⟩:=zY hf;have e:jj (isN num) (a::r)=((p+1:Nat):Int):=by
    unfold jj;rw[if_neg ha,hp1,if_neg (by omega)];omega
   rw[e,List.map_cons];rw[hp1]at ih
   show (a::r).set (p+1) _=_
   rw[List.set_cons_succ];have e3:kZ num til a=a:=by unfold kZ;rw[if_neg ha]
   rw[e3];congr 1
theorem a0B (Q:QM)(h:Ups Q.ms)(num til:Int):(jm Q num til).ms=Q.ms.map (kZ num til):=by
 unfold jm
 cases hf:Q.ms.find? (isN num) with
 | none=>
  have h1:=List.find?_eq_none.1 hf
  show Q.ms=_
  rw[List.map_congr_left (g:=id) (fun x hx=>?_),List.map_id];exact if_neg (h1 x hx)
 | some m=>exact a8C num til Q.ms m h hf
theorem zu (num:Int):∀(l:List Ms) (m:Ms),Ups l->l.find? (isN num)=some m->l.eraseIdx (jj (isN num) l).toNat=l.filter (fun a=>!isN num a)
 | [],m,_,hf=>by simp at hf
 | a::r,m,hp,hf=>by
  obtain⟨h1,h2⟩:=List.pairwise_cons.1 hp
  by_cases ha:isN num a=true
  ·have e:jj (isN num) (a::r)=0:=by unfold jj;rw[if_pos ha]
   have e2:r.filter (fun a=>!isN num a)=r:=by
    rw[List.filter_eq_self];intro x hx;have:=h1 x hx;have:=(qO num a).1 ha;have h3:isN num x=false:=by
     show (x.num == num)=false
     exact beq_eq_false_iff_ne.2 (by omega)
    rw[h3];rfl
   rw[e,List.filter_cons,ha,e2];rfl
  ·have ha':isN num a=false:=by simpa using ha
   rw[List.find?_cons,ha']at hf;have ih:=zu num r m h2 hf;obtain⟨p,hp1,hp2,_⟩:=zY hf;have e:jj (isN num) (a::r)=((p+1:Nat):Int):=by
    unfold jj;rw[if_neg ha,hp1,if_neg (by omega)];omega
   rw[hp1]at ih;rw[e,List.filter_cons,ha',<-ih];rfl
theorem a0C (h:Ups l)(f:Ms->Ms)(hf:∀a,(f a).num=a.num):Ups (l.map f):=by
 rw[Ups,List.pairwise_map];exact h.imp (fun {a b} hab=>by rw[hf,hf];exact hab)
theorem zG (h:Ups l)(p:Ms->Bool):Ups (l.filter p):=List.Pairwise.sublist List.filter_sublist h
structure MsG (nx:Nat)(m:Ms):Prop where
 num:1<=m.num/\m.num<(nx:Int)
 grp:1<=m.grp.size/\m.grp.size<=8
 bod:m.bod.size<=40
 rcv:0<=m.rcv/\m.rcv<=65535
 til:0<=m.til/\m.til<=61000
theorem MsG.mono {nx nx':Nat}(h:MsG nx m)(hn:nx<=nx'):MsG nx' m:=⟨⟨h.num.1,by have:=h.num.2;omega⟩,h.grp,h.bod,h.rcv,h.til⟩
structure CfW (i:Nat)(c:Wp.Rq):Prop where
 q:c.q.toNat=97+i
 d:a4m i c
 vis:1<=c.vis/\c.vis<=1000
 win:0<=c.win/\c.win<=1000
 rcv:0<=c.rcv/\c.rcv<=9
 quo:1<=c.quo/\c.quo<=50
structure QW (i:Nat)(Q:QM):Prop where
 c:CfW i Q.c
 nx:1<=Q.next/\Q.next<=201
 mq:(Q.ms.length:Int)<=Q.c.quo
 nums:Ups Q.ms
 mok:∀m∈Q.ms,MsG Q.next m
 hd:∀m∈Q.ms,0<m.til->∀m'∈Q.ms,m'.grp=m.grp->m.num<=m'.num
 rn:Q.rs.Nodup
 rr:∀g,g∈Q.rs↔(∃m∈Q.ms,m.grp=g)/\∀m∈Q.ms,m.grp=g->m.til=0
 dn:Q.ds.Pairwise (fun a b=>a.num<b.num)
 dok:∀d∈Q.ds,d.id.size<=8/\(1<=d.num/\d.num<(Q.next:Int))/\0<=d.til/\d.til<=62000
 al:Q.ats.length<=20
 aok:∀a∈Q.ats,(1<=a.id.size/\a.id.size<=8)/\(0<a.ans.size/\a.ans.size<=600)/\0<=a.til/\a.til<=62000
theorem QW.ml (h:QW i Q):Q.ms.length<=50:=by have:=h.mq;have:=h.c.quo;omega
theorem a3W {α β:Type} [DecidableEq β] (f:α->β):∀(r:List β) (l:List α),r.Nodup->(∀g∈r,∃m∈l,f m=g)->r.length<=l.length
 | [],l,_,_=>by simp
 | g::r,l,hn,h=>by
  obtain⟨m,hm,hg⟩:=h g List.mem_cons_self;obtain⟨h1,h2⟩:=List.nodup_cons.1 hn;have h3:=a3W f r (l.filter (fun x=>decide (f x≠g))) h2 (fun g' hg'=>by
   obtain⟨m',hm',he⟩:=h g' (List.mem_cons_of_mem _ hg');refine⟨m',List.mem_filter.2 ⟨hm',?_⟩,he⟩;rw[he];simp;intro e;rw[e]at hg';exact h1 hg')
  have h4:(l.filter (fun x=>decide (f x≠g))).length<l.length:=by
   have h5:=List.length_filter_lt_length_iff_exists (p:=fun x=>decide (f x≠g)) (l:=l);exact h5.2 ⟨m,hm,by simp[hg]⟩
  rw[List.length_cons];omega
theorem QW.rl (h:QW i Q):Q.rs.length<=Q.ms.length:=a3W Ms.grp Q.rs Q.ms h.rn (fun g hg=>((h.rr g).1 hg).1)
theorem a8I:∀(l:List Dd) (a b:Int),l.Pairwise (fun x y=>x.num<y.num)->(∀d∈l,a<=d.num/\d.num<b)->a<=b->(l.length:Int)<=b-a
 | [],a,b,_,_,h=>by simp;omega
 | d::r,a,b,hp,h,hab=>by
  obtain⟨h1,h2⟩:=List.pairwise_cons.1 hp;have h3:=h d List.mem_cons_self;have h4:=a8I r (d.num+1) b h2 (fun x hx=>⟨by have:=h1 x hx;omega,(h x (List.mem_cons_of_mem _ hx)).2⟩) (by omega);rw[List.length_cons];omega
theorem QW.dl (h:QW i Q):Q.ds.length<=200:=by
 have h1:=a8I Q.ds 1 (Q.next:Int) h.dn (fun d hd=>(h.dok d hd).2.1) (by have:=h.nx.1;omega);have:=h.nx;omega
theorem QW.rsz (h:QW i Q):∀g∈Q.rs,g.size<=8:=fun g hg=>by
 obtain⟨m,hm,he⟩:=((h.rr g).1 hg).1;rw[<-he];exact(h.mok m hm).grp.2
theorem QW.ok (h:QW i Q):QOk Q where
 c:=⟨⟨by have:=h.c.vis;omega,by have:=h.c.vis;omega⟩,⟨by have:=h.c.win;omega,by have:=h.c.win;omega⟩,⟨by have:=h.c.rcv;omega,by have:=h.c.rcv;omega⟩,⟨by have:=h.c.quo;omega,by have:=h.c.quo;omega⟩⟩
 nx:=by have:=h.nx;omega
 ml:=h.ml
 ms:=fun m hm=>by
  have h1:=h.mok m hm;have h2:=h1.num;have h3:=h1.rcv;have h4:=h1.til;have h5:=h.nx;exact⟨⟨by omega,by omega⟩,⟨by omega,by omega⟩,⟨by omega,by omega⟩,h1.grp.2,h1.bod⟩
 rl:=Nat.le_trans h.rl h.ml
 rs:=h.rsz
 dl:=h.dl
 ds:=fun d hd=>by
  have h1:=h.dok d hd;have h5:=h.nx;exact⟨h1.1,⟨by omega,by omega⟩,⟨by omega,by omega⟩⟩
 al:=h.al
 ats:=fun a ha=>by
  have h1:=h.aok a ha;exact⟨h1.1.2,⟨by omega,by omega⟩,h1.2.1.2⟩
theorem QW.one (h:QW i Q){a b:Ms}(ha:a∈Q.ms)(hb:b∈Q.ms)(ta:0<a.til)(tb:0<b.til)(e:a.grp=b.grp):a=b:=
 vx h.nums ha hb (by have h1:=h.hd a ha ta b hb e.symm;have h2:=h.hd b hb tb a ha e;omega)
end Go.Proofs.YtbdobaapadlcjaaGreatDoor
