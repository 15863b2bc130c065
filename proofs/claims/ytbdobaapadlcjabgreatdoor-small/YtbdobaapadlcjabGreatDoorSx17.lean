import Derived.Test.YtbdobaapadlcjabGreatDoorSx16
set_option maxHeartbeats 2000000
set_option linter.unusedVariables false
set_option linter.unusedSimpArgs false
namespace Go.Proofs.YtbdobaapadlcjabGreatDoor
open Go.RowKit
variable {w:World}{qb:Nat}{V:QV}{Q:QM}
def msB (m:Ms):List UInt8:=(((lowB m.num.toNat 4++txtB m.grp)++txtB m.bod)++lowB m.rcv.toNat 2)++lowB m.til.toNat 4
structure MsW (m:Ms):Prop where
 num:inN m.num
 rcv:inN m.rcv
 til:inN m.til
 grp:m.grp.size<=8
 bod:m.bod.size<=40
theorem msB_len (m:Ms):(msB m).length=12+m.grp.size+m.bod.size:=by simp only[msB,List.length_append,lowB_length,txtB_length];omega
def ddB (m:Dd):List UInt8:=(txtB m.id++lowB m.num.toNat 4)++lowB m.til.toNat 4
structure DdW (m:Dd):Prop where
 id:m.id.size<=8
 num:inN m.num
 til:inN m.til
theorem ddB_len (m:Dd):(ddB m).length=9+m.id.size:=by simp only[ddB,List.length_append,lowB_length,txtB_length];omega
def atB (m:At):List UInt8:=((txtB m.id++lowB m.til.toNat 4)++lowB m.ans.size 2)++m.ans.data.toList
structure AtW (m:At):Prop where
 id:m.id.size<=8
 til:inN m.til
 ans:m.ans.size<=600
theorem atB_len (m:At):(atB m).length=7+m.id.size+m.ans.size:=by
 simp only[atB,List.length_append,lowB_length,txtB_length];have:m.ans.data.toList.length=m.ans.size:=rfl;omega
theorem flt_len {α:Type}(f:α->List UInt8)(b:Nat)(l:List α)(h:∀x∈l,(f x).length<=b):(l.flatMap f).length<=b*l.length:=by
 induction l with
 | nil=>simp
 | cons x r ih=>
  have h1:=ih (fun s hs=>h s (List.mem_cons_of_mem _ hs));have h2:=h x List.mem_cons_self;rw[List.flatMap_cons,List.length_append,List.length_cons,Nat.mul_add];omega
theorem flt_succ {α:Type}(f:α->List UInt8)(L:List UInt8)(l:List α)(k:Nat)(h:k<l.length):L++(l.take (k+1)).flatMap f=(L++(l.take k).flatMap f)++f l[k]:=by
 rw[List.take_succ_eq_append_getElem h,List.flatMap_append,List.flatMap_singleton,<-List.append_assoc]
theorem QR.dsc (h:QR w qb V Q)(i:Nat)(hi:i<Q.ds.length):∃g c,V.d=.slice (some ⟨g,0,none⟩) Q.ds.length c/\g<w.heap.size/\∀j u,(Q.ds[i].row)[j]?=some u->w.cell? ⟨g,i*3+j,none⟩=some u:=by
 have inh:Inhabited Dd:=⟨⟨⟨#[]⟩,0,0⟩⟩;obtain⟨g,c,hv⟩:∃g c,V.d=.slice (some ⟨g,0,none⟩) Q.ds.length c:=by
  rcases h.d.2 with ⟨h0,h1⟩|⟨g,cap,cur,h0,_⟩
  ·omega
  ·exact⟨_,_,h0⟩
 have hm:=h.d;rw[hv]at hm;have hc:∀j u,(Q.ds[i].row)[j]?=some u->w.cell? ⟨g,i*3+j,none⟩=some u:=fun j u hj=>by
  have h1:=own_cells Dd.row 3 (fun _=>rfl) hm i hi j u (by rw[List.getElem!_eq_getElem?_getD,List.getElem?_eq_getElem hi];exact hj);simpa using h1
 exact⟨g,c,hv,World.block_lt_of_cell? _ _ (hc 0 _ rfl),hc⟩
theorem QR.asc (h:QR w qb V Q)(i:Nat)(hi:i<Q.ats.length):∃g c,V.a=.slice (some ⟨g,0,none⟩) Q.ats.length c/\g<w.heap.size/\∀j u,(Q.ats[i].row)[j]?=some u->w.cell? ⟨g,i*3+j,none⟩=some u:=by
 have inh:Inhabited At:=⟨⟨⟨#[]⟩,0,⟨#[]⟩⟩⟩;obtain⟨g,c,hv⟩:∃g c,V.a=.slice (some ⟨g,0,none⟩) Q.ats.length c:=by
  rcases h.a.2 with ⟨h0,h1⟩|⟨g,cap,cur,h0,_⟩
  ·omega
  ·exact⟨_,_,h0⟩
 have hm:=h.a;rw[hv]at hm;have hc:∀j u,(Q.ats[i].row)[j]?=some u->w.cell? ⟨g,i*3+j,none⟩=some u:=fun j u hj=>by
  have h1:=own_cells At.row 3 (fun _=>rfl) hm i hi j u (by rw[List.getElem!_eq_getElem?_getD,List.getElem?_eq_getElem hi];exact hj);simpa using h1
 exact⟨g,c,hv,World.block_lt_of_cell? _ _ (hc 0 _ rfl),hc⟩
theorem appMs_any (base:Nat)(v:Value)(l:List UInt8)(Q:QM)(V:QV)(qb:Nat)(w:World)(h:QR w qb V Q)(hlo:∀b∈qbl qb V,b<base)(hn:Q.ms.length<=1000)(hW:∀m∈Q.ms,MsW m)(hl:l.length<=1000000000)(hb:base<=w.heap.size)(hown:OwnB w base v l):
  Calls Tryz.prog 96 #[.pointer (some ⟨qb,0,none⟩),v] w fun e w'=>∃v',e=.returned v'/\OwnB w' base v' (l++(lowB Q.ms.length 1++Q.ms.flatMap msB))/\BF base w w':=by
 obtain⟨i0,hi,hz0,hz1,hz2⟩:=info_parts info5;have HQ:Hid (∀W,BF base w W->QR W qb V Q):=fun W hW=>h.below hlo hW.1
 have lqb:=hlo qb (by simp[qbl]);obtain⟨am,cm,hvm⟩:=own_shape h.m;have HV:=zH hvm;have c7:w.cell? ⟨qb,7,none⟩=some (.slice am Q.ms.length cm):=by rw[<-hvm];exact cell_qC h.blk 7 _ rfl
 have H1:Hid (Calls Tryz.prog 46 #[v,.int .i64 (Q.ms.length:Int),.int .i64 1] w fun e w'=>∃v',e=.returned v'/\OwnB w' base v' (l++lowB Q.ms.length 1)/\Below base w w'/\Fr 0 [5] w w'):=appendNumber_f base v l Q.ms.length 1 w (by omega) (by decide) (by omega) hb hown;have HW:=zH hW;clear h hown hW hvm;go_enter Tryz.func96,Tryz.ntmps96;go_wp2_with fail;refine H1.out.mono ?_;rintro e w1 ⟨v1,rfl,ho1,hb1,hf1⟩;have q1:=HQ.out w1 ⟨hb1,hf1⟩;have z1:=hb1.size;have d7:w1.cell? ⟨qb,7,none⟩=some (.slice am Q.ms.length cm):=by rw[<-HV.out];exact cell_qC q1.blk 7 _ rfl
 have HLE:Hid ((l++lowB Q.ms.length 1).length<=1000000010):=by show _<=_;rw[List.length_append,lowB_length];omega
 have HLS:Hid (l++(lowB Q.ms.length 1++Q.ms.flatMap msB)=(l++lowB Q.ms.length 1)++Q.ms.flatMap msB):=by show _=_;rw[List.append_assoc]
 generalize l++lowB Q.ms.length 1=L at ho1 HLE HLS;have HO1:=zH ho1;have HB1:Hid (BF base w w1):=⟨hb1,hf1⟩;clear ho1 hb1 hf1 q1 c7 H1;go_wp2_with fail
 go_loopw [1,19] (fun o i wr=>∃k:Nat,k<=Q.ms.length/\i=.int .i64 (k:Int)/\OwnB wr base o (L++(Q.ms.take k).flatMap msB)/\BF base w wr) (fun _ i _=>Q.ms.length-(intOf i).toNat)
 case atStart=>exact⟨0,Nat.zero_le _,rfl,by simpa using HO1.out,HB1.out⟩
 case round=>
  obtain⟨k,hk,rfl,ho,hbr⟩:=hrel
  by_cases hlt:k<Q.ms.length
  ·have hq:=HQ.out wr hbr;obtain⟨g,c,hv,hg,hc⟩:=hq.msc k hlt;rw[HV.out]at hv;simp only[Value.slice.injEq,true_and]at hv;obtain⟨rfl,rfl⟩:=hv;have hw:=HW.out _ (List.getElem_mem hlt);have hle:(L++(Q.ms.take k).flatMap msB).length<=1100000000:=by
    rw[List.length_append];have h1:=flt_len msB 60 (Q.ms.take k) (fun m hm=>by have h2:=HW.out m (List.mem_of_mem_take hm);rw[msB_len];have:=h2.grp;have:=h2.bod;omega);have h2:=HLE.out;rw[List.length_take]at h1;have h3:60*min k Q.ms.length<=60*1000:=Nat.mul_le_mul_left _ (by omega);omega
   have HS:=zH (flt_succ msB L Q.ms k hlt);obtain⟨L2,HG2⟩:∃L2,Hid (L++(Q.ms.take (k+1)).flatMap msB=L2):=⟨_,rfl⟩;rw[HG2.out]at HS;generalize L++(Q.ms.take k).flatMap msB=L1 at HS ho hle;generalize Q.ms[k]=m at*
   have g0:wr.cell? ⟨g,k*5,none⟩=some (.int .i64 m.num):=hc 0 _ rfl;have g1:wr.cell? ⟨g,k*5+1,none⟩=some (.string m.grp):=hc 1 _ rfl;have g2:wr.cell? ⟨g,k*5+2,none⟩=some (.string m.bod):=hc 2 _ rfl;have g3:wr.cell? ⟨g,k*5+3,none⟩=some (.int .i64 m.rcv):=hc 3 _ rfl;have g4:wr.cell? ⟨g,k*5+4,none⟩=some (.int .i64 m.til):=hc 4 _ rfl;have zr:=hbr.size;have HBR:Hid (BF base w (wr.alloc (.cells #[.int .i64 m.num,.string m.grp,.string m.bod,.int .i64 m.rcv,.int .i64 m.til] 191))):=hbr.alloc (by omega) _;have HX0:Hid ((wr.alloc (.cells #[.int .i64 m.num,.string m.grp,.string m.bod,.int .i64 m.rcv,.int .i64 m.til] 191)).heap[wr.heap.size]?=some (.cells #[.int .i64 m.num,.string m.grp,.string m.bod,.int .i64 m.rcv,.int .i64 m.til] 191 (0,0))):=heap_alloc_new _ _;have HO0:Hid (OwnB (wr.alloc (.cells #[.int .i64 m.num,.string m.grp,.string m.bod,.int .i64 m.rcv,.int .i64 m.til] 191)) base u1 L1):=World.ownsRow.alloc ho _;have hsz0:(wr.alloc (.cells #[.int .i64 m.num,.string m.grp,.string m.bod,.int .i64 m.rcv,.int .i64 m.til] 191)).heap.size=wr.heap.size+1:=World.size_alloc _ _;clear hc hq ho hbr;have H1c:Hid (Calls Tryz.prog 46 #[u1,.int .i64 m.num,.int .i64 4] (wr.alloc (.cells #[.int .i64 m.num,.string m.grp,.string m.bod,.int .i64 m.rcv,.int .i64 m.til] 191)) fun e w'=>∃v',e=.returned v'/\OwnB w' base v' (L1++lowB m.num.toNat 4)/\Below base (wr.alloc (.cells #[.int .i64 m.num,.string m.grp,.string m.bod,.int .i64 m.rcv,.int .i64 m.til] 191)) w'/\Fr 0 [5] (wr.alloc (.cells #[.int .i64 m.num,.string m.grp,.string m.bod,.int .i64 m.rcv,.int .i64 m.til] 191)) w'):=appendInt_f base u1 L1 m.num 4 (wr.alloc (.cells #[.int .i64 m.num,.string m.grp,.string m.bod,.int .i64 m.rcv,.int .i64 m.til] 191)) hw.num (by decide) (by omega) (by omega) HO0.out;go_wp2_with fail;refine H1c.out.mono ?_;rintro e y1 ⟨t1,rfl,ho,hb,hf⟩;have HX1:Hid (y1.heap[wr.heap.size]?=some (.cells #[.int .i64 m.num,.string m.grp,.string m.bod,.int .i64 m.rcv,.int .i64 m.til] 191 (0,0))):=hf.keep _ _ _ HX0.out (by decide);have HB1y:=zH (HBR.out.trans ⟨hb,hf⟩);have zy1:=hb.size;have hle1:(L1++lowB m.num.toNat 4).length<=1100070000:=by rw[List.length_append,lowB_length];omega
   have HEE1:∃A,Hid (A=L1++lowB m.num.toNat 4):=⟨_,rfl⟩;obtain⟨A1,HA1⟩:=HEE1;rw[<-HA1.out]at ho hle1;have HO1y:=zH ho;clear ho hb hf H1c;have f2:y1.cell? ⟨wr.heap.size,1,none⟩=some (.string m.grp):=cell_qC HX1.out 1 _ rfl;have H2c:=zH (appendText_f base t1 A1 m.grp y1 (by have:=hw.grp;omega) (by omega) (by omega) HO1y.out);go_wp2_with fail;refine H2c.out.mono ?_;rintro e y2 ⟨t2,rfl,ho,hb,hf⟩;have HX2:Hid (y2.heap[wr.heap.size]?=some (.cells #[.int .i64 m.num,.string m.grp,.string m.bod,.int .i64 m.rcv,.int .i64 m.til] 191 (0,0))):=hf.keep _ _ _ HX1.out (by decide);have HB2y:=zH (HB1y.out.trans ⟨hb,hf⟩);have hle2:(A1++txtB m.grp).length<=1100140000:=by rw[List.length_append,txtB_length];have:=hw.grp;omega
   have HEE2:∃A,Hid (A=A1++txtB m.grp):=⟨_,rfl⟩;obtain⟨A2,HA2⟩:=HEE2;rw[<-HA2.out]at ho hle2;have HO2y:=zH ho;clear ho hb hf H2c f2;have f3:y2.cell? ⟨wr.heap.size,2,none⟩=some (.string m.bod):=cell_qC HX2.out 2 _ rfl;have lx3:wr.heap.size<y2.heap.size:=lt_of_block HX2.out;have H3c:=zH (appendText_f base t2 A2 m.bod y2 (by have:=hw.bod;omega) (by omega) (by omega) HO2y.out);go_wp2_with fail;refine H3c.out.mono ?_;rintro e y3 ⟨t3,rfl,ho,hb,hf⟩;have HX3:Hid (y3.heap[wr.heap.size]?=some (.cells #[.int .i64 m.num,.string m.grp,.string m.bod,.int .i64 m.rcv,.int .i64 m.til] 191 (0,0))):=hf.keep _ _ _ HX2.out (by decide);have HB3y:=zH (HB2y.out.trans ⟨hb,hf⟩);have hle3:(A2++txtB m.bod).length<=1100210000:=by rw[List.length_append,txtB_length];have:=hw.bod;omega
   have HEE3:∃A,Hid (A=A2++txtB m.bod):=⟨_,rfl⟩;obtain⟨A3,HA3⟩:=HEE3;rw[<-HA3.out]at ho hle3;have HO3y:=zH ho;clear ho hb hf H3c f3 lx3;have f4:y3.cell? ⟨wr.heap.size,3,none⟩=some (.int .i64 m.rcv):=cell_qC HX3.out 3 _ rfl;have lx4:wr.heap.size<y3.heap.size:=lt_of_block HX3.out;have H4c:Hid (Calls Tryz.prog 46 #[t3,.int .i64 m.rcv,.int .i64 2] y3 fun e w'=>∃v',e=.returned v'/\OwnB w' base v' (A3++lowB m.rcv.toNat 2)/\Below base y3 w'/\Fr 0 [5] y3 w'):=appendInt_f base t3 A3 m.rcv 2 y3 hw.rcv (by decide) (by omega) (by omega) HO3y.out;go_wp2_with fail;refine H4c.out.mono ?_;rintro e y4 ⟨t4,rfl,ho,hb,hf⟩;have HX4:Hid (y4.heap[wr.heap.size]?=some (.cells #[.int .i64 m.num,.string m.grp,.string m.bod,.int .i64 m.rcv,.int .i64 m.til] 191 (0,0))):=hf.keep _ _ _ HX3.out (by decide);have HB4y:=zH (HB3y.out.trans ⟨hb,hf⟩);have hle4:(A3++lowB m.rcv.toNat 2).length<=1100280000:=by rw[List.length_append,lowB_length];omega
   have HEE4:∃A,Hid (A=A3++lowB m.rcv.toNat 2):=⟨_,rfl⟩;obtain⟨A4,HA4⟩:=HEE4;rw[<-HA4.out]at ho hle4;have HO4y:=zH ho;clear ho hb hf H4c f4 lx4;have f5:y4.cell? ⟨wr.heap.size,4,none⟩=some (.int .i64 m.til):=cell_qC HX4.out 4 _ rfl;have lx5:wr.heap.size<y4.heap.size:=lt_of_block HX4.out;have H5c:Hid (Calls Tryz.prog 46 #[t4,.int .i64 m.til,.int .i64 4] y4 fun e w'=>∃v',e=.returned v'/\OwnB w' base v' (A4++lowB m.til.toNat 4)/\Below base y4 w'/\Fr 0 [5] y4 w'):=appendInt_f base t4 A4 m.til 4 y4 hw.til (by decide) (by omega) (by omega) HO4y.out;go_wp2_with fail;refine H5c.out.mono ?_;rintro e y5 ⟨t5,rfl,ho,hb,hf⟩;have HB5y:=zH (HB4y.out.trans ⟨hb,hf⟩);have hle5:(A4++lowB m.til.toNat 4).length<=1100350000:=by rw[List.length_append,lowB_length];omega
   have HEE5:∃A,Hid (A=A4++lowB m.til.toNat 4):=⟨_,rfl⟩;obtain⟨A5,HA5⟩:=HEE5;rw[<-HA5.out]at ho hle5;have HO5y:=zH ho;clear ho hb hf H5c f5 lx5;have HF:Hid (OwnB y5 base t5 L2):=by
    have e:L2=A5:=by rw[HS.out,HA5.out,HA4.out,HA3.out,HA2.out,HA1.out];simp[msB]
    rw[e];exact HO5y.out
   go_wp2_with fail;go_roundw
   case rel=>exact⟨k+1,by omega,by go_num,by rw[HG2.out];exact HF.out,HB5y.out⟩
   case measure=>simp[intOf];omega
  ·have he:Q.ms.take k=Q.ms:=List.take_of_length_le (by omega);rw[he,<-HLS.out]at ho;have HO2:=zH ho;have HBR:=zH hbr;clear he ho hbr;go_wp2_with fail;go_ret;exact⟨_,rfl,HO2.out,HBR.out⟩
theorem appDs_any (base:Nat)(v:Value)(l:List UInt8)(Q:QM)(V:QV)(qb:Nat)(w:World)(h:QR w qb V Q)(hlo:∀b∈qbl qb V,b<base)(hn:Q.ds.length<=1000)(hW:∀m∈Q.ds,DdW m)(hl:l.length<=1000000000)(hb:base<=w.heap.size)(hown:OwnB w base v l):
  Calls Tryz.prog 97 #[.pointer (some ⟨qb,0,none⟩),v] w fun e w'=>∃v',e=.returned v'/\OwnB w' base v' (l++(lowB Q.ds.length 1++Q.ds.flatMap ddB))/\BF base w w':=by
 obtain⟨i0,hi,hz0,hz1,hz2⟩:=info_parts info5;have HQ:Hid (∀W,BF base w W->QR W qb V Q):=fun W hW=>h.below hlo hW.1
 have lqb:=hlo qb (by simp[qbl]);obtain⟨am,cm,hvm⟩:=own_shape h.d;have HV:=zH hvm;have c7:w.cell? ⟨qb,9,none⟩=some (.slice am Q.ds.length cm):=by rw[<-hvm];exact cell_qC h.blk 9 _ rfl
 have H1:Hid (Calls Tryz.prog 46 #[v,.int .i64 (Q.ds.length:Int),.int .i64 1] w fun e w'=>∃v',e=.returned v'/\OwnB w' base v' (l++lowB Q.ds.length 1)/\Below base w w'/\Fr 0 [5] w w'):=appendNumber_f base v l Q.ds.length 1 w (by omega) (by decide) (by omega) hb hown;have HW:=zH hW;clear h hown hW hvm;go_enter Tryz.func97,Tryz.ntmps97;go_wp2_with fail;refine H1.out.mono ?_;rintro e w1 ⟨v1,rfl,ho1,hb1,hf1⟩;have q1:=HQ.out w1 ⟨hb1,hf1⟩;have z1:=hb1.size;have d7:w1.cell? ⟨qb,9,none⟩=some (.slice am Q.ds.length cm):=by rw[<-HV.out];exact cell_qC q1.blk 9 _ rfl
 have HLE:Hid ((l++lowB Q.ds.length 1).length<=1000000010):=by show _<=_;rw[List.length_append,lowB_length];omega
 have HLS:Hid (l++(lowB Q.ds.length 1++Q.ds.flatMap ddB)=(l++lowB Q.ds.length 1)++Q.ds.flatMap ddB):=by show _=_;rw[List.append_assoc]
 generalize l++lowB Q.ds.length 1=L at ho1 HLE HLS;have HO1:=zH ho1;have HB1:Hid (BF base w w1):=⟨hb1,hf1⟩;clear ho1 hb1 hf1 q1 c7 H1;go_wp2_with fail
 go_loopw [1,19] (fun o i wr=>∃k:Nat,k<=Q.ds.length/\i=.int .i64 (k:Int)/\OwnB wr base o (L++(Q.ds.take k).flatMap ddB)/\BF base w wr) (fun _ i _=>Q.ds.length-(intOf i).toNat)
 case atStart=>exact⟨0,Nat.zero_le _,rfl,by simpa using HO1.out,HB1.out⟩
 case round=>
  obtain⟨k,hk,rfl,ho,hbr⟩:=hrel
  by_cases hlt:k<Q.ds.length
  ·have hq:=HQ.out wr hbr;obtain⟨g,c,hv,hg,hc⟩:=hq.dsc k hlt;rw[HV.out]at hv;simp only[Value.slice.injEq,true_and]at hv;obtain⟨rfl,rfl⟩:=hv;have hw:=HW.out _ (List.getElem_mem hlt);have hle:(L++(Q.ds.take k).flatMap ddB).length<=1100000000:=by
    rw[List.length_append];have h1:=flt_len ddB 17 (Q.ds.take k) (fun m hm=>by have h2:=HW.out m (List.mem_of_mem_take hm);rw[ddB_len];have:=h2.id;omega);have h2:=HLE.out;rw[List.length_take]at h1;have h3:17*min k Q.ds.length<=17*1000:=Nat.mul_le_mul_left _ (by omega);omega
   have HS:=zH (flt_succ ddB L Q.ds k hlt);obtain⟨L2,HG2⟩:∃L2,Hid (L++(Q.ds.take (k+1)).flatMap ddB=L2):=⟨_,rfl⟩;rw[HG2.out]at HS;generalize L++(Q.ds.take k).flatMap ddB=L1 at HS ho hle;generalize Q.ds[k]=m at*
   have g0:wr.cell? ⟨g,k*3,none⟩=some (.string m.id):=hc 0 _ rfl;have g1:wr.cell? ⟨g,k*3+1,none⟩=some (.int .i64 m.num):=hc 1 _ rfl;have g2:wr.cell? ⟨g,k*3+2,none⟩=some (.int .i64 m.til):=hc 2 _ rfl;have zr:=hbr.size;have HBR:Hid (BF base w (wr.alloc (.cells #[.string m.id,.int .i64 m.num,.int .i64 m.til] 195))):=hbr.alloc (by omega) _;have HX0:Hid ((wr.alloc (.cells #[.string m.id,.int .i64 m.num,.int .i64 m.til] 195)).heap[wr.heap.size]?=some (.cells #[.string m.id,.int .i64 m.num,.int .i64 m.til] 195 (0,0))):=heap_alloc_new _ _;have HO0:Hid (OwnB (wr.alloc (.cells #[.string m.id,.int .i64 m.num,.int .i64 m.til] 195)) base u1 L1):=World.ownsRow.alloc ho _;have hsz0:(wr.alloc (.cells #[.string m.id,.int .i64 m.num,.int .i64 m.til] 195)).heap.size=wr.heap.size+1:=World.size_alloc _ _;clear hc hq ho hbr;have H1c:=zH (appendText_f base u1 L1 m.id (wr.alloc (.cells #[.string m.id,.int .i64 m.num,.int .i64 m.til] 195)) (by have:=hw.id;omega) (by omega) (by omega) HO0.out);go_wp2_with fail;refine H1c.out.mono ?_;rintro e y1 ⟨t1,rfl,ho,hb,hf⟩;have HX1:Hid (y1.heap[wr.heap.size]?=some (.cells #[.string m.id,.int .i64 m.num,.int .i64 m.til] 195 (0,0))):=hf.keep _ _ _ HX0.out (by decide);have HB1y:=zH (HBR.out.trans ⟨hb,hf⟩);have zy1:=hb.size;have hle1:(L1++txtB m.id).length<=1100070000:=by rw[List.length_append,txtB_length];have:=hw.id;omega
   have HEE1:∃A,Hid (A=L1++txtB m.id):=⟨_,rfl⟩;obtain⟨A1,HA1⟩:=HEE1;rw[<-HA1.out]at ho hle1;have HO1y:=zH ho;clear ho hb hf H1c;have f2:y1.cell? ⟨wr.heap.size,1,none⟩=some (.int .i64 m.num):=cell_qC HX1.out 1 _ rfl;have H2c:Hid (Calls Tryz.prog 46 #[t1,.int .i64 m.num,.int .i64 4] y1 fun e w'=>∃v',e=.returned v'/\OwnB w' base v' (A1++lowB m.num.toNat 4)/\Below base y1 w'/\Fr 0 [5] y1 w'):=appendInt_f base t1 A1 m.num 4 y1 hw.num (by decide) (by omega) (by omega) HO1y.out;go_wp2_with fail;refine H2c.out.mono ?_;rintro e y2 ⟨t2,rfl,ho,hb,hf⟩;have HX2:Hid (y2.heap[wr.heap.size]?=some (.cells #[.string m.id,.int .i64 m.num,.int .i64 m.til] 195 (0,0))):=hf.keep _ _ _ HX1.out (by decide);have HB2y:=zH (HB1y.out.trans ⟨hb,hf⟩);have hle2:(A1++lowB m.num.toNat 4).length<=1100140000:=by rw[List.length_append,lowB_length];omega
   have HEE2:∃A,Hid (A=A1++lowB m.num.toNat 4):=⟨_,rfl⟩;obtain⟨A2,HA2⟩:=HEE2;rw[<-HA2.out]at ho hle2;have HO2y:=zH ho;clear ho hb hf H2c f2;have f3:y2.cell? ⟨wr.heap.size,2,none⟩=some (.int .i64 m.til):=cell_qC HX2.out 2 _ rfl;have lx3:wr.heap.size<y2.heap.size:=lt_of_block HX2.out;have H3c:Hid (Calls Tryz.prog 46 #[t2,.int .i64 m.til,.int .i64 4] y2 fun e w'=>∃v',e=.returned v'/\OwnB w' base v' (A2++lowB m.til.toNat 4)/\Below base y2 w'/\Fr 0 [5] y2 w'):=appendInt_f base t2 A2 m.til 4 y2 hw.til (by decide) (by omega) (by omega) HO2y.out;go_wp2_with fail;refine H3c.out.mono ?_;rintro e y3 ⟨t3,rfl,ho,hb,hf⟩;have HB3y:=zH (HB2y.out.trans ⟨hb,hf⟩);have hle3:(A2++lowB m.til.toNat 4).length<=1100210000:=by rw[List.length_append,lowB_length];omega
   have HEE3:∃A,Hid (A=A2++lowB m.til.toNat 4):=⟨_,rfl⟩;obtain⟨A3,HA3⟩:=HEE3;rw[<-HA3.out]at ho hle3;have HO3y:=zH ho;clear ho hb hf H3c f3 lx3;have HF:Hid (OwnB y3 base t3 L2):=by
    have e:L2=A3:=by rw[HS.out,HA3.out,HA2.out,HA1.out];simp[ddB]
    rw[e];exact HO3y.out
   go_wp2_with fail;go_roundw
   case rel=>exact⟨k+1,by omega,by go_num,by rw[HG2.out];exact HF.out,HB3y.out⟩
   case measure=>simp[intOf];omega
  ·have he:Q.ds.take k=Q.ds:=List.take_of_length_le (by omega);rw[he,<-HLS.out]at ho;have HO2:=zH ho;have HBR:=zH hbr;clear he ho hbr;go_wp2_with fail;go_ret;exact⟨_,rfl,HO2.out,HBR.out⟩
theorem appAs_any (base:Nat)(v:Value)(l:List UInt8)(Q:QM)(V:QV)(qb:Nat)(w:World)(h:QR w qb V Q)(hlo:∀b∈qbl qb V,b<base)(hn:Q.ats.length<=1000)(hW:∀m∈Q.ats,AtW m)(hl:l.length<=1000000000)(hb:base<=w.heap.size)(hown:OwnB w base v l):
  Calls Tryz.prog 98 #[.pointer (some ⟨qb,0,none⟩),v] w fun e w'=>∃v',e=.returned v'/\OwnB w' base v' (l++(lowB Q.ats.length 1++Q.ats.flatMap atB))/\BF base w w':=by
 obtain⟨i0,hi,hz0,hz1,hz2⟩:=info_parts info5;have HQ:Hid (∀W,BF base w W->QR W qb V Q):=fun W hW=>h.below hlo hW.1
 have lqb:=hlo qb (by simp[qbl]);obtain⟨am,cm,hvm⟩:=own_shape h.a;have HV:=zH hvm;have c7:w.cell? ⟨qb,10,none⟩=some (.slice am Q.ats.length cm):=by rw[<-hvm];exact cell_qC h.blk 10 _ rfl
 have H1:Hid (Calls Tryz.prog 46 #[v,.int .i64 (Q.ats.length:Int),.int .i64 1] w fun e w'=>∃v',e=.returned v'/\OwnB w' base v' (l++lowB Q.ats.length 1)/\Below base w w'/\Fr 0 [5] w w'):=appendNumber_f base v l Q.ats.length 1 w (by omega) (by decide) (by omega) hb hown;have HW:=zH hW;clear h hown hW hvm;go_enter Tryz.func98,Tryz.ntmps98;go_wp2_with fail;refine H1.out.mono ?_;rintro e w1 ⟨v1,rfl,ho1,hb1,hf1⟩;have q1:=HQ.out w1 ⟨hb1,hf1⟩;have z1:=hb1.size;have d7:w1.cell? ⟨qb,10,none⟩=some (.slice am Q.ats.length cm):=by rw[<-HV.out];exact cell_qC q1.blk 10 _ rfl
 have HLE:Hid ((l++lowB Q.ats.length 1).length<=1000000010):=by show _<=_;rw[List.length_append,lowB_length];omega
 have HLS:Hid (l++(lowB Q.ats.length 1++Q.ats.flatMap atB)=(l++lowB Q.ats.length 1)++Q.ats.flatMap atB):=by show _=_;rw[List.append_assoc]
 generalize l++lowB Q.ats.length 1=L at ho1 HLE HLS;have HO1:=zH ho1;have HB1:Hid (BF base w w1):=⟨hb1,hf1⟩;clear ho1 hb1 hf1 q1 c7 H1;go_wp2_with fail
 go_loopw [1,19] (fun o i wr=>∃k:Nat,k<=Q.ats.length/\i=.int .i64 (k:Int)/\OwnB wr base o (L++(Q.ats.take k).flatMap atB)/\BF base w wr) (fun _ i _=>Q.ats.length-(intOf i).toNat)
 case atStart=>exact⟨0,Nat.zero_le _,rfl,by simpa using HO1.out,HB1.out⟩
 case round=>
  obtain⟨k,hk,rfl,ho,hbr⟩:=hrel
  by_cases hlt:k<Q.ats.length
  ·have hq:=HQ.out wr hbr;obtain⟨g,c,hv,hg,hc⟩:=hq.asc k hlt;rw[HV.out]at hv;simp only[Value.slice.injEq,true_and]at hv;obtain⟨rfl,rfl⟩:=hv;have hw:=HW.out _ (List.getElem_mem hlt);have hle:(L++(Q.ats.take k).flatMap atB).length<=1100000000:=by
    rw[List.length_append];have h1:=flt_len atB 615 (Q.ats.take k) (fun m hm=>by have h2:=HW.out m (List.mem_of_mem_take hm);rw[atB_len];have:=h2.id;have:=h2.ans;omega);have h2:=HLE.out;rw[List.length_take]at h1;have h3:615*min k Q.ats.length<=615*1000:=Nat.mul_le_mul_left _ (by omega);omega
   have HS:=zH (flt_succ atB L Q.ats k hlt);obtain⟨L2,HG2⟩:∃L2,Hid (L++(Q.ats.take (k+1)).flatMap atB=L2):=⟨_,rfl⟩;rw[HG2.out]at HS;generalize L++(Q.ats.take k).flatMap atB=L1 at HS ho hle;generalize Q.ats[k]=m at*
   have g0:wr.cell? ⟨g,k*3,none⟩=some (.string m.id):=hc 0 _ rfl;have g1:wr.cell? ⟨g,k*3+1,none⟩=some (.int .i64 m.til):=hc 1 _ rfl;have g2:wr.cell? ⟨g,k*3+2,none⟩=some (.string m.ans):=hc 2 _ rfl;have zr:=hbr.size;have HBR:Hid (BF base w (wr.alloc (.cells #[.string m.id,.int .i64 m.til,.string m.ans] 199))):=hbr.alloc (by omega) _;have HX0:Hid ((wr.alloc (.cells #[.string m.id,.int .i64 m.til,.string m.ans] 199)).heap[wr.heap.size]?=some (.cells #[.string m.id,.int .i64 m.til,.string m.ans] 199 (0,0))):=heap_alloc_new _ _;have HO0:Hid (OwnB (wr.alloc (.cells #[.string m.id,.int .i64 m.til,.string m.ans] 199)) base u1 L1):=World.ownsRow.alloc ho _;have hsz0:(wr.alloc (.cells #[.string m.id,.int .i64 m.til,.string m.ans] 199)).heap.size=wr.heap.size+1:=World.size_alloc _ _;clear hc hq ho hbr;have H1c:=zH (appendText_f base u1 L1 m.id (wr.alloc (.cells #[.string m.id,.int .i64 m.til,.string m.ans] 199)) (by have:=hw.id;omega) (by omega) (by omega) HO0.out);go_wp2_with fail;refine H1c.out.mono ?_;rintro e y1 ⟨t1,rfl,ho,hb,hf⟩;have HX1:Hid (y1.heap[wr.heap.size]?=some (.cells #[.string m.id,.int .i64 m.til,.string m.ans] 199 (0,0))):=hf.keep _ _ _ HX0.out (by decide);have HB1y:=zH (HBR.out.trans ⟨hb,hf⟩);have zy1:=hb.size;have hle1:(L1++txtB m.id).length<=1100070000:=by rw[List.length_append,txtB_length];have:=hw.id;omega
   have HEE1:∃A,Hid (A=L1++txtB m.id):=⟨_,rfl⟩;obtain⟨A1,HA1⟩:=HEE1;rw[<-HA1.out]at ho hle1;have HO1y:=zH ho;clear ho hb hf H1c;have f2:y1.cell? ⟨wr.heap.size,1,none⟩=some (.int .i64 m.til):=cell_qC HX1.out 1 _ rfl;have H2c:Hid (Calls Tryz.prog 46 #[t1,.int .i64 m.til,.int .i64 4] y1 fun e w'=>∃v',e=.returned v'/\OwnB w' base v' (A1++lowB m.til.toNat 4)/\Below base y1 w'/\Fr 0 [5] y1 w'):=appendInt_f base t1 A1 m.til 4 y1 hw.til (by decide) (by omega) (by omega) HO1y.out;go_wp2_with fail;refine H2c.out.mono ?_;rintro e y2 ⟨t2,rfl,ho,hb,hf⟩;have HX2:Hid (y2.heap[wr.heap.size]?=some (.cells #[.string m.id,.int .i64 m.til,.string m.ans] 199 (0,0))):=hf.keep _ _ _ HX1.out (by decide);have HB2y:=zH (HB1y.out.trans ⟨hb,hf⟩);have hle2:(A1++lowB m.til.toNat 4).length<=1100140000:=by rw[List.length_append,lowB_length];omega
   have HEE2:∃A,Hid (A=A1++lowB m.til.toNat 4):=⟨_,rfl⟩;obtain⟨A2,HA2⟩:=HEE2;rw[<-HA2.out]at ho hle2;have HO2y:=zH ho;clear ho hb hf H2c f2;have f3:y2.cell? ⟨wr.heap.size,2,none⟩=some (.string m.ans):=cell_qC HX2.out 2 _ rfl;have lx3:wr.heap.size<y2.heap.size:=lt_of_block HX2.out;have H3c:Hid (Calls Tryz.prog 46 #[t2,.int .i64 (m.ans.size:Int),.int .i64 2] y2 fun e w'=>∃v',e=.returned v'/\OwnB w' base v' (A2++lowB m.ans.size 2)/\Below base y2 w'/\Fr 0 [5] y2 w'):=appendNumber_f base t2 A2 m.ans.size 2 y2 (by have:=hw.ans;omega) (by decide) (by omega) (by omega) HO2y.out;go_wp2_with fail;refine H3c.out.mono ?_;rintro e y3 ⟨t3,rfl,ho,hb,hf⟩;have HX3:Hid (y3.heap[wr.heap.size]?=some (.cells #[.string m.id,.int .i64 m.til,.string m.ans] 199 (0,0))):=hf.keep _ _ _ HX2.out (by decide);have HB3y:=zH (HB2y.out.trans ⟨hb,hf⟩);have hle3:(A2++lowB m.ans.size 2).length<=1100210000:=by rw[List.length_append,lowB_length];omega
   have HEE3:∃A,Hid (A=A2++lowB m.ans.size 2):=⟨_,rfl⟩;obtain⟨A3,HA3⟩:=HEE3;rw[<-HA3.out]at ho hle3;have HO3y:=zH ho;clear ho hb hf H3c f3 lx3;have f4:y3.cell? ⟨wr.heap.size,2,none⟩=some (.string m.ans):=cell_qC HX3.out 2 _ rfl;have lx4:wr.heap.size<y3.heap.size:=lt_of_block HX3.out;go_wp2_with (at_builtin;refine Lib.wpList_append_own_string _ rfl _ _ 54 9 rfl base 5 i0 Tryz.underlying54 Tryz.underlying9 hi hz0 hz1 hz2 _ _ _ rfl HO3y.out m.ans rfl ?c1 ?c2 ?c3 ?_)
   case c1=>unfold maxLen;have:=hw.ans;omega
   case c2=>have:=hw.ans;omega
   case c3=>omega
   intro t4 y4 hown' hgrow _;have ho:OwnB y4 base t4 (A3++m.ans.data.toList):=by
    unfold OwnB;have e1:bytesV (A3++m.ans.data.toList)=bytesV A3++Lib.strCells m.ans:=by rw[<-bytesV_str];simp[bytesV]
    have e2:(A3++m.ans.data.toList).length=A3.length+m.ans.size:=by rw[List.length_append];rfl
    rw[e1,e2];exact hown'
   have HB4y:=zH (BF.grown HB3y.out HO3y.out hgrow (by omega));have HEE4:∃A,Hid (A=A3++m.ans.data.toList):=⟨_,rfl⟩;obtain⟨A4,HA4⟩:=HEE4;rw[<-HA4.out]at ho;have HO4y:=zH ho;clear ho hown' hgrow f4 lx4;have HF:Hid (OwnB y4 base t4 L2):=by
    have e:L2=A4:=by rw[HS.out,HA4.out,HA3.out,HA2.out,HA1.out];simp[atB]
    rw[e];exact HO4y.out
   go_wp2_with fail;go_roundw
   case rel=>exact⟨k+1,by omega,by go_num,by rw[HG2.out];exact HF.out,HB4y.out⟩
   case measure=>simp[intOf];omega
  ·have he:Q.ats.take k=Q.ats:=List.take_of_length_le (by omega);rw[he,<-HLS.out]at ho;have HO2:=zH ho;have HBR:=zH hbr;clear he ho hbr;go_wp2_with fail;go_ret;exact⟨_,rfl,HO2.out,HBR.out⟩
end Go.Proofs.YtbdobaapadlcjabGreatDoor
