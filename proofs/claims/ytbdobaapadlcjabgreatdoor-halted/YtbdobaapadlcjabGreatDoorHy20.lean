import Derived.Test.YtbdobaapadlcjabGreatDoorHy19
set_option maxRecDepth 8000
set_option maxHeartbeats 2000000
set_option linter.unusedVariables false
set_option linter.unusedSimpArgs false
namespace Go.Proofs.YtbdobaapadlcjabGreatDoor
open Go.RowKit
variable {B st b i:Nat}{w w' w2 w3:World}{col:Nat->Nat}{now:Int}{Z:Nat->Option BQ}{c':Nat->Option QM}
theorem newReader_any (s:ByteArray)(w:World):Calls Tryz.prog 52 #[.string s] w fun e w'=>e=.returned (.pointer (some ⟨w.heap.size,0,none⟩))/\w'=w.alloc (.cells #[.string s,.bool false] 154):=by
 go_enter Tryz.func52,Tryz.ntmps52
 go_wp2
 go_ret;exact⟨rfl,rfl⟩
theorem info237:(Tryz.prog.info? 139).map (·.size)=some 3:=by kernel_rfl
theorem read_yes (B:Nat)(s:ByteArray)(w:World)(hL:Lays B w)(hB:B<=w.heap.size)(h8:s.size=8)(h0:s[0]=72)(h1:isLet s[1]=true):
  zT 72 #[.string s] w (.tuple #[.agg #[.int .u8 (s[1].toNat:Int),.int .i64 (leN (tk (s.extract 2 8) 4).data.toList:Nat),.int .i64 (leN (tk (lf (s.extract 2 8) 4) 2).data.toList:Nat)],.bool true]):=by
 have hn0:s[0].toNat=72:=by rw[h0];rfl
 obtain⟨wb,hwb⟩:∃wb,wb=w.alloc (.cells #[.int .u8 0,.int .i64 0,.int .i64 0] 139):=⟨_,rfl⟩;have tb:Tch [] w wb:=by rw[hwb];exact(Tch.refl _ _).alloc _
 have HRB:Hid (wb.heap[w.heap.size]?=some (.cells #[.int .u8 0,.int .i64 0,.int .i64 0] 139 (0,0))):=by rw[hwb];exact heap_alloc_new _ _
 have HQ:Hid (zT 99 #[.int .u8 (s[1].toNat:Int)] wb (.bool true)):=by
  have h:=isQueue_any B s[1] wb (hL.below (tb.below (by simp) hB)) (by have:=tb.size;omega);rw[h1]at h;exact h
 have HT:=zH tb;clear tb hL h1 h0;generalize hn1:s[1].toNat=c at*
 go_enter Tryz.func72,Tryz.ntmps72;go_wp2_with fail;rw[<-hwb];clear hwb;refine HQ.out.mono ?_;rintro e w1 ⟨rfl,ht1⟩;have HT1:=zH (HT.out.trans ht1 (by simp));have HR1:Hid (w1.heap[w.heap.size]?=some (.cells #[.int .u8 0,.int .i64 0,.int .i64 0] 139 (0,0))):=(ht1.block _ (lt_of_block HRB.out) (by simp)).trans HRB.out;clear ht1 HT HRB;go_wp2_with fail;refine(newReader_any _ _).mono ?_;rintro e w2 ⟨rfl,hw2⟩;have lb:=lt_of_block HR1.out;have HT2:Hid (Tch [] w w2):=by rw[hw2];exact HT1.out.alloc _
 have HR2:Hid (w2.heap[w.heap.size]?=some (.cells #[.int .u8 0,.int .i64 0,.int .i64 0] 139 (0,0))):=by rw[hw2];exact(Below.heap_alloc _ _ _ lb).trans HR1.out
 have HD2:Hid (Rd w2 w1.heap.size (s.extract 2 8) false):=by rw[hw2];exact heap_alloc_new _ _
 have z2:w2.heap.size=w1.heap.size+1:=by rw[hw2];simp
 clear hw2 HR1 HT1 HQ;have hes:(s.extract 2 8).size=6:=by simp[ByteArray.size_extract,h8]
 generalize hte:s.extract 2 8=t at*
 have HTE:=zH hte;clear hte;generalize w1.heap.size=rb at*
 obtain⟨w3,hw3⟩:∃w3,w3=w2.alloc (.cells #[.int .u8 (c:Int),.int .i64 0,.int .i64 0] 139):=⟨_,rfl⟩;have lb2:=lt_of_block HR2.out;have ld2:=lt_of_block HD2.out;have HT3:Hid (Tch [] w w3):=by rw[hw3];exact HT2.out.alloc _
 have HR3:Hid (w3.heap[w.heap.size]?=some (.cells #[.int .u8 0,.int .i64 0,.int .i64 0] 139 (0,0))):=by rw[hw3];exact(Below.heap_alloc _ _ _ lb2).trans HR2.out
 have HD3:Hid (Rd w3 rb t false):=by rw[hw3];exact(Below.heap_alloc _ _ _ ld2).trans HD2.out
 have HH3:Hid (w3.heap[w2.heap.size]?=some (.cells #[.int .u8 (c:Int),.int .i64 0,.int .i64 0] 139 (0,0))):=by rw[hw3];exact heap_alloc_new _ _
 have HN4:Hid (Calls Tryz.prog 53 #[.pointer (some ⟨rb,0,none⟩),.int .i64 4] w3 _):=number_four rb t false w3 (by rw[hes];decide) (by omega) HD3.out;go_wp2_with fail;rw[<-hw3];clear hw3 HD2 HR2 HT2;refine HN4.out.mono ?_;rintro e w4 ⟨rfl,hR4,hg4,z4⟩;obtain⟨g2,hg2⟩:∃g2,g2=rb+1:=⟨_,rfl⟩;rw[z2,<-hg2]at HH3;obtain⟨g0,hg0⟩:∃g0,g0=w.heap.size:=⟨_,rfl⟩;rw[<-hg0]at HR3;have n02:g0≠g2:=by omega
 have n0r:g0≠rb:=by omega
 have n2r:g2≠rb:=by omega
 have HT4:Hid (Tch [] w w4):=HT3.out.grown hg4 (fun k hk hlt=>by simp only[Option.some.injEq]at hk;omega);have HR4:Hid (w4.heap[g0]?=some (.cells #[.int .u8 0,.int .i64 0,.int .i64 0] 139 (0,0))):=(hg4.block g0 (lt_of_block HR3.out) (fun e=>n0r (Option.some.inj e))).trans HR3.out;have HH4:Hid (w4.heap[g2]?=some (.cells #[.int .u8 (c:Int),.int .i64 0,.int .i64 0] 139 (0,0))):=(hg4.block g2 (lt_of_block HH3.out) (fun e=>n2r (Option.some.inj e))).trans HH3.out;have HD4:=zH hR4;have hls:(lf t 4).size=2:=by unfold lf;rw[if_pos (by omega)];simp[ByteArray.size_extract,hes]
 have k1:w4.cell? ⟨g2,1,none⟩=some (.int .i64 0):=cell_qC HH4.out 1 _ rfl;have z1:w4.frozen? ⟨g2,1,none⟩=false:=frozen_of_row w4 g2 1 _ 139 HH4.out;generalize hna:leN (tk t 4).data.toList=na at*
 have HNA:=zH hna;clear hna;generalize hlf:lf t 4=t2 at*
 have HLF:=zH hlf;clear hlf;generalize bad t false 4=f2 at*
 obtain⟨w5,hw5⟩:∃w5,w5=w4.setCell ⟨g2,1,none⟩ (.int .i64 (na:Int)):=⟨_,rfl⟩;have HT5:Hid (Tch [] w w5):=by rw[hw5];exact HT4.out.setCell (fun h=>by have h':g2<w.heap.size:=h;omega) _
 have HR5:Hid (w5.heap[g0]?=some (.cells #[.int .u8 0,.int .i64 0,.int .i64 0] 139 (0,0))):=by rw[hw5];exact(Below.heap_setCell w4 _ _ g0 (fun e=>n02 e)).trans HR4.out
 have HD5:Hid (Rd w5 rb t2 f2):=by rw[hw5];exact(Below.heap_setCell w4 _ _ rb (fun e=>n2r e.symm)).trans HD4.out
 have HH5:Hid (w5.heap[g2]?=some (.cells #[.int .u8 (c:Int),.int .i64 (na:Int),.int .i64 0] 139 (0,0))):=by rw[hw5];exact heap_setCell_same w4 g2 1 _ 139 _ HH4.out
 have HN6:Hid (Calls Tryz.prog 53 #[.pointer (some ⟨rb,0,none⟩),.int .i64 ((2:Nat):Int)] w5 _):=number_any rb t2 f2 2 w5 (.inr rfl) (by rw[hls];decide) HD5.out;have HG0:=zH hg0;have HLW:Hid (w.heap.size<g2):=by show _<_;omega
 clear HN4 HR3 HH3 HD3 HT3 hR4 hg4 hg0;rw[<-hg2];clear hg2;go_wp2_with fail;rw[<-hw5];clear hw5 HD4 HR4 HH4 HT4 k1 z1;refine HN6.out.mono ?_;rintro e w6 ⟨rfl,hR6,hg6,z6⟩;have HT6:Hid (Tch [] w w6):=HT5.out.grown hg6 (fun k hk hlt=>by simp only[Option.some.injEq]at hk;omega);have HR6:Hid (w6.heap[g0]?=some (.cells #[.int .u8 0,.int .i64 0,.int .i64 0] 139 (0,0))):=(hg6.block g0 (lt_of_block HR5.out) (fun e=>n0r (Option.some.inj e))).trans HR5.out;have HH6:Hid (w6.heap[g2]?=some (.cells #[.int .u8 (c:Int),.int .i64 (na:Int),.int .i64 0] 139 (0,0))):=(hg6.block g2 (lt_of_block HH5.out) (fun e=>n2r (Option.some.inj e))).trans HH5.out;have k2:w6.cell? ⟨g2,2,none⟩=some (.int .i64 0):=cell_qC HH6.out 2 _ rfl;have z2':w6.frozen? ⟨g2,2,none⟩=false:=frozen_of_row w6 g2 2 _ 139 HH6.out;generalize hnb:leN (tk t2 2).data.toList=nb at*
 have HNB:=zH hnb;clear hnb;obtain⟨w7,hw7⟩:∃w7,w7=w6.setCell ⟨g2,2,none⟩ (.int .i64 (nb:Int)):=⟨_,rfl⟩;have HT7:Hid (Tch [] w w7):=by rw[hw7];exact HT6.out.setCell (fun h=>by have h':g2<w.heap.size:=h;have:=HG0.out;have:=HLW.out;omega) _
 have HR7:Hid (w7.heap[g0]?=some (.cells #[.int .u8 0,.int .i64 0,.int .i64 0] 139 (0,0))):=by rw[hw7];exact(Below.heap_setCell w6 _ _ g0 (fun e=>n02 e)).trans HR6.out
 have HH7:Hid (w7.heap[g2]?=some (.cells #[.int .u8 (c:Int),.int .i64 (na:Int),.int .i64 (nb:Int)] 139 (0,0))):=by rw[hw7];exact heap_setCell_same w6 g2 2 _ 139 _ HH6.out
 have m0:w7.cell? ⟨g2,0,none⟩=some (.int .u8 (c:Int)):=cell_qC HH7.out 0 _ rfl;have m1:w7.cell? ⟨g2,1,none⟩=some (.int .i64 (na:Int)):=cell_qC HH7.out 1 _ rfl;have m2:w7.cell? ⟨g2,2,none⟩=some (.int .i64 (nb:Int)):=cell_qC HH7.out 2 _ rfl;have r0:w7.cell? ⟨g0,0,none⟩=some (.int .u8 0):=cell_qC HR7.out 0 _ rfl;have r1:w7.cell? ⟨g0,1,none⟩=some (.int .i64 0):=cell_qC HR7.out 1 _ rfl;have r2:w7.cell? ⟨g0,2,none⟩=some (.int .i64 0):=cell_qC HR7.out 2 _ rfl;have f0:w7.frozen? ⟨g0,0,none⟩=false:=frozen_of_row w7 g0 0 _ 139 HR7.out;have f1:w7.frozen? ⟨g0,1,none⟩=false:=frozen_of_row w7 g0 1 _ 139 HR7.out;have f2:w7.frozen? ⟨g0,2,none⟩=false:=frozen_of_row w7 g0 2 _ 139 HR7.out;rw[<-HG0.out];clear HR6 HH6 HT6 HR5 HH5 HD5 HT5 hR6 hg6 HN6
 go_upto_region 7 with fail
 rw[<-hw7];clear hw7 k2 z2';go_wp2_with fail;have q1:=heap_setCell_same w7 g0 0 _ 139 (.int .u8 (c:Int)) HR7.out;have q2:=heap_setCell_same _ g0 1 _ 139 (.int .i64 (na:Int)) q1;have q3:=heap_setCell_same _ g0 2 _ 139 (.int .i64 (nb:Int)) q2;refine bodyPost_ret (results_ct (p:=2) (q:=3) rfl _ _ g0 139 #[.int .u8 (c:Int),.int .i64 (na:Int),.int .i64 (nb:Int)] (0,0) _ rfl q3 Tryz.underlying139 rfl info237) rfl ⟨?_,?_⟩
 ·rw[HTE.out,HLF.out,HNA.out,HNB.out];rfl
 ·have hge:¬g0<w.heap.size:=by have:=HG0.out;omega
  exact((HT7.out.setCell (fun h=>absurd h hge) _).setCell (fun h=>absurd h hge) _).setCell (fun h=>absurd h hge) _
theorem read_fin (g0:Nat)(w w1:World)(hg0:g0=w.heap.size)(hT:Tch [] w w1)(hR:w1.heap[g0]?=some (.cells #[.int .u8 0,.int .i64 0,.int .i64 0] 139 (0,0))):
  (((w1.setCell ⟨g0,0,none⟩ (.int .u8 0)).setCell ⟨g0,1,none⟩ (.int .i64 0)).setCell ⟨g0,2,none⟩ (.int .i64 0)).heap[g0]?=some (.cells #[.int .u8 0,.int .i64 0,.int .i64 0] 139 (0,0))/\Tch [] w (((w1.setCell ⟨g0,0,none⟩ (.int .u8 0)).setCell ⟨g0,1,none⟩ (.int .i64 0)).setCell ⟨g0,2,none⟩ (.int .i64 0)):=by
 have q1:=heap_setCell_same w1 g0 0 _ 139 (.int .u8 0) hR;have q2:=heap_setCell_same _ g0 1 _ 139 (.int .i64 0) q1;have q3:=heap_setCell_same _ g0 2 _ 139 (.int .i64 0) q2;have hge:¬g0<w.heap.size:=by omega
 exact⟨q3,((hT.setCell (fun h=>absurd h hge) _).setCell (fun h=>absurd h hge) _).setCell (fun h=>absurd h hge) _⟩
theorem read_no (B:Nat)(s:ByteArray)(w:World)(hL:Lays B w)(hB:B<=w.heap.size)(hs:s.size<=1000000)(hno:¬∃h8:s.size=8,s[0]=72/\isLet s[1]=true):
  zT 72 #[.string s] w (.tuple #[.agg #[.int .u8 0,.int .i64 0,.int .i64 0],.bool false]):=by
 obtain⟨wb,hwb⟩:∃wb,wb=w.alloc (.cells #[.int .u8 0,.int .i64 0,.int .i64 0] 139):=⟨_,rfl⟩;have tb:Tch [] w wb:=by rw[hwb];exact(Tch.refl _ _).alloc _
 have hrb:wb.heap[w.heap.size]?=some (.cells #[.int .u8 0,.int .i64 0,.int .i64 0] 139 (0,0)):=by rw[hwb];exact heap_alloc_new _ _
 have r0:wb.cell? ⟨w.heap.size,0,none⟩=some (.int .u8 0):=cell_qC hrb 0 _ rfl;have r1:wb.cell? ⟨w.heap.size,1,none⟩=some (.int .i64 0):=cell_qC hrb 1 _ rfl;have r2:wb.cell? ⟨w.heap.size,2,none⟩=some (.int .i64 0):=cell_qC hrb 2 _ rfl;have f0:wb.frozen? ⟨w.heap.size,0,none⟩=false:=frozen_of_row wb _ 0 _ 139 hrb;have f1:wb.frozen? ⟨w.heap.size,1,none⟩=false:=frozen_of_row wb _ 1 _ 139 hrb;have f2:wb.frozen? ⟨w.heap.size,2,none⟩=false:=frozen_of_row wb _ 2 _ 139 hrb;have lb:=lt_of_block hrb;have HF:Hid (_/\Tch [] w _):=read_fin w.heap.size w wb rfl tb hrb
 by_cases h8:s.size=8
 ·by_cases h0:s[0]=72
  ·have h1:isLet s[1]=false:=by
    rw[<-Bool.not_eq_true];exact fun h=>hno ⟨h8,h0,h⟩
   have hn0:s[0].toNat=72:=by rw[h0];rfl
   have HQ:Hid (zT 99 #[.int .u8 (s[1].toNat:Int)] wb (.bool false)):=by
    have h:=isQueue_any B s[1] wb (hL.below (tb.below (by simp) hB)) (by have:=tb.size;omega);rw[h1]at h;exact h
   have HT:=zH tb;have HRB:=zH hrb;clear tb hL h1 h0 hrb hno HF r0 r1 r2 f0 f1 f2;go_enter Tryz.func72,Tryz.ntmps72;go_wp2_with fail;rw[<-hwb];clear hwb;refine HQ.out.mono ?_;rintro e w1 ⟨rfl,ht1⟩;have hT1:=HT.out.trans ht1 (by simp);have hr1:w1.heap[w.heap.size]?=some (.cells #[.int .u8 0,.int .i64 0,.int .i64 0] 139 (0,0)):=(ht1.block _ (lt_of_block HRB.out) (by simp)).trans HRB.out;have r0:w1.cell? ⟨w.heap.size,0,none⟩=some (.int .u8 0):=cell_qC hr1 0 _ rfl;have r1:w1.cell? ⟨w.heap.size,1,none⟩=some (.int .i64 0):=cell_qC hr1 1 _ rfl;have r2:w1.cell? ⟨w.heap.size,2,none⟩=some (.int .i64 0):=cell_qC hr1 2 _ rfl;have f0:w1.frozen? ⟨w.heap.size,0,none⟩=false:=frozen_of_row w1 _ 0 _ 139 hr1;have f1:w1.frozen? ⟨w.heap.size,1,none⟩=false:=frozen_of_row w1 _ 1 _ 139 hr1;have f2:w1.frozen? ⟨w.heap.size,2,none⟩=false:=frozen_of_row w1 _ 2 _ 139 hr1;have HF:Hid (_/\Tch [] w _):=read_fin w.heap.size w w1 rfl hT1 hr1;clear hT1 hr1 ht1 HT HRB HQ;go_wp2_with fail;exact bodyPost_ret (results_ct (p:=2) (q:=3) rfl _ _ w.heap.size 139 #[.int .u8 0,.int .i64 0,.int .i64 0] (0,0) _ rfl HF.out.1 Tryz.underlying139 rfl info237) rfl ⟨rfl,HF.out.2⟩
  ·have hn0:¬s[0].toNat=72:=fun h=>h0 (UInt8.toNat_inj.1 (by rw[h];rfl))
   have hb0:(((s[0].toNat:Int)) != 72)=true:=by simp;omega
   clear tb hL h0 hrb hno;go_enter Tryz.func72,Tryz.ntmps72
   go_upto_region 1 with fail
   rw[<-hwb];clear hwb;go_wp2_with fail;exact bodyPost_ret (results_ct (p:=2) (q:=3) rfl _ _ w.heap.size 139 #[.int .u8 0,.int .i64 0,.int .i64 0] (0,0) _ rfl HF.out.1 Tryz.underlying139 rfl info237) rfl ⟨rfl,HF.out.2⟩
 ·have hb8:((s.size:Int) != 8)=true:=by simp;omega
  clear tb hL hrb hno;go_enter Tryz.func72,Tryz.ntmps72
  go_upto_region 1 with fail
  rw[<-hwb];clear hwb;go_wp2_with fail;exact bodyPost_ret (results_ct (p:=2) (q:=3) rfl _ _ w.heap.size 139 #[.int .u8 0,.int .i64 0,.int .i64 0] (0,0) _ rfl HF.out.1 Tryz.underlying139 rfl info237) rfl ⟨rfl,HF.out.2⟩
theorem find_bad (st:Nat)(s:ByteArray)(w:World)(hR:zT 72 #[.string s] w (.tuple #[.agg #[.int .u8 0,.int .i64 0,.int .i64 0],.bool false])):
  zT 147 #[.pointer (some ⟨st,0,none⟩),.string s] w (.tuple #[.pointer none,.int .i64 0,.int .i64 7]):=by
 have HR:=zH hR;clear hR;go_enter Tryz.func147,Tryz.ntmps147;go_wp2_with fail;refine HR.out.mono ?_;rintro e w1 ⟨rfl,ht1⟩;have HT:=zH ht1;clear ht1;go_wp2_with fail;go_ret3;exact⟨rfl,HT.out.alloc _⟩
structure FindI (st:Nat)(s:ByteArray)(c num rcv:Int)(v:Value)(w:World):Prop where
 rd:zT 72 #[.string s] w (.tuple #[.agg #[.int .u8 c,.int .i64 num,.int .i64 rcv],.bool true])
 atq:∀W,Tch [] w W->zE 153 #[.pointer (some ⟨st,0,none⟩),.int .u8 c] W v
theorem find_nil (st:Nat)(s:ByteArray)(c num rcv:Int)(w:World)(h:FindI st s c num rcv (.pointer none) w):
  zT 147 #[.pointer (some ⟨st,0,none⟩),.string s] w (.tuple #[.pointer none,.int .i64 0,.int .i64 8]):=by
 have HI:=zH h;clear h;go_enter Tryz.func147,Tryz.ntmps147;go_wp2_with fail;refine HI.out.rd.mono ?_;rintro e w1 ⟨rfl,ht1⟩;obtain⟨w2,hw2⟩:∃w2,w2=w1.alloc (.cells #[.int .u8 c,.int .i64 num,.int .i64 rcv] 139):=⟨_,rfl⟩;have HT:Hid (Tch [] w w2):=by rw[hw2];exact ht1.alloc _
 have hr:w2.heap[w1.heap.size]?=some (.cells #[.int .u8 c,.int .i64 num,.int .i64 rcv] 139 (0,0)):=by rw[hw2];exact heap_alloc_new _ _
 have r0:w2.cell? ⟨w1.heap.size,0,none⟩=some (.int .u8 c):=cell_qC hr 0 _ rfl;clear ht1 hr
 go_upto_region 2 with fail
 rw[<-hw2];clear hw2;go_wp2_with fail;refine(HI.out.atq _ HT.out).mono ?_;rintro e w' ⟨rfl,h'⟩;have h'':=h'.symm;subst h'';go_wp2_with fail;go_ret3;exact⟨rfl,HT.out⟩
theorem find_fl (fl:Bool)(st qb:Nat)(s:ByteArray)(c num rcv:Int)(w:World)(h:FindI st s c num rcv (.pointer (some ⟨qb,0,none⟩)) w)
  (hF:∀W,Tch [] w W->zT 181 #[.pointer (some ⟨qb,0,none⟩),.agg #[.int .u8 c,.int .i64 num,.int .i64 rcv]] W (.bool fl)):
  zT 147 #[.pointer (some ⟨st,0,none⟩),.string s] w (.tuple #[if fl=true then .pointer (some ⟨qb,0,none⟩) else .pointer none,.int .i64 (if fl=true then num else 0),.int .i64 (if fl=true then 0 else 8)]):=by
 have HI:=zH h;have HF:=zH hF;clear h hF;go_enter Tryz.func147,Tryz.ntmps147;go_wp2_with fail;refine HI.out.rd.mono ?_;rintro e w1 ⟨rfl,ht1⟩;obtain⟨w2,hw2⟩:∃w2,w2=w1.alloc (.cells #[.int .u8 c,.int .i64 num,.int .i64 rcv] 139):=⟨_,rfl⟩;have HT:Hid (Tch [] w w2):=by rw[hw2];exact ht1.alloc _
 have hr:w2.heap[w1.heap.size]?=some (.cells #[.int .u8 c,.int .i64 num,.int .i64 rcv] 139 (0,0)):=by rw[hw2];exact heap_alloc_new _ _
 have r0:w2.cell? ⟨w1.heap.size,0,none⟩=some (.int .u8 c):=cell_qC hr 0 _ rfl;have r1:w2.cell? ⟨w1.heap.size,1,none⟩=some (.int .i64 num):=cell_qC hr 1 _ rfl;have r2:w2.cell? ⟨w1.heap.size,2,none⟩=some (.int .i64 rcv):=cell_qC hr 2 _ rfl;have l2:=lt_of_block hr;have HF2:=zH (HF.out w2 HT.out);clear ht1 hr HF
 go_upto_region 2 with fail
 rw[<-hw2];clear hw2;go_wp2_with fail;refine(HI.out.atq _ HT.out).mono ?_;rintro e w' ⟨rfl,h'⟩;have h'':=h'.symm;subst h'';go_wp2_with fail;refine HF2.out.mono ?_;rintro e w3 ⟨rfl,ht3⟩;have HT3:=zH (HT.out.trans ht3 (by simp));have q1:w3.cell? ⟨w1.heap.size,1,none⟩=some (.int .i64 num):=by rw[ht3.cell (a:=⟨w1.heap.size,1,none⟩) l2 (by simp)];exact r1
 clear ht3 HF2 r0 r1 r2
 cases fl with
 | true=>
  go_wp2_with fail;go_quiet (fail);go_wp2_with fail;go_ret3;exact⟨rfl,HT3.out.drewN _⟩
 | false=>
  go_wp2_with fail;go_ret3;exact⟨rfl,HT3.out⟩
theorem ack_no (er:Int)(her:er=7\/er=8)(r:Wp.Rq)(y:Sl)(st:Nat)(w:World)
  (hF:∀W,Tch [] w W->zT 147 #[.pointer (some ⟨st,0,none⟩),.string r.han] W (.tuple #[.pointer none,.int .i64 0,.int .i64 er])):
  zT 117 #[.pointer (some ⟨st,0,none⟩),.agg (cellsOf r y.v)] w (.tuple #[.slice none 0 0,.nilFunc,.int .i64 er]):=by
 have HF:=zH hF;have hne:(er != 0)=true:=by rcases her with rfl|rfl<;>rfl
 clear hF;rw[zM r y];go_enter Tryz.func117,Tryz.ntmps117;go_wp2_with fail;refine(HF.out _ ((Tch.refl _ _).alloc _)).mono ?_;rintro e w1 ⟨rfl,ht1⟩;have HT:Hid (Tch [] w w1):=((Tch.refl [] w).alloc _).trans ht1 (by simp);clear ht1 HF;go_wp2_with fail;go_ret3;exact⟨rfl,(HT.out.alloc _).alloc _⟩
theorem ack_ok (num:Int)(qb:Nat)(r:Wp.Rq)(y:Sl)(st:Nat)(w:World)
  (hF:∀W,Tch [] w W->zT 147 #[.pointer (some ⟨st,0,none⟩),.string r.han] W (.tuple #[.pointer (some ⟨qb,0,none⟩),.int .i64 num,.int .i64 0])):
  Calls Tryz.prog 117 #[.pointer (some ⟨st,0,none⟩),.agg (cellsOf r y.v)] w fun e w'=>∃gq gn,e=.returned (.tuple #[.slice none 0 0,.func (.func 148) #[] #[.pointer (some ⟨gq,0,none⟩),.pointer (some ⟨gn,0,none⟩)],.int .i64 0])/\Tch [] w w'/\w'.heap[gq]?=some (.cells #[.pointer (some ⟨qb,0,none⟩)] 88 (0,0))/\w'.heap[gn]?=some (.cells #[.int .i64 num] 3 (0,0)):=by
 have HF:=zH hF;clear hF;rw[zM r y];go_enter Tryz.func117,Tryz.ntmps117;go_wp2_with fail;refine(HF.out _ ((Tch.refl _ _).alloc _)).mono ?_;rintro e w1 ⟨rfl,ht1⟩;have HT:Hid (Tch [] w w1):=((Tch.refl [] w).alloc _).trans ht1 (by simp);clear ht1 HF;go_wp2_with fail;go_ret3;exact⟨w1.heap.size,w1.heap.size+1,rfl,(HT.out.alloc _).alloc _,heap_alloc2_old _ _ _,heap_alloc2_new _ _ _⟩
theorem ackd_walk (K:World->Prop)(num:Int)(qb gq gn:Nat)(w:World)(hq:w.heap[gq]?=some (.cells #[.pointer (some ⟨qb,0,none⟩)] 88 (0,0)))(hn:w.heap[gn]?=some (.cells #[.int .i64 num] 3 (0,0)))
  (hD:Calls Tryz.prog 149 #[.pointer (some ⟨qb,0,none⟩),.int .i64 num] w fun e w'=>e=.returned (.tuple #[])/\K w'):
  Calls Tryz.prog 148 #[.pointer (some ⟨gq,0,none⟩),.pointer (some ⟨gn,0,none⟩)] w fun e w'=>e=.returned (.tuple #[])/\K w':=by
 have c0:=cell_of_one hq;have c1:=cell_of_one hn;have HD:=zH hD;clear hD hq hn;go_enter Tryz.func148,Tryz.ntmps148;go_wp2_with fail;refine HD.out.mono ?_;rintro e w1 ⟨rfl,hk⟩;have HK:=zH hk;clear hk;go_wp2_with fail;go_end0;exact⟨rfl,HK.out⟩
theorem Jg.fq {x:Nat}{o:Option ByteArray}{room:Int}{c:Nat->Nat}(h:Jg B w x st o room col)(ht:Fq B c w w'):Jg B w' x st o room col:=by
 obtain⟨j,d,v,n,k,h⟩:=h;exact⟨j,d,v,n,k,ht.keep _ _ _ h.hx (by decide),⟨ht.keep _ _ _ h.jr.hj (by decide),⟨ht.keep _ _ _ h.jr.dsk.blk (by decide),ht.own h.jr.dsk.own (by decide),h.jr.dsk.sep⟩,h.jr.gd⟩,h.lo,h.bd,h.cj,h.dc⟩
structure Gh (B:Nat) where
 P:Bool->World->(Nat->Nat)->Prop
 n:Int
 c:Nat->Option QM
 t:∀{f:Bool} {w w':World} {col:Nat->Nat},P f w col->Tch [] w w'->P f w' col
 r:∀{f:Bool} {w:World} {col col':Nat->Nat},P f w col->(∀k,k<w.heap.size->col' k=9->col k=9)->(0<w.heap.size->col' 0=col 0)->P f w col'
 f:∀{f:Bool} {w w':World} {c col:Nat->Nat},P f w col->Fq B c w w'->P f w' col
 g:∀{f:Bool} {w w':World} {col:Nat->Nat} {T:List TypeId},P f w col->Fr B T w w'->60∉T->85∉T->77∉T->79∉T->P f w' col
def Gh.tt (B:Nat):Gh B:=⟨fun _ _ _=>True,0,fun _=>none,fun h _=>h,fun h _ _=>h,fun h _=>h,fun h _ _ _ _ _=>h⟩
def Gh.JO {B:Nat}(x:Gh B)(w0:World)(col:Nat->Nat)(w:World):Prop:=x.P true w col/\∀k:Nat,k<w0.heap.size->col k=9->w.heap[k]?=w0.heap[k]?
def Gh.of (B x st:Nat)(o o':Option ByteArray)(room room':Int)(n:Int)(c:Nat->Option QM):Gh B:=⟨fun f w col=>Jg B w x st (cond f o' o) (cond f room' room) col,n,c,fun h ht=>h.tch ht,fun h h1 h2=>h.recol h1 h2,fun h hf=>h.fq hf,fun h hf h1 h2 h3 h4=>h.fr hf h1 h2 h3 h4⟩
structure Sk (B:Nat)(w:World)(x:Gh B)(st b:Nat)(now:Int)(c:Nat->Option QM)(col:Nat->Nat):Prop where
 sg:∃Z,SG B w st b now Z col/\ctZ Z=c
 wf:WFc c
 nw:0<=now/\now<=60000
 jg:x.P true w col\/x.P false w col/\now=x.n/\c=x.c
 fut:∀k:Nat,w.heap.size<=k->col k≠9
theorem Sk.tch {x:Gh B}{c:Nat->Option QM}(h:Sk B w x st b now c col)(ht:Tch [] w w'):Sk B w' x st b now c col:=by
 obtain⟨⟨Z,h1,h2⟩,h3,h4,h5,h6⟩:=h;exact⟨⟨Z,h1.tch ht,h2⟩,h3,h4,h5.imp (fun h=>x.t h ht) (fun h=>⟨x.t h.1 ht,h.2⟩),fun k hk=>h6 k (Nat.le_trans ht.size hk)⟩
def Sd (B:Nat)(x:Gh B)(st b:Nat)(w:World)(col:Nat->Nat)(now:Int)(c:Nat->Option QM)(w':World):Prop:=∃col',Sk B w' x st b now c col'/\Agr w col col'/\FqT TA B col w w'
theorem did_same {x:Gh B}{c:Nat->Option QM}(h:Sk B w x st b now c col)(hB:B<=w.heap.size)(ht:Tch [] w w'):Sd B x st b w col now c w':=⟨col,h.tch ht,Agr.refl _ _,FqT.of_nil col ht hB⟩
theorem fr_fq (col:Nat->Nat)(h2:Tch [] w w2)(h3:Fr B TJ w2 w3)(hB:B<=w.heap.size)(ho:∀k:Nat,k<w.heap.size->col k=9->w3.heap[k]?=w.heap[k]?):FqT TA B col w w3:=FqT.of_fr (T:=TJ) ((Fr.of_nil TJ h2 hB).trans h3) (by decide) ho
theorem did_of {x:Gh B}{now now':Int}{Z Z':Nat->Option BQ}{col':Nat->Nat}(hB:B<=w.heap.size)(h2:Tch [] w w2)(h3:Fr B TJ w2 w3)(hfu:∀k:Nat,w.heap.size<=k->col k≠9)(hJ:x.JO w col w3)
  (hs:SG B w' st b now' Z' col')(hc:ctZ Z'=c')(hW:WFc c')(hn:0<=now'/\now'<=60000)(ha:Agr w3 col col')(hf:Fq B col w3 w'):Sd B x st b w col now' c' w':=by
 have hsz:=h2.size;have hsz3:=h3.size;have hsz5:=hf.size;exact⟨col',⟨⟨Z',hs,hc⟩,hW,hn,.inl (x.f (x.r hJ.1 (fun k _ e=>ha.2 k e) (fun h=>ha.1 0 h)) hf),fun k hk e=>hfu k (by omega) (ha.2 k e)⟩,⟨fun k hk=>ha.1 k (by omega),ha.2⟩,(fr_fq col h2 h3 hB hJ.2).trans (Agr.refl _ _) (hf.mono ts_ta)⟩
theorem did_n {x:Gh B}(hB:B<=w.heap.size)(h2:Tch [] w w2)(h3:Fr B TJ w2 w3)(hfu:∀k:Nat,w.heap.size<=k->col k≠9)(hJ:x.JO w col w3)(hn:SGn B st b now w3 w' Z col c')(hW:WFc c')(ht:0<=now/\now<=60000):Sd B x st b w col now c' w':=by
 obtain⟨Z',col',k1,k2,k3,k4,k5,k6,k7⟩:=hn;exact did_of (now:=now) (Z:=Z) hB h2 h3 hfu hJ k1 k2 hW ht k4 k5
theorem SG.lay (h:SG B w st b now Z col)(h2:Tch [] w w2)(h3:Fr B TJ w2 w3):SG B w3 st b now Z col:=(h.tch h2).fr h3 (by decide) (by decide) (by decide)
theorem eg159:∀args w,(callFunc 119 args).run Tryz.prog w=.ok (.enter 119 args) w:=enters_of Tryz.func119 (by kernel_rfl) rfl
theorem eg165:∀args w,(callFunc 125 args).run Tryz.prog w=.ok (.enter 125 args) w:=enters_of Tryz.func125 (by kernel_rfl) rfl
theorem eg157:∀args w,(callFunc 117 args).run Tryz.prog w=.ok (.enter 117 args) w:=enters_of Tryz.func117 (by kernel_rfl) rfl
theorem eg207:∀args w,(callFunc 160 args).run Tryz.prog w=.ok (.enter 160 args) w:=enters_of Tryz.func160 (by kernel_rfl) rfl
theorem eg163:∀args w,(callFunc 123 args).run Tryz.prog w=.ok (.enter 123 args) w:=enters_of Tryz.func123 (by kernel_rfl) rfl
theorem eg164:∀args w,(callFunc 124 args).run Tryz.prog w=.ok (.enter 124 args) w:=enters_of Tryz.func124 (by kernel_rfl) rfl
theorem eg201:∀args w,(callFunc 154 args).run Tryz.prog w=.ok (.enter 154 args) w:=enters_of Tryz.func154 (by kernel_rfl) rfl
theorem eg220:∀args w,(callFunc 173 args).run Tryz.prog w=.ok (.enter 173 args) w:=enters_of Tryz.func173 (by kernel_rfl) rfl
theorem eg195:∀args w,(callFunc 148 args).run Tryz.prog w=.ok (.enter 148 args) w:=enters_of Tryz.func148 (by kernel_rfl) rfl
def newM (r:Wp.Rq):QM:=⟨r,1,[],[],[],[]⟩
def nilV:QV:=⟨.slice none 0 0,.slice none 0 0,.slice none 0 0,.slice none 0 0⟩
theorem newM_wf {r:Wp.Rq}(h:CfW i r):QW i (newM r):=
 {c:=h,nx:=⟨by show 1<=1;omega,by show 1<=201;omega⟩,mq:=by show ((0:Nat):Int)<=r.quo;have:=h.quo.1;omega,nums:=List.Pairwise.nil,mok:=fun m hm=>by simp[newM]at hm,hd:=fun m hm=>by simp[newM]at hm,rn:=List.nodup_nil,rr:=fun g=>by simp[newM],dn:=List.Pairwise.nil,dok:=fun m hm=>by simp[newM]at hm,al:=by simp[newM],aok:=fun m hm=>by simp[newM]at hm}
theorem SG.crt (h:SG B w st b now Z col)(hB:B<=w.heap.size)(hi:i<8)(r:Wp.Rq)(ht:Tch [st] w w')(hz:w'.heap.size=w.heap.size+2)(hs:Stb w' st b now (updP (fun i=>ptrV (ptZ Z i)) i (.pointer (some ⟨w.heap.size+1,0,none⟩))))
  (hq:w'.heap[w.heap.size+1]?=some (.cells (qC r 1 (.slice none 0 0) (.slice none 0 0) (.slice none 0 0) (.slice none 0 0)) 137 (0,0))):
  ∃col',SG B w' st b now (updZ Z i (some ⟨w.heap.size+1,nilV,newM r⟩)) col'/\Agr w col col'/\Fq B col w w':=by
 have hst0:=h.stb;have hns:∀{k:Nat} {C:Array Value} {t:TypeId},w.heap[k]?=some (.cells C t (0,0))->t≠94->k∉[st]:=fun {k C t} hk hne hm=>by
  simp at hm;subst hm;rw[hst0]at hk;simp at hk;exact hne hk.2.symm
 have hbl:qbl (w.heap.size+1) nilV=[w.heap.size+1]:=rfl;refine⟨fun k=>if k<w.heap.size then col k else i,⟨?_,?_,?_,?_,?_,h.ls,by show (if st<w.heap.size then col st else i)≠9;rw[if_pos h.stb.lt];exact h.cs⟩,agr_new (by omega),?_⟩
 ·have e:(fun j=>ptrV (ptZ (updZ Z i (some ⟨w.heap.size+1,nilV,newM r⟩)) j))=updP (fun i=>ptrV (ptZ Z i)) i (.pointer (some ⟨w.heap.size+1,0,none⟩)):=by
   funext j;unfold updP ptZ updZ
   by_cases e:j=i
   ·simp[e,ptrV]
   ·simp[e]
  rw[e];exact hs
 ·exact fun q f hq=>(ht.block _ (lt_of_block (h.tb q f hq)) (hns (h.tb q f hq) (by decide))).trans (h.tb q f hq)
 ·intro q z hq' hz'
  by_cases e:q=i
  ·subst e;rw[updZ_same]at hz';injection hz' with hz';subst hz';exact⟨hq,World.ownsRow_nil _ _ _ _,World.ownsRow_nil _ _ _ _,World.ownsRow_nil _ _ _ _,World.ownsRow_nil _ _ _ _⟩
  ·rw[updZ_ne _ _ e]at hz';exact(h.qr q z hq' hz').tch ht (fun k hk hm=>by
    simp at hm;subst hm;exact(h.qr q z hq' hz').nty h.stb (by decide) hk)
 ·intro q z hq' hz' k hk
  by_cases e:q=i
  ·subst e;rw[updZ_same]at hz';injection hz' with hz';subst hz';rw[hbl]at hk;simp at hk;subst hk;exact if_neg (by omega)
  ·rw[updZ_ne _ _ e]at hz';simp[(h.qr q z hq' hz').lt k hk,h.cl q z hq' hz' k hk]
 ·intro q z hq' hz' k hk
  by_cases e:q=i
  ·subst e;rw[updZ_same]at hz';injection hz' with hz';subst hz';rw[hbl]at hk;simp at hk;omega
  ·rw[updZ_ne _ _ e]at hz';exact h.lo q z hq' hz' k hk
 ·refine FqT.of_tch ht hB (fun k hk=>?_) (fun k hk C t hC=>?_) (fun k hk=>?_)
  ·simp at hk;subst hk;exact h.ls
  ·simp at hk;subst hk;rw[hst0]at hC;simp at hC;rw[<-hC.2];decide
  ·simp at hk;subst hk;exact h.cs
theorem pt_of {c:Nat->Option QM}(hc:ctZ Z=c){i:Nat}(h:c i=none):Z i=none:=ctZ_none (by rw[hc];exact h)
theorem op_C (B:Nat)(r:Wp.Rq)(x:Gh B)(st b i:Nat)(now:Int)(c:Nat->Option QM)(col:Nat->Nat)(w:World)(hE:Env B w)(hb:Sk B w x st b now c col)(hop:r.op=67)(hi:i<8)(hq:r.q.toNat=97+i)(hcf:CfW i r)(hno:c i=none)(Z:Nat->Option BQ)(o:Option ByteArray)(room:Int)(hs:SG B w st b now Z col)(hc:ctZ Z=c)(W:World)(y:Sl)(ht:Tch [] w W):
  Calls Tryz.prog 30 #[.pointer (some ⟨st,0,none⟩),.agg (cellsOf r y.v)] W fun e w'=>Tch [] W w'/\PlG B ((setC c i (some (newM r)))=c) (fun w'=>x.JO w col w') (fun t w'=>t=okL []/\Sd B x st b w col now (setC c i (some (newM r))) w') e w':=by
 refine plan_p B _ _ r y st b 2 119 now _ W (by rw[hop];rfl) (by decide) (hs.tch ht).stb rfl eg159 ?_;intro W1 ht1;have tW:=ht.trans ht1 (by simp);have hz:=pt_of hc hno;refine(crt_ok r y st W1 (fun W2 ht2=>?_)).mono ?_
 ·have h1:=at_g st b i now _ W2 (hs.tch (tW.trans ht2 (by simp))).stb hi;have e:((r.q.toNat:Nat):Int)=97+(i:Int):=by rw[hq];omega
  rw[e];have e2:ptrV (ptZ Z i)=.pointer none:=by unfold ptZ;rw[hz];rfl
  rw[e2]at h1;exact h1
 ·rintro e w1 ⟨gr,gs,rfl,ht2,hgr,hgs⟩;refine⟨ht2,.inr ⟨_,_,[],rfl,.inl ⟨rfl,rfl⟩,fun w2 ht3=>.inr ⟨154,_,rfl,eg201,fun w3 w4 ht4 hf4 hJ4=>?_⟩⟩⟩
  have t23:=ht3.trans ht4 (by simp);have t3:=(tW.trans ht2 (by simp)).trans t23 (by simp);have hs4:=hs.lay t3 hf4;have hz3:=t3.size;have hz4:=hf4.size;have kgr:=hf4.keep _ _ _ ((t23.block _ (lt_of_block hgr) (by simp)).trans hgr) (by decide);have kgs:=hf4.keep _ _ _ ((t23.block _ (lt_of_block hgs) (by simp)).trans hgs) (by decide);refine(made_sg r y gr gs st b i now _ w4 hq hi hs4.stb kgr kgs).mono ?_;rintro e w5 ⟨rfl,k1,k2,k3,k4⟩;obtain⟨col',j1,j2,j3⟩:=hs4.crt (by have:=hE.size;omega) hi r k1 k2 k3 k4;refine⟨rfl,rfl,did_of (now:=now) (Z:=Z) hE.size t3 hf4 hb.fut hJ4 j1 ?_ (hb.wf.set (newM_wf hcf)) hb.nw j2 j3⟩;rw[ctZ_upd,hc];rfl
theorem op_T (B:Nat)(r:Wp.Rq)(x:Gh B)(st b:Nat)(now:Int)(c:Nat->Option QM)(col:Nat->Nat)(w:World)(hE:Env B w)(hb:Sk B w x st b now c col)(hop:r.op=84)(hn:0<=r.tic/\now+r.tic<=60000)(Z:Nat->Option BQ)(o:Option ByteArray)(room:Int)(hs:SG B w st b now Z col)(hc:ctZ Z=c)(W:World)(y:Sl)(ht:Tch [] w W):
  Calls Tryz.prog 30 #[.pointer (some ⟨st,0,none⟩),.agg (cellsOf r y.v)] W fun e w'=>Tch [] W w'/\PlG B ((timeC (now+r.tic) c)=c) (fun w'=>x.JO w col w') (fun t w'=>t=okL []/\Sd B x st b w col (now+r.tic) (timeC (now+r.tic) c) w') e w':=by
 refine plan_p B _ _ r y st b 19 125 now _ W (by rw[hop];rfl) (by decide) (hs.tch ht).stb rfl eg165 ?_;intro W1 ht1;have tW:=ht.trans ht1 (by simp);have hnw:=hb.nw;refine(goOn_c r y st now W1 (hs.tch tW).stb.now ⟨hnw.1,hn.1,hn.2⟩).mono ?_;rintro e w1 ⟨gs,gl,rfl,ht2,hgs,hgl⟩;refine⟨ht2,.inr ⟨_,_,[],rfl,.inl ⟨rfl,rfl⟩,fun w2 ht3=>.inr ⟨173,_,rfl,eg220,fun w3 w4 ht4 hf4 hJ4=>?_⟩⟩⟩
 have t23:=ht3.trans ht4 (by simp);have t3:=(tW.trans ht2 (by simp)).trans t23 (by simp);have hs4:=hs.lay t3 hf4;have hz3:=t3.size;have hz4:=hf4.size;have kgs:=hf4.keep _ _ _ ((t23.block _ (lt_of_block hgs) (by simp)).trans hgs) (by decide);have kgl:=hf4.keep _ _ _ ((t23.block _ (lt_of_block hgl) (by simp)).trans hgl) (by decide);refine went_walk _ gs gl st (now+r.tic) w4 kgs kgl ((set_sg B st b now (now+r.tic) Z col w4 hs4 (by have:=hE.size;omega) (by rw[hc];exact hb.wf)).mono ?_);rintro e w5 ⟨rfl,Z',col',k1,k2,k3,k4,k5,k6⟩;refine⟨rfl,rfl,?_⟩;rw[hc]at k2;rw[k2]at k3;exact did_of (now:=now) (Z:=Z) hE.size t3 hf4 hb.fut hJ4 k1 k2 k3 ⟨by omega,hn.2⟩ k5 k6
def purgQ (Q:QM):QM:={Q with ms:=[],rs:=[],ats:=[]}
theorem purge_any (qb:Nat)(now:Int)(r:Wp.Rq)(y:Sl)(w:World):
  Calls Tryz.prog 122 #[.pointer (some ⟨qb,0,none⟩),.int .i64 now,.agg (cellsOf r y.v)] w fun e w'=>∃gq,e=.returned (.tuple #[.slice none 0 0,.func (.func 161) #[] #[.pointer (some ⟨gq,0,none⟩)],.int .i64 0])/\Tch [] w w'/\w'.heap[gq]?=some (.cells #[.pointer (some ⟨qb,0,none⟩)] 88 (0,0)):=by
 rw[zM r y];go_enter Tryz.func122,Tryz.ntmps122;go_wp2_with fail;go_ret3;exact⟨w.heap.size,rfl,((Tch.refl _ _).alloc _).alloc _,heap_alloc2_old _ _ _⟩
theorem QR.noA {qb:Nat}{V:QV}{Q:QM}(h:QR w qb V Q):QS w (w.setCell ⟨qb,10,none⟩ (.slice none 0 0)) qb V {V with a:=.slice none 0 0} {Q with ats:=[]}:=by
 have t3:Tch [qb] w (w.setCell ⟨qb,10,none⟩ (.slice none 0 0)):=(Tch.refl _ _).setCell (fun _=>by simp) _;have nq:∀{t s n:Nat} {v:Value} {xs:List Value},w.ownsRow 0 t s v n xs->t≠137->∀k,v.ownBlock=some k->k∉[qb]:=fun hv hne k hk hm=>by
  simp at hm;subst hm;exact own_ne hv h.blk hne hk
 refine⟨⟨h.blk.set10 _,own_tch h.m t3 (nq h.m (by decide)),own_tch h.r t3 (nq h.r (by decide)),own_tch h.d t3 (nq h.d (by decide)),World.ownsRow_nil _ _ _ _⟩,t3.sub (fun x hx _=>by simp at hx;exact mem_qbl.2 (.inl hx)),fun b hb'=>?_⟩
 rcases mem_qbl.1 hb' with e|e|e|e|e
 ·exact .inl (mem_qbl.2 (.inl e))
 ·exact .inl (mem_qbl.2 (.inr (.inl e)))
 ·exact .inl (mem_qbl.2 (.inr (.inr (.inl e))))
 ·exact .inl (mem_qbl.2 (.inr (.inr (.inr (.inl e)))))
 ·simp[Value.ownBlock]at e
theorem purged_any (Q:QM)(V:QV)(qb gq:Nat)(w:World)(h:QR w qb V Q)(hq:w.heap[gq]?=some (.cells #[.pointer (some ⟨qb,0,none⟩)] 88 (0,0))):
  Calls Tryz.prog 161 #[.pointer (some ⟨gq,0,none⟩)] w fun e w'=>e=.returned (.tuple #[])/\QL w w' qb V (purgQ Q):=by
 have hne:gq≠qb:=fun e=>by
  have h1:=h.blk;unfold Qb at h1;rw[<-e,hq]at h1;simp at h1
 obtain⟨k7,z7,s7⟩:=h.newM (w2:=w) (v':=.slice none 0 0) (ms':=[]) (Tch.refl _ _) (World.ownsRow_nil _ _ _ _) (fun k hk=>by simp[Value.ownBlock]at hk);obtain⟨k8,z8,s8⟩:=s7.qr.newR (w2:=w.setCell ⟨qb,7,none⟩ (.slice none 0 0)) (v':=.slice none 0 0) (rs':=[]) (Tch.refl _ _) (World.ownsRow_nil _ _ _ _) (fun k hk=>by simp[Value.ownBlock]at hk);have s10:=s8.qr.noA;have HFI:=zH (((s7.trans s8).trans s10).ql);have k10:=cell_qC s8.qr.blk 10 _ rfl;have z10:=s8.qr.blk.fz 10;obtain⟨w1,hw1⟩:∃w1,w1=w.setCell ⟨qb,7,none⟩ (.slice none 0 0):=⟨_,rfl⟩;rw[<-hw1]at HFI k8 z8 k10 z10;obtain⟨w2,hw2⟩:∃w2,w2=w1.setCell ⟨qb,8,none⟩ (.slice none 0 0):=⟨_,rfl⟩;rw[<-hw2]at HFI k10 z10;have lq:=h.blk.lt;have c0:=cell_of_one hq;have zz1:w1.heap.size=w.heap.size:=by rw[hw1];exact World.size_setCell _ _ _
 have zz2:w2.heap.size=w.heap.size:=by rw[hw2,World.size_setCell];exact zz1
 have c1:w1.cell? ⟨gq,0,none⟩=some (.pointer (some ⟨qb,0,none⟩)):=by rw[hw1];exact(World.cell?_of_block (Below.heap_setCell w _ _ gq hne)).trans c0
 have c2:w2.cell? ⟨gq,0,none⟩=some (.pointer (some ⟨qb,0,none⟩)):=by rw[hw2];exact(World.cell?_of_block (Below.heap_setCell w1 _ _ gq hne)).trans c1
 clear h hq s7 s8 s10 hne zz1 zz2;go_enter Tryz.func161,Tryz.ntmps161
 go_upto_region 1 with fail
 rw[<-hw1];clear hw1
 go_upto_region 2 with fail
 rw[<-hw2];clear hw2;go_wp2_with fail;go_end0;exact⟨rfl,HFI.out⟩
end Go.Proofs.YtbdobaapadlcjabGreatDoor
