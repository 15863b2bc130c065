import Derived.Test.YtbdobaapadlcjaaGreatDoorBy14
set_option maxRecDepth 8000
set_option maxHeartbeats 2000000
set_option linter.unusedVariables false
set_option linter.unusedSimpArgs false
namespace Go.Proofs.YtbdobaapadlcjaaGreatDoor
open Go.RowKit
variable {B x st i qb:Nat}{w w' w2 w3:World}{now room til num:Int}{col:Nat->Nat}{o:Option ByteArray}{Z:Nat->Option BQ}{c':Nat->Option QM}{r:Wp.Rq}{V:QV}{Q:QM}{ms:List Ms}{m:Ms}
theorem a3x (s:ByteArray)(w:World):Cp 83 #[.string s] w fun e w'=>e=.returned (zp w.heap.size)/\w'=w.alloc (.cells #[.string s,.bool false] 184):=by
 go_enter Tryz.func83,Tryz.ntmps83
 go_wp2
 go_ret;exact⟨rfl,rfl⟩
theorem a2o:(Tryz.prog.info? 237).map (·.size)=some 3:=by kernel_rfl
theorem a6g (B:Nat)(s:ByteArray)(w:World)(hL:Lays B w)(hB:B<=w.heap.size)(h8:s.size=8)(h0:s[0]=72)(h1:zj s[1]=true):
  zT 188 #[.string s] w (.tuple #[.agg #[.int .u8 (s[1].toNat:Int),.int .i64 (leN (tk (s.extract 2 8) 4).data.toList:Nat),.int .i64 (leN (tk (lf (s.extract 2 8) 4) 2).data.toList:Nat)],.bool true]):=by
 have hn0:s[0].toNat=72:=by rw[h0];rfl
 obtain⟨wb,hwb⟩:∃wb,wb=w.alloc (.cells #[.int .u8 0,.int .i64 0,.int .i64 0] 237):=⟨_,rfl⟩;have tb:Tch [] w wb:=by rw[hwb];exact(Tch.refl _ _).alloc _
 have HRB:Hid (wb.heap[w.heap.size]?=some (.cells #[.int .u8 0,.int .i64 0,.int .i64 0] 237 (0,0))):=by rw[hwb];exact heap_alloc_new _ _
 have HQ:Hid (zT 236 #[.int .u8 (s[1].toNat:Int)] wb (.bool true)):=by
  have h:=a1X B s[1] wb (hL.below (tb.below (by simp) hB)) (by have:=tb.size;omega);rw[h1]at h;exact h
 have HT:=zH tb;clear tb hL h1 h0;generalize hn1:s[1].toNat=c at*
 go_enter Tryz.func188,Tryz.ntmps188;go_wp2_with fail;rw[<-hwb];clear hwb;refine HQ.out.mono ?_;rintro e w1 ⟨rfl,ht1⟩;have HT1:=zH (HT.out.trans ht1 (by simp));have HR1:Hid (w1.heap[w.heap.size]?=some (.cells #[.int .u8 0,.int .i64 0,.int .i64 0] 237 (0,0))):=(ht1.block _ (lt_of_block HRB.out) (by simp)).trans HRB.out;clear ht1 HT HRB;go_wp2_with fail;refine(a3x _ _).mono ?_;rintro e w2 ⟨rfl,hw2⟩;have lb:=lt_of_block HR1.out;have HT2:Hid (Tch [] w w2):=by rw[hw2];exact HT1.out.alloc _
 have HR2:Hid (w2.heap[w.heap.size]?=some (.cells #[.int .u8 0,.int .i64 0,.int .i64 0] 237 (0,0))):=by rw[hw2];exact(Below.heap_alloc _ _ _ lb).trans HR1.out
 have HD2:Hid (Rd w2 w1.heap.size (s.extract 2 8) false):=by rw[hw2];exact heap_alloc_new _ _
 have z2:w2.heap.size=w1.heap.size+1:=by rw[hw2];simp
 clear hw2 HR1 HT1 HQ;have hes:(s.extract 2 8).size=6:=by simp[ByteArray.size_extract,h8]
 generalize hte:s.extract 2 8=t at*
 have HTE:=zH hte;clear hte;generalize w1.heap.size=rb at*
 obtain⟨w3,hw3⟩:∃w3,w3=w2.alloc (.cells #[.int .u8 (c:Int),.int .i64 0,.int .i64 0] 237):=⟨_,rfl⟩;have lb2:=lt_of_block HR2.out;have ld2:=lt_of_block HD2.out;have HT3:Hid (Tch [] w w3):=by rw[hw3];exact HT2.out.alloc _
 have HR3:Hid (w3.heap[w.heap.size]?=some (.cells #[.int .u8 0,.int .i64 0,.int .i64 0] 237 (0,0))):=by rw[hw3];exact(Below.heap_alloc _ _ _ lb2).trans HR2.out
 have HD3:Hid (Rd w3 rb t false):=by rw[hw3];exact(Below.heap_alloc _ _ _ ld2).trans HD2.out
 have HH3:Hid (w3.heap[w2.heap.size]?=some (.cells #[.int .u8 (c:Int),.int .i64 0,.int .i64 0] 237 (0,0))):=by rw[hw3];exact heap_alloc_new _ _
 have HN4:Hid (Cp 84 #[zp rb,.int .i64 4] w3 _):=a5T rb t false w3 (by rw[hes];decide) (by omega) HD3.out;go_wp2_with fail;rw[<-hw3];clear hw3 HD2 HR2 HT2;refine HN4.out.mono ?_;rintro e w4 ⟨rfl,hR4,hg4,z4⟩;obtain⟨g2,hg2⟩:∃g2,g2=rb+1:=⟨_,rfl⟩;rw[z2,<-hg2]at HH3;obtain⟨g0,hg0⟩:∃g0,g0=w.heap.size:=⟨_,rfl⟩;rw[<-hg0]at HR3;have n02:g0≠g2:=by omega
 have n0r:g0≠rb:=by omega
 have n2r:g2≠rb:=by omega
 have HT4:Hid (Tch [] w w4):=HT3.out.grown hg4 (fun k hk hlt=>by simp only[Option.some.injEq]at hk;omega);have HR4:Hid (w4.heap[g0]?=some (.cells #[.int .u8 0,.int .i64 0,.int .i64 0] 237 (0,0))):=(hg4.block g0 (lt_of_block HR3.out) (fun e=>n0r (Option.some.inj e))).trans HR3.out;have HH4:Hid (w4.heap[g2]?=some (.cells #[.int .u8 (c:Int),.int .i64 0,.int .i64 0] 237 (0,0))):=(hg4.block g2 (lt_of_block HH3.out) (fun e=>n2r (Option.some.inj e))).trans HH3.out;have HD4:=zH hR4;have hls:(lf t 4).size=2:=by unfold lf;rw[if_pos (by omega)];simp[ByteArray.size_extract,hes]
 have k1:w4.cell? ⟨g2,1,none⟩=some (.int .i64 0):=jb HH4.out 1 _ rfl;have z1:w4.frozen? ⟨g2,1,none⟩=false:=frozen_of_row w4 g2 1 _ 237 HH4.out;generalize hna:leN (tk t 4).data.toList=na at*
 have HNA:=zH hna;clear hna;generalize hlf:lf t 4=t2 at*
 have HLF:=zH hlf;clear hlf;generalize bad t false 4=f2 at*
 obtain⟨w5,hw5⟩:∃w5,w5=w4.setCell ⟨g2,1,none⟩ (.int .i64 (na:Int)):=⟨_,rfl⟩;have HT5:Hid (Tch [] w w5):=by rw[hw5];exact HT4.out.setCell (fun h=>by have h':g2<w.heap.size:=h;omega) _
 have HR5:Hid (w5.heap[g0]?=some (.cells #[.int .u8 0,.int .i64 0,.int .i64 0] 237 (0,0))):=by rw[hw5];exact(Below.heap_setCell w4 _ _ g0 (fun e=>n02 e)).trans HR4.out
 have HD5:Hid (Rd w5 rb t2 f2):=by rw[hw5];exact(Below.heap_setCell w4 _ _ rb (fun e=>n2r e.symm)).trans HD4.out
 have HH5:Hid (w5.heap[g2]?=some (.cells #[.int .u8 (c:Int),.int .i64 (na:Int),.int .i64 0] 237 (0,0))):=by rw[hw5];exact heap_setCell_same w4 g2 1 _ 237 _ HH4.out
 have HN6:Hid (Cp 84 #[zp rb,.int .i64 ((2:Nat):Int)] w5 _):=qJ rb t2 f2 2 w5 (.inr rfl) (by rw[hls];decide) HD5.out;have HG0:=zH hg0;have HLW:Hid (w.heap.size<g2):=by show _<_;omega
 clear HN4 HR3 HH3 HD3 HT3 hR4 hg4 hg0;rw[<-hg2];clear hg2;go_wp2_with fail;rw[<-hw5];clear hw5 HD4 HR4 HH4 HT4 k1 z1;refine HN6.out.mono ?_;rintro e w6 ⟨rfl,hR6,hg6,z6⟩;have HT6:Hid (Tch [] w w6):=HT5.out.grown hg6 (fun k hk hlt=>by simp only[Option.some.injEq]at hk;omega);have HR6:Hid (w6.heap[g0]?=some (.cells #[.int .u8 0,.int .i64 0,.int .i64 0] 237 (0,0))):=(hg6.block g0 (lt_of_block HR5.out) (fun e=>n0r (Option.some.inj e))).trans HR5.out;have HH6:Hid (w6.heap[g2]?=some (.cells #[.int .u8 (c:Int),.int .i64 (na:Int),.int .i64 0] 237 (0,0))):=(hg6.block g2 (lt_of_block HH5.out) (fun e=>n2r (Option.some.inj e))).trans HH5.out;have k2:w6.cell? ⟨g2,2,none⟩=some (.int .i64 0):=jb HH6.out 2 _ rfl;have z2':w6.frozen? ⟨g2,2,none⟩=false:=frozen_of_row w6 g2 2 _ 237 HH6.out;generalize hnb:leN (tk t2 2).data.toList=nb at*
 have HNB:=zH hnb;clear hnb;obtain⟨w7,hw7⟩:∃w7,w7=w6.setCell ⟨g2,2,none⟩ (.int .i64 (nb:Int)):=⟨_,rfl⟩;have HT7:Hid (Tch [] w w7):=by rw[hw7];exact HT6.out.setCell (fun h=>by have h':g2<w.heap.size:=h;have:=HG0.out;have:=HLW.out;omega) _
 have HR7:Hid (w7.heap[g0]?=some (.cells #[.int .u8 0,.int .i64 0,.int .i64 0] 237 (0,0))):=by rw[hw7];exact(Below.heap_setCell w6 _ _ g0 (fun e=>n02 e)).trans HR6.out
 have HH7:Hid (w7.heap[g2]?=some (.cells #[.int .u8 (c:Int),.int .i64 (na:Int),.int .i64 (nb:Int)] 237 (0,0))):=by rw[hw7];exact heap_setCell_same w6 g2 2 _ 237 _ HH6.out
 have m0:w7.cell? ⟨g2,0,none⟩=some (.int .u8 (c:Int)):=jb HH7.out 0 _ rfl;have m1:w7.cell? ⟨g2,1,none⟩=some (.int .i64 (na:Int)):=jb HH7.out 1 _ rfl;have m2:w7.cell? ⟨g2,2,none⟩=some (.int .i64 (nb:Int)):=jb HH7.out 2 _ rfl;have r0:w7.cell? ⟨g0,0,none⟩=some (.int .u8 0):=jb HR7.out 0 _ rfl;have r1:w7.cell? ⟨g0,1,none⟩=some (.int .i64 0):=jb HR7.out 1 _ rfl;have r2:w7.cell? ⟨g0,2,none⟩=some (.int .i64 0):=jb HR7.out 2 _ rfl;have f0:w7.frozen? ⟨g0,0,none⟩=false:=frozen_of_row w7 g0 0 _ 237 HR7.out;have f1:w7.frozen? ⟨g0,1,none⟩=false:=frozen_of_row w7 g0 1 _ 237 HR7.out;have f2:w7.frozen? ⟨g0,2,none⟩=false:=frozen_of_row w7 g0 2 _ 237 HR7.out;rw[<-HG0.out];clear HR6 HH6 HT6 HR5 HH5 HD5 HT5 hR6 hg6 HN6
 go_upto_region 7 with fail
 rw[<-hw7];clear hw7 k2 z2';go_wp2_with fail;have q1:=heap_setCell_same w7 g0 0 _ 237 (.int .u8 (c:Int)) HR7.out;have q2:=heap_setCell_same _ g0 1 _ 237 (.int .i64 (na:Int)) q1;have q3:=heap_setCell_same _ g0 2 _ 237 (.int .i64 (nb:Int)) q2;refine bodyPost_ret (kP (p:=2) (q:=3) rfl _ _ g0 237 #[.int .u8 (c:Int),.int .i64 (na:Int),.int .i64 (nb:Int)] (0,0) _ rfl q3 Tryz.underlying237 rfl a2o) rfl ⟨?_,?_⟩
 ·rw[HTE.out,HLF.out,HNA.out,HNB.out];rfl
 ·have hge:¬g0<w.heap.size:=by have:=HG0.out;omega
  exact((HT7.out.setCell (fun h=>absurd h hge) _).setCell (fun h=>absurd h hge) _).setCell (fun h=>absurd h hge) _
theorem a6f (g0:Nat)(w w1:World)(hg0:g0=w.heap.size)(hT:Tch [] w w1)(hR:w1.heap[g0]?=some (.cells #[.int .u8 0,.int .i64 0,.int .i64 0] 237 (0,0))):
  (((w1.setCell ⟨g0,0,none⟩ (.int .u8 0)).setCell ⟨g0,1,none⟩ (.int .i64 0)).setCell ⟨g0,2,none⟩ (.int .i64 0)).heap[g0]?=some (.cells #[.int .u8 0,.int .i64 0,.int .i64 0] 237 (0,0))/\Tch [] w (((w1.setCell ⟨g0,0,none⟩ (.int .u8 0)).setCell ⟨g0,1,none⟩ (.int .i64 0)).setCell ⟨g0,2,none⟩ (.int .i64 0)):=by
 have q1:=heap_setCell_same w1 g0 0 _ 237 (.int .u8 0) hR;have q2:=heap_setCell_same _ g0 1 _ 237 (.int .i64 0) q1;have q3:=heap_setCell_same _ g0 2 _ 237 (.int .i64 0) q2;have hge:¬g0<w.heap.size:=by omega
 exact⟨q3,((hT.setCell (fun h=>absurd h hge) _).setCell (fun h=>absurd h hge) _).setCell (fun h=>absurd h hge) _⟩
theorem b4F (B:Nat)(s:ByteArray)(w:World)(hL:Lays B w)(hB:B<=w.heap.size)(hs:s.size<=1000000)(hno:¬∃h8:s.size=8,s[0]=72/\zj s[1]=true):
  zT 188 #[.string s] w (.tuple #[.agg #[.int .u8 0,.int .i64 0,.int .i64 0],.bool false]):=by
 obtain⟨wb,hwb⟩:∃wb,wb=w.alloc (.cells #[.int .u8 0,.int .i64 0,.int .i64 0] 237):=⟨_,rfl⟩;have tb:Tch [] w wb:=by rw[hwb];exact(Tch.refl _ _).alloc _
 have hrb:wb.heap[w.heap.size]?=some (.cells #[.int .u8 0,.int .i64 0,.int .i64 0] 237 (0,0)):=by rw[hwb];exact heap_alloc_new _ _
 have r0:wb.cell? ⟨w.heap.size,0,none⟩=some (.int .u8 0):=jb hrb 0 _ rfl;have r1:wb.cell? ⟨w.heap.size,1,none⟩=some (.int .i64 0):=jb hrb 1 _ rfl;have r2:wb.cell? ⟨w.heap.size,2,none⟩=some (.int .i64 0):=jb hrb 2 _ rfl;have f0:wb.frozen? ⟨w.heap.size,0,none⟩=false:=frozen_of_row wb _ 0 _ 237 hrb;have f1:wb.frozen? ⟨w.heap.size,1,none⟩=false:=frozen_of_row wb _ 1 _ 237 hrb;have f2:wb.frozen? ⟨w.heap.size,2,none⟩=false:=frozen_of_row wb _ 2 _ 237 hrb;have lb:=lt_of_block hrb;have HF:Hid (_/\Tch [] w _):=a6f w.heap.size w wb rfl tb hrb
 by_cases h8:s.size=8
 ·by_cases h0:s[0]=72
  ·have h1:zj s[1]=false:=by
    rw[<-Bool.not_eq_true];exact fun h=>hno ⟨h8,h0,h⟩
   have hn0:s[0].toNat=72:=by rw[h0];rfl
   have HQ:Hid (zT 236 #[.int .u8 (s[1].toNat:Int)] wb (.bool false)):=by
    have h:=a1X B s[1] wb (hL.below (tb.below (by simp) hB)) (by have:=tb.size;omega);rw[h1]at h;exact h
   have HT:=zH tb;have HRB:=zH hrb;clear tb hL h1 h0 hrb hno HF r0 r1 r2 f0 f1 f2;go_enter Tryz.func188,Tryz.ntmps188;go_wp2_with fail;rw[<-hwb];clear hwb;refine HQ.out.mono ?_;rintro e w1 ⟨rfl,ht1⟩;have hT1:=HT.out.trans ht1 (by simp);have hr1:w1.heap[w.heap.size]?=some (.cells #[.int .u8 0,.int .i64 0,.int .i64 0] 237 (0,0)):=(ht1.block _ (lt_of_block HRB.out) (by simp)).trans HRB.out;have r0:w1.cell? ⟨w.heap.size,0,none⟩=some (.int .u8 0):=jb hr1 0 _ rfl;have r1:w1.cell? ⟨w.heap.size,1,none⟩=some (.int .i64 0):=jb hr1 1 _ rfl;have r2:w1.cell? ⟨w.heap.size,2,none⟩=some (.int .i64 0):=jb hr1 2 _ rfl;have f0:w1.frozen? ⟨w.heap.size,0,none⟩=false:=frozen_of_row w1 _ 0 _ 237 hr1;have f1:w1.frozen? ⟨w.heap.size,1,none⟩=false:=frozen_of_row w1 _ 1 _ 237 hr1;have f2:w1.frozen? ⟨w.heap.size,2,none⟩=false:=frozen_of_row w1 _ 2 _ 237 hr1;have HF:Hid (_/\Tch [] w _):=a6f w.heap.size w w1 rfl hT1 hr1;clear hT1 hr1 ht1 HT HRB HQ;go_wp2_with fail;exact bodyPost_ret (kP (p:=2) (q:=3) rfl _ _ w.heap.size 237 #[.int .u8 0,.int .i64 0,.int .i64 0] (0,0) _ rfl HF.out.1 Tryz.underlying237 rfl a2o) rfl ⟨rfl,HF.out.2⟩
  ·have hn0:¬s[0].toNat=72:=fun h=>h0 (UInt8.toNat_inj.1 (by rw[h];rfl))
   have hb0:(((s[0].toNat:Int)) != 72)=true:=by simp;omega
   clear tb hL h0 hrb hno;go_enter Tryz.func188,Tryz.ntmps188
   go_upto_region 1 with fail
   rw[<-hwb];clear hwb;go_wp2_with fail;exact bodyPost_ret (kP (p:=2) (q:=3) rfl _ _ w.heap.size 237 #[.int .u8 0,.int .i64 0,.int .i64 0] (0,0) _ rfl HF.out.1 Tryz.underlying237 rfl a2o) rfl ⟨rfl,HF.out.2⟩
 ·have hb8:((s.size:Int) != 8)=true:=by simp;omega
  clear tb hL hrb hno;go_enter Tryz.func188,Tryz.ntmps188
  go_upto_region 1 with fail
  rw[<-hwb];clear hwb;go_wp2_with fail;exact bodyPost_ret (kP (p:=2) (q:=3) rfl _ _ w.heap.size 237 #[.int .u8 0,.int .i64 0,.int .i64 0] (0,0) _ rfl HF.out.1 Tryz.underlying237 rfl a2o) rfl ⟨rfl,HF.out.2⟩
theorem b0Y (st:Nat)(s:ByteArray)(w:World)(hR:zT 188 #[.string s] w (.tuple #[.agg #[.int .u8 0,.int .i64 0,.int .i64 0],.bool false])):
  zT 194 #[zp st,.string s] w (.tuple #[.pointer none,.int .i64 0,.int .i64 7]):=by
 have HR:=zH hR;clear hR;go_enter Tryz.func194,Tryz.ntmps194;go_wp2_with fail;refine HR.out.mono ?_;rintro e w1 ⟨rfl,ht1⟩;have HT:=zH ht1;clear ht1;go_wp2_with fail;go_ret3;exact⟨rfl,HT.out.alloc _⟩
structure b5r (st:Nat)(s:ByteArray)(c num rcv:Int)(v:Value)(w:World):Prop where
 rd:zT 188 #[.string s] w (.tuple #[.agg #[.int .u8 c,.int .i64 num,.int .i64 rcv],.bool true])
 atq:∀W,Tch [] w W->zE 200 #[zp st,.int .u8 c] W v
theorem b0Z (st:Nat)(s:ByteArray)(c num rcv:Int)(w:World)(h:b5r st s c num rcv (.pointer none) w):
  zT 194 #[zp st,.string s] w (.tuple #[.pointer none,.int .i64 0,.int .i64 8]):=by
 have HI:=zH h;clear h;go_enter Tryz.func194,Tryz.ntmps194;go_wp2_with fail;refine HI.out.rd.mono ?_;rintro e w1 ⟨rfl,ht1⟩;obtain⟨w2,hw2⟩:∃w2,w2=w1.alloc (.cells #[.int .u8 c,.int .i64 num,.int .i64 rcv] 237):=⟨_,rfl⟩;have HT:Hid (Tch [] w w2):=by rw[hw2];exact ht1.alloc _
 have hr:w2.heap[w1.heap.size]?=some (.cells #[.int .u8 c,.int .i64 num,.int .i64 rcv] 237 (0,0)):=by rw[hw2];exact heap_alloc_new _ _
 have r0:w2.cell? ⟨w1.heap.size,0,none⟩=some (.int .u8 c):=jb hr 0 _ rfl;clear ht1 hr
 go_upto_region 2 with fail
 rw[<-hw2];clear hw2;go_wp2_with fail;refine(HI.out.atq _ HT.out).mono ?_;rintro e w' ⟨rfl,h'⟩;have h'':=h'.symm;subst h'';go_wp2_with fail;go_ret3;exact⟨rfl,HT.out⟩
theorem b3O (fl:Bool)(st qb:Nat)(s:ByteArray)(c num rcv:Int)(w:World)(h:b5r st s c num rcv (zp qb) w)
  (hF:∀W,Tch [] w W->zT 252 #[zp qb,.agg #[.int .u8 c,.int .i64 num,.int .i64 rcv]] W (.bool fl)):
  zT 194 #[zp st,.string s] w (.tuple #[if fl=true then zp qb else .pointer none,.int .i64 (if fl=true then num else 0),.int .i64 (if fl=true then 0 else 8)]):=by
 have HI:=zH h;have HF:=zH hF;clear h hF;go_enter Tryz.func194,Tryz.ntmps194;go_wp2_with fail;refine HI.out.rd.mono ?_;rintro e w1 ⟨rfl,ht1⟩;obtain⟨w2,hw2⟩:∃w2,w2=w1.alloc (.cells #[.int .u8 c,.int .i64 num,.int .i64 rcv] 237):=⟨_,rfl⟩;have HT:Hid (Tch [] w w2):=by rw[hw2];exact ht1.alloc _
 have hr:w2.heap[w1.heap.size]?=some (.cells #[.int .u8 c,.int .i64 num,.int .i64 rcv] 237 (0,0)):=by rw[hw2];exact heap_alloc_new _ _
 have r0:w2.cell? ⟨w1.heap.size,0,none⟩=some (.int .u8 c):=jb hr 0 _ rfl;have r1:w2.cell? ⟨w1.heap.size,1,none⟩=some (.int .i64 num):=jb hr 1 _ rfl;have r2:w2.cell? ⟨w1.heap.size,2,none⟩=some (.int .i64 rcv):=jb hr 2 _ rfl;have l2:=lt_of_block hr;have HF2:=zH (HF.out w2 HT.out);clear ht1 hr HF
 go_upto_region 2 with fail
 rw[<-hw2];clear hw2;go_wp2_with fail;refine(HI.out.atq _ HT.out).mono ?_;rintro e w' ⟨rfl,h'⟩;have h'':=h'.symm;subst h'';go_wp2_with fail;refine HF2.out.mono ?_;rintro e w3 ⟨rfl,ht3⟩;have HT3:=zH (HT.out.trans ht3 (by simp));have q1:w3.cell? ⟨w1.heap.size,1,none⟩=some (.int .i64 num):=by rw[ht3.cell (a:=⟨w1.heap.size,1,none⟩) l2 (by simp)];exact r1
 clear ht3 HF2 r0 r1 r2
 cases fl with
 | true=>
  go_wp2_with fail;go_quiet (fail);go_wp2_with fail;go_ret3;exact⟨rfl,HT3.out.drewN _⟩
 | false=>
  go_wp2_with fail;go_ret3;exact⟨rfl,HT3.out⟩
theorem a4n (er:Int)(her:er=7\/er=8)(r:Wp.Rq)(y:Sl)(st:Nat)(w:World)
  (hF:∀W,Tch [] w W->zT 194 #[zp st,.string r.han] W (.tuple #[.pointer none,.int .i64 0,.int .i64 er])):
  zT 157 #[zp st,.agg (ja r y.v)] w (.tuple #[.slice none 0 0,.nilFunc,.int .i64 er]):=by
 have HF:=zH hF;have hne:(er != 0)=true:=by rcases her with rfl|rfl<;>rfl
 clear hF;rw[zM r y];go_enter Tryz.func157,Tryz.ntmps157;go_wp2_with fail;refine(HF.out _ ((Tch.refl _ _).alloc _)).mono ?_;rintro e w1 ⟨rfl,ht1⟩;have HT:Hid (Tch [] w w1):=((Tch.refl [] w).alloc _).trans ht1 (by simp);clear ht1 HF;go_wp2_with fail;go_ret3;exact⟨rfl,(HT.out.alloc _).alloc _⟩
theorem a6v (num:Int)(qb:Nat)(r:Wp.Rq)(y:Sl)(st:Nat)(w:World)
  (hF:∀W,Tch [] w W->zT 194 #[zp st,.string r.han] W (.tuple #[zp qb,.int .i64 num,.int .i64 0])):
  Cp 157 #[zp st,.agg (ja r y.v)] w fun e w'=>∃gq gn,e=.returned (.tuple #[.slice none 0 0,.func (.func 195) #[] #[zp gq,zp gn],.int .i64 0])/\Tch [] w w'/\w'.heap[gq]?=some (.cells #[zp qb] 152 (0,0))/\w'.heap[gn]?=some (.cells #[.int .i64 num] 3 (0,0)):=by
 have HF:=zH hF;clear hF;rw[zM r y];go_enter Tryz.func157,Tryz.ntmps157;go_wp2_with fail;refine(HF.out _ ((Tch.refl _ _).alloc _)).mono ?_;rintro e w1 ⟨rfl,ht1⟩;have HT:Hid (Tch [] w w1):=((Tch.refl [] w).alloc _).trans ht1 (by simp);clear ht1 HF;go_wp2_with fail;go_ret3;exact⟨w1.heap.size,w1.heap.size+1,rfl,(HT.out.alloc _).alloc _,heap_alloc2_old _ _ _,heap_alloc2_new _ _ _⟩
theorem a8K (K:World->Prop)(num:Int)(qb gq gn:Nat)(w:World)(hq:w.heap[gq]?=some (.cells #[zp qb] 152 (0,0)))(hn:w.heap[gn]?=some (.cells #[.int .i64 num] 3 (0,0)))
  (hD:Cp 196 #[zp qb,.int .i64 num] w fun e w'=>e=.returned (.tuple #[])/\K w'):
  Cp 195 #[zp gq,zp gn] w fun e w'=>e=.returned (.tuple #[])/\K w':=by
 have c0:=cell_of_one hq;have c1:=cell_of_one hn;have HD:=zH hD;clear hD hq hn;go_enter Tryz.func195,Tryz.ntmps195;go_wp2_with fail;refine HD.out.mono ?_;rintro e w1 ⟨rfl,hk⟩;have HK:=zH hk;clear hk;go_wp2_with fail;go_end0;exact⟨rfl,HK.out⟩
structure Bk (B:Nat)(w:World)(x st b:Nat)(now:Int)(c:Nat->Option QM)(col:Nat->Nat):Prop where
 sg:∃Z,SG B w st b now Z col/\ctZ Z=c
 wf:WFc c
 nw:0<=now/\now<=60000
 jg:∃o room,Jg B w x st o room col
 fut:∀k:Nat,w.heap.size<=k->col k≠9
theorem Bk.tch {b:Nat}{c:Nat->Option QM}(h:Bk B w x st b now c col)(ht:Tch [] w w'):Bk B w' x st b now c col:=by
 obtain⟨⟨Z,h1,h2⟩,h3,h4,⟨o,room,h5⟩,h6⟩:=h;exact⟨⟨Z,h1.tch ht,h2⟩,h3,h4,⟨o,room,h5.tch ht⟩,fun k hk=>h6 k (Nat.le_trans ht.size hk)⟩
def Did (B x st b:Nat)(w:World)(col:Nat->Nat)(now:Int)(c:Nat->Option QM)(w':World):Prop:=∃col',Bk B w' x st b now c col'/\Agr w col col'/\FqT TA B col w w'
theorem vW {b:Nat}{c:Nat->Option QM}(h:Bk B w x st b now c col)(hB:B<=w.heap.size)(ht:Tch [] w w'):Did B x st b w col now c w':=⟨col,h.tch ht,Agr.refl _ _,FqT.of_nil col ht hB⟩
theorem Jg.fq {c:Nat->Nat}(h:Jg B w x st o room col)(ht:Fq B c w w'):Jg B w' x st o room col:=by
 rcases h with h|⟨j,d,v,n,k,h⟩
 ·exact .inl h
 exact .inr ⟨j,d,v,n,k,ht.keep _ _ _ h.hx (by decide),⟨ht.keep _ _ _ h.jr.hj (by decide),⟨ht.keep _ _ _ h.jr.dsk.blk (by decide),ht.own h.jr.dsk.own (by decide),h.jr.dsk.sep⟩,h.jr.gd⟩,h.lo,h.bd,h.cj⟩
theorem b5H (col:Nat->Nat)(h2:Tch [] w w2)(h3:Fr B TJ w2 w3)(hB:B<=w.heap.size)(ho:∀k:Nat,k<w.heap.size->col k=9->w3.heap[k]?=w.heap[k]?):FqT TA B col w w3:=FqT.of_fr (T:=TJ) ((Fr.of_nil TJ h2 hB).trans h3) (by decide) ho
theorem a2B {b:Nat}{now now':Int}{Z Z':Nat->Option BQ}{col':Nat->Nat}(hB:B<=w.heap.size)(h2:Tch [] w w2)(h3:Fr B TJ w2 w3)(hfu:∀k:Nat,w.heap.size<=k->col k≠9)(hJ:JgO B w col w3 x st o room)
  (hs:SG B w' st b now' Z' col')(hc:ctZ Z'=c')(hW:WFc c')(hn:0<=now'/\now'<=60000)(ha:Agr w3 col col')(hf:Fq B col w3 w'):Did B x st b w col now' c' w':=by
 have hsz:=h2.size;have hsz3:=h3.size;have hsz5:=hf.size;exact⟨col',⟨⟨Z',hs,hc⟩,hW,hn,⟨o,room,(hJ.1.recol (fun k _ e=>ha.2 k e)).fq hf⟩,fun k hk e=>hfu k (by omega) (ha.2 k e)⟩,⟨fun k hk=>ha.1 k (by omega),ha.2⟩,(b5H col h2 h3 hB hJ.2).trans (Agr.refl _ _) (hf.mono b5P)⟩
theorem a5z {b:Nat}(hB:B<=w.heap.size)(h2:Tch [] w w2)(h3:Fr B TJ w2 w3)(hfu:∀k:Nat,w.heap.size<=k->col k≠9)(hJ:JgO B w col w3 x st o room)(hn:SGn B st b now w3 w' Z col c')(hW:WFc c')(ht:0<=now/\now<=60000):Did B x st b w col now c' w':=by
 obtain⟨Z',col',k1,k2,k3,k4,k5,k6,k7⟩:=hn;exact a2B (now:=now) (Z:=Z) hB h2 h3 hfu hJ k1 k2 hW ht k4 k5
theorem SG.lay {b:Nat}(h:SG B w st b now Z col)(h2:Tch [] w w2)(h3:Fr B TJ w2 w3):SG B w3 st b now Z col:=(h.tch h2).fr h3 (by decide) (by decide) (by decide)
theorem b5u:∀args w,(callFunc 159 args).run Tryz.prog w=.ok (.enter 159 args) w:=enters_of Tryz.func159 (by kernel_rfl) rfl
theorem b5w:∀args w,(callFunc 165 args).run Tryz.prog w=.ok (.enter 165 args) w:=enters_of Tryz.func165 (by kernel_rfl) rfl
theorem b0S:∀args w,(callFunc 157 args).run Tryz.prog w=.ok (.enter 157 args) w:=enters_of Tryz.func157 (by kernel_rfl) rfl
theorem a0Z:∀args w,(callFunc 207 args).run Tryz.prog w=.ok (.enter 207 args) w:=enters_of Tryz.func207 (by kernel_rfl) rfl
theorem b5v:∀args w,(callFunc 163 args).run Tryz.prog w=.ok (.enter 163 args) w:=enters_of Tryz.func163 (by kernel_rfl) rfl
theorem a8a:∀args w,(callFunc 164 args).run Tryz.prog w=.ok (.enter 164 args) w:=enters_of Tryz.func164 (by kernel_rfl) rfl
theorem b8m:∀args w,(callFunc 201 args).run Tryz.prog w=.ok (.enter 201 args) w:=enters_of Tryz.func201 (by kernel_rfl) rfl
theorem b8p:∀args w,(callFunc 220 args).run Tryz.prog w=.ok (.enter 220 args) w:=enters_of Tryz.func220 (by kernel_rfl) rfl
theorem b8j:∀args w,(callFunc 195 args).run Tryz.prog w=.ok (.enter 195 args) w:=enters_of Tryz.func195 (by kernel_rfl) rfl
def newM (r:Wp.Rq):QM:=⟨r,1,[],[],[],[]⟩
def b7j:QV:=⟨.slice none 0 0,.slice none 0 0,.slice none 0 0,.slice none 0 0⟩
theorem b4j (h:CfW i r):QW i (newM r):=
 {c:=h,nx:=⟨by show 1<=1;omega,by show 1<=201;omega⟩,mq:=by show ((0:Nat):Int)<=r.quo;have:=h.quo.1;omega,nums:=List.Pairwise.nil,mok:=fun m hm=>by simp[newM]at hm,hd:=fun m hm=>by simp[newM]at hm,rn:=List.nodup_nil,rr:=fun g=>by simp[newM],dn:=List.Pairwise.nil,dok:=fun m hm=>by simp[newM]at hm,al:=by simp[newM],aok:=fun m hm=>by simp[newM]at hm}
theorem SG.crt {b:Nat}(h:SG B w st b now Z col)(hB:B<=w.heap.size)(hi:i<8)(r:Wp.Rq)(ht:Tch [st] w w')(hz:w'.heap.size=w.heap.size+2)(hs:Stb w' st b now (vE (fun i=>jB (ptZ Z i)) i (zp (w.heap.size+1))))
  (hq:w'.heap[w.heap.size+1]?=some (.cells (qC r 1 (.slice none 0 0) (.slice none 0 0) (.slice none 0 0) (.slice none 0 0)) 191 (0,0))):
  ∃col',SG B w' st b now (xM Z i (some ⟨w.heap.size+1,b7j,newM r⟩)) col'/\Agr w col col'/\Fq B col w w':=by
 have hst0:=h.stb;have hns:∀{k:Nat} {C:Array Value} {t:TypeId},w.heap[k]?=some (.cells C t (0,0))->t≠156->k∉[st]:=fun {k C t} hk hne hm=>by
  simp at hm;subst hm;rw[hst0]at hk;simp at hk;exact hne hk.2.symm
 have hbl:qbl (w.heap.size+1) b7j=[w.heap.size+1]:=rfl;refine⟨fun k=>if k<w.heap.size then col k else i,⟨?_,?_,?_,?_,?_,h.ls,by show (if st<w.heap.size then col st else i)≠9;rw[if_pos h.stb.lt];exact h.cs⟩,a4o (by omega),?_⟩
 ·have e:(fun j=>jB (ptZ (xM Z i (some ⟨w.heap.size+1,b7j,newM r⟩)) j))=vE (fun i=>jB (ptZ Z i)) i (zp (w.heap.size+1)):=by
   funext j;unfold vE ptZ xM
   by_cases e:j=i
   ·simp[e,jB]
   ·simp[e]
  rw[e];exact hs
 ·exact fun q f hq=>(ht.block _ (lt_of_block (h.tb q f hq)) (hns (h.tb q f hq) (by decide))).trans (h.tb q f hq)
 ·intro q z hq' hz'
  by_cases e:q=i
  ·subst e;rw[kz]at hz';injection hz' with hz';subst hz';exact⟨hq,World.ownsRow_nil _ _ _ _,World.ownsRow_nil _ _ _ _,World.ownsRow_nil _ _ _ _,World.ownsRow_nil _ _ _ _⟩
  ·rw[kN _ _ e]at hz';exact(h.qr q z hq' hz').tch ht (fun k hk hm=>by
    simp at hm;subst hm;exact(h.qr q z hq' hz').nty h.stb (by decide) hk)
 ·intro q z hq' hz' k hk
  by_cases e:q=i
  ·subst e;rw[kz]at hz';injection hz' with hz';subst hz';rw[hbl]at hk;simp at hk;subst hk;exact if_neg (by omega)
  ·rw[kN _ _ e]at hz';simp[(h.qr q z hq' hz').lt k hk,h.cl q z hq' hz' k hk]
 ·intro q z hq' hz' k hk
  by_cases e:q=i
  ·subst e;rw[kz]at hz';injection hz' with hz';subst hz';rw[hbl]at hk;simp at hk;omega
  ·rw[kN _ _ e]at hz';exact h.lo q z hq' hz' k hk
 ·refine FqT.of_tch ht hB (fun k hk=>?_) (fun k hk C t hC=>?_) (fun k hk=>?_)
  ·simp at hk;subst hk;exact h.ls
  ·simp at hk;subst hk;rw[hst0]at hC;simp at hC;rw[<-hC.2];decide
  ·simp at hk;subst hk;exact h.cs
theorem a8x {c:Nat->Option QM}(hc:ctZ Z=c){i:Nat}(h:c i=none):Z i=none:=b0F (by rw[hc];exact h)
theorem b9A (B:Nat)(r:Wp.Rq)(x st b i:Nat)(now:Int)(c:Nat->Option QM)(col:Nat->Nat)(w:World)(hE:Env B w)(hb:Bk B w x st b now c col)(hop:r.op=67)(hi:i<8)(hq:r.q.toNat=97+i)(hcf:CfW i r)(hno:c i=none)(Z:Nat->Option BQ)(o:Option ByteArray)(room:Int)(hs:SG B w st b now Z col)(hc:ctZ Z=c)(W:World)(y:Sl)(ht:Tch [] w W):
  Cp 62 #[zp st,.agg (ja r y.v)] W fun e w'=>Tch [] W w'/\PlG B ((jI c i (some (newM r)))=c) (fun w'=>JgO B w col w' x st o room) (fun t w'=>t=okL []/\Did B x st b w col now (jI c i (some (newM r))) w') e w':=by
 refine vN B _ _ r y st b 2 159 now _ W (by rw[hop];rfl) (by decide) (hs.tch ht).stb rfl b5u ?_;intro W1 ht1;have tW:=ht.trans ht1 (by simp);have hz:=a8x hc hno;refine(b6l r y st W1 (fun W2 ht2=>?_)).mono ?_
 ·have h1:=a8Q st b i now _ W2 (hs.tch (tW.trans ht2 (by simp))).stb hi;have e:((r.q.toNat:Nat):Int)=97+(i:Int):=by rw[hq];omega
  rw[e];have e2:jB (ptZ Z i)=.pointer none:=by unfold ptZ;rw[hz];rfl
  rw[e2]at h1;exact h1
 ·rintro e w1 ⟨gr,gs,rfl,ht2,hgr,hgs⟩;refine⟨ht2,.inr ⟨_,_,[],rfl,.inl ⟨rfl,rfl⟩,fun w2 ht3=>.inr ⟨201,_,rfl,b8m,fun w3 w4 ht4 hf4 hJ4=>?_⟩⟩⟩
  have t23:=ht3.trans ht4 (by simp);have t3:=(tW.trans ht2 (by simp)).trans t23 (by simp);have hs4:=hs.lay t3 hf4;have hz3:=t3.size;have hz4:=hf4.size;have kgr:=hf4.keep _ _ _ ((t23.block _ (lt_of_block hgr) (by simp)).trans hgr) (by decide);have kgs:=hf4.keep _ _ _ ((t23.block _ (lt_of_block hgs) (by simp)).trans hgs) (by decide);refine(b4g r y gr gs st b i now _ w4 hq hi hs4.stb kgr kgs).mono ?_;rintro e w5 ⟨rfl,k1,k2,k3,k4⟩;obtain⟨col',j1,j2,j3⟩:=hs4.crt (by have:=hE.size;omega) hi r k1 k2 k3 k4;refine⟨rfl,rfl,a2B (now:=now) (Z:=Z) hE.size t3 hf4 hb.fut hJ4 j1 ?_ (hb.wf.set (b4j hcf)) hb.nw j2 j3⟩;rw[a0p,hc];rfl
theorem b9F (B:Nat)(r:Wp.Rq)(x st b:Nat)(now:Int)(c:Nat->Option QM)(col:Nat->Nat)(w:World)(hE:Env B w)(hb:Bk B w x st b now c col)(hop:r.op=84)(hn:0<=r.tic/\now+r.tic<=60000)(Z:Nat->Option BQ)(o:Option ByteArray)(room:Int)(hs:SG B w st b now Z col)(hc:ctZ Z=c)(W:World)(y:Sl)(ht:Tch [] w W):
  Cp 62 #[zp st,.agg (ja r y.v)] W fun e w'=>Tch [] W w'/\PlG B ((b9M (now+r.tic) c)=c) (fun w'=>JgO B w col w' x st o room) (fun t w'=>t=okL []/\Did B x st b w col (now+r.tic) (b9M (now+r.tic) c) w') e w':=by
 refine vN B _ _ r y st b 19 165 now _ W (by rw[hop];rfl) (by decide) (hs.tch ht).stb rfl b5w ?_;intro W1 ht1;have tW:=ht.trans ht1 (by simp);have hnw:=hb.nw;refine(b6I r y st now W1 (hs.tch tW).stb.now ⟨hnw.1,hn.1,hn.2⟩).mono ?_;rintro e w1 ⟨gs,gl,rfl,ht2,hgs,hgl⟩;refine⟨ht2,.inr ⟨_,_,[],rfl,.inl ⟨rfl,rfl⟩,fun w2 ht3=>.inr ⟨220,_,rfl,b8p,fun w3 w4 ht4 hf4 hJ4=>?_⟩⟩⟩
 have t23:=ht3.trans ht4 (by simp);have t3:=(tW.trans ht2 (by simp)).trans t23 (by simp);have hs4:=hs.lay t3 hf4;have hz3:=t3.size;have hz4:=hf4.size;have kgs:=hf4.keep _ _ _ ((t23.block _ (lt_of_block hgs) (by simp)).trans hgs) (by decide);have kgl:=hf4.keep _ _ _ ((t23.block _ (lt_of_block hgl) (by simp)).trans hgl) (by decide);refine b0e _ gs gl st (now+r.tic) w4 kgs kgl ((b7J B st b now (now+r.tic) Z col w4 hs4 (by have:=hE.size;omega) (by rw[hc];exact hb.wf)).mono ?_);rintro e w5 ⟨rfl,Z',col',k1,k2,k3,k4,k5,k6⟩;refine⟨rfl,rfl,?_⟩;rw[hc]at k2;rw[k2]at k3;exact a2B (now:=now) (Z:=Z) hE.size t3 hf4 hb.fut hJ4 k1 k2 k3 ⟨by omega,hn.2⟩ k5 k6
def xI (Q:QM):QM:={Q with ms:=[],rs:=[],ats:=[]}
theorem a9J (qb:Nat)(now:Int)(r:Wp.Rq)(y:Sl)(w:World):
  Cp 162 #[zp qb,.int .i64 now,.agg (ja r y.v)] w fun e w'=>∃gq,e=.returned (.tuple #[.slice none 0 0,.func (.func 208) #[] #[zp gq],.int .i64 0])/\Tch [] w w'/\w'.heap[gq]?=some (.cells #[zp qb] 152 (0,0)):=by
 rw[zM r y];go_enter Tryz.func162,Tryz.ntmps162;go_wp2_with fail;go_ret3;exact⟨w.heap.size,rfl,((Tch.refl _ _).alloc _).alloc _,heap_alloc2_old _ _ _⟩
theorem QR.noA (h:QR w qb V Q):QS w (w.setCell ⟨qb,10,none⟩ (.slice none 0 0)) qb V {V with a:=.slice none 0 0} {Q with ats:=[]}:=by
 have t3:Tch [qb] w (w.setCell ⟨qb,10,none⟩ (.slice none 0 0)):=(Tch.refl _ _).setCell (fun _=>by simp) _;have nq:∀{t s n:Nat} {v:Value} {xs:List Value},w.ownsRow 0 t s v n xs->t≠191->∀k,v.ownBlock=some k->k∉[qb]:=fun hv hne k hk hm=>by
  simp at hm;subst hm;exact jA hv h.blk hne hk
 refine⟨⟨h.blk.set10 _,jf h.m t3 (nq h.m (by decide)),jf h.r t3 (nq h.r (by decide)),jf h.d t3 (nq h.d (by decide)),World.ownsRow_nil _ _ _ _⟩,t3.sub (fun x hx _=>by simp at hx;exact ji.2 (.inl hx)),fun b hb'=>?_⟩
 rcases ji.1 hb' with e|e|e|e|e
 ·exact .inl (ji.2 (.inl e))
 ·exact .inl (ji.2 (.inr (.inl e)))
 ·exact .inl (ji.2 (.inr (.inr (.inl e))))
 ·exact .inl (ji.2 (.inr (.inr (.inr (.inl e)))))
 ·simp[Value.ownBlock]at e
theorem a7k (Q:QM)(V:QV)(qb gq:Nat)(w:World)(h:QR w qb V Q)(hq:w.heap[gq]?=some (.cells #[zp qb] 152 (0,0))):
  Cp 208 #[zp gq] w fun e w'=>e=.returned (.tuple #[])/\QL w w' qb V (xI Q):=by
 have hne:gq≠qb:=fun e=>by
  have h1:=h.blk;unfold Qb at h1;rw[<-e,hq]at h1;simp at h1
 obtain⟨k7,z7,s7⟩:=h.newM (w2:=w) (v':=.slice none 0 0) (ms':=[]) (Tch.refl _ _) (World.ownsRow_nil _ _ _ _) (fun k hk=>by simp[Value.ownBlock]at hk);obtain⟨k8,z8,s8⟩:=s7.qr.newR (w2:=w.setCell ⟨qb,7,none⟩ (.slice none 0 0)) (v':=.slice none 0 0) (rs':=[]) (Tch.refl _ _) (World.ownsRow_nil _ _ _ _) (fun k hk=>by simp[Value.ownBlock]at hk);have s10:=s8.qr.noA;have HFI:=zH (((s7.trans s8).trans s10).ql);have k10:=jb s8.qr.blk 10 _ rfl;have z10:=s8.qr.blk.fz 10;obtain⟨w1,hw1⟩:∃w1,w1=w.setCell ⟨qb,7,none⟩ (.slice none 0 0):=⟨_,rfl⟩;rw[<-hw1]at HFI k8 z8 k10 z10;obtain⟨w2,hw2⟩:∃w2,w2=w1.setCell ⟨qb,8,none⟩ (.slice none 0 0):=⟨_,rfl⟩;rw[<-hw2]at HFI k10 z10;have lq:=h.blk.lt;have c0:=cell_of_one hq;have zz1:w1.heap.size=w.heap.size:=by rw[hw1];exact World.size_setCell _ _ _
 have zz2:w2.heap.size=w.heap.size:=by rw[hw2,World.size_setCell];exact zz1
 have c1:w1.cell? ⟨gq,0,none⟩=some (zp qb):=by rw[hw1];exact(World.cell?_of_block (Below.heap_setCell w _ _ gq hne)).trans c0
 have c2:w2.cell? ⟨gq,0,none⟩=some (zp qb):=by rw[hw2];exact(World.cell?_of_block (Below.heap_setCell w1 _ _ gq hne)).trans c1
 clear h hq s7 s8 s10 hne zz1 zz2;go_enter Tryz.func208,Tryz.ntmps208
 go_upto_region 1 with fail
 rw[<-hw1];clear hw1
 go_upto_region 2 with fail
 rw[<-hw2];clear hw2;go_wp2_with fail;go_end0;exact⟨rfl,HFI.out⟩
theorem a0Q {p:Ms->Bool}:∀(l:List Ms),Ups l->∀x,l.find? p=some x->∀y∈l,p y=true->x.num<=y.num
 | [],_,x,h,_,_,_=>by simp at h
 | a::r,hu,x,h,y,hy,hp=>by
  obtain⟨h1,h2⟩:=List.pairwise_cons.1 hu
  by_cases ha:p a=true
  ·rw[List.find?_cons,ha]at h;injection h with h;subst h;rcases List.mem_cons.1 hy with rfl|hy
   ·omega
   ·have:=h1 y hy;omega
  ·have ha':p a=false:=by simpa using ha
   rw[List.find?_cons,ha']at h;rcases List.mem_cons.1 hy with rfl|hy
   ·exact absurd hp ha
   ·exact a0Q r h2 x h y hy hp
def a0g (ms:List Ms)(m:Ms):Bool:=(ms.find? (isG m.grp)).map Ms.num == some m.num
theorem xR (hu:Ups ms){m:Ms}(hm:m∈ms):a0g ms m=true↔ms.find? (isG m.grp)=some m:=by
 unfold a0g;rw[beq_iff_eq];constructor
 ·intro h;obtain⟨x,h1,h2⟩:=Option.map_eq_some_iff.1 h;rw[h1,vx hu (List.mem_of_find?_eq_some h1) hm h2]
 ·intro h;rw[h];rfl
theorem a7d (hu:Ups ms){m:Ms}(hm:m∈ms):a0g ms m=true↔∀y∈ms,y.grp=m.grp->m.num<=y.num:=by
 rw[xR hu hm];constructor
 ·intro h y hy he;exact a0Q ms hu m h y hy ((jY _ _).2 he)
 ·intro h
  cases hf:ms.find? (isG m.grp) with
  | none=>exact absurd ((jY m.grp m).2 rfl) (List.find?_eq_none.1 hf m hm)
  | some x=>
   have h1:=a0Q ms hu x hf m hm ((jY _ _).2 rfl);have h2:=List.mem_of_find?_eq_some hf;have h3:=(jY _ _).1 (List.find?_some hf);have h4:=h x h2 h3;rw[vx hu h2 hm (by omega)]
def inG (gs:List ByteArray)(m:Ms):Bool:=gs.any (fun g=>isG g m)
theorem xQ (gs:List ByteArray)(m:Ms):inG gs m=true↔m.grp∈gs:=by
 unfold inG;rw[List.any_eq_true];constructor
 ·rintro ⟨g,hg,he⟩;rw[(jY g m).1 he];exact hg
 ·intro h;exact⟨m.grp,h,(jY _ _).2 rfl⟩
def zx (til:Int)(ms:List Ms)(gs:List ByteArray)(m:Ms):Ms:=if inG gs m=true/\a0g ms m=true then a0c til m else m
theorem a1d (til:Int)(ms:List Ms)(gs:List ByteArray)(m:Ms):(zx til ms gs m).num=m.num:=by unfold zx;split<;>rfl
theorem vX (til:Int)(ms:List Ms)(gs:List ByteArray)(m:Ms):(zx til ms gs m).grp=m.grp:=by unfold zx;split<;>rfl
theorem b1c (til:Int)(ms:List Ms)(gs:List ByteArray)(m:Ms):(zx til ms gs m).bod=m.bod:=by unfold zx;split<;>rfl
theorem a0b (til:Int)(ms:List Ms)(gs:List ByteArray)(m:Ms):(zx til ms gs m).til=if inG gs m=true/\a0g ms m=true then til else m.til:=by unfold zx;split<;>rfl
theorem b5b {l:List Ms}(h:Ups l){i j:Nat}(hi:i<l.length)(hj:j<l.length)(e:l[i].num=l[j].num):i=j:=by
 have h1:=List.pairwise_iff_getElem.1 h
 by_cases h2:i<j
 ·have:=h1 i j hi hj h2;omega
 ·by_cases h3:j<i
  ·have:=h1 j i hj hi h3;omega
  ·omega
theorem QW.hidx (h:QW i Q){g:ByteArray}(hg:g∈Q.rs):0<=jj (isG g) Q.ms:=by
 obtain⟨m,hm,he⟩:=((h.rr g).1 hg).1;exact(a2n _ _).2 ⟨m,hm,(jY g m).2 he⟩
theorem a4E (h:QW i Q)(til:Int):∀(k:Nat),k<=Q.rs.length->jP til Q.ms (kc Q k)=Q.ms.map (zx til Q.ms (Q.rs.take k))
 | 0,_=>by
  have e:Q.ms.map (zx til Q.ms (Q.rs.take 0))=Q.ms:=by
   rw[List.map_congr_left (g:=id) (fun x _=>?_),List.map_id];unfold zx;rw[if_neg (by simp[inG])];rfl
  rw[e];rfl
 | k+1,hk=>by
  have hkl:k<Q.rs.length:=by omega
  have ih:=a4E h til k (by omega);have e1:kc Q (k+1)=kc Q k++[jj (isG Q.rs[k]) Q.ms]:=by
   unfold kc;rw[List.take_succ_eq_append_getElem hkl,List.map_append];rfl
  have hgm:Q.rs[k]∈Q.rs:=List.getElem_mem hkl;obtain⟨p,hp⟩:∃p:Nat,jj (isG Q.rs[k]) Q.ms=(p:Int):=⟨_,(Int.toNat_of_nonneg (h.hidx hgm)).symm⟩;obtain⟨hpl,hpg,hpf⟩:=qA _ _ p hp;have hgrp:=(jY _ _).1 hpg;have hnot:Q.rs[k]∉Q.rs.take k:=fun hm=>by
   have h1:=h.rn;rw[<-List.take_append_drop k Q.rs,List.nodup_append]at h1;have h2:Q.rs[k]∈Q.rs.drop k:=by
    rw[List.drop_eq_getElem_cons hkl];exact List.mem_cons_self
   exact h1.2.2 _ hm _ h2 rfl
  rw[e1,a0a,ih,hp];unfold zO;have e2:(Q.ms.map (zx til Q.ms (Q.rs.take k)))[((p:Nat):Int).toNat]?=some Q.ms[p]:=by
   rw[Int.toNat_natCast,List.getElem?_map,List.getElem?_eq_getElem hpl]
   show some _=_
   unfold zx;rw[if_neg (by rw[xQ,hgrp];exact fun hc=>hnot hc.1)]
  rw[e2]
  show (Q.ms.map _).set ((p:Nat):Int).toNat _=_
  rw[Int.toNat_natCast];apply List.ext_getElem (by simp);intro j h1 h2;have hjl:j<Q.ms.length:=by simpa using h2
  rw[List.getElem_set];simp only[List.getElem_map]
  by_cases e:p=j
  ·subst e;rw[if_pos rfl];unfold zx;rw[if_pos ⟨by rw[xQ,hgrp,List.take_succ_eq_append_getElem hkl];exact List.mem_append.2 (.inr (List.mem_singleton.2 rfl)),(xR h.nums (List.getElem_mem hpl)).2 (by rw[hgrp];exact hpf)⟩]
  ·rw[if_neg e];unfold zx;have e3:(inG (Q.rs.take (k+1)) Q.ms[j]=true/\a0g Q.ms Q.ms[j]=true)↔(inG (Q.rs.take k) Q.ms[j]=true/\a0g Q.ms Q.ms[j]=true):=by
    rw[xQ,xQ,List.take_succ_eq_append_getElem hkl,List.mem_append];constructor
    ·rintro ⟨h3|h3,h4⟩
     ·exact⟨h3,h4⟩
     ·exfalso;simp at h3;have h5:=(xR h.nums (List.getElem_mem hjl)).1 h4;rw[h3,hpf]at h5;injection h5 with h5;exact e (b5b h.nums hpl hjl (by rw[h5]))
    ·rintro ⟨h3,h4⟩;exact⟨.inl h3,h4⟩
   by_cases h6:inG (Q.rs.take k) Q.ms[j]=true/\a0g Q.ms Q.ms[j]=true
   ·rw[if_pos h6,if_pos (e3.2 h6)]
   ·rw[if_neg h6,if_neg (fun h7=>h6 (e3.1 h7))]
theorem QW.recv (h:QW i Q){cnt:Nat}(hc:cnt<=Q.rs.length){til:Int}(ht:0<til/\til<=61000):QW i {Q with ms:=jP til Q.ms (kc Q cnt),rs:=Q.rs.drop cnt}:=by
 rw[a4E h til cnt hc];have hnd:=h.rn;rw[<-List.take_append_drop cnt Q.rs,List.nodup_append]at hnd;refine {c:=h.c,nx:=h.nx,mq:=by simpa using h.mq,nums:=a0C h.nums _ (a1d _ _ _),mok:=fun x hx=>?_,hd:=fun x hx hf y hy he=>?_,rn:=hnd.2.1,rr:=fun g=>?_,dn:=h.dn,dok:=h.dok,al:=h.al,aok:=h.aok}
 ·obtain⟨a,ha,rfl⟩:=List.mem_map.1 hx;have h1:=h.mok a ha;refine⟨by rw[a1d];exact h1.num,by rw[vX];exact h1.grp,by rw[b1c];exact h1.bod,?_,?_⟩
  ·unfold zx
   split
   ·exact⟨by show (0:Int)<=((oft a.rcv.toNat:Nat):Int);omega,by show ((oft a.rcv.toNat:Nat):Int)<=65535;have:=a4S a.rcv.toNat;omega⟩
   ·exact h1.rcv
  ·rw[a0b]
   split
   ·exact⟨by omega,ht.2⟩
   ·exact h1.til
 ·obtain⟨a,ha,rfl⟩:=List.mem_map.1 hx;obtain⟨b,hb,rfl⟩:=List.mem_map.1 hy;rw[vX,vX]at he;rw[a1d,a1d];rw[a0b]at hf
  split at hf
  ·rename_i h1
   exact(a7d h.nums ha).1 h1.2 b hb he
  ·exact h.hd a ha hf b hb he
 ·show g∈Q.rs.drop cnt↔(∃x∈Q.ms.map (zx til Q.ms (Q.rs.take cnt)),x.grp=g)/\∀x∈Q.ms.map (zx til Q.ms (Q.rs.take cnt)),x.grp=g->x.til=0
  constructor
  ·intro hg;obtain⟨⟨a,ha,he⟩,hz⟩:=(h.rr g).1 (List.mem_of_mem_drop hg);have hnt:g∉Q.rs.take cnt:=fun hm=>hnd.2.2 g hm g hg rfl
   refine⟨⟨_,List.mem_map_of_mem ha,by rw[vX];exact he⟩,fun x hx he=>?_⟩
   obtain⟨b,hb,rfl⟩:=List.mem_map.1 hx;rw[vX]at he;rw[a0b,if_neg (by rw[xQ,he];exact fun hc=>hnt hc.1)];exact hz b hb he
  ·rintro ⟨⟨x,hx,hxg⟩,hz⟩;obtain⟨a,ha,rfl⟩:=List.mem_map.1 hx;rw[vX]at hxg;have hnt:g∉Q.rs.take cnt:=fun hm=>by
    cases hf:Q.ms.find? (isG g) with
    | none=>exact absurd ((jY g a).2 hxg) (List.find?_eq_none.1 hf a ha)
    | some y=>
     have hy:=List.mem_of_find?_eq_some hf;have hyg:=(jY _ _).1 (List.find?_some hf);have h1:=hz _ (List.mem_map_of_mem hy) (by rw[vX];exact hyg);rw[a0b,if_pos ⟨by rw[xQ,hyg];exact hm,(xR h.nums hy).2 (by rw[hyg];exact hf)⟩]at h1;omega
   have hg:g∈Q.rs:=(h.rr g).2 ⟨⟨a,ha,hxg⟩,fun b hb he=>by
    have h1:=hz _ (List.mem_map_of_mem hb) (by rw[vX];exact he);rw[a0b,if_neg (by rw[xQ,he];exact fun hc=>hnt hc.1)]at h1;exact h1⟩
   rw[<-List.take_append_drop cnt Q.rs]at hg;rcases List.mem_append.1 hg with hg|hg
   ·exact absurd hg hnt
   ·exact hg
theorem b3H (h:QW i Q){num:Int}{m:Ms}(hf:Q.ms.find? (isN num)=some m):qw Q num={Q with ms:=Q.ms.filter (fun a=>!isN num a),rs:=if jj (isG m.grp) (Q.ms.filter (fun a=>!isN num a))<0 then Q.rs else Q.rs++[m.grp]}:=by
 unfold qw;rw[hf];simp only[zu num Q.ms m h.nums hf]
theorem QW.drop (h:QW i Q){num:Int}{m:Ms}(hf:Q.ms.find? (isN num)=some m)(ht:0<m.til):QW i (qw Q num):=by
 rw[b3H h hf];obtain⟨hm,hn⟩:=vv hf;subst hn;have hmem:∀x,x∈Q.ms.filter (fun a=>!isN m.num a)↔x∈Q.ms/\x.num≠m.num:=fun x=>by
  rw[List.mem_filter];refine and_congr_right (fun _=>?_);rw[Bool.not_eq_true',<-Bool.not_eq_true,qO]
 have hzero:∀b∈Q.ms,b.grp=m.grp->b.num≠m.num->b.til=0:=fun b hb he hne=>by
  have h1:=(h.mok b hb).til
  by_cases h2:0<b.til
  ·exact absurd (congrArg Ms.num (h.one hb hm h2 ht he)) hne
  ·omega
 refine {c:=h.c,nx:=h.nx,mq:=?_,nums:=zG h.nums _,mok:=fun x hx=>h.mok x ((hmem x).1 hx).1,hd:=fun x hx ht y hy he=>h.hd x ((hmem x).1 hx).1 ht y ((hmem y).1 hy).1 he,rn:=?_,rr:=fun g=>?_,dn:=h.dn,dok:=h.dok,al:=h.al,aok:=h.aok}
 ·have h1:=List.length_filter_le (fun a=>!isN m.num a) Q.ms;have h2:=h.mq
  show ((Q.ms.filter (fun a=>!isN m.num a)).length:Int)<=Q.c.quo
  omega
 ·show (if jj (isG m.grp) (Q.ms.filter (fun a=>!isN m.num a))<0 then Q.rs else Q.rs++[m.grp]).Nodup
  split
  ·exact h.rn
  ·rw[List.nodup_append];refine⟨h.rn,by simp,fun a ha b hb=>?_⟩
   simp at hb;subst hb;exact fun e=>h.nr hm ht (e▸ha)
 ·show g∈(if jj (isG m.grp) (Q.ms.filter (fun a=>!isN m.num a))<0 then Q.rs else Q.rs++[m.grp])↔(∃x∈Q.ms.filter (fun a=>!isN m.num a),x.grp=g)/\∀x∈Q.ms.filter (fun a=>!isN m.num a),x.grp=g->x.til=0
  have hin:g∈(if jj (isG m.grp) (Q.ms.filter (fun a=>!isN m.num a))<0 then Q.rs else Q.rs++[m.grp])↔g∈Q.rs\/(g=m.grp/\∃x∈Q.ms.filter (fun a=>!isN m.num a),x.grp=m.grp):=by
   by_cases hneg:jj (isG m.grp) (Q.ms.filter (fun a=>!isN m.num a))<0
   ·rw[if_pos hneg];constructor
    ·exact .inl
    ·rintro (h1|⟨_,x,hx,he⟩)
     ·exact h1
     ·have:=(qq _ _).1 hneg x hx;rw[(jY _ _).2 he]at this;simp at this
   ·rw[if_neg hneg];obtain⟨x,hx,he⟩:=(a2n _ _).1 (show 0<=jj (isG m.grp) (Q.ms.filter (fun a=>!isN m.num a)) by omega);rw[List.mem_append];constructor
    ·rintro (h1|h1)
     ·exact .inl h1
     ·simp at h1;exact .inr ⟨h1,x,hx,(jY _ _).1 he⟩
    ·rintro (h1|⟨h1,_⟩)
     ·exact .inl h1
     ·exact .inr (by simp[h1])
  rw[hin];constructor
  ·rintro (hg|⟨rfl,x,hx,he⟩)
   ·obtain⟨⟨a,ha,he⟩,hz⟩:=(h.rr g).1 hg;refine⟨⟨a,(hmem a).2 ⟨ha,fun e=>?_⟩,he⟩,fun x hx he=>hz x ((hmem x).1 hx).1 he⟩
    have:=vx h.nums ha hm e;subst this;have:=hz a ha he;omega
   ·exact⟨⟨x,hx,he⟩,fun y hy hye=>hzero y ((hmem y).1 hy).1 hye ((hmem y).1 hy).2⟩
  ·rintro ⟨⟨x,hx,hxg⟩,hz⟩
   by_cases e:g=m.grp
   ·exact .inr ⟨e,x,hx,by rw[hxg,e]⟩
   ·refine .inl ((h.rr g).2 ⟨⟨x,((hmem x).1 hx).1,hxg⟩,fun b hb he=>hz b ((hmem b).2 ⟨hb,fun en=>?_⟩) he⟩);have:=vx h.nums hb hm en;subst this;exact e he.symm
theorem QW.ext (h:QW i Q){num til:Int}{m:Ms}(hf:Q.ms.find? (isN num)=some m)(ht:0<m.til)(hl:0<til/\til<=61000):QW i (jm Q num til):=by
 obtain⟨hm,hn⟩:=vv hf;subst hn;rw[a5j Q h.nums];have hz0:∀a∈Q.ms,(kZ m.num til a).til=0↔a.til=0:=fun a ha=>by
  rw[xf]
  split
  ·rename_i e
   have:=vx h.nums ha hm e;subst this;constructor<;>intro h1<;>omega
  ·exact Iff.rfl
 refine {c:=h.c,nx:=h.nx,mq:=by simpa using h.mq,nums:=a0C h.nums _ (qZ _ _),mok:=h.msT ⟨by omega,hl.2⟩,hd:=fun x hx hf y hy he=>?_,rn:=h.rn,rr:=fun g=>?_,dn:=h.dn,dok:=h.dok,al:=h.al,aok:=h.aok}
 ·obtain⟨a,ha,rfl⟩:=List.mem_map.1 hx;obtain⟨b,hb,rfl⟩:=List.mem_map.1 hy;rw[ki,ki]at he;rw[qZ,qZ];have h1:=hz0 a ha;have h2:=(h.mok a ha).til;exact h.hd a ha (by omega) b hb he
 ·show g∈Q.rs↔(∃x∈Q.ms.map (kZ m.num til),x.grp=g)/\∀x∈Q.ms.map (kZ m.num til),x.grp=g->x.til=0
  rw[h.rr g];constructor
  ·rintro ⟨⟨a,ha,he⟩,hz⟩;refine⟨⟨_,List.mem_map_of_mem ha,by rw[ki];exact he⟩,fun x hx he=>?_⟩
   obtain⟨b,hb,rfl⟩:=List.mem_map.1 hx;rw[ki]at he;exact(hz0 b hb).2 (hz b hb he)
  ·rintro ⟨⟨x,hx,hxg⟩,hz⟩;obtain⟨a,ha,rfl⟩:=List.mem_map.1 hx;rw[ki]at hxg;exact⟨⟨a,ha,hxg⟩,fun b hb he=>(hz0 b hb).1 (hz _ (List.mem_map_of_mem hb) (by rw[ki];exact he))⟩
theorem QW.purg (h:QW i Q):QW i (xI Q):=
 {c:=h.c,nx:=h.nx,mq:=by show ((0:Nat):Int)<=Q.c.quo;have:=h.c.quo.1;omega,nums:=List.Pairwise.nil,mok:=fun m hm=>by simp[xI]at hm,hd:=fun m hm=>by simp[xI]at hm,rn:=List.nodup_nil,rr:=fun g=>by simp[xI],dn:=h.dn,dok:=h.dok,al:=by simp[xI],aok:=fun m hm=>by simp[xI]at hm}
theorem QW.send (h:QW i Q){r:Wp.Rq}{now:Int}(hq:(Q.ms.length:Int)<Q.c.quo)(hn:Q.next<=200)(hg:1<=r.grp.size/\r.grp.size<=8)(hb:r.bod.size<=40)(hid:(ks r).size<=8)(hnow:0<=now/\now<=60000):QW i (vl Q r now):=by
 have h1:=h.put (g:=r.grp) (b:=r.bod) (by omega) hn hg hb;have hnx:=h.nx;have hwin:=h.c.win;refine {c:=h1.c,nx:=h1.nx,mq:=h1.mq,nums:=h1.nums,mok:=h1.mok,hd:=h1.hd,rn:=h1.rn,rr:=h1.rr,dn:=?_,dok:=?_,al:=h1.al,aok:=h1.aok}
 ·show (if 0<Q.c.win then Q.ds++[⟨ks r,(Q.next:Nat),now+Q.c.win⟩] else Q.ds).Pairwise _
  split
  ·rw[List.pairwise_append];refine⟨h.dn,by simp,fun a ha b hb=>?_⟩
   simp at hb;subst hb;exact(h.dok a ha).2.1.2
  ·exact h.dn
 ·show ∀d∈(if 0<Q.c.win then Q.ds++[⟨ks r,(Q.next:Nat),now+Q.c.win⟩] else Q.ds),d.id.size<=8/\(1<=d.num/\d.num<((Q.next+1:Nat):Int))/\0<=d.til/\d.til<=62000
  have hold:∀d∈Q.ds,d.id.size<=8/\(1<=d.num/\d.num<((Q.next+1:Nat):Int))/\0<=d.til/\d.til<=62000:=fun d hd=>by
   have h2:=h.dok d hd;exact⟨h2.1,⟨h2.2.1.1,by have:=h2.2.1.2;omega⟩,h2.2.2⟩
  split
  ·intro d hd;rcases List.mem_append.1 hd with hd|hd
   ·exact hold d hd
   ·simp at hd;subst hd;exact⟨hid,⟨by show (1:Int)<=(Q.next:Nat);omega,by show ((Q.next:Nat):Int)<((Q.next+1:Nat):Int);omega⟩,by show (0:Int)<=now+Q.c.win;omega,by show now+Q.c.win<=62000;omega⟩
  ·exact hold
theorem a7i (l:List At)(g c i:Nat)(cur:Array Value)(w:World)(hi:i<l.length)(hrow:w.heap[g]?=some (.cells cur 234 (0,0)))(hnc:l.length<=c)(hcm:c<=maxLen)(hcs:cur.size=c*3)(htake:cur.toList.take (l.length*3)=l.flatMap At.row):
  ∃xs:List Value,xs.take ((l.length-1)*3)=(l.eraseIdx i).flatMap At.row/\(w.setRow g (cur.toList.take (i*3)++(l.drop (i+1)).flatMap At.row++cur.toList.drop (i*3+((l.drop (i+1)).flatMap At.row).length)).toArray).ownsRow 0 234 3 (.slice (some ⟨g,0,none⟩) l.length c) l.length xs:=by
 have hln:((l.drop (i+1)).flatMap At.row).length=(l.length-(i+1))*3:=by rw[qH At.row 3 (fun _=>rfl),List.length_drop]
 have hcl:cur.toList.length=c*3:=by simpa using hcs
 have ht1:cur.toList.take (i*3)=(l.take i).flatMap At.row:=by
  have h1:=congrArg (List.take (i*3)) htake;rw[List.take_take,Nat.min_eq_left (by omega),ze At.row 3 (fun _=>rfl) l i (by omega)]at h1;exact h1
 have htl:(cur.toList.take (i*3)++(l.drop (i+1)).flatMap At.row).length=(l.length-1)*3:=by
  rw[List.length_append,hln,List.length_take,hcl];omega
 have hnl:(cur.toList.take (i*3)++(l.drop (i+1)).flatMap At.row++cur.toList.drop (i*3+((l.drop (i+1)).flatMap At.row).length)).length=c*3:=by
  rw[List.length_append,htl,List.length_drop,hln,hcl];omega
 refine⟨(cur.toList.take (i*3)++(l.drop (i+1)).flatMap At.row++cur.toList.drop (i*3+((l.drop (i+1)).flatMap At.row).length)).take (l.length*3),?_,?_,.inr ⟨g,c,_,rfl,Nat.zero_le _,setRow_heap w g cur _ 234 _ hrow,hnc,hcm,?_,?_⟩⟩
 ·rw[List.take_take,Nat.min_eq_left (by omega),List.take_append_of_le_length (by omega),List.take_of_length_le (by omega),ht1,<-List.flatMap_append,List.eraseIdx_eq_take_drop_succ]
 ·rw[List.length_take,hnl];omega
 ·rw[List.size_toArray,hnl]
 ·rfl
theorem a6H (l:List At)(i:Nat)(hi:i<l.length):(l.eraseIdx i).length=l.length-1:=List.length_eraseIdx_of_lt hi
theorem a5x (l:List At)(g c i:Nat)(w:World)(ho:w.ownsRow 0 234 3 (.slice (some ⟨g,0,none⟩) l.length c) l.length (l.flatMap At.row))(hi:i<l.length)(hl:l.length<=1000):
  Cp 267 #[.slice (some ⟨g,0,none⟩) l.length c,.int .i64 (i:Int),.int .i64 ((i:Int)+1)] w fun e w'=>e=.returned (.slice (some ⟨g,0,none⟩) (l.length-1) c)/\w'.ownsRow 0 234 3 (.slice (some ⟨g,0,none⟩) (l.length-1) c) (l.eraseIdx i).length ((l.eraseIdx i).flatMap At.row)/\Tch [g] w w':=by
 obtain⟨cur,hrow,hnc,hcm,hcs,htake⟩:∃cur:Array Value,w.heap[g]?=some (.cells cur 234 (0,0))/\l.length<=c/\c<=maxLen/\cur.size=c*3/\cur.toList.take (l.length*3)=l.flatMap At.row:=by
  rcases ho.2 with ⟨h',_⟩|⟨g',cap',cur,h',hb,hg,hnc,hcm,hcs,htake⟩
  ·simp at h'
  ·simp only[Value.slice.injEq,Option.some.injEq,Addr.mk.injEq,and_true,true_and]at h';obtain⟨rfl,rfl⟩:=h';exact⟨cur,hg,hnc,hcm,hcs,htake⟩
 have hcm':c<=9223372036854775807:=by unfold maxLen at hcm;omega
 have HNW:Hid (∀j u,((l.drop (i+1)).flatMap At.row)[j]?=some u->w.cell? ((⟨g,(i+1)*3,none⟩:Addr).add j)=some u):=fun j u hj=>by
  have hj2:(l.flatMap At.row)[(i+1)*3+j]?=some u:=by
   have e1:=congrArg (fun z=>z.flatMap At.row) (List.take_append_drop (i+1) l);simp only[List.flatMap_append]at e1;have e2:((l.take (i+1)).flatMap At.row).length=(i+1)*3:=by rw[qH At.row 3 (fun _=>rfl),List.length_take];omega
   rw[<-e1,List.getElem?_append_right (by omega),e2,Nat.add_sub_cancel_left];exact hj
  have h1:=World.ownsRow.cells ho (g:=g) rfl ((i+1)*3+j) u hj2;have e3:(⟨g,0,none⟩:Addr).add ((i+1)*3+j)=(⟨g,(i+1)*3,none⟩:Addr).add j:=by unfold Addr.add;split<;>split<;>simp_all
  rw[e3]at h1;exact h1
 have HLN:Hid (((l.drop (i+1)).flatMap At.row).length=(l.length-(i+1))*3):=by
  show _=_
  rw[qH At.row 3 (fun _=>rfl),List.length_drop]
 have HON:Hid (∀u∈(l.drop (i+1)).flatMap At.row,u.oneCell'=true):=fun u hu=>by
  obtain⟨m,_,hm⟩:=List.mem_flatMap.1 hu;simp[At.row]at hm;rcases hm with rfl|rfl|rfl<;>rfl
 have HFIT:Hid (i*3+((l.drop (i+1)).flatMap At.row).length<=cur.size):=by
  show _<=_
  rw[HLN.out,hcs];omega
 obtain⟨news,HNE⟩:∃news,Hid (news=(l.drop (i+1)).flatMap At.row):=⟨_,rfl⟩;rw[<-HNE.out]at HNW HLN HON HFIT;go_enter Tryz.func267,Tryz.ntmps267;go_wp2_with fail;have hic:i<=c:=by omega
 have hi2:i+1<=c:=by omega
 have hz1:(0:Int)<=(i:Int)+1:=by omega
 have hz2:(i:Int)+1<=(l.length:Int):=by omega
 have hz3:(i:Int)<=(i:Int)+1:=by omega
 have HRW:=zH hrow;obtain⟨xs,hxs,hox⟩:=a7i l g c i cur w.drew hi hrow hnc hcm hcs htake;rw[<-HNE.out]at hox;have HOX:=zH hox;have HT2:Hid (Tch [g] w (w.drew.setRow g (cur.toList.take (i*3)++news++cur.toList.drop (i*3+news.length)).toArray)):=(Tch.refl _ _).drew.setRow (fun _=>by simp) _;clear hox;generalize hW2:w.drew.setRow g (cur.toList.take (i*3)++news++cur.toList.drop (i*3+news.length)).toArray=w2 at*
 have hxl:=HOX.out.1;have hclr:=a3p w2 0 g (l.length-1) (l.length-(l.length-1)) (c-(l.length-1)) (fun j hj=>by
  have h1:(l.length-1)*3+j<xs.length:=by omega
  have h2:=World.ownsRow.cells HOX.out (g:=g) rfl ((l.length-1)*3+j) _ (List.getElem?_eq_getElem h1);have e:(⟨g,0,none⟩:Addr).add ((l.length-1)*3+j)=⟨g,(l.length-1)*3+j,none⟩:=by unfold Addr.add;split<;>simp_all
  rw[e]at h2;rw[h2];rfl) (fun j=>World.ownsRow.frozenAt HOX.out j) (by omega)
 have HF:Hid ((w2.setCells g ((l.length-1)*3) (Builtin.zeroCells #[.string ⟨#[]⟩,.int .i64 0,.string ⟨#[]⟩] (l.length-(l.length-1))).toList).ownsRow 0 234 3 (.slice (some ⟨g,0,none⟩) (l.length-1) c) (l.eraseIdx i).length ((l.eraseIdx i).flatMap At.row)/\Tch [g] w (w2.setCells g ((l.length-1)*3) (Builtin.zeroCells #[.string ⟨#[]⟩,.int .i64 0,.string ⟨#[]⟩] (l.length-(l.length-1))).toList)):=by
  refine⟨?_,HT2.out.trans (qg g _ _ _) (fun _ h _=>h)⟩;have h1:=a0w (kG (Builtin.zeroCells #[.string ⟨#[]⟩,.int .i64 0,.string ⟨#[]⟩] (l.length-(l.length-1))).toList ((l.length-1)*3) w2 _ HOX.out) (n':=l.length-1) (by omega);rw[vy _ _ _ _ (Nat.le_refl _),hxs]at h1;rw[a6H l i hi];exact h1
 generalize w2.setCells g ((l.length-1)*3) (Builtin.zeroCells #[.string ⟨#[]⟩,.int .i64 0,.string ⟨#[]⟩] (l.length-(l.length-1))).toList=w3 at*
 have el:i+(l.length-(i+1))=l.length-1:=by omega
 have hne2:¬(c=l.length-1):=by omega
 clear hxs hxl HT2 HNE
 by_cases hcc:c=i+1
 ·have hne:news=[]:=List.length_eq_zero_iff.1 (by rw[HLN.out];omega);subst hcc
  go_region_law (refine a0A rfl (.tmp 22) (.tmp 25) 189 234 rfl Tryz.underlying189 _ 3 40 a1f g i (i+1) cur HRW.out ⟨g,0,none⟩ (l.length-(i+1)) ((i+1)-(i+1)) news HLN.out (by rw[hne];intro j u hj;simp at hj) HON.out (by omega) HFIT.out (by simp[Act.eval,Act.put]) (by simp[Act.eval,Act.put];omega) ?_;rw[hW2,el])
  all_goals (clear hW2 el HFIT HON HLN HNW HRW hz1 hz2 hz3 htake hrow hne;go_wp2_with fail;go_ret;exact⟨rfl,HF.out.1,HF.out.2⟩)
 ·have hcc':=hcc
  go_region_law (refine a0A rfl (.tmp 22) (.tmp 25) 189 234 rfl Tryz.underlying189 _ 3 40 a1f g i c cur HRW.out ⟨g,(i+1)*3,none⟩ (l.length-(i+1)) (c-(i+1)) news HLN.out HNW.out HON.out (by omega) HFIT.out (by simp[Act.eval,Act.put]) (by simp[Act.eval,Act.put]) ?_;rw[hW2,el])
  all_goals (clear hW2 el HFIT HON HLN HNW HRW hz1 hz2 hz3 htake hrow hcc';go_wp2_with fail;go_ret;exact⟨rfl,HF.out.1,HF.out.2⟩)
def b9N (Q:QM)(a:At):QM:=if a.id.size=0 then Q else {Q with ats:=if Q.ats.length<20 then Q.ats++[a] else (Q.ats++[a]).eraseIdx 0}
theorem QR.newA (h:QR w qb V Q){v':Value}{as':List At}(ht:Tch (bl V.a) w w2)(ho:w2.ownsRow 0 234 3 v' as'.length (as'.flatMap At.row))(hN:∀k,v'.ownBlock=some k->V.a.ownBlock=some k\/w.heap.size<=k):
  w2.cell? ⟨qb,10,none⟩=some V.a/\w2.frozen? ⟨qb,10,none⟩=false/\qb<w2.heap.size/\QS w (w2.setCell ⟨qb,10,none⟩ v') qb V {V with a:=v'} {Q with ats:=as'}:=by
 have hb:Qb w2 qb Q.c (Q.next:Int) V.m V.r V.d V.a:=(ht.block _ h.blk.lt h.nq.2.2.2).trans h.blk;have t3:Tch [qb] w2 (w2.setCell ⟨qb,10,none⟩ v'):=(Tch.refl _ _).setCell (fun _=>by simp) _;have hm:=jf h.m ht (qP h.m h.a (by decide));have hr:=jf h.r ht (qP h.r h.a (by decide));have hd:=jf h.d ht (qP h.d h.a (by decide));have nq:∀{t s n:Nat} {v:Value} {xs:List Value},w2.ownsRow 0 t s v n xs->t≠191->∀k,v.ownBlock=some k->k∉[qb]:=fun hv hne k hk hm=>by
  simp at hm;subst hm;exact jA hv hb hne hk
 have hq:QR (w2.setCell ⟨qb,10,none⟩ v') qb {V with a:=v'} {Q with ats:=as'}:=⟨hb.set10 v',jf hm t3 (nq hm (by decide)),jf hr t3 (nq hr (by decide)),jf hd t3 (nq hd (by decide)),jf ho t3 (nq ho (by decide))⟩;refine⟨jb hb 10 _ rfl,hb.fz 10,hb.lt,hq,(ht.sub (fun x hx _=>?_)).trans t3 (fun x hx _=>?_),fun b hb'=>?_⟩
 ·exact ji.2 (.inr (.inr (.inr (.inr (jq.1 hx)))))
 ·simp at hx;exact ji.2 (.inl hx)
 ·rcases ji.1 hb' with e|e|e|e|e
  ·exact .inl (ji.2 (.inl e))
  ·exact .inl (ji.2 (.inr (.inl e)))
  ·exact .inl (ji.2 (.inr (.inr (.inl e))))
  ·exact .inl (ji.2 (.inr (.inr (.inr (.inl e)))))
  ·exact(hN b e).imp (fun h=>ji.2 (.inr (.inr (.inr (.inr h))))) id
theorem b2l {a b c:World}{V1:QV}{Q1 Q2:QM}(h1:QS a b qb V V1 Q1)(h2:QL b c qb V1 Q2):QL a c qb V Q2:=by
 obtain⟨V2,k1,k2,k3⟩:=h2;exact(h1.trans ⟨k1,k2,k3⟩).ql
theorem a9M (Q:QM)(V:QV)(l:List At)(qb g c:Nat)(w w1:World)(hl:0<l.length)(h:QL w w1 qb V {Q with ats:=l})(hc:w1.cell? ⟨qb,10,none⟩=some (.slice (some ⟨g,0,none⟩) l.length c))(hle:l.length<=1000):
  Cp 267 #[.slice (some ⟨g,0,none⟩) l.length c,.int .i64 0,.int .i64 1] w1 fun e w2=>e=.returned (.slice (some ⟨g,0,none⟩) (l.length-1) c)/\w2.cell? ⟨qb,10,none⟩=some (.slice (some ⟨g,0,none⟩) l.length c)/\w2.frozen? ⟨qb,10,none⟩=false/\qb<w2.heap.size/\QL w (w2.setCell ⟨qb,10,none⟩ (.slice (some ⟨g,0,none⟩) (l.length-1) c)) qb V {Q with ats:=l.eraseIdx 0}:=by
 obtain⟨V1,hq,ht,hn⟩:=h;have hva:V1.a=.slice (some ⟨g,0,none⟩) l.length c:=by
  have h1:=jb hq.blk 10 _ rfl;rw[h1]at hc;exact Option.some.inj hc
 have ho:w1.ownsRow 0 234 3 (.slice (some ⟨g,0,none⟩) l.length c) l.length (l.flatMap At.row):=by
  have:=hq.a;rw[hva]at this;exact this
 have hd:=a5x l g c 0 w1 ho hl hle;refine hd.mono ?_;rintro e w2 ⟨rfl,ho2,ht2⟩;obtain⟨k1,k2,k3,k4⟩:=hq.newA (v':=.slice (some ⟨g,0,none⟩) (l.length-1) c) (as':=l.eraseIdx 0) (by rw[hva];exact ht2.sub (fun x hx _=>by simp at hx;simp[bl,Value.ownBlock,hx])) ho2 (fun k hk=>.inl (by rw[hva];exact hk));rw[hva]at k1;refine⟨rfl,k1,k2,k3,?_⟩;exact b2l ⟨hq,ht,hn⟩ k4.ql
theorem a7o (Q:QM)(V:QV)(a:At)(qb:Nat)(w:World)(h:QR w qb V Q)(hn:Q.ats.length=20):
  Cp 215 #[zp qb,.agg #[.string a.id,.int .i64 a.til,.string a.ans]] w fun e w'=>e=.returned (.tuple #[])/\QL w w' qb V (b9N Q a):=by
 have HQ:=zH h
 by_cases hz:a.id.size=0
 ·have e0:a.id=⟨#[]⟩:=vR _ hz;have hr:Hid (b9N Q a=Q):=by show _=_;unfold b9N;rw[if_pos hz]
  rw[e0];clear h;go_enter Tryz.func215,Tryz.ntmps215;go_wp2_with fail;refine bodyPost_ret (results_none rfl _ _ _) rfl ⟨rfl,?_⟩;rw[hr.out];exact⟨V,HQ.out.tch ((Tch.refl [] w).alloc _) (by simp),((Tch.refl [] w).alloc _).sub (by simp),fun _ h=>.inl h⟩
 ·have hne:=a0h _ hz;have hr:Hid (b9N Q a={Q with ats:=(Q.ats++[a]).eraseIdx 0}):=by show _=_;unfold b9N;rw[if_neg hz,if_neg (by omega)]
  obtain⟨wa,hwa⟩:∃wa,wa=w.alloc (.cells #[.string a.id,.int .i64 a.til,.string a.ans] 234):=⟨_,rfl⟩;have ta:Tch [] w wa:=by rw[hwa];exact(Tch.refl [] w).alloc _
  have ha:=h.tch ta (by simp);have HWA:=zH ha;have hbx:wa.heap[w.heap.size]?=some (.cells #[.string a.id,.int .i64 a.til,.string a.ans] 234 (0,0)):=by rw[hwa];exact heap_alloc_new _ _
  have b0:wa.cell? ⟨w.heap.size,0,none⟩=some (.string a.id):=jb hbx 0 _ rfl;have b1:wa.cell? ⟨w.heap.size,1,none⟩=some (.int .i64 a.til):=jb hbx 1 _ rfl;have b2:wa.cell? ⟨w.heap.size,2,none⟩=some (.string a.ans):=jb hbx 2 _ rfl;have q10:wa.cell? ⟨qb,10,none⟩=some V.a:=jb ha.blk 10 _ rfl;have hlt:=ha.blk.lt;have HG:Hid (∀v' w',w'.ownsRow 0 234 3 v' (Q.ats.length+1) (Q.ats.flatMap At.row++atV a)->(wa.drew.alloc (.cells (atV a).toArray 234)).grownBy w' V.a.ownBlock->(v'.ownBlock=V.a.ownBlock\/v'.ownBlock=some (wa.drew.alloc (.cells (atV a).toArray 234)).heap.size)->_):=fun v' w'=>a8A Q V a qb w wa ta ha v' w'
  clear h ha ta hbx hz;go_enter Tryz.func215,Tryz.ntmps215;go_wp2_with fail;rw[<-hwa];clear hwa
  go_region_law (refine qu rfl (.tmp 11) (.tmp 13) 189 234 rfl Tryz.underlying189 (.agg #[.string ⟨#[]⟩,.int .i64 0,.string ⟨#[]⟩]) 3 40 a1f rfl (by decide) (by decide) V.a Q.ats.length (Q.ats.flatMap At.row) (by simp[Act.eval,Act.put]) (jf HWA.out.a ((Tch.refl [] _).drew.alloc _) (fun _ _=>by simp)) wa.heap.size (atV a) 1 (by simp[Act.eval,Act.put]) rfl (by decide) (heap_alloc_new _ _) (by intro u hu;simp at hu;rcases hu with rfl|rfl|rfl<;>rfl) (by omega) ?_;intro v' w9 ho3 hg3 hb3;obtain⟨g4,cap4,hv4,c9,z9,c10,l9,hfin⟩:=HG.out v' w9 ho3 hg3 hb3;subst hv4;clear ho3 hg3 hb3;have HFIN:Hid (QL _ _ _ _ _):=hfin;clear hfin)
  all_goals
   have hl21:(Q.ats++[a]).length=21:=by simp;omega
   have HR20:Hid (Cp 267 _ (w9.setCell ⟨qb,10,none⟩ (.slice (some ⟨g4,0,none⟩) (Q.ats.length+1) cap4)) _):=a9M Q V (Q.ats++[a]) qb g4 cap4 w _ (by omega) HFIN.out (c10.trans (by rw[hl21,hn])) (by omega);rw[hl21,hn]at HR20;rw[hn] at*
   clear HFIN;generalize w9.setCell ⟨qb,10,none⟩ (.slice (some ⟨g4,0,none⟩) (20+1) cap4)=w10 at*
   go_wp2_with fail;refine HR20.out.mono ?_;rintro e w11 ⟨rfl,k1,k2,k3,k4⟩;have HK:=zH k4;clear k4 HR20;go_wp2_with fail;go_end0;exact⟨rfl,by rw[hr.out];exact HK.out⟩
theorem a3A (Q:QM)(V:QV)(a:At)(qb:Nat)(w:World)(h:QR w qb V Q)(hn:Q.ats.length<=20):
  Cp 215 #[zp qb,.agg #[.string a.id,.int .i64 a.til,.string a.ans]] w fun e w'=>e=.returned (.tuple #[])/\QL w w' qb V (b9N Q a):=by
 by_cases hl:Q.ats.length<20
 ·have e:b9N Q a=a7n Q a:=by
   unfold b9N a7n;rw[if_pos hl]
  rw[e];exact a5d Q V a qb w h hl
 ·exact a7o Q V a qb w h (by omega)
end Go.Proofs.YtbdobaapadlcjaaGreatDoor
