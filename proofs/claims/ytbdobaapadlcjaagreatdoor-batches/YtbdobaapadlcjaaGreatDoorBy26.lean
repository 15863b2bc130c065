import Derived.Test.YtbdobaapadlcjaaGreatDoorBy25
set_option maxRecDepth 8000
set_option maxHeartbeats 8000000
set_option linter.unusedVariables false
set_option linter.unusedSimpArgs false
namespace Go.Proofs.YtbdobaapadlcjaaGreatDoor.Ref
open Go.RowKit Go.Proofs.YtbdobaapadlcjaaGreatDoor
variable {Z:RZ}{N N' i n j rb:Nat}{t y:RQ}{w w1 w2:World}{now':Int}{c':Nat->Option QM}
def TRZ (Z:RZ)(N:Nat):Prop:=∀i x,i<8->Z i=some x->TR x.Q x.ts x.cnt/\x.cnt<=N
theorem TRZ.upd (h:TRZ Z N)(hN:N<=N'){i:Nat}{v:Option RQ}(hv:∀x,v=some x->TR x.Q x.ts x.cnt/\x.cnt<=N'):TRZ (qa Z i v) N':=fun j x hj hx=>by
 by_cases e:j=i
 ·subst e;rw[kM]at hx;exact hv x hx
 ·rw[jM _ _ e]at hx;have:=h j x hj hx;exact⟨this.1,Nat.le_trans this.2 hN⟩
theorem b3u {Q:QM}(hW:QW n Q){ts:List Tn}{cnt:Nat}(hT:TR Q ts cnt){num:Int}{j:Nat}(hj:j<Q.ms.length)(hi:jj (isN num) Q.ms=(j:Int))(htil:0<Q.ms[j].til):TR (jW (jm Q num 0) Q.ms[j].grp) (xy ts cnt Q.ms[j].grp) (cnt+1):=by
 have he:=qi hj hi 0;refine hT.rdy Q.rs (List.Sublist.refl _) (b1d hW hj htil) ?_ (.inl ⟨hT.has _ (List.getElem_mem hj),?_⟩) (fun m hm=>.inl ?_)
 ·unfold jW;rw[he]
 ·unfold jW;rw[he];exact Nat.le_refl _
 ·unfold jW at hm;rw[he]at hm;rcases List.mem_or_eq_of_mem_set hm with h1|rfl
  ·exact⟨m,h1,rfl⟩
  ·exact⟨_,List.getElem_mem hj,rfl⟩
abbrev z1 (Z:RZ)(i:Nat)(y:RQ)(num:Int):RZ:=qa Z i (some ⟨y.qb,y.V,y.sl,jm y.Q num 0,y.ts,y.cnt⟩)
theorem a3F (rb i j:Nat)(num:Int)(now:Int)(Z:RZ)(y:RQ)(w:World)(h:RG w rb now Z)(hi:i<8)(hz:Z i=some y)(hj:j<y.Q.ms.length)(hix:jj (isN num) y.Q.ms=(j:Int))(hW:QW i y.Q)(hT:TR y.Q y.ts y.cnt)(hcn:y.cnt<=4611686018427387000)(htil:0<y.Q.ms[j].til)
  (hno:upQ y.Q.c y.Q.ms[j].rcv=false\/qOf (ptR Z) y.Q.c.d=.pointer none):
  Cp 232 #[zp rb,zp y.qb,.int .i64 (j:Int)] w fun e w'=>e=.returned (.tuple #[])/\∃V',RGS w w' rb Z now (qa Z i (some ⟨y.qb,V',y.sl,jW (jm y.Q num 0) y.Q.ms[j].grp,xy y.ts y.cnt y.Q.ms[j].grp,y.cnt+1⟩)):=by
 have hml:=hW.ml;have hr:=h.rr i y hi hz;obtain⟨gm,cm,hvm,lg,hcs⟩:=kA Ms.row 5 (fun _=>rfl) hr.m j hj;obtain⟨fz,_,_,hs0⟩:=hr.setMs hvm j hj 4 (by decide) (.int .i64 0) {y.Q.ms[j] with til:=0} rfl;have c16:w.cell? ⟨y.qb,16,none⟩=some (.slice (some ⟨gm,0,none⟩) y.Q.ms.length cm):=by rw[<-hvm];exact jb hr.blk 16 _ rfl
 have d4:w.cell? ⟨gm,j*5+4,none⟩=some (.int .i64 y.Q.ms[j].til):=hcs 4 _ rfl;rw[<-qi hj hix 0]at hs0;have HS0:=zH hs0;have hjI:(j:Int)<(y.Q.ms.length:Int):=by omega
 have eq1:jm y.Q num 0={y.Q with ms:=y.Q.ms.set j {y.Q.ms[j] with til:=0}}:=qi hj hix 0;obtain⟨w1,hw1⟩:∃w1,w1=w.setCell ⟨gm,j*5+4,none⟩ (.int .i64 0):=⟨_,rfl⟩;have hr1:RR w1 y.qb y.V y.sl.v (jm y.Q num 0) y.ts y.cnt:=by rw[hw1];exact HS0.out.rr
 have hl1:(jm y.Q num 0).ms.length=y.Q.ms.length:=by rw[eq1];simp
 have hjl:j<(jm y.Q num 0).ms.length:=by omega
 have hm1:(jm y.Q num 0).ms[j]={y.Q.ms[j] with til:=0}:=by simp[eq1]
 obtain⟨g',cap',hv',lg1,hcs1⟩:=kA Ms.row 5 (fun _=>rfl) hr1.m j hjl;rw[hvm,hl1]at hv';simp only[Value.slice.injEq,Option.some.injEq,Addr.mk.injEq,and_true,true_and]at hv';obtain⟨rfl,rfl⟩:=hv';rw[hm1]at hcs1;have e0:w1.cell? ⟨gm,j*5,none⟩=some (.int .i64 y.Q.ms[j].num):=hcs1 0 _ rfl;have e1:w1.cell? ⟨gm,j*5+1,none⟩=some (.string y.Q.ms[j].grp):=hcs1 1 _ rfl;have e2:w1.cell? ⟨gm,j*5+2,none⟩=some (.string y.Q.ms[j].bod):=hcs1 2 _ rfl;have e3:w1.cell? ⟨gm,j*5+3,none⟩=some (.int .i64 y.Q.ms[j].rcv):=hcs1 3 _ rfl;have e4:w1.cell? ⟨gm,j*5+4,none⟩=some (.int .i64 0):=hcs1 4 _ rfl;have f16:w1.cell? ⟨y.qb,16,none⟩=some (.slice (some ⟨gm,0,none⟩) y.Q.ms.length cm):=by rw[<-hvm];exact jb hr1.blk 16 _ rfl
 have HR1:=zH hr1;have HS1:Hid (RS w w1 y.qb y.V y.V y.sl.v (jm y.Q num 0) y.ts y.cnt):=by rw[hw1];exact HS0.out
 have HCC:Hid ((jm y.Q num 0).c=y.Q.c):=by show _=_;rw[eq1]
 have HST:=zH (h.st.tch HS1.out.tch (h.rb hi hz));have HG:=zH h;have htl:y.ts.length<=1000:=by have:=hT.len;have:=hW.nx;omega
 have HNO:Hid _:=hno;clear hcs hcs1 hr hr1 hs0 HS0 hm1 hjl h hT hW hno;generalize y.Q.ms[j].rcv=mr at*
 generalize y.Q.ms[j].grp=gg at*
 have HBX:Hid ((w1.alloc (.cells #[.int .i64 y.Q.ms[j].num,.string gg,.string y.Q.ms[j].bod,.int .i64 mr,.int .i64 0] 271)).heap[w1.heap.size]?=some (.cells #[.int .i64 y.Q.ms[j].num,.string gg,.string y.Q.ms[j].bod,.int .i64 mr,.int .i64 0] 271 (0,0))):=heap_alloc_new _ _;have g1:(w1.alloc (.cells #[.int .i64 y.Q.ms[j].num,.string gg,.string y.Q.ms[j].bod,.int .i64 mr,.int .i64 0] 271)).cell? ⟨w1.heap.size,1,none⟩=some (.string gg):=(cell_of_row _ _ 1 _ 271 (0,0) HBX.out).trans rfl;have g3:(w1.alloc (.cells #[.int .i64 y.Q.ms[j].num,.string gg,.string y.Q.ms[j].bod,.int .i64 mr,.int .i64 0] 271)).cell? ⟨w1.heap.size,3,none⟩=some (.int .i64 mr):=(cell_of_row _ _ 3 _ 271 (0,0) HBX.out).trans rfl;have HTB:Hid (Tch [] w1 (w1.alloc (.cells #[.int .i64 y.Q.ms[j].num,.string gg,.string y.Q.ms[j].bod,.int .i64 mr,.int .i64 0] 271))):=(Tch.refl _ _).alloc _;go_enter Tryz.func232,Tryz.ntmps232
 go_upto_region 1 with fail
 rw[<-hw1];clear hw1;go_wp2_with fail;generalize hwb:w1.alloc _=wb at*
 have HRB:=zH (HR1.out.tch HTB.out (by simp));have HOF:Hid (zE 230 #[zp y.qb,.string gg] wb (.tuple #[.int .i64 (jZ gg (jm y.Q num 0).ms:Int),.bool (xN gg (jm y.Q num 0).ms)])):=a1E _ y.qb _ gg wb (jb HRB.out.blk 16 _ rfl) HRB.out.m (by omega);have HQU:=zH (kL rb now (ptR Z) y.Q.c.d wb (HST.out.tch HTB.out (by simp)));have HRD:Hid (∀W,Tch [] wb W->Cp 231 #[zp y.qb,.string gg] W fun e w'=>e=.returned (.tuple #[])/\∃V',RGS w w' rb Z now (qa Z i (some ⟨y.qb,V',y.sl,jW (jm y.Q num 0) gg,xy y.ts y.cnt gg,y.cnt+1⟩))):=fun W ht=>(a0z _ y.ts y.cnt y.V y.sl.v y.qb gg W (HRB.out.tch ht (by simp)) htl (by omega)).mono (by
  rintro e w' ⟨h1,V',h2⟩;refine⟨h1,V',HG.out.one hi hz (((HS1.out.trans (HR1.out.rs HTB.out)).trans (HRB.out.rs ht)).trans ?_)⟩;exact h2.rdy _)
 have b2:wb.cell? ⟨y.qb,2,none⟩=some (.int .u8 (y.Q.c.d.toNat:Int)):=by rw[<-HCC.out];exact jb HRB.out.blk 2 _ rfl
 have b5:wb.cell? ⟨y.qb,5,none⟩=some (.int .i64 y.Q.c.rcv):=by rw[<-HCC.out];exact jb HRB.out.blk 5 _ rfl
 have HUP:Hid (upQ y.Q.c mr=(decide (0<y.Q.c.rcv)&&decide (y.Q.c.rcv<=mr))):=rfl;clear e0 e1 e2 e3 e4 f16 c16 d4 fz lg lg1;generalize (jZ gg (jm y.Q num 0).ms:Int)=cg at*
 generalize xN gg (jm y.Q num 0).ms=fg at*
 generalize y.Q.c.rcv=cr at*
 refine HOF.out.mono ?_;rintro e w' ⟨rfl,h'⟩;have h'':=h'.symm;subst h'';clear HOF;go_wp2_with fail;refine HQU.out.mono ?_;rintro e w' ⟨rfl,h'⟩;have h'':=h'.symm;subst h'';clear HQU
 by_cases h1:0<cr
 ·have d1:decide (0<cr)=true:=decide_eq_true h1
  by_cases h2:cr<=mr
  ·have d2:decide (cr<=mr)=true:=decide_eq_true h2;have hq:qOf (ptR Z) y.Q.c.d=.pointer none:=HNO.out.resolve_left (fun e=>by rw[HUP.out,d1,d2]at e;exact absurd e (by decide));rw[hq];clear hq HNO;go_wp2_with fail;go_quiet (fail);go_wp2_with fail;refine(HRD.out _ (by first|exact Tch.refl _ _|exact(Tch.refl [] _).drew|exact(Tch.refl [] _).drewN _)).mono ?_;rintro e w2 ⟨rfl,h2⟩;have H2:Hid _:=h2;clear h2 HRD;go_wp2_with fail;go_end0;exact⟨rfl,H2.out⟩
  ·have d2:decide (cr<=mr)=false:=decide_eq_false h2;generalize qOf (ptR Z) y.Q.c.d=qv at*
   go_wp2_with fail;go_quiet (fail);go_wp2_with fail;refine(HRD.out _ (by first|exact Tch.refl _ _|exact(Tch.refl [] _).drew|exact(Tch.refl [] _).drewN _)).mono ?_;rintro e w2 ⟨rfl,h2⟩;have H2:Hid _:=h2;clear h2 HRD;go_wp2_with fail;go_end0;exact⟨rfl,H2.out⟩
 ·have d1:decide (0<cr)=false:=decide_eq_false h1;generalize qOf (ptR Z) y.Q.c.d=qv at*
  go_wp2_with fail;go_quiet (fail);go_wp2_with fail;refine(HRD.out _ (by first|exact Tch.refl _ _|exact(Tch.refl [] _).drew|exact(Tch.refl [] _).drewN _)).mono ?_;rintro e w2 ⟨rfl,h2⟩;have H2:Hid _:=h2;clear h2 HRD;go_wp2_with fail;go_end0;exact⟨rfl,H2.out⟩
theorem a8B (Q:QM)(n:Nat):(decide ((Q.ms.length:Int)+n<=Q.c.quo)&&decide ((Q.next:Int)+n<=201))=qY Q n:=by
 unfold qY;congr 1;rw[decide_eq_decide];omega
theorem a8R (rb i j jd:Nat)(num:Int)(now:Int)(Z:RZ)(y t:RQ)(w:World)(h:RG w rb now Z)(hi:i<8)(hz:Z i=some y)(hjd:jd<8)(hji:jd≠i)(hzt:Z jd=some t)(hcd:y.Q.c.d.toNat=97+jd)(hj:j<y.Q.ms.length)(hix:jj (isN num) y.Q.ms=(j:Int))(hW:QW i y.Q)(hT:TR y.Q y.ts y.cnt)(hcn:y.cnt<=4611686018427387000)(hWt:QW jd t.Q)(hTt:TR t.Q t.ts t.cnt)(hct:t.cnt<=4611686018427387000)(htil:0<y.Q.ms[j].til)(hup:upQ y.Q.c y.Q.ms[j].rcv=true)(hrm:qY t.Q (jZ y.Q.ms[j].grp (jm y.Q num 0).ms)=false):
  Cp 232 #[zp rb,zp y.qb,.int .i64 (j:Int)] w fun e w'=>e=.returned (.tuple #[])/\∃V',RGS w w' rb Z now (qa Z i (some ⟨y.qb,V',y.sl,jW (jm y.Q num 0) y.Q.ms[j].grp,xy y.ts y.cnt y.Q.ms[j].grp,y.cnt+1⟩)):=by
 have hml:=hW.ml;have hr:=h.rr i y hi hz;obtain⟨gm,cm,hvm,lg,hcs⟩:=kA Ms.row 5 (fun _=>rfl) hr.m j hj;obtain⟨fz,_,_,hs0⟩:=hr.setMs hvm j hj 4 (by decide) (.int .i64 0) {y.Q.ms[j] with til:=0} rfl;have c16:w.cell? ⟨y.qb,16,none⟩=some (.slice (some ⟨gm,0,none⟩) y.Q.ms.length cm):=by rw[<-hvm];exact jb hr.blk 16 _ rfl
 have d4:w.cell? ⟨gm,j*5+4,none⟩=some (.int .i64 y.Q.ms[j].til):=hcs 4 _ rfl;rw[<-qi hj hix 0]at hs0;have HS0:=zH hs0;have hjI:(j:Int)<(y.Q.ms.length:Int):=by omega
 have eq1:jm y.Q num 0={y.Q with ms:=y.Q.ms.set j {y.Q.ms[j] with til:=0}}:=qi hj hix 0;obtain⟨w1,hw1⟩:∃w1,w1=w.setCell ⟨gm,j*5+4,none⟩ (.int .i64 0):=⟨_,rfl⟩;have hr1:RR w1 y.qb y.V y.sl.v (jm y.Q num 0) y.ts y.cnt:=by rw[hw1];exact HS0.out.rr
 have hl1:(jm y.Q num 0).ms.length=y.Q.ms.length:=by rw[eq1];simp
 have hjl:j<(jm y.Q num 0).ms.length:=by omega
 have hm1:(jm y.Q num 0).ms[j]={y.Q.ms[j] with til:=0}:=by simp[eq1]
 obtain⟨g',cap',hv',lg1,hcs1⟩:=kA Ms.row 5 (fun _=>rfl) hr1.m j hjl;rw[hvm,hl1]at hv';simp only[Value.slice.injEq,Option.some.injEq,Addr.mk.injEq,and_true,true_and]at hv';obtain⟨rfl,rfl⟩:=hv';rw[hm1]at hcs1;have e0:w1.cell? ⟨gm,j*5,none⟩=some (.int .i64 y.Q.ms[j].num):=hcs1 0 _ rfl;have e1:w1.cell? ⟨gm,j*5+1,none⟩=some (.string y.Q.ms[j].grp):=hcs1 1 _ rfl;have e2:w1.cell? ⟨gm,j*5+2,none⟩=some (.string y.Q.ms[j].bod):=hcs1 2 _ rfl;have e3:w1.cell? ⟨gm,j*5+3,none⟩=some (.int .i64 y.Q.ms[j].rcv):=hcs1 3 _ rfl;have e4:w1.cell? ⟨gm,j*5+4,none⟩=some (.int .i64 0):=hcs1 4 _ rfl;have f16:w1.cell? ⟨y.qb,16,none⟩=some (.slice (some ⟨gm,0,none⟩) y.Q.ms.length cm):=by rw[<-hvm];exact jb hr1.blk 16 _ rfl
 have HR1:=zH hr1;have HS1:Hid (RS w w1 y.qb y.V y.V y.sl.v (jm y.Q num 0) y.ts y.cnt):=by rw[hw1];exact HS0.out
 have HCC:Hid ((jm y.Q num 0).c=y.Q.c):=by show _=_;rw[eq1]
 have HST:=zH (h.st.tch HS1.out.tch (h.rb hi hz));have HG:=zH h;have htl:y.ts.length<=1000:=by have:=hT.len;have:=hW.nx;omega
 have HUPT:Hid _:=hup;have HRM0:Hid _:=hrm;have HQO:=zH ((vz hjd hcd).trans (kS hzt));have HGT:Hid (∀W,Tch (rbl y.qb y.V) w W->RR W t.qb t.V t.sl.v t.Q t.ts t.cnt):=fun W ht=>(h.rr jd t hjd hzt).tch ht (h.ap jd i t y hjd hi hji hzt hz)
 have html:=hWt.ml;have htnx:=hWt.nx;clear hcs hcs1 hr hr1 hs0 HS0 hm1 hjl h hT hW hup hWt hcd hrm;generalize y.Q.ms[j].rcv=mr at*
 generalize y.Q.ms[j].grp=gg at*
 have HBX:Hid ((w1.alloc (.cells #[.int .i64 y.Q.ms[j].num,.string gg,.string y.Q.ms[j].bod,.int .i64 mr,.int .i64 0] 271)).heap[w1.heap.size]?=some (.cells #[.int .i64 y.Q.ms[j].num,.string gg,.string y.Q.ms[j].bod,.int .i64 mr,.int .i64 0] 271 (0,0))):=heap_alloc_new _ _;have g1:(w1.alloc (.cells #[.int .i64 y.Q.ms[j].num,.string gg,.string y.Q.ms[j].bod,.int .i64 mr,.int .i64 0] 271)).cell? ⟨w1.heap.size,1,none⟩=some (.string gg):=(cell_of_row _ _ 1 _ 271 (0,0) HBX.out).trans rfl;have g3:(w1.alloc (.cells #[.int .i64 y.Q.ms[j].num,.string gg,.string y.Q.ms[j].bod,.int .i64 mr,.int .i64 0] 271)).cell? ⟨w1.heap.size,3,none⟩=some (.int .i64 mr):=(cell_of_row _ _ 3 _ 271 (0,0) HBX.out).trans rfl;have HTB:Hid (Tch [] w1 (w1.alloc (.cells #[.int .i64 y.Q.ms[j].num,.string gg,.string y.Q.ms[j].bod,.int .i64 mr,.int .i64 0] 271))):=(Tch.refl _ _).alloc _;have lgb:w1.heap.size<(w1.alloc (.cells #[.int .i64 y.Q.ms[j].num,.string gg,.string y.Q.ms[j].bod,.int .i64 mr,.int .i64 0] 271)).heap.size:=by simp
 go_enter Tryz.func232,Tryz.ntmps232
 go_upto_region 1 with fail
 rw[<-hw1];clear hw1;go_wp2_with fail;generalize hwb:w1.alloc _=wb at*
 have HRB:=zH (HR1.out.tch HTB.out (by simp));have HOF:Hid (zE 230 #[zp y.qb,.string gg] wb (.tuple #[.int .i64 (jZ gg (jm y.Q num 0).ms:Int),.bool (xN gg (jm y.Q num 0).ms)])):=a1E _ y.qb _ gg wb (jb HRB.out.blk 16 _ rfl) HRB.out.m (by omega);have HQU:=zH (kL rb now (ptR Z) y.Q.c.d wb (HST.out.tch HTB.out (by simp)));have HRD:Hid (∀W,Tch [] wb W->Cp 231 #[zp y.qb,.string gg] W fun e w'=>e=.returned (.tuple #[])/\∃V',RGS w w' rb Z now (qa Z i (some ⟨y.qb,V',y.sl,jW (jm y.Q num 0) gg,xy y.ts y.cnt gg,y.cnt+1⟩))):=fun W ht=>(a0z _ y.ts y.cnt y.V y.sl.v y.qb gg W (HRB.out.tch ht (by simp)) htl (by omega)).mono (by
  rintro e w' ⟨h1,V',h2⟩;refine⟨h1,V',HG.out.one hi hz (((HS1.out.trans (HR1.out.rs HTB.out)).trans (HRB.out.rs ht)).trans ?_)⟩;exact h2.rdy _)
 have b2:wb.cell? ⟨y.qb,2,none⟩=some (.int .u8 (y.Q.c.d.toNat:Int)):=by rw[<-HCC.out];exact jb HRB.out.blk 2 _ rfl
 have b5:wb.cell? ⟨y.qb,5,none⟩=some (.int .i64 y.Q.c.rcv):=by rw[<-HCC.out];exact jb HRB.out.blk 5 _ rfl
 have HUP:Hid (upQ y.Q.c mr=(decide (0<y.Q.c.rcv)&&decide (y.Q.c.rcv<=mr))):=rfl;have HUE:=zH HUPT.out;have HRT:Hid (∀W,Tch [] wb W->RR W t.qb t.V t.sl.v t.Q t.ts t.cnt):=fun W ht=>HGT.out W ((HS1.out.tch.trans (HTB.out.sub (by simp)) (fun _ h _=>h)).trans (ht.sub (by simp)) (fun _ h _=>h))
 clear e0 e1 e2 e3 e4 f16 c16 d4 fz lg lg1;obtain⟨cg,HCG⟩:∃cg,Hid (cg=jZ gg (jm y.Q num 0).ms):=⟨_,rfl⟩;have hcgl:cg<=50:=by rw[HCG.out];exact Nat.le_trans (zq _ _) (by omega)
 rw[<-HCG.out]at HOF;have HRM:Hid (qY t.Q cg=false):=by rw[HCG.out];exact HRM0.out
 generalize xN gg (jm y.Q num 0).ms=fg at*
 generalize y.Q.c.rcv=cr at*
 refine HOF.out.mono ?_;rintro e w' ⟨rfl,h'⟩;have h'':=h'.symm;subst h'';clear HOF;go_wp2_with fail;refine HQU.out.mono ?_;rintro e w' ⟨rfl,h'⟩;have h'':=h'.symm;subst h'';clear HQU;have HRO:Hid (∀W,Tch [] wb W->zT 275 #[zp t.qb,.int .i64 (cg:Int)] W (.bool false)):=fun W ht=>by
  have h5:=a6k t.qb t.V t.sl.v t.Q t.ts t.cnt cg W (HRT.out W ht) (by omega) (by omega) (by omega);rw[a8B,HRM.out]at h5;exact h5
 have h1:0<cr/\cr<=mr:=by
  have:=HUE.out;rw[HUP.out,Bool.and_eq_true,decide_eq_true_eq,decide_eq_true_eq]at this;exact this
 obtain⟨h1,h2⟩:=h1;rw[HQO.out];clear HQO;go_wp2_with fail;go_quiet (fail);go_wp2_with fail;refine(HRO.out _ (by first|exact Tch.refl _ _|exact(Tch.refl [] _).drew|exact(Tch.refl [] _).drewN _)).mono ?_;rintro e w2 ⟨rfl,h2'⟩;have H2:Hid (Tch [] wb w2):=by
  refine Tch.trans ?_ h2' (fun _ h _=>h)
  first|exact Tch.refl _ _|exact(Tch.refl [] _).drew|exact(Tch.refl [] _).drewN _
 have q1:=(H2.out.cell (a:=⟨w1.heap.size,1,none⟩) lgb (by simp)).trans g1;clear h2' g1 g3 HRO;go_wp2_with fail;refine(HRD.out _ H2.out).mono ?_;rintro e w3 ⟨rfl,h3⟩;have H3:Hid _:=h3;clear h3 HRD;go_wp2_with fail;go_end0;exact⟨rfl,H3.out⟩
theorem b7Q {g:ByteArray}{l:List Ms}(h:∀m∈l,1<=m.num):l.filter (woF 0 g)=l.filter (fun x=>!isG g x):=by
 refine List.filter_congr (fun m hm=>?_);have h1:=h m hm;have h2:(m.num == 0)=false:=by rw[beq_eq_false_iff_ne];omega
 unfold woF isG;rw[h2,Bool.false_or];rfl
theorem a3j (T:QM)(l:List Ms):(putL T l).ms.length=T.ms.length+l.length:=by
 unfold putL
 induction l generalizing T with
 | nil=>rfl
 | cons a r ih=>
  rw[List.foldl_cons,ih];unfold xx;simp;omega
structure Mvd (w0 wr:World)(t:RQ)(T:QM)(n:Nat):Prop where
 ex:∃VT ts' cnt',RS w0 wr t.qb t.V VT t.sl.v T ts' cnt'/\TR T ts' cnt'/\cnt'<=t.cnt+n
 rm:RM T
theorem Mvd.put {w0 wr:World}{T:QM}(h:Mvd w0 wr t T n)(g b:ByteArray)(hm:T.ms.length<=1000)(hn:T.next<=1000)(hc:t.cnt+n<=4611686018427387904):
  Cp 225 #[zp t.qb,.string g,.string b] wr fun e w'=>e=.returned (.tuple #[])/\Mvd w0 w' t (xx T g b) (n+1):=by
 obtain⟨⟨VT,ts',cnt',h1,h2,h3⟩,h4⟩:=h;refine(a8y T ts' cnt' VT t.sl.v t.qb g b wr h1.rr hm hn (by have:=h2.len;omega) (by omega)).mono ?_;rintro e w' ⟨h5,V',h6⟩;refine⟨h5,⟨V',_,_,h1.trans (h6.rdy (xx T g b).rs),h2.put h4 g b,?_⟩,h4.put g b⟩;have:=b2k T cnt' g;omega
theorem a8S (rb i j jd:Nat)(num:Int)(now:Int)(Z:RZ)(y t:RQ)(w:World)(h:RG w rb now Z)(hi:i<8)(hz:Z i=some y)(hjd:jd<8)(hji:jd≠i)(hzt:Z jd=some t)(hcd:y.Q.c.d.toNat=97+jd)(hj:j<y.Q.ms.length)(hix:jj (isN num) y.Q.ms=(j:Int))(hW:QW i y.Q)(hT:TR y.Q y.ts y.cnt)(hcn:y.cnt<=4611686018427387000)(hWt:QW jd t.Q)(hTt:TR t.Q t.ts t.cnt)(hct:t.cnt<=4611686018427387000)(htil:0<y.Q.ms[j].til)(hup:upQ y.Q.c y.Q.ms[j].rcv=true)(hrm:qY t.Q (jZ y.Q.ms[j].grp (jm y.Q num 0).ms)=true):
  Cp 232 #[zp rb,zp y.qb,.int .i64 (j:Int)] w fun e w'=>e=.returned (.tuple #[])/\∃VT ts' cnt' V',RGS w w' rb Z now (qa (qa (z1 Z i y num) jd (some ⟨t.qb,VT,t.sl,putL t.Q ((jm y.Q num 0).ms.filter (isG y.Q.ms[j].grp)),ts',cnt'⟩)) i (some ⟨y.qb,V',y.sl,{jm y.Q num 0 with ms:=(jm y.Q num 0).ms.filter (fun x=>!isG y.Q.ms[j].grp x)},y.ts,y.cnt⟩))/\TR (putL t.Q ((jm y.Q num 0).ms.filter (isG y.Q.ms[j].grp))) ts' cnt'/\cnt'<=t.cnt+50:=by
 have hml:=hW.ml;have hr:=h.rr i y hi hz;obtain⟨gm,cm,hvm,lg,hcs⟩:=kA Ms.row 5 (fun _=>rfl) hr.m j hj;obtain⟨fz,_,_,hs0⟩:=hr.setMs hvm j hj 4 (by decide) (.int .i64 0) {y.Q.ms[j] with til:=0} rfl;have c16:w.cell? ⟨y.qb,16,none⟩=some (.slice (some ⟨gm,0,none⟩) y.Q.ms.length cm):=by rw[<-hvm];exact jb hr.blk 16 _ rfl
 have d4:w.cell? ⟨gm,j*5+4,none⟩=some (.int .i64 y.Q.ms[j].til):=hcs 4 _ rfl;rw[<-qi hj hix 0]at hs0;have HS0:=zH hs0;have hjI:(j:Int)<(y.Q.ms.length:Int):=by omega
 have eq1:jm y.Q num 0={y.Q with ms:=y.Q.ms.set j {y.Q.ms[j] with til:=0}}:=qi hj hix 0;obtain⟨w1,hw1⟩:∃w1,w1=w.setCell ⟨gm,j*5+4,none⟩ (.int .i64 0):=⟨_,rfl⟩;have hr1:RR w1 y.qb y.V y.sl.v (jm y.Q num 0) y.ts y.cnt:=by rw[hw1];exact HS0.out.rr
 have hl1:(jm y.Q num 0).ms.length=y.Q.ms.length:=by rw[eq1];simp
 have hjl:j<(jm y.Q num 0).ms.length:=by omega
 have hm1:(jm y.Q num 0).ms[j]={y.Q.ms[j] with til:=0}:=by simp[eq1]
 obtain⟨g',cap',hv',lg1,hcs1⟩:=kA Ms.row 5 (fun _=>rfl) hr1.m j hjl;rw[hvm,hl1]at hv';simp only[Value.slice.injEq,Option.some.injEq,Addr.mk.injEq,and_true,true_and]at hv';obtain⟨rfl,rfl⟩:=hv';rw[hm1]at hcs1;have e0:w1.cell? ⟨gm,j*5,none⟩=some (.int .i64 y.Q.ms[j].num):=hcs1 0 _ rfl;have e1:w1.cell? ⟨gm,j*5+1,none⟩=some (.string y.Q.ms[j].grp):=hcs1 1 _ rfl;have e2:w1.cell? ⟨gm,j*5+2,none⟩=some (.string y.Q.ms[j].bod):=hcs1 2 _ rfl;have e3:w1.cell? ⟨gm,j*5+3,none⟩=some (.int .i64 y.Q.ms[j].rcv):=hcs1 3 _ rfl;have e4:w1.cell? ⟨gm,j*5+4,none⟩=some (.int .i64 0):=hcs1 4 _ rfl;have f16:w1.cell? ⟨y.qb,16,none⟩=some (.slice (some ⟨gm,0,none⟩) y.Q.ms.length cm):=by rw[<-hvm];exact jb hr1.blk 16 _ rfl
 have HR1:=zH hr1;have HS1:Hid (RS w w1 y.qb y.V y.V y.sl.v (jm y.Q num 0) y.ts y.cnt):=by rw[hw1];exact HS0.out
 have HCC:Hid ((jm y.Q num 0).c=y.Q.c):=by show _=_;rw[eq1]
 have HST:=zH (h.st.tch HS1.out.tch (h.rb hi hz));have HG:=zH h;have htl:y.ts.length<=1000:=by have:=hT.len;have:=hW.nx;omega
 have HUPT:Hid _:=hup;have HRM0:Hid _:=hrm;have HNB:Hid (∀m∈(jm y.Q num 0).ms,1<=m.num):=fun m hm=>by
  rw[eq1]at hm;rcases List.mem_or_eq_of_mem_set hm with h1|rfl
  ·exact(hW.mok m h1).num.1
  ·exact(hW.mok _ (List.getElem_mem hj)).num.1
 have HLTT:=zH ((h.rr jd t hjd hzt).lt);have HAPY:Hid (∀k∈rbl y.qb y.V,k∉rbl t.qb t.V):=h.ap i jd y t hi hjd (Ne.symm hji) hz hzt;have HMV0:Hid (RM t.Q/\TR t.Q t.ts t.cnt):=⟨QW.rm hWt,hTt⟩;have HQO:=zH ((vz hjd hcd).trans (kS hzt));have HGT:Hid (∀W,Tch (rbl y.qb y.V) w W->RR W t.qb t.V t.sl.v t.Q t.ts t.cnt):=fun W ht=>(h.rr jd t hjd hzt).tch ht (h.ap jd i t y hjd hi hji hzt hz)
 have html:=hWt.ml;have htnx:=hWt.nx;clear hcs hcs1 hr hr1 hs0 HS0 hm1 hjl h hT hW hTt hup hWt hrm hcd;generalize y.Q.ms[j].rcv=mr at*
 generalize y.Q.ms[j].grp=gg at*
 have HBX:Hid ((w1.alloc (.cells #[.int .i64 y.Q.ms[j].num,.string gg,.string y.Q.ms[j].bod,.int .i64 mr,.int .i64 0] 271)).heap[w1.heap.size]?=some (.cells #[.int .i64 y.Q.ms[j].num,.string gg,.string y.Q.ms[j].bod,.int .i64 mr,.int .i64 0] 271 (0,0))):=heap_alloc_new _ _;have g1:(w1.alloc (.cells #[.int .i64 y.Q.ms[j].num,.string gg,.string y.Q.ms[j].bod,.int .i64 mr,.int .i64 0] 271)).cell? ⟨w1.heap.size,1,none⟩=some (.string gg):=(cell_of_row _ _ 1 _ 271 (0,0) HBX.out).trans rfl;have g3:(w1.alloc (.cells #[.int .i64 y.Q.ms[j].num,.string gg,.string y.Q.ms[j].bod,.int .i64 mr,.int .i64 0] 271)).cell? ⟨w1.heap.size,3,none⟩=some (.int .i64 mr):=(cell_of_row _ _ 3 _ 271 (0,0) HBX.out).trans rfl;have HTB:Hid (Tch [] w1 (w1.alloc (.cells #[.int .i64 y.Q.ms[j].num,.string gg,.string y.Q.ms[j].bod,.int .i64 mr,.int .i64 0] 271))):=(Tch.refl _ _).alloc _;have lgb:w1.heap.size<(w1.alloc (.cells #[.int .i64 y.Q.ms[j].num,.string gg,.string y.Q.ms[j].bod,.int .i64 mr,.int .i64 0] 271)).heap.size:=by simp
 go_enter Tryz.func232,Tryz.ntmps232
 go_upto_region 1 with fail
 rw[<-hw1];clear hw1;go_wp2_with fail;generalize hwb:w1.alloc _=wb at*
 have HRB:=zH (HR1.out.tch HTB.out (by simp));have HOF:Hid (zE 230 #[zp y.qb,.string gg] wb (.tuple #[.int .i64 (jZ gg (jm y.Q num 0).ms:Int),.bool (xN gg (jm y.Q num 0).ms)])):=a1E _ y.qb _ gg wb (jb HRB.out.blk 16 _ rfl) HRB.out.m (by omega);have HQU:=zH (kL rb now (ptR Z) y.Q.c.d wb (HST.out.tch HTB.out (by simp)));have b2:wb.cell? ⟨y.qb,2,none⟩=some (.int .u8 (y.Q.c.d.toNat:Int)):=by rw[<-HCC.out];exact jb HRB.out.blk 2 _ rfl
 have b5:wb.cell? ⟨y.qb,5,none⟩=some (.int .i64 y.Q.c.rcv):=by rw[<-HCC.out];exact jb HRB.out.blk 5 _ rfl
 have HUP:Hid (upQ y.Q.c mr=(decide (0<y.Q.c.rcv)&&decide (y.Q.c.rcv<=mr))):=rfl;have HUE:=zH HUPT.out;have HRT:Hid (∀W,Tch [] wb W->RR W t.qb t.V t.sl.v t.Q t.ts t.cnt):=fun W ht=>HGT.out W ((HS1.out.tch.trans (HTB.out.sub (by simp)) (fun _ h _=>h)).trans (ht.sub (by simp)) (fun _ h _=>h))
 clear e0 e1 e2 e3 e4 f16 c16 d4 fz lg lg1;obtain⟨cg,HCG⟩:∃cg,Hid (cg=jZ gg (jm y.Q num 0).ms):=⟨_,rfl⟩;have hcgl:cg<=50:=by rw[HCG.out];exact Nat.le_trans (zq _ _) (by omega)
 rw[<-HCG.out]at HOF;have HRM:Hid (qY t.Q cg=true):=by rw[HCG.out];exact HRM0.out
 generalize xN gg (jm y.Q num 0).ms=fg at*
 generalize y.Q.c.rcv=cr at*
 refine HOF.out.mono ?_;rintro e w' ⟨rfl,h'⟩;have h'':=h'.symm;subst h'';clear HOF;go_wp2_with fail;refine HQU.out.mono ?_;rintro e w' ⟨rfl,h'⟩;have h'':=h'.symm;subst h'';clear HQU;have HRO:Hid (∀W,Tch [] wb W->zT 275 #[zp t.qb,.int .i64 (cg:Int)] W (.bool true)):=fun W ht=>by
  have h5:=a6k t.qb t.V t.sl.v t.Q t.ts t.cnt cg W (HRT.out W ht) (by omega) (by omega) (by omega);rw[a8B,HRM.out]at h5;exact h5
 have h1:0<cr/\cr<=mr:=by
  have:=HUE.out;rw[HUP.out,Bool.and_eq_true,decide_eq_true_eq,decide_eq_true_eq]at this;exact this
 obtain⟨h1,h2⟩:=h1;rw[HQO.out];clear HQO;go_wp2_with fail;go_quiet (fail);go_wp2_with fail;refine(HRO.out _ (by first|exact Tch.refl _ _|exact(Tch.refl [] _).drew|exact(Tch.refl [] _).drewN _)).mono ?_;rintro e w2 ⟨rfl,h2'⟩;have H2:Hid (Tch [] wb w2):=by
  refine Tch.trans ?_ h2' (fun _ h _=>h)
  first|exact Tch.refl _ _|exact(Tch.refl [] _).drew|exact(Tch.refl [] _).drewN _
 clear h2' g1 g3 HRO b2 b5 h1 h2 HUE HUP;have zw:=HS1.out.tch.size;have HKQ:Hid (∀W,Tch (rbl t.qb t.V) w2 W->RR W y.qb y.V y.sl.v (jm y.Q num 0) y.ts y.cnt/\W.cell? ⟨w1.heap.size,1,none⟩=some (.string gg)/\w1.heap.size<W.heap.size):=fun W ht=>by
  have r2:=HRB.out.tch H2.out (by simp);have b0:w2.heap[w1.heap.size]?=_:=(H2.out.block w1.heap.size lgb (by simp)).trans HBX.out;have b1:=(ht.block w1.heap.size (lt_of_block b0) (fun hk=>by have:=HLTT.out _ hk;omega)).trans b0;exact⟨r2.tch ht HAPY.out,(cell_of_row _ _ 1 _ 271 (0,0) b1).trans rfl,lt_of_block b1⟩
 have HM0:Hid (Mvd w2 w2 t t.Q 0):=⟨⟨t.V,t.ts,t.cnt,(HRT.out w2 H2.out).rs (Tch.refl _ _),HMV0.out.2,Nat.le_refl _⟩,HMV0.out.1⟩;have HRB2:Hid (t.Q.next<=201/\t.Q.ms.length<=50):=⟨htnx.2,html⟩;obtain⟨ml,HML⟩:∃ml,Hid (ml=(jm y.Q num 0).ms):=⟨_,rfl⟩;rw[<-HML.out]at hl1;have hmle:ml.length<=50:=by omega
 have HL1:Hid (ml.length=y.Q.ms.length):=hl1;have HV1:Hid (y.V.m=.slice (some ⟨gm,0,none⟩) y.Q.ms.length cm):=hvm;clear html htnx hl1 hvm hcgl eq1 hjI;go_wp2_with fail
 go_loopw [11] (fun v wr=>∃k:Nat,k<=ml.length/\v=.int .i64 (k:Int)/\Mvd w2 wr t (putL t.Q ((ml.take k).filter (isG gg))) k) (fun v _=>ml.length-(intOf v).toNat)
 case atStart=>exact⟨0,Nat.zero_le _,rfl,HM0.out⟩
 case round=>
  obtain⟨k,hk,rfl,hmv⟩:=hrel;have HMV:Hid _:=hmv;obtain⟨VT,ts',cnt',s1,s2,s3⟩:=hmv.ex;have HSV:Hid (RS w2 wr t.qb t.V VT t.sl.v (putL t.Q ((ml.take k).filter (isG gg))) ts' cnt'):=s1;obtain⟨r1,x1,x2⟩:=HKQ.out wr s1.tch;have HR1':Hid _:=r1;have y16:wr.cell? ⟨y.qb,16,none⟩=some (.slice (some ⟨gm,0,none⟩) ml.length cm):=by rw[HL1.out,<-HV1.out];exact jb r1.blk 16 _ rfl
  have yl:=lt_of_block r1.blk;clear s1 hmv r1
  by_cases hlt:k<ml.length
  ·have hrow:=HR1'.out.m;rw[<-HML.out]at hrow;obtain⟨g',cap',hv',lg',hcs'⟩:=kA Ms.row 5 (fun _=>rfl) hrow k hlt;rw[HV1.out]at hv';simp only[Value.slice.injEq,Option.some.injEq,Addr.mk.injEq,and_true,true_and]at hv';obtain⟨rfl,hxx,rfl⟩:=hv';clear hxx;have a1:wr.cell? ⟨gm,k*5+1,none⟩=some (.string ml[k].grp):=hcs' 1 _ rfl;have a2:wr.cell? ⟨gm,k*5+2,none⟩=some (.string ml[k].bod):=hcs' 2 _ rfl;have hkI:(k:Int)<(ml.length:Int):=by omega
   have HFS:Hid ((ml.take (k+1)).filter (isG gg)=(ml.take k).filter (isG gg)++(if isG gg ml[k]=true then [ml[k]] else [])):=zc (isG gg) ml k hlt;clear hcs' hrow
   cases he:(ml[k].grp.toList == gg.toList) with
   | false=>
    have HN:Hid (∀nq,Mvd w2 (wr.drewN nq) t (putL t.Q ((ml.take (k+1)).filter (isG gg))) (k+1)):=fun nq=>by
     have e1:isG gg ml[k]=false:=he;rw[HFS.out,e1];simp only[Bool.false_eq_true,if_false,List.append_nil];refine⟨⟨VT,ts',cnt',HSV.out.trans (HSV.out.rr.rs ((Tch.refl [] _).drewN nq)),s2,by omega⟩,HMV.out.rm⟩
    generalize ml[k].grp=kg at*
    go_wp2_with fail;go_quiet (fail);go_wp2_with fail;go_roundw
    case rel=>exact⟨k+1,by omega,by go_num,HN.out _⟩
    case measure=>simp[intOf];omega
   | true=>
    have HKP:Hid (∀W T n,Mvd w2 W t T n->(W.cell? ⟨y.qb,16,none⟩=some (.slice (some ⟨gm,0,none⟩) ml.length cm)/\W.cell? ⟨gm,k*5+2,none⟩=some (.string ml[k].bod)/\W.cell? ⟨w1.heap.size,1,none⟩=some (.string gg))/\y.qb<W.heap.size/\gm<W.heap.size/\w1.heap.size<W.heap.size):=fun W T n hm=>by
     obtain⟨VT,ts',cnt',s1,s2,s3⟩:=hm.ex;obtain⟨r1,x1,x2⟩:=HKQ.out W s1.tch;have hrow:=r1.m;rw[<-HML.out]at hrow;obtain⟨g',cap',hv',lg',hcs'⟩:=kA Ms.row 5 (fun _=>rfl) hrow k hlt;rw[HV1.out]at hv';simp only[Value.slice.injEq,Option.some.injEq,Addr.mk.injEq,and_true,true_and]at hv';obtain⟨rfl,_,rfl⟩:=hv';exact⟨⟨by rw[HL1.out,<-HV1.out];exact jb r1.blk 16 _ rfl,hcs' 2 _ rfl,x1⟩,lt_of_block r1.blk,lg',x2⟩
    have HE:Hid (putL t.Q ((ml.take (k+1)).filter (isG gg))=xx (putL t.Q ((ml.take k).filter (isG gg))) gg ml[k].bod):=by
     have e1:isG gg ml[k]=true:=he
     show _=_
     rw[HFS.out,e1,if_pos rfl,a4b,(jY gg _).1 e1]
    have hfl:((ml.take k).filter (isG gg)).length<=50:=Nat.le_trans (List.length_filter_le _ _) (by rw[List.length_take];omega);have HPU:Hid (∀W,Tch [] wr W->Cp 225 #[zp t.qb,.string gg,.string ml[k].bod] W fun e w'=>e=.returned (.tuple #[])/\Mvd w2 w' t (xx (putL t.Q ((ml.take k).filter (isG gg))) gg ml[k].bod) (k+1)):=fun W ht=>by
     have m1:Mvd w2 W t (putL t.Q ((ml.take k).filter (isG gg))) k:=⟨⟨VT,ts',cnt',HSV.out.trans (HSV.out.rr.rs ht),s2,s3⟩,HMV.out.rm⟩;have hb:=HRB2.out;refine m1.put gg ml[k].bod ?_ ?_ (by omega)
     ·rw[a3j];omega
     ·rw[a4a];omega
    have HT0:Hid (∀nq,Tch [] wr (wr.drewN nq)):=fun nq=>(Tch.refl [] _).drewN nq
    clear hfl;generalize ml[k].bod=kb at*
    generalize ml[k].grp=kg at*
    go_wp2_with fail;go_quiet (fail);generalize hwq:wr.drewN _=wq at*
    have HTQ:Hid (Tch [] wr wq):=by rw[<-hwq];exact HT0.out _
    have z16:=(HTQ.out.cell (a:=⟨y.qb,16,none⟩) yl (by simp)).trans y16;have z2:=(HTQ.out.cell (a:=⟨gm,k*5+2,none⟩) lg' (by simp)).trans a2;have z1':=(HTQ.out.cell (a:=⟨w1.heap.size,1,none⟩) x2 (by simp)).trans x1;clear hwq y16 a1 a2 x1 yl lg' x2 HT0;go_wp2_with fail
    go_region_held3 (fun w'=>w'.cell? ⟨y.qb,16,none⟩=some (.slice (some ⟨gm,0,none⟩) ml.length cm)/\w'.cell? ⟨gm,k*5+2,none⟩=some (.string kb)/\w'.cell? ⟨w1.heap.size,1,none⟩=some (.string gg)) (go_keep) (first|(go_at_call 225;refine(HPU.out _ (HTQ.out.trans (by first|exact Tch.refl [] _|exact(Tch.refl [] _).drew) (fun _ h _=>h))).mono ?_;rintro e w5 ⟨rfl,h5⟩;obtain⟨⟨k1,k2,k3⟩,k4,k5,k6⟩:=HKP.out w5 _ _ h5;have H5:Hid _:=h5;clear h5))
    all_goals
     go_wp2_with fail;go_roundw
     case rel=>exact⟨k+1,by omega,by go_num,by rw[HE.out];exact H5.out⟩
     case measure=>simp[intOf];omega
  ·have hke:k=ml.length:=by omega
   subst hke;rw[List.take_length]at HSV HMV s2;have HS3:Hid (TR (putL t.Q (ml.filter (isG gg))) ts' cnt'/\cnt'<=t.cnt+50):=⟨s2,by omega⟩;have hrow:=HR1'.out.m;have HWO:Hid (Cp 229 #[zp y.qb,.int .i64 0,.string gg] wr fun e w'=>∃v,e=.returned v/\w'.ownsRow wr.heap.size 271 5 v (ml.filter (fun x=>!isG gg x)).length ((ml.filter (fun x=>!isG gg x)).flatMap Ms.row)/\Tch [] wr w'):=by
    have h5:=a2d (jm y.Q num 0).ms y.qb _ 0 gg wr (jb HR1'.out.blk 16 _ rfl) hrow (by rw[<-HML.out];omega);rw[b7Q HNB.out,<-HML.out]at h5;exact h5
   have HFN:Hid (∀v w3,w3.ownsRow wr.heap.size 271 5 v (ml.filter (fun x=>!isG gg x)).length ((ml.filter (fun x=>!isG gg x)).flatMap Ms.row)->Tch [] wr w3->(w3.cell? ⟨y.qb,16,none⟩=some (.slice (some ⟨gm,0,none⟩) ml.length cm)/\w3.frozen? ⟨y.qb,16,none⟩=false/\y.qb<w3.heap.size)/\Hid (RGS w (w3.setCell ⟨y.qb,16,none⟩ v) rb Z now (qa (qa (z1 Z i y num) jd (some ⟨t.qb,VT,t.sl,putL t.Q (ml.filter (isG gg)),ts',cnt'⟩)) i (some ⟨y.qb,{y.V with m:=v},y.sl,{jm y.Q num 0 with ms:=ml.filter (fun x=>!isG gg x)},y.ts,y.cnt⟩)))):=fun v w3 ho ht=>by
    have g1:=HG.out.one hi hz HS1.out;have t2:=HTB.out.trans H2.out (fun _ h _=>h);have g2:=g1.trans (g1.rg.rgs t2);have zt:z1 Z i y num jd=some t:=(jM _ _ hji).trans hzt;have g3:=g2.trans (g2.rg.one hjd zt HSV.out);have zi:qa (z1 Z i y num) jd (some ⟨t.qb,VT,t.sl,putL t.Q (ml.filter (isG gg)),ts',cnt'⟩) i=some ⟨y.qb,y.V,y.sl,jm y.Q num 0,y.ts,y.cnt⟩:=(jM _ _ (Ne.symm hji)).trans (kM _ _ _);obtain⟨k1,k2,k3,k4⟩:=(g3.rg.rr i _ hi zi).newM (v':=v) (l':=ml.filter (fun x=>!isG gg x)) (ht.sub (by simp)) (a1F ho (Nat.zero_le _)) (fun k hk=>.inr (xk ho k hk));have k1':=k1;rw[HV1.out,<-HL1.out]at k1';exact⟨⟨k1',k2,k3⟩,g3.trans (g3.rg.one hi zi k4)⟩
   have hkk:¬(ml.length:Int)<(ml.length:Int):=by omega
   clear hrow;go_wp2_with fail;refine HWO.out.mono ?_;rintro e w3 ⟨v,rfl,ho3,ht3⟩;obtain⟨va,vc,hv3⟩:=jl ho3;subst hv3;obtain⟨⟨k1,k2,k3⟩,KR⟩:=HFN.out _ w3 ho3 ht3;have HFI:Hid (∃VT ts' cnt' V',RGS w (w3.setCell ⟨y.qb,16,none⟩ (.slice va (ml.filter (fun x=>!isG gg x)).length vc)) rb Z now (qa (qa (z1 Z i y num) jd (some ⟨t.qb,VT,t.sl,putL t.Q (ml.filter (isG gg)),ts',cnt'⟩)) i (some ⟨y.qb,V',y.sl,{jm y.Q num 0 with ms:=ml.filter (fun x=>!isG gg x)},y.ts,y.cnt⟩))/\TR (putL t.Q (ml.filter (isG gg))) ts' cnt'/\cnt'<=t.cnt+50):=⟨VT,ts',cnt',_,KR.out,HS3.out.1,HS3.out.2⟩;clear ho3 ht3 HWO HFN;go_wp2_with fail;refine bodyPost_ret (results_none rfl _ _ _) rfl ?_;exact⟨rfl,by rw[<-HML.out];exact HFI.out⟩
theorem a9Y (c:Nat->Option QM)(i:Nat)(a b:Option QM):jI (jI c i a) i b=jI c i b:=by
 funext k;unfold jI
 by_cases e:k=i<;>simp[e]
theorem a1N (c:Nat->Option QM){i j:Nat}(h:j≠i)(a b:Option QM):jI (jI c i a) j b=jI (jI c j b) i a:=by
 funext k;unfold jI
 by_cases e:k=i
 ·by_cases e':k=j
  ·exact absurd (e'.symm.trans e) h
  ·simp[e,e',Ne.symm h]
 ·by_cases e':k=j
  ·simp[e,e',h]
  ·simp[e,e']
theorem b9L (Z:RZ){i j:Nat}(h:j≠i)(a b c:Option RQ):ctR (qa (qa (qa Z i a) j b) i c)=jI (jI (ctR Z) i (c.map RQ.Q)) j (b.map RQ.Q):=by
 rw[qM,qM,qM,a1N _ h,a9Y,<-a1N _ h,a1N _ h]
def QB (Z Z':RZ):Prop:=∀k,(Z' k).map RQ.qb=(Z k).map RQ.qb
theorem QB.refl (Z:RZ):QB Z Z:=fun _=>rfl
theorem QB.trans {Z1 Z2:RZ}(h1:QB Z Z1)(h2:QB Z1 Z2):QB Z Z2:=fun k=>(h2 k).trans (h1 k)
theorem QB.one {x:RQ}(hz:Z i=some y)(h:x.qb=y.qb):QB Z (qa Z i (some x)):=fun k=>by
 by_cases e:k=i
 ·subst e;rw[kM,hz]
  show some x.qb=some y.qb
  rw[h]
 ·rw[jM _ _ e]
theorem QB.three (hne:j≠i){y t a b c:RQ}(hz:Z i=some y)(ht:Z j=some t)(hb:b.qb=t.qb)(hc:c.qb=y.qb):QB Z (qa (qa (qa Z i (some a)) j (some b)) i (some c)):=fun k=>by
 by_cases e:k=i
 ·subst e;rw[kM,hz]
  show some c.qb=some y.qb
  rw[hc]
 ·rw[jM _ _ e]
  by_cases e':k=j
  ·subst e';rw[kM,ht]
   show some b.qb=some t.qb
   rw[hb]
  ·rw[jM _ _ e',jM _ _ e]
def Lft (rb:Nat)(Z:RZ)(N:Nat)(w w':World)(now':Int)(c':Nat->Option QM)(N':Nat):Prop:=∃Z',RGS w w' rb Z now' Z'/\ctR Z'=c'/\TRZ Z' N'/\QB Z Z'
theorem a5q (rb i j N:Nat)(num:Int)(now:Int)(Z:RZ)(y:RQ)(w:World)(h:RG w rb now Z)(hi:i<8)(hz:Z i=some y)(hW:WFc (ctR Z))(hT:TRZ Z N)(hN:N<=4611686018427387000)(hj:j<y.Q.ms.length)(hix:jj (isN num) y.Q.ms=(j:Int))(htil:0<y.Q.ms[j].til):
  Cp 232 #[zp rb,zp y.qb,.int .i64 (j:Int)] w fun e w'=>e=.returned (.tuple #[])/\Lft rb Z N w w' now (qp (ctR Z) i num) (N+51):=by
 have hcz:ctR Z i=some y.Q:=by unfold ctR;rw[hz];rfl
 have hWy:=hW i y.Q hi hcz;obtain⟨hTy,hcy⟩:=hT i y hi hz;obtain⟨_,_,hf⟩:=qA _ _ j hix;have hrdy:qp (ctR Z) i num=jI (ctR Z) i (some (jW (jm y.Q num 0) y.Q.ms[j].grp))->∀(e:Ending) (w':World),(e=.returned (.tuple #[])/\∃V',RGS w w' rb Z now (qa Z i (some ⟨y.qb,V',y.sl,jW (jm y.Q num 0) y.Q.ms[j].grp,xy y.ts y.cnt y.Q.ms[j].grp,y.cnt+1⟩)))->e=.returned (.tuple #[])/\Lft rb Z N w w' now (qp (ctR Z) i num) (N+51):=fun hb e w' hh=>by
  obtain⟨h1,V',h2⟩:=hh;refine⟨h1,_,h2,?_,hT.upd (by omega) (fun x hx=>?_),QB.one hz rfl⟩
  ·rw[qM,hb];rfl
  ·obtain rfl:=Option.some.inj hx;exact⟨b3u hWy hTy hj hix htil,by show y.cnt+1<=N+51;omega⟩
 have hbk:qp (ctR Z) i num=match qS (ctR Z) y.Q.c with
   | none=>jI (ctR Z) i (some (jW (jm y.Q num 0) y.Q.ms[j].grp))
   | some (jd,T)=>if upQ y.Q.c y.Q.ms[j].rcv=true/\qY T (jZ y.Q.ms[j].grp (jm y.Q num 0).ms)=true then
     jI (jI (ctR Z) i (some {jm y.Q num 0 with ms:=(jm y.Q num 0).ms.filter (fun x=>!isG y.Q.ms[j].grp x)})) jd (some (putL T ((jm y.Q num 0).ms.filter (isG y.Q.ms[j].grp))))
    else jI (ctR Z) i (some (jW (jm y.Q num 0) y.Q.ms[j].grp)):=by
  unfold qp;rw[hcz];simp only;rw[hf];rfl
 cases hd:qS (ctR Z) y.Q.c with
 | none=>
  rw[hd]at hbk;have hq:qOf (ptR Z) y.Q.c.d=.pointer none:=by
   rcases hWy.c.d with h45|⟨jd,hj8,hne,hcd⟩
   ·unfold qOf;rw[if_neg (by rw[h45];decide)]
   ·rw[vz hj8 hcd];refine zl ?_;unfold qS xl at hd;have hn45:¬y.Q.c.d=45:=fun e=>by
     rw[e]at hcd;have:(45:UInt8).toNat=45:=rfl;omega
    rw[if_neg hn45,hcd,Nat.add_sub_cancel_left]at hd
    cases hx:Z jd with
    | none=>rfl
    | some t=>
     exfalso;simp[ctR,hx]at hd
  exact(a3F rb i j num now Z y w h hi hz hj hix hWy hTy (by omega) htil (.inr hq)).mono (hrdy hbk)
 | some p=>
  obtain⟨jd,T⟩:=p;rw[hd]at hbk;simp only at hbk;obtain⟨hj8,hne,hcd,t,hzt,hTq⟩:jd<8/\jd≠i/\y.Q.c.d.toNat=97+jd/\∃t,Z jd=some t/\t.Q=T:=by
   rcases hWy.c.d with h45|⟨jd',hj8,hne,hcd⟩
   ·unfold qS xl at hd;rw[if_pos h45]at hd;exact absurd hd (by simp)
   ·have hn45:¬y.Q.c.d=45:=fun e=>by
     rw[e]at hcd;have:(45:UInt8).toNat=45:=rfl;omega
    unfold qS xl at hd;rw[if_neg hn45,hcd,Nat.add_sub_cancel_left]at hd
    cases hx:Z jd' with
    | none=>simp[ctR,hx]at hd
    | some t=>
     simp[ctR,hx]at hd;obtain⟨rfl,h2⟩:=hd;exact⟨hj8,hne,hcd,t,hx,h2⟩
  subst hTq;have hWt:=hW jd t.Q hj8 (by unfold ctR;rw[hzt];rfl);obtain⟨hTt,hct⟩:=hT jd t hj8 hzt
  cases hup:upQ y.Q.c y.Q.ms[j].rcv with
  | false=>
   rw[hup]at hbk;simp only[Bool.false_eq_true,false_and,if_false]at hbk;exact(a3F rb i j num now Z y w h hi hz hj hix hWy hTy (by omega) htil (.inl hup)).mono (hrdy hbk)
  | true=>
   cases hrm:qY t.Q (jZ y.Q.ms[j].grp (jm y.Q num 0).ms) with
   | false=>
    rw[hrm]at hbk;simp only[Bool.false_eq_true,and_false,if_false]at hbk;exact(a8R rb i j jd num now Z y t w h hi hz hj8 hne hzt hcd hj hix hWy hTy (by omega) hWt hTt (by omega) htil hup hrm).mono (hrdy hbk)
   | true=>
    rw[hup,hrm]at hbk;simp only[and_self,if_true]at hbk;refine(a8S rb i j jd num now Z y t w h hi hz hj8 hne hzt hcd hj hix hWy hTy (by omega) hWt hTt (by omega) htil hup hrm).mono ?_;rintro e w' ⟨h1,VT,ts',cnt',V',h2,h3,h4⟩;refine⟨h1,_,h2,?_,?_,QB.three hne hz hzt rfl rfl⟩
    ·rw[b9L Z hne,hbk];rfl
    ·refine TRZ.upd (TRZ.upd (TRZ.upd hT (Nat.le_refl N) (fun x hx=>?_)) (Nat.le_add_right N 51) (fun x hx=>?_)) (Nat.le_refl _) (fun x hx=>?_)
     ·obtain rfl:=Option.some.inj hx;refine⟨hTy.sub ?_ ?_ (fun m hm=>?_),hcy⟩
      ·rw[qi hj hix 0];exact List.Sublist.refl _
      ·rw[qi hj hix 0];exact Nat.le_refl _
      ·have hm':=hm;rw[qi hj hix 0]at hm';rcases List.mem_or_eq_of_mem_set hm' with h1|rfl
       ·exact⟨m,h1,rfl⟩
       ·exact⟨_,List.getElem_mem hj,rfl⟩
     ·obtain rfl:=Option.some.inj hx;exact⟨h3,by show cnt'<=N+51;omega⟩
     ·obtain rfl:=Option.some.inj hx;refine⟨hTy.sub ?_ ?_ (fun m hm=>?_),by show y.cnt<=N+51;omega⟩
      ·show (jm y.Q num 0).rs.Sublist _
       rw[qi hj hix 0];exact List.Sublist.refl _
      ·show _<=(jm y.Q num 0).next
       rw[qi hj hix 0];exact Nat.le_refl _
      ·have hm':m∈(jm y.Q num 0).ms:=(List.mem_filter.1 hm).1;rw[qi hj hix 0]at hm';rcases List.mem_or_eq_of_mem_set hm' with h1|rfl
       ·exact⟨m,h1,rfl⟩
       ·exact⟨_,List.getElem_mem hj,rfl⟩
theorem Lft.tch (h:Lft rb Z N w w1 now' c' N')(ht:Tch [] w1 w2):Lft rb Z N w w2 now' c' N':=by
 obtain⟨Z',h1,h2,h3⟩:=h;exact⟨Z',h1.trans (h1.rg.rgs ht),h2,h3⟩
theorem Lft.pre {now:Int}(hg:RG w rb now Z)(ht:Tch [] w w1)(h:Lft rb Z N w1 w2 now' c' N'):Lft rb Z N w w2 now' c' N':=by
 obtain⟨Z',h1,h2,h3⟩:=h;exact⟨Z',(hg.rgs ht).trans h1,h2,h3⟩
theorem b8x (rb i num rcv N:Nat)(now:Int)(Z:RZ)(r:Wp.Rq)(x:Sl)(y:RQ)(w:World)(h:RG w rb now Z)(hi:i<8)(hz:Z i=some y)(hh:vU r.han i num rcv)(hWc:WFc (ctR Z))(hTZ:TRZ Z N)(hN:N<=4611686018427387000)(hf:kr y.Q num rcv=true)(htic:r.tic=0):
  Cp 184 #[zp rb,.agg (ja r x.v)] w fun e w'=>e=.returned (.string ⟨#[0]⟩)/\Lft rb Z N w w' now (zv (ctR Z) i y.Q num now r.tic) (N+51):=by
 have hcz:ctR Z i=some y.Q:=by unfold ctR;rw[hz];rfl
 have hW:=hWc i y.Q hi hcz;obtain⟨hT,hcn⟩:=hTZ i y hi hz;obtain⟨j,hj,hix,hfj,hnum,htil,hn1⟩:=a4D hW hf;have HRX:=zH ((h.rr i y hi hz).tch (jG w r x) (by simp));have HH:Hid (zT 228 #[zp rb,.string r.han] (bxR w r x) (.tuple #[zp y.qb,.int .i64 (j:Int),.int .i64 0])):=by
  have h5:=a4G rb now (ptR Z) r.han i num rcv y.qb y.V y.sl.v y.Q y.ts y.cnt (bxR w r x) (h.st.tch (jG w r x) (by simp)) hh hi (kS hz) HRX.out hW;unfold a0H at h5;rw[if_pos hf,hix]at h5;exact h5
 have HA:Hid (∀W,zT 140 #[.int .i64 0] W (.string ⟨#[0]⟩)):=fun W=>jL 0 W
 have HG:=zH h;have HBT:Hid (∀W,Tch [] (bxR w r x) W->Tch [] w W):=fun W ht=>(jG w r x).trans ht (fun _ h _=>h)
 have HC8:Hid (∀W,Tch [] (bxR w r x) W->W.cell? ⟨w.heap.size,8,none⟩=some (.int .i64 r.tic)/\w.heap.size<W.heap.size):=fun W ht=>⟨jN ht 8 _ rfl,a5t ht⟩
 have HBK:Hid (∀W,Tch [] (bxR w r x) W->Cp 232 #[zp rb,zp y.qb,.int .i64 (j:Int)] W fun e w'=>e=.returned (.tuple #[])/\Lft rb Z N w w' now (qp (ctR Z) i num) (N+51)):=fun W ht=>(a5q rb i j N num now Z y W (h.tch (HBT.out W ht) (by simp)) hi hz hWc hTZ hN hj hix htil).mono (by
  rintro e w' ⟨h1,h2⟩;exact⟨h1,Lft.pre HG.out (HBT.out W ht) h2⟩)
 have HEX:Hid (zv (ctR Z) i y.Q num now r.tic=qp (ctR Z) i num):=by
  show _=_
  unfold zv;rw[if_pos htic]
 have HTI:=zH htic;clear htic;have e0:=zL r x.v;clear h hW hT hh hf hfj hix HRX hWc hTZ;unfold bxR at*
 rw[e0] at*
 clear e0;go_enter Tryz.func184,Tryz.ntmps184;go_wp2_with fail;refine HH.out.mono ?_;rintro e w1 ⟨rfl,ht1⟩;obtain⟨c8,l8⟩:=HC8.out w1 ht1;have HB3:=zH (HBK.out w1 ht1);clear HBK HH ht1 HC8;rw[HTI.out]at c8;go_wp2_with fail;refine HB3.out.mono ?_;rintro e w2 ⟨rfl,h2⟩;have H2:Hid _:=h2;clear h2 HB3 c8;go_wp2_with fail;refine(HA.out _).mono ?_;rintro e w3 ⟨rfl,h3⟩;have H3:Hid (Lft rb Z N w w3 now (zv (ctR Z) i y.Q num now r.tic) (N+51)):=by
  show Lft _ _ _ _ _ _ _ _
  rw[HEX.out];exact Lft.tch H2.out h3
 clear h3 HA;go_wp2_with fail;go_ret;exact⟨rfl,H3.out⟩
theorem b8y (rb i num rcv N:Nat)(now:Int)(Z:RZ)(r:Wp.Rq)(x:Sl)(y:RQ)(w:World)(h:RG w rb now Z)(hi:i<8)(hz:Z i=some y)(hh:vU r.han i num rcv)(hWc:WFc (ctR Z))(hTZ:TRZ Z N)(hN:N<=4611686018427387000)(hf:kr y.Q num rcv=true)(htic:0<r.tic/\r.tic<=1000)(hnow:0<=now/\now<=60000):
  Cp 184 #[zp rb,.agg (ja r x.v)] w fun e w'=>e=.returned (.string ⟨#[0]⟩)/\Lft rb Z N w w' now (zv (ctR Z) i y.Q num now r.tic) (N+51):=by
 have hcz:ctR Z i=some y.Q:=by unfold ctR;rw[hz];rfl
 have hW:=hWc i y.Q hi hcz;obtain⟨hT,hcn⟩:=hTZ i y hi hz;obtain⟨j,hj,hix,hfj,hnum,htil,hn1⟩:=a4D hW hf;have HRX:=zH ((h.rr i y hi hz).tch (jG w r x) (by simp));have HH:Hid (zT 228 #[zp rb,.string r.han] (bxR w r x) (.tuple #[zp y.qb,.int .i64 (j:Int),.int .i64 0])):=by
  have h5:=a4G rb now (ptR Z) r.han i num rcv y.qb y.V y.sl.v y.Q y.ts y.cnt (bxR w r x) (h.st.tch (jG w r x) (by simp)) hh hi (kS hz) HRX.out hW;unfold a0H at h5;rw[if_pos hf,hix]at h5;exact h5
 have HA:Hid (∀W,zT 140 #[.int .i64 0] W (.string ⟨#[0]⟩)):=fun W=>jL 0 W
 have HG:=zH h;have HBT:Hid (∀W,Tch [] (bxR w r x) W->Tch [] w W):=fun W ht=>(jG w r x).trans ht (fun _ h _=>h)
 have HC8:Hid (∀W,Tch [] (bxR w r x) W->W.cell? ⟨w.heap.size,8,none⟩=some (.int .i64 r.tic)/\w.heap.size<W.heap.size):=fun W ht=>⟨jN ht 8 _ rfl,a5t ht⟩
 have HEX:Hid (zv (ctR Z) i y.Q num now r.tic=jI (ctR Z) i (some (jm y.Q num (now+r.tic)))):=by
  show _=_
  unfold zv;rw[if_neg (by omega)]
 obtain⟨gm,cm,hvm,_,_⟩:=kA Ms.row 5 (fun _=>rfl) HRX.out.m j hj;have HFN:Hid (∀W,Tch [] (bxR w r x) W->(W.cell? ⟨y.qb,16,none⟩=some (.slice (some ⟨gm,0,none⟩) y.Q.ms.length cm)/\W.cell? ⟨rb,0,none⟩=some (.int .i64 now)/\(∃v,W.cell? ⟨gm,j*5+4,none⟩=some v)/\W.frozen? ⟨gm,j*5+4,none⟩=false/\y.qb<W.heap.size/\gm<W.heap.size/\rb<W.heap.size)/\∀w2,Tch [] (W.setCell ⟨gm,j*5+4,none⟩ (.int .i64 (now+r.tic))) w2->Lft rb Z N w w2 now (zv (ctR Z) i y.Q num now r.tic) (N+51)):=fun W ht=>by
  have g1:=h.tch (HBT.out W ht) (by simp);have r1:=g1.rr i y hi hz;obtain⟨fz,lg,cv,hs⟩:=r1.setMs hvm j hj 4 (by decide) (.int .i64 (now+r.tic)) {y.Q.ms[j] with til:=now+r.tic} rfl;refine⟨⟨by rw[<-hvm];exact jb r1.blk 16 _ rfl,g1.st.now,cv,fz,lt_of_block r1.blk,lg,g1.st.lt⟩,fun w2 h2=>?_⟩
  rw[<-qi hj hix (now+r.tic)]at hs;refine Lft.pre HG.out (HBT.out W ht) ⟨_,g1.fin hi hz hs h2,?_,TRZ.upd hTZ (Nat.le_add_right N 51) (fun q hq=>?_),QB.one hz rfl⟩
  ·rw[qM,HEX.out];rfl
  ·obtain rfl:=Option.some.inj hq;refine⟨hT.sub ?_ ?_ (fun m hm=>?_),by show y.cnt<=N+51;omega⟩
   ·show (jm y.Q num (now+r.tic)).rs.Sublist _
    rw[qi hj hix _];exact List.Sublist.refl _
   ·show _<=(jm y.Q num (now+r.tic)).next
    rw[qi hj hix _];exact Nat.le_refl _
   ·have hm':=hm;rw[qi hj hix _]at hm';rcases List.mem_or_eq_of_mem_set hm' with h1|rfl
    ·exact⟨m,h1,rfl⟩
    ·exact⟨_,List.getElem_mem hj,rfl⟩
 have hjI:(j:Int)<(y.Q.ms.length:Int):=by omega
 have hj0:(0:Int)<=(j:Int):=by omega
 have hwt:IntKind.i64.wrap (now+r.tic)=now+r.tic:=by rw[IntKind.wrap_i64];omega
 have e0:=zL r x.v;clear h hW hT hh hf hfj hix HRX hWc hTZ hvm HEX;unfold bxR at*
 rw[e0] at*
 clear e0;go_enter Tryz.func184,Tryz.ntmps184;go_wp2_with fail;refine HH.out.mono ?_;rintro e w1 ⟨rfl,ht1⟩;obtain⟨c8,l8⟩:=HC8.out w1 ht1;obtain⟨⟨k1,k2,⟨kv,k3⟩,k4,k5,k6,k7⟩,KF⟩:=HFN.out w1 ht1;have HKF:Hid _:=KF;clear KF HFN HH ht1 HC8;go_wp2_with fail
 go_region
 all_goals
  go_wp2_with fail;refine(HA.out _).mono ?_;rintro e w3 ⟨rfl,h3⟩;have H3:Hid (Lft rb Z N w w3 now (zv (ctR Z) i y.Q num now r.tic) (N+51)):=HKF.out w3 (by first|exact h3|exact(Tch.refl [] _).drew.trans h3 (fun _ h _=>h));clear h3 HA;go_wp2_with fail;go_ret;exact⟨rfl,H3.out⟩
structure MkW (m:Mk):Prop where
 id:m.id.size<=255
 num:0<=m.num/\m.num<4294967296
 til:0<=m.til/\m.til<4294967296
 ans:m.ans.size<=600
def mkB (b:Bool)(m:Mk):List UInt8:=if b=true then ((jx m.id++je m.til.toNat 4)++je m.ans.size 2)++m.ans.data.toList else (jx m.id++je m.num.toNat 4)++je m.til.toNat 4
def mkS (b:Bool)(l:List Mk)(k:Nat):List UInt8:=je l.length 1++(l.take k).flatMap (mkB b)
theorem b4h (b:Bool)(m:Mk)(h:MkW m):(mkB b m).length<=1000:=by
 have h1:=h.id;have h2:=h.ans;have h3:=jp m.id;have h4:m.ans.data.toList.length=m.ans.size:=rfl;unfold mkB
 split<;>simp only[List.length_append,jc]<;>omega
theorem a8g (b:Bool)(l:List Mk)(h:∀m∈l,MkW m):∀k,(mkS b l k).length<=1+1000*k
 | 0=>by simp[mkS,jc]
 | k+1=>by
  have ih:=a8g b l h k;unfold mkS at*
  by_cases hk:k<l.length
  ·rw[List.take_succ_eq_append_getElem hk,List.flatMap_append,<-List.append_assoc,List.length_append];have:=b4h b l[k] (h _ (List.getElem_mem hk));simp only[List.flatMap_cons,List.flatMap_nil,List.append_nil];omega
  ·rw[List.take_of_length_le (by omega)]at ih ⊢;omega
theorem a5S (b:Bool)(l:List Mk)(k:Nat)(hk:k<l.length):mkS b l (k+1)=mkS b l k++mkB b l[k]:=by
 unfold mkS;rw[List.take_succ_eq_append_getElem hk,List.flatMap_append,<-List.append_assoc];simp
theorem kT (p q:List UInt8):BA p++BA q=BA (p++q):=a0n p q
theorem a3V (b:Bool)(l:List Mk)(v:Value)(w:World)(ho:rowO w 267 4 v l.length (l.flatMap Mk.row))(hl:l.length<=255)(hw:∀m∈l,MkW m):
  zT 235 #[v,.bool b] w (.string (BA (mkS b l l.length))):=by
 obtain⟨sa,sc,rfl⟩:=xL ho;have HO:=zH ho;have HL:Hid (zB 138 #[.int .i64 (l.length:Int),.int .i64 1] w (.string (BA (je l.length 1)))):=qe l.length 1 w (by omega) (by decide) (by decide);have HZL:Hid (∀k,k<=l.length->(BA (mkS b l k)).size<=300000):=fun k hk=>by
  rw[jH];have:=a8g b l hw k;omega
 have HLW:Hid (∀n s W,n<4294967296->0<s->s<=8->zT 138 #[.int .i64 ((n:Nat):Int),.int .i64 ((s:Nat):Int)] W (.string (BA (je n s)))):=fun n s W h1 h2 h3=>(qe n s W h1 h2 h3).mono (by rintro e w' ⟨he,hb⟩;exact⟨he,Tch.of_below hb⟩)
 have HTX:Hid (∀s W,s.size<=255->zT 139 #[.string s] W (.string (BA (jx s)))):=fun s W h1=>(qh s W h1).mono (by rintro e w' ⟨he,hb⟩;exact⟨he,Tch.of_below hb⟩)
 have HWM:=zH hw;clear ho hw;go_enter Tryz.func235,Tryz.ntmps235;go_wp2_with fail;refine HL.out.mono ?_;rintro e w0 ⟨rfl,hb0⟩;have HT0:=zH (Tch.of_below hb0);have HS0:Hid (BA (je l.length 1)=BA (mkS b l 0)):=by
  show _=_
  unfold mkS;simp
 rw[HS0.out];clear hb0 HL;go_wp2_with fail
 go_loopw [5,6] (fun sv v wr=>∃k:Nat,k<=l.length/\sv=.string (BA (mkS b l k))/\v=.int .i64 (k:Int)/\Tch [] w wr) (fun _ v _=>l.length-(intOf v).toNat)
 case atStart=>exact⟨0,Nat.zero_le _,rfl,rfl,HT0.out⟩
 case round=>
  obtain⟨k,hk,rfl,rfl,htr⟩:=hrel;have HTR:=zH htr
  by_cases hlt:k<l.length
  ·have hm:=HWM.out l[k] (List.getElem_mem hlt);obtain⟨gb,o,cap,hv,lg,_⟩:=a2t Mk.row 4 (fun _=>rfl) (HO.out.tch htr) k hlt;simp only[Value.slice.injEq,true_and]at hv;obtain⟨rfl,rfl⟩:=hv;have HCS:Hid (∀W,Tch [] wr W->(W.cell? ⟨gb,o+k*4,none⟩=some (.string l[k].id)/\W.cell? ⟨gb,o+k*4+1,none⟩=some (.int .i64 (l[k].num.toNat:Int))/\W.cell? ⟨gb,o+k*4+2,none⟩=some (.string l[k].ans)/\W.cell? ⟨gb,o+k*4+3,none⟩=some (.int .i64 (l[k].til.toNat:Int)))/\gb<W.heap.size/\Hid (Tch [] w W)):=fun W ht=>by
    have t2:=HTR.out.trans ht (fun _ h _=>h);obtain⟨gb',o',cap',hv',lg',hcs⟩:=a2t Mk.row 4 (fun _=>rfl) (HO.out.tch t2) k hlt;simp only[Value.slice.injEq,Option.some.injEq,Addr.mk.injEq,true_and,and_true]at hv';obtain⟨⟨rfl,rfl⟩,rfl⟩:=hv';rw[Int.toNat_of_nonneg hm.num.1,Int.toNat_of_nonneg hm.til.1];exact⟨⟨hcs 0 _ rfl,hcs 1 _ rfl,hcs 2 _ rfl,hcs 3 _ rfl⟩,lg',t2⟩
   have HA1:Hid (∀W,zT 139 #[.string l[k].id] W (.string (BA (jx l[k].id)))):=fun W=>HTX.out _ W hm.id
   have HA2:Hid (∀W,zT 138 #[.int .i64 (l[k].til.toNat:Int),.int .i64 4] W (.string (BA (je l[k].til.toNat 4)))):=fun W=>HLW.out _ 4 W (by have:=hm.til;omega) (by decide) (by decide)
   have HA3:Hid (∀W,zT 138 #[.int .i64 (l[k].num.toNat:Int),.int .i64 4] W (.string (BA (je l[k].num.toNat 4)))):=fun W=>HLW.out _ 4 W (by have:=hm.num;omega) (by decide) (by decide)
   have HA4:Hid (∀W,zT 138 #[.int .i64 (l[k].ans.size:Int),.int .i64 2] W (.string (BA (je l[k].ans.size 2)))):=fun W=>HLW.out _ 2 W (by have:=hm.ans;omega) (by decide) (by decide)
   have z0:=HZL.out k hk;have z1:(BA (jx l[k].id)).size<=256:=by rw[jH,jp];have:=hm.id;omega
   have z2:(BA (je l[k].til.toNat 4)).size=4:=by rw[jH,jc]
   have z3:(BA (je l[k].num.toNat 4)).size=4:=by rw[jH,jc]
   have z4:(BA (je l[k].ans.size 2)).size=2:=by rw[jH,jc]
   have z5:=hm.ans;have HE1:Hid (b=true->BA (mkS b l k)++BA (jx l[k].id)++BA (je l[k].til.toNat 4)++BA (je l[k].ans.size 2)++l[k].ans=BA (mkS b l (k+1))):=fun hb=>by
    have e:l[k].ans=BA l[k].ans.data.toList:=(a2j _).symm;rw[a5S b l k hlt];unfold mkB;rw[if_pos hb];rw[kT,kT,kT];have e2:∀p:List UInt8,BA p++l[k].ans=BA (p++l[k].ans.data.toList):=fun p=>by
     have:=kT p l[k].ans.data.toList;rw[a2j]at this;exact this
    rw[e2];simp only[List.append_assoc]
   have HE2:Hid (b=false->BA (mkS b l k)++BA (jx l[k].id)++BA (je l[k].num.toNat 4)++BA (je l[k].til.toNat 4)=BA (mkS b l (k+1))):=fun hb=>by
    rw[a5S b l k hlt];unfold mkB;rw[if_neg (by rw[hb];decide)];rw[kT,kT,kT];simp only[List.append_assoc]
   have hkI:(k:Int)<(l.length:Int):=by omega
   obtain⟨⟨d0,_,_,_⟩,l0,_⟩:=HCS.out wr (Tch.refl _ _);clear hm htr;generalize BA (mkS b l k)=S at*
   generalize BA (jx l[k].id)=A1 at*
   generalize BA (je l[k].til.toNat 4)=A2 at*
   generalize BA (je l[k].num.toNat 4)=A3 at*
   generalize BA (je l[k].ans.size 2)=A4 at*
   generalize l[k].til.toNat=tn at*
   generalize l[k].num.toNat=nm at*
   generalize l[k].ans=an at*
   generalize l[k].id=idd at*
   go_wp2_with fail;refine(HA1.out wr).mono ?_;rintro e w1 ⟨rfl,t1⟩;have T1:=zH t1;obtain⟨⟨_,_,_,d3⟩,l1,_⟩:=HCS.out w1 t1;clear d0 l0 t1 HA1;go_wp2_with fail;refine(HA2.out w1).mono ?_;rintro e w2 ⟨rfl,t2⟩;have T2:Hid (Tch [] wr w2):=T1.out.trans t2 (fun _ h _=>h);clear d3 l1 t2 HA2
   cases b with
   | true=>
    obtain⟨⟨_,_,d2,_⟩,l2,_⟩:=HCS.out w2 T2.out;go_wp2_with fail;refine(HA4.out w2).mono ?_;rintro e w3 ⟨rfl,t3⟩;obtain⟨⟨_,_,d2',_⟩,l3,KT⟩:=HCS.out w3 (T2.out.trans t3 (fun _ h _=>h));clear d2 l2 t3 HA4;have HE:=HE1.out (by first|trivial|rfl);have HEE:Hid _:=HE;clear HE;go_wp2_with fail;go_roundw
    case rel=>exact⟨k+1,by omega,by rw[<-HEE.out],by go_num,KT.out⟩
    case measure=>simp[intOf];omega
   | false=>
    obtain⟨⟨_,d1,_,_⟩,l2,_⟩:=HCS.out w2 T2.out;go_wp2_with fail;refine(HA3.out w2).mono ?_;rintro e w3 ⟨rfl,t3⟩;obtain⟨_,l3,KT⟩:=HCS.out w3 (T2.out.trans t3 (fun _ h _=>h));clear d1 l2 t3 HA3;have HE:=HE2.out (by first|trivial|rfl);have HEE:Hid _:=HE;clear HE;go_wp2_with fail;go_roundw
    case rel=>exact⟨k+1,by omega,by rw[<-HEE.out],by go_num,KT.out⟩
    case measure=>simp[intOf];omega
  ·have hke:k=l.length:=by omega
   subst hke;clear htr;go_wp2_with fail;go_ret;exact⟨rfl,HTR.out⟩
end Go.Proofs.YtbdobaapadlcjaaGreatDoor.Ref
