import Derived.Test.YtbdobaapadlcjabGreatDoorHy31
set_option maxRecDepth 8000
set_option maxHeartbeats 4000000
set_option linter.unusedVariables false
set_option linter.unusedSimpArgs false
namespace Go.Proofs.YtbdobaapadlcjabGreatDoor
open Go.RowKit
def AnsV (K:ByteArray->World->Prop)(e:Ending)(w:World):Prop:=
 (∃c:UInt8,0<c.toNat/\e=.returned (.tuple #[.slice none 0 0,.nilFunc,.int .i64 (c.toNat:Int)])/\∀w2,Tch [] w w2->K ⟨#[c]⟩ w2)\/
 (∃av l,e=.returned (.tuple #[av,.nilFunc,.int .i64 0])/\RdN w av l/\∀w2,Tch [] w w2->K (okL l) w2)
theorem AnsV.shape {K:ByteArray->World->Prop}{e:Ending}{w:World}(h:AnsV K e w):∃av n,e=.returned (.tuple #[av,.nilFunc,.int .i64 n]):=by
 rcases h with ⟨c,_,h,_⟩|⟨av,l,h,_⟩
 ·exact⟨_,_,h⟩
 ·exact⟨_,_,h⟩
def PlV (K:ByteArray->World->Prop)(e:Ending)(w1:World):Prop:=∃t,e=.returned (.tuple #[.string t,.nilFunc])/\∀w2,Tch [] w1 w2->K t w2
theorem plan_v (K:ByteArray->World->Prop)(r:Wp.Rq)(x:Sl)(cs:Array Value)(st b i fn:Nat)(now:Int)(P:Nat->Value)(w:World)(hop:r.op.toNat=65+i)(hi:i<26)(hst:Stb w st b now P)(hv:(deedsC b)[i]?=some (.func (.func fn) #[] cs))
  (eg:∀args w,(callFunc fn args).run Tryz.prog w=.ok (.enter fn args) w)
  (hS:∀W,Tch [] w W->Calls Tryz.prog fn (#[.pointer (some ⟨st,0,none⟩),.agg (cellsOf r x.v)]++cs) W fun e w'=>Tch [] W w'/\AnsV K e w'):
  Calls Tryz.prog 30 #[.pointer (some ⟨st,0,none⟩),.agg (cellsOf r x.v)] w fun e w'=>Tch [] w w'/\PlV K e w':=by
 have hlt:=hst.lt;have HST:=zH hst;have HV:=zH hv;have HN:=zH hS;rw[cellsI r x i hop]at HN;rw[cellsI r x i hop];clear hS hv;obtain⟨i0,hi0,hz0,hz1,hz2⟩:=info_parts info5;have hb1:(0:Int)<=(i:Int):=Int.natCast_nonneg i;have hb2:(i:Int)<26:=by omega
 have hwi:IntKind.u8.wrap (65+(i:Int)-65)=(i:Int):=by
  have e:(65+(i:Int)-65)=(i:Int):=by omega
  rw[e,IntKind.wrap_u8];omega
 go_enter Tryz.func30,Tryz.ntmps30;go_wp2_with fail;obtain⟨wb,hwb⟩:∃wb,wb=w.alloc (.cells #[.int .u8 (65+(i:Int)),.int .u8 (r.q.toNat:Int),.int .u8 (r.d.toNat:Int),.int .i64 r.vis,.int .i64 r.win,.int .i64 r.rcv,.int .i64 r.quo,.int .i64 r.mx,.int .i64 r.tic,.string r.grp,.string r.ded,.string r.bod,.string r.att,.string r.han,.slice x.a x.n x.c] 24):=⟨_,rfl⟩;rw[<-hwb];have hrow:wb.heap[w.heap.size]?=some (.cells #[.int .u8 (65+(i:Int)),.int .u8 (r.q.toNat:Int),.int .u8 (r.d.toNat:Int),.int .i64 r.vis,.int .i64 r.win,.int .i64 r.rcv,.int .i64 r.quo,.int .i64 r.mx,.int .i64 r.tic,.string r.grp,.string r.ded,.string r.bod,.string r.att,.string r.han,.slice x.a x.n x.c] 24 (0,0)):=by rw[hwb];exact heap_alloc_new _ _
 have TB:Hid (Tch [] w wb):=by rw[hwb];exact(Tch.refl _ _).alloc _
 have hsb:=HST.out.tch TB.out (by simp);have e0:wb.cell? ⟨w.heap.size,0,none⟩=some (.int .u8 (65+(i:Int))):=by simp[World.cell?,hrow]
 have e1:wb.cell? ⟨w.heap.size,1,none⟩=some (.int .u8 (r.q.toNat:Int)):=by simp[World.cell?,hrow]
 have e2:wb.cell? ⟨w.heap.size,2,none⟩=some (.int .u8 (r.d.toNat:Int)):=by simp[World.cell?,hrow]
 have e3:wb.cell? ⟨w.heap.size,3,none⟩=some (.int .i64 r.vis):=by simp[World.cell?,hrow]
 have e4:wb.cell? ⟨w.heap.size,4,none⟩=some (.int .i64 r.win):=by simp[World.cell?,hrow]
 have e5:wb.cell? ⟨w.heap.size,5,none⟩=some (.int .i64 r.rcv):=by simp[World.cell?,hrow]
 have e6:wb.cell? ⟨w.heap.size,6,none⟩=some (.int .i64 r.quo):=by simp[World.cell?,hrow]
 have e7:wb.cell? ⟨w.heap.size,7,none⟩=some (.int .i64 r.mx):=by simp[World.cell?,hrow]
 have e8:wb.cell? ⟨w.heap.size,8,none⟩=some (.int .i64 r.tic):=by simp[World.cell?,hrow]
 have e9:wb.cell? ⟨w.heap.size,9,none⟩=some (.string r.grp):=by simp[World.cell?,hrow]
 have e10:wb.cell? ⟨w.heap.size,10,none⟩=some (.string r.ded):=by simp[World.cell?,hrow]
 have e11:wb.cell? ⟨w.heap.size,11,none⟩=some (.string r.bod):=by simp[World.cell?,hrow]
 have e12:wb.cell? ⟨w.heap.size,12,none⟩=some (.string r.att):=by simp[World.cell?,hrow]
 have e13:wb.cell? ⟨w.heap.size,13,none⟩=some (.string r.han):=by simp[World.cell?,hrow]
 have e14:wb.cell? ⟨w.heap.size,14,none⟩=some (.slice x.a x.n x.c):=by simp[World.cell?,hrow]
 have cx2:=stG_deed hsb HV.out;have hlL:w.heap.size<wb.heap.size:=lt_of_block hrow;have hlX:=hsb.lt;have HN1:Hid (Calls Tryz.prog fn _ wb.drew _):=HN.out wb.drew TB.out.drew;clear hrow hsb hwb hst
 go_region_held3 (fun w'=>w'.cell? ⟨w.heap.size,0,none⟩=some (.int .u8 (65+(i:Int)))/\w'.cell? ⟨w.heap.size,1,none⟩=some (.int .u8 (r.q.toNat:Int))/\w'.cell? ⟨w.heap.size,2,none⟩=some (.int .u8 (r.d.toNat:Int))/\w'.cell? ⟨w.heap.size,3,none⟩=some (.int .i64 r.vis)/\w'.cell? ⟨w.heap.size,4,none⟩=some (.int .i64 r.win)/\w'.cell? ⟨w.heap.size,5,none⟩=some (.int .i64 r.rcv)/\w'.cell? ⟨w.heap.size,6,none⟩=some (.int .i64 r.quo)/\w'.cell? ⟨w.heap.size,7,none⟩=some (.int .i64 r.mx)/\w'.cell? ⟨w.heap.size,8,none⟩=some (.int .i64 r.tic)/\w'.cell? ⟨w.heap.size,9,none⟩=some (.string r.grp)/\w'.cell? ⟨w.heap.size,10,none⟩=some (.string r.ded)/\w'.cell? ⟨w.heap.size,11,none⟩=some (.string r.bod)/\w'.cell? ⟨w.heap.size,12,none⟩=some (.string r.att)/\w'.cell? ⟨w.heap.size,13,none⟩=some (.string r.han)/\w'.cell? ⟨w.heap.size,14,none⟩=some (.slice x.a x.n x.c)/\w'.cell? ⟨st,9+i,none⟩=some (.func (.func fn) #[] cs)) (go_keep) (first|(go_at_fn fn;refine HN1.out.mono ?_;rintro e w1 ⟨ht,ha⟩;obtain⟨av,en,rfl⟩:=ha.shape;have k0:=(ht.cell (a:=⟨w.heap.size,0,none⟩) hlL (by simp)).trans e0;have k1:=(ht.cell (a:=⟨w.heap.size,1,none⟩) hlL (by simp)).trans e1;have k2:=(ht.cell (a:=⟨w.heap.size,2,none⟩) hlL (by simp)).trans e2;have k3:=(ht.cell (a:=⟨w.heap.size,3,none⟩) hlL (by simp)).trans e3;have k4:=(ht.cell (a:=⟨w.heap.size,4,none⟩) hlL (by simp)).trans e4;have k5:=(ht.cell (a:=⟨w.heap.size,5,none⟩) hlL (by simp)).trans e5;have k6:=(ht.cell (a:=⟨w.heap.size,6,none⟩) hlL (by simp)).trans e6;have k7:=(ht.cell (a:=⟨w.heap.size,7,none⟩) hlL (by simp)).trans e7;have k8:=(ht.cell (a:=⟨w.heap.size,8,none⟩) hlL (by simp)).trans e8;have k9:=(ht.cell (a:=⟨w.heap.size,9,none⟩) hlL (by simp)).trans e9;have k10:=(ht.cell (a:=⟨w.heap.size,10,none⟩) hlL (by simp)).trans e10;have k11:=(ht.cell (a:=⟨w.heap.size,11,none⟩) hlL (by simp)).trans e11;have k12:=(ht.cell (a:=⟨w.heap.size,12,none⟩) hlL (by simp)).trans e12;have k13:=(ht.cell (a:=⟨w.heap.size,13,none⟩) hlL (by simp)).trans e13;have k14:=(ht.cell (a:=⟨w.heap.size,14,none⟩) hlL (by simp)).trans e14;have kx:=(ht.cell (a:=⟨st,9+i,none⟩) hlX (by simp)).trans cx2))
 have HTW:Hid (Tch [] w w1):=TB.out.drew.trans ht (by simp);clear e0 k0 e1 k1 e2 k2 e3 k3 e4 k4 e5 k5 e6 k6 e7 k7 e8 k8 e9 k9 e10 k10 e11 k11 e12 k12 e13 k13 e14 k14 kx cx2 ht HN1 HN;rcases ha with ⟨c,hc0,he,hk⟩|⟨av',l,he,hrd,hk⟩
 ·simp only[Ending.returned.injEq,Value.tuple.injEq,Array.mk.injEq,List.cons.injEq,Value.int.injEq,and_true,true_and]at he;obtain⟨rfl,rfl⟩:=he;have hne:(((c.toNat:Nat):Int) == 0)=false:=beq_eq_false_iff_ne.2 (by omega);have hne2:(((c.toNat:Nat):Int) != 0)=true:=by simp[bne,hne]
  have HK:Hid (∀w2,Tch [] w1 w2->K ⟨#[c]⟩ w2):=hk;have HRF:Hid (zT 29 #[.int .i64 ((c.toNat:Nat):Int)] w1 (.string ⟨#[c]⟩)):=refusal_any c w1;clear hk;generalize ((c.toNat:Nat):Int)=n at*
  go_wp2_with fail;refine HRF.out.mono ?_;rintro e w2 ⟨rfl,ht2⟩;have HT2:=zH ht2;clear ht2 HRF;go_wp2_with fail;go_ret2;exact⟨HTW.out.trans HT2.out (by simp),⟨#[c]⟩,rfl,fun w3 h3=>HK.out w3 (HT2.out.trans h3 (by simp))⟩
 ·simp only[Ending.returned.injEq,Value.tuple.injEq,Array.mk.injEq,List.cons.injEq,Value.int.injEq,and_true,true_and]at he;obtain⟨rfl,rfl⟩:=he;have HK:=zH hk;clear hk;rcases hrd with ⟨rfl,rfl⟩|⟨hl0,hl1,g,cap,hav,hcell⟩
  ·have HT2:Hid (Tch [] w1 (w1.alloc (.cells #[.int .u8 0] 5))):=(Tch.refl _ _).alloc _;have hzs:=zero_str;go_wp2_with fail;go_ret2;exact⟨HTW.out.trans HT2.out (by simp),okL [],rfl,fun w3 h3=>HK.out w3 (HT2.out.trans h3 (by simp))⟩
  ·subst hav;have HC:=zH hcell;have HOW:Hid (∀W:World,(W.alloc (.cells #[.int .u8 0] 5)).ownsRow W.heap.size 5 1 (.slice (some ⟨W.heap.size,0,none⟩) 1 1) 1 [.int .u8 0]):=fun W=>⟨rfl,.inr ⟨W.heap.size,1,#[.int .u8 0],rfl,Nat.le_refl _,heap_alloc_new _ _,by decide,by decide,rfl,rfl⟩⟩
   clear hcell;go_wp2_with (at_builtin;refine wpList_append_own _ rfl _ _ 54 rfl w1.heap.size 5 i0 (.int .u8 0) 1 1 Tryz.underlying54 hi0 hz0 hz1 hz2 rfl (by decide) _ _ _ rfl (HOW.out w1) ⟨g,0,none⟩ l.length cap (bytesV l) rfl ?c0 ?c1 ?c2 ?c3 ?c4 ?c5 ?_)
   case c0=>simp[bytesV]
   case c1=>exact fun j u hu=>Lib.cell?_alloc_some _ (HC.out j u hu)
   case c2=>intro u hu;obtain⟨z,_,rfl⟩:=List.mem_map.1 hu;rfl
   case c3=>unfold maxLen;omega
   case c4=>omega
   case c5=>simp
   intro v' w2 hown' hgrow _;have hstr:(convert 54 9 v').run Tryz.prog w2=.ok (.string (okL l)) w2:=OwnB.str (l:=0::l) (by
    have h:=hown';unfold OwnB;rw[List.length_cons,Nat.add_comm];exact h) (by simp)
   have HT2:Hid (Tch [] w1 w2):=((Tch.refl [] w1).alloc _).grown hgrow (fun j hj hlt=>by
    simp[Value.ownBlock]at hj;omega)
   clear hown' hgrow;go_wp2_with fail;go_ret2;exact⟨HTW.out.trans HT2.out (by simp),okL l,rfl,fun w3 h3=>HK.out w3 (HT2.out.trans h3 (by simp))⟩
theorem within_v (K:ByteArray->World->Prop)(r:Wp.Rq)(x:Sl)(st b i fn bb qb:Nat)(now:Int)(P:Nat->Value)(w:World)(hq:r.q.toNat=97+i)(hi:i<8)(hst:Stb w st b now P)(hP:P i=.pointer (some ⟨qb,0,none⟩))(hbb:w.heap[bb]?=some (.cells #[.func (.func fn) #[] #[]] 186 (0,0)))
  (eg:∀args w,(callFunc fn args).run Tryz.prog w=.ok (.enter fn args) w)
  (hS:∀W,Tch [] w W->Calls Tryz.prog fn #[.pointer (some ⟨qb,0,none⟩),.int .i64 now,.agg (cellsOf r x.v)] W fun e w'=>Tch [] W w'/\AnsV K e w'):
  Calls Tryz.prog 160 #[.pointer (some ⟨st,0,none⟩),.agg (cellsOf r x.v),.pointer (some ⟨bb,0,none⟩)] w fun e w'=>Tch [] w w'/\AnsV K e w':=by
 have HST:=zH hst;have HBB:=zH hbb;have HN:=zH hS;have HA:Hid (∀W,Tch [] w W->zE 153 #[.pointer (some ⟨st,0,none⟩),.int .u8 (97+(i:Int))] W (.pointer (some ⟨qb,0,none⟩))):=fun W ht=>by
  have h1:=at_g st b i now P W (hst.tch ht (by simp)) hi;rw[hP]at h1;exact h1
 rw[cellsQ r x i hq]at HN;rw[cellsQ r x i hq];clear hS hst hbb;go_enter Tryz.func160,Tryz.ntmps160;have TB0:Hid (Tch [] w (w.alloc (.cells #[.int .u8 (r.op.toNat:Int),.int .u8 (97+(i:Int)),.int .u8 (r.d.toNat:Int),.int .i64 r.vis,.int .i64 r.win,.int .i64 r.rcv,.int .i64 r.quo,.int .i64 r.mx,.int .i64 r.tic,.string r.grp,.string r.ded,.string r.bod,.string r.att,.string r.han,.slice x.a x.n x.c] 24))):=(Tch.refl _ _).alloc _;go_wp2_with (go_at_call 153;refine(HA.out _ TB0.out).mono ?_;rintro e w' ⟨rfl,rfl⟩);obtain⟨wb,hwb⟩:∃wb,wb=w.alloc (.cells #[.int .u8 (r.op.toNat:Int),.int .u8 (97+(i:Int)),.int .u8 (r.d.toNat:Int),.int .i64 r.vis,.int .i64 r.win,.int .i64 r.rcv,.int .i64 r.quo,.int .i64 r.mx,.int .i64 r.tic,.string r.grp,.string r.ded,.string r.bod,.string r.att,.string r.han,.slice x.a x.n x.c] 24):=⟨_,rfl⟩;rw[<-hwb];have hrow:wb.heap[w.heap.size]?=some (.cells #[.int .u8 (r.op.toNat:Int),.int .u8 (97+(i:Int)),.int .u8 (r.d.toNat:Int),.int .i64 r.vis,.int .i64 r.win,.int .i64 r.rcv,.int .i64 r.quo,.int .i64 r.mx,.int .i64 r.tic,.string r.grp,.string r.ded,.string r.bod,.string r.att,.string r.han,.slice x.a x.n x.c] 24 (0,0)):=by rw[hwb];exact heap_alloc_new _ _
 have TB:Hid (Tch [] w wb):=by rw[hwb];exact(Tch.refl _ _).alloc _
 have hsb:=HST.out.tch TB.out (by simp);have hbk:wb.heap[bb]?=some (.cells #[.func (.func fn) #[] #[]] 186 (0,0)):=(TB.out.block _ (lt_of_block HBB.out) (by simp)).trans HBB.out;have e0:wb.cell? ⟨w.heap.size,0,none⟩=some (.int .u8 (r.op.toNat:Int)):=by simp[World.cell?,hrow]
 have e1:wb.cell? ⟨w.heap.size,1,none⟩=some (.int .u8 (97+(i:Int))):=by simp[World.cell?,hrow]
 have e2:wb.cell? ⟨w.heap.size,2,none⟩=some (.int .u8 (r.d.toNat:Int)):=by simp[World.cell?,hrow]
 have e3:wb.cell? ⟨w.heap.size,3,none⟩=some (.int .i64 r.vis):=by simp[World.cell?,hrow]
 have e4:wb.cell? ⟨w.heap.size,4,none⟩=some (.int .i64 r.win):=by simp[World.cell?,hrow]
 have e5:wb.cell? ⟨w.heap.size,5,none⟩=some (.int .i64 r.rcv):=by simp[World.cell?,hrow]
 have e6:wb.cell? ⟨w.heap.size,6,none⟩=some (.int .i64 r.quo):=by simp[World.cell?,hrow]
 have e7:wb.cell? ⟨w.heap.size,7,none⟩=some (.int .i64 r.mx):=by simp[World.cell?,hrow]
 have e8:wb.cell? ⟨w.heap.size,8,none⟩=some (.int .i64 r.tic):=by simp[World.cell?,hrow]
 have e9:wb.cell? ⟨w.heap.size,9,none⟩=some (.string r.grp):=by simp[World.cell?,hrow]
 have e10:wb.cell? ⟨w.heap.size,10,none⟩=some (.string r.ded):=by simp[World.cell?,hrow]
 have e11:wb.cell? ⟨w.heap.size,11,none⟩=some (.string r.bod):=by simp[World.cell?,hrow]
 have e12:wb.cell? ⟨w.heap.size,12,none⟩=some (.string r.att):=by simp[World.cell?,hrow]
 have e13:wb.cell? ⟨w.heap.size,13,none⟩=some (.string r.han):=by simp[World.cell?,hrow]
 have e14:wb.cell? ⟨w.heap.size,14,none⟩=some (.slice x.a x.n x.c):=by simp[World.cell?,hrow]
 have cn:=hsb.now;have cb:=cell_of_one hbk;have hlL:w.heap.size<wb.heap.size:=lt_of_block hrow;have hlX:=hsb.lt;have hlB:bb<wb.heap.size:=lt_of_block hbk;have HN1:=zH (HN.out wb.drew TB.out.drew);clear hrow hsb hbk hwb TB0 HA
 go_region_held3 (fun w'=>w'.cell? ⟨w.heap.size,0,none⟩=some (.int .u8 (r.op.toNat:Int))/\w'.cell? ⟨w.heap.size,1,none⟩=some (.int .u8 (97+(i:Int)))/\w'.cell? ⟨w.heap.size,2,none⟩=some (.int .u8 (r.d.toNat:Int))/\w'.cell? ⟨w.heap.size,3,none⟩=some (.int .i64 r.vis)/\w'.cell? ⟨w.heap.size,4,none⟩=some (.int .i64 r.win)/\w'.cell? ⟨w.heap.size,5,none⟩=some (.int .i64 r.rcv)/\w'.cell? ⟨w.heap.size,6,none⟩=some (.int .i64 r.quo)/\w'.cell? ⟨w.heap.size,7,none⟩=some (.int .i64 r.mx)/\w'.cell? ⟨w.heap.size,8,none⟩=some (.int .i64 r.tic)/\w'.cell? ⟨w.heap.size,9,none⟩=some (.string r.grp)/\w'.cell? ⟨w.heap.size,10,none⟩=some (.string r.ded)/\w'.cell? ⟨w.heap.size,11,none⟩=some (.string r.bod)/\w'.cell? ⟨w.heap.size,12,none⟩=some (.string r.att)/\w'.cell? ⟨w.heap.size,13,none⟩=some (.string r.han)/\w'.cell? ⟨w.heap.size,14,none⟩=some (.slice x.a x.n x.c)/\w'.cell? ⟨bb,0,none⟩=some (.func (.func fn) #[] #[])/\w'.cell? ⟨st,0,none⟩=some (.int .i64 now)) (go_keep) (first|(go_at_fn fn;refine HN1.out.mono ?_;rintro e w1 ⟨ht,ha⟩;obtain⟨av,en,rfl⟩:=ha.shape;have k0:=(ht.cell (a:=⟨w.heap.size,0,none⟩) hlL (by simp)).trans e0;have k1:=(ht.cell (a:=⟨w.heap.size,1,none⟩) hlL (by simp)).trans e1;have k2:=(ht.cell (a:=⟨w.heap.size,2,none⟩) hlL (by simp)).trans e2;have k3:=(ht.cell (a:=⟨w.heap.size,3,none⟩) hlL (by simp)).trans e3;have k4:=(ht.cell (a:=⟨w.heap.size,4,none⟩) hlL (by simp)).trans e4;have k5:=(ht.cell (a:=⟨w.heap.size,5,none⟩) hlL (by simp)).trans e5;have k6:=(ht.cell (a:=⟨w.heap.size,6,none⟩) hlL (by simp)).trans e6;have k7:=(ht.cell (a:=⟨w.heap.size,7,none⟩) hlL (by simp)).trans e7;have k8:=(ht.cell (a:=⟨w.heap.size,8,none⟩) hlL (by simp)).trans e8;have k9:=(ht.cell (a:=⟨w.heap.size,9,none⟩) hlL (by simp)).trans e9;have k10:=(ht.cell (a:=⟨w.heap.size,10,none⟩) hlL (by simp)).trans e10;have k11:=(ht.cell (a:=⟨w.heap.size,11,none⟩) hlL (by simp)).trans e11;have k12:=(ht.cell (a:=⟨w.heap.size,12,none⟩) hlL (by simp)).trans e12;have k13:=(ht.cell (a:=⟨w.heap.size,13,none⟩) hlL (by simp)).trans e13;have k14:=(ht.cell (a:=⟨w.heap.size,14,none⟩) hlL (by simp)).trans e14;have kx:=(ht.cell (a:=⟨bb,0,none⟩) hlB (by simp)).trans cb;have ky:=(ht.cell (a:=⟨st,0,none⟩) hlX (by simp)).trans cn))
 have T1:=zH (TB.out.drew.trans ht (by simp));have HAN:=zH ha;clear ht ha e0 k0 e1 k1 e2 k2 e3 k3 e4 k4 e5 k5 e6 k6 e7 k7 e8 k8 e9 k9 e10 k10 e11 k11 e12 k12 e13 k13 e14 k14 kx ky cn cb HN1 HN;go_wp2_with fail;go_ret3;exact⟨T1.out,HAN.out⟩
theorem plan_V (B:Nat)(r:Wp.Rq)(st b i:Nat)(now:Int)(c:Nat->Option QM)(col:Nat->Nat)(w:World)(hwf:WFc c)(hop:r.op=86)(hi:i<8)(hq:r.q.toNat=97+i)
  (Z:Nat->Option BQ)(hs:SG B w st b now Z col)(hc:ctZ Z=c)(W:World)(y:Sl)(ht:Tch [] w W):
  Calls Tryz.prog 30 #[.pointer (some ⟨st,0,none⟩),.agg (cellsOf r y.v)] W fun e w'=>Tch [] W w'/\PlV (fun t w'=>t=(match c i with|none=>⟨#[2]⟩|some Q=>okL (allB Q))/\Tch [] w w') e w':=by
 refine plan_v _ r y #[.pointer (some ⟨b+4,0,none⟩)] st b 21 160 now _ W (by rw[hop];rfl) (by decide) (hs.tch ht).stb rfl eg207 ?_;intro W1 ht1;have tW:=ht.trans ht1 (by simp);have hsW:=hs.tch tW
 cases hQ:c i with
 | none=>
  have hz:=pt_of hc hQ;refine(with_no r y st (.pointer (some ⟨b+4,0,none⟩)) W1 (fun W2 ht2=>?_)).mono ?_
  ·have h1:=at_sg (hs.tch (tW.trans ht2 (by simp))) hi hq;rw[pt_no hz]at h1;exact h1
  ·rintro e w1 ⟨he,ht2⟩;exact⟨ht2,.inl ⟨2,by decide,he,fun w2 h2=>⟨rfl,(tW.trans ht2 (by simp)).trans h2 (by simp)⟩⟩⟩
 | some Q=>
  have hQ':ctZ Z i=some Q:=by rw[hc];exact hQ
  obtain⟨z,hz,hzq⟩:=ctZ_get hQ';have hW:=hwf i Q hi hQ;have hal:=allB_len hW.ok;have hap:0<(allB Q).length:=by
   have h7:=setB_length Q.c;unfold allB;rw[List.length_append,List.length_append,List.length_append,List.length_append,List.length_append];omega
  refine within_v _ r y st b i 126 (b+4) z.qb now _ W1 hq hi hsW.stb (pt_yes hz) (hsW.tb 4 126 (by decide)) eg166x ?_;intro W2 ht2;have tW2:=tW.trans ht2 (by simp);refine(show_any Q z.V z.qb now r y W2 (by rw[<-hzq];exact(hs.tch tW2).qr i z hi hz) hW.ok).mono ?_;rintro e w1 ⟨v,rfl,hown,ht3⟩;exact⟨ht3,.inr ⟨v,allB Q,rfl,.inr ⟨hap,by omega,Rdb.of_own hown hap⟩,fun w2 ht4=>⟨rfl,(tW2.trans ht3 (by simp)).trans ht4 (by simp)⟩⟩⟩
theorem bdo_v (K:ByteArray->World->Prop)(B:Nat)(s:ByteArray)(r:Wp.Rq)(x st j:Nat)(w:World)(hs:s.size<=90000)(hL:Lays B w)(hT:Tab w)(hBw:B<=w.heap.size)(h3:3<=B)(hg:parseGood s=true)(hr:(endSt s).r=r)
  (hx:w.heap[x]?=some (.cells #[.pointer (some ⟨st,0,none⟩),.pointer (some ⟨j,0,none⟩)] 60 (0,0)))(aj:w.cell? ⟨j,2,none⟩=some (.bool false))
  (bs:List ByteArray)(hbs:(endSt s).bs=bs)(hP:∀(W:World) (y:Sl),Tch [] w W->YS w W y bs->Calls Tryz.prog 30 #[.pointer (some ⟨st,0,none⟩),.agg (cellsOf r y.v)] W fun e w'=>Tch [] W w'/\PlV K e w'):
  Calls Tryz.prog 11 #[.pointer (some ⟨x,0,none⟩),.string s] w fun e w'=>∃t,e=.returned (.string t)/\K t w':=by
 have hltx:=lt_of_block hx;have hltj:=World.block_lt_of_cell? _ _ aj;have a0:w.cell? ⟨x,0,none⟩=some (.pointer (some ⟨st,0,none⟩)):=(cell_of_row w x 0 _ 60 (0,0) hx).trans rfl;have a1:w.cell? ⟨x,1,none⟩=some (.pointer (some ⟨j,0,none⟩)):=(cell_of_row w x 1 _ 60 (0,0) hx).trans rfl;have HD:=zH hP;have hfn:=func_nil2;have hnn:=nil_nil2;have HXB:=zH hx;clear hx hP;go_enter Tryz.func11,Tryz.ntmps11;go_wp2_with (go_at_call 27;go_in);refine(parse_ys B s r bs _ (by unfold maxLen;omega) hL hBw hg hr hbs).mono ?_;rintro e w1 ⟨y,rfl,hb,hys⟩;have cx:=(hb.cell (p:=⟨x,0,none⟩) hltx).trans a0;have cx1:=(hb.cell (p:=⟨x,1,none⟩) hltx).trans a1;have HBL:=zH hb;have HYS:=zH hys;have HXL:Hid ((laidIn w1 (cellsOf r y.v)).heap[w1.heap.size]?=some (.cells (cellsOf r y.v) 24 (0,0))):=laidIn_heap _ _;have HTL:Hid (Tch [] w1 (laidIn w1 (cellsOf r y.v))):=laidIn_tch _ _;have cx2:(laidIn w1 (cellsOf r y.v)).cell? ⟨x,0,none⟩=some (.pointer (some ⟨st,0,none⟩)):=((laidIn_tch _ _).cell (World.block_lt_of_cell? _ _ cx) (by simp)).trans cx;have cx3:(laidIn w1 (cellsOf r y.v)).cell? ⟨x,1,none⟩=some (.pointer (some ⟨j,0,none⟩)):=((laidIn_tch _ _).cell (World.block_lt_of_cell? _ _ cx1) (by simp)).trans cx1;obtain⟨wl,hwl⟩:∃wl,wl=laidIn w1 (cellsOf r y.v):=⟨_,rfl⟩;rw[<-hwl]at HXL HTL cx2 cx3;have HWL:=zH hwl;clear hb hwl a0 a1 aj hys;go_wp2_with (first
  | (refine wpList_store_row rfl 24 _ _ rfl w1.heap.size (cellsOf r y.v) ?hx ?hy 24 ?old ?hg ?hi ?hs ?h1 ?k;(case hx=>rfl);(case hy=>rfl);(case hg=>exact heap_alloc_new _ _);(case hi=>exact info37);(case hs=>rfl);(case h1=>exact cells_one _ _);rw[laidIn_is,<-HWL.out]))
 have hrow:=HXL.out;rw[zM r y]at hrow;have e0:wl.cell? ⟨w1.heap.size,0,none⟩=some (.int .u8 (r.op.toNat:Int)):=by simp[World.cell?,hrow]
 have e1:wl.cell? ⟨w1.heap.size,1,none⟩=some (.int .u8 (r.q.toNat:Int)):=by simp[World.cell?,hrow]
 have e2:wl.cell? ⟨w1.heap.size,2,none⟩=some (.int .u8 (r.d.toNat:Int)):=by simp[World.cell?,hrow]
 have e3:wl.cell? ⟨w1.heap.size,3,none⟩=some (.int .i64 r.vis):=by simp[World.cell?,hrow]
 have e4:wl.cell? ⟨w1.heap.size,4,none⟩=some (.int .i64 r.win):=by simp[World.cell?,hrow]
 have e5:wl.cell? ⟨w1.heap.size,5,none⟩=some (.int .i64 r.rcv):=by simp[World.cell?,hrow]
 have e6:wl.cell? ⟨w1.heap.size,6,none⟩=some (.int .i64 r.quo):=by simp[World.cell?,hrow]
 have e7:wl.cell? ⟨w1.heap.size,7,none⟩=some (.int .i64 r.mx):=by simp[World.cell?,hrow]
 have e8:wl.cell? ⟨w1.heap.size,8,none⟩=some (.int .i64 r.tic):=by simp[World.cell?,hrow]
 have e9:wl.cell? ⟨w1.heap.size,9,none⟩=some (.string r.grp):=by simp[World.cell?,hrow]
 have e10:wl.cell? ⟨w1.heap.size,10,none⟩=some (.string r.ded):=by simp[World.cell?,hrow]
 have e11:wl.cell? ⟨w1.heap.size,11,none⟩=some (.string r.bod):=by simp[World.cell?,hrow]
 have e12:wl.cell? ⟨w1.heap.size,12,none⟩=some (.string r.att):=by simp[World.cell?,hrow]
 have e13:wl.cell? ⟨w1.heap.size,13,none⟩=some (.string r.han):=by simp[World.cell?,hrow]
 have e14:wl.cell? ⟨w1.heap.size,14,none⟩=some (.slice y.a y.n y.c):=by simp[World.cell?,hrow]
 have hlL:w1.heap.size<wl.heap.size:=lt_of_block HXL.out;have hlX:x<wl.heap.size:=World.block_lt_of_cell? _ _ cx2;have HX1:=zH cx3;have HTW:=zH ((Tch.of_below HBL.out).trans HTL.out (by simp));have HPL:Hid (∀n,Calls Tryz.prog 30 #[.pointer (some ⟨st,0,none⟩),.agg (cellsOf r y.v)] (wl.drewN n) fun e w'=>Tch [] (wl.drewN n) w'/\PlV K e w'):=fun n=>HD.out (wl.drewN n) y (HTW.out.drewN n) (HYS.out.tch (HTL.out.drewN n))
 rw[zM r y]at HPL;have HPL1:=zH (HPL.out 1);clear hrow cx3
 go_region_held3 (fun w'=>w'.cell? ⟨w1.heap.size,0,none⟩=some (.int .u8 (r.op.toNat:Int))/\w'.cell? ⟨w1.heap.size,1,none⟩=some (.int .u8 (r.q.toNat:Int))/\w'.cell? ⟨w1.heap.size,2,none⟩=some (.int .u8 (r.d.toNat:Int))/\w'.cell? ⟨w1.heap.size,3,none⟩=some (.int .i64 r.vis)/\w'.cell? ⟨w1.heap.size,4,none⟩=some (.int .i64 r.win)/\w'.cell? ⟨w1.heap.size,5,none⟩=some (.int .i64 r.rcv)/\w'.cell? ⟨w1.heap.size,6,none⟩=some (.int .i64 r.quo)/\w'.cell? ⟨w1.heap.size,7,none⟩=some (.int .i64 r.mx)/\w'.cell? ⟨w1.heap.size,8,none⟩=some (.int .i64 r.tic)/\w'.cell? ⟨w1.heap.size,9,none⟩=some (.string r.grp)/\w'.cell? ⟨w1.heap.size,10,none⟩=some (.string r.ded)/\w'.cell? ⟨w1.heap.size,11,none⟩=some (.string r.bod)/\w'.cell? ⟨w1.heap.size,12,none⟩=some (.string r.att)/\w'.cell? ⟨w1.heap.size,13,none⟩=some (.string r.han)/\w'.cell? ⟨w1.heap.size,14,none⟩=some (.slice y.a y.n y.c)/\w'.cell? ⟨x,0,none⟩=some (.pointer (some ⟨st,0,none⟩))) (go_keep) (first|(go_at_call 30;refine HPL1.out.mono ?_;rintro e w2 ⟨ht,hpl⟩;obtain⟨t,rfl,hk⟩:=hpl;have k0:=(ht.cell (a:=⟨w1.heap.size,0,none⟩) hlL (by simp)).trans e0;have k1:=(ht.cell (a:=⟨w1.heap.size,1,none⟩) hlL (by simp)).trans e1;have k2:=(ht.cell (a:=⟨w1.heap.size,2,none⟩) hlL (by simp)).trans e2;have k3:=(ht.cell (a:=⟨w1.heap.size,3,none⟩) hlL (by simp)).trans e3;have k4:=(ht.cell (a:=⟨w1.heap.size,4,none⟩) hlL (by simp)).trans e4;have k5:=(ht.cell (a:=⟨w1.heap.size,5,none⟩) hlL (by simp)).trans e5;have k6:=(ht.cell (a:=⟨w1.heap.size,6,none⟩) hlL (by simp)).trans e6;have k7:=(ht.cell (a:=⟨w1.heap.size,7,none⟩) hlL (by simp)).trans e7;have k8:=(ht.cell (a:=⟨w1.heap.size,8,none⟩) hlL (by simp)).trans e8;have k9:=(ht.cell (a:=⟨w1.heap.size,9,none⟩) hlL (by simp)).trans e9;have k10:=(ht.cell (a:=⟨w1.heap.size,10,none⟩) hlL (by simp)).trans e10;have k11:=(ht.cell (a:=⟨w1.heap.size,11,none⟩) hlL (by simp)).trans e11;have k12:=(ht.cell (a:=⟨w1.heap.size,12,none⟩) hlL (by simp)).trans e12;have k13:=(ht.cell (a:=⟨w1.heap.size,13,none⟩) hlL (by simp)).trans e13;have k14:=(ht.cell (a:=⟨w1.heap.size,14,none⟩) hlL (by simp)).trans e14;have kx:=(ht.cell (a:=⟨x,0,none⟩) hlX (by simp)).trans cx2))
 have kx1:=(ht.cell (a:=⟨x,1,none⟩) hlX (by simp)).trans HX1.out;have HT2:=zH ((HTW.out.drew).trans ht (by simp));have hlX2:x<w2.heap.size:=World.block_lt_of_cell? _ _ kx;clear ht cx2 cx cx1 e0 k0 e1 k1 e2 k2 e3 k3 e4 k4 e5 k5 e6 k6 e7 k7 e8 k8 e9 k9 e10 k10 e11 k11 e12 k12 e13 k13 e14 k14;go_wp2_with fail;go_ret;exact⟨_,rfl,hk _ (Tch.refl _ _)⟩
end Go.Proofs.YtbdobaapadlcjabGreatDoor
