import Derived.Test.YtbdobaapadlcjaaGreatDoorBy17
set_option maxRecDepth 8000
set_option maxHeartbeats 4000000
set_option linter.unusedVariables false
set_option linter.unusedSimpArgs false
namespace Go.Proofs.YtbdobaapadlcjaaGreatDoor
open Go.RowKit
variable {w w2 wr w':World}{size n qb g b k q B st:Nat}{v:Value}{xs:List Value}{te:TypeId}{now:Int}{Z Z':Nat->Option BQ}{col:Nat->Nat}{c:Nat->Option QM}
theorem b9I {base t:Nat}(h:w.ownsRow base t size v n xs):w.ownsRow 0 t size v n xs:=⟨h.1,h.2.imp id (fun ⟨g,cap,cur,a,_,r⟩=>⟨g,cap,cur,a,Nat.zero_le _,r⟩)⟩
theorem a4s {o:Nat}{C C':Array Value}{t:TypeId}(h:w.heap[qb]?=some (.cells C t (0,0)))(v:Value)(hC:C.setIfInBounds o v=C'):(w.setCell ⟨qb,o,none⟩ v).heap[qb]?=some (.cells C' t (0,0)):=by
 rw[<-hC];exact heap_setCell_same w qb o C t v h
def a0E (te:TypeId)(size n:Nat)(xs:List Value)(w:World)(e:Ending)(w':World):Prop:=∃v',e=.returned v'/\w'.ownsRow 0 te size v' n xs/\(∀k,v'.ownBlock=some k->w.heap.size<=k)/\Tch [] w w'
theorem a4v (h:w.ownsRow 0 te size (.slice none 0 0) n xs)(h0:n=0):a0E te size n xs w (.returned (.slice none 0 0)) w:=⟨_,rfl,h,fun k hk=>by simp[Value.ownBlock]at hk,Tch.refl _ _⟩
theorem a4w (ho:w2.ownsRow w.heap.size te size v n xs)(hg:(w.alloc (.cells #[] te)).grownBy w2 (some w.heap.size)):a0E te size n xs w (.returned v) w2:=by
 refine⟨v,rfl,b9I ho,fun k hk=>(ho.lt k hk).1,((Tch.refl [] w).alloc _).grown hg (fun k hk hl=>?_)⟩
 simp at hk;omega
theorem b6h (v:Value)(n:Nat)(xs:List Value)(w:World)(h:w.ownsRow 0 226 5 v n xs)(h1:∀u∈xs,u.oneCell'=true)(hn:n<=1000000):Cp 287 #[v] w (a0E 226 5 n xs w):=by
 obtain⟨i0,hi,hz0,hz1,hz2⟩:=info_parts a0u;have q:∀(w:World) (a:Option Addr) (n c n' c':Nat),(binOp .eql 187 (.slice a n c) (.slice none n' c')).run Tryz.prog w=.ok (.bool a.isNone) w:=fun w a n c n' c'=>Lib.run_eql_slice_nil w _ _ a n c n' c' Tryz.underlying187
 rcases id h.2 with ⟨e0,e1⟩|⟨g,cap,cur,rfl,_⟩
 ·subst e0;have HF:=zH (a4v h e1);clear h;go_enter Tryz.func287,Tryz.ntmps287;go_wp2_with fail;go_ret;exact HF.out
 ·have HC:=zH (h.cells rfl);have hl:=h.1;clear h;go_enter Tryz.func287,Tryz.ntmps287;go_wp2_with (at_builtin;refine wpList_append_own _ rfl _ _ 187 rfl w.heap.size 226 i0 _ 5 _ Tryz.underlying187 hi hz0 hz1 hz2 rfl (by decide) _ _ _ rfl (World.ownsRow_made w #[] 0 (Nat.le_refl _) (Nat.zero_le _) (by simp)) ⟨g,0,none⟩ n cap xs rfl hl (fun j u hu=>Lib.cell?_alloc_some _ (HC.out j u hu)) h1 (by unfold maxLen;omega) (by omega) (by simp) ?_);intro v' w1 ho hg _;have HF:=zH (a4w ho hg);clear ho hg;go_wp2_with fail;go_ret;exact HF.out
theorem b6i (v:Value)(n:Nat)(xs:List Value)(w:World)(h:w.ownsRow 0 9 1 v n xs)(h1:∀u∈xs,u.oneCell'=true)(hn:n<=1000000):Cp 288 #[v] w (a0E 9 1 n xs w):=by
 obtain⟨i0,hi,hz0,hz1,hz2⟩:=info_parts a2T;have q:∀(w:World) (a:Option Addr) (n c n' c':Nat),(binOp .eql 25 (.slice a n c) (.slice none n' c')).run Tryz.prog w=.ok (.bool a.isNone) w:=fun w a n c n' c'=>Lib.run_eql_slice_nil w _ _ a n c n' c' Tryz.underlying25
 rcases id h.2 with ⟨e0,e1⟩|⟨g,cap,cur,rfl,_⟩
 ·subst e0;have HF:=zH (a4v h e1);clear h;go_enter Tryz.func288,Tryz.ntmps288;go_wp2_with fail;go_ret;exact HF.out
 ·have HC:=zH (h.cells rfl);have hl:=h.1;clear h;go_enter Tryz.func288,Tryz.ntmps288;go_wp2_with (at_builtin;refine wpList_append_own _ rfl _ _ 25 rfl w.heap.size 9 i0 _ 1 _ Tryz.underlying25 hi hz0 hz1 hz2 rfl (by decide) _ _ _ rfl (World.ownsRow_made w #[] 0 (Nat.le_refl _) (Nat.zero_le _) (by simp)) ⟨g,0,none⟩ n cap xs rfl hl (fun j u hu=>Lib.cell?_alloc_some _ (HC.out j u hu)) h1 (by unfold maxLen;omega) (by omega) (by simp) ?_);intro v' w1 ho hg _;have HF:=zH (a4w ho hg);clear ho hg;go_wp2_with fail;go_ret;exact HF.out
theorem b6g (v:Value)(n:Nat)(xs:List Value)(w:World)(h:w.ownsRow 0 230 3 v n xs)(h1:∀u∈xs,u.oneCell'=true)(hn:n<=1000000):Cp 289 #[v] w (a0E 230 3 n xs w):=by
 obtain⟨i0,hi,hz0,hz1,hz2⟩:=info_parts a4K;have q:∀(w:World) (a:Option Addr) (n c n' c':Nat),(binOp .eql 188 (.slice a n c) (.slice none n' c')).run Tryz.prog w=.ok (.bool a.isNone) w:=fun w a n c n' c'=>Lib.run_eql_slice_nil w _ _ a n c n' c' Tryz.underlying188
 rcases id h.2 with ⟨e0,e1⟩|⟨g,cap,cur,rfl,_⟩
 ·subst e0;have HF:=zH (a4v h e1);clear h;go_enter Tryz.func289,Tryz.ntmps289;go_wp2_with fail;go_ret;exact HF.out
 ·have HC:=zH (h.cells rfl);have hl:=h.1;clear h;go_enter Tryz.func289,Tryz.ntmps289;go_wp2_with (at_builtin;refine wpList_append_own _ rfl _ _ 188 rfl w.heap.size 230 i0 _ 3 _ Tryz.underlying188 hi hz0 hz1 hz2 rfl (by decide) _ _ _ rfl (World.ownsRow_made w #[] 0 (Nat.le_refl _) (Nat.zero_le _) (by simp)) ⟨g,0,none⟩ n cap xs rfl hl (fun j u hu=>Lib.cell?_alloc_some _ (HC.out j u hu)) h1 (by unfold maxLen;omega) (by omega) (by simp) ?_);intro v' w1 ho hg _;have HF:=zH (a4w ho hg);clear ho hg;go_wp2_with fail;go_ret;exact HF.out
theorem b6f (v:Value)(n:Nat)(xs:List Value)(w:World)(h:w.ownsRow 0 234 3 v n xs)(h1:∀u∈xs,u.oneCell'=true)(hn:n<=1000000):Cp 290 #[v] w (a0E 234 3 n xs w):=by
 obtain⟨i0,hi,hz0,hz1,hz2⟩:=info_parts a1f;have q:∀(w:World) (a:Option Addr) (n c n' c':Nat),(binOp .eql 189 (.slice a n c) (.slice none n' c')).run Tryz.prog w=.ok (.bool a.isNone) w:=fun w a n c n' c'=>Lib.run_eql_slice_nil w _ _ a n c n' c' Tryz.underlying189
 rcases id h.2 with ⟨e0,e1⟩|⟨g,cap,cur,rfl,_⟩
 ·subst e0;have HF:=zH (a4v h e1);clear h;go_enter Tryz.func290,Tryz.ntmps290;go_wp2_with fail;go_ret;exact HF.out
 ·have HC:=zH (h.cells rfl);have hl:=h.1;clear h;go_enter Tryz.func290,Tryz.ntmps290;go_wp2_with (at_builtin;refine wpList_append_own _ rfl _ _ 189 rfl w.heap.size 234 i0 _ 3 _ Tryz.underlying189 hi hz0 hz1 hz2 rfl (by decide) _ _ _ rfl (World.ownsRow_made w #[] 0 (Nat.le_refl _) (Nat.zero_le _) (by simp)) ⟨g,0,none⟩ n cap xs rfl hl (fun j u hu=>Lib.cell?_alloc_some _ (HC.out j u hu)) h1 (by unfold maxLen;omega) (by omega) (by simp) ?_);intro v' w1 ho hg _;have HF:=zH (a4w ho hg);clear ho hg;go_wp2_with fail;go_ret;exact HF.out
theorem a9x (op:Int)(w:World)(h:op=83\/op=65\/op=69):zE 256 #[.int .u8 op] w (.bool true):=by
 rcases h with rfl|rfl|rfl
 all_goals
  go_enter Tryz.func256,Tryz.ntmps256;go_wp2_with fail;go_ret;exact⟨rfl,rfl⟩
theorem b1s (op:Int)(w:World)(h1:op≠83)(h2:op≠65)(h3:op≠69):zE 256 #[.int .u8 op] w (.bool false):=by
 have e1:(op == 83)=false:=beq_eq_false_iff_ne.2 h1;have e2:(op == 65)=false:=beq_eq_false_iff_ne.2 h2;have e3:(op == 69)=false:=beq_eq_false_iff_ne.2 h3;go_enter Tryz.func256,Tryz.ntmps256;go_wp2_with fail;go_ret;exact⟨rfl,rfl⟩
theorem a3e {α:Type}(f:α->List Value)(h:∀a,∀u∈f a,u.oneCell'=true)(l:List α):∀u∈l.flatMap f,u.oneCell'=true:=fun u hu=>by
 obtain⟨a,_,ha⟩:=List.mem_flatMap.1 hu;exact h a u ha
theorem a8c:(Tryz.prog.info? 191).map (·.size)=some 11:=by kernel_rfl
theorem a9K (Q:QM)(V:QV)(qb:Nat)(w:World)(h:QR w qb V Q)(hm:Q.ms.length<=1000000)(hr:Q.rs.length<=1000000)(hd:Q.ds.length<=1000000)(ha:Q.ats.length<=1000000):
  Cp 255 #[zp qb] w fun e w'=>∃qb' V',e=.returned (zp qb')/\QR w' qb' V' Q/\(∀k∈qbl qb' V',w.heap.size<=k)/\Tch [] w w':=by
 have HCM:Hid (∀W,Tch [] w W->Cp 287 #[V.m] W (a0E 226 5 Q.ms.length (Q.ms.flatMap Ms.row) W)):=fun W ht=>b6h _ _ _ W (jf h.m ht (by simp)) (a3e _ (fun a u hu=>by simp[Ms.row]at hu;rcases hu with rfl|rfl|rfl|rfl|rfl<;>rfl) _) hm
 have HCR:Hid (∀W,Tch [] w W->Cp 288 #[V.r] W (a0E 9 1 Q.rs.length (Q.rs.map Value.string) W)):=fun W ht=>b6i _ _ _ W (jf h.r ht (by simp)) (fun u hu=>by obtain⟨a,_,rfl⟩:=List.mem_map.1 hu;rfl) hr
 have HCD:Hid (∀W,Tch [] w W->Cp 289 #[V.d] W (a0E 230 3 Q.ds.length (Q.ds.flatMap Dd.row) W)):=fun W ht=>b6g _ _ _ W (jf h.d ht (by simp)) (a3e _ (fun a u hu=>by simp[Dd.row]at hu;rcases hu with rfl|rfl|rfl<;>rfl) _) hd
 have HCA:Hid (∀W,Tch [] w W->Cp 290 #[V.a] W (a0E 234 3 Q.ats.length (Q.ats.flatMap At.row) W)):=fun W ht=>b6f _ _ _ W (jf h.a ht (by simp)) (a3e _ (fun a u hu=>by simp[At.row]at hu;rcases hu with rfl|rfl|rfl<;>rfl) _) ha
 obtain⟨c,nx,ms,rs,ds,ats⟩:=Q;obtain⟨vm,vr,vd,va⟩:=V;have hblk:w.heap[qb]?=some (.cells (qC c (nx:Int) vm vr vd va) 191 (0,0)):=h.blk;obtain⟨am,cm,em⟩:=jl h.m;obtain⟨ar,cr,er⟩:=jl h.r;obtain⟨ad,cd,ed⟩:=jl h.d;obtain⟨aa,ca,ea⟩:=jl h.a;simp only at em er ed ea;subst em er ed ea;clear h hm hr hd ha;have HQ:Hid (∀W,Tch [] w W->W.cell? ⟨qb,7,none⟩=some (.slice am ms.length cm)/\W.cell? ⟨qb,8,none⟩=some (.slice ar rs.length cr)/\W.cell? ⟨qb,9,none⟩=some (.slice ad ds.length cd)/\W.cell? ⟨qb,10,none⟩=some (.slice aa ats.length ca)/\qb<W.heap.size):=fun W ht=>by
  have hb:=(ht.block _ (lt_of_block hblk) (by simp)).trans hblk;exact⟨jb hb 7 _ rfl,jb hb 8 _ rfl,jb hb 9 _ rfl,jb hb 10 _ rfl,lt_of_block hb⟩
 have HG:Hid (∀(W:World) (a b d e:Value),W.heap[w.heap.size]?=some (.cells (qC c (nx:Int) a b d e) 191 (0,0))->(W.cell? ⟨w.heap.size,7,none⟩=some a/\W.cell? ⟨w.heap.size,8,none⟩=some b/\W.cell? ⟨w.heap.size,9,none⟩=some d/\W.cell? ⟨w.heap.size,10,none⟩=some e)/\(∀j,W.frozen? ⟨w.heap.size,j,none⟩=false)/\w.heap.size<W.heap.size):=fun W a b d e hb=>⟨⟨jb hb 7 _ rfl,jb hb 8 _ rfl,jb hb 9 _ rfl,jb hb 10 _ rfl⟩,fun j=>frozen_of_row W _ j _ 191 hb,lt_of_block hb⟩
 obtain⟨w1,hw1⟩:∃w1,w1=(w.alloc (.cells #[.int .u8 0,.int .u8 0,.int .i64 0,.int .i64 0,.int .i64 0,.int .i64 0,.int .i64 0,.slice none 0 0,.slice none 0 0,.slice none 0 0,.slice none 0 0] 191)).setRow w.heap.size (qC c (nx:Int) (.slice am ms.length cm) (.slice ar rs.length cr) (.slice ad ds.length cd) (.slice aa ats.length ca)):=⟨_,rfl⟩;have HB1:Hid (w1.heap[w.heap.size]?=some (.cells (qC c (nx:Int) (.slice am ms.length cm) (.slice ar rs.length cr) (.slice ad ds.length cd) (.slice aa ats.length ca)) 191 (0,0))):=by
  show _=_
  rw[hw1];exact setRow_heap _ _ _ _ 191 (0,0) (heap_alloc_new _ _)
 have HT1:Hid (Tch [] w w1):=by
  show Tch _ _ _
  rw[hw1];exact((Tch.refl _ _).alloc _).setRow (fun h=>absurd h (Nat.lt_irrefl _)) _
 have hone:(qC c (nx:Int) (.slice am ms.length cm) (.slice ar rs.length cr) (.slice ad ds.length cd) (.slice aa ats.length ca)).all (·.oneCell')=true:=by simp[qC,Value.oneCell']
 have HW1:=zH hw1;obtain⟨⟨p7,p8,p9,p10⟩,pz,pl⟩:=HG.out w1 _ _ _ _ HB1.out;obtain⟨q7,q8,q9,q10,ql⟩:=HQ.out w1 HT1.out;clear hw1;go_enter Tryz.func255,Tryz.ntmps255;go_wp2_with (first|(refine wpList_load_row rfl 191 _ rfl qb rfl 191 (qC c (nx:Int) (.slice am ms.length cm) (.slice ar rs.length cr) (.slice ad ds.length cd) (.slice aa ats.length ca)) (0,0) _ hblk Tryz.underlying191 rfl a8c ?_)|(refine wpList_store_row rfl 191 _ _ rfl w.heap.size (qC c (nx:Int) (.slice am ms.length cm) (.slice ar rs.length cr) (.slice ad ds.length cd) (.slice aa ats.length ca)) rfl rfl 191 _ (heap_alloc_new _ _) a8c rfl hone ?_;rw[<-HW1.out]));refine(HCM.out w1 HT1.out).mono ?_;rintro e u1 ⟨v,rfl,ho,hk,ht⟩;obtain⟨b1,c1,rfl⟩:=jl ho;have HO1:=zH ho;have HK1:Hid (∀k,(Value.slice b1 ms.length c1).ownBlock=some k->w.heap.size<k):=fun k h=>Nat.lt_of_lt_of_le pl (hk k h)
 have HU1:Hid (Tch [] w u1):=HT1.out.trans ht (by simp);have HV1:Hid (u1.heap[w.heap.size]?=_):=(ht.block _ pl (by simp)).trans HB1.out;clear p7 p8 p9 p10 pz pl q7 q8 q9 q10 ql ho hk ht HCM;obtain⟨⟨p7,p8,p9,p10⟩,pz,pl⟩:=HG.out u1 _ _ _ _ HV1.out;obtain⟨q7,q8,q9,q10,ql⟩:=HQ.out u1 HU1.out;have p:=pz 7;obtain⟨w2,hw⟩:∃w2,w2=u1.setCell ⟨w.heap.size,7,none⟩ (.slice b1 ms.length c1):=⟨_,rfl⟩;have HS1:Hid (Tch [w.heap.size] u1 w2):=by
  show Tch _ _ _
  rw[hw];exact(Tch.refl _ _).setCell (fun _=>by simp) _
 have HB2:Hid (w2.heap[w.heap.size]?=some (.cells (qC c (nx:Int) (.slice b1 ms.length c1) (.slice ar rs.length cr) (.slice ad ds.length cd) (.slice aa ats.length ca)) 191 (0,0))):=by
  show _=_
  rw[hw];exact a4s HV1.out _ rfl
 have HT2:Hid (Tch [] w w2):=by
  show Tch _ _ _
  rw[hw];exact HU1.out.setCell (fun h=>absurd h (Nat.lt_irrefl _)) _
 have HW2:=zH hw;clear hw;go_wp2_with (rw[<-HW2.out];clear p p7 p8 p9 p10 pz pl q7 q8 q9 q10 ql;obtain⟨⟨p7,p8,p9,p10⟩,pz,pl⟩:=HG.out w2 _ _ _ _ HB2.out;obtain⟨q7,q8,q9,q10,ql⟩:=HQ.out w2 HT2.out);refine(HCR.out w2 HT2.out).mono ?_;rintro e u2 ⟨v,rfl,ho,hk,ht⟩;obtain⟨b2,c2,rfl⟩:=jl ho;have HO2:=zH ho;have HK2:Hid (∀k,(Value.slice b2 rs.length c2).ownBlock=some k->w.heap.size<k):=fun k h=>Nat.lt_of_lt_of_le pl (hk k h)
 have HU2:Hid (Tch [] w u2):=HT2.out.trans ht (by simp);have HX2:Hid (Tch [w.heap.size] w2 u2):=ht.sub (by simp);have HV2:Hid (u2.heap[w.heap.size]?=_):=(ht.block _ pl (by simp)).trans HB2.out;clear p7 p8 p9 p10 pz pl q7 q8 q9 q10 ql ho hk ht HCR;obtain⟨⟨p7,p8,p9,p10⟩,pz,pl⟩:=HG.out u2 _ _ _ _ HV2.out;obtain⟨q7,q8,q9,q10,ql⟩:=HQ.out u2 HU2.out;have p:=pz 8;obtain⟨w3,hw⟩:∃w3,w3=u2.setCell ⟨w.heap.size,8,none⟩ (.slice b2 rs.length c2):=⟨_,rfl⟩;have HS2:Hid (Tch [w.heap.size] u2 w3):=by
  show Tch _ _ _
  rw[hw];exact(Tch.refl _ _).setCell (fun _=>by simp) _
 have HB3:Hid (w3.heap[w.heap.size]?=some (.cells (qC c (nx:Int) (.slice b1 ms.length c1) (.slice b2 rs.length c2) (.slice ad ds.length cd) (.slice aa ats.length ca)) 191 (0,0))):=by
  show _=_
  rw[hw];exact a4s HV2.out _ rfl
 have HT3:Hid (Tch [] w w3):=by
  show Tch _ _ _
  rw[hw];exact HU2.out.setCell (fun h=>absurd h (Nat.lt_irrefl _)) _
 have HW3:=zH hw;clear hw;go_wp2_with (rw[<-HW3.out];clear p p7 p8 p9 p10 pz pl q7 q8 q9 q10 ql;obtain⟨⟨p7,p8,p9,p10⟩,pz,pl⟩:=HG.out w3 _ _ _ _ HB3.out;obtain⟨q7,q8,q9,q10,ql⟩:=HQ.out w3 HT3.out);refine(HCD.out w3 HT3.out).mono ?_;rintro e u3 ⟨v,rfl,ho,hk,ht⟩;obtain⟨b3,c3,rfl⟩:=jl ho;have HO3:=zH ho;have HK3:Hid (∀k,(Value.slice b3 ds.length c3).ownBlock=some k->w.heap.size<k):=fun k h=>Nat.lt_of_lt_of_le pl (hk k h)
 have HU3:Hid (Tch [] w u3):=HT3.out.trans ht (by simp);have HX3:Hid (Tch [w.heap.size] w3 u3):=ht.sub (by simp);have HV3:Hid (u3.heap[w.heap.size]?=_):=(ht.block _ pl (by simp)).trans HB3.out;clear p7 p8 p9 p10 pz pl q7 q8 q9 q10 ql ho hk ht HCD;obtain⟨⟨p7,p8,p9,p10⟩,pz,pl⟩:=HG.out u3 _ _ _ _ HV3.out;obtain⟨q7,q8,q9,q10,ql⟩:=HQ.out u3 HU3.out;have p:=pz 9;obtain⟨w4,hw⟩:∃w4,w4=u3.setCell ⟨w.heap.size,9,none⟩ (.slice b3 ds.length c3):=⟨_,rfl⟩;have HS3:Hid (Tch [w.heap.size] u3 w4):=by
  show Tch _ _ _
  rw[hw];exact(Tch.refl _ _).setCell (fun _=>by simp) _
 have HB4:Hid (w4.heap[w.heap.size]?=some (.cells (qC c (nx:Int) (.slice b1 ms.length c1) (.slice b2 rs.length c2) (.slice b3 ds.length c3) (.slice aa ats.length ca)) 191 (0,0))):=by
  show _=_
  rw[hw];exact a4s HV3.out _ rfl
 have HT4:Hid (Tch [] w w4):=by
  show Tch _ _ _
  rw[hw];exact HU3.out.setCell (fun h=>absurd h (Nat.lt_irrefl _)) _
 have HW4:=zH hw;clear hw;go_wp2_with (rw[<-HW4.out];clear p p7 p8 p9 p10 pz pl q7 q8 q9 q10 ql;obtain⟨⟨p7,p8,p9,p10⟩,pz,pl⟩:=HG.out w4 _ _ _ _ HB4.out;obtain⟨q7,q8,q9,q10,ql⟩:=HQ.out w4 HT4.out);refine(HCA.out w4 HT4.out).mono ?_;rintro e u4 ⟨v,rfl,ho,hk,ht⟩;obtain⟨b4,c4,rfl⟩:=jl ho;have HO4:=zH ho;have HK4:Hid (∀k,(Value.slice b4 ats.length c4).ownBlock=some k->w.heap.size<k):=fun k h=>Nat.lt_of_lt_of_le pl (hk k h)
 have HU4:Hid (Tch [] w u4):=HT4.out.trans ht (by simp);have HX4:Hid (Tch [w.heap.size] w4 u4):=ht.sub (by simp);have HV4:Hid (u4.heap[w.heap.size]?=_):=(ht.block _ pl (by simp)).trans HB4.out;clear p7 p8 p9 p10 pz pl q7 q8 q9 q10 ql ho hk ht HCA;obtain⟨⟨p7,p8,p9,p10⟩,pz,pl⟩:=HG.out u4 _ _ _ _ HV4.out;obtain⟨q7,q8,q9,q10,ql⟩:=HQ.out u4 HU4.out;have p:=pz 10;obtain⟨w5,hw⟩:∃w5,w5=u4.setCell ⟨w.heap.size,10,none⟩ (.slice b4 ats.length c4):=⟨_,rfl⟩;have HS4:Hid (Tch [w.heap.size] u4 w5):=by
  show Tch _ _ _
  rw[hw];exact(Tch.refl _ _).setCell (fun _=>by simp) _
 have HB5:Hid (w5.heap[w.heap.size]?=some (.cells (qC c (nx:Int) (.slice b1 ms.length c1) (.slice b2 rs.length c2) (.slice b3 ds.length c3) (.slice b4 ats.length c4)) 191 (0,0))):=by
  show _=_
  rw[hw];exact a4s HV4.out _ rfl
 have HT5:Hid (Tch [] w w5):=by
  show Tch _ _ _
  rw[hw];exact HU4.out.setCell (fun h=>absurd h (Nat.lt_irrefl _)) _
 have HW5:=zH hw;clear hw;go_wp2_with (rw[<-HW5.out];clear p p7 p8 p9 p10 pz pl q7 q8 q9 q10 ql;obtain⟨⟨p7,p8,p9,p10⟩,pz,pl⟩:=HG.out w5 _ _ _ _ HB5.out;obtain⟨q7,q8,q9,q10,ql⟩:=HQ.out w5 HT5.out);go_ret;have k4:=HS4.out;have k3:=(HS3.out.trans HX4.out (fun _ h _=>h)).trans k4 (fun _ h _=>h);have k2:=(HS2.out.trans HX3.out (fun _ h _=>h)).trans k3 (fun _ h _=>h);have k1:=(HS1.out.trans HX2.out (fun _ h _=>h)).trans k2 (fun _ h _=>h);have nn:∀{v:Value},(∀k,v.ownBlock=some k->w.heap.size<k)->∀k,v.ownBlock=some k->k∉[w.heap.size]:=fun hv k hk hm=>by
  have:=hv k hk;simp at hm;omega
 refine⟨w.heap.size,⟨_,_,_,_⟩,rfl,⟨HB5.out,jf HO1.out k1 (nn HK1.out),jf HO2.out k2 (nn HK2.out),jf HO3.out k3 (nn HK3.out),jf HO4.out k4 (nn HK4.out)⟩,fun k hk=>?_,HT5.out⟩
 rcases ji.1 hk with e|e|e|e|e
 ·omega
 ·exact Nat.le_of_lt (HK1.out k e)
 ·exact Nat.le_of_lt (HK2.out k e)
 ·exact Nat.le_of_lt (HK3.out k e)
 ·exact Nat.le_of_lt (HK4.out k e)
structure Cpy (w:World)(g b:Nat)(now:Int)(Z:Nat->Option BQ)(k:Nat)(wr:World)(Z':Nat->Option BQ)(col:Nat->Nat):Prop where
 stb:Stb wr g b now (fun i=>jB (ptZ Z' i))
 same:∀i,k<=i->Z' i=Z i
 ct:ctZ Z'=ctZ Z
 qr:∀i x,i<k->Z' i=some x->QR wr x.qb x.V x.Q/\∀q∈qbl x.qb x.V,g<q/\col q=i
 old:∀q,q<w.heap.size->col q=9
 cg:col g≠9
 fut:∀q,wr.heap.size<=q->col q≠9
 tch:Tch [] w wr
theorem Cpy.skip (h:Cpy w g b now Z k wr Z' col)(hz:Z k=none):Cpy w g b now Z (k+1) wr Z' col:=
 ⟨h.stb,fun i hi=>h.same i (by omega),h.ct,fun i x hi hx=>by
  by_cases e:i=k
  ·rw[e,h.same k (Nat.le_refl _),hz]at hx
   cases hx
  ·exact h.qr i x (by omega) hx,h.old,h.cg,h.fut,h.tch⟩
theorem b2e (Z:Nat->Option BQ)(i:Nat)(x:BQ):(fun j=>jB (ptZ (xM Z i (some x)) j))=vE (fun i=>jB (ptZ Z i)) i (zp x.qb):=by
 funext j;unfold vE ptZ xM
 by_cases e:j=i
 ·simp[e,jB]
 ·simp[e]
theorem Cpy.put (h:Cpy w g b now Z k wr Z' col)(hg:w.heap.size<=g)(hk:k<8){x:BQ}(hz:Z k=some x){qb:Nat}{V:QV}(hq:QR w2 qb V x.Q)(hn:∀q∈qbl qb V,wr.heap.size<=q)(ht:Tch [] wr w2):
  Cpy w g b now Z (k+1) (w2.setCell ⟨g,1+k,none⟩ (zp qb)) (xM Z' k (some ⟨qb,V,x.Q⟩)) (fun q=>if q<wr.heap.size then col q else k):=by
 have hlg:=h.stb.lt;have hs2:=h.stb.tch ht (by simp);have hz2:=ht.size;have t3:Tch [g] w2 (w2.setCell ⟨g,1+k,none⟩ (zp qb)):=(Tch.refl _ _).setCell (fun _=>by simp) _;refine⟨?_,fun i hi=>?_,?_,fun i y hi hy=>?_,fun q hq=>?_,?_,fun q hq=>?_,(h.tch.trans ht (by simp)).setCell (fun hl=>absurd hl (by simp;omega)) _⟩
 ·rw[b2e];exact hs2.set k hk _
 ·rw[kN _ _ (by omega)];exact h.same i (by omega)
 ·rw[a0p,h.ct];funext j;unfold jI
  split
  ·rename_i e
   rw[e,vV hz];rfl
  ·rfl
 ·by_cases e:i=k
  ·subst e;rw[kz]at hy;injection hy with hy;subst hy;exact⟨hq.tch t3 (fun q hq' hm=>by
    simp at hm;have:=hn q hq';omega),fun q hq'=>⟨by have:=hn q hq';omega,if_neg (by have:=hn q hq';omega)⟩⟩
  ·rw[kN _ _ e]at hy;obtain⟨h1,h2⟩:=h.qr i y (by omega) hy;exact⟨(h1.tch ht (by simp)).tch t3 (fun q hq' hm=>by
    simp at hm;have:=(h2 q hq').1;omega),fun q hq'=>⟨(h2 q hq').1,(if_pos (h1.lt q hq')).trans (h2 q hq').2⟩⟩
 ·show (if q<wr.heap.size then col q else k)=9
  rw[if_pos (by have:=h.tch.size;omega)];exact h.old q hq
 ·show (if g<wr.heap.size then col g else k)≠9
  rw[if_pos hlg];exact h.cg
 ·show (if q<wr.heap.size then col q else k)≠9
  rw[if_neg (by have:=t3.size;omega)];omega
theorem a5m {ops:Array Oper}{rest:List Oper}{o:Oper}{a:Act}{Q:Exit->Act->World->Prop}(hgd:o.guard=none)(ty:TypeId)(ho:o.op=.alloc ty)(z:Array Value)(hz:(Tryz.prog.info? ty).map (fun i=>i.zero.map Value.cells)=some (some z))
  (h:wpList Tryz.prog ops Q rest (a.put o.dst (zp w.heap.size)) (w.alloc (.cells z ty))):wpList Tryz.prog ops Q (o::rest) a w:=
 wpList_plain hgd fun _ hK=>by
  cases hi:Tryz.prog.info? ty with
  | none=>simp[hi]at hz
  | some i=>
   simp only[hi,Option.map_some,Option.some.injEq]at hz
   cases hz0:i.zero with
   | none=>simp[hz0]at hz
   | some z0=>
    simp only[hz0,Option.map_some,Option.some.injEq]at hz;subst hz;unfold Oper.wp execOp;simp[ho,Instr.alloc,zeroValue,typeInfo,hi,hz0,newVar,newRow,newObj];exact hK _ _ h
def zst:Array Value:=#[.int .i64 0,.pointer none,.pointer none,.pointer none,.pointer none,.pointer none,.pointer none,.pointer none,.pointer none,.nilFunc,.nilFunc,.nilFunc,.nilFunc,.nilFunc,.nilFunc,.nilFunc,.nilFunc,.nilFunc,.nilFunc,.nilFunc,.nilFunc,.nilFunc,.nilFunc,.nilFunc,.nilFunc,.nilFunc,.nilFunc,.nilFunc,.nilFunc,.nilFunc,.nilFunc,.nilFunc,.nilFunc,.nilFunc,.nilFunc]
theorem b5p:(Tryz.prog.info? 156).map (fun i=>i.zero.map Value.cells)=some (some zst):=by kernel_rfl
theorem b4a:(Tryz.prog.info? 156).map (·.size)=some 35:=by kernel_rfl
theorem b4Q (now:Int)(P:Nat->Option Nat)(b:Nat):(stG now (fun i=>jB (P i)) b).all (·.oneCell')=true:=by
 have h1:∀i,(jB (P i)).oneCell'=true:=fun i=>by cases P i<;>rfl
 have h2:(stH now (fun i=>jB (P i))).all (·.oneCell')=true:=by
  unfold stH;simp only[List.all_toArray,List.all_cons,List.all_nil,h1,Bool.and_true];rfl
 unfold stG;rw[Array.all_append,a3J,h2];rfl
theorem b4N (st b:Nat)(now:Int)(Z:Nat->Option BQ)(w w1:World)(C:Array Value)(hw1:w1=(w.alloc (.cells zst 156)).setRow w.heap.size C)(hsb:w.heap[st]?=some (.cells C 156 (0,0)))(hone:C.all (·.oneCell')=true)(hsz:C.size=35)(hlt:st<w1.heap.size)(HC:∀i,i<8->w1.cell? ⟨st,1+i,none⟩=some (jB (ptZ Z i)))
  (HB1:Hid (Cpy w w.heap.size b now Z 0 w1 Z (fun q=>if q<w.heap.size then 9 else 0)))
  (HQC:Hid (∀W k x,Tch [] w W->k<8->Z k=some x->Cp 255 #[zp x.qb] W fun e w'=>∃qb' V',e=.returned (zp qb')/\QR w' qb' V' x.Q/\(∀k∈qbl qb' V',W.heap.size<=k)/\Tch [] W w')):
  Cp 197 #[zp st] w fun e w'=>∃Z' col',e=.returned (zp w.heap.size)/\Cpy w w.heap.size b now Z 8 w' Z' col':=by
 have d1:w1.cell? ⟨st,1,none⟩=some (jB (ptZ Z 0)):=HC 0 (by decide);have d2:w1.cell? ⟨st,2,none⟩=some (jB (ptZ Z 1)):=HC 1 (by decide);have d3:w1.cell? ⟨st,3,none⟩=some (jB (ptZ Z 2)):=HC 2 (by decide);have d4:w1.cell? ⟨st,4,none⟩=some (jB (ptZ Z 3)):=HC 3 (by decide);have d5:w1.cell? ⟨st,5,none⟩=some (jB (ptZ Z 4)):=HC 4 (by decide);have d6:w1.cell? ⟨st,6,none⟩=some (jB (ptZ Z 5)):=HC 5 (by decide);have d7:w1.cell? ⟨st,7,none⟩=some (jB (ptZ Z 6)):=HC 6 (by decide);have d8:w1.cell? ⟨st,8,none⟩=some (jB (ptZ Z 7)):=HC 7 (by decide);have HIX:Hid (∀k:Nat,k<8->∀W:World,(Instr.index 153 (.agg #[jB (ptZ Z 0),jB (ptZ Z 1),jB (ptZ Z 2),jB (ptZ Z 3),jB (ptZ Z 4),jB (ptZ Z 5),jB (ptZ Z 6),jB (ptZ Z 7)]) (.int .i64 (k:Int))).run Tryz.prog W=.ok (jB (ptZ Z k)) W):=fun k hk W=>b8G (fun i=>jB (ptZ Z i)) k hk W
 have HI1:Hid ((Tryz.prog.info? 156).map (·.size)=some C.size):=by
  show _=_
  rw[hsz];exact b4a
 have HSB:=zH hsb;have HON:=zH hone;have HSZ:Hid (zst.size=C.size):=by
  show _=_
  rw[hsz];rfl
 have HW1:=zH hw1;clear hsb hone hsz hw1 HC;go_enter Tryz.func197,Tryz.ntmps197;go_wp2_with (first|(refine wpList_load_row rfl 156 _ rfl st rfl 156 C (0,0) _ HSB.out Tryz.underlying156 rfl HI1.out ?_)|(refine a5m rfl 156 rfl zst b5p ?_)|(refine wpList_store_row rfl 156 _ _ rfl w.heap.size C rfl rfl 156 zst (heap_alloc_new _ _) HI1.out HSZ.out HON.out ?_;rw[<-HW1.out]))
 go_loopw [13] (fun kv wr=>∃(k:Nat) (Z':Nat->Option BQ) (col':Nat->Nat),k<=8/\kv=.int .i64 (k:Int)/\Cpy w w.heap.size b now Z k wr Z' col') (fun kv _=>8-(intOf kv).toNat)
 case atStart=>exact⟨0,Z,_,by decide,rfl,HB1.out⟩
 case round=>
  obtain⟨k,Z',col',hk,rfl,hc⟩:=hrel;have HCP:=zH hc
  by_cases hlt:k<8
  ·have hix:=HIX.out k hlt
   cases hp:Z k with
   | none=>
    have hix':∀W:World,(Instr.index 153 (.agg #[jB (ptZ Z 0),jB (ptZ Z 1),jB (ptZ Z 2),jB (ptZ Z 3),jB (ptZ Z 4),jB (ptZ Z 5),jB (ptZ Z 6),jB (ptZ Z 7)]) (.int .i64 (k:Int))).run Tryz.prog W=.ok (.pointer none) W:=fun W=>by
     have:=hix W;unfold ptZ at this ⊢;rw[hp]at this;exact this
    have HF:=zH (hc.skip hp);clear hix hp hc HCP;go_wp2_with fail;go_roundw
    case rel=>exact⟨k+1,_,_,by omega,by go_num,HF.out⟩
    case measure=>simp[intOf];omega
   | some x=>
    have hix':∀W:World,(Instr.index 153 (.agg #[jB (ptZ Z 0),jB (ptZ Z 1),jB (ptZ Z 2),jB (ptZ Z 3),jB (ptZ Z 4),jB (ptZ Z 5),jB (ptZ Z 6),jB (ptZ Z 7)]) (.int .i64 (k:Int))).run Tryz.prog W=.ok (zp x.qb) W:=fun W=>by
     have:=hix W;unfold ptZ at this ⊢;rw[hp]at this;exact this
    have HQ:=zH (HQC.out wr k x hc.tch hlt hp);have HPZ:=zH hp;clear hix hp hc;go_wp2_with fail;refine HQ.out.mono ?_;rintro e w2 ⟨qb,V,rfl,hq,hn,ht⟩;have hs2:=HCP.out.stb.tch ht (by simp);have HF:=zH (HCP.out.put (Nat.le_refl _) hlt HPZ.out hq hn ht);have cz:=hs2.fz (1+k);have c1:=hs2.cell k hlt;have lg:=hs2.lt;have hb0:(0:Int)<=(k:Int):=Int.natCast_nonneg k;have hb1:(k:Int)<8:=by omega
    clear hq hn ht hs2 HQ HCP;go_wp2_with fail;go_roundw
    case rel=>exact⟨k+1,_,_,by omega,by go_num,HF.out⟩
    case measure=>simp[intOf];omega
  ·have hke:k=8:=by omega
   subst hke;clear hc;go_wp2_with fail;go_ret;exact⟨_,_,rfl,HCP.out⟩
theorem a9S (B st b:Nat)(now:Int)(Z:Nat->Option BQ)(col:Nat->Nat)(w:World)(h:SG B w st b now Z col)(hO:∀i x,i<8->Z i=some x->QOk x.Q):
  Cp 197 #[zp st] w fun e w'=>∃Z' col',e=.returned (zp w.heap.size)/\Cpy w w.heap.size b now Z 8 w' Z' col':=by
 have T1:Tch [] w ((w.alloc (.cells zst 156)).setRow w.heap.size (stG now (fun i=>jB (ptZ Z i)) b)):=((Tch.refl _ _).alloc _).setRow (fun h=>absurd h (Nat.lt_irrefl _)) _;have hs1:=h.stb.tch T1 (by simp);refine b4N st b now Z w _ _ rfl h.stb (b4Q now (ptZ Z) b) (by unfold stG;rw[Array.size_append,zm];rfl) hs1.lt (fun i hi=>hs1.cell i hi) ?_ (fun W k x ht hk hx=>?_)
 ·refine⟨setRow_heap _ _ _ _ 156 (0,0) (heap_alloc_new _ _),fun _ _=>rfl,rfl,fun i x hi _=>by omega,fun q hq=>if_pos hq,by simp,fun q hq=>?_,T1⟩
  show (if q<w.heap.size then 9 else 0)≠9
  rw[if_neg (by have:=T1.size;omega)];decide
 ·have ho:=hO k x hk hx;exact a9K x.Q x.V x.qb W ((h.qr k x hk hx).tch ht (by simp)) (by have:=ho.ml;omega) (by have:=ho.rl;omega) (by have:=ho.dl;omega) (by have:=ho.al;omega)
def a1L (w w':World)(col:Nat->Nat):Nat->Nat:=fun q=>if w.heap.size<=q/\q<w'.heap.size then 9 else col q
theorem xJ (h:q<w.heap.size):a1L w w' col q=col q:=if_neg (by omega)
theorem a4Z (hq:q<w'.heap.size)(h:a1L w w' col q≠9):q<w.heap.size/\col q≠9:=by
 by_cases h1:q<w.heap.size
 ·rw[xJ h1]at h;exact⟨h1,h⟩
 ·exact absurd (if_pos ⟨by omega,hq⟩) h
theorem SG.recol {col':Nat->Nat}(h:SG B w st b now Z col)(ha:∀k,k<w.heap.size->col' k=col k):SG B w st b now Z col':=
 ⟨h.stb,h.tb,h.qr,fun i x hi hx k hk=>(ha k ((h.qr i x hi hx).lt k hk)).trans (h.cl i x hi hx k hk),h.lo,h.ls,by rw[ha st h.stb.lt];exact h.cs⟩
theorem Bk.fr {x:Nat}(h:Bk B w x st b now c col){T:List TypeId}(hf:Fr B T w w')(h1:∀t∈TA,t∉T)(h2:99∉T)(h3:221∉T):Bk B w' x st b now c col/\Bk B w' x st b now c (a1L w w' col):=by
 obtain⟨⟨Z,hs,hc⟩,hw,hn,⟨o,room,hJ⟩,hfu⟩:=h;have hq:∀t∈TQ,t∉T:=fun t ht=>h1 t (b5P t (a8G ht))
 have hs2:=(hs.recol (col':=a1L w w' col) (fun k hk=>xJ hk)).fr hf (h1 156 (by decide)) h3 hq;have hJ2:=(hJ.recol (col':=a1L w w' col) (fun k hk e=>by rw[xJ hk]at e;exact e)).fr hf h2 (h1 143 (by decide)) (h1 110 (by decide)) (h1 116 (by decide));have hsz:=hf.size;refine⟨⟨⟨Z,hs.fr hf (h1 156 (by decide)) h3 hq,hc⟩,hw,hn,⟨o,room,hJ.fr hf h2 (h1 143 (by decide)) (h1 110 (by decide)) (h1 116 (by decide))⟩,fun k hk=>hfu k (by omega)⟩,⟨⟨Z,hs2,hc⟩,hw,hn,⟨o,room,hJ2⟩,fun k hk=>?_⟩⟩
 show (if _ then _ else _)≠9
 rw[if_neg (by omega)];exact hfu k (by omega)
def doI (now:Int)(c:Nat->Option QM)(s:ByteArray):ByteArray×(Nat->Option QM):=if jk s=true/\((jh s).r.op=83\/(jh s).r.op=65\/(jh s).r.op=69) then ((doQ now c (jh s).r).1,(doQ now c (jh s).r).2.2) else (⟨#[1]⟩,c)
def doL (now:Int)(c:Nat->Option QM):List ByteArray->List ByteArray×(Nat->Option QM)
 | []=>([],c)
 | s::l=>((doI now c s).1::(doL now (doI now c s).2 l).1,(doL now (doI now c s).2 l).2)
theorem zX (now:Int)(s:ByteArray):∀(l:List ByteArray) (c:Nat->Option QM),doL now c (l++[s])=((doL now c l).1++[(doI now (doL now c l).2 s).1],(doI now (doL now c l).2 s).2)
 | [],c=>rfl
 | a::l,c=>by
  show ((doI now c a).1::(doL now (doI now c a).2 (l++[s])).1,(doL now (doI now c a).2 (l++[s])).2)=_
  rw[zX now s l];rfl
theorem a0q (now:Int):∀(l:List ByteArray) (c:Nat->Option QM),(doL now c l).1.length=l.length
 | [],c=>rfl
 | a::l,c=>by
  show (doL now (doI now c a).2 l).1.length+1=_
  rw[a0q now l];rfl
theorem a7Y (now:Int)(c:Nat->Option QM)(r:Wp.Rq)(h:r.op=83\/r.op=65\/r.op=69):(doQ now c r).2.1=now:=by
 have hA:∀f,(doA now c r f).2.1=now:=fun f=>by
  unfold doA
  split
  ·rfl
  ·split
   ·rfl
   ·split<;>rfl
 rcases h with h|h|h
 ·unfold doQ;rw[h];simp only[show ¬(83:UInt8)=84 from by decide,show ¬(83:UInt8)=65 from by decide,show ¬(83:UInt8)=69 from by decide,if_false]
  split
  ·rfl
  ·simp only[show ¬(83:UInt8)=67 from by decide,show ¬(83:UInt8)=88 from by decide,show ¬(83:UInt8)=80 from by decide,show ¬(83:UInt8)=86 from by decide,show ¬(83:UInt8)=82 from by decide,if_false]
   unfold doS
   split
   ·rfl
   ·split
    ·rfl
    ·split
     ·rfl
     ·split<;>rfl
 ·unfold doQ;rw[h];exact hA _
 ·unfold doQ;rw[h];exact hA _
theorem b6o {r:Wp.Rq}(hW:WFc c)(hn:0<=now/\now<=60000)(hr:b0j r)(h:r.op=83\/r.op=65\/r.op=69):WFc (doQ now c r).2.2:=by
 have hA:∀f:Nat->QM->Nat->(Nat->Option QM),(∀i num rcv Q m,i<8->c i=some Q->Q.ms.find? (isN (num:Nat))=some m->0<m.til->m.rcv=(rcv:Nat)->WFc (f i Q num))->WFc (doA now c r f).2.2:=fun f hf=>by
  unfold doA
  split
  ·exact hW
  ·rename_i i num rcv hh
   split
   ·exact hW
   ·rename_i Q hQ
    split
    ·rename_i hfl
     obtain⟨m,h1,h2,h3⟩:=a1v hfl;exact hf i num rcv Q m (a0s hh).2 hQ h1 h2 h3
    ·exact hW
 rcases h with h|h|h
 ·have hq:=hr.fq (by rw[h];decide);have hi:qiR r<8:=by unfold qiR;omega
  obtain⟨hgrp,hded,hbod⟩:=hr.fs (by rw[h];rfl);have hids:(ks r).size<=8:=by
   unfold ks
   split
   ·show (0::je _ 4).toArray.size<=8
    simp[jc]
   ·exact hded
  unfold doQ;simp only[h,show ¬(83:UInt8)=84 from by decide,show ¬(83:UInt8)=65 from by decide,show ¬(83:UInt8)=69 from by decide,if_false]
  split
  ·exact hW
  ·rename_i Q hQ
   simp only[show ¬(83:UInt8)=67 from by decide,show ¬(83:UInt8)=88 from by decide,show ¬(83:UInt8)=80 from by decide,show ¬(83:UInt8)=86 from by decide,show ¬(83:UInt8)=82 from by decide,if_false]
   unfold doS
   split
   ·exact hW
   ·rename_i h40
    split
    ·exact hW
    ·split
     ·exact hW
     ·rename_i hqu
      split
      ·exact hW
      ·rename_i hnx
       exact hW.set ((hW _ _ hi hQ).send (by omega) (by omega) hgrp (by omega) hids hn)
 ·unfold doQ;rw[h];exact hA _ (fun i num rcv Q m hi hQ hf ht _=>hW.set ((hW _ _ hi hQ).drop hf ht))
 ·have htc:=hr.ft (.inl (by rw[h];rfl));unfold doQ;rw[h];refine hA _ (fun i num rcv Q m hi hQ hf ht _=>?_);unfold zv
  split
  ·exact(a2l hW hi hQ hf ht).1
  ·exact hW.set ((hW _ _ hi hQ).ext hf ht ⟨by omega,by omega⟩)
theorem a2U (s:ByteArray)(hg:jk s=true)(h:(jh s).r.op=83\/(jh s).r.op=65\/(jh s).r.op=69):b0j (jh s).r/\(jh s).r.op.toNat≠66:=by
 have hn:(jh s).r.op.toNat≠66:=by
  rcases h with e|e|e<;>rw[e]<;>decide
 exact⟨b2M (a1u s) (a0R s hg hn).1,hn⟩
theorem b6m (hW:WFc c)(hn:0<=now/\now<=60000)(s:ByteArray):WFc (doI now c s).2:=by
 unfold doI
 split
 ·rename_i h
  exact b6o hW hn (a2U s h.1 h.2).1 h.2
 ·exact hW
theorem b0K (hn:0<=now/\now<=60000):∀(l:List ByteArray) {c:Nat->Option QM},WFc c->WFc (doL now c l).2
 | [],c,h=>h
 | s::l,c,h=>b0K hn l (b6m h hn s)
abbrev In (B:Nat)(w:World)(st b:Nat)(now:Int)(c:Nat->Option QM)(col:Nat->Nat):Prop:=Bk B w st st b now c col
theorem a9w (B:Nat)(s:ByteArray)(st:Nat)(w:World)(hL:Lays B w)(hB:B<=w.heap.size)(hs:s.size<=maxLen)(hno:¬(jk s=true/\((jh s).r.op=83\/(jh s).r.op=65\/(jh s).r.op=69))):
  zT 198 #[zp st,.string s] w (.tuple #[.string ⟨#[1]⟩,.nilFunc]):=by
 have HR:Hid (∀W,zT 61 #[.int .i64 1] W (.string ⟨#[1]⟩)):=fun W=>a0j 1 W
 cases hg:jk s with
 | false=>
  have HP:Hid (zT 60 #[.string s] w (.tuple #[.agg #[.int .u8 0,.int .u8 0,.int .u8 0,.int .i64 0,.int .i64 0,.int .i64 0,.int .i64 0,.int .i64 0,.int .i64 0,.string ⟨#[]⟩,.string ⟨#[]⟩,.string ⟨#[]⟩,.string ⟨#[]⟩,.string ⟨#[]⟩,.slice none 0 0],.int .i64 1])):=by
   refine(a1G B s w hs hL hB).mono ?_;rintro e w' ⟨h|h,hb⟩
   ·rw[hg]at h;exact absurd h.1 (by decide)
   ·exact⟨h.2,Tch.of_below hb⟩
  clear hL hs hg hno;go_enter Tryz.func198,Tryz.ntmps198;go_wp2_with fail;refine HP.out.mono ?_;rintro e w1 ⟨rfl,t1⟩;have T1:=zH t1;clear t1 HP;go_wp2_with fail;refine(HR.out _).mono ?_;rintro e w2 ⟨rfl,t2⟩;have T2:Hid (Tch [] w w2):=((T1.out.alloc _).trans t2 (by simp));clear t2 HR;go_wp2_with fail;go_ret2;exact⟨rfl,T2.out⟩
 | true=>
  have hop:¬((jh s).r.op=83\/(jh s).r.op=65\/(jh s).r.op=69):=fun h=>hno ⟨hg,h⟩
  have HN:Hid (∀W,zE 256 #[.int .u8 ((jh s).r.op.toNat:Int)] W (.bool false)):=fun W=>b1s _ W (fun e=>hop (.inl (UInt8.toNat_inj.1 (by simpa using (Int.ofNat_inj.1 e))))) (fun e=>hop (.inr (.inl (UInt8.toNat_inj.1 (by simpa using (Int.ofNat_inj.1 e)))))) (fun e=>hop (.inr (.inr (UInt8.toNat_inj.1 (by simpa using (Int.ofNat_inj.1 e))))))
  have HP:=zH (a3h B s _ _ w hs hL hB hg rfl rfl);have hinf:=jS;generalize (jh s).r=r at*
  clear hL hs hg hno hop;go_enter Tryz.func198,Tryz.ntmps198;go_wp2_with fail;refine HP.out.mono ?_;rintro e w1 ⟨y,rfl,hb,_⟩;obtain⟨wl,hwl⟩:∃wl,wl=ke w1 (ja r y.v):=⟨_,rfl⟩;have c0:wl.cell? ⟨w1.heap.size,0,none⟩=some (.int .u8 (r.op.toNat:Int)):=by rw[hwl];exact jb (jT _ _) 0 _ rfl
  have T1:Hid (Tch [] w wl):=by
   show Tch _ _ _
   rw[hwl];exact(Tch.of_below hb).trans (vJ _ _) (by simp)
  have lw:=World.block_lt_of_cell? _ _ c0;have HWL:=zH hwl;clear hb hwl HP;go_wp2_with (first|(refine wpList_store_row rfl 27 _ _ rfl w1.heap.size (ja r y.v) rfl rfl 27 _ (heap_alloc_new _ _) hinf rfl (jC _ _) ?_;rw[a1C,<-HWL.out])|(go_at_call 256;refine(HN.out _).mono ?_;rintro e w2 ⟨rfl,rfl⟩));refine(HR.out _).mono ?_;rintro e w2 ⟨rfl,t2⟩;have T2:Hid (Tch [] w w2):=(T1.out.trans t2 (by simp));clear t2 HR;go_wp2_with fail;go_ret2;exact⟨rfl,T2.out⟩
theorem a7b (G:World->Ending->World->Prop)(B:Nat)(s:ByteArray)(st:Nat)(w:World)(hL:Lays B w)(hB:B<=w.heap.size)(hs:s.size<=maxLen)(hg:jk s=true)(hop:(jh s).r.op=83\/(jh s).r.op=65\/(jh s).r.op=69)
  (HC:∀W y,Tch [] w W->Cp 62 #[zp st,.agg (ja (jh s).r (Sl.v y))] W fun e w'=>Tch [] W w'/\(∃t chg,e=.returned (.tuple #[.string t,chg]))/\G W e w'):
  Cp 198 #[zp st,.string s] w fun e w'=>Tch [] w w'/\∃W,G W e w':=by
 have HN:Hid (∀W,zE 256 #[.int .u8 ((jh s).r.op.toNat:Int)] W (.bool true)):=fun W=>a9x _ W (by rcases hop with e|e|e<;>rw[e]<;>decide)
 have HP:=zH (a3h B s _ _ w hs hL hB hg rfl rfl);have hinf:=jS;have HD:=zH HC;clear HC;generalize (jh s).r=r at*
 clear hL hs hg hop;go_enter Tryz.func198,Tryz.ntmps198;go_wp2_with fail;refine HP.out.mono ?_;rintro e w1 ⟨y,rfl,hb,_⟩;obtain⟨wl,hwl⟩:∃wl,wl=ke w1 (ja r y.v):=⟨_,rfl⟩;have c0:wl.cell? ⟨w1.heap.size,0,none⟩=some (.int .u8 (r.op.toNat:Int)):=by rw[hwl];exact jb (jT _ _) 0 _ rfl
 have hbl:wl.heap[w1.heap.size]?=some (.cells (ja r y.v) 27 (0,0)):=by rw[hwl];exact jT _ _
 have T1:Hid (Tch [] w wl):=by
  show Tch _ _ _
  rw[hwl];exact(Tch.of_below hb).trans (vJ _ _) (by simp)
 have HD1:=zH (HD.out wl y T1.out);have lw:=World.block_lt_of_cell? _ _ c0;have HWL:=zH hwl;clear hb hwl HP HD;go_wp2_with (first|(refine wpList_store_row rfl 27 _ _ rfl w1.heap.size (ja r y.v) rfl rfl 27 _ (heap_alloc_new _ _) hinf rfl (jC _ _) ?_;rw[a1C,<-HWL.out])|(go_at_call 256;refine(HN.out _).mono ?_;rintro e w2 ⟨rfl,rfl⟩)|(refine wpList_load_row rfl 27 _ rfl w1.heap.size rfl 27 (ja r y.v) (0,0) _ hbl Tryz.underlying27 rfl hinf ?_));refine HD1.out.mono ?_;rintro e w2 ⟨t2,⟨t,chg,rfl⟩,hG⟩;have T2:Hid (Tch [] w w2):=(T1.out.trans t2 (by simp));have HG:=zH hG;clear t2 hG HD1;go_wp2_with fail;go_ret2;exact⟨T2.out,_,HG.out⟩
theorem a9v (B:Nat)(s:ByteArray)(st b:Nat)(now:Int)(c:Nat->Option QM)(col:Nat->Nat)(w:World)(hE:Env B w)(hb:In B w st b now c col)(hs:s.size<=maxLen):
  Cp 198 #[zp st,.string s] w fun e w'=>Tch [] w w'/\PlG B ((doI now c s).2=c) (fun w'=>JgO B w col w' st st none 0) (fun t w'=>t=(doI now c s).1/\Did B st st b w col now (doI now c s).2 w') e w':=by
 by_cases hi:jk s=true/\((jh s).r.op=83\/(jh s).r.op=65\/(jh s).r.op=69)
 ·have e1:doI now c s=((doQ now c (jh s).r).1,(doQ now c (jh s).r).2.2):=if_pos hi;obtain⟨h1,h2⟩:=a2U s hi.1 hi.2;have hn:=a7Y now c _ hi.2;rw[e1];obtain⟨Z,hz,hc⟩:=hb.sg;refine(a7b (fun _ e w'=>PlG B ((doQ now c (jh s).r).2.2=c) (fun w'=>JgO B w col w' st st none 0) (fun t w'=>t=(doQ now c (jh s).r).1/\Did B st st b w col now (doQ now c (jh s).r).2.2 w') e w') B s st w hE.lays hE.size hs hi.1 hi.2 (fun W y ht=>?_)).mono (fun e w' h=>⟨h.1,h.2.choose_spec⟩);refine(b1U B (jh s).r st st b now c col w hE hb h1 h2 Z none 0 hz hc W y ht).mono (fun e w' h=>?_);rw[hn]at h;exact⟨h.1,h.2.shape,h.2⟩
 ·have e1:doI now c s=(⟨#[1]⟩,c):=if_neg hi;rw[e1];refine(a9w B s st w hE.lays hE.size hs hi).mono ?_;rintro e w' ⟨rfl,ht⟩;exact⟨ht,_,.inl ⟨rfl,rfl,fun w2 ht2=>⟨rfl,vW hb hE.size (ht.trans ht2 (by simp))⟩⟩⟩
end Go.Proofs.YtbdobaapadlcjaaGreatDoor
