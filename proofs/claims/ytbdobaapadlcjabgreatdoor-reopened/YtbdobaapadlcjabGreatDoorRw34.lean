import Derived.Test.YtbdobaapadlcjabGreatDoorRw33
set_option maxRecDepth 10000
set_option maxHeartbeats 4000000
set_option linter.unusedVariables false
set_option linter.unusedSimpArgs false
namespace Go.Proofs.YtbdobaapadlcjabGreatDoor
open Go.RowKit
variable {T:List TypeId}{B x sx bx y sy b2 d o st b i:Nat}{col colx coly col':Nat->Nat}{w w' w0 W W':World}{nx ny now:Int}{cx cy c:Nat->Option QM}{C:Array Value}{v:Value}{l:List ByteArray}
theorem FqT.bel (h:FqT T B col w w'):Below B w w':=⟨h.os,h.tape,h.output,h.size,fun k hk=>h.low k hk⟩
theorem Env.bel (h:Env B w)(hb:Below B w w'):Env B w':=⟨h.lays.below hb,h.tab.below hb h.three,Nat.le_trans h.size hb.size,h.three⟩
theorem Env.pos (h:Env B w):0<w.heap.size:=by
 have h1:=h.three;have h2:=h.size;omega
structure Two (B:Nat)(w:World)(x sx bx:Nat)(nx:Int)(cx:Nat->Option QM)(colx:Nat->Nat)(y sy b2:Nat)(ny:Int)(cy:Nat->Option QM)(coly:Nat->Nat):Prop where
 f:Bk B w x sx bx nx cx colx
 g:Bk B w y sy b2 ny cy coly
 ap:∀q,B<=q->q<w.heap.size->colx q=9\/coly q=9
 env:Env B w
theorem Two.symm (h:Two B w x sx bx nx cx colx y sy b2 ny cy coly):Two B w y sy b2 ny cy coly x sx bx nx cx colx:=⟨h.g,h.f,fun q h1 h2=>(h.ap q h1 h2).symm,h.env⟩
theorem Two.did {nx':Int}{cx':Nat->Option QM}(h:Two B w x sx bx nx cx colx y sy b2 ny cy coly)(hd:Did B x sx bx w colx nx' cx' w'):
  ∃colx',Two B w' x sx bx nx' cx' colx' y sy b2 ny cy (rec9 w w' coly)/\Agr w colx colx'/\FqT TA B colx w w':=by
 obtain⟨col',hb,ha,hf⟩:=hd;refine⟨col',⟨hb,h.g.oth hf (fun q hB hq h9=>(h.ap q hB hq).resolve_right h9),fun q hB hq=>?_,h.env.bel hf.bel⟩,ha,hf⟩
 by_cases hlt:q<w.heap.size
 ·rw[ha.1 q hlt,rec9_old hlt];exact h.ap q hB hlt
 ·exact .inr (if_pos ⟨by omega,hq⟩)
theorem Two.fr (h:Two B w x sx bx nx cx colx y sy b2 ny cy coly){T:List TypeId}(hf:Fr B T w w')(h1:∀t∈TA,t∉T)(h2:60∉T)(h3:186∉T):
  Two B w' x sx bx nx cx (rec9 w w' colx) y sy b2 ny cy (rec9 w w' coly):=by
 refine⟨h.f.fr hf h1 h2 h3,h.g.fr hf h1 h2 h3,fun q hB hq=>?_,h.env.bel hf.below⟩
 by_cases hlt:q<w.heap.size
 ·rw[rec9_old hlt,rec9_old hlt];exact h.ap q hB hlt
 ·exact .inr (if_pos ⟨by omega,hq⟩)
def PI (B:Nat)(w0:World)(d x y:Nat)(nx:Int)(cx:Nat->Option QM)(ny:Int)(cy:Nat->Option QM)(w:World):Prop:=∃sx bx sy b2 colx coly,Two B w x sx bx nx cx colx y sy b2 ny cy coly/\colx 0=d+10/\Below B w0 w
def Kp (w w':World):Prop:=∀(k:Nat) (C:Array Value) (t:TypeId),w.heap[k]?=some (.cells C t (0,0))->t∉TA->w'.heap[k]?=some (.cells C t (0,0))
theorem PI.env (h:PI B w0 d x y nx cx ny cy w):Env B w:=by
 obtain⟨sx,bx,sy,b2,colx,coly,h1,h2,h3⟩:=h;exact h1.env
theorem PI.fr (h:PI B w0 d x y nx cx ny cy w){T:List TypeId}(hf:Fr B T w w')(h1:∀t∈TA,t∉T)(h2:60∉T)(h3:186∉T):PI B w0 d x y nx cx ny cy w':=by
 obtain⟨sx,bx,sy,b2,colx,coly,g1,g2,g3⟩:=h;exact⟨sx,bx,sy,b2,_,_,g1.fr hf h1 h2 h3,(rec9_old g1.env.pos).trans g2,g3.trans hf.below⟩
theorem PI.tch (h:PI B w0 d x y nx cx ny cy w)(ht:Tch [] w w'):PI B w0 d x y nx cx ny cy w':=
 h.fr (T:=[]) (Fr.of_nil [] ht h.env.size) (by simp) (by simp) (by simp)
theorem PI.box (h:PI B w0 d x y nx cx ny cy w){p o:Nat}{C:Array Value}(hp:B<=p)(hb:w.heap[p]?=some (.cells C 24 (0,0)))(v:Value):PI B w0 d x y nx cx ny cy (w.setCell ⟨p,o,none⟩ v):=
 h.fr (T:=[24]) (Fr.of_tch ((Tch.refl [p] w).setCell (fun _=>by simp) v) h.env.size (fun k hk=>by simp at hk;omega) (fun k hk C' t hC=>by
  simp at hk;subst hk;rw[hb]at hC;simp at hC;simp[<-hC.2])) (by decide) (by decide) (by decide)
theorem PI.crx (h:PI B w0 d x y 0 cx ny cy w)(r:Wp.Rq)(i:Nat)(hr:Rok r)(hop:r.op=67)(hi:i<8)(hq:r.q.toNat=97+i)(hno:cx i=none):
  Calls Tryz.prog 21 #[.pointer (some ⟨x,0,none⟩),.agg (cellsOf r nil0.v)] w fun e w'=>e=.returned (.bool true)/\PI B w0 d x y 0 (setC cx i (some (newM r))) ny cy w'/\Kp w w':=by
 obtain⟨sx,bx,sy,b2,colx,coly,g1,g2,g3⟩:=h;refine(create_g B r x sx bx i 0 cx colx w g1.env g1.f hr hop hi hq hno).mono ?_;rintro e w' ⟨rfl,hd⟩;obtain⟨colx',k1,k2,k3⟩:=g1.did hd;exact⟨rfl,⟨sx,bx,sy,b2,_,_,k1,(k2.1 0 g1.env.pos).trans g2,g3.trans k3.bel⟩,k3.keep⟩
theorem PI.cry (h:PI B w0 d x y nx cx 0 cy w)(r:Wp.Rq)(i:Nat)(hr:Rok r)(hop:r.op=67)(hi:i<8)(hq:r.q.toNat=97+i)(hno:cy i=none):
  Calls Tryz.prog 21 #[.pointer (some ⟨y,0,none⟩),.agg (cellsOf r nil0.v)] w fun e w'=>e=.returned (.bool true)/\PI B w0 d x y nx cx 0 (setC cy i (some (newM r))) w'/\Kp w w':=by
 obtain⟨sx,bx,sy,b2,colx,coly,g1,g2,g3⟩:=h;refine(create_g B r y sy b2 i 0 cy coly w g1.env g1.g hr hop hi hq hno).mono ?_;rintro e w' ⟨rfl,hd⟩;obtain⟨coly',k1,k2,k3⟩:=g1.symm.did hd;exact⟨rfl,⟨sx,bx,sy,b2,_,_,k1.symm,(rec9_old g1.env.pos).trans g2,g3.trans k3.bel⟩,k3.keep⟩
def colO (d S:Nat):Nat->Nat:=fun q=>if q=0 then d+10 else if q<S then 9 else 0
theorem opn_bk {S:Nat}{j:Nat}(h:Opn S w x st b j d (.slice none 0 0))(hd:S<=d)(hB:B<=S)(h3:3<=B)(hS:S<=w.heap.size):Bk B w x st b 0 (fun _=>none) (colO d S):=
 (h.bk hd (colO d S) (fun k hk=>by
  unfold colO;rw[if_neg (by omega),if_neg (by omega)];decide) (if_pos rfl) hS).mono hB
theorem two_opn {wa w1 w2:World}{x1 s1 b1 j1 d1 x2 s2 j2 d2:Nat}(hE:Env B wa)(hb1:Below wa.heap.size wa w1)(h1:Opn wa.heap.size w1 x1 s1 b1 j1 d1 (.slice none 0 0))(hd1:d1=wa.heap.size)(hb2:Below w1.heap.size w1 w2)(h2:Opn w1.heap.size w2 x2 s2 b2 j2 d2 (.slice none 0 0))(hd2:d2=w1.heap.size):
  PI B wa d1 x1 x2 0 (fun _=>none) 0 (fun _=>none) w2:=by
 have hz1:=hb1.size;have hz2:=hb2.size;have hBa:=hE.size;have h3:=hE.three;have hE1:=hE.bel (hb1.mono hBa);have k1:=opn_bk h1 (by omega) hBa h3 hz1;have k2:=k1.fr (T:=[]) (Fr.of_nil [] (Tch.of_below hb2) hE1.size) (by simp) (by simp) (by simp);have k3:=opn_bk h2 (by omega) (Nat.le_trans hBa hz1) h3 hz2;refine⟨s1,b1,s2,b2,_,_,⟨k2,k3,fun q hB hq=>?_,hE1.bel (hb2.mono hE1.size)⟩,(rec9_old (by omega)).trans (if_pos rfl),(hb1.mono hBa).trans (hb2.mono hE1.size)⟩
 by_cases hlt:q<w1.heap.size
 ·right;unfold colO;rw[if_neg (by omega),if_pos hlt]
 ·exact .inl (if_pos ⟨by omega,hq⟩)
theorem blk_set {qb:Nat}{C':Array Value}{t:TypeId}(h:w.heap[qb]?=some (.cells C t (0,0)))(v:Value)(hC:C.setIfInBounds o v=C'):(w.setCell ⟨qb,o,none⟩ v).heap[qb]?=some (.cells C' t (0,0)):=by
 rw[<-hC];exact heap_setCell_same w qb o C t v h
theorem rok_of {r:Wp.Rq}(hw:Wf r)(h:rightW r nil0 (Wp.short [])=true):Rok r:=⟨hw,h,good_size _ (print_good r nil0 [] hw rfl h).1⟩
def rawQ (r:Wp.Rq)(x:Sl)(o z:Int):Array Value:=#[.int .u8 o,.int .u8 z,.int .u8 (r.d.toNat:Int),.int .i64 r.vis,.int .i64 r.win,.int .i64 r.rcv,.int .i64 r.quo,.int .i64 r.mx,.int .i64 r.tic,.string r.grp,.string r.ded,.string r.bod,.string r.att,.string r.han,.slice x.a x.n x.c]
theorem shaped_raw (r:Wp.Rq)(x:Sl)(q:UInt8)(W:World)(hw:Wf r)(hz:Keep.Szs r)(hq:q.toNat<8):
  Calls Tryz.prog 20 #[.agg (rawQ r x 0 (q.toNat:Int))] W fun e w'=>(∃rr,e=.returned (.agg (cellsOf rr nil0.v))/\Rok rr/\rr.op=67/\rr.q.toNat=97+q.toNat)/\Tch [] W w':=by
 refine(Keep.shaped_Q {r with op:=0,q:=q} x W rfl ⟨hw.vis,hw.win,hw.rcv,hw.quo,hw.mx,hw.tic⟩ ⟨hz.grp,hz.ded,hz.bod,hz.att,hz.han⟩).mono ?_;rintro e w' ⟨⟨rr,rfl,h1,h2,h3,h4⟩,hb⟩;have h4':rr.q.toNat=97+q.toNat:=by
  have:rr.q.toNat=97+q.toNat % 8:=h4;omega
 exact⟨⟨rr,rfl,rok_of h2 h1,h3,h4'⟩,Tch.of_below hb⟩
theorem prepared_any (B:Nat)(r:Wp.Rq)(x:Sl)(w:World)(hw:Wf r)(hz:Keep.Szs r)(hE:Env B w):
  Calls Tryz.prog 7 #[.agg (cellsOf r x.v)] w fun e w'=>∃xb yb d c,e=.returned (.tuple #[.pointer (some ⟨xb,0,none⟩),.pointer (some ⟨yb,0,none⟩),.pointer (some ⟨d,0,none⟩)])/\PI B w d xb yb 0 c 0 c w':=by
 have HSH:Hid (∀W (z:Int),(z=0\/z=1)->Calls Tryz.prog 20 #[.agg (rawQ r x 0 z)] W fun e w'=>(∃rr,e=.returned (.agg (cellsOf rr nil0.v))/\Rok rr/\rr.op=67/\rr.q.toNat=97+z.toNat)/\Tch [] W w'):=fun W z hz2=>by
  rcases hz2 with rfl|rfl
  ·exact shaped_raw r x 0 W hw hz (by decide)
  ·exact shaped_raw r x 1 W hw hz (by decide)
 have hinf:=info24;have HE:=zH hE;have HBW:=zH hE.size;have hop:=r.op.toNat_lt;rw[show cellsOf r x.v=rawQ r x (r.op.toNat:Int) (r.q.toNat:Int) from rfl]
 generalize (r.op.toNat:Int)=O;generalize (r.q.toNat:Int)=Q0;clear hw hz hE;go_enter Tryz.func7,Tryz.ntmps7;go_wp2_with fail;refine(opened_any _).mono ?_;rintro e w1 ⟨x1,s1,b1,j1,d1,rfl,hb1,ho1,hd1⟩;have HO1:=zH (⟨hb1,ho1,hd1⟩:Below _ _ w1/\Opn _ w1 x1 s1 b1 j1 d1 (.slice none 0 0)/\d1=_);clear hb1 ho1 hd1;go_wp2_with fail;refine(opened_any _).mono ?_;rintro e w2 ⟨x2,s2,b2,j2,d2,rfl,hb2,ho2,hd2⟩;obtain⟨WA,HWA⟩:∃WA,Hid (WA=w.alloc (.cells (rawQ r x O Q0) 24)):=⟨_,rfl⟩;have HP2:Hid (PI B w d1 x1 x2 0 (fun _=>none) 0 (fun _=>none) w2/\w2.heap[w.heap.size]?=some (.cells (rawQ r x O Q0) 24 (0,0))):=by
  have ht:Tch [] w (w.alloc (.cells (rawQ r x O Q0) 24)):=(Tch.refl [] w).alloc _;have hp:=two_opn (HE.out.tch ht (by simp)) HO1.out.1 HO1.out.2.1 HO1.out.2.2 hb2 ho2 hd2;obtain⟨sx,bx,sy,b2,colx,coly,g1,g2,g3⟩:=hp;have hz1:=HO1.out.1.size;have e1:(w.alloc (.cells (rawQ r x O Q0) 24)).heap.size=w.heap.size+1:=by simp
  refine⟨⟨sx,bx,sy,b2,colx,coly,g1,g2,(ht.below (by simp) HBW.out).trans g3⟩,?_⟩;rw[hb2.block _ (by omega),HO1.out.1.block _ (by omega)];exact heap_alloc_new _ _
 clear HO1 hb2 ho2 hd2 HWA;obtain⟨hp2,hbl2⟩:=HP2.out;have c0:w2.cell? ⟨w.heap.size,0,none⟩=some (.int .u8 O):=cell_qC hbl2 0 _ rfl;have z0:w2.frozen? ⟨w.heap.size,0,none⟩=false:=frozen_of_row w2 _ _ _ 24 hbl2;have HP3:Hid (PI B w d1 x1 x2 0 (fun _=>none) 0 (fun _=>none) (w2.setCell ⟨w.heap.size,0,none⟩ (.int .u8 0))/\(w2.setCell ⟨w.heap.size,0,none⟩ (.int .u8 0)).heap[w.heap.size]?=some (.cells (rawQ r x 0 Q0) 24 (0,0))):=⟨hp2.box HBW.out hbl2 _,blk_set hbl2 _ rfl⟩;clear hp2 hbl2 HP2;go_wp2_with fail
 go_loopw [9] (fun iv wr=>∃(k:Nat) (c:Nat->Option QM) (z:Int),k<=2/\iv=.int .i64 (k:Int)/\(∀i,k<=i->c i=none)/\PI B w d1 x1 x2 0 c 0 c wr/\wr.heap[w.heap.size]?=some (.cells (rawQ r x 0 z) 24 (0,0))) (fun iv _=>2-(intOf iv).toNat)
 case atStart=>exact⟨0,fun _=>none,Q0,by omega,rfl,fun _ _=>rfl,HP3.out.1,HP3.out.2⟩
 case round=>
  obtain⟨k,c,z,hk,rfl,hno,hpi,hbl⟩:=hrel;clear HP3 c0 z0;have HPI:=zH hpi;have HNO:=zH hno
  by_cases hlt:k<2
  ·have c1:wr.cell? ⟨w.heap.size,1,none⟩=some (.int .u8 z):=cell_qC hbl 1 _ rfl;have z1:wr.frozen? ⟨w.heap.size,1,none⟩=false:=frozen_of_row wr _ _ _ 24 hbl;have HBX:Hid (PI B w d1 x1 x2 0 c 0 c (wr.setCell ⟨w.heap.size,1,none⟩ (.int .u8 (k:Int)))/\(wr.setCell ⟨w.heap.size,1,none⟩ (.int .u8 (k:Int))).heap[w.heap.size]?=some (.cells (rawQ r x 0 (k:Int)) 24 (0,0))):=⟨hpi.box HBW.out hbl _,blk_set hbl _ rfl⟩;have hsz:(rawQ r x 0 (k:Int)).size=15:=rfl;have hlI:(k:Int)<2:=by omega
   have hmI:((k:Int) % 256)=(k:Int):=by omega
   have HS:=zH (HSH.out (wr.setCell ⟨w.heap.size,1,none⟩ (.int .u8 (k:Int))) (k:Int) (by omega));clear hpi hbl hno HSH;go_wp2_with (refine wpList_load_row rfl 24 _ rfl w.heap.size rfl 24 (rawQ r x 0 (k:Int)) (0,0) _ HBX.out.2 Tryz.underlying24 rfl (by rw[hsz];exact hinf) ?_);refine HS.out.mono ?_;rintro e w3 ⟨⟨rr,rfl,hrok,hrop,hrq⟩,t3⟩;have hrq':rr.q.toNat=97+k:=by simpa using hrq
   have HRR:=zH (⟨hrok,hrop,hrq'⟩:Rok rr/\rr.op=67/\rr.q.toNat=97+k);have HX:Hid (PI B w d1 x1 x2 0 c 0 c (laidIn w3 (cellsOf rr nil0.v))/\(laidIn w3 (cellsOf rr nil0.v)).heap[w.heap.size]?=some (.cells (rawQ r x 0 (k:Int)) 24 (0,0))):=by
    have t4:=t3.trans (laidIn_tch w3 (cellsOf rr nil0.v)) (fun _ h _=>h);exact⟨HBX.out.1.tch t4,(t4.block _ (lt_of_block HBX.out.2) (by simp)).trans HBX.out.2⟩
   clear hrok hrop hrq t3 HS HBX hrq' c1 z1 HPI;go_wp2_with (first|(refine wpList_store_row rfl 24 _ _ rfl w3.heap.size (cellsOf rr nil0.v) rfl rfl 24 _ (heap_alloc_new _ _) hinf rfl (cells_one _ _) ?_)|(refine wpList_load_row rfl 24 _ rfl w3.heap.size rfl 24 (cellsOf rr nil0.v) (0,0) _ (laidIn_heap _ _) Tryz.underlying24 rfl hinf ?_));refine(HX.out.1.crx rr k HRR.out.1 HRR.out.2.1 (by omega) HRR.out.2.2 (HNO.out k (Nat.le_refl _))).mono ?_;rintro e w4 ⟨rfl,hpi4,hk4⟩;have HX4:Hid (PI B w d1 x1 x2 0 (setC c k (some (newM rr))) 0 c w4/\w4.heap[w.heap.size]?=some (.cells (rawQ r x 0 (k:Int)) 24 (0,0))/\w4.heap[w3.heap.size]?=some (.cells (cellsOf rr nil0.v) 24 (0,0))):=⟨hpi4,hk4 _ _ _ HX.out.2 (by decide),hk4 _ _ _ (laidIn_heap _ _) (by decide)⟩;clear hpi4 hk4 HX;go_wp2_with (refine wpList_load_row rfl 24 _ rfl w3.heap.size rfl 24 (cellsOf rr nil0.v) (0,0) _ HX4.out.2.2 Tryz.underlying24 rfl hinf ?_);refine(HX4.out.1.cry rr k HRR.out.1 HRR.out.2.1 (by omega) HRR.out.2.2 (HNO.out k (Nat.le_refl _))).mono ?_;rintro e w5 ⟨rfl,hpi5,hk5⟩;have HX5:Hid (PI B w d1 x1 x2 0 (setC c k (some (newM rr))) 0 (setC c k (some (newM rr))) w5/\w5.heap[w.heap.size]?=some (.cells (rawQ r x 0 (k:Int)) 24 (0,0))/\∀i,k+1<=i->setC c k (some (newM rr)) i=none):=⟨hpi5,hk5 _ _ _ HX4.out.2.1 (by decide),fun i hi=>by
    unfold setC;rw[if_neg (by omega)];exact HNO.out i (by omega)⟩
   clear hpi5 hk5 HX4 HRR HNO;go_wp2_with fail;go_roundw
   case rel=>exact⟨k+1,_,_,by omega,by go_num,HX5.out.2.2,HX5.out.1,HX5.out.2.1⟩
   case measure=>simp[intOf];omega
  ·have hlI:¬((k:Int)<2):=by omega
   clear hpi hno hbl HSH;go_wp2_with fail;go_ret3;exact⟨x1,x2,d1,rfl,c,HPI.out⟩
def vR (i:Nat):Wp.Rq:=⟨86,UInt8.ofNat (97+i),0,0,0,0,0,0,0,⟨#[]⟩,⟨#[]⟩,⟨#[]⟩,⟨#[]⟩,⟨#[]⟩⟩
theorem vR_q (hi:i<8):(vR i).q.toNat=97+i:=UInt8.toNat_ofNat_of_lt' (by show _<256;omega)
theorem vR_wf (i:Nat):Wf (vR i):=Keep.wf_small _ Keep.zz Keep.zz Keep.zz Keep.zz Keep.zz Keep.zz
theorem vR_right (hi:i<8):rightW (vR i) nil0 (Wp.short [])=true:=by
 refine(right_iff _ _ _ (vR_wf i)).2 ⟨21,by decide,rfl,?_,rfl,rfl⟩
 show List.all [0] _=true
 simp only[List.all_cons,List.all_nil,Bool.and_true];have:=vR_q hi;exact Keep.fits_of _ _ _ 0 (by decide) (by decide) (by decide) (show (97:Int)<=((vR i).q.toNat:Int) by omega) (show ((vR i).q.toNat:Int)<=104 by omega)
def vAns (now:Int)(c:Nat->Option QM)(i:Nat):ByteArray:=(doStr now c (printS (vR i) nil0 [])).1
def shw (now:Int)(c:Nat->Option QM):List ByteArray:=(List.range 8).map (vAns now c)
theorem doStr_V (now:Int)(c:Nat->Option QM){i:Nat}(hi:i<8):(doStr now c (printS (vR i) nil0 [])).2=(now,c):=by
 obtain⟨hg,h1,_⟩:=print_good (vR i) nil0 [] (vR_wf i) rfl (vR_right hi);unfold doStr;rw[if_pos hg,h1,if_neg (by show ¬(86:UInt8).toNat=66;decide)];unfold doQ
 show (if (86:UInt8)=84 then _ else _:ByteArray×Int×(Nat->Option QM)).2=_
 cases c (qiR (vR i))<;>rfl
theorem Bk.askV (h:Bk B w x st b now c col)(hE:Env B w)(hi:i<8):
  Calls Tryz.prog 32 #[.pointer (some ⟨x,0,none⟩),.agg (cellsOf (vR i) nil0.v)] w fun e w'=>e=.returned (.string (vAns now c i))/\Did B x st b w col now c w':=by
 have hsz:=good_size _ (print_good (vR i) nil0 [] (vR_wf i) rfl (vR_right hi)).1;refine(asked_walk (fun t w'=>t=vAns now c i/\Did B x st b w col now c w') B (vR i) x w (vR_right hi) hE.lays hE.size (fun W hb=>?_)).mono ?_
 ·have tb:=Tch.of_below hb;have hdo:=do_any B (printS (vR i) nil0 []) x st b now c col W (hE.tch tb (by simp)) (h.tch tb) (by unfold maxLen;omega);rw[doStr_V now c hi]at hdo
  have ev:(doStr now c (printS (vR i) nil0 [])).1=vAns now c i:=rfl;rw[ev]at hdo
  generalize vAns now c i=A at*
  generalize printS (vR i) nil0 []=S at*
  refine hdo.mono ?_;rintro e w' ⟨rfl,col',h2,h3,h4⟩;exact⟨A,rfl,rfl,col',h2,⟨fun k hk=>h3.1 k (Nat.lt_of_lt_of_le hk tb.size),h3.2⟩,(FqT.of_nil col tb hE.size).trans (Agr.refl _ _) h4⟩
 ·rintro e w' ⟨t,rfl,rfl,hd⟩;exact⟨rfl,hd⟩
theorem FqT.tr (h:FqT T B col w W)(h':FqT T B col' W W')(hc:∀k,k<w.heap.size->col' k=col k):FqT T B col w W':=
 ⟨h'.os.trans h.os,h'.tape.trans h.tape,h'.output.trans h.output,Nat.le_trans h.size h'.size,fun k hk=>(h'.low k hk).trans (h.low k hk),fun k C t hk ht=>h'.keep k C t (h.keep k C t hk ht) ht,fun k hk h9=>(h'.out k (Nat.lt_of_lt_of_le hk h.size) ((hc k hk).trans h9)).trans (h.out k hk h9)⟩
structure Shn (B x st b:Nat)(w:World)(col:Nat->Nat)(now:Int)(c:Nat->Option QM)(v:Value)(l:List ByteArray)(col':Nat->Nat)(W:World):Prop where
 bk:Bk B W x st b now c col'
 old:∀k,k<w.heap.size->col' k=col k
 fq:FqT TA B col w W
 own:Dk.OwnS W v l
 new:∀g,v.ownBlock=some g->w.heap.size<=g
 c9:∀g,v.ownBlock=some g->col' g=9
theorem Shn.did (h:Shn B x st b w col now c v l col' W)(hd:Did B x st b W col' now c W'):∃col2,Shn B x st b w col now c v l col2 W':=by
 obtain⟨col2,h1,h2,h3⟩:=hd;have hz:=h.fq.size;obtain⟨S,ht,hS⟩:=h3.chg;exact⟨col2,h1,fun k hk=>(h2.1 k (by omega)).trans (h.old k hk),h.fq.tr h3 h.old,h.own.tch ht (fun g hg hm=>(hS g hm).2 (h3.out g (own_lt h.own hg) (h.c9 g hg))),h.new,fun g hg=>(h2.1 g (own_lt h.own hg)).trans (h.c9 g hg)⟩
theorem Shn.row {v':Value}{l':List ByteArray}(h:Shn B x st b w col now c v l col' W)(hE:Env B W)(ht:Tch v.ownBlock.toList W W')(hty:∀g,v.ownBlock=some g->B<=g)(ho:Dk.OwnS W' v' l')(hn:∀g,v'.ownBlock=some g->v.ownBlock=some g\/W.heap.size<=g):∃col2,Shn B x st b w col now c v' l' col2 W':=by
 have hzw:=h.fq.size;have hz:=ht.size;have hB:=hE.size;have hmem:∀g,g∈v.ownBlock.toList->v.ownBlock=some g:=fun g hg=>by simpa [Option.mem_toList]using hg
 have hkeep:∀(k:Nat) (C:Array Value) (t:TypeId),W.heap[k]?=some (.cells C t (0,0))->t∉TA->W'.heap[k]?=some (.cells C t (0,0)):=fun k C t hk htT=>by
  refine(ht.block k (lt_of_block hk) (fun hm=>htT ?_)).trans hk;have hg:=hmem k hm;rcases h.own.2 with ⟨e,_⟩|⟨g',cap,cur,e,_,hb,_⟩
  ·rw[e]at hg
   cases hg
  ·rw[e]at hg;injection hg with hg;have hg':g'=k:=hg;rw[hg',hk]at hb;simp at hb;rw[hb.2];decide
 have hf:FqT TA B (fun q=>if col' q=9 then 0 else 9) W W':=⟨ht.os,ht.tape,ht.output,hz,fun k hk=>ht.block k (by omega) (fun hm=>by have:=hty k (hmem k hm);omega),hkeep,fun k hk h9=>ht.block k hk (fun hm=>by
  have h1:=h.c9 k (hmem k hm);have h9':(if col' k=9 then 0 else 9)=9:=h9;rw[if_pos h1]at h9'
  cases h9')⟩
 have hbk:=h.bk.oth hf (fun q _ _ h9=>if_neg h9);refine⟨rec9 W W' col',hbk,fun k hk=>(rec9_old (by omega)).trans (h.old k hk),⟨ht.os.trans h.fq.os,ht.tape.trans h.fq.tape,ht.output.trans h.fq.output,by omega,fun k hk=>(ht.block k (by omega) (fun hm=>by have:=hty k (hmem k hm);omega)).trans (h.fq.low k hk),fun k C t hk htT=>hkeep k C t (h.fq.keep k C t hk htT) htT,fun k hk h9=>(ht.block k (by omega) (fun hm=>by have:=h.new k (hmem k hm);omega)).trans (h.fq.out k hk h9)⟩,ho,fun g hg=>?_,fun g hg=>?_⟩
 ·rcases hn g hg with e|e
  ·exact h.new g e
  ·omega
 ·rcases hn g hg with e|e
  ·exact(rec9_old (own_lt h.own e)).trans (h.c9 g e)
  ·exact if_pos ⟨e,own_lt ho hg⟩
theorem Shn.env (h:Shn B x st b w col now c v l col' W)(hE:Env B w):Env B W:=hE.bel h.fq.bel
def vA (k:Nat):Array Value:=#[.int .u8 86,.int .u8 (97+(k:Int)),.int .u8 0,.int .i64 0,.int .i64 0,.int .i64 0,.int .i64 0,.int .i64 0,.int .i64 0,.string ⟨#[]⟩,.string ⟨#[]⟩,.string ⟨#[]⟩,.string ⟨#[]⟩,.string ⟨#[]⟩,.slice none 0 0]
theorem vA_eq {k:Nat}(hk:k<8):cellsOf (vR k) nil0.v=vA k:=by
 have h:=vR_q hk;have e:(((vR k).q.toNat:Nat):Int)=97+(k:Int):=by rw[h];simp
 rw[zM];rw[e];rfl
theorem shown_any (B x st b:Nat)(now:Int)(c:Nat->Option QM)(col:Nat->Nat)(w:World)(hE:Env B w)(hb:Bk B w x st b now c col):
  Calls Tryz.prog 12 #[.pointer (some ⟨x,0,none⟩)] w fun e w'=>∃v col',e=.returned v/\Shn B x st b w col now c v (shw now c) col' w':=by
 have hBw:=hE.size;have H0:Hid (Shn B x st b w col now c (.slice none 0 0) ((List.range 0).map (vAns now c)) col w):=⟨hb,fun _ _=>rfl,FqT.of_nil col (Tch.refl [] w) hBw,Dk.OwnS.nil _,fun g hg=>by simp[Value.ownBlock]at hg,fun g hg=>by simp[Value.ownBlock]at hg⟩
 have HAV:Hid (∀W k v l col',k<8->Shn B x st b w col now c v l col' W->Calls Tryz.prog 32 #[.pointer (some ⟨x,0,none⟩),.agg (vA k)] W fun e w'=>e=.returned (.string (vAns now c k))/\∃col2,Shn B x st b w col now c v l col2 w'):=fun W k v l col' hk h=>by
  rw[<-vA_eq hk];refine(h.bk.askV (h.env hE) hk).mono ?_;rintro e w' ⟨he,hd⟩;exact⟨he,h.did hd⟩
 have HRW:Hid (∀(W W':World) (v v':Value) (l l':List ByteArray) (col':Nat->Nat),Shn B x st b w col now c v l col' W->Tch v.ownBlock.toList W W'->Dk.OwnS W' v' l'->(∀g,v'.ownBlock=some g->v.ownBlock=some g\/W.heap.size<=g)->∃col2,Shn B x st b w col now c v' l' col2 W'):=fun W W' v v' l l' col' h ht ho hn=>h.row (h.env hE) ht (fun g hg=>by have:=h.new g hg;omega) ho hn
 unfold shw;clear hb hE;go_enter Tryz.func12,Tryz.ntmps12;go_wp2_with fail
 go_loopw [3,4] (fun ov iv wr=>∃(k:Nat) (col':Nat->Nat),k<=8/\iv=.int .i64 (k:Int)/\Shn B x st b w col now c ov ((List.range k).map (vAns now c)) col' wr) (fun _ iv _=>8-(intOf iv).toNat)
 case atStart=>exact⟨0,col,by omega,rfl,H0.out⟩
 case round=>
  obtain⟨k,col',hk,rfl,hs⟩:=hrel;have HS:=zH hs;clear H0
  by_cases hlt:k<8
  ·have hkI:(k:Int)<8:=by omega
   have hmI:((k:Int) % 256)=(k:Int):=by omega
   have hwr:IntKind.u8.wrap (97+(k:Int))=97+(k:Int):=by
    rw[IntKind.wrap_u8];omega
   have HC:=zH (HAV.out wr k u3 _ col' hlt hs);have hrs:(List.range (k+1)).map (vAns now c)=(List.range k).map (vAns now c)++[vAns now c k]:=by rw[List.range_succ,List.map_append];rfl
   have hll:((List.range k).map (vAns now c)).length=k:=by simp
   clear hs HAV;generalize vAns now c k=A at*
   generalize (List.range k).map (vAns now c)=L at*
   go_wp2_with fail;refine HC.out.mono ?_;rintro e w2 ⟨rfl,col2,hs2⟩;have H2:=zH hs2;clear hs2 HC HS;go_wp2_with (at_builtin;refine Dk.wpList_strs _ rfl _ _ rfl u3 L rfl (H2.out.own.tch ((Tch.refl [] _).alloc _) (fun _ _=>by simp)) w2.heap.size [A] 1 rfl rfl (by decide) (heap_alloc_new _ _) (by omega) ?_);intro v' w3 ho3 hg3 hb3;have HF:Hid (∃col3,Shn B x st b w col now c v' (L++[A]) col3 w3):=HRW.out w2 w3 u3 v' L (L++[A]) col2 H2.out (((Tch.refl _ w2).alloc _).grown hg3 (fun g hg _=>by simp[hg])) ho3 (fun g hg=>by
    have hal:(w2.alloc (.cells #[.string A] 9)).heap.size=w2.heap.size+1:=by simp
    rcases hb3 with h|h
    ·exact .inl (h.symm.trans hg)
    ·rw[hg]at h;injection h with h;right;omega)
   obtain⟨col3,hs3⟩:=HF.out;have H3:=zH hs3;clear hs3 HF ho3 hg3 hb3 H2;go_wp2_with fail;go_roundw
   case rel=>exact⟨k+1,col3,by omega,by go_num,by rw[hrs];exact H3.out⟩
   case measure=>simp[intOf];omega
  ·have hkI:¬((k:Int)<8):=by omega
   obtain rfl:k=8:=by omega
   clear hs;go_wp2_with fail;go_ret;exact⟨_,rfl,col',HS.out⟩
end Go.Proofs.YtbdobaapadlcjabGreatDoor
namespace Go.Proofs.YtbdobaapadlcjabGreatDoor.Dk
open Go.RowKit
variable {w:World}{t te:TypeId}
def stopL (left:Int)(st:Bool)(n:Int):Int:=if (st||left == 0)=true then left else if n<0 then -1 else n
theorem stop_d (p:Nat)(v:Value)(left:Int)(st:Bool)(n:Int)(w:World)(h:DBlk w p 77 v left st):
  Calls Tryz.prog 16 #[.pointer (some ⟨p,0,none⟩),.int .i64 n] w fun e w'=>e=.returned (.tuple #[])/\DBlk w' p 77 v (stopL left st n) st/\Tch [p] w w'/\w'.heap.size=w.heap.size:=by
 have h0:=h.c0;have h1:=h.c1;have h2:=h.c2;have f1:=h.fz 1;have H:Hid (DBlk w p 77 v left st):=h;clear h;have HST:Hid (Calls Tryz.prog 17 #[.pointer (some ⟨p,0,none⟩)] w fun e w'=>e=.returned (.bool (st||left == 0))/\w'=w):=stopped_d p v left st w H.out
 cases hs:(st||left == 0) with
 | true=>
  rw[show stopL left st n=left by unfold stopL;rw[hs,if_pos rfl]]
  rw[hs]at HST;clear hs;go_enter Tryz.func16,Tryz.ntmps16;go_wp2_with fail;refine HST.out.mono ?_;rintro e w1 ⟨rfl,rfl⟩;go_wp2_with fail;go_end0;exact⟨rfl,H.out,Tch.refl _ _,rfl⟩
 | false=>
  have he:stopL left st n=if n<0 then -1 else n:=by unfold stopL;rw[hs];simp
  rw[hs]at HST;clear hs
  by_cases hn:n<0
  ·rw[if_pos hn]at he;rw[he];go_enter Tryz.func16,Tryz.ntmps16;go_wp2_with fail;refine HST.out.mono ?_;rintro e w1 ⟨rfl,rfl⟩;go_wp2_with fail;go_end0;exact⟨rfl,(by
    have h:=H.out.s1 (max n (-1));rw[show max n (-1)=(-1:Int) by omega]at h ⊢
    exact h),(Tch.refl _ _).setCell (fun _=>by simp) _,by simp⟩
  ·rw[if_neg hn]at he;rw[he];go_enter Tryz.func16,Tryz.ntmps16;go_wp2_with fail;refine HST.out.mono ?_;rintro e w1 ⟨rfl,rfl⟩;go_wp2_with fail;go_end0;exact⟨rfl,(by
    have h:=H.out.s1 (max n (-1));rw[show max n (-1)=n by omega]at h ⊢
    exact h),(Tch.refl _ _).setCell (fun _=>by simp) _,by simp⟩
theorem step_file {ops:Array Oper}{o:Oper}{a:Act}{w:World}{K:Act->World->Prop}{Q:Exit->Act->World->Prop}{E:Prop}(hgd:o.guard=none)(s x:Operand)(t te:TypeId)
  (ho:o.op=.call {callee:=.builtin .append,args:=#[s,x],argTypes:=#[t,t]})(ht:Tryz.prog.underlying t=some (.slice te))
  (hinfo:(Tryz.prog.info? te).map (fun i=>(i.zero,i.size,i.bytes))=some (some (Value.agg #[.string ⟨#[]⟩,.string ⟨#[]⟩,.int .i64 0]),3,40))
  (v:Value)(fs:List DF)(hs:a.eval s=v)(hown:Own w te v fs)(g:Nat)(f:DF)(hx:a.eval x=.slice (some ⟨g,0,none⟩) 1 1)(hg:w.heap[g]?=some (.cells f.arr te (0,0)))(hn:fs.length<=8388608)
  (h:∀v' w',Own w' te v' (fs++[f])->w.grownBy w' v.ownBlock->(v'.ownBlock=v.ownBlock\/v'.ownBlock=some w.heap.size)->K (a.put o.dst v') w'):
  if Region.wanted o (yielded ops a.tmps)=true then Oper.wp Tryz.prog o a w K Q else E:=by
 have hw:Region.wanted o (yielded ops a.tmps)=true:=by simp[Region.wanted,hgd]
 rw[if_pos hw];obtain⟨i0,hi,hz0,hz1,hz2⟩:=info_parts hinfo;obtain⟨v',w',hr,h2,h3,h4⟩:=run_app (P:=Tryz.prog) w 0 t o.type te i0 _ 3 40 ht hi hz0 hz1 hz2 rfl (by decide) v fs.length (rowOf fs) hown ⟨g,0,none⟩ 1 1 f.row rfl (fun j u hj=>by
  have e:(⟨g,0,none⟩:Addr).add j=⟨g,j,none⟩:=by unfold Addr.add;split<;>simp_all
  rw[e,cell_of_row w g j _ te (0,0) hg,<-hj];simp[DF.arr,DF.row]) (fun u hu=>by
  simp only[DF.row,List.mem_cons,List.not_mem_nil,or_false]at hu;rcases hu with rfl|rfl|rfl<;>rfl) (by unfold maxLen;omega) (by omega) (Nat.zero_le _) (by decide)
 unfold Oper.wp execOp;simp only[ho,resolve,invoke,builtin,Sem.run_bind,Sem.run_pure,Result.andThen_ok,List.map_toArray,List.map_cons,List.map_nil,hs,hx,hr];refine h v' w' ?_ h3 h4
 show w'.ownsRow 0 te 3 v' (fs++[f]).length (rowOf (fs++[f]))
 rw[List.length_append,rowOf_app];exact h2
theorem Dsk.swap {w3:World}{p:Nat}{v v':Value}{L:Int}{S:Bool}{FS:List DF}(hB:DBlk w3 p t v L S)(ho:Own w3 te v' FS)(hsep:v'.ownBlock≠some p):Dsk (w3.setCell ⟨p,0,none⟩ v') t te p v' ⟨FS,L,S⟩:=
 ⟨hB.s0 _,ho.tch (S:=[p]) ((Tch.refl _ _).setCell (fun _=>by simp) _) (fun b hb hm=>hsep (by simp at hm;rw[hb,hm])),hsep⟩
def crN (keep:Int)(f:DF):Nat:=if keep<(f.data.size:Int)-(f.safe:Int) then (max keep 0).toNat else f.data.size-f.safe
def crF (keep:Int)(f:DF):DF:=⟨f.name,f.data.extract 0 (f.safe+crN keep f),f.safe+crN keep f⟩
theorem crN_le (keep:Int)(f:DF)(h:f.safe<=f.data.size):f.safe+crN keep f<=f.data.size:=by unfold crN;split<;>omega
theorem crF_size (keep:Int)(f:DF)(h:f.safe<=f.data.size):(f.data.extract 0 (f.safe+crN keep f)).size=f.safe+crN keep f:=by
 have:=crN_le keep f h;simp;omega
theorem grow_new {wr w9:World}{q:Nat}{v1:Value}{R:List DF}{nf:DF}(hD:Dsk wr t te q v1 ⟨R,-1,false⟩)(hT:Tch [] w wr)(hnew:∀b,v1.ownBlock=some b->w.heap.size<=b)(hq:w.heap.size<=q)(ht9:Tch [] wr w9)(o:Obj)(v':Value)(w':World)(ho3:Own w' te v' (R++[nf]))(hg3:(w9.drew.alloc o).grownBy w' v1.ownBlock)
  (hb3:v'.ownBlock=v1.ownBlock\/v'.ownBlock=some (w9.heap.size+1)):
  ∃g4 cap4,v'=.slice (some ⟨g4,0,none⟩) (R++[nf]).length cap4/\w'.cell? ⟨q,0,none⟩=some v1/\w'.frozen? ⟨q,0,none⟩=false/\
   Dsk (w'.setCell ⟨q,0,none⟩ (.slice (some ⟨g4,0,none⟩) (R++[nf]).length cap4)) t te q (.slice (some ⟨g4,0,none⟩) (R++[nf]).length cap4) ⟨R++[nf],-1,false⟩/\Tch [] w (w'.setCell ⟨q,0,none⟩ (.slice (some ⟨g4,0,none⟩) (R++[nf]).length cap4))/\∀b,(Value.slice (some ⟨g4,0,none⟩) (R++[nf]).length cap4).ownBlock=some b->w.heap.size<=b:=by
 have hB9:DBlk w9 q t v1 (-1) false:=hD.blk.tch ht9 (by simp);have hBa:DBlk (w9.drew.alloc o) q t v1 (-1) false:=(Below.heap_alloc _ _ _ hB9.lt).trans hB9;have hBb:DBlk w' q t v1 (-1) false:=(hg3.block q hBa.lt (fun e=>hD.sep e.symm)).trans hBa;have hsz:wr.heap.size<=w9.heap.size:=ht9.size;have hsz0:w.heap.size<=wr.heap.size:=hT.size;have hsep:v'.ownBlock≠some q:=by
  intro e;rcases hb3 with h|h
  ·exact hD.sep (h.symm.trans e)
  ·rw[e]at h;injection h with h;have:=hD.blk.lt;omega
 obtain⟨g4,cap4,hv⟩:=ho3.some (by simp);subst hv;refine⟨g4,cap4,rfl,hBb.c0,hBb.fz 0,Dsk.swap hBb ho3 hsep,?_,fun b hb=>?_⟩
 ·refine Tch.setCell ?_ (fun h=>by simp at h;omega) _;exact((hT.trans ht9 (fun x hx=>by cases hx)).drew.alloc _).grown hg3 (fun b hb hlt=>by have:=hnew b hb;omega)
 ·rcases hb3 with h|h
  ·exact hnew b (h.symm.trans hb)
  ·rw[hb]at h;injection h with h;omega
theorem crash_d (p:Nat)(v:Value)(left:Int)(st:Bool)(fs:List DF)(keep:Int)(w:World)(h:DBlk w p 77 v left st)(ho:Own w 79 v fs)(hn:fs.length<8388608)(hs:∀f∈fs,f.safe<=f.data.size/\f.data.size<=1099511627776)
  (hk1:-9223372036854775808<=keep)(hk2:keep<=9223372036854775807):
  Calls Tryz.prog 15 #[.pointer (some ⟨p,0,none⟩),.int .i64 keep] w fun e w'=>e=.returned (.pointer (some ⟨w.heap.size,0,none⟩))/\∃v',Dsk w' 77 79 w.heap.size v' ⟨fs.map (crF keep),-1,false⟩/\Tch [] w w'/\∀b,v'.ownBlock=some b->w.heap.size<=b:=by
 have h0:=h.c0;obtain⟨a,cap,rfl,hc⟩:=ho.at
 have HC:Hid (∀j (hj:j<fs.length),∃g,a=some ⟨g,0,none⟩/\w.cell? ⟨g,j*3,none⟩=some (.string fs[j].name)/\w.cell? ⟨g,j*3+1,none⟩=some (.string fs[j].data)/\w.cell? ⟨g,j*3+2,none⟩=some (.int .i64 (fs[j].safe:Nat))):=hc;have HB:Hid (DBlk w p 77 (.slice a fs.length cap) left st):=h;clear hc h ho;go_enter Tryz.func15,Tryz.ntmps15;go_wp2_with fail;refine(new_d _).mono ?_;rintro e w1 ⟨rfl,hw1⟩;have hT1:Tch [] w w1:=by rw[hw1];exact(Tch.refl _ _).alloc _
 have hB1:DBlk w1 w.heap.size 77 (.slice none 0 0) (-1) false:=by rw[hw1];exact heap_alloc_new _ _
 have c0:=(hT1.cell HB.out.lt (by simp)).trans h0;have HW1:Hid (Tch [] w w1/\DBlk w1 w.heap.size 77 (.slice none 0 0) (-1) false):=⟨hT1,hB1⟩;clear hT1 hB1 hw1 h0;go_wp2_with fail
 go_loopw [15] (fun i wr=>∃k:Nat,k<=fs.length/\i=.int .i64 k/\∃v1,Dsk wr 77 79 w.heap.size v1 ⟨(fs.take k).map (crF keep),-1,false⟩/\Tch [] w wr/\∀b,v1.ownBlock=some b->w.heap.size<=b) (fun i _=>fs.length-(intOf i).toNat)
 case atStart=>exact⟨0,Nat.zero_le _,rfl,_,⟨HW1.out.2,Own.nil _ _,by simp[Value.ownBlock]⟩,HW1.out.1,fun b hb=>by simp[Value.ownBlock]at hb⟩
 case round=>
  obtain⟨k,hk,rfl,v1,hD,htch,hnew⟩:=hrel;have HD:Hid (Dsk wr 77 79 w.heap.size v1 ⟨(fs.take k).map (crF keep),-1,false⟩/\Tch [] w wr/\∀b,v1.ownBlock=some b->w.heap.size<=b):=⟨hD,htch,hnew⟩
  by_cases hkn:k<fs.length
  ·obtain⟨g,rfl,c1,c2,c3⟩:=HC.out k hkn;have d1:=(htch.cell (World.block_lt_of_cell? _ _ c1) (by simp)).trans c1;have d2:=(htch.cell (World.block_lt_of_cell? _ _ c2) (by simp)).trans c2;have d3:=(htch.cell (World.block_lt_of_cell? _ _ c3) (by simp)).trans c3;have hq0:∀o,(wr.alloc o).cell? ⟨w.heap.size,0,none⟩=some v1:=fun o=>(World.cell?_of_block (Below.heap_alloc _ _ _ hD.blk.lt)).trans hD.blk.c0
   have HTK:Hid ((fs.take (k+1)).map (crF keep)=(fs.take k).map (crF keep)++[crF keep fs[k]]):=by
    show _=_
    rw[List.take_succ_eq_append_getElem hkn,List.map_append];rfl
   have HLN:Hid (((fs.take k).map (crF keep)).length<=8388608):=by
    show _<=_
    rw[List.length_map,List.length_take];omega
   obtain⟨hsf,hds⟩:=hs fs[k] (List.getElem_mem _);obtain⟨a1,cap1,hv1,_⟩:=hD.own.at
   subst hv1;clear c1 c2 c3 hD htch hnew;generalize fs[k]=f at d1 d2 d3 HTK hsf hds;generalize (fs.take k).map (crF keep)=R at HD HTK HLN hq0;have hkl:((k:Int)<(fs.length:Int)):=by omega
   obtain⟨nf,HNF⟩:∃nf:DF,Hid (nf=crF keep f):=⟨_,rfl⟩;have hcr:=crN_le keep f hsf;have hcz:=crF_size keep f hsf;rw[<-HNF.out]at HTK;have hwsub:wrap64 ((f.data.size:Int)-(f.safe:Int))=(f.data.size:Int)-(f.safe:Int):=by simp[wrap64];omega
   by_cases hlt:keep<(f.data.size:Int)-(f.safe:Int)
   ·by_cases hk0:0<=keep
    ·obtain⟨m,rfl⟩:∃m:Nat,keep=(m:Int):=⟨keep.toNat,by omega⟩;have hN:crN (m:Int) f=m:=by unfold crN;rw[if_pos hlt];omega
     rw[hN]at hcr hcz;have hwadd:wrap64 ((f.safe:Int)+(m:Int))=(f.safe:Int)+(m:Int):=by simp[wrap64];omega
     have hmx:max (m:Int) 0=(m:Int):=by omega
     have HE:Hid (nf=⟨f.name,f.data.extract 0 (f.safe+m),f.safe+m⟩):=by rw[HNF.out];unfold crF;rw[hN];rfl
     go_wp2_with fail;have HT9:Hid (Tch [] wr (wr.alloc (.cells #[.string f.name,.string (f.data.extract 0 (f.safe+m)),.int .i64 ((f.safe:Int)+(m:Int))] 79))/\(wr.alloc (.cells #[.string f.name,.string (f.data.extract 0 (f.safe+m)),.int .i64 ((f.safe:Int)+(m:Int))] 79)).heap[wr.heap.size]?=some (.cells nf.arr 79 (0,0))):=⟨(Tch.refl _ _).alloc _,by rw[HE.out];exact heap_alloc_new _ _⟩;generalize wr.alloc (.cells #[.string f.name,.string (f.data.extract 0 (f.safe+m)),.int .i64 ((f.safe:Int)+(m:Int))] 79)=w9 at HT9;have c9:w9.cell? ⟨w.heap.size,0,none⟩=some (.slice a1 R.length cap1):=(HT9.out.1.cell HD.out.1.blk.lt (by simp)).trans HD.out.1.blk.c0;have c9a:∀o,(w9.alloc o).cell? ⟨w.heap.size,0,none⟩=some (.slice a1 R.length cap1):=fun o=>(World.cell?_of_block (Below.heap_alloc _ _ _ (Nat.lt_of_lt_of_le HD.out.1.blk.lt HT9.out.1.size))).trans c9
     have e0:w9.cell? ⟨wr.heap.size,0,none⟩=some (.string nf.name):=(cell_of_row _ _ 0 _ 79 (0,0) HT9.out.2).trans rfl;have e1:w9.cell? ⟨wr.heap.size,1,none⟩=some (.string nf.data):=(cell_of_row _ _ 1 _ 79 (0,0) HT9.out.2).trans rfl;have e2:w9.cell? ⟨wr.heap.size,2,none⟩=some (.int .i64 (nf.safe:Nat)):=(cell_of_row _ _ 2 _ 79 (0,0) HT9.out.2).trans rfl;clear hq0
     go_region_law (refine step_file rfl (.tmp 46) (.tmp 48) 75 79 rfl Tryz.underlying75 info81 (.slice a1 R.length cap1) R (by simp[Act.eval,Act.put]) (HD.out.1.own.tch (S:=[]) ((HT9.out.1.drew).alloc _) (fun _ _=>by simp)) w9.heap.size nf (by simp[Act.eval,Act.put]) (heap_alloc_new _ _) HLN.out ?_;intro v' wa ho3 hg3 hb3;obtain⟨g4,cap4,hv4,ca,za,hfin⟩:=grow_new HD.out.1 HD.out.2.1 HD.out.2.2 (Nat.le_refl _) HT9.out.1 _ v' wa ho3 hg3 (by simpa using hb3);subst hv4;clear ho3 hg3 hb3;have HFIN:Hid (Dsk (wa.setCell ⟨w.heap.size,0,none⟩ (.slice (some ⟨g4,0,none⟩) (R++[nf]).length cap4)) 77 79 w.heap.size (.slice (some ⟨g4,0,none⟩) (R++[nf]).length cap4) ⟨R++[nf],-1,false⟩/\Tch [] w (wa.setCell ⟨w.heap.size,0,none⟩ (.slice (some ⟨g4,0,none⟩) (R++[nf]).length cap4))/\∀b,(Value.slice (some ⟨g4,0,none⟩) (R++[nf]).length cap4).ownBlock=some b->w.heap.size<=b):=hfin;clear hfin;rw[show (R++[nf]).length=R.length+1 by simp]at HFIN ⊢)
     all_goals go_wp2_with fail
     all_goals go_roundw
     all_goals first|exact⟨k+1,by omega,by go_num,_,by rw[HTK.out];exact HFIN.out.1,HFIN.out.2.1,HFIN.out.2.2⟩|(simp[intOf];omega)
    ·have hN:crN keep f=0:=by unfold crN;rw[if_pos hlt];omega
     rw[hN,Nat.add_zero]at hcr hcz;have hmx:max keep 0=0:=by omega
     have hwadd:wrap64 (f.safe:Int)=(f.safe:Int):=by simp[wrap64];omega
     have HE:Hid (nf=⟨f.name,f.data.extract 0 f.safe,f.safe⟩):=by rw[HNF.out];unfold crF;rw[hN];rfl
     go_wp2_with fail;have HT9:Hid (Tch [] wr (wr.alloc (.cells #[.string f.name,.string (f.data.extract 0 f.safe),.int .i64 (f.safe:Int)] 79))/\(wr.alloc (.cells #[.string f.name,.string (f.data.extract 0 f.safe),.int .i64 (f.safe:Int)] 79)).heap[wr.heap.size]?=some (.cells nf.arr 79 (0,0))):=⟨(Tch.refl _ _).alloc _,by rw[HE.out];exact heap_alloc_new _ _⟩;generalize wr.alloc (.cells #[.string f.name,.string (f.data.extract 0 f.safe),.int .i64 (f.safe:Int)] 79)=w9 at HT9;have c9:w9.cell? ⟨w.heap.size,0,none⟩=some (.slice a1 R.length cap1):=(HT9.out.1.cell HD.out.1.blk.lt (by simp)).trans HD.out.1.blk.c0;have c9a:∀o,(w9.alloc o).cell? ⟨w.heap.size,0,none⟩=some (.slice a1 R.length cap1):=fun o=>(World.cell?_of_block (Below.heap_alloc _ _ _ (Nat.lt_of_lt_of_le HD.out.1.blk.lt HT9.out.1.size))).trans c9
     have e0:w9.cell? ⟨wr.heap.size,0,none⟩=some (.string nf.name):=(cell_of_row _ _ 0 _ 79 (0,0) HT9.out.2).trans rfl;have e1:w9.cell? ⟨wr.heap.size,1,none⟩=some (.string nf.data):=(cell_of_row _ _ 1 _ 79 (0,0) HT9.out.2).trans rfl;have e2:w9.cell? ⟨wr.heap.size,2,none⟩=some (.int .i64 (nf.safe:Nat)):=(cell_of_row _ _ 2 _ 79 (0,0) HT9.out.2).trans rfl;clear hq0
     go_region_law (refine step_file rfl (.tmp 46) (.tmp 48) 75 79 rfl Tryz.underlying75 info81 (.slice a1 R.length cap1) R (by simp[Act.eval,Act.put]) (HD.out.1.own.tch (S:=[]) ((HT9.out.1.drew).alloc _) (fun _ _=>by simp)) w9.heap.size nf (by simp[Act.eval,Act.put]) (heap_alloc_new _ _) HLN.out ?_;intro v' wa ho3 hg3 hb3;obtain⟨g4,cap4,hv4,ca,za,hfin⟩:=grow_new HD.out.1 HD.out.2.1 HD.out.2.2 (Nat.le_refl _) HT9.out.1 _ v' wa ho3 hg3 (by simpa using hb3);subst hv4;clear ho3 hg3 hb3;have HFIN:Hid (Dsk (wa.setCell ⟨w.heap.size,0,none⟩ (.slice (some ⟨g4,0,none⟩) (R++[nf]).length cap4)) 77 79 w.heap.size (.slice (some ⟨g4,0,none⟩) (R++[nf]).length cap4) ⟨R++[nf],-1,false⟩/\Tch [] w (wa.setCell ⟨w.heap.size,0,none⟩ (.slice (some ⟨g4,0,none⟩) (R++[nf]).length cap4))/\∀b,(Value.slice (some ⟨g4,0,none⟩) (R++[nf]).length cap4).ownBlock=some b->w.heap.size<=b):=hfin;clear hfin;rw[show (R++[nf]).length=R.length+1 by simp]at HFIN ⊢)
     all_goals go_wp2_with fail
     all_goals go_roundw
     all_goals first|exact⟨k+1,by omega,by go_num,_,by rw[HTK.out];exact HFIN.out.1,HFIN.out.2.1,HFIN.out.2.2⟩|(simp[intOf];omega)
   ·have hN:crN keep f=f.data.size-f.safe:=by unfold crN;rw[if_neg hlt]
    have hwadd:wrap64 ((f.safe:Int)+((f.data.size:Int)-(f.safe:Int)))=(f.data.size:Int):=by simp[wrap64];omega
    have HE:Hid (nf=⟨f.name,f.data,f.data.size⟩):=by
     show _=_
     rw[HNF.out];unfold crF;rw[hN,show f.safe+(f.data.size-f.safe)=f.data.size by omega]
     simp
    have hge:0<=(f.data.size:Int)-(f.safe:Int):=by omega
    go_wp2_with fail;have HT9:Hid (Tch [] wr (wr.alloc (.cells #[.string f.name,.string f.data,.int .i64 (f.data.size:Nat)] 79))/\(wr.alloc (.cells #[.string f.name,.string f.data,.int .i64 (f.data.size:Nat)] 79)).heap[wr.heap.size]?=some (.cells nf.arr 79 (0,0))):=⟨(Tch.refl _ _).alloc _,by rw[HE.out];exact heap_alloc_new _ _⟩;generalize wr.alloc (.cells #[.string f.name,.string f.data,.int .i64 (f.data.size:Nat)] 79)=w9 at HT9;have c9:w9.cell? ⟨w.heap.size,0,none⟩=some (.slice a1 R.length cap1):=(HT9.out.1.cell HD.out.1.blk.lt (by simp)).trans HD.out.1.blk.c0;have c9a:∀o,(w9.alloc o).cell? ⟨w.heap.size,0,none⟩=some (.slice a1 R.length cap1):=fun o=>(World.cell?_of_block (Below.heap_alloc _ _ _ (Nat.lt_of_lt_of_le HD.out.1.blk.lt HT9.out.1.size))).trans c9
    have e0:w9.cell? ⟨wr.heap.size,0,none⟩=some (.string nf.name):=(cell_of_row _ _ 0 _ 79 (0,0) HT9.out.2).trans rfl;have e1:w9.cell? ⟨wr.heap.size,1,none⟩=some (.string nf.data):=(cell_of_row _ _ 1 _ 79 (0,0) HT9.out.2).trans rfl;have e2:w9.cell? ⟨wr.heap.size,2,none⟩=some (.int .i64 (nf.safe:Nat)):=(cell_of_row _ _ 2 _ 79 (0,0) HT9.out.2).trans rfl;clear hq0
    go_region_law (refine step_file rfl (.tmp 46) (.tmp 48) 75 79 rfl Tryz.underlying75 info81 (.slice a1 R.length cap1) R (by simp[Act.eval,Act.put]) (HD.out.1.own.tch (S:=[]) ((HT9.out.1.drew).alloc _) (fun _ _=>by simp)) w9.heap.size nf (by simp[Act.eval,Act.put]) (heap_alloc_new _ _) HLN.out ?_;intro v' wa ho3 hg3 hb3;obtain⟨g4,cap4,hv4,ca,za,hfin⟩:=grow_new HD.out.1 HD.out.2.1 HD.out.2.2 (Nat.le_refl _) HT9.out.1 _ v' wa ho3 hg3 (by simpa using hb3);subst hv4;clear ho3 hg3 hb3;have HFIN:Hid (Dsk (wa.setCell ⟨w.heap.size,0,none⟩ (.slice (some ⟨g4,0,none⟩) (R++[nf]).length cap4)) 77 79 w.heap.size (.slice (some ⟨g4,0,none⟩) (R++[nf]).length cap4) ⟨R++[nf],-1,false⟩/\Tch [] w (wa.setCell ⟨w.heap.size,0,none⟩ (.slice (some ⟨g4,0,none⟩) (R++[nf]).length cap4))/\∀b,(Value.slice (some ⟨g4,0,none⟩) (R++[nf]).length cap4).ownBlock=some b->w.heap.size<=b):=hfin;clear hfin;rw[show (R++[nf]).length=R.length+1 by simp]at HFIN ⊢)
    all_goals go_wp2_with fail
    all_goals go_roundw
    all_goals first|exact⟨k+1,by omega,by go_num,_,by rw[HTK.out];exact HFIN.out.1,HFIN.out.2.1,HFIN.out.2.2⟩|(simp[intOf];omega)
  ·have hkl:¬((k:Int)<(fs.length:Int)):=by omega
   rw[List.take_of_length_le (by omega)]at HD;clear hD htch hnew;go_wp2_with fail;go_ret;exact⟨rfl,_,HD.out⟩
end Go.Proofs.YtbdobaapadlcjabGreatDoor.Dk
