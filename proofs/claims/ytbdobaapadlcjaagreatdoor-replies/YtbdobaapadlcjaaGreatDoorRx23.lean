import Derived.Test.YtbdobaapadlcjaaGreatDoorRows
import Derived.Deep.Strs
import Derived.Test.YtbdobaapadlcjaaGreatDoorRx19
set_option maxRecDepth 100000
set_option maxHeartbeats 2000000
set_option linter.unusedVariables false
set_option linter.unusedSimpArgs false
namespace Go.Proofs.YtbdobaapadlcjaaGreatDoor
open Go.RowKit
variable {B:Nat}{w:World}
theorem Env.fq {T:List TypeId}{c:Nat->Nat}{w':World}(h:Env B w)(hf:FqT T B c w w'):Env B w':=
 h.fr (T:=T++[9]) ⟨hf.os,hf.tape,hf.output,hf.size,hf.low,fun k C t hk ht=>hf.keep k C t hk (fun hm=>ht (List.mem_append.2 (.inl hm)))⟩
theorem do_g (K:ByteArray->World->Prop)(B:Nat)(r:Wp.Rq)(x st b:Nat)(now:Int)(c:Nat->Option QM)(col:Nat->Nat)(w:World)(hE:Env B w)(hb:Bk B w x st b now c col)(hw:Wf r)(hright:rightW r nil0 (Wp.short [])=true)(hsm:(printS r nil0 []).size<=90000)
  (hP:∀Z o room,SG B w st b now Z col->ctZ Z=c->∀(W:World) (y:Sl),Tch [] w W->Calls Tryz.prog 62 #[.pointer (some ⟨st,0,none⟩),.agg (cellsOf r y.v)] W fun e w'=>Tch [] W w'/\PlG B (fun w'=>JgO B w col w' x st o room) K e w')(W:World)(hbW:Below w.heap.size w W):
  Calls Tryz.prog 34 #[.pointer (some ⟨x,0,none⟩),.string (printS r nil0 [])] W fun e w'=>∃t,e=.returned (.string t)/\K t w':=by
 obtain⟨⟨Z,hs,hc⟩,hwf,hnw,⟨o,room,hJ⟩,hfu⟩:=hb;obtain⟨hg,hr,_⟩:=print_good r nil0 [] hw rfl hright;have tb:=Tch.of_below hbW;have hsW:=hs.tch tb;have hEW:=hE.tch tb (by simp);have hOk:∀i x,i<8->Z i=some x->QOk x.Q:=fun i x hi hx=>(hwf i x.Q hi (by rw[<-hc];exact ctZ_some hx)).ok
 refine bdo_g K B o room ⟨(wholeB now Z).toArray⟩ (printS r nil0 []) r x st _ col W (fun k hk=>hfu k (Nat.le_trans tb.size hk)) hsm hEW.lays hEW.tab hEW.size hEW.three hg hr (hJ.tch tb) (by rw[rec_sz];have:=wholeB_len (now:=now) hOk;omega) hsW.stb (fun W1 hf1=>?_) ?_
 ·exact whole_any B st b now Z col W1 (hsW.fr hf1 (by decide) (by decide) (by decide)) ⟨hnw.1,by have:=hnw.2;omega⟩ hOk
 ·intro W1 y ht1;exact(hP Z _ _ hs hc W1 y (tb.trans ht1 (by simp))).mono (fun e w' he=>⟨he.1,he.2.mono (fun w3 hj=>⟨hj.1,fun k hk h9=>(hj.2 k (Nat.lt_of_lt_of_le hk tb.size) h9).trans (tb.block k hk (by simp))⟩)⟩)
theorem Opn.bk {x st b j d:Nat}(h:Opn B w x st b j d (.slice none 0 0))(hd:B<=d)(col:Nat->Nat)(hcl:∀k,B<=k->col k≠9)(hB:B<=w.heap.size):Bk B w x st b 0 (fun _=>none) col:=by
 refine⟨⟨fun _=>none,⟨h.brk.hst,h.brk.tb,fun i x _ hx=>by simp at hx,fun i x _ hx=>by simp at hx,fun i x _ hx=>by simp at hx,h.lo.2.1,hcl st h.lo.2.1⟩,rfl⟩,fun i Q _ hQ=>by simp at hQ,⟨by omega,by omega⟩,⟨none,0,j,d,.slice none 0 0,0,0,h.hx,h.jr,fun k hk=>?_,?_,fun k hk=>?_⟩,fun k hk=>hcl k (Nat.le_trans hB hk)⟩
 ·simp[jbl,Dk.bl,Value.ownBlock]at hk;rcases hk with rfl|rfl
  ·exact h.lo.2.2.1
  ·exact hd
 ·show ((0:Nat):Int)+0<=400000/\_
  omega
 ·simp[jbl,Dk.bl,Value.ownBlock]at hk;rcases hk with rfl|rfl
  ·exact hcl _ h.lo.2.2.1
  ·exact hcl _ hd
end Go.Proofs.YtbdobaapadlcjaaGreatDoor
namespace Go.Proofs.YtbdobaapadlcjaaGreatDoor.Keep
open Go.ChangeShapes Go.WideShapes Go.ChangeAt Go.RowKit
variable {W:World}{n:Nat}
theorem addr_at (b o j:Nat):(⟨b,o,none⟩:Addr).add j=⟨b,o+j,none⟩:=by unfold Addr.add;split<;>simp_all
theorem cells5:Tryz.prog.cellsOf 5=1:=by kernel_rfl
theorem cells3:Tryz.prog.cellsOf 3=1:=by kernel_rfl
theorem cells9:Tryz.prog.cellsOf 9=1:=by kernel_rfl
theorem cells28:Tryz.prog.cellsOf 25=1:=by kernel_rfl
theorem cells37:Tryz.prog.cellsOf 27=15:=by kernel_rfl
theorem byte_of (z:Int)(h:0<=z/\z<=255):∃c:UInt8,z=(c.toNat:Int):=by
 refine⟨UInt8.ofNat z.toNat,?_⟩;rw[UInt8.toNat_ofNat_of_lt' (by show _<256;omega)];omega
theorem strs_of {a:Addr}{len:Nat}{ss:List ByteArray}(hl:len<=ss.length)(h:∀i,i<ss.length->W.cell? (a.add i)=some (.string (ss.getD i ByteArray.empty))):Strs W (some a) (ss.take len):=by
 intro j hj;have hj':j<ss.length:=by rw[List.length_take]at hj;omega
 have h0:=h 0 (by omega);have hs:a.spot=none:=by
  have e:a.add 0=a:=by unfold Addr.add;rw[if_pos rfl]
  rw[e]at h0;unfold World.cell? at h0
  split at h0
  ·cases hsp:a.spot with
   | none=>rfl
   | some x=>simp[hsp]at h0
  ·simp at h0
 obtain⟨b,o,sp⟩:=a;simp only at hs;subst hs;refine⟨b,o,rfl,?_⟩;have h2:=h j hj';rw[addr_at]at h2;rw[h2,List.getElem_take];simp[hj']
theorem list15 {α:Type}{cs:List α}(h:cs.length=15):∃c0 c1 c2 c3 c4 c5 c6 c7 c8 c9 c10 c11 c12 c13 c14,cs=[c0,c1,c2,c3,c4,c5,c6,c7,c8,c9,c10,c11,c12,c13,c14]:=by
 match cs,h with
 | [c0,c1,c2,c3,c4,c5,c6,c7,c8,c9,c10,c11,c12,c13,c14],_=>exact⟨c0,c1,c2,c3,c4,c5,c6,c7,c8,c9,c10,c11,c12,c13,c14,rfl⟩
theorem trod_fld {H:Type}{enc:TypeId×Value->H}{m off:Nat}{xs:List (DataW H×List MemPlace)}{t:TypeId}{cs:List Value}(k:Nat)(hl:k<xs.length)(hc:Tryz.prog.cellsOf t=m)(c:List Value)(ht:(cs.drop off).take m=c)(h:DataW.trod enc Tryz.prog W 0 (fun _=>true) true n t ((cs.drop off).take (Tryz.prog.cellsOf t))=xs[k]?):DataW.trod enc Tryz.prog W 0 (fun _=>true) true n t c=some xs[k]:=by
 rw[<-ht,<-hc,h,List.getElem?_eq_getElem hl]
theorem open_cells {H:Type}{enc:TypeId×Value->H}{cs:List Value}{y:DataW H×List MemPlace}(hl:cs.length=15)(h:DataW.trod enc Tryz.prog W 0 (fun _=>true) true n 27 cs=some y):
  ∃(r:Wp.Rq) (xa:Option Addr) (xc:Nat) (bs:List ByteArray),cs=(cellsOf r (.slice xa bs.length xc)).toList/\Wf r/\Szs r/\bs.length<=maxLen/\(∀s∈bs,s.size<=maxLen)/\Strs W xa bs:=by
 obtain⟨c0,c1,c2,c3,c4,c5,c6,c7,c8,c9,c10,c11,c12,c13,c14,rfl⟩:=list15 hl;obtain⟨xs,n,_,_,_,hlen,hfd⟩:=DataW.trod_struct Tryz.underlying27 h;have hlen':xs.length=15:=hlen;have h0:=trod_fld (off:=0) 0 (by omega) cells5 [c0] rfl (hfd 0 _ rfl);have h1:=trod_fld (off:=1) 1 (by omega) cells5 [c1] rfl (hfd 1 _ rfl);have h2:=trod_fld (off:=2) 2 (by omega) cells5 [c2] rfl (hfd 2 _ rfl);have h3:=trod_fld (off:=3) 3 (by omega) cells3 [c3] rfl (hfd 3 _ rfl);have h4:=trod_fld (off:=4) 4 (by omega) cells3 [c4] rfl (hfd 4 _ rfl);have h5:=trod_fld (off:=5) 5 (by omega) cells3 [c5] rfl (hfd 5 _ rfl);have h6:=trod_fld (off:=6) 6 (by omega) cells3 [c6] rfl (hfd 6 _ rfl);have h7:=trod_fld (off:=7) 7 (by omega) cells3 [c7] rfl (hfd 7 _ rfl);have h8:=trod_fld (off:=8) 8 (by omega) cells3 [c8] rfl (hfd 8 _ rfl);have h9:=trod_fld (off:=9) 9 (by omega) cells9 [c9] rfl (hfd 9 _ rfl);have h10:=trod_fld (off:=10) 10 (by omega) cells9 [c10] rfl (hfd 10 _ rfl);have h11:=trod_fld (off:=11) 11 (by omega) cells9 [c11] rfl (hfd 11 _ rfl);have h12:=trod_fld (off:=12) 12 (by omega) cells9 [c12] rfl (hfd 12 _ rfl);have h13:=trod_fld (off:=13) 13 (by omega) cells9 [c13] rfl (hfd 13 _ rfl);have h14:=trod_fld (off:=14) 14 (by omega) cells28 [c14] rfl (hfd 14 _ rfl);obtain⟨z0,e0,_,w0⟩:=DataW.trod_int Tryz.underlying5 h0;obtain⟨b0,q0⟩:=byte_of z0 (bounds_u8 w0);obtain⟨z1,e1,_,w1⟩:=DataW.trod_int Tryz.underlying5 h1;obtain⟨b1,q1⟩:=byte_of z1 (bounds_u8 w1);obtain⟨z2,e2,_,w2⟩:=DataW.trod_int Tryz.underlying5 h2;obtain⟨b2,q2⟩:=byte_of z2 (bounds_u8 w2);obtain⟨z3,e3,_,w3⟩:=DataW.trod_int Tryz.underlying3 h3;obtain⟨z4,e4,_,w4⟩:=DataW.trod_int Tryz.underlying3 h4;obtain⟨z5,e5,_,w5⟩:=DataW.trod_int Tryz.underlying3 h5;obtain⟨z6,e6,_,w6⟩:=DataW.trod_int Tryz.underlying3 h6;obtain⟨z7,e7,_,w7⟩:=DataW.trod_int Tryz.underlying3 h7;obtain⟨z8,e8,_,w8⟩:=DataW.trod_int Tryz.underlying3 h8;obtain⟨s9,e9,_,w9⟩:=DataW.trod_string Tryz.underlying9 h9;obtain⟨s10,e10,_,w10⟩:=DataW.trod_string Tryz.underlying9 h10;obtain⟨s11,e11,_,w11⟩:=DataW.trod_string Tryz.underlying9 h11;obtain⟨s12,e12,_,w12⟩:=DataW.trod_string Tryz.underlying9 h12;obtain⟨s13,e13,_,w13⟩:=DataW.trod_string Tryz.underlying9 h13;have f0:=List.singleton_inj.1 e0;have f1:=List.singleton_inj.1 e1;have f2:=List.singleton_inj.1 e2;have f3:=List.singleton_inj.1 e3;have f4:=List.singleton_inj.1 e4;have f5:=List.singleton_inj.1 e5;have f6:=List.singleton_inj.1 e6;have f7:=List.singleton_inj.1 e7;have f8:=List.singleton_inj.1 e8;have f9:=List.singleton_inj.1 e9;have f10:=List.singleton_inj.1 e10;have f11:=List.singleton_inj.1 e11;have f12:=List.singleton_inj.1 e12;have f13:=List.singleton_inj.1 e13;subst f0 f1 f2 f3 f4 f5 f6 f7 f8 f9 f10 f11 f12 f13 q0 q1 q2;have hwf:Wf (⟨b0,b1,b2,z3,z4,z5,z6,z7,z8,s9,s10,s11,s12,s13⟩:Wp.Rq):=⟨bounds_i64 w3,bounds_i64 w4,bounds_i64 w5,bounds_i64 w6,bounds_i64 w7,bounds_i64 w8⟩;have hszs:Szs (⟨b0,b1,b2,z3,z4,z5,z6,z7,z8,s9,s10,s11,s12,s13⟩:Wp.Rq):=⟨w9,w10,w11,w12,w13⟩;rcases open_strings Tryz.underlying25 Tryz.underlying9 cells9 h14 with ⟨hcs,_⟩|⟨a,len,cap,ss,hcs,_,hl,hm,hz,_,hcell,hws⟩
 ·have f14:=List.singleton_inj.1 hcs;subst f14;exact⟨⟨b0,b1,b2,z3,z4,z5,z6,z7,z8,s9,s10,s11,s12,s13⟩,none,0,[],rfl,hwf,hszs,by decide,fun s hs=>by simp at hs,fun j hj=>absurd hj (by simp)⟩
 ·have f14:=List.singleton_inj.1 hcs;subst f14;have hss:ss.length=cap:=hz;have hlt:(ss.take len).length=len:=by rw[List.length_take];omega
  refine⟨⟨b0,b1,b2,z3,z4,z5,z6,z7,z8,s9,s10,s11,s12,s13⟩,some a,cap,ss.take len,?_,hwf,hszs,by omega,fun s hs=>hws s (List.mem_of_mem_take hs),strs_of (by omega) hcell⟩
  rw[hlt];rfl
end Go.Proofs.YtbdobaapadlcjaaGreatDoor.Keep
namespace Go.Proofs.YtbdobaapadlcjaaGreatDoor.Keep
open Go.ChangeShapes Go.WideShapes Go.ChangeAt Go.RowKit Go.Deep
variable {W:World}
theorem gLay : Tryz.prog.globalNamed "wharf/wire.layouts" = some 0 := by kernel_rfl
theorem gLayT:(Tryz.prog.globals[0]?).map (·.type)=some 138:=by kernel_rfl
theorem gRow : Tryz.prog.globalNamed "wharf/wire.rows" = some 1 := by kernel_rfl
theorem gRowT:(Tryz.prog.globals[1]?).map (·.type)=some 175:=by kernel_rfl
theorem cells95:Tryz.prog.cellsOf 137=1:=by kernel_rfl
theorem cells97:Tryz.prog.cellsOf 139=1:=by kernel_rfl
theorem cells116:Tryz.prog.cellsOf 173=1:=by kernel_rfl
theorem cells117:Tryz.prog.cellsOf 174=3:=by kernel_rfl
def dat (l:List Nat):DataW Unit:=if l=[] then .nil else .slice (l.map fun (f:Nat)=>DataW.lit (.int .i64 (f:Int))) []
theorem laid_lay (i:Nat)(hi:i<26):∀l,(Rows.laid_wharf_wire_layouts (H:=Unit))=.agg l->l[i]?=some (dat (Wp.lay i)):=by
 intro l hl;injection hl with hl;subst hl;have hx:i=0\/i=1\/i=2\/i=3\/i=4\/i=5\/i=6\/i=7\/i=8\/i=9\/i=10\/i=11\/i=12\/i=13\/i=14\/i=15\/i=16\/i=17\/i=18\/i=19\/i=20\/i=21\/i=22\/i=23\/i=24\/i=25:=by omega
 rcases hx with rfl|rfl|rfl|rfl|rfl|rfl|rfl|rfl|rfl|rfl|rfl|rfl|rfl|rfl|rfl|rfl|rfl|rfl|rfl|rfl|rfl|rfl|rfl|rfl|rfl|rfl<;>rfl
theorem laid_row (i:Nat)(hi:i<15):∀l,(Rows.laid_wharf_wire_rows (H:=Unit))=.agg l->l[i]?=some (.agg [.lit (.int .i64 (Wp.rowTab.getD (3*i) 0)),.lit (.int .i64 (Wp.rowTab.getD (3*i+1) 0)),.lit (.int .i64 (Wp.rowTab.getD (3*i+2) 0))]):=by
 intro l hl;injection hl with hl;subst hl;have hx:i=0\/i=1\/i=2\/i=3\/i=4\/i=5\/i=6\/i=7\/i=8\/i=9\/i=10\/i=11\/i=12\/i=13\/i=14:=by omega
 rcases hx with rfl|rfl|rfl|rfl|rfl|rfl|rfl|rfl|rfl|rfl|rfl|rfl|rfl|rfl|rfl<;>rfl
theorem lits_nat (zs:List Int)(l:List Nat)(h:(lits .i64 zs:List (DataW Unit))=l.map fun (f:Nat)=>DataW.lit (.int .i64 (f:Int))):zs=l.map fun (f:Nat)=>(f:Int):=by
 induction l generalizing zs with
 | nil=>
  cases zs with
  | nil=>rfl
  | cons z zs=>simp[lits]at h
 | cons f l ih=>
  cases zs with
  | nil=>simp[lits]at h
  | cons z zs=>
   simp only[lits,List.map_cons,List.cons.injEq,DataW.lit.injEq,Lit.int.injEq,true_and]at h;rw[List.map_cons,h.1,ih zs h.2]
theorem addr_spot {a:Addr}{v:Value}(h:W.cell? a=some v):a.spot=none:=by
 unfold World.cell? at h
 split at h
 ·cases hsp:a.spot with
  | none=>rfl
  | some x=>simp[hsp]at h
 ·simp at h
theorem lays_of {rest : List (String × DataW Unit)} (h2s : 2 < W.heap.size) (h : laidMet Tryz.prog (("wharf/wire.layouts", Rows.laid_wharf_wire_layouts) :: ("wharf/wire.rows", Rows.laid_wharf_wire_rows) :: rest) W) : Lays W.heap.size W := by
 obtain⟨ps,⟨g,t,cs,fuel,p,q,hg,ht,hvar,hd,⟨g2,t2,cs2,fuel2,p2,q2,hg2,ht2,hvar2,hd2,_,_⟩,_⟩,_⟩:=h;obtain rfl:=Option.some.inj (gLay.symm.trans hg);obtain rfl:=Option.some.inj (gLayT.symm.trans ht);obtain rfl:=Option.some.inj (gRow.symm.trans hg2);obtain rfl:=Option.some.inj (gRowT.symm.trans ht2);have hrow:∀i,i<45->W.cell? ⟨1,i,none⟩=some (.int .i64 (Wp.rowTab.getD i 0)):=by
  obtain⟨xs,m,_,hx,hl,hlen,hel⟩:=DataW.trod_array Tryz.underlying175 hd2;intro i hi;have hi3:i / 3<15:=by omega
  have h1:=hel (i / 3) hi3;rw[cells117,List.getElem?_eq_getElem (by omega)]at h1;obtain⟨y0,y1,y2,n,hy,_,a0,a1,a2⟩:=trod_struct3 Tryz.underlying174 h1;have hdat:=laid_row (i / 3) hi3 _ (congrArg Prod.fst hx);rw[List.getElem?_map,List.getElem?_eq_getElem (by omega)]at hdat
  have hdat2:=Option.some.inj hdat
  rw[hy]at hdat2;injection hdat2 with hdat3;simp only[List.cons.injEq,and_true]at hdat3;obtain⟨z0,e0,f0,_⟩:=DataW.trod_int Tryz.underlying173 a0;obtain⟨z1,e1,f1,_⟩:=DataW.trod_int Tryz.underlying3 a1;obtain⟨z2,e2,f2,_⟩:=DataW.trod_int Tryz.underlying3 a2;rw[f0,f1,f2]at hdat3;simp only[DataW.lit.injEq,Lit.int.injEq,true_and]at hdat3;have hc2:W.cell? ⟨1,i,none⟩=cs2[i]?:=World.var?_cell gRow hvar2 i;rw[hc2];have hmod:i=i / 3*3\/i=i / 3*3+1\/i=i / 3*3+2:=by omega
  rcases hmod with hm|hm|hm
  ·have e:=congrArg (·[0]?) e0;simp[cells116]at e;rw[hm,e,hdat3.1];rw[Nat.mul_comm 3 (i / 3)]
  ·have e:=congrArg (·[0]?) e1;simp[cells3]at e;rw[hm,e,hdat3.2.1];rw[Nat.mul_comm 3 (i / 3)]
  ·have e:=congrArg (·[0]?) e2;simp[cells3]at e;rw[hm,e,hdat3.2.2];rw[Nat.mul_comm 3 (i / 3)]
 refine⟨?_,hrow,?_⟩
 ·exact h2s
 ·obtain⟨xs,m,_,hx,hl,hlen,hel⟩:=DataW.trod_array Tryz.underlying138 hd;intro i hi;have h1:=hel i hi;rw[cells95,Nat.mul_one,List.getElem?_eq_getElem (by omega)]at h1;have hdat:=laid_lay i hi _ (congrArg Prod.fst hx);rw[List.getElem?_map,List.getElem?_eq_getElem (by omega)]at hdat
  have hdat2:=Option.some.inj hdat
  have hc1:W.cell? ⟨0,i,none⟩=cs[i]?:=World.var?_cell gLay hvar i;rcases open_ints Tryz.underlying137 Tryz.underlying139 cells97 h1 with ⟨hcs,hy⟩|⟨a,len,cap,zs,hcs,_,hle,_,hz,hy,hcell,_⟩
  ·have e:=congrArg (·[0]?) hcs;simp at e;have hlay:Wp.lay i=[]:=by
    have h2:(DataW.nil:DataW Unit)=dat (Wp.lay i):=(congrArg Prod.fst hy).symm.trans hdat2;unfold dat at h2
    by_cases hn:Wp.lay i=[]
    ·exact hn
    ·rw[if_neg hn]at h2;cases h2
   refine⟨none,0,?_,fun j hj=>?_⟩
   ·rw[hc1,e,hlay];rfl
   ·rw[hlay]at hj;simp at hj
  ·have e:=congrArg (·[0]?) hcs;simp at e;have h2:(.slice (lits .i64 (zs.take len)) (lits .i64 (zs.drop len)):DataW Unit)=dat (Wp.lay i):=(congrArg Prod.fst hy).symm.trans hdat2;unfold dat at h2
   by_cases hn:Wp.lay i=[]
   ·rw[if_pos hn]at h2;cases h2
   ·rw[if_neg hn]at h2;injection h2 with h3 h4;have h5:=lits_nat _ _ h3;have hzl:zs.length=cap:=hz;have hll:(Wp.lay i).length=len:=by
     have:=congrArg List.length h5;rw[List.length_take,List.length_map]at this;omega
    refine⟨some a,cap,?_,fun j hj=>?_⟩
    ·rw[hc1,e,hll]
    ·have hj2:j<zs.length:=by omega
     have h0:=hcell 0 (by omega);have hs:=addr_spot (by rw[show a.add 0=a by unfold Addr.add;rw[if_pos rfl]]at h0;exact h0);obtain⟨b,o,sp⟩:=a;simp only at hs;subst hs;have h6:=hcell j hj2;rw[addr_at]at h6;refine⟨b,o,rfl,World.block_lt_of_cell? _ _ h6,?_⟩;rw[h6];congr 2;have h7:=congrArg (fun l=>l.getD j 0) h5;simp only[List.getD_eq_getElem?_getD,List.getElem?_map,List.getElem?_take]at h7 ⊢;rw[if_pos (by omega)]at h7;rw[h7,List.getElem?_eq_getElem hj];rfl
end Go.Proofs.YtbdobaapadlcjaaGreatDoor.Keep
namespace Go.Proofs.YtbdobaapadlcjaaGreatDoor
open Go.RowKit
def doStr (now:Int)(c:Nat->Option QM)(s:ByteArray):ByteArray×Int×(Nat->Option QM):=if parseGood s=true then doQ now c (endSt s).r else (⟨#[1]⟩,now,c)
theorem do_bad (B x st j:Nat)(s:ByteArray)(w:World)(hs:s.size<=maxLen)(hL:Lays B w)(hBw:B<=w.heap.size)(hg:parseGood s=false)(hx:w.heap[x]?=some (.cells #[.pointer (some ⟨st,0,none⟩),.pointer (some ⟨j,0,none⟩)] 99 (0,0)))(hj:w.cell? ⟨j,2,none⟩=some (.bool false)):
  zT 34 #[.pointer (some ⟨x,0,none⟩),.string s] w (.string ⟨#[1]⟩):=by
 have a1:w.cell? ⟨x,1,none⟩=some (.pointer (some ⟨j,0,none⟩)):=(cell_of_row w x 1 _ 99 (0,0) hx).trans rfl;have HP:Hid (zT 60 #[.string s] w (.tuple #[.agg #[.int .u8 0,.int .u8 0,.int .u8 0,.int .i64 0,.int .i64 0,.int .i64 0,.int .i64 0,.int .i64 0,.int .i64 0,.string ⟨#[]⟩,.string ⟨#[]⟩,.string ⟨#[]⟩,.string ⟨#[]⟩,.string ⟨#[]⟩,.slice none 0 0],.int .i64 1])):=by
  refine(parse_any B s w hs hL hBw).mono ?_;rintro e w' ⟨h|h,hb⟩
  ·rw[hg]at h;exact absurd h.1 (by decide)
  ·exact⟨h.2,Tch.of_below hb⟩
 have HR:Hid (∀W,zT 61 #[.int .i64 1] W (.string ⟨#[1]⟩)):=fun W=>refusal_any 1 W
 clear hL hs hg hx;go_enter Tryz.func34,Tryz.ntmps34;go_wp2_with (go_at_call 59;go_in);refine HP.out.mono ?_;rintro e w1 ⟨rfl,t1⟩;have T1:=zH t1;clear t1 HP;go_wp2_with fail;refine(HR.out _).mono ?_;rintro e w2 ⟨rfl,t2⟩;have T2:Hid (Tch [] w w2):=((T1.out.alloc _).trans t2 (by simp));clear t2 HR;go_wp2_with fail;go_ret;exact⟨rfl,T2.out⟩
theorem lay_15:∀i∈opsAt,∀f∈Wp.lay i,f<15:=by decide
theorem lay_6:∀i∈opsAt,(Wp.lay i).length<=6:=by decide
theorem lay_14:∀i∈opsAt,i≠1->∀f∈Wp.lay i,f≠14:=by decide
theorem eb_id (x:Sl):∀(fs:List Nat),(∀f∈fs,f≠14)->ebAll x fs=x
 | [],_=>rfl
 | f::fs,h=>by
  show ebAll (eb x f) fs=x
  have e:eb x f=x:=if_neg (h f List.mem_cons_self);rw[e];exact eb_id x fs (fun g hg=>h g (List.mem_cons_of_mem _ hg))
theorem good_size (s:ByteArray)(hg:parseGood s=true):s.size<=90000:=by
 obtain⟨h1,h2,h3⟩:=good_bytes s hg;obtain⟨i,hi,hop,hf,_,_⟩:=(right_iff _ _ _ (end_wf s)).1 h3;have hl:=List.all_eq_true.1 hf;have h4:=flt_len (encF (endSt s).r (endSt s).bs) 2600 (Wp.lay i) (fun f hm=>encF_length _ _ f (lay_15 i hi f hm) (hl f hm));have h6:=lay_6 i hi;rw[hop,Nat.add_sub_cancel_left]at h1;have h5:=congrArg ByteArray.size h1;rw[BA_size,List.length_cons]at h5;have h7:(encL (endSt s).r (endSt s).bs (Wp.lay i)).length<=2600*(Wp.lay i).length:=h4;omega
theorem good_right (s:ByteArray)(hg:parseGood s=true)(hnB:(endSt s).r.op.toNat≠66):rightW (endSt s).r nil0 (Wp.short [])=true/\printS (endSt s).r nil0 []=s:=by
 obtain⟨h1,h2,h3⟩:=good_bytes s hg;obtain⟨i,hi,hop,hf,he,hn⟩:=(right_iff _ _ _ (end_wf s)).1 h3;have h1i:i≠1:=fun e=>hnB (by rw[hop,e])
 rw[eb_id _ _ (lay_14 i hi h1i)]at hn;have hbs:(endSt s).bs=[]:=List.length_eq_zero_iff.1 hn;have h4:=(print_of_good s nil0 hg (by rw[hbs];rfl)).1;rw[hbs]at h3 h4;exact⟨h3,h4⟩
theorem op_of (s:ByteArray)(hg:parseGood s=true):(endSt s).r.op=opOf s:=(good_bytes s hg).2.1
theorem do_any (B:Nat)(s:ByteArray)(x st b:Nat)(now:Int)(c:Nat->Option QM)(col:Nat->Nat)(w:World)(hE:Env B w)(hb:Bk B w x st b now c col)(hs:s.size<=maxLen)(hnB:(opOf s).toNat≠66):
  Calls Tryz.prog 34 #[.pointer (some ⟨x,0,none⟩),.string s] w fun e w'=>e=.returned (.string (doStr now c s).1)/\Did B x st b w col (doStr now c s).2.1 (doStr now c s).2.2 w':=by
 cases hg:parseGood s with
 | false=>
  have e:doStr now c s=(⟨#[1]⟩,now,c):=by unfold doStr;rw[hg];rfl
  rw[e];obtain⟨o,room,j,d,v,n,k,hJ⟩:=hb.jg;refine(do_bad B x st j s w hs hE.lays hE.size hg hJ.hx hJ.jr.c2).mono ?_;rintro e w' ⟨rfl,ht⟩;exact⟨rfl,did_same hb hE.size ht⟩
 | true=>
  have e:doStr now c s=doQ now c (endSt s).r:=by unfold doStr;rw[hg];rfl
  rw[e];have hop:=op_of s hg;obtain⟨hright,hpr⟩:=good_right s hg (by rw[hop];exact hnB);have hwf:=end_wf s;have hrq:=rq_ok hwf hright;have h:=do_g (fun t w'=>t=(doQ now c (endSt s).r).1/\Did B x st b w col (doQ now c (endSt s).r).2.1 (doQ now c (endSt s).r).2.2 w') B (endSt s).r x st b now c col w hE hb hwf hright (by rw[hpr];exact good_size s hg) (fun Z o room hsg hc W y ht=>op_any B (endSt s).r x st b now c col w hE hb hrq (by rw[hop];exact hnB) Z o room hsg hc W y ht) w (Below.refl _ _);rw[hpr]at h;refine h.mono ?_;rintro e w' ⟨t,rfl,rfl,hd⟩;exact⟨rfl,hd⟩
end Go.Proofs.YtbdobaapadlcjaaGreatDoor
