import Derived.Deep.Strs
import Derived.Test.YtbdobaapadlcjabGreatDoorHaFa
import Derived.Test.YtbdobaapadlcjabGreatDoorHy35
import Derived.Lib.LaidTab
import Derived.Deep.DeepWitnessRowRef
import Derived.LaidMore
set_option maxRecDepth 100000
set_option maxHeartbeats 1000000
set_option linter.unusedVariables false
set_option linter.unusedSimpArgs false
namespace Go.Proofs.YtbdobaapadlcjabGreatDoor.Keep
open Go.ChangeShapes Go.WideShapes Go.ChangeAt Go.RowKit
variable {W:World}{n:Nat}
theorem addr_at (b o j:Nat):(⟨b,o,none⟩:Addr).add j=⟨b,o+j,none⟩:=by unfold Addr.add;split<;>simp_all
theorem cells5:Tryz.prog.cellsOf 5=1:=by kernel_rfl
theorem cells3:Tryz.prog.cellsOf 3=1:=by kernel_rfl
theorem cells9:Tryz.prog.cellsOf 9=1:=by kernel_rfl
theorem cells28:Tryz.prog.cellsOf 22=1:=by kernel_rfl
theorem cells37:Tryz.prog.cellsOf 24=15:=by kernel_rfl
theorem byte_of (z:Int)(h:0<=z/\z<=255):∃c:UInt8,z=(c.toNat:Int):=by
 refine⟨UInt8.ofNat z.toNat,?_⟩;rw[UInt8.toNat_ofNat_of_lt' (by show _<256;omega)];omega
theorem strs_of {a:Addr}{len:Nat}{ss:List ByteArray}(hl:len<=ss.length)(h:∀i,i<ss.length->W.cell? (a.add i)=some (.string (ss.getD i ByteArray.empty))):Strs W (some a) (ss.take len):=by
 intro j hj;have hj':j<ss.length:=by rw[List.length_take]at hj;omega
 have h0:=h 0 (by omega);have hs:a.spot=none:=by
  have e:a.add 0=a:=by unfold Addr.add;rw[if_pos rfl]
  rw[e]at h0;unfold World.cell? at h0
  split at h0
  ·cases hsp:a.spot with
   | none=>rfl
   | some x=>simp[hsp]at h0
  ·simp at h0
 obtain⟨b,o,sp⟩:=a;simp only at hs;subst hs;refine⟨b,o,rfl,?_⟩;have h2:=h j hj';rw[addr_at]at h2;rw[h2,List.getElem_take];simp[hj']
theorem list15 {α:Type}{cs:List α}(h:cs.length=15):∃c0 c1 c2 c3 c4 c5 c6 c7 c8 c9 c10 c11 c12 c13 c14,cs=[c0,c1,c2,c3,c4,c5,c6,c7,c8,c9,c10,c11,c12,c13,c14]:=by
 match cs,h with
 | [c0,c1,c2,c3,c4,c5,c6,c7,c8,c9,c10,c11,c12,c13,c14],_=>exact⟨c0,c1,c2,c3,c4,c5,c6,c7,c8,c9,c10,c11,c12,c13,c14,rfl⟩
theorem trod_fld {H:Type}{enc:TypeId×Value->H}{m off:Nat}{xs:List (DataW H×List MemPlace)}{t:TypeId}{cs:List Value}(k:Nat)(hl:k<xs.length)(hc:Tryz.prog.cellsOf t=m)(c:List Value)(ht:(cs.drop off).take m=c)(h:DataW.trod enc Tryz.prog W 0 (fun _=>true) true n t ((cs.drop off).take (Tryz.prog.cellsOf t))=xs[k]?):DataW.trod enc Tryz.prog W 0 (fun _=>true) true n t c=some xs[k]:=by
 rw[<-ht,<-hc,h,List.getElem?_eq_getElem hl]
theorem open_cells {H:Type}{enc:TypeId×Value->H}{cs:List Value}{y:DataW H×List MemPlace}(hl:cs.length=15)(h:DataW.trod enc Tryz.prog W 0 (fun _=>true) true n 24 cs=some y):
  ∃(r:Wp.Rq) (xa:Option Addr) (xc:Nat) (bs:List ByteArray),cs=(cellsOf r (.slice xa bs.length xc)).toList/\Wf r/\Szs r/\bs.length<=maxLen/\(∀s∈bs,s.size<=maxLen)/\Strs W xa bs:=by
 obtain⟨c0,c1,c2,c3,c4,c5,c6,c7,c8,c9,c10,c11,c12,c13,c14,rfl⟩:=list15 hl;obtain⟨xs,n,_,_,_,hlen,hfd⟩:=DataW.trod_struct Tryz.underlying24 h;have hlen':xs.length=15:=hlen;have h0:=trod_fld (off:=0) 0 (by omega) cells5 [c0] rfl (hfd 0 _ rfl);have h1:=trod_fld (off:=1) 1 (by omega) cells5 [c1] rfl (hfd 1 _ rfl);have h2:=trod_fld (off:=2) 2 (by omega) cells5 [c2] rfl (hfd 2 _ rfl);have h3:=trod_fld (off:=3) 3 (by omega) cells3 [c3] rfl (hfd 3 _ rfl);have h4:=trod_fld (off:=4) 4 (by omega) cells3 [c4] rfl (hfd 4 _ rfl);have h5:=trod_fld (off:=5) 5 (by omega) cells3 [c5] rfl (hfd 5 _ rfl);have h6:=trod_fld (off:=6) 6 (by omega) cells3 [c6] rfl (hfd 6 _ rfl);have h7:=trod_fld (off:=7) 7 (by omega) cells3 [c7] rfl (hfd 7 _ rfl);have h8:=trod_fld (off:=8) 8 (by omega) cells3 [c8] rfl (hfd 8 _ rfl);have h9:=trod_fld (off:=9) 9 (by omega) cells9 [c9] rfl (hfd 9 _ rfl);have h10:=trod_fld (off:=10) 10 (by omega) cells9 [c10] rfl (hfd 10 _ rfl);have h11:=trod_fld (off:=11) 11 (by omega) cells9 [c11] rfl (hfd 11 _ rfl);have h12:=trod_fld (off:=12) 12 (by omega) cells9 [c12] rfl (hfd 12 _ rfl);have h13:=trod_fld (off:=13) 13 (by omega) cells9 [c13] rfl (hfd 13 _ rfl);have h14:=trod_fld (off:=14) 14 (by omega) cells28 [c14] rfl (hfd 14 _ rfl);obtain⟨z0,e0,_,w0⟩:=DataW.trod_int Tryz.underlying5 h0;obtain⟨b0,q0⟩:=byte_of z0 (bounds_u8 w0);obtain⟨z1,e1,_,w1⟩:=DataW.trod_int Tryz.underlying5 h1;obtain⟨b1,q1⟩:=byte_of z1 (bounds_u8 w1);obtain⟨z2,e2,_,w2⟩:=DataW.trod_int Tryz.underlying5 h2;obtain⟨b2,q2⟩:=byte_of z2 (bounds_u8 w2);obtain⟨z3,e3,_,w3⟩:=DataW.trod_int Tryz.underlying3 h3;obtain⟨z4,e4,_,w4⟩:=DataW.trod_int Tryz.underlying3 h4;obtain⟨z5,e5,_,w5⟩:=DataW.trod_int Tryz.underlying3 h5;obtain⟨z6,e6,_,w6⟩:=DataW.trod_int Tryz.underlying3 h6;obtain⟨z7,e7,_,w7⟩:=DataW.trod_int Tryz.underlying3 h7;obtain⟨z8,e8,_,w8⟩:=DataW.trod_int Tryz.underlying3 h8;obtain⟨s9,e9,_,w9⟩:=DataW.trod_string Tryz.underlying9 h9;obtain⟨s10,e10,_,w10⟩:=DataW.trod_string Tryz.underlying9 h10;obtain⟨s11,e11,_,w11⟩:=DataW.trod_string Tryz.underlying9 h11;obtain⟨s12,e12,_,w12⟩:=DataW.trod_string Tryz.underlying9 h12;obtain⟨s13,e13,_,w13⟩:=DataW.trod_string Tryz.underlying9 h13;have f0:=List.singleton_inj.1 e0;have f1:=List.singleton_inj.1 e1;have f2:=List.singleton_inj.1 e2;have f3:=List.singleton_inj.1 e3;have f4:=List.singleton_inj.1 e4;have f5:=List.singleton_inj.1 e5;have f6:=List.singleton_inj.1 e6;have f7:=List.singleton_inj.1 e7;have f8:=List.singleton_inj.1 e8;have f9:=List.singleton_inj.1 e9;have f10:=List.singleton_inj.1 e10;have f11:=List.singleton_inj.1 e11;have f12:=List.singleton_inj.1 e12;have f13:=List.singleton_inj.1 e13;subst f0 f1 f2 f3 f4 f5 f6 f7 f8 f9 f10 f11 f12 f13 q0 q1 q2;have hwf:Wf (⟨b0,b1,b2,z3,z4,z5,z6,z7,z8,s9,s10,s11,s12,s13⟩:Wp.Rq):=⟨bounds_i64 w3,bounds_i64 w4,bounds_i64 w5,bounds_i64 w6,bounds_i64 w7,bounds_i64 w8⟩;have hszs:Szs (⟨b0,b1,b2,z3,z4,z5,z6,z7,z8,s9,s10,s11,s12,s13⟩:Wp.Rq):=⟨w9,w10,w11,w12,w13⟩;rcases open_strings Tryz.underlying22 Tryz.underlying9 cells9 h14 with ⟨hcs,_⟩|⟨a,len,cap,ss,hcs,_,hl,hm,hz,_,hcell,hws⟩
 ·have f14:=List.singleton_inj.1 hcs;subst f14;exact⟨⟨b0,b1,b2,z3,z4,z5,z6,z7,z8,s9,s10,s11,s12,s13⟩,none,0,[],rfl,hwf,hszs,by decide,fun s hs=>by simp at hs,fun j hj=>absurd hj (by simp)⟩
 ·have f14:=List.singleton_inj.1 hcs;subst f14;have hss:ss.length=cap:=hz;have hlt:(ss.take len).length=len:=by rw[List.length_take];omega
  refine⟨⟨b0,b1,b2,z3,z4,z5,z6,z7,z8,s9,s10,s11,s12,s13⟩,some a,cap,ss.take len,?_,hwf,hszs,by omega,fun s hs=>hws s (List.mem_of_mem_take hs),strs_of (by omega) hcell⟩
  rw[hlt];rfl
theorem open_rq {H:Type}{enc:TypeId×Value->H}{base:Nat}{v:Value}{d:DataW H}{p:List MemPlace}(hv:Value.okWide Tryz.prog W .any base 24 v)(h:DataW.Trod enc Tryz.prog W 0 (fun _=>true) true 24 v d p):
  ∃(r:Wp.Rq) (xa:Option Addr) (xc:Nat) (bs:List ByteArray),v=.agg (cellsOf r (.slice xa bs.length xc))/\Wf r/\Szs r/\bs.length<=maxLen/\(∀s∈bs,s.size<=maxLen)/\Strs W xa bs:=by
 obtain⟨cs,rfl,hsz⟩:=okWide_struct Tryz.underlying24 hv;rw[cells37]at hsz;obtain⟨fuel,hf⟩:=h;obtain⟨r,xa,xc,bs,h1,h2⟩:=open_cells (cs:=cs.toList) (by simpa using hsz) hf;exact⟨r,xa,xc,bs,by rw[Array.toList_inj.1 h1],h2⟩
end Go.Proofs.YtbdobaapadlcjabGreatDoor.Keep
namespace Go.Proofs.YtbdobaapadlcjabGreatDoor.Keep
open Go.ChangeShapes Go.WideShapes Go.ChangeAt Go.RowKit Go.Deep
variable {W:World}{v:Value}
theorem gLay : Tryz.prog.globalNamed "wharf/wire.layouts" = some 0 := by kernel_rfl
theorem gLayT:(Tryz.prog.globals[0]?).map (·.type)=some 115:=by kernel_rfl
theorem gRow : Tryz.prog.globalNamed "wharf/wire.rows" = some 1 := by kernel_rfl
theorem gRowT:(Tryz.prog.globals[1]?).map (·.type)=some 158:=by kernel_rfl
theorem cells95:Tryz.prog.cellsOf 114=1:=by kernel_rfl
theorem cells97:Tryz.prog.cellsOf 116=1:=by kernel_rfl
theorem cells116:Tryz.prog.cellsOf 156=1:=by kernel_rfl
theorem cells117:Tryz.prog.cellsOf 157=3:=by kernel_rfl
def dat (l:List Nat):DataW Unit:=if l=[] then .nil else .slice (l.map fun (f:Nat)=>DataW.lit (.int .i64 (f:Int))) []
theorem laid_lay (i:Nat)(hi:i<26):∀l,(Rows.laid_wharf_wire_layouts (H:=Unit))=.agg l->l[i]?=some (dat (Wp.lay i)):=by
 intro l hl;injection hl with hl;subst hl;have hx:i=0\/i=1\/i=2\/i=3\/i=4\/i=5\/i=6\/i=7\/i=8\/i=9\/i=10\/i=11\/i=12\/i=13\/i=14\/i=15\/i=16\/i=17\/i=18\/i=19\/i=20\/i=21\/i=22\/i=23\/i=24\/i=25:=by omega
 rcases hx with rfl|rfl|rfl|rfl|rfl|rfl|rfl|rfl|rfl|rfl|rfl|rfl|rfl|rfl|rfl|rfl|rfl|rfl|rfl|rfl|rfl|rfl|rfl|rfl|rfl|rfl<;>rfl
theorem laid_row (i:Nat)(hi:i<15):∀l,(Rows.laid_wharf_wire_rows (H:=Unit))=.agg l->l[i]?=some (.agg [.lit (.int .i64 (Wp.rowTab.getD (3*i) 0)),.lit (.int .i64 (Wp.rowTab.getD (3*i+1) 0)),.lit (.int .i64 (Wp.rowTab.getD (3*i+2) 0))]):=by
 intro l hl;injection hl with hl;subst hl;have hx:i=0\/i=1\/i=2\/i=3\/i=4\/i=5\/i=6\/i=7\/i=8\/i=9\/i=10\/i=11\/i=12\/i=13\/i=14:=by omega
 rcases hx with rfl|rfl|rfl|rfl|rfl|rfl|rfl|rfl|rfl|rfl|rfl|rfl|rfl|rfl|rfl<;>rfl
theorem lits_nat (zs:List Int)(l:List Nat)(h:(lits .i64 zs:List (DataW Unit))=l.map fun (f:Nat)=>DataW.lit (.int .i64 (f:Int))):zs=l.map fun (f:Nat)=>(f:Int):=by
 induction l generalizing zs with
 | nil=>
  cases zs with
  | nil=>rfl
  | cons z zs=>simp[lits]at h
 | cons f l ih=>
  cases zs with
  | nil=>simp[lits]at h
  | cons z zs=>
   simp only[lits,List.map_cons,List.cons.injEq,DataW.lit.injEq,Lit.int.injEq,true_and]at h;rw[List.map_cons,h.1,ih zs h.2]
theorem addr_spot {a:Addr}(h:W.cell? a=some v):a.spot=none:=by
 unfold World.cell? at h
 split at h
 ·cases hsp:a.spot with
  | none=>rfl
  | some x=>simp[hsp]at h
 ·simp at h
theorem lays_of {rest : List (String × DataW Unit)} (h2s : 2 < W.heap.size) (h : laidMet Tryz.prog (("wharf/wire.layouts", Rows.laid_wharf_wire_layouts) :: ("wharf/wire.rows", Rows.laid_wharf_wire_rows) :: rest) W) : Lays W.heap.size W := by
 obtain⟨ps,⟨g,t,cs,fuel,p,q,hg,ht,hvar,hd,⟨g2,t2,cs2,fuel2,p2,q2,hg2,ht2,hvar2,hd2,_,_⟩,_⟩,_⟩:=h;obtain rfl:=Option.some.inj (gLay.symm.trans hg);obtain rfl:=Option.some.inj (gLayT.symm.trans ht);obtain rfl:=Option.some.inj (gRow.symm.trans hg2);obtain rfl:=Option.some.inj (gRowT.symm.trans ht2);have hrow:∀i,i<45->W.cell? ⟨1,i,none⟩=some (.int .i64 (Wp.rowTab.getD i 0)):=by
  obtain⟨xs,m,_,hx,hl,hlen,hel⟩:=DataW.trod_array Tryz.underlying158 hd2;intro i hi;have hi3:i / 3<15:=by omega
  have h1:=hel (i / 3) hi3;rw[cells117,List.getElem?_eq_getElem (by omega)]at h1;obtain⟨y0,y1,y2,n,hy,_,a0,a1,a2⟩:=trod_struct3 Tryz.underlying157 h1;have hdat:=laid_row (i / 3) hi3 _ (congrArg Prod.fst hx);rw[List.getElem?_map,List.getElem?_eq_getElem (by omega)]at hdat
  have hdat2:=Option.some.inj hdat
  rw[hy]at hdat2;injection hdat2 with hdat3;simp only[List.cons.injEq,and_true]at hdat3;obtain⟨z0,e0,f0,_⟩:=DataW.trod_int Tryz.underlying156 a0;obtain⟨z1,e1,f1,_⟩:=DataW.trod_int Tryz.underlying3 a1;obtain⟨z2,e2,f2,_⟩:=DataW.trod_int Tryz.underlying3 a2;rw[f0,f1,f2]at hdat3;simp only[DataW.lit.injEq,Lit.int.injEq,true_and]at hdat3;have hc2:W.cell? ⟨1,i,none⟩=cs2[i]?:=World.var?_cell gRow hvar2 i;rw[hc2];have hmod:i=i / 3*3\/i=i / 3*3+1\/i=i / 3*3+2:=by omega
  rcases hmod with hm|hm|hm
  ·have e:=congrArg (·[0]?) e0;simp[cells116]at e;rw[hm,e,hdat3.1];rw[Nat.mul_comm 3 (i / 3)]
  ·have e:=congrArg (·[0]?) e1;simp[cells3]at e;rw[hm,e,hdat3.2.1];rw[Nat.mul_comm 3 (i / 3)]
  ·have e:=congrArg (·[0]?) e2;simp[cells3]at e;rw[hm,e,hdat3.2.2];rw[Nat.mul_comm 3 (i / 3)]
 refine⟨?_,hrow,?_⟩
 ·exact h2s
 ·obtain⟨xs,m,_,hx,hl,hlen,hel⟩:=DataW.trod_array Tryz.underlying115 hd;intro i hi;have h1:=hel i hi;rw[cells95,Nat.mul_one,List.getElem?_eq_getElem (by omega)]at h1;have hdat:=laid_lay i hi _ (congrArg Prod.fst hx);rw[List.getElem?_map,List.getElem?_eq_getElem (by omega)]at hdat
  have hdat2:=Option.some.inj hdat
  have hc1:W.cell? ⟨0,i,none⟩=cs[i]?:=World.var?_cell gLay hvar i;rcases open_ints Tryz.underlying114 Tryz.underlying116 cells97 h1 with ⟨hcs,hy⟩|⟨a,len,cap,zs,hcs,_,hle,_,hz,hy,hcell,_⟩
  ·have e:=congrArg (·[0]?) hcs;simp at e;have hlay:Wp.lay i=[]:=by
    have h2:(DataW.nil:DataW Unit)=dat (Wp.lay i):=(congrArg Prod.fst hy).symm.trans hdat2;unfold dat at h2
    by_cases hn:Wp.lay i=[]
    ·exact hn
    ·rw[if_neg hn]at h2;cases h2
   refine⟨none,0,?_,fun j hj=>?_⟩
   ·rw[hc1,e,hlay];rfl
   ·rw[hlay]at hj;simp at hj
  ·have e:=congrArg (·[0]?) hcs;simp at e;have h2:(.slice (lits .i64 (zs.take len)) (lits .i64 (zs.drop len)):DataW Unit)=dat (Wp.lay i):=(congrArg Prod.fst hy).symm.trans hdat2;unfold dat at h2
   by_cases hn:Wp.lay i=[]
   ·rw[if_pos hn]at h2;cases h2
   ·rw[if_neg hn]at h2;injection h2 with h3 h4;have h5:=lits_nat _ _ h3;have hzl:zs.length=cap:=hz;have hll:(Wp.lay i).length=len:=by
     have:=congrArg List.length h5;rw[List.length_take,List.length_map]at this;omega
    refine⟨some a,cap,?_,fun j hj=>?_⟩
    ·rw[hc1,e,hll]
    ·have hj2:j<zs.length:=by omega
     have h0:=hcell 0 (by omega);have hs:=addr_spot (by rw[show a.add 0=a by unfold Addr.add;rw[if_pos rfl]]at h0;exact h0);obtain⟨b,o,sp⟩:=a;simp only at hs;subst hs;have h6:=hcell j hj2;rw[addr_at]at h6;refine⟨b,o,rfl,World.block_lt_of_cell? _ _ h6,?_⟩;rw[h6];congr 2;have h7:=congrArg (fun l=>l.getD j 0) h5;simp only[List.getD_eq_getElem?_getD,List.getElem?_map,List.getElem?_take]at h7 ⊢;rw[if_pos (by omega)]at h7;rw[h7,List.getElem?_eq_getElem hj];rfl
theorem bytes24:Tryz.prog.bytesOf 24=160:=by kernel_rfl
theorem open_sr {H:Type}{enc:TypeId×Value->H}{base:Nat}{d:DataW H}{p:List MemPlace}(hv:Value.okWide Tryz.prog W .any base 25 v)(h:DataW.Trod enc Tryz.prog W 0 (fun _=>true) true 25 v d p):
  ∃(ga:Option Addr) (gc:Nat) (sc:List RqS),v=.slice ga sc.length gc/\(∀s∈sc,s.Ok W)/\ScR W.heap.size W ga sc/\(sc.length=0\/∃el sp,d=.slice el sp/\el.length=sc.length):=by
 obtain⟨a0,l0,c0,rfl⟩:=okWide_slice Tryz.underlying25 hv;obtain⟨fuel,hf⟩:=h;have hf':=hf;rcases open_slice Tryz.underlying25 hf' with ⟨hcs,_⟩|⟨a,len,cap,m,n,D,Pl,hcs,_,hl,hm,hmm,hx,hel⟩
 ·rw[List.singleton_inj.1 hcs];exact⟨none,0,[],rfl,fun s hs=>by simp at hs,fun h=>absurd h (by simp),.inl rfl⟩
 ·rw[List.singleton_inj.1 hcs];have hlm:len<=m:=by rw[hmm];split<;>omega
  rw[cells37]at hel;have each:∀i,i<len->∃s:RqS,s.Ok W/\∀(k:Nat) (u:Value),(s.arr.toList)[k]?=some u->W.cell? ((a.add (i*15)).add k)=some u:=fun i hi=>by
   obtain⟨cs',h1,h2⟩:=hel i (by omega);obtain⟨_,hlen,hcell⟩:=World.cells?_some h1;obtain⟨r,xa,xc,bs,rfl,g1,g2,g3,g4,g5⟩:=open_cells hlen h2;refine⟨⟨r,xa,xc,bs⟩,⟨g1,g2,g3,g4,g5⟩,fun k u hu=>?_⟩
   have hk:k<15:=by
    have:=(List.getElem?_eq_some_iff.1 hu).1;exact this
   rw[hcell k hk];exact hu
  obtain⟨q,hq⟩:=@choose_lt RqS ⟨⟨opR 0,none,0,[]⟩⟩ _ _ each;have hlt:((List.range len).map q).length=len:=by simp
  refine⟨some a,cap,(List.range len).map q,by rw[hlt],fun s hs=>?_,fun hp=>?_,.inr ⟨_,_,(Prod.mk.inj hx).1,by simp⟩⟩
  ·obtain⟨i,hi,rfl⟩:=List.mem_map.1 hs;exact(hq i (List.mem_range.1 hi)).1
  ·rw[hlt]at hp;have h0:=(hq 0 hp).2 0 _ rfl;have e0:(a.add (0*15)).add 0=a:=by unfold Addr.add;simp
   rw[e0]at h0;have hs:=addr_spot h0;have hb:=World.block_lt_of_cell? _ _ h0;obtain⟨g,o,sp⟩:=a;simp only at hs;subst hs;refine⟨g,o,rfl,hb,fun j hj i u hu=>?_⟩
   rw[hlt]at hj;rw[List.getElem_map,List.getElem_range]at hu;have h2:=(hq j hj).2 i u hu;rw[addr_at,addr_at]at h2;exact h2
theorem sr_len {H:Type}{ts:List TypeId}{ds:List (DataW H)}{j:Nat}{d:DataW H}{k:Nat}(h:(DataW.weightsEach Tryz.prog ts ds).all (·<=reachBytes)=true)(ht:ts[j]?=some 25)(hd:ds[j]?=some d)(hor:k=0\/∃el sp,d=.slice el sp/\el.length=k):k<=2000000000000:=by
 rcases hor with rfl|⟨el,sp,rfl,rfl⟩
 ·omega
 ·have h1:=sized_slice h ht hd Tryz.underlying25;rw[bytes24]at h1;have h2:=reachBytes_lt;omega
end Go.Proofs.YtbdobaapadlcjabGreatDoor.Keep
namespace Go.Proofs.YtbdobaapadlcjabGreatDoor.ha
open Go.ChangeShapes Go.WideShapes Go.ChangeAt Go.RowKit
open Go.Proofs.YtbdobaapadlcjabGreatDoor.Keep
variable {W:World}
theorem own:ownKnob Tryz.prog.godebug=none:=by kernel_rfl
theorem laidOut:laidOutB Tryz.prog=true:=by kernel_rfl
theorem read27:Tryz.prog.readableRec 24=true:=by kernel_rfl
theorem read25:Tryz.prog.readableRec 25=true:=by kernel_rfl
theorem row25:25<Tryz.prog.types.size:=of_decide_eq_true (by kernel_rfl)
theorem row27:24<Tryz.prog.types.size:=of_decide_eq_true (by kernel_rfl)
theorem gTab : Tryz.prog.globalNamed "wharf/wire.quads" = some 2 := by kernel_rfl
theorem gTabType:(Tryz.prog.globals[2]?).map (·.type)=some 166:=by kernel_rfl
theorem cells172:Tryz.prog.cellsOf 166=16:=by kernel_rfl
theorem cells113:Tryz.prog.cellsOf 122=1:=by kernel_rfl
theorem table (h : laidMetH Tryz.prog Rows.haltedRow.laid W) : Lib.TabIs Tryz.prog W "wharf/wire.quads" .u32 [0, 498536548, 997073096, 651767980, 1994146192, 1802195444, 1303535960, 1342533948, 3988292384, 4027552580, 3604390888, 3412177804, 2607071920, 2262029012, 2685067896, 3183342108] :=
 Lib.tabIs_of_head (rest := [("wharf/wire.layouts", Rows.laid_wharf_wire_layouts), ("wharf/wire.rows", Rows.laid_wharf_wire_rows)]) gTab gTabType Tryz.underlying166 Tryz.underlying122 cells113 cells172 h
theorem tab_of (h : Lib.TabIs Tryz.prog W "wharf/wire.quads" .u32 [0, 498536548, 997073096, 651767980, 1994146192, 1802195444, 1303535960, 1342533948, 3988292384, 4027552580, 3604390888, 3412177804, 2607071920, 2262029012, 2685067896, 3183342108]) : Tab W := by
 intro i hi;have h1:=h.cell gTab i hi;rw[h1];have h2:∀j:Fin 16,([0,498536548,997073096,651767980,1994146192,1802195444,1303535960,1342533948,3988292384,4027552580,3604390888,3412177804,2607071920,2262029012,2685067896,3183342108]:List Int).getD j.val 0=((Crc.tab.getD j.val 0:Nat):Int):=by decide
 exact congrArg (fun z=>some (Value.int .u32 z)) (h2 ⟨i,hi⟩)
theorem env_of (h:laidMetH Tryz.prog Rows.haltedRow.laid W):Env W.heap.size W:=by
 have hT:Tab W:=tab_of (table h);have h2:2<W.heap.size:=World.block_lt_of_cell? _ _ (hT 0 (by decide));rw[MakeChecks.laidMetH_plain _ _ _ (by kernel_rfl)]at h;have h3 := laidMet.filter (fun x => x.1 != "wharf/wire.quads") h
 exact⟨lays_of (rest:=[]) h2 h3,hT,Nat.le_refl _,h2⟩
theorem contract (H:Type)(enc:TypeId×Value->H)(W:World)(base:Nat)(args:Array Value)(ds gs:List (DataW H))(before:List MemPlace)
  (hval:∀(j:Nat) t v,Tryz.f5.params[j]?=some t->args[j]?=some v->Value.okWide Tryz.prog W .any base t v)
  (hW:DataW.Whole enc Tryz.prog Tryz.f5.params.toList Rows.haltedSpec.vars false W args.toList ds gs before)(hL:laidMetH Tryz.prog Rows.haltedRow.laid W)(hZ:(DataW.weightsEach Tryz.prog (Tryz.f5.params.toList++(OpenSpec.ofChange Rows.haltedSpec).bare.plain.varTypes Tryz.prog) (ds++gs)).all (·<=reachBytes)=true):
  Calls Tryz.prog 5 args W fun e W'=>∃v,e=.returned v/\Rows.haltedSpec.post enc Tryz.prog Tryz.f5 false true false false W args v W':=by
 have hW':=hW;have hlt:=hW.lt;obtain⟨p,q,hA0,hV,rfl,hfz,hnd⟩:=hW;have hA:DataW.TrodAll enc Tryz.prog W 0 (fun _=>true) true Tryz.f5.params.toList args.toList ds p:=hA0;rw[Tryz.params5]at hA hval;obtain⟨v0,vs0,d0,ds0,p0,q0,hargs,rfl,rfl,h0,r0⟩:=trodAll_cons hA;obtain⟨v1,vs1,d1,ds1,p1,q1,rfl,rfl,rfl,h1,r1⟩:=trodAll_cons r0;obtain⟨v2,vs2,d2,ds2,p2,q2,rfl,rfl,rfl,h2,r2⟩:=trodAll_cons r1;obtain⟨v3,vs3,d3,ds3,p3,q3,rfl,rfl,rfl,h3,r3⟩:=trodAll_cons r2;obtain⟨rfl,rfl,rfl⟩:=trodAll_nil r3;obtain rfl:args=#[v0,v1,v2,v3]:=Array.toList_inj.1 hargs;obtain⟨rfl,rfl⟩:=trodVars_none hV;have hp0:∀a∈p0,a.block<W.heap.size:=fun a ha=>hlt a (by simp[ha])
 have hp1:∀a∈p1,a.block<W.heap.size:=fun a ha=>hlt a (by simp[ha])
 obtain⟨r,xa,xc,bs,rfl,hwf,hsz,hn,hbs,hS⟩:=open_rq (hval 0 24 v0 rfl rfl) h0;obtain⟨ga,gc,sc,rfl,hok,hga,hor⟩:=open_sr (hval 1 25 v1 rfl rfl) h1;rw[Tryz.params5]at hZ;have hln:sc.length<=2000000000000:=sr_len (j:=1) hZ rfl rfl hor;obtain⟨x2,rfl,rfl,rfl,wx2⟩:=open_int Tryz.underlying3 (hval 2 3 v2 rfl rfl) h2;obtain⟨x3,rfl,rfl,rfl,wx3⟩:=open_int Tryz.underlying3 (hval 3 3 v3 rfl rfl) h3;clear hA0;have walk:=halted_walk r ⟨xa,bs.length,xc⟩ ga gc sc x2 x3 W hwf hsz (env_of hL) hok hln hga (bounds_i64 wx2).1 (bounds_i64 wx2).2 (bounds_i64 wx3).1 (bounds_i64 wx3).2;refine walk.mono fun e W' ⟨he,hg⟩=>?_
 subst he;refine⟨_,rfl,_,_,_,[],p0++(p1++([]++([]++[]))),[],hW',?_,?_,?_,hg.frame _,fun h=>by cases h⟩
 ·exact trodAll_cons_mk (shut_bool Tryz.underlying4 _) trodAll_mk0
 ·exact trodAll_cons_mk (Below.trod laidOut read27 row27 h0 hg hp0) (trodAll_cons_mk (Below.trod laidOut read25 row25 h1 hg hp1) (trodAll_cons_mk (shut_int Tryz.underlying3 wx2) (trodAll_cons_mk (shut_int Tryz.underlying3 wx3) trodAll_mk0)))
 ·rfl
theorem laid_met (os:Os)(args:Array Value):laidMet Tryz.prog Rows.haltedRow.laid ((World.doorLaid Tryz.prog 49 os).forCall (fun _ _=>0) ⟨#[],args,[]⟩).memory:=
 laidMet_of_run' 8 (by kernel_rfl) (by kernel_rfl)
theorem reads (os:Os){H:Type}(enc:TypeId×Value->H):∃places,DataW.whole enc Tryz.prog ((World.doorLaid Tryz.prog 49 os).forCall (fun _ _=>0) ⟨#[],#[.agg (cellsOf (opR 0) (.slice none 0 0)),.slice none 0 0,.int .i64 0,.int .i64 0],[]⟩).memory Tryz.f5.params.toList Rows.haltedSpec.vars false #[Value.agg (cellsOf (opR 0) (.slice none 0 0)),.slice none 0 0,.int .i64 0,.int .i64 0].toList 8=
  some ([.agg [.lit (.int .u8 0),.lit (.int .u8 0),.lit (.int .u8 0),.lit (.int .i64 0),.lit (.int .i64 0),.lit (.int .i64 0),.lit (.int .i64 0),.lit (.int .i64 0),.lit (.int .i64 0),.lit (.string []),.lit (.string []),.lit (.string []),.lit (.string []),.lit (.string []),.nil],.nil,.lit (.int .i64 0),.lit (.int .i64 0)],[],places):=
 ⟨[],by kernel_rfl⟩
theorem lifted (os:Os)(started:os.Started)(H:Type)(enc:TypeId×Value->H)(F:Stop.Interp):
  ReturnsInHanded {} Tryz.checked os 5 .any ((OpenSpec.ofChange Rows.haltedSpec).preRow enc Tryz.prog Tryz.f5 Rows.haltedRow.domain false Rows.haltedRow.laid) (((OpenSpec.ofChange Rows.haltedSpec).at F).post enc Tryz.prog Tryz.f5 false true false false):=by
 obtain⟨places,hx⟩:=reads os enc;refine returnsInHanded_of_row (C:=Tryz.checked) (s:=OpenSpec.ofChange Rows.haltedSpec) own started (by kernel_rfl) Tryz.func5
  (witness_row_atRef (enc:=enc) (C:=Tryz.checked) false (World.doorLaid Tryz.prog 49 os) #[.agg (cellsOf (opR 0) (.slice none 0 0)),.slice none 0 0,.int .i64 0,.int .i64 0] rfl (by kernel_rfl) (by kernel_rfl) (by kernel_rfl)
   (OpenSpec.preRow_of_cond 8 hx (by kernel_rfl) (fun k hk=>by cases hk) (by kernel_rfl) (laid_met os _))) ?_
 intro W base args ds gs before hval hW _ _ hZ hL _ _;exact contract H enc W base args ds gs before hval hW hL hZ
theorem said:Rows.HaltedSaid:=
 OpenClaim.holds_of_cond 5 Tryz.f5 rfl rfl rfl rfl rfl rfl rfl ⟨rfl,rfl,rfl,rfl,rfl⟩ rfl rfl rfl rfl rfl (by kernel_rfl) Tryz.func5 closed
  (of_decide_eq_true (by kernel_rfl)) (by unfold Func.isWrapper;first|(rw[if_pos (by decide +kernel)];kernel_rfl)|(rw[if_neg (by decide +kernel)];exact⟨rfl,rfl⟩))
  (fun os started H enc _ F=>by rw[OpenClaim.pre_eq_preRow];exact lifted os started H enc F)
theorem plain (f : FuncId) (fn : Func) (hf : Tryz.pinned.checked.prog.funcNamed "wharf/wharfkeep.Halted" = some f) (hfn : Tryz.pinned.checked.prog.funcs[f]? = some fn) :
  false=Tryz.pinned.checked.prog.looks []/\∀(j:Nat) t,fn.params[j]?=some t->Tryz.pinned.checked.prog.wantsStandIn t=false:=by
 obtain rfl : f = 5 := Option.some.inj ((show Tryz.prog.funcNamed "wharf/wharfkeep.Halted" = some 5 by kernel_rfl).symm.trans hf) |>.symm
 obtain rfl:fn=Tryz.f5:=(Option.some.inj (Tryz.func5.symm.trans hfn)).symm;refine⟨by kernel_rfl,fun j t ht=>?_⟩
 rw[Tryz.params5]at ht;have hm:=Array.mem_of_getElem? ht;have ht':t=24\/t=25\/t=3\/t=3:=by simpa using hm
 rcases ht' with rfl|rfl|rfl|rfl
 ·exact(show Tryz.prog.wantsStandIn 24=false by kernel_rfl)
 ·exact(show Tryz.prog.wantsStandIn 25=false by kernel_rfl)
 ·exact(show Tryz.prog.wantsStandIn 3=false by kernel_rfl)
 ·exact(show Tryz.prog.wantsStandIn 3=false by kernel_rfl)
end Go.Proofs.YtbdobaapadlcjabGreatDoor.ha
namespace Go.Proofs.YtbdobaapadlcjabGreatDoor.ha
theorem holds_tied_goes (Lk:Looks){p:Pinned}{s:OpenSpec}{c:OpenClaim}(kinds:List LaidKind)(tests:Bool)(har:Bool×String)(lk:Bool)
  (hc:c.holds p s)(hw:c.wfByText s=true)(htie:c.laidByTextAt Lk p kinds tests)
  (hst:c.start=.entering)(hnb:c.noBlocks=false/\c.again=false)(hm:p.checked.prog.mainIs=some (har.1,har.2.toList))(hn:(!har.1&&har.2.isEmpty&&!lk)=false)
  (hl:∀f fn,p.checked.prog.funcNamed c.func=some f->p.checked.prog.funcs[f]?=some fn->lk=p.checked.prog.looks []/\∀(j:Nat) t,fn.params[j]?=some t->p.checked.prog.wantsStandIn t=false)
  (hg:true=c.goesBy p.checked.prog):
  Claim7.holds p (.plain s) {stood:={row:=c,standIns:=[],harness:=har,looks:=lk},kinds:=[],alts:=[],goes:=true,laidByText:=true,laidKinds:=kinds,laidTests:=tests,laidLooks:=Lk}:=by
 have h6:Claim7.isSixth {stood:={row:=c,standIns:=[],harness:=har,looks:=lk},kinds:=[]}=false:=by simpa [Claim7.isSixth]using hn
 exact⟨Claim7.tied_new_at Lk kinds tests (Claim7.new_of_sixth hc har lk hst hnb hm h6 hl) hw,fun D hD=>(by cases hD),htie,(fun h=>by cases h),hg⟩
theorem card:Rows.HaltedCardSaid:=
 holds_tied_goes .later _ _ _ _ said (by kernel_rfl) halted_row_tie rfl ⟨rfl,rfl⟩ (by kernel_rfl) rfl plain (by kernel_rfl)
end Go.Proofs.YtbdobaapadlcjabGreatDoor.ha
namespace Go.Proofs.YtbdobaapadlcjabGreatDoor
theorem halted_card:Rows.HaltedCardSaid:=ha.card
end Go.Proofs.YtbdobaapadlcjabGreatDoor
