import Derived.Test.YtbdobaapadlcjaaGreatDoorBy21
import Derived.Test.YtbdobaapadlcjaaGreatDoorRows
import Derived.Deep.Strs
set_option maxRecDepth 100000
set_option maxHeartbeats 8000000
set_option linter.unusedVariables false
set_option linter.unusedSimpArgs false
namespace Go.Proofs.YtbdobaapadlcjaaGreatDoor
open Go.RowKit
variable {B x st b j d g sn g2 g7 ga k:Nat}{w w' W wr w2:World}{now:Int}{col:Nat->Nat}{bs:List ByteArray}{chg:Bool}
theorem Env.fq {T:List TypeId}{c:Nat->Nat}(h:Env B w)(hf:FqT T B c w w'):Env B w':=
 h.fr (T:=T++[9]) ⟨hf.os,hf.tape,hf.output,hf.size,hf.low,fun k C t hk ht=>hf.keep k C t hk (fun hm=>ht (List.mem_append.2 (.inl hm)))⟩
theorem Opn.ne {v:Value}(h:Opn B w x st b j d v):x≠st:=fun e=>by
 have h1:=h.hx;have h2:w.heap[st]?=_:=h.brk.hst;rw[e,h2]at h1;simp at h1
theorem Opn.bk (h:Opn B w x st b j d (.slice none 0 0))(hd:B<=d)(col:Nat->Nat)(hcl:∀k,B<=k->col k≠9)(hB:B<=w.heap.size):Bk B w x st b 0 (fun _=>none) col:=by
 refine⟨⟨fun _=>none,⟨h.brk.hst,h.brk.tb,fun i x _ hx=>by simp at hx,fun i x _ hx=>by simp at hx,fun i x _ hx=>by simp at hx,h.lo.2.1,hcl st h.lo.2.1⟩,rfl⟩,fun i Q _ hQ=>by simp at hQ,⟨by omega,by omega⟩,⟨none,0,.inr ⟨j,d,.slice none 0 0,0,0,h.hx,h.jr,fun k hk=>?_,?_,fun k hk=>?_⟩⟩,fun k hk=>hcl k (Nat.le_trans hB hk)⟩
 ·simp[jbl,Dk.bl,Value.ownBlock]at hk;rcases hk with rfl|rfl
  ·exact h.lo.2.2.1
  ·exact hd
 ·show ((0:Nat):Int)+0<=400000/\_
  omega
 ·simp[jbl,Dk.bl,Value.ownBlock]at hk;rcases hk with rfl|rfl
  ·exact hcl _ h.lo.2.2.1
  ·exact hcl _ hd
theorem a5A (now:Int)(c:Nat->Option QM)(s:ByteArray):(doI now c s).1.size<=5:=by
 have h1:∀b:UInt8,(⟨#[b]⟩:ByteArray).size<=5:=fun b=>by
  show (#[b]).size<=5
  simp
 have h0:(okL []).size<=5:=by decide
 have h4:∀n,(okL (je n 4)).size<=5:=fun n=>by
  show (0::je n 4).toArray.size<=5
  simp[jc]
 have hA:∀r f,(doA now c r f).1.size<=5:=fun r f=>by
  unfold doA
  split
  ·exact h1 _
  ·split
   ·exact h1 _
   ·split
    ·exact h0
    ·exact h1 _
 unfold doI
 split
 ·rename_i h
  rcases h.2 with e|e|e
  ·unfold doQ;simp only[e,show ¬(83:UInt8)=84 from by decide,show ¬(83:UInt8)=65 from by decide,show ¬(83:UInt8)=69 from by decide,if_false]
   split
   ·exact h1 _
   ·simp only[show ¬(83:UInt8)=67 from by decide,show ¬(83:UInt8)=88 from by decide,show ¬(83:UInt8)=80 from by decide,show ¬(83:UInt8)=86 from by decide,show ¬(83:UInt8)=82 from by decide,if_false]
    unfold doS
    split
    ·exact h1 _
    ·split
     ·exact h4 _
     ·split
      ·exact h1 _
      ·split
       ·exact h1 _
       ·exact h4 _
  ·unfold doQ;simp only[e];exact hA _ _
  ·unfold doQ;simp only[e];exact hA _ _
 ·exact h1 _
theorem a0Y (now:Int):∀(l:List ByteArray) (c:Nat->Option QM),∀s∈(doL now c l).1,s.size<=5
 | [],c,s,h=>by cases h
 | a::l,c,s,h=>by
  rcases List.mem_cons.1 h with e|e
  ·rw[e];exact a5A now c a
  ·exact a0Y now l _ s e
theorem In.set9 {c:Nat->Option QM}(h:In B w st b now c col)(ht:Tch [g] w w')(h9:col g=9){C:Array Value}(hg:w.heap[g]?=some (.cells C 9 (0,0))):In B w' st b now c col:=by
 obtain⟨⟨Z,hs,hc⟩,hw,hn,⟨o,room,hJ⟩,hfu⟩:=h;refine⟨⟨Z,⟨hs.stb.tch ht (fun hm=>?_),fun q f hq=>(ht.block _ (lt_of_block (hs.tb q f hq)) (fun hm=>?_)).trans (hs.tb q f hq),fun i x hi hx=>(hs.qr i x hi hx).tch ht (fun k hk hm=>?_),hs.cl,hs.lo,hs.ls,hs.cs⟩,hc⟩,hw,hn,⟨none,0,.inl rfl⟩,fun k hk=>hfu k (Nat.le_trans ht.size hk)⟩
 ·simp at hm;rw[<-hm]at h9;exact hs.cs h9
 ·simp at hm;have h1:=hs.tb q f hq;rw[hm,hg]at h1;simp at h1
 ·simp at hm;subst hm;have:=hs.cl i x hi hx k hk;omega
structure Bi (B:Nat)(W:World)(st sn b:Nat)(now:Int)(c:Nat->Option QM)(bs:List ByteArray)(g2 g7 ga:Nat)(k:Nat)(chg:Bool)(wr:World)(col:Nat->Nat):Prop where
 bk:In B wr sn b now (doL now c (bs.take k)).2 col
 un:chg=false->(doL now c (bs.take k)).2=c
 row:wr.heap[ga]?=some (.cells (kR (doL now c (bs.take k)).1 bs.length) 9 (0,0))
 c9:col ga=9
 b2:wr.heap[g2]?=some (.cells #[zp st] 96 (0,0))
 b7:wr.heap[g7]?=some (.cells #[zp sn] 96 (0,0))
 old:∀q,q<W.heap.size->col q=9
 new:W.heap.size<=ga/\B<=ga
 tch:Tch [] W wr
 env:Env B wr
theorem Bi.step {c:Nat->Option QM}{chg':Bool}(h:Bi B W st sn b now c bs g2 g7 ga k chg wr col)(hk:k<bs.length)(hd:Did B sn sn b wr col now (doI now (doL now c (bs.take k)).2 bs[k]).2 w2)(hc:chg'=false->chg=false/\(doI now (doL now c (bs.take k)).2 bs[k]).2=(doL now c (bs.take k)).2):
  ∃col',Bi B W st sn b now c bs g2 g7 ga (k+1) chg' (w2.setCell ⟨ga,k,none⟩ (.string (doI now (doL now c (bs.take k)).2 bs[k]).1)) col':=by
 obtain⟨col',hb,ha,hf⟩:=hd;have e1:bs.take (k+1)=bs.take k++[bs[k]]:=(List.take_append_getElem hk).symm;have e2:=zX now bs[k] (bs.take k) c;rw[<-e1]at e2;have hlen:(doL now c (bs.take k)).1.length=k:=by rw[a0q,List.length_take];omega
 have hga:=lt_of_block h.row;have r2:w2.heap[ga]?=_:=(hf.out ga hga h.c9).trans h.row;have c9':col' ga=9:=(ha.1 ga hga).trans h.c9;have ts:Tch [ga] w2 (w2.setCell ⟨ga,k,none⟩ (.string (doI now (doL now c (bs.take k)).2 bs[k]).1)):=(Tch.refl _ _).setCell (fun _=>by simp) _;have hB:=h.env.size;have hz:=hf.size;have hzt:=h.tch.size;have n96:∀{g:Nat} {C:Array Value},w2.heap[g]?=some (.cells C 96 (0,0))->g∉[ga]:=fun {g C} hg hm=>by
  simp at hm;rw[hm,r2]at hg;simp at hg
 have k2:=hf.keep _ _ _ h.b2 (by decide);have k7:=hf.keep _ _ _ h.b7 (by decide);refine⟨col',?_,fun e=>?_,?_,c9',(ts.block _ (lt_of_block k2) (n96 k2)).trans k2,(ts.block _ (lt_of_block k7) (n96 k7)).trans k7,fun q hq=>(ha.1 q (by omega)).trans (h.old q hq),h.new,?_,(h.env.fq hf).tch ts (by simpa using h.new.2)⟩
 ·rw[e2];exact In.set9 hb ts c9' r2
 ·obtain⟨h1,h2⟩:=hc e;rw[e2];exact h2.trans (h.un h1)
 ·rw[heap_setCell_same w2 ga k _ 9 _ r2,e2];have e3:=a3t (doL now c (bs.take k)).1 bs.length (doI now (doL now c (bs.take k)).2 bs[k]).1 (by omega);rw[hlen]at e3;rw[e3]
 ·have t2:Tch [] W w2:=⟨hf.os.trans h.tch.os,hf.tape.trans h.tch.tape,hf.output.trans h.tch.output,by omega,fun q hq _=>(hf.out q (by omega) (h.old q hq)).trans (h.tch.block q hq (by simp))⟩
  exact t2.setCell (fun hl=>absurd hl (by have:=h.new.1;simp;omega)) _
theorem Stb.all8 {P:Nat->Value}(h:Stb w st b now P)(A:Nat->Option Addr):Stb ((((((((w.setCell ⟨st,1,none⟩ (.pointer (A 0))).setCell ⟨st,2,none⟩ (.pointer (A 1))).setCell ⟨st,3,none⟩ (.pointer (A 2))).setCell ⟨st,4,none⟩ (.pointer (A 3))).setCell ⟨st,5,none⟩ (.pointer (A 4))).setCell ⟨st,6,none⟩ (.pointer (A 5))).setCell ⟨st,7,none⟩ (.pointer (A 6))).setCell ⟨st,8,none⟩ (.pointer (A 7))) st b now (fun i=>.pointer (A i)):=by
 have h8:=((((((((h.set 0 (by decide) (.pointer (A 0))).set 1 (by decide) (.pointer (A 1))).set 2 (by decide) (.pointer (A 2))).set 3 (by decide) (.pointer (A 3))).set 4 (by decide) (.pointer (A 4))).set 5 (by decide) (.pointer (A 5))).set 6 (by decide) (.pointer (A 6))).set 7 (by decide) (.pointer (A 7)));have e:stH now (vE (vE (vE (vE (vE (vE (vE (vE P 0 (.pointer (A 0))) 1 (.pointer (A 1))) 2 (.pointer (A 2))) 3 (.pointer (A 3))) 4 (.pointer (A 4))) 5 (.pointer (A 5))) 6 (.pointer (A 6))) 7 (.pointer (A 7)))=stH now (fun i=>.pointer (A i)):=by simp[stH,vE]
 unfold Stb stG at h8 ⊢;rw[e]at h8;exact h8
theorem b0o (K:World->Prop)(st sn b g2 g7:Nat)(now:Int)(P:Nat->Value)(A:Nat->Option Addr)(w:World)(hst:Stb w st b now P)(hsn:Stb w sn b now (fun i=>.pointer (A i)))(h2:w.heap[g2]?=some (.cells #[zp st] 96 (0,0)))(h7:w.heap[g7]?=some (.cells #[zp sn] 96 (0,0)))
  (hK:∀w',Tch [st] w w'->Stb w' st b now (fun i=>.pointer (A i))->K w'):
  Cp 199 #[zp g7,zp g2] w fun e w'=>e=.returned (.tuple #[])/\K w':=by
 have a2:=cell_of_one h2;have a7:=cell_of_one h7;have l2:=lt_of_block h2;have l7:=lt_of_block h7;have lt:=hst.lt;have ln:=hsn.lt;have n1:w.cell? ⟨sn,1,none⟩=some (.pointer (A 0)):=hsn.cell 0 (by decide);have n2:w.cell? ⟨sn,2,none⟩=some (.pointer (A 1)):=hsn.cell 1 (by decide);have n3:w.cell? ⟨sn,3,none⟩=some (.pointer (A 2)):=hsn.cell 2 (by decide);have n4:w.cell? ⟨sn,4,none⟩=some (.pointer (A 3)):=hsn.cell 3 (by decide);have n5:w.cell? ⟨sn,5,none⟩=some (.pointer (A 4)):=hsn.cell 4 (by decide);have n6:w.cell? ⟨sn,6,none⟩=some (.pointer (A 5)):=hsn.cell 5 (by decide);have n7:w.cell? ⟨sn,7,none⟩=some (.pointer (A 6)):=hsn.cell 6 (by decide);have n8:w.cell? ⟨sn,8,none⟩=some (.pointer (A 7)):=hsn.cell 7 (by decide);have m1:w.cell? ⟨st,1,none⟩=some (P 0):=hst.cell 0 (by decide);have m2:w.cell? ⟨st,2,none⟩=some (P 1):=hst.cell 1 (by decide);have m3:w.cell? ⟨st,3,none⟩=some (P 2):=hst.cell 2 (by decide);have m4:w.cell? ⟨st,4,none⟩=some (P 3):=hst.cell 3 (by decide);have m5:w.cell? ⟨st,5,none⟩=some (P 4):=hst.cell 4 (by decide);have m6:w.cell? ⟨st,6,none⟩=some (P 5):=hst.cell 5 (by decide);have m7:w.cell? ⟨st,7,none⟩=some (P 6):=hst.cell 6 (by decide);have m8:w.cell? ⟨st,8,none⟩=some (P 7):=hst.cell 7 (by decide);have z1:∀j,w.frozen? ⟨st,j,none⟩=false:=fun j=>hst.fz j
 have HS:=zH hst;have HN:=zH hK;clear hst hsn h2 h7 hK;go_enter Tryz.func199,Tryz.ntmps199;have HK:Hid (K ((((((((w.setCell ⟨st,1,none⟩ (.pointer (A 0))).setCell ⟨st,2,none⟩ (.pointer (A 1))).setCell ⟨st,3,none⟩ (.pointer (A 2))).setCell ⟨st,4,none⟩ (.pointer (A 3))).setCell ⟨st,5,none⟩ (.pointer (A 4))).setCell ⟨st,6,none⟩ (.pointer (A 5))).setCell ⟨st,7,none⟩ (.pointer (A 6))).setCell ⟨st,8,none⟩ (.pointer (A 7))).drew):=HN.out _ (Tch.drew (((((((((Tch.refl [st] w).setCell (fun _=>by simp) _).setCell (fun _=>by simp) _).setCell (fun _=>by simp) _).setCell (fun _=>by simp) _).setCell (fun _=>by simp) _).setCell (fun _=>by simp) _).setCell (fun _=>by simp) _).setCell (fun _=>by simp) _)) ((HS.out.all8 A).tch (Tch.drew (Tch.refl [] _)) (by simp));clear HN HS
 go_region
 all_goals
  go_end0;exact⟨rfl,HK.out⟩
theorem b8l:∀args w,(callFunc 199 args).run Tryz.prog w=.ok (.enter 199 args) w:=enters_of Tryz.func199 (by kernel_rfl) rfl
theorem b6s:∀args w,(callFunc 158 args).run Tryz.prog w=.ok (.enter 158 args) w:=enters_of Tryz.func158 (by kernel_rfl) rfl
theorem a9D (n:Nat)(hn:n<=1000)(W:World):(Instr.makeSlice 25 (.int .i64 (n:Int)) (.int .i64 (n:Int))).run Tryz.prog W=.ok (.slice (some ⟨W.heap.size,0,none⟩) n n) (W.alloc (.cells (kR [] n) 9)):=by
 obtain⟨i0,hi,hz0,hz1,hz2⟩:=info_parts a2T;have h:=run_make (P:=Tryz.prog) W 25 9 i0 (.string ⟨#[]⟩) Tryz.underlying25 hi hz0 .i64 .i64 (n:Int) (n:Int) (by omega) (by omega) (by rw[hz2];omega) (by omega);have hm:madeCells (Value.string ⟨#[]⟩).cells ((n:Int).toNat*i0.size)=kR [] n:=by
  apply Array.toList_inj.1;rw[hz1,Nat.mul_one,Int.toNat_natCast]
  show (madeCells #[Value.string ⟨#[]⟩] n).toList=_
  rw[toList_madeCells_one];simp[kR]
 rw[hm]at h;simpa using h
theorem Cpy.inn {c:Nat->Option QM}{col0:Nat->Nat}{w1:World}{Z Z':Nat->Option BQ}(hb:Bk B w x st b now c col0)(hs:SG B w st b now Z col0)(hc:ctZ Z=c)(hB:B<=w.heap.size)(h:Cpy W g b now Z 8 w1 Z' col)(hW:Tch [] w W)(hg:W.heap.size<=g)(ht:Tch [] w1 w2):In B w2 g b now c (a1L w1 w2 col)/\(∀q,q<W.heap.size->a1L w1 w2 col q=9)/\∀q,w1.heap.size<=q->q<w2.heap.size->a1L w1 w2 col q=9:=by
 have hzW:=hW.size;have hz1:=h.tch.size;have hz2:=ht.size;have i1:In B w1 g b now c col:=by
  refine⟨⟨Z',⟨h.stb,hs.tb.tch (hW.trans h.tch (by simp)) (by simp),fun i x hi hx=>(h.qr i x hi hx).1,fun i x hi hx k hk=>((h.qr i x hi hx).2 k hk).2,fun i x hi hx k hk=>?_,by omega,h.cg⟩,h.ct.trans hc⟩,hb.wf,hb.nw,⟨none,0,.inl rfl⟩,h.fut⟩
  have:=((h.qr i x hi hx).2 k hk).1;omega
 refine⟨(i1.fr (T:=[]) (Fr.of_nil [] ht (by omega)) (by simp) (by simp) (by simp)).2,fun q hq=>(xJ (by omega)).trans (h.old q hq),fun q h1 h2=>if_pos ⟨h1,h2⟩⟩
theorem b6d {B W st sn b now c bs g2 g7 ga k wr coli}(x:Nat)(col:Nat->Nat)(w w2 w3:World)(o:Option ByteArray)(room:Int)(Z:Nat->Option BQ)(hE:Env B w)(hb:Bk B w x st b now c col)(hs:SG B w st b now Z col)(h:Bi B W st sn b now c bs g2 g7 ga k true wr coli)(hW:Tch [] w W)(h2:Tch [] wr w2)(h3:Fr B TJ w2 w3)(hJ:JgO B w col w3 x st o room)(hww:Tch [] w w2):
  Cp 199 #[zp g7,zp g2] w3 fun e w'=>e=.returned (.tuple #[])/\Did B x st b w col now (doL now c (bs.take k)).2 w':=by
 obtain⟨Zi,hi,hci⟩:=h.bk.sg;have hi3:=hi.lay h2 h3;have hs3:=hs.lay hww h3;have hz2:=hww.size;have hz3:=h3.size;have hzW:=hW.size;have hzr:=h.tch.size;have hB:=hE.size;have hzt:=h2.size;have k2:=h3.keep _ _ _ ((h2.block _ (lt_of_block h.b2) (by simp)).trans h.b2) (by decide);have k7:=h3.keep _ _ _ ((h2.block _ (lt_of_block h.b7) (by simp)).trans h.b7) (by decide);have eP:(fun i=>jB (ptZ Zi i))=(fun i=>Value.pointer ((ptZ Zi i).map (fun q=>(⟨q,0,none⟩:Addr)))):=by
  funext i
  cases ptZ Zi i<;>rfl
 have hsn:=hi3.stb;rw[eP]at hsn;refine b0o _ st sn b g2 g7 now _ _ w3 hs3.stb hsn k2 k7 (fun w' ht hst'=>?_);rw[<-eP]at hst';have hz':=ht.size;have hst3:=hs3.stb;have n156:∀{k:Nat} {C:Array Value} {t:TypeId},w3.heap[k]?=some (.cells C t (0,0))->t≠156->k∉[st]:=fun {k C t} hk hne hm=>by
  simp at hm;rw[hm,hst3]at hk;simp at hk;exact hne hk.2.symm
 have hq9:∀i x,i<8->Zi i=some x->∀q∈qbl x.qb x.V,w.heap.size<=q:=fun i x hi' hx q hq=>by
  rcases Nat.lt_or_ge q w.heap.size with hlt|hge
  ·have h1:=hi.cl i x hi' hx q hq;have h4:=h.old q (by omega);omega
  ·exact hge
 refine⟨fun q=>if q<w.heap.size then col q else if coli q=9 then 0 else coli q,⟨⟨Zi,⟨hst',?_,?_,?_,hi.lo,hs.ls,?_⟩,hci⟩,h.bk.wf,hb.nw,⟨o,room,?_⟩,?_⟩,⟨fun q hq=>if_pos hq,fun q hq=>?_⟩,?_⟩
 ·exact fun q f hq=>(ht.block _ (lt_of_block (hs3.tb q f hq)) (n156 (hs3.tb q f hq) (by decide))).trans (hs3.tb q f hq)
 ·exact fun i y hi' hy=>(hi3.qr i y hi' hy).tch ht (fun q hq hm=>by
   simp at hm;subst hm;exact(hi3.qr i y hi' hy).nty hst3 (by decide) hq)
 ·intro i y hi' hy q hq;have h5:=hq9 i y hi' hy q hq;have h6:=hi.cl i y hi' hy q hq
  show (if q<w.heap.size then col q else if coli q=9 then 0 else coli q)=i
  rw[if_neg (by omega),if_neg (by omega)];exact h6
 ·show (if st<w.heap.size then col st else if coli st=9 then 0 else coli st)≠9
  rw[if_pos hs.stb.lt];exact hs.cs
 ·refine(hJ.1.recol (fun q hq e=>?_)).fq (FqT.of_tch ht (by omega) (fun q hq=>?_) (fun q hq C t hC=>?_) (fun q hq=>?_):Fq B col w3 w')
  ·have e:(if q<w.heap.size then col q else if coli q=9 then 0 else coli q)=9:=e
   split at e
   ·exact e
   ·split at e
    ·omega
    ·omega
  ·simp at hq;subst hq;exact hs.ls
  ·simp at hq;subst hq;rw[hst3]at hC;simp at hC;rw[<-hC.2];decide
  ·simp at hq;subst hq;exact hs.cs
 ·intro q hq
  show (if q<w.heap.size then col q else if coli q=9 then 0 else coli q)≠9
  rw[if_neg (by omega)]
  split
  ·decide
  ·assumption
 ·have e:(if q<w.heap.size then col q else if coli q=9 then 0 else coli q)=9:=hq
  split at e
  ·exact e
  ·split at e
   ·omega
   ·omega
 ·refine(b5H col hww h3 hE.size hJ.2).trans (Agr.refl _ _) (FqT.of_tch ht (by omega) (fun q hq=>?_) (fun q hq C t hC=>?_) (fun q hq=>?_))
  ·simp at hq;subst hq;exact hs.ls
  ·simp at hq;subst hq;rw[hst3]at hC;simp at hC;rw[<-hC.2];decide
  ·simp at hq;subst hq;exact hs.cs
def xV (n:Nat)(l:List ByteArray):List UInt8:=je n 1++jK l
theorem a5p (n:Nat)(l:List ByteArray)(hl:l.length<=10)(h:∀s∈l,s.size<=5):0<(xV n l).length/\(xV n l).length<=61:=by
 have h1:=vb jx 6 l (fun s hs=>by rw[jp];have:=h s hs;omega);unfold xV jK;rw[List.length_append,jc];omega
theorem b3V (fn:Fn)(f c:Array Value)(W:World):(binOp .neq 1 (.func fn f c) .nilFunc).run Tryz.prog W=.ok (.bool true) W:=by kernel_rfl
theorem Bi.cell {c:Nat->Option QM}(h:Bi B W st sn b now c bs g2 g7 ga k chg wr col)(hk:k<bs.length){c':Nat->Option QM}(hd:Did B sn sn b wr col now c' w2):(∃ov,w2.cell? ⟨ga,k,none⟩=some ov)/\w2.frozen? ⟨ga,k,none⟩=false/\ga<w2.heap.size:=by
 obtain⟨col',hb,ha,hf⟩:=hd;have r2:w2.heap[ga]?=_:=(hf.out ga (lt_of_block h.row) h.c9).trans h.row;have hlen:(doL now c (bs.take k)).1.length=k:=by rw[a0q,List.length_take];omega
 exact⟨⟨_,(cell_of_row w2 ga k _ 9 (0,0) r2).trans (Array.getElem?_eq_getElem (by rw[a1Z _ _ (by omega)];exact hk))⟩,frozen_of_row w2 ga k _ 9 r2,lt_of_block r2⟩
theorem Bi.texts {c:Nat->Option QM}(h:Bi B W st sn b now c bs g2 g7 ga bs.length chg wr col)(hl:bs.length<=10):
  Cp 116 #[.slice none 0 0,.slice (some ⟨ga,0,none⟩) bs.length bs.length] wr fun e w'=>∃v',e=.returned v'/\OwnB w' wr.heap.size v' (xV bs.length (doL now c bs).1)/\Tch [] wr w':=by
 have hr:=h.row;rw[List.take_length]at hr;have hlen:=a0q now bs c;have hsz:=a0Y now bs c;generalize (doL now c bs).1=ss at*
 have hlt:=lt_of_block hr;have h1:=a3E wr.heap.size (.slice none 0 0) [] (some ⟨ga,0,none⟩) bs.length ss wr (fun s hs=>by have:=hsz s hs;omega) (by omega) (by simp) (Nat.le_refl _) (World.ownsRow_nil _ _ _ _) (fun j hj=>⟨ga,0,rfl,hlt,by
  rw[Nat.zero_add,cell_of_row wr ga j _ 9 (0,0) hr];unfold kR;rw[List.getElem?_toArray,List.getElem?_append_left (by simpa using hj)];simp[hj]⟩)
 rw[hlen]at h1;refine h1.mono ?_;rintro e w' ⟨v',he,ho,hb⟩;exact⟨v',he,ho,Tch.of_below hb.1⟩
theorem a8U (B:Nat)(r:Wp.Rq)(x st b bb ob yc:Nat)(now:Int)(c:Nat->Option QM)(col:Nat->Nat)(bs:List ByteArray)(w:World)(hE:Env B w)(hb:Bk B w x st b now c col)(Z:Nat->Option BQ)(o:Option ByteArray)(room:Int)(hs:SG B w st b now Z col)(hc:ctZ Z=c)(W:World)(ht:Tch [] w W)(hl:bs.length<=10)(hsz:∀s∈bs,s.size<=maxLen)(hbw:bb<W.heap.size)(hcs:∀j (hj:j<bs.length),W.cell? ⟨bb,ob+j,none⟩=some (.string bs[j])):
  Cp 158 #[zp st,.agg (ja r (Sl.v ⟨some ⟨bb,ob,none⟩,bs.length,yc⟩))] W fun e w'=>Tch [] W w'/\Ans B ((doL now c bs).2=c) (fun w'=>JgO B w col w' x st o room) (fun t w'=>t=okL (xV bs.length (doL now c bs).1)/\Did B x st b w col now (doL now c bs).2 w') e w':=by
 have HCP:Hid (∀V,Tch [] w V->Cp 197 #[zp st] V fun e w'=>∃Z' col',e=.returned (zp V.heap.size)/\Cpy V V.heap.size b now Z 8 w' Z' col'):=fun V h=>a9S B st b now Z col V (hs.tch h) (fun i y hi hy=>(hb.wf i y.Q hi (by rw[<-hc];exact vV hy)).ok)
 have HMK:Hid (∀V:World,_):=a9D bs.length (by omega);have HST:Hid (∀V,Tch [] W V->∀j (hj:j<bs.length),V.cell? ⟨bb,ob+j,none⟩=some (.string bs[j])/\bb<V.heap.size):=fun V h j hj=>⟨(h.cell (a:=⟨bb,ob+j,none⟩) hbw (by simp)).trans (hcs j hj),Nat.lt_of_lt_of_le hbw h.size⟩
 obtain⟨wa,hwa⟩:∃wa,wa=(W.alloc (.cells #[zp st] 96)).alloc (.cells (ja r (Sl.v ⟨some ⟨bb,ob,none⟩,bs.length,yc⟩)) 27):=⟨_,rfl⟩;have TA:Hid (Tch [] W wa):=by
  show Tch _ _ _
  rw[hwa];exact((Tch.refl [] _).alloc _).alloc _
 have b2:wa.heap[W.heap.size]?=some (.cells #[zp st] 96 (0,0)):=by
  rw[hwa,Below.heap_alloc _ _ _ (by simp)];exact heap_alloc_new _ _
 have b3:wa.heap[W.heap.size+1]?=some (.cells (ja r (Sl.v ⟨some ⟨bb,ob,none⟩,bs.length,yc⟩)) 27 (0,0)):=by
  rw[hwa];have:=heap_alloc_new (W.alloc (.cells #[zp st] 96)) (.cells (ja r (Sl.v ⟨some ⟨bb,ob,none⟩,bs.length,yc⟩)) 27);rw[World.size_alloc]at this;exact this
 have HWA:Hid (∀V,Tch [] wa V->(V.cell? ⟨W.heap.size,0,none⟩=some (zp st)/\V.cell? ⟨W.heap.size+1,14,none⟩=some (.slice (some ⟨bb,ob,none⟩) bs.length yc))/\W.heap.size<V.heap.size/\W.heap.size+1<V.heap.size/\V.heap[W.heap.size]?=some (.cells #[zp st] 96 (0,0))):=fun V h=>by
  have k2:=(h.block _ (lt_of_block b2) (by simp)).trans b2;have k3:=(h.block _ (lt_of_block b3) (by simp)).trans b3;exact⟨⟨cell_of_one k2,jb k3 14 _ rfl⟩,lt_of_block k2,lt_of_block k3,k2⟩
 have HW:=zH ht;have hwb:=hwa;rw[zM]at hwb;obtain⟨⟨p2,p3⟩,l2,l3,_⟩:=HWA.out wa (Tch.refl _ _);have HCW:=zH (HCP.out wa (ht.trans TA.out (by simp)));clear hcs hwa b2 b3 HCP;rw[zM];go_enter Tryz.func158,Tryz.ntmps158;go_wp2_with (rw[<-hwb]);refine HCW.out.mono ?_;rintro e w1 ⟨Z',col1,rfl,hcp⟩;have HC1:=zH hcp;clear p2 p3 l2 l3 hwb HCW;obtain⟨⟨p2,p3⟩,l2,l3,_⟩:=HWA.out w1 hcp.tch;have hmk:=HMK.out;clear hcp;have tw:Tch [] w1 ((w1.alloc (.cells #[zp wa.heap.size] 96)).alloc (.cells (kR [] bs.length) 9)):=((Tch.refl [] _).alloc _).alloc _;have hz1:=HC1.out.tch.size;have H0:Hid (Bi B wa st wa.heap.size b now c bs W.heap.size w1.heap.size (w1.heap.size+1) 0 false ((w1.alloc (.cells #[zp wa.heap.size] 96)).alloc (.cells (kR [] bs.length) 9)) (a1L w1 ((w1.alloc (.cells #[zp wa.heap.size] 96)).alloc (.cells (kR [] bs.length) 9)) col1)):=by
  have hBw:=hE.size;have hza:=(ht.trans TA.out (by simp)).size;obtain⟨i1,i2,i3⟩:=Cpy.inn hb hs hc hE.size HC1.out (ht.trans TA.out (by simp)) (Nat.le_refl _) tw;have tt:=HC1.out.tch.trans tw (by simp);refine⟨i1,fun _=>rfl,?_,i3 _ (by omega) (by simp),(HWA.out _ tt).2.2.2,?_,i2,⟨by omega,by omega⟩,tt,hE.tch ((ht.trans TA.out (by simp)).trans tt (by simp)) (by simp)⟩
  ·have:=heap_alloc_new (w1.alloc (.cells #[zp wa.heap.size] 96)) (.cells (kR [] bs.length) 9);rw[World.size_alloc]at this;exact this
  ·rw[Below.heap_alloc _ _ _ (by simp)];exact heap_alloc_new _ _
 have HFIN:Hid (∀wr w' v' chg coli,Bi B wa st wa.heap.size b now c bs W.heap.size w1.heap.size (w1.heap.size+1) bs.length chg wr coli->Tch [] wr w'->OwnB w' wr.heap.size v' (xV bs.length (doL now c bs).1)->Tch [] W w'/\Ans B ((doL now c bs).2=c) (fun w'=>JgO B w col w' x st o room) (fun t w'=>t=okL (xV bs.length (doL now c bs).1)/\Did B x st b w col now (doL now c bs).2 w') (.returned (.tuple #[v',if chg=true then .func (.func 199) #[] #[zp w1.heap.size,zp W.heap.size] else .nilFunc,.int .i64 0])) w'):=fun wr w' v' chg coli hB' t' ho=>by
  have tW:=(TA.out.trans hB'.tch (by simp)).trans t' (by simp);obtain⟨q1,q2⟩:=a5p bs.length (doL now c bs).1 (by rw[a0q];exact hl) (a0Y now bs c);refine⟨tW,.inr ⟨v',_,_,rfl,.inr ⟨q1,by omega,Rdb.of_own ho q1⟩,fun w2 h2=>?_⟩⟩
  cases chg with
  | false=>
   have hu:=hB'.un rfl;rw[List.take_length]at hu;refine .inl ⟨rfl,hu,fun w3 h3=>⟨rfl,?_⟩⟩
   rw[hu];exact vW hb hE.size (((ht.trans tW (by simp)).trans h2 (by simp)).trans h3 (by simp))
  | true=>
   refine .inr ⟨199,_,rfl,b8l,fun w3 w4 h3 hf hJ=>?_⟩
   have h9:=b6d x col w w3 w4 o room Z hE hb hs hB' (ht.trans TA.out (by simp)) ((t'.trans h2 (by simp)).trans h3 (by simp)) hf hJ (((ht.trans tW (by simp)).trans h2 (by simp)).trans h3 (by simp));rw[List.take_length]at h9;exact h9.mono (fun e w5 h=>⟨h.1,rfl,h.2⟩)
 have HIN:Hid (∀wr coli k (hk:k<bs.length) chg,Bi B wa st wa.heap.size b now c bs W.heap.size w1.heap.size (w1.heap.size+1) k chg wr coli->Cp 198 #[zp wa.heap.size,.string bs[k]] wr fun e w'=>Tch [] wr w'/\PlG B ((doI now (doL now c (bs.take k)).2 bs[k]).2=(doL now c (bs.take k)).2) (fun w'=>JgO B wr coli w' wa.heap.size wa.heap.size none 0) (fun t w'=>t=(doI now (doL now c (bs.take k)).2 bs[k]).1/\Did B wa.heap.size wa.heap.size b wr coli now (doI now (doL now c (bs.take k)).2 bs[k]).2 w') e w'):=fun wr coli k hk chg h=>a9v B bs[k] wa.heap.size b now _ coli wr h.env h.bk (hsz _ (List.getElem_mem hk))
 have hfn:=b3V;have hnn:=b1Q;clear hE hb hs hc ht hsz tw hz1;go_wp2_with fail
 go_loopw [9,24] (fun cv kv wr=>∃(k:Nat) (chg:Bool) (coli:Nat->Nat),k<=bs.length/\cv=.bool chg/\kv=.int .i64 (k:Int)/\Bi B wa st wa.heap.size b now c bs W.heap.size w1.heap.size (w1.heap.size+1) k chg wr coli) (fun _ kv _=>bs.length-(intOf kv).toNat)
 case atStart=>exact⟨0,false,_,Nat.zero_le _,rfl,rfl,H0.out⟩
 case round=>
  obtain⟨k,chg,coli,hk,rfl,rfl,hbi⟩:=hrel;have HBI:=zH hbi;clear p2 p3 l2 l3
  by_cases hlt:k<bs.length
  ·obtain⟨s0,s1⟩:=HST.out wr (TA.out.trans hbi.tch (by simp)) k hlt;have c7:=cell_of_one hbi.b7;have l7:=lt_of_block hbi.b7;have hkI:(k:Int)<(bs.length:Int):=by omega
   have hk0:(0:Int)<=(k:Int):=Int.natCast_nonneg k;have HI:=zH (HIN.out wr coli k hlt chg hbi);clear hbi HIN H0 HFIN;generalize hsk:bs[k]=sk at*
   go_wp2_with fail;refine HI.out.mono ?_;rintro e w2 ⟨t2,hpl⟩;obtain⟨t,⟨he,hN,hk2⟩|⟨f,cap,he,eg,hk2⟩⟩:=hpl
   ·subst he;obtain⟨ht',hd⟩:=hk2 w2 (Tch.refl _ _);subst hsk;obtain⟨⟨ov,q1⟩,q2,q3⟩:=HBI.out.cell hlt hd;obtain⟨cn,hst⟩:=HBI.out.step hlt hd (chg':=chg) (fun e=>⟨e,hN⟩);rw[<-ht']at hst;have HS:=zH hst;clear hk2 hd hst ht' t2 HI s0 s1 c7 l7 hN;go_wp2_with fail;go_roundw
    case rel=>exact⟨k+1,chg,cn,by omega,rfl,by go_num,HS.out⟩
    case measure=>simp[intOf];omega
   ·subst he;have HK2:=zH (hk2 w2 w2 (Tch.refl _ _) (Fr.refl _ _ _) ⟨.inl rfl,fun q hq h9=>t2.block q hq (by simp)⟩);clear hk2 t2 HI s0 s1 c7 l7;subst hsk;go_wp2_with (go_at_fn f;refine HK2.out.mono ?_;rintro e w3 ⟨rfl,ht',hd⟩;obtain⟨⟨ov,q1⟩,q2,q3⟩:=HBI.out.cell hlt hd;obtain⟨cn,hst⟩:=HBI.out.step hlt hd (chg':=true) (fun e=>by cases e);rw[<-ht']at hst;have HS:=zH hst;clear hd hst ht' HK2);go_roundw
    case rel=>exact⟨k+1,true,cn,by omega,rfl,by go_num,HS.out⟩
    case measure=>simp[intOf];omega
  ·have hke:k=bs.length:=by omega
   subst hke;have HT:=zH (HBI.out.texts hl);clear hbi HIN H0;go_wp2_with fail;refine HT.out.mono ?_;rintro e w2 ⟨v',rfl,ho,t2⟩;have HF:=zH (HFIN.out wr w2 v' chg coli HBI.out t2 ho);clear ho t2 HT HFIN
   cases chg with
   | false=>
    go_wp2_with fail;go_ret3;exact HF.out
   | true=>
    go_wp2_with fail;go_ret3;exact HF.out
end Go.Proofs.YtbdobaapadlcjaaGreatDoor
namespace Go.Proofs.YtbdobaapadlcjaaGreatDoor.Keep
open Go.ChangeShapes Go.WideShapes Go.ChangeAt Go.RowKit
variable {W:World}{n:Nat}
theorem a2k (b o j:Nat):(⟨b,o,none⟩:Addr).add j=⟨b,o+j,none⟩:=by unfold Addr.add;split<;>simp_all
theorem a6z:Tryz.prog.cellsOf 5=1:=by kernel_rfl
theorem xF:Tryz.prog.cellsOf 3=1:=by kernel_rfl
theorem zV:Tryz.prog.cellsOf 9=1:=by kernel_rfl
theorem a7V:Tryz.prog.cellsOf 25=1:=by kernel_rfl
theorem b3z:Tryz.prog.cellsOf 27=15:=by kernel_rfl
theorem a4t (z:Int)(h:0<=z/\z<=255):∃c:UInt8,z=(c.toNat:Int):=by
 refine⟨UInt8.ofNat z.toNat,?_⟩;rw[UInt8.toNat_ofNat_of_lt' (by show _<256;omega)];omega
theorem b4W {a:Addr}{len:Nat}{ss:List ByteArray}(hl:len<=ss.length)(h:∀i,i<ss.length->W.cell? (a.add i)=some (.string (ss.getD i ByteArray.empty))):Strs W (some a) (ss.take len):=by
 intro j hj;have hj':j<ss.length:=by rw[List.length_take]at hj;omega
 have h0:=h 0 (by omega);have hs:a.spot=none:=by
  have e:a.add 0=a:=by unfold Addr.add;rw[if_pos rfl]
  rw[e]at h0;unfold World.cell? at h0
  split at h0
  ·cases hsp:a.spot with
   | none=>rfl
   | some x=>simp[hsp]at h0
  ·simp at h0
 obtain⟨b,o,sp⟩:=a;simp only at hs;subst hs;refine⟨b,o,rfl,?_⟩;have h2:=h j hj';rw[a2k]at h2;rw[h2,List.getElem_take];simp[hj']
theorem b7d {α:Type}{cs:List α}(h:cs.length=15):∃c0 c1 c2 c3 c4 c5 c6 c7 c8 c9 c10 c11 c12 c13 c14,cs=[c0,c1,c2,c3,c4,c5,c6,c7,c8,c9,c10,c11,c12,c13,c14]:=by
 match cs,h with
 | [c0,c1,c2,c3,c4,c5,c6,c7,c8,c9,c10,c11,c12,c13,c14],_=>exact⟨c0,c1,c2,c3,c4,c5,c6,c7,c8,c9,c10,c11,c12,c13,c14,rfl⟩
theorem kl {H:Type}{enc:TypeId×Value->H}{m off:Nat}{xs:List (DataW H×List MemPlace)}{t:TypeId}{cs:List Value}(k:Nat)(hl:k<xs.length)(hc:Tryz.prog.cellsOf t=m)(c:List Value)(ht:(cs.drop off).take m=c)(h:DataW.trod enc Tryz.prog W 0 (fun _=>true) true n t ((cs.drop off).take (Tryz.prog.cellsOf t))=xs[k]?):DataW.trod enc Tryz.prog W 0 (fun _=>true) true n t c=some xs[k]:=by
 rw[<-ht,<-hc,h,List.getElem?_eq_getElem hl]
theorem a7f {H:Type}{enc:TypeId×Value->H}{cs:List Value}{y:DataW H×List MemPlace}(hl:cs.length=15)(h:DataW.trod enc Tryz.prog W 0 (fun _=>true) true n 27 cs=some y):
  ∃(r:Wp.Rq) (xa:Option Addr) (xc:Nat) (bs:List ByteArray),cs=(ja r (.slice xa bs.length xc)).toList/\Wf r/\Szs r/\bs.length<=maxLen/\(∀s∈bs,s.size<=maxLen)/\Strs W xa bs:=by
 obtain⟨c0,c1,c2,c3,c4,c5,c6,c7,c8,c9,c10,c11,c12,c13,c14,rfl⟩:=b7d hl;obtain⟨xs,n,_,_,_,hlen,hfd⟩:=DataW.trod_struct Tryz.underlying27 h;have hlen':xs.length=15:=hlen;have h0:=kl (off:=0) 0 (by omega) a6z [c0] rfl (hfd 0 _ rfl);have h1:=kl (off:=1) 1 (by omega) a6z [c1] rfl (hfd 1 _ rfl);have h2:=kl (off:=2) 2 (by omega) a6z [c2] rfl (hfd 2 _ rfl);have h3:=kl (off:=3) 3 (by omega) xF [c3] rfl (hfd 3 _ rfl);have h4:=kl (off:=4) 4 (by omega) xF [c4] rfl (hfd 4 _ rfl);have h5:=kl (off:=5) 5 (by omega) xF [c5] rfl (hfd 5 _ rfl);have h6:=kl (off:=6) 6 (by omega) xF [c6] rfl (hfd 6 _ rfl);have h7:=kl (off:=7) 7 (by omega) xF [c7] rfl (hfd 7 _ rfl);have h8:=kl (off:=8) 8 (by omega) xF [c8] rfl (hfd 8 _ rfl);have h9:=kl (off:=9) 9 (by omega) zV [c9] rfl (hfd 9 _ rfl);have h10:=kl (off:=10) 10 (by omega) zV [c10] rfl (hfd 10 _ rfl);have h11:=kl (off:=11) 11 (by omega) zV [c11] rfl (hfd 11 _ rfl);have h12:=kl (off:=12) 12 (by omega) zV [c12] rfl (hfd 12 _ rfl);have h13:=kl (off:=13) 13 (by omega) zV [c13] rfl (hfd 13 _ rfl);have h14:=kl (off:=14) 14 (by omega) a7V [c14] rfl (hfd 14 _ rfl);obtain⟨z0,e0,_,w0⟩:=DataW.trod_int Tryz.underlying5 h0;obtain⟨b0,q0⟩:=a4t z0 (bounds_u8 w0);obtain⟨z1,e1,_,w1⟩:=DataW.trod_int Tryz.underlying5 h1;obtain⟨b1,q1⟩:=a4t z1 (bounds_u8 w1);obtain⟨z2,e2,_,w2⟩:=DataW.trod_int Tryz.underlying5 h2;obtain⟨b2,q2⟩:=a4t z2 (bounds_u8 w2);obtain⟨z3,e3,_,w3⟩:=DataW.trod_int Tryz.underlying3 h3;obtain⟨z4,e4,_,w4⟩:=DataW.trod_int Tryz.underlying3 h4;obtain⟨z5,e5,_,w5⟩:=DataW.trod_int Tryz.underlying3 h5;obtain⟨z6,e6,_,w6⟩:=DataW.trod_int Tryz.underlying3 h6;obtain⟨z7,e7,_,w7⟩:=DataW.trod_int Tryz.underlying3 h7;obtain⟨z8,e8,_,w8⟩:=DataW.trod_int Tryz.underlying3 h8;obtain⟨s9,e9,_,w9⟩:=DataW.trod_string Tryz.underlying9 h9;obtain⟨s10,e10,_,w10⟩:=DataW.trod_string Tryz.underlying9 h10;obtain⟨s11,e11,_,w11⟩:=DataW.trod_string Tryz.underlying9 h11;obtain⟨s12,e12,_,w12⟩:=DataW.trod_string Tryz.underlying9 h12;obtain⟨s13,e13,_,w13⟩:=DataW.trod_string Tryz.underlying9 h13;have f0:=List.singleton_inj.1 e0;have f1:=List.singleton_inj.1 e1;have f2:=List.singleton_inj.1 e2;have f3:=List.singleton_inj.1 e3;have f4:=List.singleton_inj.1 e4;have f5:=List.singleton_inj.1 e5;have f6:=List.singleton_inj.1 e6;have f7:=List.singleton_inj.1 e7;have f8:=List.singleton_inj.1 e8;have f9:=List.singleton_inj.1 e9;have f10:=List.singleton_inj.1 e10;have f11:=List.singleton_inj.1 e11;have f12:=List.singleton_inj.1 e12;have f13:=List.singleton_inj.1 e13;subst f0 f1 f2 f3 f4 f5 f6 f7 f8 f9 f10 f11 f12 f13 q0 q1 q2;have hwf:Wf (⟨b0,b1,b2,z3,z4,z5,z6,z7,z8,s9,s10,s11,s12,s13⟩:Wp.Rq):=⟨bounds_i64 w3,bounds_i64 w4,bounds_i64 w5,bounds_i64 w6,bounds_i64 w7,bounds_i64 w8⟩;have hszs:Szs (⟨b0,b1,b2,z3,z4,z5,z6,z7,z8,s9,s10,s11,s12,s13⟩:Wp.Rq):=⟨w9,w10,w11,w12,w13⟩;rcases open_strings Tryz.underlying25 Tryz.underlying9 zV h14 with ⟨hcs,_⟩|⟨a,len,cap,ss,hcs,_,hl,hm,hz,_,hcell,hws⟩
 ·have f14:=List.singleton_inj.1 hcs;subst f14;exact⟨⟨b0,b1,b2,z3,z4,z5,z6,z7,z8,s9,s10,s11,s12,s13⟩,none,0,[],rfl,hwf,hszs,by decide,fun s hs=>by simp at hs,fun j hj=>absurd hj (by simp)⟩
 ·have f14:=List.singleton_inj.1 hcs;subst f14;have hss:ss.length=cap:=hz;have hlt:(ss.take len).length=len:=by rw[List.length_take];omega
  refine⟨⟨b0,b1,b2,z3,z4,z5,z6,z7,z8,s9,s10,s11,s12,s13⟩,some a,cap,ss.take len,?_,hwf,hszs,by omega,fun s hs=>hws s (List.mem_of_mem_take hs),b4W (by omega) hcell⟩
  rw[hlt];rfl
end Go.Proofs.YtbdobaapadlcjaaGreatDoor.Keep
namespace Go.Proofs.YtbdobaapadlcjaaGreatDoor.Keep
open Go.ChangeShapes Go.WideShapes Go.ChangeAt Go.RowKit Go.Deep
variable {W:World}
theorem gLay : Tryz.prog.globalNamed "wharf/wire.layouts" = some 0 := by kernel_rfl
theorem gLayT:(Tryz.prog.globals[0]?).map (·.type)=some 138:=by kernel_rfl
theorem gRow : Tryz.prog.globalNamed "wharf/wire.rows" = some 1 := by kernel_rfl
theorem gRowT:(Tryz.prog.globals[1]?).map (·.type)=some 175:=by kernel_rfl
theorem b3B:Tryz.prog.cellsOf 137=1:=by kernel_rfl
theorem b3C:Tryz.prog.cellsOf 139=1:=by kernel_rfl
theorem b0x:Tryz.prog.cellsOf 173=1:=by kernel_rfl
theorem b0y:Tryz.prog.cellsOf 174=3:=by kernel_rfl
def dat (l:List Nat):DataW Unit:=if l=[] then .nil else .slice (l.map fun (f:Nat)=>DataW.lit (.int .i64 (f:Int))) []
theorem b1C (i:Nat)(hi:i<26):∀l,(Rows.laid_wharf_wire_layouts (H:=Unit))=.agg l->l[i]?=some (dat (Wp.lay i)):=by
 intro l hl;injection hl with hl;subst hl;have hx:i=0\/i=1\/i=2\/i=3\/i=4\/i=5\/i=6\/i=7\/i=8\/i=9\/i=10\/i=11\/i=12\/i=13\/i=14\/i=15\/i=16\/i=17\/i=18\/i=19\/i=20\/i=21\/i=22\/i=23\/i=24\/i=25:=by omega
 rcases hx with rfl|rfl|rfl|rfl|rfl|rfl|rfl|rfl|rfl|rfl|rfl|rfl|rfl|rfl|rfl|rfl|rfl|rfl|rfl|rfl|rfl|rfl|rfl|rfl|rfl|rfl<;>rfl
theorem b1E (i:Nat)(hi:i<15):∀l,(Rows.laid_wharf_wire_rows (H:=Unit))=.agg l->l[i]?=some (.agg [.lit (.int .i64 (Wp.rowTab.getD (3*i) 0)),.lit (.int .i64 (Wp.rowTab.getD (3*i+1) 0)),.lit (.int .i64 (Wp.rowTab.getD (3*i+2) 0))]):=by
 intro l hl;injection hl with hl;subst hl;have hx:i=0\/i=1\/i=2\/i=3\/i=4\/i=5\/i=6\/i=7\/i=8\/i=9\/i=10\/i=11\/i=12\/i=13\/i=14:=by omega
 rcases hx with rfl|rfl|rfl|rfl|rfl|rfl|rfl|rfl|rfl|rfl|rfl|rfl|rfl|rfl|rfl<;>rfl
theorem b1N (zs:List Int)(l:List Nat)(h:(lits .i64 zs:List (DataW Unit))=l.map fun (f:Nat)=>DataW.lit (.int .i64 (f:Int))):zs=l.map fun (f:Nat)=>(f:Int):=by
 induction l generalizing zs with
 | nil=>
  cases zs with
  | nil=>rfl
  | cons z zs=>simp[lits]at h
 | cons f l ih=>
  cases zs with
  | nil=>simp[lits]at h
  | cons z zs=>
   simp only[lits,List.map_cons,List.cons.injEq,DataW.lit.injEq,Lit.int.injEq,true_and]at h;rw[List.map_cons,h.1,ih zs h.2]
theorem a3B {a:Addr}{v:Value}(h:W.cell? a=some v):a.spot=none:=by
 unfold World.cell? at h
 split at h
 ·cases hsp:a.spot with
  | none=>rfl
  | some x=>simp[hsp]at h
 ·simp at h
theorem b4e {rest : List (String × DataW Unit)} (h2s : 2 < W.heap.size) (h : laidMet Tryz.prog (("wharf/wire.layouts", Rows.laid_wharf_wire_layouts) :: ("wharf/wire.rows", Rows.laid_wharf_wire_rows) :: rest) W) : Lays W.heap.size W := by
 obtain⟨ps,⟨g,t,cs,fuel,p,q,hg,ht,hvar,hd,⟨g2,t2,cs2,fuel2,p2,q2,hg2,ht2,hvar2,hd2,_,_⟩,_⟩,_⟩:=h;obtain rfl:=Option.some.inj (gLay.symm.trans hg);obtain rfl:=Option.some.inj (gLayT.symm.trans ht);obtain rfl:=Option.some.inj (gRow.symm.trans hg2);obtain rfl:=Option.some.inj (gRowT.symm.trans ht2);have hrow:∀i,i<45->W.cell? ⟨1,i,none⟩=some (.int .i64 (Wp.rowTab.getD i 0)):=by
  obtain⟨xs,m,_,hx,hl,hlen,hel⟩:=DataW.trod_array Tryz.underlying175 hd2;intro i hi;have hi3:i / 3<15:=by omega
  have h1:=hel (i / 3) hi3;rw[b0y,List.getElem?_eq_getElem (by omega)]at h1;obtain⟨y0,y1,y2,n,hy,_,a0,a1,a2⟩:=trod_struct3 Tryz.underlying174 h1;have hdat:=b1E (i / 3) hi3 _ (congrArg Prod.fst hx);rw[List.getElem?_map,List.getElem?_eq_getElem (by omega)]at hdat
  have hdat2:=Option.some.inj hdat
  rw[hy]at hdat2;injection hdat2 with hdat3;simp only[List.cons.injEq,and_true]at hdat3;obtain⟨z0,e0,f0,_⟩:=DataW.trod_int Tryz.underlying173 a0;obtain⟨z1,e1,f1,_⟩:=DataW.trod_int Tryz.underlying3 a1;obtain⟨z2,e2,f2,_⟩:=DataW.trod_int Tryz.underlying3 a2;rw[f0,f1,f2]at hdat3;simp only[DataW.lit.injEq,Lit.int.injEq,true_and]at hdat3;have hc2:W.cell? ⟨1,i,none⟩=cs2[i]?:=World.var?_cell gRow hvar2 i;rw[hc2];have hmod:i=i / 3*3\/i=i / 3*3+1\/i=i / 3*3+2:=by omega
  rcases hmod with hm|hm|hm
  ·have e:=congrArg (·[0]?) e0;simp[b0x]at e;rw[hm,e,hdat3.1];rw[Nat.mul_comm 3 (i / 3)]
  ·have e:=congrArg (·[0]?) e1;simp[xF]at e;rw[hm,e,hdat3.2.1];rw[Nat.mul_comm 3 (i / 3)]
  ·have e:=congrArg (·[0]?) e2;simp[xF]at e;rw[hm,e,hdat3.2.2];rw[Nat.mul_comm 3 (i / 3)]
 refine⟨?_,hrow,?_⟩
 ·exact h2s
 ·obtain⟨xs,m,_,hx,hl,hlen,hel⟩:=DataW.trod_array Tryz.underlying138 hd;intro i hi;have h1:=hel i hi;rw[b3B,Nat.mul_one,List.getElem?_eq_getElem (by omega)]at h1;have hdat:=b1C i hi _ (congrArg Prod.fst hx);rw[List.getElem?_map,List.getElem?_eq_getElem (by omega)]at hdat
  have hdat2:=Option.some.inj hdat
  have hc1:W.cell? ⟨0,i,none⟩=cs[i]?:=World.var?_cell gLay hvar i;rcases open_ints Tryz.underlying137 Tryz.underlying139 b3C h1 with ⟨hcs,hy⟩|⟨a,len,cap,zs,hcs,_,hle,_,hz,hy,hcell,_⟩
  ·have e:=congrArg (·[0]?) hcs;simp at e;have hlay:Wp.lay i=[]:=by
    have h2:(DataW.nil:DataW Unit)=dat (Wp.lay i):=(congrArg Prod.fst hy).symm.trans hdat2;unfold dat at h2
    by_cases hn:Wp.lay i=[]
    ·exact hn
    ·rw[if_neg hn]at h2;cases h2
   refine⟨none,0,?_,fun j hj=>?_⟩
   ·rw[hc1,e,hlay];rfl
   ·rw[hlay]at hj;simp at hj
  ·have e:=congrArg (·[0]?) hcs;simp at e;have h2:(.slice (lits .i64 (zs.take len)) (lits .i64 (zs.drop len)):DataW Unit)=dat (Wp.lay i):=(congrArg Prod.fst hy).symm.trans hdat2;unfold dat at h2
   by_cases hn:Wp.lay i=[]
   ·rw[if_pos hn]at h2;cases h2
   ·rw[if_neg hn]at h2;injection h2 with h3 h4;have h5:=b1N _ _ h3;have hzl:zs.length=cap:=hz;have hll:(Wp.lay i).length=len:=by
     have:=congrArg List.length h5;rw[List.length_take,List.length_map]at this;omega
    refine⟨some a,cap,?_,fun j hj=>?_⟩
    ·rw[hc1,e,hll]
    ·have hj2:j<zs.length:=by omega
     have h0:=hcell 0 (by omega);have hs:=a3B (by rw[show a.add 0=a by unfold Addr.add;rw[if_pos rfl]]at h0;exact h0);obtain⟨b,o,sp⟩:=a;simp only at hs;subst hs;have h6:=hcell j hj2;rw[a2k]at h6;refine⟨b,o,rfl,World.block_lt_of_cell? _ _ h6,?_⟩;rw[h6];congr 2;have h7:=congrArg (fun l=>l.getD j 0) h5;simp only[List.getD_eq_getElem?_getD,List.getElem?_map,List.getElem?_take]at h7 ⊢;rw[if_pos (by omega)]at h7;rw[h7,List.getElem?_eq_getElem hj];rfl
end Go.Proofs.YtbdobaapadlcjaaGreatDoor.Keep
namespace Go.Proofs.YtbdobaapadlcjaaGreatDoor
open Go.RowKit
def kC (now:Int)(c:Nat->Option QM)(s:ByteArray):ByteArray×Int×(Nat->Option QM):=if jk s=true then (if (jh s).r.op.toNat=66 then (okL (xV (jh s).bs.length (doL now c (jh s).bs).1),now,(doL now c (jh s).bs).2) else doQ now c (jh s).r) else (⟨#[1]⟩,now,c)
theorem b6q (B x st j:Nat)(s:ByteArray)(w:World)(hs:s.size<=maxLen)(hL:Lays B w)(hBw:B<=w.heap.size)(hg:jk s=false)(hx:w.heap[x]?=some (.cells #[zp st,zp j] 99 (0,0)))(hj:w.cell? ⟨j,2,none⟩=some (.bool false)):
  zT 34 #[zp x,.string s] w (.string ⟨#[1]⟩):=by
 have a1:w.cell? ⟨x,1,none⟩=some (zp j):=(cell_of_row w x 1 _ 99 (0,0) hx).trans rfl;have HP:Hid (zT 60 #[.string s] w (.tuple #[.agg #[.int .u8 0,.int .u8 0,.int .u8 0,.int .i64 0,.int .i64 0,.int .i64 0,.int .i64 0,.int .i64 0,.int .i64 0,.string ⟨#[]⟩,.string ⟨#[]⟩,.string ⟨#[]⟩,.string ⟨#[]⟩,.string ⟨#[]⟩,.slice none 0 0],.int .i64 1])):=by
  refine(a1G B s w hs hL hBw).mono ?_;rintro e w' ⟨h|h,hb⟩
  ·rw[hg]at h;exact absurd h.1 (by decide)
  ·exact⟨h.2,Tch.of_below hb⟩
 have HR:Hid (∀W,zT 61 #[.int .i64 1] W (.string ⟨#[1]⟩)):=fun W=>a0j 1 W
 clear hL hs hg hx;go_enter Tryz.func34,Tryz.ntmps34;go_wp2_with (go_at_call 59;go_in);refine HP.out.mono ?_;rintro e w1 ⟨rfl,t1⟩;have T1:=zH t1;clear t1 HP;go_wp2_with fail;refine(HR.out _).mono ?_;rintro e w2 ⟨rfl,t2⟩;have T2:Hid (Tch [] w w2):=((T1.out.alloc _).trans t2 (by simp));clear t2 HR;go_wp2_with fail;go_ret;exact⟨rfl,T2.out⟩
theorem b7X {N:Prop}(K:ByteArray->World->Prop)(B:Nat)(s:ByteArray)(x st b:Nat)(now:Int)(c:Nat->Option QM)(col:Nat->Nat)(w:World)(hE:Env B w)(hb:Bk B w x st b now c col)(hne:x≠st)(hg:jk s=true)
  (hP:∀Z o room,SG B w st b now Z col->ctZ Z=c->∀(W:World) (y:Sl),Tch [] w W->YS w W y (jh s).bs->Cp 62 #[zp st,.agg (ja (jh s).r y.v)] W fun e w'=>Tch [] W w'/\PlG B N (fun w'=>JgO B w col w' x st o room) K e w'):
  Cp 34 #[zp x,.string s] w fun e w'=>∃t,e=.returned (.string t)/\K t w':=by
 obtain⟨⟨Z,hs,hc⟩,hwf,hnw,⟨o,room,hJ⟩,hfu⟩:=hb;have hOk:∀i x,i<8->Z i=some x->QOk x.Q:=fun i x hi hx=>(hwf i x.Q hi (by rw[<-hc];exact vV hx)).ok
 exact b7U (N:=N) K B o room ⟨(a1R now Z).toArray⟩ s (jh s).r x st _ col w hfu (a9q s hg) hE.lays hE.tab hE.size hE.three hg rfl hJ hne (by rw[a5a];have:=a7D (now:=now) hOk;omega) hs.stb (fun W1 hf1=>b0f B st b now Z col W1 (hs.fr hf1 (by decide) (by decide) (by decide)) ⟨hnw.1,by have:=hnw.2;omega⟩ hOk) _ rfl (hP Z _ _ hs hc)
theorem a5r (s:ByteArray)(hg:jk s=true)(hop:(jh s).r.op.toNat=66):(1<=(jh s).bs.length/\(jh s).bs.length<=10)/\∀x∈(jh s).bs,x.size<=maxLen:=by
 obtain⟨_,_,h3⟩:=zy s hg;obtain⟨i,hi,ho,hf,_,_⟩:=(vj _ _ _ (a1u s)).1 h3;obtain rfl:i=1:=by omega
 have h14:=List.all_eq_true.1 hf 14 (by decide);have hb:(1:Int)<=((jh s).bs.length:Int)/\((jh s).bs.length:Int)<=10:=a5G h14 (by decide);refine⟨by omega,fun x hx=>?_⟩
 unfold Wp.Rq.fits at h14;rw[if_neg (fun e=>absurd e.1 (by decide)),if_neg (by show ¬((jh s).bs.length:Int)<(1:Int);omega),if_neg (by show ¬(10:Int)<((jh s).bs.length:Int);omega)]at h14;have h15:Wp.short (jh s).bs=true:=h14;have:=of_decide_eq_true (List.all_eq_true.1 h15 x hx);unfold maxLen;omega
theorem YS.at {w W:World}{y:Sl}{bs:List ByteArray}(h:YS w W y bs)(h1:1<=bs.length):∃bb ob yc,y=⟨some ⟨bb,ob,none⟩,bs.length,yc⟩/\w.heap.size<=bb/\bb<W.heap.size/\∀j (hj:j<bs.length),W.cell? ⟨bb,ob+j,none⟩=some (.string bs[j]):=by
 obtain⟨ya,yn,yc⟩:=y;obtain⟨hn,hf⟩:=h;simp only at hn hf;subst hn;obtain⟨bb,ob,rfl,hb,hc⟩:=hf 0 h1;refine⟨bb,ob,yc,rfl,hb,World.block_lt_of_cell? _ _ hc,fun j hj=>?_⟩
 obtain⟨b2,o2,e,_,hc2⟩:=hf j hj;simp only[Option.some.injEq,Addr.mk.injEq,and_true]at e;obtain⟨rfl,rfl⟩:=e;exact hc2
theorem b6p (B:Nat)(s:ByteArray)(x st b:Nat)(now:Int)(c:Nat->Option QM)(col:Nat->Nat)(w:World)(hE:Env B w)(hb:Bk B w x st b now c col)(hne:x≠st)(hs:s.size<=maxLen):
  Cp 34 #[zp x,.string s] w fun e w'=>e=.returned (.string (kC now c s).1)/\Did B x st b w col (kC now c s).2.1 (kC now c s).2.2 w':=by
 cases hg:jk s with
 | false=>
  have e:kC now c s=(⟨#[1]⟩,now,c):=by unfold kC;rw[hg];rfl
  rw[e];obtain⟨o,room,hJ⟩:=hb.jg;obtain⟨j,d,v,n,k,hJ⟩:=hJ.resolve_left hne;refine(b6q B x st j s w hs hE.lays hE.size hg hJ.hx hJ.jr.c2).mono ?_;rintro e w' ⟨rfl,ht⟩;exact⟨rfl,vW hb hE.size ht⟩
 | true=>
  have hend:∀t n c',kC now c s=(t,n,c')->(Cp 34 #[zp x,.string s] w fun e w'=>∃t',e=.returned (.string t')/\t'=t/\Did B x st b w col n c' w')->Cp 34 #[zp x,.string s] w fun e w'=>e=.returned (.string (kC now c s).1)/\Did B x st b w col (kC now c s).2.1 (kC now c s).2.2 w':=fun t n c' e h=>by
   rw[e];refine h.mono ?_;rintro e w' ⟨t,rfl,rfl,hd⟩;exact⟨rfl,hd⟩
  by_cases hop:(jh s).r.op.toNat=66
  ·obtain⟨⟨l1,l2⟩,l3⟩:=a5r s hg hop;refine hend _ _ _ (by unfold kC;rw[if_pos hg,if_pos hop]) (b7X (N:=(doL now c (jh s).bs).2=c) _ B s x st b now c col w hE hb hne hg (fun Z o room hsg hc W y ht hy=>?_));refine vN B _ _ (jh s).r y st b 1 158 now _ W hop (by decide) (hsg.tch ht).stb rfl b6s (fun W1 ht1=>?_);obtain⟨bb,ob,yc,rfl,_,h5,h6⟩:=(hy.tch ht1).at l1;exact a8U B (jh s).r x st b bb ob yc now c col (jh s).bs w hE hb Z o room hsg hc W1 (ht.trans ht1 (by simp)) l2 l3 h5 h6
  ·have hrq:=b2M (a1u s) (a0R s hg hop).1;exact hend _ _ _ (by unfold kC;rw[if_pos hg,if_neg hop]) (b7X _ B s x st b now c col w hE hb hne hg (fun Z o room hsg hc W y ht _=>b1U B (jh s).r x st b now c col w hE hb hrq hop Z o room hsg hc W y ht))
end Go.Proofs.YtbdobaapadlcjaaGreatDoor
