import Derived.Test.YtbdobaapadlcjabGreatDoorHy24
set_option maxRecDepth 8000
set_option maxHeartbeats 4000000
set_option linter.unusedVariables false
set_option linter.unusedSimpArgs false
namespace Go.Proofs.YtbdobaapadlcjabGreatDoor
open Go.RowKit
variable {w wr w2 w' W:World}{g b k B st:Nat}{now:Int}{Z Z':Nat->Option BQ}{col:Nat->Nat}{T:List TypeId}
structure Cpy (w:World)(g b:Nat)(now:Int)(Z:Nat->Option BQ)(k:Nat)(wr:World)(Z':Nat->Option BQ)(col:Nat->Nat):Prop where
 stb:Stb wr g b now (fun i=>ptrV (ptZ Z' i))
 same:∀i,k<=i->Z' i=Z i
 ct:ctZ Z'=ctZ Z
 qr:∀i x,i<k->Z' i=some x->QR wr x.qb x.V x.Q/\∀q∈qbl x.qb x.V,g<q/\col q=i
 old:∀q,q<w.heap.size->col q=9
 cg:col g≠9
 fut:∀q,wr.heap.size<=q->col q≠9
 tch:Tch [] w wr
theorem Cpy.skip (h:Cpy w g b now Z k wr Z' col)(hz:Z k=none):Cpy w g b now Z (k+1) wr Z' col:=
 ⟨h.stb,fun i hi=>h.same i (by omega),h.ct,fun i x hi hx=>by
  by_cases e:i=k
  ·rw[e,h.same k (Nat.le_refl _),hz]at hx
   cases hx
  ·exact h.qr i x (by omega) hx,h.old,h.cg,h.fut,h.tch⟩
theorem ptZ_updP (Z:Nat->Option BQ)(i:Nat)(x:BQ):(fun j=>ptrV (ptZ (updZ Z i (some x)) j))=updP (fun i=>ptrV (ptZ Z i)) i (.pointer (some ⟨x.qb,0,none⟩)):=by
 funext j;unfold updP ptZ updZ
 by_cases e:j=i
 ·simp[e,ptrV]
 ·simp[e]
theorem Cpy.put (h:Cpy w g b now Z k wr Z' col)(hg:w.heap.size<=g)(hk:k<8){x:BQ}(hz:Z k=some x){qb:Nat}{V:QV}(hq:QR w2 qb V x.Q)(hn:∀q∈qbl qb V,wr.heap.size<=q)(ht:Tch [] wr w2):
  Cpy w g b now Z (k+1) (w2.setCell ⟨g,1+k,none⟩ (.pointer (some ⟨qb,0,none⟩))) (updZ Z' k (some ⟨qb,V,x.Q⟩)) (fun q=>if q<wr.heap.size then col q else k):=by
 have hlg:=h.stb.lt;have hs2:=h.stb.tch ht (by simp);have hz2:=ht.size;have t3:Tch [g] w2 (w2.setCell ⟨g,1+k,none⟩ (.pointer (some ⟨qb,0,none⟩))):=(Tch.refl _ _).setCell (fun _=>by simp) _;refine⟨?_,fun i hi=>?_,?_,fun i y hi hy=>?_,fun q hq=>?_,?_,fun q hq=>?_,(h.tch.trans ht (by simp)).setCell (fun hl=>absurd hl (by simp;omega)) _⟩
 ·rw[ptZ_updP];exact hs2.set k hk _
 ·rw[updZ_ne _ _ (by omega)];exact h.same i (by omega)
 ·rw[ctZ_upd,h.ct];funext j;unfold setC
  split
  ·rename_i e
   rw[e,ctZ_some hz];rfl
  ·rfl
 ·by_cases e:i=k
  ·subst e;rw[updZ_same]at hy;injection hy with hy;subst hy;exact⟨hq.tch t3 (fun q hq' hm=>by
    simp at hm;have:=hn q hq';omega),fun q hq'=>⟨by have:=hn q hq';omega,if_neg (by have:=hn q hq';omega)⟩⟩
  ·rw[updZ_ne _ _ e]at hy;obtain⟨h1,h2⟩:=h.qr i y (by omega) hy;exact⟨(h1.tch ht (by simp)).tch t3 (fun q hq' hm=>by
    simp at hm;have:=(h2 q hq').1;omega),fun q hq'=>⟨(h2 q hq').1,(if_pos (h1.lt q hq')).trans (h2 q hq').2⟩⟩
 ·show (if q<wr.heap.size then col q else k)=9
  rw[if_pos (by have:=h.tch.size;omega)];exact h.old q hq
 ·show (if g<wr.heap.size then col g else k)≠9
  rw[if_pos hlg];exact h.cg
 ·show (if q<wr.heap.size then col q else k)≠9
  rw[if_neg (by have:=t3.size;omega)];omega
theorem wpList_alloc {ops:Array Oper}{rest:List Oper}{o:Oper}{a:Act}{Q:Exit->Act->World->Prop}(hgd:o.guard=none)(ty:TypeId)(ho:o.op=.alloc ty)(z:Array Value)(hz:(Tryz.prog.info? ty).map (fun i=>i.zero.map Value.cells)=some (some z))
  (h:wpList Tryz.prog ops Q rest (a.put o.dst (.pointer (some ⟨w.heap.size,0,none⟩))) (w.alloc (.cells z ty))):wpList Tryz.prog ops Q (o::rest) a w:=
 wpList_plain hgd fun _ hK=>by
  cases hi:Tryz.prog.info? ty with
  | none=>simp[hi]at hz
  | some i=>
   simp only[hi,Option.map_some,Option.some.injEq]at hz
   cases hz0:i.zero with
   | none=>simp[hz0]at hz
   | some z0=>
    simp only[hz0,Option.map_some,Option.some.injEq]at hz;subst hz;unfold Oper.wp execOp;simp[ho,Instr.alloc,zeroValue,typeInfo,hi,hz0,newVar,newRow,newObj];exact hK _ _ h
def zst:Array Value:=#[.int .i64 0,.pointer none,.pointer none,.pointer none,.pointer none,.pointer none,.pointer none,.pointer none,.pointer none,.nilFunc,.nilFunc,.nilFunc,.nilFunc,.nilFunc,.nilFunc,.nilFunc,.nilFunc,.nilFunc,.nilFunc,.nilFunc,.nilFunc,.nilFunc,.nilFunc,.nilFunc,.nilFunc,.nilFunc,.nilFunc,.nilFunc,.nilFunc,.nilFunc,.nilFunc,.nilFunc,.nilFunc,.nilFunc,.nilFunc]
theorem zero156:(Tryz.prog.info? 94).map (fun i=>i.zero.map Value.cells)=some (some zst):=by kernel_rfl
theorem info156:(Tryz.prog.info? 94).map (·.size)=some 35:=by kernel_rfl
theorem stG_one (now:Int)(P:Nat->Option Nat)(b:Nat):(stG now (fun i=>ptrV (P i)) b).all (·.oneCell')=true:=by
 have h1:∀i,(ptrV (P i)).oneCell'=true:=fun i=>by cases P i<;>rfl
 have h2:(stH now (fun i=>ptrV (P i))).all (·.oneCell')=true:=by
  unfold stH;simp only[List.all_toArray,List.all_cons,List.all_nil,h1,Bool.and_true];rfl
 unfold stG;rw[Array.all_append,deeds_one,h2];rfl
theorem scopy_x (st b:Nat)(now:Int)(Z:Nat->Option BQ)(w w1:World)(C:Array Value)(hw1:w1=(w.alloc (.cells zst 94)).setRow w.heap.size C)(hsb:w.heap[st]?=some (.cells C 94 (0,0)))(hone:C.all (·.oneCell')=true)(hsz:C.size=35)(hlt:st<w1.heap.size)(HC:∀i,i<8->w1.cell? ⟨st,1+i,none⟩=some (ptrV (ptZ Z i)))
  (HB1:Hid (Cpy w w.heap.size b now Z 0 w1 Z (fun q=>if q<w.heap.size then 9 else 0)))
  (HQC:Hid (∀W k x,Tch [] w W->k<8->Z k=some x->Calls Tryz.prog 184 #[.pointer (some ⟨x.qb,0,none⟩)] W fun e w'=>∃qb' V',e=.returned (.pointer (some ⟨qb',0,none⟩))/\QR w' qb' V' x.Q/\(∀k∈qbl qb' V',W.heap.size<=k)/\Tch [] W w')):
  Calls Tryz.prog 150 #[.pointer (some ⟨st,0,none⟩)] w fun e w'=>∃Z' col',e=.returned (.pointer (some ⟨w.heap.size,0,none⟩))/\Cpy w w.heap.size b now Z 8 w' Z' col':=by
 have d1:w1.cell? ⟨st,1,none⟩=some (ptrV (ptZ Z 0)):=HC 0 (by decide);have d2:w1.cell? ⟨st,2,none⟩=some (ptrV (ptZ Z 1)):=HC 1 (by decide);have d3:w1.cell? ⟨st,3,none⟩=some (ptrV (ptZ Z 2)):=HC 2 (by decide);have d4:w1.cell? ⟨st,4,none⟩=some (ptrV (ptZ Z 3)):=HC 3 (by decide);have d5:w1.cell? ⟨st,5,none⟩=some (ptrV (ptZ Z 4)):=HC 4 (by decide);have d6:w1.cell? ⟨st,6,none⟩=some (ptrV (ptZ Z 5)):=HC 5 (by decide);have d7:w1.cell? ⟨st,7,none⟩=some (ptrV (ptZ Z 6)):=HC 6 (by decide);have d8:w1.cell? ⟨st,8,none⟩=some (ptrV (ptZ Z 7)):=HC 7 (by decide);have HIX:Hid (∀k:Nat,k<8->∀W:World,(Instr.index 89 (.agg #[ptrV (ptZ Z 0),ptrV (ptZ Z 1),ptrV (ptZ Z 2),ptrV (ptZ Z 3),ptrV (ptZ Z 4),ptrV (ptZ Z 5),ptrV (ptZ Z 6),ptrV (ptZ Z 7)]) (.int .i64 (k:Int))).run Tryz.prog W=.ok (ptrV (ptZ Z k)) W):=fun k hk W=>idx8 (fun i=>ptrV (ptZ Z i)) k hk W
 have HI1:Hid ((Tryz.prog.info? 94).map (·.size)=some C.size):=by
  show _=_
  rw[hsz];exact info156
 have HSB:=zH hsb;have HON:=zH hone;have HSZ:Hid (zst.size=C.size):=by
  show _=_
  rw[hsz];rfl
 have HW1:=zH hw1;clear hsb hone hsz hw1 HC;go_enter Tryz.func150,Tryz.ntmps150;go_wp2_with (first|(refine wpList_load_row rfl 94 _ rfl st rfl 94 C (0,0) _ HSB.out Tryz.underlying94 rfl HI1.out ?_)|(refine wpList_alloc rfl 94 rfl zst zero156 ?_)|(refine wpList_store_row rfl 94 _ _ rfl w.heap.size C rfl rfl 94 zst (heap_alloc_new _ _) HI1.out HSZ.out HON.out ?_;rw[<-HW1.out]))
 go_loopw [13] (fun kv wr=>∃(k:Nat) (Z':Nat->Option BQ) (col':Nat->Nat),k<=8/\kv=.int .i64 (k:Int)/\Cpy w w.heap.size b now Z k wr Z' col') (fun kv _=>8-(intOf kv).toNat)
 case atStart=>exact⟨0,Z,_,by decide,rfl,HB1.out⟩
 case round=>
  obtain⟨k,Z',col',hk,rfl,hc⟩:=hrel;have HCP:=zH hc
  by_cases hlt:k<8
  ·have hix:=HIX.out k hlt
   cases hp:Z k with
   | none=>
    have hix':∀W:World,(Instr.index 89 (.agg #[ptrV (ptZ Z 0),ptrV (ptZ Z 1),ptrV (ptZ Z 2),ptrV (ptZ Z 3),ptrV (ptZ Z 4),ptrV (ptZ Z 5),ptrV (ptZ Z 6),ptrV (ptZ Z 7)]) (.int .i64 (k:Int))).run Tryz.prog W=.ok (.pointer none) W:=fun W=>by
     have:=hix W;unfold ptZ at this ⊢;rw[hp]at this;exact this
    have HF:=zH (hc.skip hp);clear hix hp hc HCP;go_wp2_with fail;go_roundw
    case rel=>exact⟨k+1,_,_,by omega,by go_num,HF.out⟩
    case measure=>simp[intOf];omega
   | some x=>
    have hix':∀W:World,(Instr.index 89 (.agg #[ptrV (ptZ Z 0),ptrV (ptZ Z 1),ptrV (ptZ Z 2),ptrV (ptZ Z 3),ptrV (ptZ Z 4),ptrV (ptZ Z 5),ptrV (ptZ Z 6),ptrV (ptZ Z 7)]) (.int .i64 (k:Int))).run Tryz.prog W=.ok (.pointer (some ⟨x.qb,0,none⟩)) W:=fun W=>by
     have:=hix W;unfold ptZ at this ⊢;rw[hp]at this;exact this
    have HQ:=zH (HQC.out wr k x hc.tch hlt hp);have HPZ:=zH hp;clear hix hp hc;go_wp2_with fail;refine HQ.out.mono ?_;rintro e w2 ⟨qb,V,rfl,hq,hn,ht⟩;have hs2:=HCP.out.stb.tch ht (by simp);have HF:=zH (HCP.out.put (Nat.le_refl _) hlt HPZ.out hq hn ht);have cz:=hs2.fz (1+k);have c1:=hs2.cell k hlt;have lg:=hs2.lt;have hb0:(0:Int)<=(k:Int):=Int.natCast_nonneg k;have hb1:(k:Int)<8:=by omega
    clear hq hn ht hs2 HQ HCP;go_wp2_with fail;go_roundw
    case rel=>exact⟨k+1,_,_,by omega,by go_num,HF.out⟩
    case measure=>simp[intOf];omega
  ·have hke:k=8:=by omega
   subst hke;clear hc;go_wp2_with fail;go_ret;exact⟨_,_,rfl,HCP.out⟩
theorem scopy_any (B st b:Nat)(now:Int)(Z:Nat->Option BQ)(col:Nat->Nat)(w:World)(h:SG B w st b now Z col)(hO:∀i x,i<8->Z i=some x->QOk x.Q):
  Calls Tryz.prog 150 #[.pointer (some ⟨st,0,none⟩)] w fun e w'=>∃Z' col',e=.returned (.pointer (some ⟨w.heap.size,0,none⟩))/\Cpy w w.heap.size b now Z 8 w' Z' col':=by
 have T1:Tch [] w ((w.alloc (.cells zst 94)).setRow w.heap.size (stG now (fun i=>ptrV (ptZ Z i)) b)):=((Tch.refl _ _).alloc _).setRow (fun h=>absurd h (Nat.lt_irrefl _)) _;have hs1:=h.stb.tch T1 (by simp);refine scopy_x st b now Z w _ _ rfl h.stb (stG_one now (ptZ Z) b) (by unfold stG;rw[Array.size_append,stH_size];rfl) hs1.lt (fun i hi=>hs1.cell i hi) ?_ (fun W k x ht hk hx=>?_)
 ·refine⟨setRow_heap _ _ _ _ 94 (0,0) (heap_alloc_new _ _),fun _ _=>rfl,rfl,fun i x hi _=>by omega,fun q hq=>if_pos hq,by simp,fun q hq=>?_,T1⟩
  show (if q<w.heap.size then 9 else 0)≠9
  rw[if_neg (by have:=T1.size;omega)];decide
 ·have ho:=hO k x hk hx;exact qcopy_any x.Q x.V x.qb W ((h.qr k x hk hx).tch ht (by simp)) (by have:=ho.ml;omega) (by have:=ho.rl;omega) (by have:=ho.dl;omega) (by have:=ho.al;omega)
def rec9 (w w':World)(col:Nat->Nat):Nat->Nat:=fun q=>if w.heap.size<=q/\q<w'.heap.size then 9 else col q
theorem rec9_old {q:Nat}(h:q<w.heap.size):rec9 w w' col q=col q:=if_neg (by omega)
theorem SG.recol {col':Nat->Nat}(h:SG B w st b now Z col)(ha:∀k,k<w.heap.size->col' k=col k):SG B w st b now Z col':=
 ⟨h.stb,h.tb,h.qr,fun i x hi hx k hk=>(ha k ((h.qr i x hi hx).lt k hk)).trans (h.cl i x hi hx k hk),h.lo,h.ls,by rw[ha st h.stb.lt];exact h.cs⟩
theorem Sk.fr {x:Gh B}{c:Nat->Option QM}(h:Sk B w x st b now c col){T:List TypeId}(hf:Fr B T w w')(h1:∀t∈TA,t∉T)(h2:60∉T)(h3:186∉T):Sk B w' x st b now c col/\Sk B w' x st b now c (rec9 w w' col):=by
 obtain⟨⟨Z,hs,hc⟩,hw,hn,hJ,hfu⟩:=h;have hq:∀t∈TQ,t∉T:=fun t ht=>h1 t (ts_ta t (tq_ta ht))
 have hs2:=(hs.recol (col':=rec9 w w' col) (fun k hk=>rec9_old hk)).fr hf (h1 94 (by decide)) h3 hq;have hJ1:∀f,x.P f w col->x.P f w' col:=fun f h=>x.g h hf h2 (h1 85 (by decide)) (h1 77 (by decide)) (h1 79 (by decide))
 have hJ2:∀f,x.P f w col->x.P f w' (rec9 w w' col):=fun f h=>x.g (x.r h (col':=rec9 w w' col) (fun k hk e=>by rw[rec9_old hk]at e;exact e) (fun h=>rec9_old h)) hf h2 (h1 85 (by decide)) (h1 77 (by decide)) (h1 79 (by decide))
 have hsz:=hf.size;refine⟨⟨⟨Z,hs.fr hf (h1 94 (by decide)) h3 hq,hc⟩,hw,hn,hJ.imp (hJ1 true) (fun h=>⟨hJ1 false h.1,h.2⟩),fun k hk=>hfu k (by omega)⟩,⟨⟨Z,hs2,hc⟩,hw,hn,hJ.imp (hJ2 true) (fun h=>⟨hJ2 false h.1,h.2⟩),fun k hk=>?_⟩⟩
 show (if _ then _ else _)≠9
 rw[if_neg (by omega)];exact hfu k (by omega)
def doI (now:Int)(c:Nat->Option QM)(s:ByteArray):ByteArray×(Nat->Option QM):=if parseGood s=true/\((endSt s).r.op=83\/(endSt s).r.op=65\/(endSt s).r.op=69) then ((doQ now c (endSt s).r).1,(doQ now c (endSt s).r).2.2) else (⟨#[1]⟩,c)
def doL (now:Int)(c:Nat->Option QM):List ByteArray->List ByteArray×(Nat->Option QM)
 | []=>([],c)
 | s::l=>((doI now c s).1::(doL now (doI now c s).2 l).1,(doL now (doI now c s).2 l).2)
theorem doL_snoc (now:Int)(s:ByteArray):∀(l:List ByteArray) (c:Nat->Option QM),doL now c (l++[s])=((doL now c l).1++[(doI now (doL now c l).2 s).1],(doI now (doL now c l).2 s).2)
 | [],c=>rfl
 | a::l,c=>by
  show ((doI now c a).1::(doL now (doI now c a).2 (l++[s])).1,(doL now (doI now c a).2 (l++[s])).2)=_
  rw[doL_snoc now s l];rfl
theorem doL_len (now:Int):∀(l:List ByteArray) (c:Nat->Option QM),(doL now c l).1.length=l.length
 | [],c=>rfl
 | a::l,c=>by
  show (doL now (doI now c a).2 l).1.length+1=_
  rw[doL_len now l];rfl
theorem doQ_now (now:Int)(c:Nat->Option QM)(r:Wp.Rq)(h:r.op=83\/r.op=65\/r.op=69):(doQ now c r).2.1=now:=by
 have hA:∀f,(doA now c r f).2.1=now:=fun f=>by
  unfold doA
  split
  ·rfl
  ·split
   ·rfl
   ·split<;>rfl
 rcases h with h|h|h
 ·unfold doQ;rw[h];simp only[show ¬(83:UInt8)=84 from by decide,show ¬(83:UInt8)=65 from by decide,show ¬(83:UInt8)=69 from by decide,if_false]
  split
  ·rfl
  ·simp only[show ¬(83:UInt8)=67 from by decide,show ¬(83:UInt8)=88 from by decide,show ¬(83:UInt8)=80 from by decide,show ¬(83:UInt8)=86 from by decide,show ¬(83:UInt8)=82 from by decide,if_false]
   unfold doS
   split
   ·rfl
   ·split
    ·rfl
    ·split
     ·rfl
     ·split<;>rfl
 ·unfold doQ;rw[h];exact hA _
 ·unfold doQ;rw[h];exact hA _
theorem inner_ok (s:ByteArray)(hg:parseGood s=true)(h:(endSt s).r.op=83\/(endSt s).r.op=65\/(endSt s).r.op=69):RqOk (endSt s).r/\(endSt s).r.op.toNat≠66:=by
 have hn:(endSt s).r.op.toNat≠66:=by
  rcases h with e|e|e<;>rw[e]<;>decide
 exact⟨rq_ok (end_wf s) (good_right s hg hn).1,hn⟩
abbrev In (B:Nat)(w:World)(st b:Nat)(now:Int)(c:Nat->Option QM)(col:Nat->Nat):Prop:=Sk B w (Gh.tt B) st b now c col
theorem inner_bad (B:Nat)(s:ByteArray)(st:Nat)(w:World)(hL:Lays B w)(hB:B<=w.heap.size)(hs:s.size<=maxLen)(hno:¬(parseGood s=true/\((endSt s).r.op=83\/(endSt s).r.op=65\/(endSt s).r.op=69))):
  zT 151 #[.pointer (some ⟨st,0,none⟩),.string s] w (.tuple #[.string ⟨#[1]⟩,.nilFunc]):=by
 have HR:Hid (∀W,zT 29 #[.int .i64 1] W (.string ⟨#[1]⟩)):=fun W=>refusal_any 1 W
 cases hg:parseGood s with
 | false=>
  have HP:Hid (zT 28 #[.string s] w (.tuple #[.agg #[.int .u8 0,.int .u8 0,.int .u8 0,.int .i64 0,.int .i64 0,.int .i64 0,.int .i64 0,.int .i64 0,.int .i64 0,.string ⟨#[]⟩,.string ⟨#[]⟩,.string ⟨#[]⟩,.string ⟨#[]⟩,.string ⟨#[]⟩,.slice none 0 0],.int .i64 1])):=by
   refine(parse_any B s w hs hL hB).mono ?_;rintro e w' ⟨h|h,hb⟩
   ·rw[hg]at h;exact absurd h.1 (by decide)
   ·exact⟨h.2,Tch.of_below hb⟩
  clear hL hs hg hno;go_enter Tryz.func151,Tryz.ntmps151;go_wp2_with fail;refine HP.out.mono ?_;rintro e w1 ⟨rfl,t1⟩;have T1:=zH t1;clear t1 HP;go_wp2_with fail;refine(HR.out _).mono ?_;rintro e w2 ⟨rfl,t2⟩;have T2:Hid (Tch [] w w2):=((T1.out.alloc _).trans t2 (by simp));clear t2 HR;go_wp2_with fail;go_ret2;exact⟨rfl,T2.out⟩
 | true=>
  have hop:¬((endSt s).r.op=83\/(endSt s).r.op=65\/(endSt s).r.op=69):=fun h=>hno ⟨hg,h⟩
  have HN:Hid (∀W,zE 185 #[.int .u8 ((endSt s).r.op.toNat:Int)] W (.bool false)):=fun W=>inner_no _ W (fun e=>hop (.inl (UInt8.toNat_inj.1 (by simpa using (Int.ofNat_inj.1 e))))) (fun e=>hop (.inr (.inl (UInt8.toNat_inj.1 (by simpa using (Int.ofNat_inj.1 e)))))) (fun e=>hop (.inr (.inr (UInt8.toNat_inj.1 (by simpa using (Int.ofNat_inj.1 e))))))
  have HP:=zH (parse_ys B s _ _ w hs hL hB hg rfl rfl);have hinf:=info37;generalize (endSt s).r=r at*
  clear hL hs hg hno hop;go_enter Tryz.func151,Tryz.ntmps151;go_wp2_with fail;refine HP.out.mono ?_;rintro e w1 ⟨y,rfl,hb,_⟩;obtain⟨wl,hwl⟩:∃wl,wl=laidIn w1 (cellsOf r y.v):=⟨_,rfl⟩;have c0:wl.cell? ⟨w1.heap.size,0,none⟩=some (.int .u8 (r.op.toNat:Int)):=by rw[hwl];exact cell_qC (laidIn_heap _ _) 0 _ rfl
  have T1:Hid (Tch [] w wl):=by
   show Tch _ _ _
   rw[hwl];exact(Tch.of_below hb).trans (laidIn_tch _ _) (by simp)
  have lw:=World.block_lt_of_cell? _ _ c0;have HWL:=zH hwl;clear hb hwl HP;go_wp2_with (first|(refine wpList_store_row rfl 24 _ _ rfl w1.heap.size (cellsOf r y.v) rfl rfl 24 _ (heap_alloc_new _ _) hinf rfl (cells_one _ _) ?_;rw[laidIn_is,<-HWL.out])|(go_at_call 185;refine(HN.out _).mono ?_;rintro e w2 ⟨rfl,rfl⟩));refine(HR.out _).mono ?_;rintro e w2 ⟨rfl,t2⟩;have T2:Hid (Tch [] w w2):=(T1.out.trans t2 (by simp));clear t2 HR;go_wp2_with fail;go_ret2;exact⟨rfl,T2.out⟩
theorem inner_good (G:World->Ending->World->Prop)(B:Nat)(s:ByteArray)(st:Nat)(w:World)(hL:Lays B w)(hB:B<=w.heap.size)(hs:s.size<=maxLen)(hg:parseGood s=true)(hop:(endSt s).r.op=83\/(endSt s).r.op=65\/(endSt s).r.op=69)
  (HC:∀W y,Tch [] w W->Calls Tryz.prog 30 #[.pointer (some ⟨st,0,none⟩),.agg (cellsOf (endSt s).r (Sl.v y))] W fun e w'=>Tch [] W w'/\(∃t chg,e=.returned (.tuple #[.string t,chg]))/\G W e w'):
  Calls Tryz.prog 151 #[.pointer (some ⟨st,0,none⟩),.string s] w fun e w'=>Tch [] w w'/\∃W,G W e w':=by
 have HN:Hid (∀W,zE 185 #[.int .u8 ((endSt s).r.op.toNat:Int)] W (.bool true)):=fun W=>inner_yes _ W (by rcases hop with e|e|e<;>rw[e]<;>decide)
 have HP:=zH (parse_ys B s _ _ w hs hL hB hg rfl rfl);have hinf:=info37;have HD:=zH HC;clear HC;generalize (endSt s).r=r at*
 clear hL hs hg hop;go_enter Tryz.func151,Tryz.ntmps151;go_wp2_with fail;refine HP.out.mono ?_;rintro e w1 ⟨y,rfl,hb,_⟩;obtain⟨wl,hwl⟩:∃wl,wl=laidIn w1 (cellsOf r y.v):=⟨_,rfl⟩;have c0:wl.cell? ⟨w1.heap.size,0,none⟩=some (.int .u8 (r.op.toNat:Int)):=by rw[hwl];exact cell_qC (laidIn_heap _ _) 0 _ rfl
 have hbl:wl.heap[w1.heap.size]?=some (.cells (cellsOf r y.v) 24 (0,0)):=by rw[hwl];exact laidIn_heap _ _
 have T1:Hid (Tch [] w wl):=by
  show Tch _ _ _
  rw[hwl];exact(Tch.of_below hb).trans (laidIn_tch _ _) (by simp)
 have HD1:=zH (HD.out wl y T1.out);have lw:=World.block_lt_of_cell? _ _ c0;have HWL:=zH hwl;clear hb hwl HP HD;go_wp2_with (first|(refine wpList_store_row rfl 24 _ _ rfl w1.heap.size (cellsOf r y.v) rfl rfl 24 _ (heap_alloc_new _ _) hinf rfl (cells_one _ _) ?_;rw[laidIn_is,<-HWL.out])|(go_at_call 185;refine(HN.out _).mono ?_;rintro e w2 ⟨rfl,rfl⟩)|(refine wpList_load_row rfl 24 _ rfl w1.heap.size rfl 24 (cellsOf r y.v) (0,0) _ hbl Tryz.underlying24 rfl hinf ?_));refine HD1.out.mono ?_;rintro e w2 ⟨t2,⟨t,chg,rfl⟩,hG⟩;have T2:Hid (Tch [] w w2):=(T1.out.trans t2 (by simp));have HG:=zH hG;clear t2 hG HD1;go_wp2_with fail;go_ret2;exact⟨T2.out,_,HG.out⟩
theorem inner_any (B:Nat)(s:ByteArray)(st b:Nat)(now:Int)(c:Nat->Option QM)(col:Nat->Nat)(w:World)(hE:Env B w)(hb:In B w st b now c col)(hs:s.size<=maxLen):
  Calls Tryz.prog 151 #[.pointer (some ⟨st,0,none⟩),.string s] w fun e w'=>Tch [] w w'/\PlG B ((doI now c s).2=c) (fun w'=>(Gh.tt B).JO w col w') (fun t w'=>t=(doI now c s).1/\Sd B (Gh.tt B) st b w col now (doI now c s).2 w') e w':=by
 by_cases hi:parseGood s=true/\((endSt s).r.op=83\/(endSt s).r.op=65\/(endSt s).r.op=69)
 ·have e1:doI now c s=((doQ now c (endSt s).r).1,(doQ now c (endSt s).r).2.2):=if_pos hi;obtain⟨h1,h2⟩:=inner_ok s hi.1 hi.2;have hn:=doQ_now now c _ hi.2;rw[e1];obtain⟨Z,hz,hc⟩:=hb.sg;refine(inner_good (fun _ e w'=>PlG B ((doQ now c (endSt s).r).2.2=c) (fun w'=>(Gh.tt B).JO w col w') (fun t w'=>t=(doQ now c (endSt s).r).1/\Sd B (Gh.tt B) st b w col now (doQ now c (endSt s).r).2.2 w') e w') B s st w hE.lays hE.size hs hi.1 hi.2 (fun W y ht=>?_)).mono (fun e w' h=>⟨h.1,h.2.choose_spec⟩);refine(op_any B (endSt s).r (Gh.tt B) st b now c col w hE hb h1 h2 Z none 0 hz hc W y ht).mono (fun e w' h=>?_);rw[hn]at h;exact⟨h.1,h.2.shape,h.2⟩
 ·have e1:doI now c s=(⟨#[1]⟩,c):=if_neg hi;rw[e1];refine(inner_bad B s st w hE.lays hE.size hs hi).mono ?_;rintro e w' ⟨rfl,ht⟩;exact⟨ht,_,.inl ⟨rfl,rfl,fun w2 ht2=>⟨rfl,did_same hb hE.size (ht.trans ht2 (by simp))⟩⟩⟩
theorem Env.fq {c:Nat->Nat}(h:Env B w)(hf:FqT T B c w w'):Env B w':=
 h.fr (T:=T++[9]) ⟨hf.os,hf.tape,hf.output,hf.size,hf.low,fun k C t hk ht=>hf.keep k C t hk (fun hm=>ht (List.mem_append.2 (.inl hm)))⟩
theorem doI_size (now:Int)(c:Nat->Option QM)(s:ByteArray):(doI now c s).1.size<=5:=by
 have h1:∀b:UInt8,(⟨#[b]⟩:ByteArray).size<=5:=fun b=>by
  show (#[b]).size<=5
  simp
 have h0:(okL []).size<=5:=by decide
 have h4:∀n,(okL (lowB n 4)).size<=5:=fun n=>by
  show (0::lowB n 4).toArray.size<=5
  simp[lowB_length]
 have hA:∀r f,(doA now c r f).1.size<=5:=fun r f=>by
  unfold doA
  split
  ·exact h1 _
  ·split
   ·exact h1 _
   ·split
    ·exact h0
    ·exact h1 _
 unfold doI
 split
 ·rename_i h
  rcases h.2 with e|e|e
  ·unfold doQ;simp only[e,show ¬(83:UInt8)=84 from by decide,show ¬(83:UInt8)=65 from by decide,show ¬(83:UInt8)=69 from by decide,if_false]
   split
   ·exact h1 _
   ·simp only[show ¬(83:UInt8)=67 from by decide,show ¬(83:UInt8)=88 from by decide,show ¬(83:UInt8)=80 from by decide,show ¬(83:UInt8)=86 from by decide,show ¬(83:UInt8)=82 from by decide,if_false]
    unfold doS
    split
    ·exact h1 _
    ·split
     ·exact h4 _
     ·split
      ·exact h1 _
      ·split
       ·exact h1 _
       ·exact h4 _
  ·unfold doQ;simp only[e];exact hA _ _
  ·unfold doQ;simp only[e];exact hA _ _
 ·exact h1 _
theorem doL_size (now:Int):∀(l:List ByteArray) (c:Nat->Option QM),∀s∈(doL now c l).1,s.size<=5
 | [],c,s,h=>by cases h
 | a::l,c,s,h=>by
  rcases List.mem_cons.1 h with e|e
  ·rw[e];exact doI_size now c a
  ·exact doL_size now l _ s e
theorem In.set9 {c:Nat->Option QM}(h:In B w st b now c col)(ht:Tch [g] w w')(h9:col g=9){C:Array Value}(hg:w.heap[g]?=some (.cells C 9 (0,0))):In B w' st b now c col:=by
 obtain⟨⟨Z,hs,hc⟩,hw,hn,hJ,hfu⟩:=h;refine⟨⟨Z,⟨hs.stb.tch ht (fun hm=>?_),fun q f hq=>(ht.block _ (lt_of_block (hs.tb q f hq)) (fun hm=>?_)).trans (hs.tb q f hq),fun i x hi hx=>(hs.qr i x hi hx).tch ht (fun k hk hm=>?_),hs.cl,hs.lo,hs.ls,hs.cs⟩,hc⟩,hw,hn,.inl trivial,fun k hk=>hfu k (Nat.le_trans ht.size hk)⟩
 ·simp at hm;rw[<-hm]at h9;exact hs.cs h9
 ·simp at hm;have h1:=hs.tb q f hq;rw[hm,hg]at h1;simp at h1
 ·simp at hm;subst hm;have:=hs.cl i x hi hx k hk;omega
structure Bi (B:Nat)(W:World)(st sn b:Nat)(now:Int)(c:Nat->Option QM)(bs:List ByteArray)(g2 g7 ga:Nat)(k:Nat)(chg:Bool)(wr:World)(col:Nat->Nat):Prop where
 bk:In B wr sn b now (doL now c (bs.take k)).2 col
 un:chg=false->(doL now c (bs.take k)).2=c
 row:wr.heap[ga]?=some (.cells (strRow (doL now c (bs.take k)).1 bs.length) 9 (0,0))
 c9:col ga=9
 b2:wr.heap[g2]?=some (.cells #[.pointer (some ⟨st,0,none⟩)] 57 (0,0))
 b7:wr.heap[g7]?=some (.cells #[.pointer (some ⟨sn,0,none⟩)] 57 (0,0))
 old:∀q,q<W.heap.size->col q=9
 new:W.heap.size<=ga/\B<=ga
 tch:Tch [] W wr
 env:Env B wr
theorem Bi.step {sn g2 g7 ga:Nat}{c:Nat->Option QM}{bs:List ByteArray}{chg chg':Bool}(h:Bi B W st sn b now c bs g2 g7 ga k chg wr col)(hk:k<bs.length)(hd:Sd B (Gh.tt B) sn b wr col now (doI now (doL now c (bs.take k)).2 bs[k]).2 w2)(hc:chg'=false->chg=false/\(doI now (doL now c (bs.take k)).2 bs[k]).2=(doL now c (bs.take k)).2):
  ∃col',Bi B W st sn b now c bs g2 g7 ga (k+1) chg' (w2.setCell ⟨ga,k,none⟩ (.string (doI now (doL now c (bs.take k)).2 bs[k]).1)) col':=by
 obtain⟨col',hb,ha,hf⟩:=hd;have e1:bs.take (k+1)=bs.take k++[bs[k]]:=(List.take_append_getElem hk).symm;have e2:=doL_snoc now bs[k] (bs.take k) c;rw[<-e1]at e2;have hlen:(doL now c (bs.take k)).1.length=k:=by rw[doL_len,List.length_take];omega
 have hga:=lt_of_block h.row;have r2:w2.heap[ga]?=_:=(hf.out ga hga h.c9).trans h.row;have c9':col' ga=9:=(ha.1 ga hga).trans h.c9;have ts:Tch [ga] w2 (w2.setCell ⟨ga,k,none⟩ (.string (doI now (doL now c (bs.take k)).2 bs[k]).1)):=(Tch.refl _ _).setCell (fun _=>by simp) _;have hB:=h.env.size;have hz:=hf.size;have hzt:=h.tch.size;have n96:∀{g:Nat} {C:Array Value},w2.heap[g]?=some (.cells C 57 (0,0))->g∉[ga]:=fun {g C} hg hm=>by
  simp at hm;rw[hm,r2]at hg;simp at hg
 have k2:=hf.keep _ _ _ h.b2 (by decide);have k7:=hf.keep _ _ _ h.b7 (by decide);refine⟨col',?_,fun e=>?_,?_,c9',(ts.block _ (lt_of_block k2) (n96 k2)).trans k2,(ts.block _ (lt_of_block k7) (n96 k7)).trans k7,fun q hq=>(ha.1 q (by omega)).trans (h.old q hq),h.new,?_,(h.env.fq hf).tch ts (by simpa using h.new.2)⟩
 ·rw[e2];exact In.set9 hb ts c9' r2
 ·obtain⟨h1,h2⟩:=hc e;rw[e2];exact h2.trans (h.un h1)
 ·rw[heap_setCell_same w2 ga k _ 9 _ r2,e2];have e3:=strRow_set (doL now c (bs.take k)).1 bs.length (doI now (doL now c (bs.take k)).2 bs[k]).1 (by omega);rw[hlen]at e3;rw[e3]
 ·have t2:Tch [] W w2:=⟨hf.os.trans h.tch.os,hf.tape.trans h.tch.tape,hf.output.trans h.tch.output,by omega,fun q hq _=>(hf.out q (by omega) (h.old q hq)).trans (h.tch.block q hq (by simp))⟩
  exact t2.setCell (fun hl=>absurd hl (by have:=h.new.1;simp;omega)) _
theorem Stb.all8 {P:Nat->Value}(h:Stb w st b now P)(A:Nat->Option Addr):Stb ((((((((w.setCell ⟨st,1,none⟩ (.pointer (A 0))).setCell ⟨st,2,none⟩ (.pointer (A 1))).setCell ⟨st,3,none⟩ (.pointer (A 2))).setCell ⟨st,4,none⟩ (.pointer (A 3))).setCell ⟨st,5,none⟩ (.pointer (A 4))).setCell ⟨st,6,none⟩ (.pointer (A 5))).setCell ⟨st,7,none⟩ (.pointer (A 6))).setCell ⟨st,8,none⟩ (.pointer (A 7))) st b now (fun i=>.pointer (A i)):=by
 have h8:=((((((((h.set 0 (by decide) (.pointer (A 0))).set 1 (by decide) (.pointer (A 1))).set 2 (by decide) (.pointer (A 2))).set 3 (by decide) (.pointer (A 3))).set 4 (by decide) (.pointer (A 4))).set 5 (by decide) (.pointer (A 5))).set 6 (by decide) (.pointer (A 6))).set 7 (by decide) (.pointer (A 7)));have e:stH now (updP (updP (updP (updP (updP (updP (updP (updP P 0 (.pointer (A 0))) 1 (.pointer (A 1))) 2 (.pointer (A 2))) 3 (.pointer (A 3))) 4 (.pointer (A 4))) 5 (.pointer (A 5))) 6 (.pointer (A 6))) 7 (.pointer (A 7)))=stH now (fun i=>.pointer (A i)):=by simp[stH,updP]
 unfold Stb stG at h8 ⊢;rw[e]at h8;exact h8
theorem bchg_any (K:World->Prop)(st sn b g2 g7:Nat)(now:Int)(P:Nat->Value)(A:Nat->Option Addr)(w:World)(hst:Stb w st b now P)(hsn:Stb w sn b now (fun i=>.pointer (A i)))(h2:w.heap[g2]?=some (.cells #[.pointer (some ⟨st,0,none⟩)] 57 (0,0)))(h7:w.heap[g7]?=some (.cells #[.pointer (some ⟨sn,0,none⟩)] 57 (0,0)))
  (hK:∀w',Tch [st] w w'->Stb w' st b now (fun i=>.pointer (A i))->K w'):
  Calls Tryz.prog 152 #[.pointer (some ⟨g7,0,none⟩),.pointer (some ⟨g2,0,none⟩)] w fun e w'=>e=.returned (.tuple #[])/\K w':=by
 have a2:=cell_of_one h2;have a7:=cell_of_one h7;have l2:=lt_of_block h2;have l7:=lt_of_block h7;have lt:=hst.lt;have ln:=hsn.lt;have n1:w.cell? ⟨sn,1,none⟩=some (.pointer (A 0)):=hsn.cell 0 (by decide);have n2:w.cell? ⟨sn,2,none⟩=some (.pointer (A 1)):=hsn.cell 1 (by decide);have n3:w.cell? ⟨sn,3,none⟩=some (.pointer (A 2)):=hsn.cell 2 (by decide);have n4:w.cell? ⟨sn,4,none⟩=some (.pointer (A 3)):=hsn.cell 3 (by decide);have n5:w.cell? ⟨sn,5,none⟩=some (.pointer (A 4)):=hsn.cell 4 (by decide);have n6:w.cell? ⟨sn,6,none⟩=some (.pointer (A 5)):=hsn.cell 5 (by decide);have n7:w.cell? ⟨sn,7,none⟩=some (.pointer (A 6)):=hsn.cell 6 (by decide);have n8:w.cell? ⟨sn,8,none⟩=some (.pointer (A 7)):=hsn.cell 7 (by decide);have m1:w.cell? ⟨st,1,none⟩=some (P 0):=hst.cell 0 (by decide);have m2:w.cell? ⟨st,2,none⟩=some (P 1):=hst.cell 1 (by decide);have m3:w.cell? ⟨st,3,none⟩=some (P 2):=hst.cell 2 (by decide);have m4:w.cell? ⟨st,4,none⟩=some (P 3):=hst.cell 3 (by decide);have m5:w.cell? ⟨st,5,none⟩=some (P 4):=hst.cell 4 (by decide);have m6:w.cell? ⟨st,6,none⟩=some (P 5):=hst.cell 5 (by decide);have m7:w.cell? ⟨st,7,none⟩=some (P 6):=hst.cell 6 (by decide);have m8:w.cell? ⟨st,8,none⟩=some (P 7):=hst.cell 7 (by decide);have z1:∀j,w.frozen? ⟨st,j,none⟩=false:=fun j=>hst.fz j
 have HS:=zH hst;have HN:=zH hK;clear hst hsn h2 h7 hK;go_enter Tryz.func152,Tryz.ntmps152;have HK:Hid (K ((((((((w.setCell ⟨st,1,none⟩ (.pointer (A 0))).setCell ⟨st,2,none⟩ (.pointer (A 1))).setCell ⟨st,3,none⟩ (.pointer (A 2))).setCell ⟨st,4,none⟩ (.pointer (A 3))).setCell ⟨st,5,none⟩ (.pointer (A 4))).setCell ⟨st,6,none⟩ (.pointer (A 5))).setCell ⟨st,7,none⟩ (.pointer (A 6))).setCell ⟨st,8,none⟩ (.pointer (A 7))).drew):=HN.out _ (Tch.drew (((((((((Tch.refl [st] w).setCell (fun _=>by simp) _).setCell (fun _=>by simp) _).setCell (fun _=>by simp) _).setCell (fun _=>by simp) _).setCell (fun _=>by simp) _).setCell (fun _=>by simp) _).setCell (fun _=>by simp) _).setCell (fun _=>by simp) _)) ((HS.out.all8 A).tch (Tch.drew (Tch.refl [] _)) (by simp));clear HN HS
 go_region
 all_goals
  go_end0;exact⟨rfl,HK.out⟩
theorem eg199:∀args w,(callFunc 152 args).run Tryz.prog w=.ok (.enter 152 args) w:=enters_of Tryz.func152 (by kernel_rfl) rfl
theorem eg158b:∀args w,(callFunc 118 args).run Tryz.prog w=.ok (.enter 118 args) w:=enters_of Tryz.func118 (by kernel_rfl) rfl
theorem make_strs (n:Nat)(hn:n<=1000)(W:World):(Instr.makeSlice 22 (.int .i64 (n:Int)) (.int .i64 (n:Int))).run Tryz.prog W=.ok (.slice (some ⟨W.heap.size,0,none⟩) n n) (W.alloc (.cells (strRow [] n) 9)):=by
 obtain⟨i0,hi,hz0,hz1,hz2⟩:=info_parts info9;have h:=run_make (P:=Tryz.prog) W 22 9 i0 (.string ⟨#[]⟩) Tryz.underlying22 hi hz0 .i64 .i64 (n:Int) (n:Int) (by omega) (by omega) (by rw[hz2];omega) (by omega);have hm:madeCells (Value.string ⟨#[]⟩).cells ((n:Int).toNat*i0.size)=strRow [] n:=by
  apply Array.toList_inj.1;rw[hz1,Nat.mul_one,Int.toNat_natCast]
  show (madeCells #[Value.string ⟨#[]⟩] n).toList=_
  rw[toList_madeCells_one];simp[strRow]
 rw[hm]at h;simpa using h
theorem Cpy.inn {x:Gh B}{c:Nat->Option QM}{col0:Nat->Nat}{w1:World}(hb:Sk B w x st b now c col0)(hs:SG B w st b now Z col0)(hc:ctZ Z=c)(hB:B<=w.heap.size)(h:Cpy W g b now Z 8 w1 Z' col)(hW:Tch [] w W)(hg:W.heap.size<=g)(ht:Tch [] w1 w2):In B w2 g b now c (rec9 w1 w2 col)/\(∀q,q<W.heap.size->rec9 w1 w2 col q=9)/\∀q,w1.heap.size<=q->q<w2.heap.size->rec9 w1 w2 col q=9:=by
 have hzW:=hW.size;have hz1:=h.tch.size;have hz2:=ht.size;have i1:In B w1 g b now c col:=by
  refine⟨⟨Z',⟨h.stb,hs.tb.tch (hW.trans h.tch (by simp)) (by simp),fun i x hi hx=>(h.qr i x hi hx).1,fun i x hi hx k hk=>((h.qr i x hi hx).2 k hk).2,fun i x hi hx k hk=>?_,by omega,h.cg⟩,h.ct.trans hc⟩,hb.wf,hb.nw,.inl trivial,h.fut⟩
  have:=((h.qr i x hi hx).2 k hk).1;omega
 refine⟨(i1.fr (T:=[]) (Fr.of_nil [] ht (by omega)) (by simp) (by simp) (by simp)).2,fun q hq=>(rec9_old (by omega)).trans (h.old q hq),fun q h1 h2=>if_pos ⟨h1,h2⟩⟩
theorem bi_did {B W st sn b now c bs g2 g7 ga k wr coli}(x:Gh B)(col:Nat->Nat)(w w2 w3:World)(o:Option ByteArray)(room:Int)(Z:Nat->Option BQ)(hE:Env B w)(hb:Sk B w x st b now c col)(hs:SG B w st b now Z col)(h:Bi B W st sn b now c bs g2 g7 ga k true wr coli)(hW:Tch [] w W)(h2:Tch [] wr w2)(h3:Fr B TJ w2 w3)(hJ:x.JO w col w3)(hww:Tch [] w w2):
  Calls Tryz.prog 152 #[.pointer (some ⟨g7,0,none⟩),.pointer (some ⟨g2,0,none⟩)] w3 fun e w'=>e=.returned (.tuple #[])/\Sd B x st b w col now (doL now c (bs.take k)).2 w':=by
 obtain⟨Zi,hi,hci⟩:=h.bk.sg;have hi3:=hi.lay h2 h3;have hs3:=hs.lay hww h3;have hz2:=hww.size;have hz3:=h3.size;have hzW:=hW.size;have hzr:=h.tch.size;have hB:=hE.size;have hzt:=h2.size;have k2:=h3.keep _ _ _ ((h2.block _ (lt_of_block h.b2) (by simp)).trans h.b2) (by decide);have k7:=h3.keep _ _ _ ((h2.block _ (lt_of_block h.b7) (by simp)).trans h.b7) (by decide);have eP:(fun i=>ptrV (ptZ Zi i))=(fun i=>Value.pointer ((ptZ Zi i).map (fun q=>(⟨q,0,none⟩:Addr)))):=by
  funext i
  cases ptZ Zi i<;>rfl
 have hsn:=hi3.stb;rw[eP]at hsn;refine bchg_any _ st sn b g2 g7 now _ _ w3 hs3.stb hsn k2 k7 (fun w' ht hst'=>?_);rw[<-eP]at hst';have hz':=ht.size;have hst3:=hs3.stb;have n156:∀{k:Nat} {C:Array Value} {t:TypeId},w3.heap[k]?=some (.cells C t (0,0))->t≠94->k∉[st]:=fun {k C t} hk hne hm=>by
  simp at hm;rw[hm,hst3]at hk;simp at hk;exact hne hk.2.symm
 have hq9:∀i x,i<8->Zi i=some x->∀q∈qbl x.qb x.V,w.heap.size<=q:=fun i x hi' hx q hq=>by
  rcases Nat.lt_or_ge q w.heap.size with hlt|hge
  ·have h1:=hi.cl i x hi' hx q hq;have h4:=h.old q (by omega);omega
  ·exact hge
 refine⟨fun q=>if q<w.heap.size then col q else if coli q=9 then 0 else coli q,⟨⟨Zi,⟨hst',?_,?_,?_,hi.lo,hs.ls,?_⟩,hci⟩,h.bk.wf,hb.nw,.inl ?_,?_⟩,⟨fun q hq=>if_pos hq,fun q hq=>?_⟩,?_⟩
 ·exact fun q f hq=>(ht.block _ (lt_of_block (hs3.tb q f hq)) (n156 (hs3.tb q f hq) (by decide))).trans (hs3.tb q f hq)
 ·exact fun i y hi' hy=>(hi3.qr i y hi' hy).tch ht (fun q hq hm=>by
   simp at hm;subst hm;exact(hi3.qr i y hi' hy).nty hst3 (by decide) hq)
 ·intro i y hi' hy q hq;have h5:=hq9 i y hi' hy q hq;have h6:=hi.cl i y hi' hy q hq
  show (if q<w.heap.size then col q else if coli q=9 then 0 else coli q)=i
  rw[if_neg (by omega),if_neg (by omega)];exact h6
 ·show (if st<w.heap.size then col st else if coli st=9 then 0 else coli st)≠9
  rw[if_pos hs.stb.lt];exact hs.cs
 ·refine x.f (x.r hJ.1 (fun q hq e=>?_) (fun _=>if_pos (by have:=hs.stb.lt;omega))) (FqT.of_tch ht (by omega) (fun q hq=>?_) (fun q hq C t hC=>?_) (fun q hq=>?_):Fq B col w3 w')
  ·have e:(if q<w.heap.size then col q else if coli q=9 then 0 else coli q)=9:=e
   split at e
   ·exact e
   ·split at e
    ·omega
    ·omega
  ·simp at hq;subst hq;exact hs.ls
  ·simp at hq;subst hq;rw[hst3]at hC;simp at hC;rw[<-hC.2];decide
  ·simp at hq;subst hq;exact hs.cs
 ·intro q hq
  show (if q<w.heap.size then col q else if coli q=9 then 0 else coli q)≠9
  rw[if_neg (by omega)]
  split
  ·decide
  ·assumption
 ·have e:(if q<w.heap.size then col q else if coli q=9 then 0 else coli q)=9:=hq
  split at e
  ·exact e
  ·split at e
   ·omega
   ·omega
 ·refine(fr_fq col hww h3 hE.size hJ.2).trans (Agr.refl _ _) (FqT.of_tch ht (by omega) (fun q hq=>?_) (fun q hq C t hC=>?_) (fun q hq=>?_))
  ·simp at hq;subst hq;exact hs.ls
  ·simp at hq;subst hq;rw[hst3]at hC;simp at hC;rw[<-hC.2];decide
  ·simp at hq;subst hq;exact hs.cs
end Go.Proofs.YtbdobaapadlcjabGreatDoor
