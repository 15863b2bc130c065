import Derived.Test.YtbdobaapadlcjabGreatDoorHy02
set_option maxHeartbeats 1000000
set_option linter.unusedVariables false
set_option linter.unusedSimpArgs false
namespace Go.Proofs.YtbdobaapadlcjabGreatDoor
open Go.RowKit
variable {w w':World}{x:Sl}{bs:List ByteArray}{B g n base size k:Nat}{S S':List Nat}{v:Value}{xs:List Value}
def opR (op:UInt8):Wp.Rq:=⟨op,0,0,0,0,0,0,0,0,⟨#[]⟩,⟨#[]⟩,⟨#[]⟩,⟨#[]⟩,⟨#[]⟩⟩
structure St where
 r:Wp.Rq
 s:ByteArray
 fl:Bool
 bs:List ByteArray
def stepSt (t:St)(f:Nat):St:=⟨setR t.r t.s f,stS t.s f,stF t.s t.fl f,if f=14 then rdT (nmN t.s 1) (lf t.s 1) else t.bs⟩
def opOf (s:ByteArray):UInt8:=UInt8.ofNat (nmN s 1 % 256)
def runSt (s:ByteArray)(L:List Nat):St:=L.foldl stepSt ⟨opR (opOf s),lf s 1,bad s false 1,[]⟩
theorem runSt_snoc (s:ByteArray)(L:List Nat)(f:Nat):runSt s (L++[f])=stepSt (runSt s L) f:=by
 unfold runSt;rw[List.foldl_append];rfl
theorem results_ct {P:Program}{fn:Func}{p q:Tmp}{ty:TypeId}(h:fn.results=#[.cell p ty,.tmp q])(tmps:Array Value)(w:World)(g:Nat)(t:TypeId)(cs:Array Value)(fr:Nat×Nat)(d:TypeDesc)
  (hp:tmps.getD p undef=.pointer (some ⟨g,0,none⟩))(hg:w.heap[g]?=some (.cells cs t fr))
  (hu:P.underlying ty=some d)(hd:(match d with|.struct _|.array _ _=>true|_=>false)=true)(hi:(P.info? ty).map (·.size)=some cs.size):
  (results fn tmps).run P w=.ok (.tuple #[.agg cs,tmps.getD q undef]) w:=by
 have hp':tmps[p]?.getD undef=.pointer (some ⟨g,0,none⟩):=by simpa using hp
 simp[results,h,hp',asAddr,run_loadVar_row w g t ty cs fr d hg hu hd hi]
def SlOk (w:World)(b c:Nat)(x:Sl)(bs:List ByteArray):Prop:=
 x.n=bs.length/\∀j (h:j<bs.length),∃g,x.a=some ⟨g,0,none⟩/\b<g/\g≠c/\g<w.heap.size/\w.cell? ⟨g,0+j,none⟩=some (.string bs[j])
theorem SlOk.strs {b c:Nat}(h:SlOk w b c x bs):Strs w x.a bs:=fun j hj=>by
 obtain⟨g,ha,_,_,_,hc⟩:=h.2 j hj;exact⟨g,0,ha,hc⟩
theorem SlOk.g2 {b c:Nat}(h:SlOk w b c x bs)(g:G2 b c w w'):SlOk w' b c x bs:=⟨h.1,fun j hj=>by
 obtain⟨k,ha,h1,h2,h3,hc⟩:=h.2 j hj;exact⟨k,ha,h1,h2,Nat.lt_of_lt_of_le h3 g.size,(World.cell?_of_block (g.block k h3 (by omega) h2)).trans hc⟩⟩
theorem G2.below {b c:Nat}(g:G2 b c w w')(hB:B<=w.heap.size)(hb:B<=b)(hc:B<=c):Below B w w':=
 ⟨g.os,g.tape,g.output,g.size,fun k hk=>g.block k (by omega) (by omega) (by omega)⟩
theorem strRow_cell {l:List ByteArray}(h:w.heap[g]?=some (.cells (strRow l n) 9 (0,0)))(hl:l.length=n)(j:Nat)(hj:j<l.length):w.cell? ⟨g,0+j,none⟩=some (.string l[j]):=by
 rw[Nat.zero_add];refine(cell_of_row w g j _ 9 (0,0) h).trans ?_;unfold strRow;rw[List.getElem?_toArray,List.getElem?_append_left (by rw[List.length_map];exact hj),List.getElem?_map,List.getElem?_eq_getElem hj];rfl
theorem rd_le (s:ByteArray)(f:Nat):(stS s f).size<=s.size:=by
 unfold stS
 repeat' split
 ·exact lf_le _ _
 ·exact lf_le _ _
 ·exact lf_le _ _
 ·exact txL_le _
 ·exact Nat.le_trans (rdS_le _ _) (lf_le _ _)
theorem runSt_le (s:ByteArray)(L:List Nat):(runSt s L).s.size<=s.size:=by
 unfold runSt;have:∀(L:List Nat) (t:St),(L.foldl stepSt t).s.size<=t.s.size:=by
  intro L
  induction L with
  | nil=>intro t;exact Nat.le_refl _
  | cons f L ih=>intro t;exact Nat.le_trans (ih _) (rd_le _ _)
 exact Nat.le_trans (this L _) (lf_le _ _)
theorem load_want {P:Program}{ops:Array Oper}{rest:List Oper}{o:Oper}{a:Act}{Q:Exit->Act->World->Prop}(hw:Region.wanted o (yielded ops a.tmps)=true)(ty:TypeId)(x:Operand)(ho:o.op=.load ty x)
  (g:Nat)(hx:a.eval x=.pointer (some ⟨g,0,none⟩))(t:TypeId)(cs:Array Value)(fr:Nat×Nat)(d:TypeDesc)(hg:w.heap[g]?=some (.cells cs t fr))
  (hu:P.underlying ty=some d)(hd:(match d with|.struct _|.array _ _=>true|_=>false)=true)(hi:(P.info? ty).map (·.size)=some cs.size)
  (h:wpList P ops Q rest (a.put o.dst (.agg cs)) w):wpList P ops Q (o::rest) a w:=
 BigFrame.wpList_want hw fun _ hK=>wp_load_row ty x ho g hx t cs fr d hg hu hd hi (hK _ _ h)
theorem info37:(Tryz.prog.info? 24).map (·.size)=some 15:=by kernel_rfl
theorem cells_one (r:Wp.Rq)(x:Sl):(cellsOf r x.v).all (·.oneCell')=true:=by simp[cellsOf,Sl.v,Value.oneCell']
theorem Blk.row {b:Nat}{r:Wp.Rq}(h:Blk w b r x)(r':Wp.Rq)(x':Sl):Blk (w.setRow b (cellsOf r' x'.v)) b r' x':=setRow_heap w b _ _ 24 (0,0) h
theorem runSt_bs (s:ByteArray)(L:List Nat):(runSt s L).bs.length<256:=by
 unfold runSt;have:∀(L:List Nat) (t:St),t.bs.length<256->(L.foldl stepSt t).bs.length<256:=by
  intro L
  induction L with
  | nil=>intro t h;exact h
  | cons f L ih=>
   intro t h;refine ih _ ?_
   show (if f=14 then rdT (nmN t.s 1) (lf t.s 1) else t.bs).length<256
   by_cases e:f=14
   ·rw[if_pos e,rdT_length];exact nm1 _
   ·rw[if_neg e];exact h
 exact this L _ (by show 0<256;decide)
theorem below_setRow {a:World}(h:Below B a w){g:Nat}(hg:B<=g)(cs:Array Value):Below B a (w.setRow g cs):=
 h.trans ⟨rfl,rfl,rfl,by simp,fun k hk=>setRow_other w g k cs (by omega)⟩
theorem ebAll_n (x y:Sl)(L:List Nat)(h:x.n=y.n):(ebAll x L).n=(ebAll y L).n:=by
 unfold ebAll
 induction L generalizing x y with
 | nil=>exact h
 | cons f L ih=>
  refine ih _ _ ?_;unfold eb
  by_cases e:f=14
  ·rw[if_pos e,if_pos e]
  ·rw[if_neg e,if_neg e];exact h
theorem rightW_n (r:Wp.Rq)(x y:Sl)(b:Bool)(h:x.n=y.n):rightW r x b=rightW r y b:=by
 unfold rightW;rw[h,ebAll_n x y _ h]
def endSt (s:ByteArray):St:=runSt s (Wp.lay ((opOf s).toNat-65))
def parseGood (s:ByteArray):Bool:=Wp.isOp (opOf s)&&(!(endSt s).fl&&((endSt s).s.toList.isEmpty&&rightW (endSt s).r ⟨none,(endSt s).bs.length,0⟩ (Wp.short (endSt s).bs)))
def FStrs (B:Nat)(w:World)(a:Option Addr)(bs:List ByteArray):Prop:=
 ∀j (h:j<bs.length),∃b o,a=some ⟨b,o,none⟩/\B<=b/\w.cell? ⟨b,o+j,none⟩=some (.string bs[j])
def ParseOut (s:ByteArray)(e:Ending)(w w':World):Prop:=
 (parseGood s=true/\∃x:Sl,e=.returned (.tuple #[.agg (cellsOf (endSt s).r x.v),.int .i64 0])/\x.n=(endSt s).bs.length/\FStrs w.heap.size w' x.a (endSt s).bs)\/
 (parseGood s=false/\e=.returned (.tuple #[.agg (cellsOf (opR 0) (Sl.v ⟨none,0,0⟩)),.int .i64 1]))
theorem parseOut_yes {s:ByteArray}{t:St}(hg:parseGood s=true)(ht:endSt s=t)(x:Sl)(hn:x.n=t.bs.length)(hs:FStrs w.heap.size w' x.a t.bs):ParseOut s (.returned (.tuple #[.agg (cellsOf t.r x.v),.int .i64 0])) w w':=by
 subst ht;exact Or.inl ⟨hg,x,rfl,hn,hs⟩
theorem parse_yes (B:Nat)(s:ByteArray)(w:World)(i:Nat)(hop:(opOf s).toNat=65+i)(hi:i<26)(hpos:0<(Wp.lay i).length)(hs:s.size<=maxLen)(hL:Lays B w)(hBw:B<=w.heap.size):
  Calls Tryz.prog 28 #[.string s] w fun e w'=>ParseOut s e w w'/\Below w.heap.size w w':=by
 have hsz:2<w.heap.size:=by have:=hL.1;omega
 have hisop:Wp.isOp (opOf s)=true:=by simp[Wp.isOp,hop,hpos];omega
 have hend:Hid (endSt s=runSt s (Wp.lay i)):=by show _=_;rw[endSt,hop,Nat.add_sub_cancel_left]
 have hgood:Hid (parseGood s=(!(endSt s).fl&&((endSt s).s.toList.isEmpty&&rightW (endSt s).r ⟨none,(endSt s).bs.length,0⟩ (Wp.short (endSt s).bs)))):=by
  show _=_
  rw[parseGood,hisop,Bool.true_and]
 clear hisop;have HNUM:Hid (∀W b,Rd W b s false->Calls Tryz.prog 53 #[.pointer (some ⟨b,0,none⟩),.int .i64 1] W fun e w'=>e=.returned (.int .i64 (nmN s 1:Nat))/\Rd w' b (lf s 1) (bad s false 1)/\W.grownBy w' (some b)/\w'.heap.size=W.heap.size):=
  fun W b h=>number_any b s false 1 W (Or.inl rfl) hs h
 have hnb:=nm1 s;have hnm:Hid (((nmN s 1:Nat):Int)=65+(i:Int)):=by
  show _=_
  have h1:(opOf s).toNat=nmN s 1:=by
   unfold opOf;rw[UInt8.toNat_ofNat_of_lt' (by have:=Nat.mod_lt (nmN s 1) (show 0<256 by decide);simpa using this)];exact Nat.mod_eq_of_lt hnb
  omega
 have HO:Hid (∀W,Lays B W->zE 54 #[.int .u8 (65+(i:Int))] W (.bool true)):=by
  intro W hW;have h1:=isOp_any B (opOf s) W hW;have h2:Wp.isOp (opOf s)=true:=by simp[Wp.isOp,hop,hpos];omega
  rw[h2,hop]at h1;exact h1
 have HL:=zH hL;obtain⟨la,lcap,hlc,hlj⟩:=hL.2.2 i hi;have HLJ:=zH hlj;have HLC:=zH hlc;have HLT:=zH (lay_lt i);have hlen:(Wp.lay i).length<100:=by
  have h1:∀a:Fin 26,(Wp.lay a.val).length<100:=by decide
  exact h1 ⟨i,hi⟩
 clear hL hlc hlj hpos;generalize Wp.lay i=L at*
 go_enter Tryz.func28,Tryz.ntmps28;go_wp2_with (go_at_call 52;go_in);refine(HNUM.out _ (w.heap.size+1) (heap_alloc2_new _ _ _)).mono ?_;rintro e w1 ⟨rfl,h1,h2,h3⟩;have hs1:w1.heap.size=w.heap.size+2:=by rw[h3];simp
 have H1:Hid (Rd w1 (w.heap.size+1) (lf s 1) (bad s false 1)/\w1.heap.size=w.heap.size+2):=⟨h1,hs1⟩;have HR:Hid (Blk w1 w.heap.size (opR 0) ⟨none,0,0⟩):=by
  show Blk _ _ _ _
  unfold Blk;rw[h2.block w.heap.size (by simp;omega) (by intro e;have:=Option.some.inj e;omega),heap_alloc2_old];rfl
 have HB:Hid (Below w.heap.size w w1):=by
  show Below _ _ _
  refine Below.grown (((Below.refl _ _).alloc (Nat.le_refl _) _).alloc (by simp) _) h2 (by simp;omega) ?_;intro k hk;have:=Option.some.inj hk;omega
 rw[hnm.out];have hlc1:=(HB.out.cell (p:=⟨0,i,none⟩) (show 0<w.heap.size by omega)).trans HLC.out;have hs2:0<w1.heap.size:=by omega
 clear h1 h2 h3 hs1;go_wp2_with fail;refine(HO.out _ (HL.out.below ((HB.out.alloc (by have:=H1.out.2;omega) _).mono hBw))).mono ?_;rintro e w2 ⟨rfl,rfl⟩;go_wp2_with fail;rw[Nat.add_sub_cancel_left]
 go_loopw [25] (fun v wr=>∃(k:Nat) (x:Sl),k<=L.length/\v=.int .i64 k/\Rd wr (w.heap.size+1) (runSt s (L.take k)).s (runSt s (L.take k)).fl/\Blk wr w1.heap.size (runSt s (L.take k)).r x/\SlOk wr (w.heap.size+1) w1.heap.size x (runSt s (L.take k)).bs/\Below w.heap.size w wr/\Blk wr w.heap.size (opR 0) ⟨none,0,0⟩/\w1.heap.size<wr.heap.size) (fun v _=>L.length-(intOf v).toNat)
 case atStart=>
  have h2:=H1.out.2;refine⟨0,⟨none,0,0⟩,Nat.zero_le _,rfl,?_,?_,⟨rfl,fun j hj=>absurd hj (by simp[runSt])⟩,HB.out.alloc (by omega) _,?_,by simp⟩
  ·unfold Rd;rw[Below.heap_alloc _ _ _ (by omega)];exact H1.out.1
  ·unfold Blk;rw[heap_alloc_new];have e:(.int .u8 (65+(i:Int)):Value)=.int .u8 (((opOf s).toNat:Nat):Int):=by rw[hop];rfl
   rw[e];rfl
  ·unfold Blk;rw[Below.heap_alloc _ _ _ (by omega)];exact HR.out
 case round=>
  obtain⟨k,x,hk,rfl,hrd,hbk,hsl,hbw,hres,hsw⟩:=hrel;have HBW:=zH hbw;have HRS:=zH hres;have HSL:=zH hsl;have hw1:=H1.out.2;have HW1:=zH hw1
  by_cases hlt:k<L.length
  ·obtain⟨lb,lo,rfl,hlb,hck⟩:=HLJ.out k hlt;have hck':=(hbw.cell (p:=⟨lb,lo+k,none⟩) (show lb<w.heap.size by omega)).trans hck;have hf:=HLT.out k;have htk:Hid (runSt s (L.take (k+1))=stepSt (runSt s (L.take k)) (L.getD k 0)):=by
    show _=_
    rw[<-runSt_snoc,List.take_succ_eq_append_getElem hlt,List.getD_eq_getElem?_getD,List.getElem?_eq_getElem hlt,Option.getD_some]
   generalize L.getD k 0=f at hck' hf htk hck;have hle:=Nat.le_trans (runSt_le s (L.take k)) hs;have hrf:Hid (Calls Tryz.prog 55 #[.pointer (some ⟨w.heap.size+1,0,none⟩),.pointer (some ⟨w1.heap.size,0,none⟩),.int .i64 (f:Int)] wr fun e w'=>e=.returned (.tuple #[])/\RF wr w' (w.heap.size+1) w1.heap.size (runSt s (L.take k)).s (runSt s (L.take k)).fl (runSt s (L.take k)).r x f):=
    readField_any B (w.heap.size+1) w1.heap.size f _ _ _ x wr hf hle (by omega) (by omega) hsw (HL.out.below (hbw.mono hBw)) hrd hbk
   clear hrd hbk hsl hbw hres hck hle hw1;go_wp2_with fail;refine(hrf.out).mono ?_;rintro e w2 ⟨rfl,hq⟩;have hrel':∃x',Rd w2 (w.heap.size+1) (runSt s (L.take (k+1))).s (runSt s (L.take (k+1))).fl/\Blk w2 w1.heap.size (runSt s (L.take (k+1))).r x'/\SlOk w2 (w.heap.size+1) w1.heap.size x' (runSt s (L.take (k+1))).bs/\Below w.heap.size w w2/\Blk w2 w.heap.size (opR 0) ⟨none,0,0⟩/\w1.heap.size<w2.heap.size:=by
    rw[htk.out];obtain⟨x',hb',hx1,hx2⟩:=hq.blk;have hn1:=HW1.out;refine⟨x',hq.rd,hb',?_,HBW.out.trans (hq.g2.below (by omega) (by omega) (by omega)),?_,Nat.lt_of_lt_of_le hsw hq.g2.size⟩
    ·by_cases h14:f=14
     ·obtain⟨g,hg,rfl,hrow⟩:=hx2 h14;subst h14;refine⟨(rdT_length _ _).symm,fun j hj=>⟨g,rfl,by omega,by omega,(Array.getElem?_eq_some_iff.1 hrow).1,?_⟩⟩
      exact strRow_cell hrow (rdT_length _ _) j hj
     ·rw[hx1 h14];have e:(stepSt (runSt s (L.take k)) f).bs=(runSt s (L.take k)).bs:=if_neg h14;rw[e];exact HSL.out.g2 hq.g2
    ·unfold Blk;rw[hq.g2.block w.heap.size (by omega) (by omega) (by omega)];exact HRS.out
   have HREL:Hid _:=hrel';clear hq hrel';go_wp2_with fail;go_roundw
   case rel=>
    obtain⟨x',a1,a2,a3,a4,a5,a6⟩:=HREL.out;exact⟨k+1,x',by omega,by go_num,a1,a2,a3,a4,a5,a6⟩
   case measure=>simp[intOf];omega
  ·have he:L.take k=L:=List.take_of_length_le (by omega);rw[he,<-hend.out]at hrd hbk hsl;have hbl:Hid ((endSt s).bs.length<256):=by
    show _<_
    rw[hend.out];exact runSt_bs s L
   generalize hte:endSt s=t at hbl hrd hbk hsl hgood hend;have HTE:=zH hte;clear hte;have HBK:=zH hbk;have HSLT:=zH hsl;have c0:=hrd.c0;have c1:=hrd.c1;have hinf:=info37;clear hrd hbk hsl hbw hres he hw1 HSL
   cases hfl:t.fl
   ·rw[hfl]at c1
    by_cases hs0:0<t.s.size
    ·have hem:=str_ne hs0;have hg:Hid (parseGood s=false):=by
      show _=_
      rw[hgood.out,hfl,hem];rfl
     clear hfl;go_wp2_with (first|(go_at_call 56;go_in)|(go_at_call 57;go_in)|(refine wpList_store_row rfl 24 _ _ rfl w.heap.size (cellsOf (opR 0) (Sl.v ⟨none,0,0⟩)) rfl rfl 24 _ HRS.out hinf rfl (cells_one _ _) ?_));exact bodyPost_ret (results_ct (p:=2) (q:=3) rfl _ _ w.heap.size 24 _ (0,0) _ rfl (HRS.out.row (opR 0) ⟨none,0,0⟩) Tryz.underlying24 rfl hinf) rfl ⟨Or.inr ⟨hg.out,rfl⟩,below_setRow HBW.out (Nat.le_refl _) _⟩
    ·have hem:=str_em hs0;have hrt:Hid (∀W,Below wr.heap.size wr W->zB 58 #[.agg (cellsOf t.r x.v)] W (.bool (rightW t.r x (Wp.short t.bs)))):=by
      intro W hW;have hlen2:t.bs.length<=maxLen:=by have:=hbl.out;unfold maxLen;omega
      have hbs:=HBW.out.size;exact right_any B t.r x t.bs W HSLT.out.1 hlen2 (HL.out.below ((HBW.out.mono hBw).trans (hW.mono (by omega)))) (by have:=hW.size;omega) (HSLT.out.strs.below hW)
     have hrn:Hid (rightW t.r x (Wp.short t.bs)=rightW t.r ⟨none,t.bs.length,0⟩ (Wp.short t.bs)):=rightW_n _ _ _ _ HSLT.out.1
     cases hrw:rightW t.r x (Wp.short t.bs)
     ·rw[hrw]at hrt;have hg:Hid (parseGood s=false):=by
       show _=_
       rw[hgood.out,hfl,hem,<-hrn.out,hrw];rfl
      clear hfl hrw;go_wp2_with (first|(go_at_call 56;go_in)|(go_at_call 57;go_in)|(refine load_want rfl 24 _ rfl w1.heap.size rfl 24 _ (0,0) _ HBK.out Tryz.underlying24 rfl hinf ?_));refine(hrt.out wr (Below.refl _ _)).mono ?_;rintro e w2 ⟨rfl,hb2⟩;have hsw2:w.heap.size<wr.heap.size:=by have:=HW1.out;omega
      have hrs2:Blk w2 w.heap.size (opR 0) ⟨none,0,0⟩:=by
       unfold Blk;rw[hb2.block w.heap.size hsw2];exact HRS.out
      have HRS2:=zH hrs2;have HBW2:=zH (HBW.out.trans (hb2.mono (by omega)));clear hb2 hrs2;go_wp2_with (first|(go_at_call 56;go_in)|(go_at_call 57;go_in)|(refine wpList_store_row rfl 24 _ _ rfl w.heap.size (cellsOf (opR 0) (Sl.v ⟨none,0,0⟩)) rfl rfl 24 _ HRS2.out hinf rfl (cells_one _ _) ?_));exact bodyPost_ret (results_ct (p:=2) (q:=3) rfl _ _ w.heap.size 24 _ (0,0) _ rfl (HRS2.out.row (opR 0) ⟨none,0,0⟩) Tryz.underlying24 rfl hinf) rfl ⟨Or.inr ⟨hg.out,rfl⟩,below_setRow HBW2.out (Nat.le_refl _) _⟩
     ·rw[hrw]at hrt;have hg:Hid (parseGood s=true):=by
       show _=_
       rw[hgood.out,hfl,hem,<-hrn.out,hrw];rfl
      clear hfl hrw;go_wp2_with (first|(go_at_call 56;go_in)|(go_at_call 57;go_in)|(refine load_want rfl 24 _ rfl w1.heap.size rfl 24 _ (0,0) _ HBK.out Tryz.underlying24 rfl hinf ?_));refine(hrt.out wr (Below.refl _ _)).mono ?_;rintro e w2 ⟨rfl,hb2⟩;have hsw2:w.heap.size<wr.heap.size:=by have:=HW1.out;omega
      have hrs2:Blk w2 w.heap.size (opR 0) ⟨none,0,0⟩:=by
       unfold Blk;rw[hb2.block w.heap.size hsw2];exact HRS.out
      have hbk2:Blk w2 w1.heap.size t.r x:=by
       unfold Blk;rw[hb2.block w1.heap.size hsw];exact HBK.out
      have HBK2:=zH hbk2;have HRS2:=zH hrs2;have HBW2:=zH (HBW.out.trans (hb2.mono (by omega)));have HST:Hid (FStrs w.heap.size (w2.setRow w.heap.size (cellsOf t.r x.v)) x.a t.bs):=by
       intro j hj;obtain⟨g,ha,h1,h2,h3,hc⟩:=HSLT.out.2 j hj;refine⟨g,0,ha,by omega,?_⟩;have e1:(w2.setRow w.heap.size (cellsOf t.r x.v)).heap[g]?=wr.heap[g]?:=(setRow_other w2 w.heap.size g _ (by omega)).trans (hb2.block g h3);exact(World.cell?_of_block (a:=⟨g,0+j,none⟩) e1).trans hc
      clear hb2 hrs2 hbk2;go_wp2_with (first|(refine wpList_load_row rfl 24 _ rfl w1.heap.size rfl 24 _ (0,0) _ HBK2.out Tryz.underlying24 rfl hinf ?_)|(refine wpList_store_row rfl 24 _ _ rfl w.heap.size (cellsOf t.r x.v) rfl rfl 24 _ HRS2.out hinf rfl (cells_one _ _) ?_));exact bodyPost_ret (results_ct (p:=2) (q:=3) rfl _ _ w.heap.size 24 _ (0,0) _ rfl (HRS2.out.row t.r x) Tryz.underlying24 rfl hinf) rfl ⟨parseOut_yes hg.out HTE.out x HSLT.out.1 HST.out,below_setRow HBW2.out (Nat.le_refl _) _⟩
   ·rw[hfl]at c1;have hg:Hid (parseGood s=false):=by
     show _=_
     rw[hgood.out,hfl];rfl
    clear hfl;go_wp2_with (first|(go_at_call 56;go_in)|(go_at_call 57;go_in)|(refine wpList_store_row rfl 24 _ _ rfl w.heap.size (cellsOf (opR 0) (Sl.v ⟨none,0,0⟩)) rfl rfl 24 _ HRS.out hinf rfl (cells_one _ _) ?_));exact bodyPost_ret (results_ct (p:=2) (q:=3) rfl _ _ w.heap.size 24 _ (0,0) _ rfl (HRS.out.row (opR 0) ⟨none,0,0⟩) Tryz.underlying24 rfl hinf) rfl ⟨Or.inr ⟨hg.out,rfl⟩,below_setRow HBW.out (Nat.le_refl _) _⟩
theorem parse_no (B:Nat)(s:ByteArray)(w:World)(hno:Wp.isOp (opOf s)=false)(hs:s.size<=maxLen)(hL:Lays B w)(hBw:B<=w.heap.size):
  Calls Tryz.prog 28 #[.string s] w fun e w'=>ParseOut s e w w'/\Below w.heap.size w w':=by
 have hg:Hid (parseGood s=false):=by show _=_;rw[parseGood,hno];rfl
 have HNUM:Hid (∀W b,Rd W b s false->Calls Tryz.prog 53 #[.pointer (some ⟨b,0,none⟩),.int .i64 1] W fun e w'=>e=.returned (.int .i64 (nmN s 1:Nat))/\Rd w' b (lf s 1) (bad s false 1)/\W.grownBy w' (some b)/\w'.heap.size=W.heap.size):=
  fun W b h=>number_any b s false 1 W (Or.inl rfl) hs h
 have hnb:=nm1 s;have HO:Hid (∀W,Lays B W->zE 54 #[.int .u8 ((nmN s 1:Nat):Int)] W (.bool false)):=by
  intro W hW;have h1:=isOp_any B (opOf s) W hW;have h2:(opOf s).toNat=nmN s 1:=by
   unfold opOf;rw[UInt8.toNat_ofNat_of_lt' (by have:=Nat.mod_lt (nmN s 1) (show 0<256 by decide);simpa using this)];exact Nat.mod_eq_of_lt hnb
  rw[hno,h2]at h1;exact h1
 have HL:=zH hL;have hinf:=info37;clear hL hno;generalize nmN s 1=n at HNUM HO hnb;go_enter Tryz.func28,Tryz.ntmps28;go_wp2_with (go_at_call 52;go_in);refine(HNUM.out _ (w.heap.size+1) (heap_alloc2_new _ _ _)).mono ?_;rintro e w1 ⟨rfl,h1,h2,h3⟩;have hs1:w1.heap.size=w.heap.size+2:=by rw[h3];simp
 have HR:Hid (Blk w1 w.heap.size (opR 0) ⟨none,0,0⟩):=by
  show Blk _ _ _ _
  unfold Blk;rw[h2.block w.heap.size (by simp;omega) (by intro e;have:=Option.some.inj e;omega),heap_alloc2_old];rfl
 have HB:Hid (Below w.heap.size w w1):=by
  show Below _ _ _
  refine Below.grown (((Below.refl _ _).alloc (Nat.le_refl _) _).alloc (by simp) _) h2 (by simp;omega) ?_;intro k hk;have:=Option.some.inj hk;omega
 have HS1:=zH hs1;clear h1 h2 h3 hs1;go_wp2_with fail;refine(HO.out _ (HL.out.below ((HB.out.alloc (by have:=HS1.out;omega) _).mono hBw))).mono ?_;rintro e w2 ⟨rfl,hw2⟩;have hrs2:Blk w2 w.heap.size (opR 0) ⟨none,0,0⟩:=by
  unfold Blk;rw[hw2,Below.heap_alloc _ _ _ (by have:=HS1.out;omega)];exact HR.out
 have HRS2:=zH hrs2;have HBW2:Hid (Below w.heap.size w w2):=by
  show Below _ _ _
  rw[hw2];exact HB.out.alloc (by have:=HS1.out;omega) _
 clear hw2 hrs2;go_wp2_with (refine wpList_store_row rfl 24 _ _ rfl w.heap.size (cellsOf (opR 0) (Sl.v ⟨none,0,0⟩)) rfl rfl 24 _ HRS2.out hinf rfl (cells_one _ _) ?_);exact bodyPost_ret (results_ct (p:=2) (q:=3) rfl _ _ w.heap.size 24 _ (0,0) _ rfl (HRS2.out.row (opR 0) ⟨none,0,0⟩) Tryz.underlying24 rfl hinf) rfl ⟨Or.inr ⟨hg.out,rfl⟩,below_setRow HBW2.out (Nat.le_refl _) _⟩
theorem parse_any (B:Nat)(s:ByteArray)(w:World)(hs:s.size<=maxLen)(hL:Lays B w)(hBw:B<=w.heap.size):
  Calls Tryz.prog 28 #[.string s] w fun e w'=>ParseOut s e w w'/\Below w.heap.size w w':=by
 cases h:Wp.isOp (opOf s)
 ·exact parse_no B s w h hs hL hBw
 ·simp only[Wp.isOp,Bool.and_eq_true,decide_eq_true_eq]at h;exact parse_yes B s w ((opOf s).toNat-65) (by omega) (by omega) h.2 hs hL hBw
structure Tch (S:List Nat)(w w':World):Prop where
 os:w'.os=w.os
 tape:w'.tape=w.tape
 output:w'.output=w.output
 size:w.heap.size<=w'.heap.size
 block:∀k,k<w.heap.size->k∉S->w'.heap[k]?=w.heap[k]?
theorem Tch.refl (S:List Nat)(w:World):Tch S w w:=⟨rfl,rfl,rfl,Nat.le_refl _,fun _ _ _=>rfl⟩
theorem Tch.trans {a b c:World}(h:Tch S a b)(k:Tch S' b c)(hS:∀x∈S',x<a.heap.size->x∈S):Tch S a c:=
 ⟨k.os.trans h.os,k.tape.trans h.tape,k.output.trans h.output,Nat.le_trans h.size k.size,fun x hx hn=>
  (k.block x (Nat.lt_of_lt_of_le hx h.size) (fun hm=>hn (hS x hm hx))).trans (h.block x hx hn)⟩
theorem Tch.sub {a b:World}(h:Tch S a b)(hS:∀x∈S,x<a.heap.size->x∈S'):Tch S' a b:=
 ⟨h.os,h.tape,h.output,h.size,fun x hx hn=>h.block x hx (fun hm=>hn (hS x hm hx))⟩
theorem Tch.alloc {a:World}(h:Tch S a w)(o:Obj):Tch S a (w.alloc o):=
 ⟨h.os,h.tape,h.output,by rw[World.size_alloc];exact Nat.le_succ_of_le h.size,fun k hk hn=>(Below.heap_alloc w o k (Nat.lt_of_lt_of_le hk h.size)).trans (h.block k hk hn)⟩
theorem Tch.drew {a:World}(h:Tch S a w):Tch S a w.drew:=⟨h.os,h.tape,h.output,h.size,h.block⟩
theorem Tch.setCell {a:World}(h:Tch S a w){p:Addr}(hp:p.block<a.heap.size->p.block∈S)(u:Value):Tch S a (w.setCell p u):=
 ⟨h.os,h.tape,h.output,by rw[World.size_setCell];exact h.size,fun k hk hn=>(Below.heap_setCell w p u k (fun e=>hn (by subst e;exact hp hk))).trans (h.block k hk hn)⟩
theorem Tch.setRow {a:World}(h:Tch S a w){g:Nat}(hp:g<a.heap.size->g∈S)(C:Array Value):Tch S a (w.setRow g C):=
 ⟨h.os,h.tape,h.output,by simp;exact h.size,fun k hk hn=>(setRow_other w g k _ (fun e=>hn (by subst e;exact hp hk))).trans (h.block k hk hn)⟩
theorem Tch.grown {a:World}{row:Option Nat}(h:Tch S a w)(hg:w.grownBy w' row)(hr:∀k,row=some k->k<a.heap.size->k∈S):Tch S a w':=
 ⟨hg.os.trans h.os,hg.tape.trans h.tape,hg.output.trans h.output,Nat.le_trans h.size hg.size,fun k hk hn=>
  (hg.block k (Nat.lt_of_lt_of_le hk h.size) (fun e=>hn (hr k e.symm hk))).trans (h.block k hk hn)⟩
theorem Tch.below (h:Tch S w w')(hS:∀x∈S,B<=x)(hB:B<=w.heap.size):Below B w w':=
 ⟨h.os,h.tape,h.output,h.size,fun k hk=>h.block k (Nat.lt_of_lt_of_le hk hB) (fun hm=>by have:=hS k hm;omega)⟩
theorem Tch.of_below (h:Below w.heap.size w w'):Tch [] w w':=⟨h.os,h.tape,h.output,h.size,fun k hk _=>h.block k hk⟩
theorem Tch.cell (h:Tch S w w'){a:Addr}(ha:a.block<w.heap.size)(hS:a.block∉S):w'.cell? a=w.cell? a:=World.cell?_of_block (h.block _ ha hS)
theorem Tch.drewN {a:World}(h:Tch S a w)(n:Nat):Tch S a (w.drewN n):=⟨h.os,h.tape,h.output,h.size,h.block⟩
theorem own_tch {t:TypeId}(h:w.ownsRow base t size v n xs){S:List Nat}(ht:Tch S w w')(hS:∀k,v.ownBlock=some k->k∉S):w'.ownsRow base t size v n xs:=by
 refine⟨h.1,?_⟩;rcases h.2 with hn|⟨g,cap,cur,rfl,hb,hg,rest⟩
 ·exact .inl hn
 ·exact .inr ⟨g,cap,cur,rfl,hb,(ht.block g (lt_of_block hg) (hS g rfl)).trans hg,rest⟩
theorem own_ne {t:TypeId}(h:w.ownsRow base t size v n xs){k:Nat}{C:Array Value}{t':TypeId}(hk:w.heap[k]?=some (.cells C t' (0,0)))(ht:t≠t'):v.ownBlock≠some k:=by
 intro e;rcases h.2 with ⟨rfl,_⟩|⟨g,cap,cur,rfl,hb,hg,rest⟩
 ·simp[Value.ownBlock]at e
 ·simp only[Value.ownBlock,Option.some.injEq]at e;subst e;rw[hg]at hk;simp at hk;exact ht hk.2
theorem own_lt {t:TypeId}(h:w.ownsRow base t size v n xs){k:Nat}(hk:v.ownBlock=some k):k<w.heap.size:=(World.ownsRow.lt h k hk).2
end Go.Proofs.YtbdobaapadlcjabGreatDoor
namespace Go.Proofs.YtbdobaapadlcjabGreatDoor
abbrev zT (n:Nat)(a:Array Value)(W:World)(v:Value):Prop:=Calls Tryz.prog n a W fun e w'=>e=.returned v/\Tch [] W w'
theorem zM (r:Wp.Rq)(y:Sl):cellsOf r y.v=#[.int .u8 (r.op.toNat:Int),.int .u8 (r.q.toNat:Int),.int .u8 (r.d.toNat:Int),.int .i64 r.vis,.int .i64 r.win,.int .i64 r.rcv,.int .i64 r.quo,.int .i64 r.mx,.int .i64 r.tic,.string r.grp,.string r.ded,.string r.bod,.string r.att,.string r.han,.slice y.a y.n y.c]:=rfl
end Go.Proofs.YtbdobaapadlcjabGreatDoor
