import Derived.Test.YtbdobaapadlcjaaGreatDoorBy02
set_option maxHeartbeats 4000000
set_option linter.unusedVariables false
set_option linter.unusedSimpArgs false
namespace Go.Proofs.YtbdobaapadlcjaaGreatDoor
open Go.RowKit
variable {w w':World}{b c B g:Nat}{x:Sl}{bs:List ByteArray}
def opR (op:UInt8):Wp.Rq:=⟨op,0,0,0,0,0,0,0,0,⟨#[]⟩,⟨#[]⟩,⟨#[]⟩,⟨#[]⟩,⟨#[]⟩⟩
structure St where
 r:Wp.Rq
 s:ByteArray
 fl:Bool
 bs:List ByteArray
def jE (t:St)(f:Nat):St:=⟨kF t.r t.s f,stS t.s f,stF t.s t.fl f,if f=14 then rdT (nmN t.s 1) (lf t.s 1) else t.bs⟩
def vL (s:ByteArray):UInt8:=UInt8.ofNat (nmN s 1 % 256)
def kU (s:ByteArray)(L:List Nat):St:=L.foldl jE ⟨opR (vL s),lf s 1,bad s false 1,[]⟩
theorem a7u (s:ByteArray)(L:List Nat)(f:Nat):kU s (L++[f])=jE (kU s L) f:=by
 unfold kU;rw[List.foldl_append];rfl
theorem kP {P:Program}{fn:Func}{p q:Tmp}{ty:TypeId}(h:fn.results=#[.cell p ty,.tmp q])(tmps:Array Value)(w:World)(g:Nat)(t:TypeId)(cs:Array Value)(fr:Nat×Nat)(d:TypeDesc)
  (hp:tmps.getD p undef=zp g)(hg:w.heap[g]?=some (.cells cs t fr))
  (hu:P.underlying ty=some d)(hd:(match d with|.struct _|.array _ _=>true|_=>false)=true)(hi:(P.info? ty).map (·.size)=some cs.size):
  (results fn tmps).run P w=.ok (.tuple #[.agg cs,tmps.getD q undef]) w:=by
 have hp':tmps[p]?.getD undef=zp g:=by simpa using hp
 simp[results,h,hp',asAddr,run_loadVar_row w g t ty cs fr d hg hu hd hi]
def SlOk (w:World)(b c:Nat)(x:Sl)(bs:List ByteArray):Prop:=
 x.n=bs.length/\∀j (h:j<bs.length),∃g,x.a=some ⟨g,0,none⟩/\b<g/\g≠c/\g<w.heap.size/\w.cell? ⟨g,0+j,none⟩=some (.string bs[j])
theorem SlOk.strs (h:SlOk w b c x bs):Strs w x.a bs:=fun j hj=>by
 obtain⟨g,ha,_,_,_,hc⟩:=h.2 j hj;exact⟨g,0,ha,hc⟩
theorem SlOk.g2 (h:SlOk w b c x bs)(g:G2 b c w w'):SlOk w' b c x bs:=⟨h.1,fun j hj=>by
 obtain⟨k,ha,h1,h2,h3,hc⟩:=h.2 j hj;exact⟨k,ha,h1,h2,Nat.lt_of_lt_of_le h3 g.size,(World.cell?_of_block (g.block k h3 (by omega) h2)).trans hc⟩⟩
theorem G2.below (g:G2 b c w w')(hB:B<=w.heap.size)(hb:B<=b)(hc:B<=c):Below B w w':=
 ⟨g.os,g.tape,g.output,g.size,fun k hk=>g.block k (by omega) (by omega) (by omega)⟩
theorem a6q {n:Nat}{l:List ByteArray}(h:w.heap[g]?=some (.cells (kR l n) 9 (0,0)))(hl:l.length=n)(j:Nat)(hj:j<l.length):w.cell? ⟨g,0+j,none⟩=some (.string l[j]):=by
 rw[Nat.zero_add];refine(cell_of_row w g j _ 9 (0,0) h).trans ?_;unfold kR;rw[List.getElem?_toArray,List.getElem?_append_left (by rw[List.length_map];exact hj),List.getElem?_map,List.getElem?_eq_getElem hj];rfl
theorem b9j (s:ByteArray)(f:Nat):(stS s f).size<=s.size:=by
 unfold stS
 repeat' split
 ·exact a1i _ _
 ·exact a1i _ _
 ·exact a1i _ _
 ·exact b3i _
 ·exact Nat.le_trans (b2s _ _) (a1i _ _)
theorem b2P (s:ByteArray)(L:List Nat):(kU s L).s.size<=s.size:=by
 unfold kU;have:∀(L:List Nat) (t:St),(L.foldl jE t).s.size<=t.s.size:=by
  intro L
  induction L with
  | nil=>intro t;exact Nat.le_refl _
  | cons f L ih=>intro t;exact Nat.le_trans (ih _) (b9j _ _)
 exact Nat.le_trans (this L _) (a1i _ _)
theorem a3T {P:Program}{ops:Array Oper}{rest:List Oper}{o:Oper}{a:Act}{Q:Exit->Act->World->Prop}(hw:Region.wanted o (yielded ops a.tmps)=true)(ty:TypeId)(x:Operand)(ho:o.op=.load ty x)
  (g:Nat)(hx:a.eval x=zp g)(t:TypeId)(cs:Array Value)(fr:Nat×Nat)(d:TypeDesc)(hg:w.heap[g]?=some (.cells cs t fr))
  (hu:P.underlying ty=some d)(hd:(match d with|.struct _|.array _ _=>true|_=>false)=true)(hi:(P.info? ty).map (·.size)=some cs.size)
  (h:wpList P ops Q rest (a.put o.dst (.agg cs)) w):wpList P ops Q (o::rest) a w:=
 BigFrame.wpList_want hw fun _ hK=>wp_load_row ty x ho g hx t cs fr d hg hu hd hi (hK _ _ h)
theorem jS:(Tryz.prog.info? 27).map (·.size)=some 15:=by kernel_rfl
theorem jC (r:Wp.Rq)(x:Sl):(ja r x.v).all (·.oneCell')=true:=by simp[ja,Sl.v,Value.oneCell']
theorem Blk.row {r:Wp.Rq}(h:Blk w b r x)(r':Wp.Rq)(x':Sl):Blk (w.setRow b (ja r' x'.v)) b r' x':=setRow_heap w b _ _ 27 (0,0) h
theorem b2O (s:ByteArray)(L:List Nat):(kU s L).bs.length<256:=by
 unfold kU;have:∀(L:List Nat) (t:St),t.bs.length<256->(L.foldl jE t).bs.length<256:=by
  intro L
  induction L with
  | nil=>intro t h;exact h
  | cons f L ih=>
   intro t h;refine ih _ ?_
   show (if f=14 then rdT (nmN t.s 1) (lf t.s 1) else t.bs).length<256
   by_cases e:f=14
   ·rw[if_pos e,vg];exact nm1 _
   ·rw[if_neg e];exact h
 exact this L _ (by show 0<256;decide)
theorem jD {a:World}(h:Below B a w){g:Nat}(hg:B<=g)(cs:Array Value):Below B a (w.setRow g cs):=
 h.trans ⟨rfl,rfl,rfl,by simp,fun k hk=>setRow_other w g k cs (by omega)⟩
theorem b3M (x y:Sl)(L:List Nat)(h:x.n=y.n):(kD x L).n=(kD y L).n:=by
 unfold kD
 induction L generalizing x y with
 | nil=>exact h
 | cons f L ih=>
  refine ih _ _ ?_;unfold eb
  by_cases e:f=14
  ·rw[if_pos e,if_pos e]
  ·rw[if_neg e,if_neg e];exact h
theorem a3o (r:Wp.Rq)(x y:Sl)(b:Bool)(h:x.n=y.n):jo r x b=jo r y b:=by
 unfold jo;rw[h,b3M x y _ h]
def jh (s:ByteArray):St:=kU s (Wp.lay ((vL s).toNat-65))
def jk (s:ByteArray):Bool:=Wp.isOp (vL s)&&(!(jh s).fl&&((jh s).s.toList.isEmpty&&jo (jh s).r ⟨none,(jh s).bs.length,0⟩ (Wp.short (jh s).bs)))
def FStrs (B:Nat)(w:World)(a:Option Addr)(bs:List ByteArray):Prop:=
 ∀j (h:j<bs.length),∃b o,a=some ⟨b,o,none⟩/\B<=b/\w.cell? ⟨b,o+j,none⟩=some (.string bs[j])
theorem FStrs.strs {a:Option Addr}(h:FStrs B w a bs):Strs w a bs:=fun j hj=>by
 obtain⟨b,o,ha,_,hc⟩:=h j hj;exact⟨b,o,ha,hc⟩
def zS (s:ByteArray)(e:Ending)(w w':World):Prop:=
 (jk s=true/\∃x:Sl,e=.returned (.tuple #[.agg (ja (jh s).r x.v),.int .i64 0])/\x.n=(jh s).bs.length/\FStrs w.heap.size w' x.a (jh s).bs)\/
 (jk s=false/\e=.returned (.tuple #[.agg (ja (opR 0) (Sl.v ⟨none,0,0⟩)),.int .i64 1]))
theorem a4W {s:ByteArray}{t:St}(hg:jk s=true)(ht:jh s=t)(x:Sl)(hn:x.n=t.bs.length)(hs:FStrs w.heap.size w' x.a t.bs):zS s (.returned (.tuple #[.agg (ja t.r x.v),.int .i64 0])) w w':=by
 subst ht;exact Or.inl ⟨hg,x,rfl,hn,hs⟩
theorem a9H (B:Nat)(s:ByteArray)(w:World)(i:Nat)(hop:(vL s).toNat=65+i)(hi:i<26)(hpos:0<(Wp.lay i).length)(hs:s.size<=maxLen)(hL:Lays B w)(hBw:B<=w.heap.size):
  Cp 60 #[.string s] w fun e w'=>zS s e w w'/\Below w.heap.size w w':=by
 have hsz:2<w.heap.size:=by have:=hL.1;omega
 have hisop:Wp.isOp (vL s)=true:=by simp[Wp.isOp,hop,hpos];omega
 have hend:Hid (jh s=kU s (Wp.lay i)):=by show _=_;rw[jh,hop,Nat.add_sub_cancel_left]
 have hgood:Hid (jk s=(!(jh s).fl&&((jh s).s.toList.isEmpty&&jo (jh s).r ⟨none,(jh s).bs.length,0⟩ (Wp.short (jh s).bs)))):=by
  show _=_
  rw[jk,hisop,Bool.true_and]
 clear hisop;have HNUM:Hid (∀W b,Rd W b s false->Cp 84 #[zp b,.int .i64 1] W fun e w'=>e=.returned (.int .i64 (nmN s 1:Nat))/\Rd w' b (lf s 1) (bad s false 1)/\W.grownBy w' (some b)/\w'.heap.size=W.heap.size):=
  fun W b h=>qJ b s false 1 W (Or.inl rfl) hs h
 have hnb:=nm1 s;have hnm:Hid (((nmN s 1:Nat):Int)=65+(i:Int)):=by
  show _=_
  have h1:(vL s).toNat=nmN s 1:=by
   unfold vL;rw[UInt8.toNat_ofNat_of_lt' (by have:=Nat.mod_lt (nmN s 1) (show 0<256 by decide);simpa using this)];exact Nat.mod_eq_of_lt hnb
  omega
 have HO:Hid (∀W,Lays B W->zE 85 #[.int .u8 (65+(i:Int))] W (.bool true)):=by
  intro W hW;have h1:=a1h B (vL s) W hW;have h2:Wp.isOp (vL s)=true:=by simp[Wp.isOp,hop,hpos];omega
  rw[h2,hop]at h1;exact h1
 have HL:=zH hL;obtain⟨la,lcap,hlc,hlj⟩:=hL.2.2 i hi;have HLJ:=zH hlj;have HLC:=zH hlc;have HLT:=zH (b1F i);have hlen:(Wp.lay i).length<100:=by
  have h1:∀a:Fin 26,(Wp.lay a.val).length<100:=by decide
  exact h1 ⟨i,hi⟩
 clear hL hlc hlj hpos;generalize Wp.lay i=L at*
 go_enter Tryz.func60,Tryz.ntmps60;go_wp2_with (go_at_call 83;go_in);refine(HNUM.out _ (w.heap.size+1) (heap_alloc2_new _ _ _)).mono ?_;rintro e w1 ⟨rfl,h1,h2,h3⟩;have hs1:w1.heap.size=w.heap.size+2:=by rw[h3];simp
 have H1:Hid (Rd w1 (w.heap.size+1) (lf s 1) (bad s false 1)/\w1.heap.size=w.heap.size+2):=⟨h1,hs1⟩;have HR:Hid (Blk w1 w.heap.size (opR 0) ⟨none,0,0⟩):=by
  show Blk _ _ _ _
  unfold Blk;rw[h2.block w.heap.size (by simp;omega) (by intro e;have:=Option.some.inj e;omega),heap_alloc2_old];rfl
 have HB:Hid (Below w.heap.size w w1):=by
  show Below _ _ _
  refine Below.grown (((Below.refl _ _).alloc (Nat.le_refl _) _).alloc (by simp) _) h2 (by simp;omega) ?_;intro k hk;have:=Option.some.inj hk;omega
 rw[hnm.out];have hlc1:=(HB.out.cell (p:=⟨0,i,none⟩) (show 0<w.heap.size by omega)).trans HLC.out;have hs2:0<w1.heap.size:=by omega
 clear h1 h2 h3 hs1;go_wp2_with fail;refine(HO.out _ (HL.out.below ((HB.out.alloc (by have:=H1.out.2;omega) _).mono hBw))).mono ?_;rintro e w2 ⟨rfl,rfl⟩;go_wp2_with fail;rw[Nat.add_sub_cancel_left]
 go_loopw [25] (fun v wr=>∃(k:Nat) (x:Sl),k<=L.length/\v=.int .i64 k/\Rd wr (w.heap.size+1) (kU s (L.take k)).s (kU s (L.take k)).fl/\Blk wr w1.heap.size (kU s (L.take k)).r x/\SlOk wr (w.heap.size+1) w1.heap.size x (kU s (L.take k)).bs/\Below w.heap.size w wr/\Blk wr w.heap.size (opR 0) ⟨none,0,0⟩/\w1.heap.size<wr.heap.size) (fun v _=>L.length-(intOf v).toNat)
 case atStart=>
  have h2:=H1.out.2;refine⟨0,⟨none,0,0⟩,Nat.zero_le _,rfl,?_,?_,⟨rfl,fun j hj=>absurd hj (by simp[kU])⟩,HB.out.alloc (by omega) _,?_,by simp⟩
  ·unfold Rd;rw[Below.heap_alloc _ _ _ (by omega)];exact H1.out.1
  ·unfold Blk;rw[heap_alloc_new];have e:(.int .u8 (65+(i:Int)):Value)=.int .u8 (((vL s).toNat:Nat):Int):=by rw[hop];rfl
   rw[e];rfl
  ·unfold Blk;rw[Below.heap_alloc _ _ _ (by omega)];exact HR.out
 case round=>
  obtain⟨k,x,hk,rfl,hrd,hbk,hsl,hbw,hres,hsw⟩:=hrel;have HBW:=zH hbw;have HRS:=zH hres;have HSL:=zH hsl;have hw1:=H1.out.2;have HW1:=zH hw1
  by_cases hlt:k<L.length
  ·obtain⟨lb,lo,rfl,hlb,hck⟩:=HLJ.out k hlt;have hck':=(hbw.cell (p:=⟨lb,lo+k,none⟩) (show lb<w.heap.size by omega)).trans hck;have hf:=HLT.out k;have htk:Hid (kU s (L.take (k+1))=jE (kU s (L.take k)) (L.getD k 0)):=by
    show _=_
    rw[<-a7u,List.take_succ_eq_append_getElem hlt,List.getD_eq_getElem?_getD,List.getElem?_eq_getElem hlt,Option.getD_some]
   generalize L.getD k 0=f at hck' hf htk hck;have hle:=Nat.le_trans (b2P s (L.take k)) hs;have hrf:Hid (Cp 86 #[zp (w.heap.size+1),zp w1.heap.size,.int .i64 (f:Int)] wr fun e w'=>e=.returned (.tuple #[])/\RF wr w' (w.heap.size+1) w1.heap.size (kU s (L.take k)).s (kU s (L.take k)).fl (kU s (L.take k)).r x f):=
    a3y B (w.heap.size+1) w1.heap.size f _ _ _ x wr hf hle (by omega) (by omega) hsw (HL.out.below (hbw.mono hBw)) hrd hbk
   clear hrd hbk hsl hbw hres hck hle hw1;go_wp2_with fail;refine(hrf.out).mono ?_;rintro e w2 ⟨rfl,hq⟩;have hrel':∃x',Rd w2 (w.heap.size+1) (kU s (L.take (k+1))).s (kU s (L.take (k+1))).fl/\Blk w2 w1.heap.size (kU s (L.take (k+1))).r x'/\SlOk w2 (w.heap.size+1) w1.heap.size x' (kU s (L.take (k+1))).bs/\Below w.heap.size w w2/\Blk w2 w.heap.size (opR 0) ⟨none,0,0⟩/\w1.heap.size<w2.heap.size:=by
    rw[htk.out];obtain⟨x',hb',hx1,hx2⟩:=hq.blk;have hn1:=HW1.out;refine⟨x',hq.rd,hb',?_,HBW.out.trans (hq.g2.below (by omega) (by omega) (by omega)),?_,Nat.lt_of_lt_of_le hsw hq.g2.size⟩
    ·by_cases h14:f=14
     ·obtain⟨g,hg,rfl,hrow⟩:=hx2 h14;subst h14;refine⟨(vg _ _).symm,fun j hj=>⟨g,rfl,by omega,by omega,(Array.getElem?_eq_some_iff.1 hrow).1,?_⟩⟩
      exact a6q hrow (vg _ _) j hj
     ·rw[hx1 h14];have e:(jE (kU s (L.take k)) f).bs=(kU s (L.take k)).bs:=if_neg h14;rw[e];exact HSL.out.g2 hq.g2
    ·unfold Blk;rw[hq.g2.block w.heap.size (by omega) (by omega) (by omega)];exact HRS.out
   have HREL:Hid _:=hrel';clear hq hrel';go_wp2_with fail;go_roundw
   case rel=>
    obtain⟨x',a1,a2,a3,a4,a5,a6⟩:=HREL.out;exact⟨k+1,x',by omega,by go_num,a1,a2,a3,a4,a5,a6⟩
   case measure=>simp[intOf];omega
  ·have he:L.take k=L:=List.take_of_length_le (by omega);rw[he,<-hend.out]at hrd hbk hsl;have hbl:Hid ((jh s).bs.length<256):=by
    show _<_
    rw[hend.out];exact b2O s L
   generalize hte:jh s=t at hbl hrd hbk hsl hgood hend;have HTE:=zH hte;clear hte;have HBK:=zH hbk;have HSLT:=zH hsl;have c0:=hrd.c0;have c1:=hrd.c1;have hinf:=jS;clear hrd hbk hsl hbw hres he hw1 HSL
   cases hfl:t.fl
   ·rw[hfl]at c1
    by_cases hs0:0<t.s.size
    ·have hem:=a7C hs0;have hg:Hid (jk s=false):=by
      show _=_
      rw[hgood.out,hfl,hem];rfl
     clear hfl;go_wp2_with (first|(go_at_call 87;go_in)|(go_at_call 88;go_in)|(refine wpList_store_row rfl 27 _ _ rfl w.heap.size (ja (opR 0) (Sl.v ⟨none,0,0⟩)) rfl rfl 27 _ HRS.out hinf rfl (jC _ _) ?_));exact bodyPost_ret (kP (p:=2) (q:=3) rfl _ _ w.heap.size 27 _ (0,0) _ rfl (HRS.out.row (opR 0) ⟨none,0,0⟩) Tryz.underlying27 rfl hinf) rfl ⟨Or.inr ⟨hg.out,rfl⟩,jD HBW.out (Nat.le_refl _) _⟩
    ·have hem:=a7B hs0;have hrt:Hid (∀W,Below wr.heap.size wr W->zB 81 #[.agg (ja t.r x.v)] W (.bool (jo t.r x (Wp.short t.bs)))):=by
      intro W hW;have hlen2:t.bs.length<=maxLen:=by have:=hbl.out;unfold maxLen;omega
      have hbs:=HBW.out.size;exact a1M B t.r x t.bs W HSLT.out.1 hlen2 (HL.out.below ((HBW.out.mono hBw).trans (hW.mono (by omega)))) (by have:=hW.size;omega) (HSLT.out.strs.below hW)
     have hrn:Hid (jo t.r x (Wp.short t.bs)=jo t.r ⟨none,t.bs.length,0⟩ (Wp.short t.bs)):=a3o _ _ _ _ HSLT.out.1
     cases hrw:jo t.r x (Wp.short t.bs)
     ·rw[hrw]at hrt;have hg:Hid (jk s=false):=by
       show _=_
       rw[hgood.out,hfl,hem,<-hrn.out,hrw];rfl
      clear hfl hrw;go_wp2_with (first|(go_at_call 87;go_in)|(go_at_call 88;go_in)|(refine a3T rfl 27 _ rfl w1.heap.size rfl 27 _ (0,0) _ HBK.out Tryz.underlying27 rfl hinf ?_));refine(hrt.out wr (Below.refl _ _)).mono ?_;rintro e w2 ⟨rfl,hb2⟩;have hsw2:w.heap.size<wr.heap.size:=by have:=HW1.out;omega
      have hrs2:Blk w2 w.heap.size (opR 0) ⟨none,0,0⟩:=by
       unfold Blk;rw[hb2.block w.heap.size hsw2];exact HRS.out
      have HRS2:=zH hrs2;have HBW2:=zH (HBW.out.trans (hb2.mono (by omega)));clear hb2 hrs2;go_wp2_with (first|(go_at_call 87;go_in)|(go_at_call 88;go_in)|(refine wpList_store_row rfl 27 _ _ rfl w.heap.size (ja (opR 0) (Sl.v ⟨none,0,0⟩)) rfl rfl 27 _ HRS2.out hinf rfl (jC _ _) ?_));exact bodyPost_ret (kP (p:=2) (q:=3) rfl _ _ w.heap.size 27 _ (0,0) _ rfl (HRS2.out.row (opR 0) ⟨none,0,0⟩) Tryz.underlying27 rfl hinf) rfl ⟨Or.inr ⟨hg.out,rfl⟩,jD HBW2.out (Nat.le_refl _) _⟩
     ·rw[hrw]at hrt;have hg:Hid (jk s=true):=by
       show _=_
       rw[hgood.out,hfl,hem,<-hrn.out,hrw];rfl
      clear hfl hrw;go_wp2_with (first|(go_at_call 87;go_in)|(go_at_call 88;go_in)|(refine a3T rfl 27 _ rfl w1.heap.size rfl 27 _ (0,0) _ HBK.out Tryz.underlying27 rfl hinf ?_));refine(hrt.out wr (Below.refl _ _)).mono ?_;rintro e w2 ⟨rfl,hb2⟩;have hsw2:w.heap.size<wr.heap.size:=by have:=HW1.out;omega
      have hrs2:Blk w2 w.heap.size (opR 0) ⟨none,0,0⟩:=by
       unfold Blk;rw[hb2.block w.heap.size hsw2];exact HRS.out
      have hbk2:Blk w2 w1.heap.size t.r x:=by
       unfold Blk;rw[hb2.block w1.heap.size hsw];exact HBK.out
      have HBK2:=zH hbk2;have HRS2:=zH hrs2;have HBW2:=zH (HBW.out.trans (hb2.mono (by omega)));have HST:Hid (FStrs w.heap.size (w2.setRow w.heap.size (ja t.r x.v)) x.a t.bs):=by
       intro j hj;obtain⟨g,ha,h1,h2,h3,hc⟩:=HSLT.out.2 j hj;refine⟨g,0,ha,by omega,?_⟩;have e1:(w2.setRow w.heap.size (ja t.r x.v)).heap[g]?=wr.heap[g]?:=(setRow_other w2 w.heap.size g _ (by omega)).trans (hb2.block g h3);exact(World.cell?_of_block (a:=⟨g,0+j,none⟩) e1).trans hc
      clear hb2 hrs2 hbk2;go_wp2_with (first|(refine wpList_load_row rfl 27 _ rfl w1.heap.size rfl 27 _ (0,0) _ HBK2.out Tryz.underlying27 rfl hinf ?_)|(refine wpList_store_row rfl 27 _ _ rfl w.heap.size (ja t.r x.v) rfl rfl 27 _ HRS2.out hinf rfl (jC _ _) ?_));exact bodyPost_ret (kP (p:=2) (q:=3) rfl _ _ w.heap.size 27 _ (0,0) _ rfl (HRS2.out.row t.r x) Tryz.underlying27 rfl hinf) rfl ⟨a4W hg.out HTE.out x HSLT.out.1 HST.out,jD HBW2.out (Nat.le_refl _) _⟩
   ·rw[hfl]at c1;have hg:Hid (jk s=false):=by
     show _=_
     rw[hgood.out,hfl];rfl
    clear hfl;go_wp2_with (first|(go_at_call 87;go_in)|(go_at_call 88;go_in)|(refine wpList_store_row rfl 27 _ _ rfl w.heap.size (ja (opR 0) (Sl.v ⟨none,0,0⟩)) rfl rfl 27 _ HRS.out hinf rfl (jC _ _) ?_));exact bodyPost_ret (kP (p:=2) (q:=3) rfl _ _ w.heap.size 27 _ (0,0) _ rfl (HRS.out.row (opR 0) ⟨none,0,0⟩) Tryz.underlying27 rfl hinf) rfl ⟨Or.inr ⟨hg.out,rfl⟩,jD HBW.out (Nat.le_refl _) _⟩
theorem b2b (B:Nat)(s:ByteArray)(w:World)(hno:Wp.isOp (vL s)=false)(hs:s.size<=maxLen)(hL:Lays B w)(hBw:B<=w.heap.size):
  Cp 60 #[.string s] w fun e w'=>zS s e w w'/\Below w.heap.size w w':=by
 have hg:Hid (jk s=false):=by show _=_;rw[jk,hno];rfl
 have HNUM:Hid (∀W b,Rd W b s false->Cp 84 #[zp b,.int .i64 1] W fun e w'=>e=.returned (.int .i64 (nmN s 1:Nat))/\Rd w' b (lf s 1) (bad s false 1)/\W.grownBy w' (some b)/\w'.heap.size=W.heap.size):=
  fun W b h=>qJ b s false 1 W (Or.inl rfl) hs h
 have hnb:=nm1 s;have HO:Hid (∀W,Lays B W->zE 85 #[.int .u8 ((nmN s 1:Nat):Int)] W (.bool false)):=by
  intro W hW;have h1:=a1h B (vL s) W hW;have h2:(vL s).toNat=nmN s 1:=by
   unfold vL;rw[UInt8.toNat_ofNat_of_lt' (by have:=Nat.mod_lt (nmN s 1) (show 0<256 by decide);simpa using this)];exact Nat.mod_eq_of_lt hnb
  rw[hno,h2]at h1;exact h1
 have HL:=zH hL;have hinf:=jS;clear hL hno;generalize nmN s 1=n at HNUM HO hnb;go_enter Tryz.func60,Tryz.ntmps60;go_wp2_with (go_at_call 83;go_in);refine(HNUM.out _ (w.heap.size+1) (heap_alloc2_new _ _ _)).mono ?_;rintro e w1 ⟨rfl,h1,h2,h3⟩;have hs1:w1.heap.size=w.heap.size+2:=by rw[h3];simp
 have HR:Hid (Blk w1 w.heap.size (opR 0) ⟨none,0,0⟩):=by
  show Blk _ _ _ _
  unfold Blk;rw[h2.block w.heap.size (by simp;omega) (by intro e;have:=Option.some.inj e;omega),heap_alloc2_old];rfl
 have HB:Hid (Below w.heap.size w w1):=by
  show Below _ _ _
  refine Below.grown (((Below.refl _ _).alloc (Nat.le_refl _) _).alloc (by simp) _) h2 (by simp;omega) ?_;intro k hk;have:=Option.some.inj hk;omega
 have HS1:=zH hs1;clear h1 h2 h3 hs1;go_wp2_with fail;refine(HO.out _ (HL.out.below ((HB.out.alloc (by have:=HS1.out;omega) _).mono hBw))).mono ?_;rintro e w2 ⟨rfl,hw2⟩;have hrs2:Blk w2 w.heap.size (opR 0) ⟨none,0,0⟩:=by
  unfold Blk;rw[hw2,Below.heap_alloc _ _ _ (by have:=HS1.out;omega)];exact HR.out
 have HRS2:=zH hrs2;have HBW2:Hid (Below w.heap.size w w2):=by
  show Below _ _ _
  rw[hw2];exact HB.out.alloc (by have:=HS1.out;omega) _
 clear hw2 hrs2;go_wp2_with (refine wpList_store_row rfl 27 _ _ rfl w.heap.size (ja (opR 0) (Sl.v ⟨none,0,0⟩)) rfl rfl 27 _ HRS2.out hinf rfl (jC _ _) ?_);exact bodyPost_ret (kP (p:=2) (q:=3) rfl _ _ w.heap.size 27 _ (0,0) _ rfl (HRS2.out.row (opR 0) ⟨none,0,0⟩) Tryz.underlying27 rfl hinf) rfl ⟨Or.inr ⟨hg.out,rfl⟩,jD HBW2.out (Nat.le_refl _) _⟩
theorem a1G (B:Nat)(s:ByteArray)(w:World)(hs:s.size<=maxLen)(hL:Lays B w)(hBw:B<=w.heap.size):
  Cp 60 #[.string s] w fun e w'=>zS s e w w'/\Below w.heap.size w w':=by
 cases h:Wp.isOp (vL s)
 ·exact b2b B s w h hs hL hBw
 ·simp only[Wp.isOp,Bool.and_eq_true,decide_eq_true_eq]at h;exact a9H B s w ((vL s).toNat-65) (by omega) (by omega) h.2 hs hL hBw
end Go.Proofs.YtbdobaapadlcjaaGreatDoor
namespace Go.Proofs.YtbdobaapadlcjaaGreatDoor.Crc
variable {h:Nat}
def tab:List Nat:=[0,498536548,997073096,651767980,1994146192,1802195444,1303535960,1342533948,3988292384,4027552580,3604390888,3412177804,2607071920,2262029012,2685067896,3183342108]
def half (h:Nat):Nat:=(h / 16) ^^^ tab.getD (h % 16) 0
def step (h:Nat)(b:UInt8):Nat:=half (half (h ^^^ b.toNat))
def run (h:Nat)(l:List UInt8):Nat:=l.foldl step h
def crc (l:List UInt8):Nat:=4294967295-run 4294967295 l
theorem tab_lt (i:Nat):tab.getD i 0<4294967296:=by
 by_cases h:i<16
 ·have:∀j:Fin 16,tab.getD j.val 0<4294967296:=by decide
  exact this ⟨i,h⟩
 ·rw[List.getD_eq_getElem?_getD,List.getElem?_eq_none (by simp[tab];omega)];decide
theorem xor_lt {a b:Nat}(ha:a<4294967296)(hb:b<4294967296):a ^^^ b<4294967296:=by
 have:=Nat.xor_lt_two_pow (n:=32) (x:=a) (y:=b) (by omega) (by omega);omega
theorem half_lt (hh:h<4294967296):half h<4294967296:=xor_lt (by omega) (tab_lt _)
theorem byte_lt (b:UInt8):b.toNat<4294967296:=Nat.lt_trans b.toNat_lt (by decide)
theorem b4U (b:UInt8)(hh:h<4294967296):step h b<4294967296:=half_lt (half_lt (xor_lt hh (byte_lt b)))
theorem run_lt (l:List UInt8)(hh:h<4294967296):run h l<4294967296:=by
 induction l generalizing h with
 | nil=>exact hh
 | cons b l ih=>exact ih (b4U b hh)
theorem run_snoc (h:Nat)(l:List UInt8)(b:UInt8):run h (l++[b])=step (run h l) b:=by simp[run]
theorem not_sub (x:Nat)(hx:x<4294967296):4294967295 ^^^ x=4294967295-x:=by
 have h:=congrArg BitVec.toNat (BitVec.allOnes_xor (x:=BitVec.ofNat 32 x));rw[BitVec.toNat_xor,BitVec.toNat_not,BitVec.toNat_allOnes,BitVec.toNat_ofNat,Nat.mod_eq_of_lt (by omega)]at h;omega
theorem not_u32 (x:Nat)(hx:x<4294967296):bits .xor .u32 4294967295 (x:Int)=((4294967295-x:Nat):Int):=by
 rw[<-not_sub x hx];exact u32_xor_nat 4294967295 x (by omega) hx
theorem xor_u32 (a b:Nat)(ha:a<4294967296)(hb:b<4294967296):bits .xor .u32 (a:Int) (b:Int)=((a ^^^ b:Nat):Int):=u32_xor_nat a b ha hb
theorem and_u32 (a:Nat)(ha:a<4294967296):bits .and .u32 (a:Int) 15=((a % 16:Nat):Int):=by
 have:=u32_and_nat a 15 ha (by omega);rw[show (15:Nat)=2^4-1 by decide,Nat.and_two_pow_sub_one_eq_mod]at this
 exact this
end Go.Proofs.YtbdobaapadlcjaaGreatDoor.Crc
namespace Go.Proofs.YtbdobaapadlcjaaGreatDoor
open Go.RowKit
theorem a5f {k:IntKind}{a b:Int}(h:a=b):Ending.returned (.int k a)=.returned (.int k b):=by rw[h]
theorem a3G (s:ByteArray)(w:World)(hs:s.size<=maxLen)(hT:∀i:Nat,i<16->w.cell? ⟨2,i,none⟩=some (.int .u32 (Crc.tab.getD i 0:Nat))):
  zE 92 #[.string s] w (.int .u32 (Crc.crc s.data.toList:Nat)):=by
 unfold maxLen at hs;go_enter Tryz.func92,Tryz.ntmps92
 go_wp2
 go_loop [3,7] (fun h i=>∃k:Nat,k<=s.size/\i=.int .i64 k/\h=.int .u32 (Crc.run 4294967295 (s.data.toList.take k):Nat)) (fun _ i=>s.size-(intOf i).toNat)
 case atStart=>exact⟨0,Nat.zero_le _,rfl,rfl⟩
 case round=>
  obtain⟨k,hk,rfl,rfl⟩:=hrel;have hHl:=Crc.run_lt (h:=4294967295) (s.data.toList.take k) (by decide)
  by_cases hlt:k<s.size
  ·have hsn:Crc.run 4294967295 (s.data.toList.take (k+1))=Crc.step (Crc.run 4294967295 (s.data.toList.take k)) s[k]:=by
    rw[<-Crc.run_snoc,List.take_succ_eq_append_getElem (by simpa using hlt)];rfl
   generalize Crc.run 4294967295 (s.data.toList.take k)=H at hHl hsn;unfold Crc.step at hsn;have e1:bits .xor .u32 (H:Int) ((s[k].toNat:Int) % 4294967296)=((H ^^^ s[k].toNat:Nat):Int):=by
    rw[Int.emod_eq_of_lt (by omega) (by have:=s[k].toNat_lt;omega)];exact Crc.xor_u32 _ _ hHl (Crc.byte_lt _)
   have l1:=Crc.xor_lt hHl (Crc.byte_lt s[k]);generalize H ^^^ s[k].toNat=X1 at e1 hsn l1;have a1:=Crc.and_u32 X1 l1;have c1:=hT (X1 % 16) (Nat.mod_lt _ (by decide));have m1:X1 % 16<16:=Nat.mod_lt _ (by decide);have t1:=Crc.tab_lt (X1 % 16);have x1:bits .xor .u32 ((X1:Int) / 16) ((Crc.tab.getD (X1 % 16) 0:Nat):Int)=((Crc.half X1:Nat):Int):=by
    have:=Crc.xor_u32 (X1 / 16) _ (by omega) t1;rw[show ((X1 / 16:Nat):Int)=(X1:Int) / 16 by omega]at this
    exact this
   have l2:=Crc.half_lt l1;generalize Crc.half X1=X2 at hsn x1 l2;generalize Crc.tab.getD (X1 % 16) 0=T1 at c1 x1 t1;generalize X1 % 16=J1 at a1 c1 m1;have a2:=Crc.and_u32 X2 l2;have c2:=hT (X2 % 16) (Nat.mod_lt _ (by decide));have m2:X2 % 16<16:=Nat.mod_lt _ (by decide);have t2:=Crc.tab_lt (X2 % 16);have x2:bits .xor .u32 ((X2:Int) / 16) ((Crc.tab.getD (X2 % 16) 0:Nat):Int)=((Crc.half X2:Nat):Int):=by
    have:=Crc.xor_u32 (X2 / 16) _ (by omega) t2;rw[show ((X2 / 16:Nat):Int)=(X2:Int) / 16 by omega]at this
    exact this
   generalize Crc.half X2=X3 at hsn x2;generalize Crc.tab.getD (X2 % 16) 0=T2 at c2 x2 t2;generalize X2 % 16=J2 at a2 c2 m2;have HS:=zH hsn;clear hsn hT
   go_wp2
   go_round
   case rel=>exact⟨k+1,by omega,by go_num,by rw[HS.out]⟩
   case measure=>simp[intOf];omega
  ·generalize hH:Crc.run 4294967295 (s.data.toList.take k)=H at hHl;have HH:Hid (Crc.run 4294967295 (s.data.toList.take k)=H):=hH;clear hH;have n1:bits .xor .u32 IntKind.u32.max (H:Int)=((4294967295-H:Nat):Int):=Crc.not_u32 H hHl
   go_wp2
   go_ret;exact⟨a5f (by rw[Crc.crc,<-HH.out,List.take_of_length_le (by simp;omega)]),rfl⟩
def Tab (w:World):Prop:=∀i:Nat,i<16->w.cell? ⟨2,i,none⟩=some (.int .u32 (Crc.tab.getD i 0:Nat))
theorem Tab.below {B:Nat}{w w':World}(h:Tab w)(hb:Below B w w')(hB:2<B):Tab w':=fun i hi=>(hb.cell (p:=⟨2,i,none⟩) hB).trans (h i hi)
end Go.Proofs.YtbdobaapadlcjaaGreatDoor
namespace Go.Proofs.YtbdobaapadlcjaaGreatDoor
variable {s:ByteArray}{a b:Wp.Rq}
def BA (l:List UInt8):ByteArray:=⟨l.toArray⟩
theorem vq (l:List UInt8):(BA l).data.toList=l:=rfl
theorem jH (l:List UInt8):(BA l).size=l.length:=by simp[BA,ByteArray.size]
theorem a2j (s:ByteArray):BA s.data.toList=s:=rfl
theorem kI {t:ByteArray}(h:s.data.toList=t.data.toList):s=t:=ByteArray.ext (Array.toList_inj.1 h)
theorem a5k (s:ByteArray)(n:Nat)(h:n<=s.size):(tk s n).data.toList=s.data.toList.take n:=by
 rw[tk,if_pos h,Lib.extract_data];simp
theorem a8e (s:ByteArray)(n:Nat)(h:n<=s.size):(lf s n).data.toList=s.data.toList.drop n:=by
 rw[lf,if_pos h,Lib.extract_data];have:s.size=s.data.toList.length:=rfl;rw[this,List.take_of_length_le (by simp)]
theorem a1P (p q:List UInt8):tk (BA (p++q)) p.length=BA p:=by
 apply kI;rw[a5k _ _ (by rw[jH];simp),vq,vq,List.take_left]
theorem qU (p q:List UInt8):lf (BA (p++q)) p.length=BA q:=by
 apply kI;rw[a8e _ _ (by rw[jH];simp),vq,vq,List.drop_left]
theorem qL (p q:List UInt8)(f:Bool):bad (BA (p++q)) f p.length=f:=by
 rw[bad,if_pos (by rw[jH];simp)]
theorem b1I (n:Nat):leN (je n 1)=n % 256:=by
 have h:(UInt8.ofNat (n % 256)).toNat=n % 256:=UInt8.toNat_ofNat_of_lt' (by have:=Nat.mod_lt n (show 0<256 by decide);simpa using this);have e:je n 1=[UInt8.ofNat (n % 256)]:=by simp[je]
 rw[e]
 show (UInt8.ofNat (n % 256)).toNat+256*0=_
 omega
theorem a2Z (n:Nat):leN (je n 2)=n % 65536:=by
 have h:∀m:Nat,(UInt8.ofNat (m % 256)).toNat=m % 256:=fun m=>UInt8.toNat_ofNat_of_lt' (by have:=Nat.mod_lt m (show 0<256 by decide);simpa using this)
 have e:je n 2=[UInt8.ofNat (n % 256),UInt8.ofNat (n / 256 % 256)]:=by simp[je,List.range_succ]
 rw[e]
 show (UInt8.ofNat (n % 256)).toNat+256*((UInt8.ofNat (n / 256 % 256)).toNat+256*0)=_
 rw[h,h];omega
theorem a1j (n:Nat)(q:List UInt8)(h:n<256):nmN (BA (je n 1++q)) 1=n:=by
 have e:=a1P (je n 1) q;rw[jc]at e;rw[nmN,e,vq,b1I];omega
theorem a2q (n:Nat)(q:List UInt8)(h:n<65536):nmN (BA (je n 2++q)) 2=n:=by
 have e:=a1P (je n 2) q;rw[jc]at e;rw[nmN,e,vq,a2Z];omega
theorem a4Q (c:UInt8)(q:List UInt8):UInt8.ofNat (nmN (BA ([c]++q)) 1 % 256)=c:=by
 have e:=a1P [c] q;rw[show [c].length=1 from rfl]at e
 have h:nmN (BA ([c]++q)) 1=c.toNat:=by
  rw[nmN,e,vq];simp[leN]
 have hc:=c.toNat_lt;rw[h,Nat.mod_eq_of_lt hc];simp
theorem a1Q (t:ByteArray)(q:List UInt8)(fl:Bool)(h:t.size<256):txS (BA (jx t++q))=t/\txL (BA (jx t++q))=BA q/\txF (BA (jx t++q)) fl=fl:=by
 have hl:=jc t.size 1;have e:jx t++q=je t.size 1++(t.data.toList++q):=by rw[jx,List.append_assoc]
 have h1:=qU (je t.size 1) (t.data.toList++q);have h2:=qL (je t.size 1) (t.data.toList++q) fl;rw[hl]at h1 h2;have h3:=a1j t.size (t.data.toList++q) h;have h4:=a1P t.data.toList q;have h5:=qU t.data.toList q;have h6:=qL t.data.toList q fl;have hs:t.data.toList.length=t.size:=rfl;rw[hs]at h4 h5 h6;rw[e];refine⟨?_,?_,?_⟩
 ·rw[txS,h3,h1,h4];rfl
 ·rw[txL,h3,h1,h5]
 ·rw[txF,h3,h1,h2,h6]
theorem a1n (k:Nat)(s:ByteArray):rdS (k+1) s=rdS k (txL s):=by
 induction k with
 | zero=>rfl
 | succ k ih=>rw[rdS,ih];rfl
theorem a6c (k:Nat)(s:ByteArray)(f:Bool):rdF (k+1) s f=rdF k (txL s) (txF s f):=by
 induction k with
 | zero=>rfl
 | succ k ih=>rw[rdF,ih,a1n];rfl
theorem a6e (k:Nat)(s:ByteArray):rdT (k+1) s=txS s::rdT k (txL s):=by
 induction k with
 | zero=>rfl
 | succ k ih=>rw[rdT,ih,a1n];rfl
theorem b7p (bs:List ByteArray)(q:List UInt8)(fl:Bool)(h:∀s∈bs,s.size<256):rdT bs.length (BA (jK bs++q))=bs/\rdS bs.length (BA (jK bs++q))=BA q/\rdF bs.length (BA (jK bs++q)) fl=fl:=by
 induction bs with
 | nil=>exact⟨rfl,rfl,rfl⟩
 | cons b bs ih=>
  have e:jK (b::bs)++q=jx b++(jK bs++q):=by simp[jK]
  have h1:=a1Q b (jK bs++q) fl (h b List.mem_cons_self);have h2:=ih (fun s hs=>h s (List.mem_cons_of_mem _ hs));rw[e,List.length_cons,a6e,a1n,a6c,h1.1,h1.2.1,h1.2.2,h2.1];exact⟨rfl,h2.2.1,h2.2.2⟩
def cp (r0 r:Wp.Rq)(f:Nat):Wp.Rq:=
 if f=0 then {r0 with q:=r.q}
 else if f=1 then {r0 with d:=r.d}
 else if f=2 then {r0 with vis:=r.vis}
 else if f=3 then {r0 with win:=r.win}
 else if f=4 then {r0 with rcv:=r.rcv}
 else if f=5 then {r0 with quo:=r.quo}
 else if f=6 then {r0 with mx:=r.mx}
 else if f=7 then {r0 with tic:=r.tic}
 else if f=8 then {r0 with tic:=r.tic}
 else if f=9 then {r0 with grp:=r.grp}
 else if f=10 then {r0 with ded:=r.ded}
 else if f=11 then {r0 with bod:=r.bod}
 else if f=12 then {r0 with att:=r.att}
 else if f=13 then {r0 with han:=r.han}
 else r0
theorem b2w (r0 r:Wp.Rq)(bs:List ByteArray)(f:Nat)(q:List UInt8)(fl:Bool)(hf:f<15)(h:r.fits bs.length (Wp.short bs) f=true):
  kF r0 (BA (jU r bs f++q)) f=cp r0 r f/\stS (BA (jU r bs f++q)) f=BA q/\stF (BA (jU r bs f++q)) fl f=fl/\(f=14->rdT (nmN (BA (jU r bs f++q)) 1) (lf (BA (jU r bs f++q)) 1)=bs):=by
 have hx:f=0\/f=1\/f=2\/f=3\/f=4\/f=5\/f=6\/f=7\/f=8\/f=9\/f=10\/f=11\/f=12\/f=13\/f=14:=by omega
 rcases hx with rfl|rfl|rfl|rfl|rfl|rfl|rfl|rfl|rfl|rfl|rfl|rfl|rfl|rfl|rfl
 ·have e:jU r bs 0=[r.q]:=rfl;rw[e];refine⟨?_,qU [r.q] q,qL [r.q] q fl,fun h=>by cases h⟩
  show {r0 with q:=UInt8.ofNat (nmN (BA ([r.q]++q)) 1 % 256)}={r0 with q:=r.q}
  rw[a4Q]
 ·have e:jU r bs 1=[r.d]:=rfl;rw[e];refine⟨?_,qU [r.d] q,qL [r.d] q fl,fun h=>by cases h⟩
  show {r0 with d:=UInt8.ofNat (nmN (BA ([r.d]++q)) 1 % 256)}={r0 with d:=r.d}
  rw[a4Q]
 ·have hb1:1<=r.vis:=(jt r bs 2 (by decide) h).1;have hb2:r.vis<=1000:=(jt r bs 2 (by decide) h).2;have e:jU r bs 2=je r.vis.toNat 2:=rfl;have hl:=jc r.vis.toNat 2;have h1:=qU (je r.vis.toNat 2) q;have h2:=qL (je r.vis.toNat 2) q fl;rw[hl]at h1 h2;rw[e];refine⟨?_,h1,h2,fun h=>by cases h⟩
  show {r0 with vis:=((nmN (BA (je r.vis.toNat 2++q)) 2:Nat):Int)}={r0 with vis:=r.vis}
  rw[a2q _ _ (by omega),show ((r.vis.toNat:Nat):Int)=r.vis by omega]
 ·have hb1:0<=r.win:=(jt r bs 3 (by decide) h).1;have hb2:r.win<=1000:=(jt r bs 3 (by decide) h).2;have e:jU r bs 3=je r.win.toNat 2:=rfl;have hl:=jc r.win.toNat 2;have h1:=qU (je r.win.toNat 2) q;have h2:=qL (je r.win.toNat 2) q fl;rw[hl]at h1 h2;rw[e];refine⟨?_,h1,h2,fun h=>by cases h⟩
  show {r0 with win:=((nmN (BA (je r.win.toNat 2++q)) 2:Nat):Int)}={r0 with win:=r.win}
  rw[a2q _ _ (by omega),show ((r.win.toNat:Nat):Int)=r.win by omega]
 ·have hb1:0<=r.rcv:=(jt r bs 4 (by decide) h).1;have hb2:r.rcv<=9:=(jt r bs 4 (by decide) h).2;have e:jU r bs 4=je r.rcv.toNat 1:=rfl;have hl:=jc r.rcv.toNat 1;have h1:=qU (je r.rcv.toNat 1) q;have h2:=qL (je r.rcv.toNat 1) q fl;rw[hl]at h1 h2;rw[e];refine⟨?_,h1,h2,fun h=>by cases h⟩
  show {r0 with rcv:=((nmN (BA (je r.rcv.toNat 1++q)) 1:Nat):Int)}={r0 with rcv:=r.rcv}
  rw[a1j _ _ (by omega),show ((r.rcv.toNat:Nat):Int)=r.rcv by omega]
 ·have hb1:1<=r.quo:=(jt r bs 5 (by decide) h).1;have hb2:r.quo<=50:=(jt r bs 5 (by decide) h).2;have e:jU r bs 5=je r.quo.toNat 1:=rfl;have hl:=jc r.quo.toNat 1;have h1:=qU (je r.quo.toNat 1) q;have h2:=qL (je r.quo.toNat 1) q fl;rw[hl]at h1 h2;rw[e];refine⟨?_,h1,h2,fun h=>by cases h⟩
  show {r0 with quo:=((nmN (BA (je r.quo.toNat 1++q)) 1:Nat):Int)}={r0 with quo:=r.quo}
  rw[a1j _ _ (by omega),show ((r.quo.toNat:Nat):Int)=r.quo by omega]
 ·have hb1:1<=r.mx:=(jt r bs 6 (by decide) h).1;have hb2:r.mx<=10:=(jt r bs 6 (by decide) h).2;have e:jU r bs 6=je r.mx.toNat 1:=rfl;have hl:=jc r.mx.toNat 1;have h1:=qU (je r.mx.toNat 1) q;have h2:=qL (je r.mx.toNat 1) q fl;rw[hl]at h1 h2;rw[e];refine⟨?_,h1,h2,fun h=>by cases h⟩
  show {r0 with mx:=((nmN (BA (je r.mx.toNat 1++q)) 1:Nat):Int)}={r0 with mx:=r.mx}
  rw[a1j _ _ (by omega),show ((r.mx.toNat:Nat):Int)=r.mx by omega]
 ·have hb1:0<=r.tic:=(jt r bs 7 (by decide) h).1;have hb2:r.tic<=1000:=(jt r bs 7 (by decide) h).2;have e:jU r bs 7=je r.tic.toNat 2:=rfl;have hl:=jc r.tic.toNat 2;have h1:=qU (je r.tic.toNat 2) q;have h2:=qL (je r.tic.toNat 2) q fl;rw[hl]at h1 h2;rw[e];refine⟨?_,h1,h2,fun h=>by cases h⟩
  show {r0 with tic:=((nmN (BA (je r.tic.toNat 2++q)) 2:Nat):Int)}={r0 with tic:=r.tic}
  rw[a2q _ _ (by omega),show ((r.tic.toNat:Nat):Int)=r.tic by omega]
 ·have hb1:1<=r.tic:=(jt r bs 8 (by decide) h).1;have hb2:r.tic<=1000:=(jt r bs 8 (by decide) h).2;have e:jU r bs 8=je r.tic.toNat 2:=rfl;have hl:=jc r.tic.toNat 2;have h1:=qU (je r.tic.toNat 2) q;have h2:=qL (je r.tic.toNat 2) q fl;rw[hl]at h1 h2;rw[e];refine⟨?_,h1,h2,fun h=>by cases h⟩
  show {r0 with tic:=((nmN (BA (je r.tic.toNat 2++q)) 2:Nat):Int)}={r0 with tic:=r.tic}
  rw[a2q _ _ (by omega),show ((r.tic.toNat:Nat):Int)=r.tic by omega]
 ·have hb2:((r.grp.size:Nat):Int)<=8:=(jt r bs 9 (by decide) h).2;have e:jU r bs 9=jx r.grp:=rfl;rw[e];have ht:=a1Q r.grp q fl (by omega);refine⟨?_,ht.2.1,ht.2.2,fun h=>by cases h⟩
  show {r0 with grp:=txS (BA (jx r.grp++q))}={r0 with grp:=r.grp}
  rw[ht.1]
 ·have hb2:((r.ded.size:Nat):Int)<=8:=(jt r bs 10 (by decide) h).2;have e:jU r bs 10=jx r.ded:=rfl;rw[e];have ht:=a1Q r.ded q fl (by omega);refine⟨?_,ht.2.1,ht.2.2,fun h=>by cases h⟩
  show {r0 with ded:=txS (BA (jx r.ded++q))}={r0 with ded:=r.ded}
  rw[ht.1]
 ·have hb2:((r.bod.size:Nat):Int)<=255:=(jt r bs 11 (by decide) h).2;have e:jU r bs 11=jx r.bod:=rfl;rw[e];have ht:=a1Q r.bod q fl (by omega);refine⟨?_,ht.2.1,ht.2.2,fun h=>by cases h⟩
  show {r0 with bod:=txS (BA (jx r.bod++q))}={r0 with bod:=r.bod}
  rw[ht.1]
 ·have hb2:((r.att.size:Nat):Int)<=8:=(jt r bs 12 (by decide) h).2;have e:jU r bs 12=jx r.att:=rfl;rw[e];have ht:=a1Q r.att q fl (by omega);refine⟨?_,ht.2.1,ht.2.2,fun h=>by cases h⟩
  show {r0 with att:=txS (BA (jx r.att++q))}={r0 with att:=r.att}
  rw[ht.1]
 ·have hb2:((r.han.size:Nat):Int)<=255:=(jt r bs 13 (by decide) h).2;have e:jU r bs 13=jx r.han:=rfl;rw[e];have ht:=a1Q r.han q fl (by omega);refine⟨?_,ht.2.1,ht.2.2,fun h=>by cases h⟩
  show {r0 with han:=txS (BA (jx r.han++q))}={r0 with han:=r.han}
  rw[ht.1]
 ·have hb2:((bs.length:Nat):Int)<=10:=(jt r bs 14 (by decide) h).2;have hsh:=a2G r bs h;have e:jU r bs 14=je bs.length 1++jK bs:=rfl;rw[e,List.append_assoc];have hl:=jc bs.length 1;have h1:=qU (je bs.length 1) (jK bs++q);have h2:=qL (je bs.length 1) (jK bs++q) fl;rw[hl]at h1 h2;have h3:=a1j bs.length (jK bs++q) (by omega);have h4:=b7p bs q fl (fun s hs=>by have:=hsh s hs;omega);refine⟨rfl,?_,?_,fun _=>?_⟩
  ·show rdS (nmN _ 1) (lf _ 1)=_
   rw[h3,h1];exact h4.2.1
  ·show rdF (nmN _ 1) (lf _ 1) (bad _ fl 1)=_
   rw[h3,h1,h2];exact h4.2.2
  ·rw[h3,h1];exact h4.1
def i64 (n:Int):Prop:=-9223372036854775808<=n/\n<=9223372036854775807
structure Wf (r:Wp.Rq):Prop where
 vis:i64 r.vis
 win:i64 r.win
 rcv:i64 r.rcv
 quo:i64 r.quo
 mx:i64 r.mx
 tic:i64 r.tic
theorem wrap_i64 (n:Int):i64 (IntKind.i64.wrap n):=by
 unfold i64;simp[IntKind.wrap,IntKind.bits,IntKind.signed]
 split<;>omega
theorem a3c (a:Int)(ha:i64 a)(h:BitVec.ofInt 64 a=0#64):a=0:=by
 have h1:=congrArg BitVec.toInt h;rw[BitVec.toInt_ofInt,BitVec.toInt_zero]at h1;unfold i64 at ha;unfold Int.bmod at h1;dsimp only at h1
 split at h1<;>omega
theorem vZ (a b:Int)(ha:i64 a)(hb:i64 b):bits .or .i64 a b=0↔a=0/\b=0:=by
 constructor
 ·intro h;have h0:IntKind.i64.wrap ((BitVec.ofInt 64 a ||| BitVec.ofInt 64 b).toNat:Int)=0:=h;have hz:(BitVec.ofInt 64 a ||| BitVec.ofInt 64 b).toNat=0:=by
   have hlt:=(BitVec.ofInt 64 a ||| BitVec.ofInt 64 b).isLt;generalize (BitVec.ofInt 64 a ||| BitVec.ofInt 64 b).toNat=n at h0 hlt;simp[IntKind.wrap,IntKind.bits,IntKind.signed]at h0
   split at h0<;>omega
  have hv:BitVec.ofInt 64 a ||| BitVec.ofInt 64 b=0#64:=BitVec.eq_of_toNat_eq (by rw[hz];rfl);have hab:=BitVec.or_eq_zero_iff.1 hv;exact⟨a3c a ha hab.1,a3c b hb hab.2⟩
 ·rintro ⟨rfl,rfl⟩;decide
theorem xw (a b:Int):i64 (bits .or .i64 a b):=wrap_i64 _
theorem b4r (a b:Nat)(ha:a<256)(hb:b<256):bits .or .u8 (a:Int) (b:Int)=0↔a=0/\b=0:=by
 rw[u8_or_nat a b ha hb];constructor
 ·intro h;have h1:a ||| b=0:=by omega
  exact Nat.or_eq_zero_iff.1 h1
 ·rintro ⟨rfl,rfl⟩;rfl
theorem a7h (a b:Nat)(ha:a<256)(hb:b<256):∃c:Nat,bits .or .u8 (a:Int) (b:Int)=(c:Int)/\c<256/\(c=0↔a=0/\b=0):=
 ⟨a ||| b,u8_or_nat a b ha hb,by have:=Nat.or_lt_two_pow (n:=8) (x:=a) (y:=b) (by omega) (by omega);omega,Nat.or_eq_zero_iff⟩
theorem a3M (s:ByteArray):s.toList.isEmpty=true↔s=⟨#[]⟩:=by
 constructor
 ·intro h;apply ByteArray.ext;apply Array.eq_empty_of_size_eq_zero;have:¬0<s.size:=fun hs=>by rw[a7C hs]at h;cases h
  have e:s.size=s.data.size:=rfl;omega
 ·rintro rfl;exact a7B (s:=⟨#[]⟩) (by show ¬0<0;omega)
theorem a8Y (c:UInt8):c.toNat=0↔c=0:=⟨fun h=>UInt8.toNat_inj.1 h,fun h=>by rw[h];rfl⟩
theorem a8W (r:Wp.Rq)(n:Nat)(h:Wf r):a0M r n=true↔r=opR 0/\n=0:=by
 obtain⟨c,hc,hc2,hc3⟩:=a7h r.op.toNat r.q.toNat r.op.toNat_lt r.q.toNat_lt;unfold a0M;rw[hc];simp only[Bool.and_eq_true,beq_iff_eq,b4r c r.d.toNat hc2 r.d.toNat_lt,hc3,vZ _ _ (xw _ _) h.tic,vZ _ _ (xw _ _) h.mx,vZ _ _ (xw _ _) h.quo,vZ _ _ (xw _ _) h.rcv,vZ _ _ h.vis h.win,a3M,a8Y];constructor
 ·rintro ⟨⟨⟨⟨⟨h1,h2⟩,h3⟩,⟨⟨⟨⟨h4,h5⟩,h6⟩,h7⟩,h8⟩,h9⟩,⟨⟨⟨h10,h11⟩,h12⟩,h13⟩,h14⟩,h15⟩;refine⟨?_,by omega⟩
  cases r
  simp only at*
  subst h1 h2 h3 h4 h5 h6 h7 h8 h9 h10 h11 h12 h13 h14;rfl
 ·rintro ⟨rfl,rfl⟩;exact⟨⟨⟨⟨⟨rfl,rfl⟩,rfl⟩,⟨⟨⟨⟨rfl,rfl⟩,rfl⟩,rfl⟩,rfl⟩,rfl⟩,⟨⟨⟨rfl,rfl⟩,rfl⟩,rfl⟩,rfl⟩,rfl⟩
theorem b1w {c:Prop} [Decidable c] {a b:Wp.Rq}(ha:Wf a)(hb:Wf b):Wf (if c then a else b):=by
 by_cases h:c
 ·rw[if_pos h];exact ha
 ·rw[if_neg h];exact hb
theorem b8w (r:Wp.Rq)(f:Nat)(h:Wf r):Wf (er r f):=by
 have hz:i64 0:=by unfold i64;omega
 obtain⟨h1,h2,h3,h4,h5,h6⟩:=h;unfold er
 repeat' (refine b1w ?_ ?_)
 all_goals exact⟨by first|exact h1|exact hz,by first|exact h2|exact hz,by first|exact h3|exact hz,by first|exact h4|exact hz,by first|exact h5|exact hz,by first|exact h6|exact hz⟩
theorem b0V (r:Wp.Rq)(L:List Nat)(h:Wf r):Wf (jX r L):=by
 unfold jX
 induction L generalizing r with
 | nil=>exact h
 | cons f L ih=>exact ih _ (b8w r f h)
def qT:List Nat:=[0,1,2,4,15,17,18,19,21,23]
theorem a2p (op:UInt8):Wp.isOp op=true↔∃i∈qT,op.toNat=65+i:=by
 have h1:∀a:Fin 26,0<(Wp.lay a.val).length↔a.val∈qT:=by decide
 have h2:∀i∈qT,i<26:=by decide
 simp only[Wp.isOp,Bool.and_eq_true,decide_eq_true_eq];constructor
 ·rintro ⟨⟨a,b⟩,c⟩;exact⟨op.toNat-65,(h1 ⟨op.toNat-65,by omega⟩).1 c,by omega⟩
 ·rintro ⟨i,hi,he⟩;have:=h2 i hi;refine⟨⟨by omega,by omega⟩,?_⟩;rw[he,Nat.add_sub_cancel_left];exact(h1 ⟨i,this⟩).2 hi
theorem vj (r:Wp.Rq)(x:Sl)(b:Bool)(h:Wf r):jo r x b=true↔∃i∈qT,r.op.toNat=65+i/\(Wp.lay i).all (r.fits x.n b)=true/\jX {r with op:=0} (Wp.lay i)=opR 0/\(kD x (Wp.lay i)).n=0:=by
 have hw:Wf {r with op:=0}:=⟨h.vis,h.win,h.rcv,h.quo,h.mx,h.tic⟩;unfold jo;rw[Bool.and_eq_true,Bool.and_eq_true,a2p,a8W _ _ (b0V _ _ hw)];constructor
 ·rintro ⟨⟨i,hi,he⟩,h1,h2,h3⟩;rw[he,Nat.add_sub_cancel_left]at h1 h2 h3;exact⟨i,hi,he,h1,h2,h3⟩
 ·rintro ⟨i,hi,he,h1,h2,h3⟩;rw[he,Nat.add_sub_cancel_left];exact⟨⟨i,hi,rfl⟩,h1,h2,h3⟩
theorem b0E (r:Wp.Rq)(i:Nat)(hi:i∈qT)(he:jX {r with op:=0} (Wp.lay i)=opR 0):(Wp.lay i).foldl (fun a f=>cp a r f) (opR r.op)=r:=by
 simp only[qT,List.mem_cons,List.not_mem_nil,or_false]at hi;obtain⟨op,q,d,vis,win,rcv,quo,mx,tic,grp,ded,bod,att,han⟩:=r;rcases hi with rfl|rfl|rfl|rfl|rfl|rfl|rfl|rfl|rfl|rfl<;>
  (simp[Wp.lay,Wp.layTab,jX,er,opR]at he;simp[Wp.lay,Wp.layTab,cp,opR,he])
theorem b0R (x:Sl)(i:Nat)(hi:i∈qT)(h:(kD x (Wp.lay i)).n=0):i=1\/x.n=0:=by
 simp only[qT,List.mem_cons,List.not_mem_nil,or_false]at hi;rcases hi with rfl|rfl|rfl|rfl|rfl|rfl|rfl|rfl|rfl|rfl<;>
  (simp[Wp.lay,Wp.layTab,kD,eb]at h ⊢;try exact h)
theorem b4K (r:Wp.Rq)(bs:List ByteArray)(q:List UInt8)(L:List Nat)(hL:∀f∈L,f<15)(hall:L.all (r.fits bs.length (Wp.short bs))=true)(t:St)(ht:t.s=BA (kW r bs L++q))(hf:t.fl=false):
  L.foldl jE t=⟨L.foldl (fun a f=>cp a r f) t.r,BA q,false,if 14∈L then bs else t.bs⟩:=by
 induction L generalizing t with
 | nil=>
  obtain⟨tr,ts,tf,tb⟩:=t;simp only at ht hf;subst ht hf;rfl
 | cons f L ih=>
  rw[List.all_cons,Bool.and_eq_true]at hall;have e:kW r bs (f::L)++q=jU r bs f++(kW r bs L++q):=by
   have e1:kW r bs (f::L)=jU r bs f++kW r bs L:=by simp[kW]
   rw[e1,List.append_assoc]
  rw[e]at ht;obtain⟨h1,h2,h3,h4⟩:=b2w t.r r bs f (kW r bs L++q) t.fl (hL f List.mem_cons_self) hall.1;rw[<-ht]at h1 h2 h3 h4;rw[List.foldl_cons,ih (fun g hg=>hL g (List.mem_cons_of_mem _ hg)) hall.2 (jE t f) h2 (h3.trans hf)];have e2:(jE t f).r=cp t.r r f:=h1;have e3:(jE t f).bs=if f=14 then bs else t.bs:=by
   show (if f=14 then rdT (nmN t.s 1) (lf t.s 1) else t.bs)=_
   by_cases h14:f=14
   ·rw[if_pos h14,if_pos h14];exact h4 h14
   ·rw[if_neg h14,if_neg h14]
  rw[e2,e3,List.foldl_cons];congr 1
  by_cases h14:f=14
  ·subst h14;simp
  ·have:(14∈f::L)=(14∈L):=by simp[Ne.symm h14]
   rw[if_neg h14]
   by_cases hm:14∈L
   ·rw[if_pos hm,if_pos (by rw[this];exact hm)]
   ·rw[if_neg hm,if_neg (by rw[this];exact hm)]
theorem a0S (i:Nat)(hi:i∈qT):∀f∈Wp.lay i,f<15:=by
 have h2:∀i∈qT,∀f∈Wp.lay i,f<15:=by decide
 exact h2 i hi
theorem a4y (r:Wp.Rq)(x:Sl)(bs:List ByteArray)(q:List UInt8)(hw:Wf r)(hxn:x.n=bs.length)(h:jo r x (Wp.short bs)=true):
  jh (BA (r.op::kW r bs (Wp.lay (r.op.toNat-65))++q))=⟨r,BA q,false,bs⟩/\vL (BA (r.op::kW r bs (Wp.lay (r.op.toNat-65))++q))=r.op:=by
 obtain⟨i,hi,hop,hall,her,heb⟩:=(vj r x _ hw).1 h;rw[hop,Nat.add_sub_cancel_left];have ho:vL (BA (r.op::kW r bs (Wp.lay i)++q))=r.op:=a4Q r.op (kW r bs (Wp.lay i)++q);have h1:lf (BA (r.op::kW r bs (Wp.lay i)++q)) 1=BA (kW r bs (Wp.lay i)++q):=qU [r.op] (kW r bs (Wp.lay i)++q);have h2:bad (BA (r.op::kW r bs (Wp.lay i)++q)) false 1=false:=qL [r.op] (kW r bs (Wp.lay i)++q) false;refine⟨?_,ho⟩;unfold jh kU;rw[ho,hop,Nat.add_sub_cancel_left,h1,h2];rw[hxn]at hall;rw[b4K r bs q (Wp.lay i) (a0S i hi) hall _ rfl rfl,b0E r i hi her];congr 1
 by_cases h14:14∈Wp.lay i
 ·rw[if_pos h14]
 ·rw[if_neg h14];rcases b0R x i hi heb with rfl|hn
  ·exact absurd (by decide) h14
  ·rw[hxn]at hn;exact(List.length_eq_zero_iff.1 hn).symm
theorem b1i (r:Wp.Rq)(x:Sl)(bs:List ByteArray)(q:List UInt8)(hw:Wf r)(hxn:x.n=bs.length)(h:jo r x (Wp.short bs)=true):
  jk (BA (r.op::kW r bs (Wp.lay (r.op.toNat-65))++q))=q.isEmpty:=by
 obtain⟨h1,h2⟩:=a4y r x bs q hw hxn h;have hop:Wp.isOp r.op=true:=by
  unfold jo at h;rw[Bool.and_eq_true]at h;exact h.1
 unfold jk;rw[h1,h2,hop,<-a3o r x ⟨none,bs.length,0⟩ (Wp.short bs) hxn,h]
 show (true&&(!false&&((BA q).toList.isEmpty&&true)))=_
 rw[ByteArray.toList_eq,vq];simp
theorem kV {fl:Bool}{n:Nat}(h:bad s fl n=false):fl=false/\n<=s.size:=by
 unfold bad at h
 by_cases hn:n<=s.size
 ·rw[if_pos hn]at h;exact⟨h,hn⟩
 ·rw[if_neg hn]at h;cases h
theorem qR (s:ByteArray)(n:Nat)(h:n<=s.size):s.data.toList=(tk s n).data.toList++(lf s n).data.toList:=by
 rw[a5k s n h,a8e s n h,List.take_append_drop]
theorem a4l (s:ByteArray)(n:Nat)(h:n<=s.size):(tk s n).data.toList.length=n:=by
 rw[a5k s n h,List.length_take];have:s.data.toList.length=s.size:=rfl;omega
theorem a3U (n k:Nat):je n (k+1)=UInt8.ofNat (n % 256)::je (n / 256) k:=by
 unfold je;rw[List.range_succ_eq_map,List.map_cons,List.map_map];congr 1
 ·simp
 ·apply List.map_congr_left;intro j _
  show UInt8.ofNat (n / 256^(j+1) % 256)=UInt8.ofNat (n / 256 / 256^j % 256)
  rw[Nat.div_div_eq_div_mul,Nat.pow_succ,Nat.mul_comm]
theorem a4O (l:List UInt8):je (leN l) l.length=l:=by
 induction l with
 | nil=>rfl
 | cons c r ih=>
  have hc:=c.toNat_lt;have h1:leN (c::r) % 256=c.toNat:=by show (c.toNat+256*leN r) % 256=_;omega
  have h2:leN (c::r) / 256=leN r:=by show (c.toNat+256*leN r) / 256=_;omega
  rw[List.length_cons,a3U,h1,h2,ih];congr 1;simp
theorem qE (s:ByteArray)(n:Nat)(h:n<=s.size):je (nmN s n) n=(tk s n).data.toList:=by
 have h1:=a4O (tk s n).data.toList;rw[a4l s n h]at h1;exact h1
theorem a0N (s:ByteArray)(h:1<=s.size):[UInt8.ofNat (nmN s 1 % 256)]=(tk s 1).data.toList:=by
 have h1:=qE s 1 h;rw[a3U]at h1;exact h1
theorem xC (s:ByteArray)(fl:Bool)(h:txF s fl=false):fl=false/\s.data.toList=jx (txS s)++(txL s).data.toList:=by
 have h1:=kV h;have h2:=kV h1.1;refine⟨h2.1,?_⟩;have e1:=qR s 1 h2.2;have e2:=qR (lf s 1) (nmN s 1) h1.2;have e3:(txS s).size=nmN s 1:=a4l (lf s 1) (nmN s 1) h1.2;rw[jx,e3,qE s 1 h2.2,List.append_assoc];exact e1.trans (congrArg _ e2)
theorem b2t (k:Nat)(s:ByteArray)(fl:Bool)(h:rdF k s fl=false):fl=false/\s.data.toList=jK (rdT k s)++(rdS k s).data.toList:=by
 induction k generalizing s fl with
 | zero=>exact⟨h,rfl⟩
 | succ k ih=>
  rw[a6c]at h;obtain⟨h1,h2⟩:=ih _ _ h;obtain⟨h3,h4⟩:=xC s fl h1;refine⟨h3,?_⟩;rw[a6e,a1n];have e:jK (txS s::rdT k (txL s))=jx (txS s)++jK (rdT k (txL s)):=by simp[jK]
  rw[e,List.append_assoc,<-h2];exact h4
theorem b5f (s:ByteArray)(fl:Bool)(r:Wp.Rq)(bs:List ByteArray)(h:stF s fl 0=false):fl=false/\s.data.toList=jU (kF r s 0) (if 0=14 then rdT (nmN s 1) (lf s 1) else bs) 0++(stS s 0).data.toList:=by
 have h':=h;have hb:=kV h';have e:jU (kF r s 0) (if 0=14 then rdT (nmN s 1) (lf s 1) else bs) 0=[UInt8.ofNat (nmN s 1 % 256)]:=rfl;have e2:stS s 0=lf s 1:=rfl;rw[e,e2,a0N s hb.2];exact⟨hb.1,qR s 1 hb.2⟩
theorem b5g (s:ByteArray)(fl:Bool)(r:Wp.Rq)(bs:List ByteArray)(h:stF s fl 1=false):fl=false/\s.data.toList=jU (kF r s 1) (if 1=14 then rdT (nmN s 1) (lf s 1) else bs) 1++(stS s 1).data.toList:=by
 have h':=h;have hb:=kV h';have e:jU (kF r s 1) (if 1=14 then rdT (nmN s 1) (lf s 1) else bs) 1=[UInt8.ofNat (nmN s 1 % 256)]:=rfl;have e2:stS s 1=lf s 1:=rfl;rw[e,e2,a0N s hb.2];exact⟨hb.1,qR s 1 hb.2⟩
theorem b5h (s:ByteArray)(fl:Bool)(r:Wp.Rq)(bs:List ByteArray)(h:stF s fl 2=false):fl=false/\s.data.toList=jU (kF r s 2) (if 2=14 then rdT (nmN s 1) (lf s 1) else bs) 2++(stS s 2).data.toList:=by
 have h':=h;have hb:=kV h';have e:jU (kF r s 2) (if 2=14 then rdT (nmN s 1) (lf s 1) else bs) 2=je ((nmN s 2:Nat):Int).toNat 2:=rfl;have e2:stS s 2=lf s 2:=rfl;rw[e,e2,Int.toNat_natCast,qE s 2 hb.2];exact⟨hb.1,qR s 2 hb.2⟩
theorem b5i (s:ByteArray)(fl:Bool)(r:Wp.Rq)(bs:List ByteArray)(h:stF s fl 3=false):fl=false/\s.data.toList=jU (kF r s 3) (if 3=14 then rdT (nmN s 1) (lf s 1) else bs) 3++(stS s 3).data.toList:=by
 have h':=h;have hb:=kV h';have e:jU (kF r s 3) (if 3=14 then rdT (nmN s 1) (lf s 1) else bs) 3=je ((nmN s 2:Nat):Int).toNat 2:=rfl;have e2:stS s 3=lf s 2:=rfl;rw[e,e2,Int.toNat_natCast,qE s 2 hb.2];exact⟨hb.1,qR s 2 hb.2⟩
theorem b5j (s:ByteArray)(fl:Bool)(r:Wp.Rq)(bs:List ByteArray)(h:stF s fl 4=false):fl=false/\s.data.toList=jU (kF r s 4) (if 4=14 then rdT (nmN s 1) (lf s 1) else bs) 4++(stS s 4).data.toList:=by
 have h':=h;have hb:=kV h';have e:jU (kF r s 4) (if 4=14 then rdT (nmN s 1) (lf s 1) else bs) 4=je ((nmN s 1:Nat):Int).toNat 1:=rfl;have e2:stS s 4=lf s 1:=rfl;rw[e,e2,Int.toNat_natCast,qE s 1 hb.2];exact⟨hb.1,qR s 1 hb.2⟩
theorem b5k (s:ByteArray)(fl:Bool)(r:Wp.Rq)(bs:List ByteArray)(h:stF s fl 5=false):fl=false/\s.data.toList=jU (kF r s 5) (if 5=14 then rdT (nmN s 1) (lf s 1) else bs) 5++(stS s 5).data.toList:=by
 have h':=h;have hb:=kV h';have e:jU (kF r s 5) (if 5=14 then rdT (nmN s 1) (lf s 1) else bs) 5=je ((nmN s 1:Nat):Int).toNat 1:=rfl;have e2:stS s 5=lf s 1:=rfl;rw[e,e2,Int.toNat_natCast,qE s 1 hb.2];exact⟨hb.1,qR s 1 hb.2⟩
theorem b5l (s:ByteArray)(fl:Bool)(r:Wp.Rq)(bs:List ByteArray)(h:stF s fl 6=false):fl=false/\s.data.toList=jU (kF r s 6) (if 6=14 then rdT (nmN s 1) (lf s 1) else bs) 6++(stS s 6).data.toList:=by
 have h':=h;have hb:=kV h';have e:jU (kF r s 6) (if 6=14 then rdT (nmN s 1) (lf s 1) else bs) 6=je ((nmN s 1:Nat):Int).toNat 1:=rfl;have e2:stS s 6=lf s 1:=rfl;rw[e,e2,Int.toNat_natCast,qE s 1 hb.2];exact⟨hb.1,qR s 1 hb.2⟩
theorem b5m (s:ByteArray)(fl:Bool)(r:Wp.Rq)(bs:List ByteArray)(h:stF s fl 7=false):fl=false/\s.data.toList=jU (kF r s 7) (if 7=14 then rdT (nmN s 1) (lf s 1) else bs) 7++(stS s 7).data.toList:=by
 have h':=h;have hb:=kV h';have e:jU (kF r s 7) (if 7=14 then rdT (nmN s 1) (lf s 1) else bs) 7=je ((nmN s 2:Nat):Int).toNat 2:=rfl;have e2:stS s 7=lf s 2:=rfl;rw[e,e2,Int.toNat_natCast,qE s 2 hb.2];exact⟨hb.1,qR s 2 hb.2⟩
theorem b5n (s:ByteArray)(fl:Bool)(r:Wp.Rq)(bs:List ByteArray)(h:stF s fl 8=false):fl=false/\s.data.toList=jU (kF r s 8) (if 8=14 then rdT (nmN s 1) (lf s 1) else bs) 8++(stS s 8).data.toList:=by
 have h':=h;have hb:=kV h';have e:jU (kF r s 8) (if 8=14 then rdT (nmN s 1) (lf s 1) else bs) 8=je ((nmN s 2:Nat):Int).toNat 2:=rfl;have e2:stS s 8=lf s 2:=rfl;rw[e,e2,Int.toNat_natCast,qE s 2 hb.2];exact⟨hb.1,qR s 2 hb.2⟩
theorem b5o (s:ByteArray)(fl:Bool)(r:Wp.Rq)(bs:List ByteArray)(h:stF s fl 9=false):fl=false/\s.data.toList=jU (kF r s 9) (if 9=14 then rdT (nmN s 1) (lf s 1) else bs) 9++(stS s 9).data.toList:=by
 have h':=h;have e:jU (kF r s 9) (if 9=14 then rdT (nmN s 1) (lf s 1) else bs) 9=jx (txS s):=rfl;have e2:stS s 9=txL s:=rfl;rw[e,e2];exact xC s fl h'
theorem b3j (s:ByteArray)(fl:Bool)(r:Wp.Rq)(bs:List ByteArray)(h:stF s fl 10=false):fl=false/\s.data.toList=jU (kF r s 10) (if 10=14 then rdT (nmN s 1) (lf s 1) else bs) 10++(stS s 10).data.toList:=by
 have h':=h;have e:jU (kF r s 10) (if 10=14 then rdT (nmN s 1) (lf s 1) else bs) 10=jx (txS s):=rfl;have e2:stS s 10=txL s:=rfl;rw[e,e2];exact xC s fl h'
theorem b3k (s:ByteArray)(fl:Bool)(r:Wp.Rq)(bs:List ByteArray)(h:stF s fl 11=false):fl=false/\s.data.toList=jU (kF r s 11) (if 11=14 then rdT (nmN s 1) (lf s 1) else bs) 11++(stS s 11).data.toList:=by
 have h':=h;have e:jU (kF r s 11) (if 11=14 then rdT (nmN s 1) (lf s 1) else bs) 11=jx (txS s):=rfl;have e2:stS s 11=txL s:=rfl;rw[e,e2];exact xC s fl h'
theorem b3l (s:ByteArray)(fl:Bool)(r:Wp.Rq)(bs:List ByteArray)(h:stF s fl 12=false):fl=false/\s.data.toList=jU (kF r s 12) (if 12=14 then rdT (nmN s 1) (lf s 1) else bs) 12++(stS s 12).data.toList:=by
 have h':=h;have e:jU (kF r s 12) (if 12=14 then rdT (nmN s 1) (lf s 1) else bs) 12=jx (txS s):=rfl;have e2:stS s 12=txL s:=rfl;rw[e,e2];exact xC s fl h'
theorem b3m (s:ByteArray)(fl:Bool)(r:Wp.Rq)(bs:List ByteArray)(h:stF s fl 13=false):fl=false/\s.data.toList=jU (kF r s 13) (if 13=14 then rdT (nmN s 1) (lf s 1) else bs) 13++(stS s 13).data.toList:=by
 have h':=h;have e:jU (kF r s 13) (if 13=14 then rdT (nmN s 1) (lf s 1) else bs) 13=jx (txS s):=rfl;have e2:stS s 13=txL s:=rfl;rw[e,e2];exact xC s fl h'
theorem b3n (s:ByteArray)(fl:Bool)(r:Wp.Rq)(bs:List ByteArray)(h:stF s fl 14=false):fl=false/\s.data.toList=jU (kF r s 14) (if 14=14 then rdT (nmN s 1) (lf s 1) else bs) 14++(stS s 14).data.toList:=by
 have h':=h;have e:jU (kF r s 14) (if 14=14 then rdT (nmN s 1) (lf s 1) else bs) 14=je (rdT (nmN s 1) (lf s 1)).length 1++jK (rdT (nmN s 1) (lf s 1)):=rfl;have e2:stS s 14=rdS (nmN s 1) (lf s 1):=rfl;have ht:=b2t (nmN s 1) (lf s 1) (bad s fl 1) h';have hb:=kV ht.1;rw[e,e2,vg,qE s 1 hb.2,List.append_assoc,<-ht.2];exact⟨hb.1,qR s 1 hb.2⟩
theorem a7E (s:ByteArray)(fl:Bool)(r:Wp.Rq)(bs:List ByteArray)(f:Nat)(hf:f<15)(h:stF s fl f=false):fl=false/\s.data.toList=jU (kF r s f) (if f=14 then rdT (nmN s 1) (lf s 1) else bs) f++(stS s f).data.toList:=by
 have hx:f=0\/f=1\/f=2\/f=3\/f=4\/f=5\/f=6\/f=7\/f=8\/f=9\/f=10\/f=11\/f=12\/f=13\/f=14:=by omega
 rcases hx with rfl|rfl|rfl|rfl|rfl|rfl|rfl|rfl|rfl|rfl|rfl|rfl|rfl|rfl|rfl
 ·exact b5f s fl r bs h
 ·exact b5g s fl r bs h
 ·exact b5h s fl r bs h
 ·exact b5i s fl r bs h
 ·exact b5j s fl r bs h
 ·exact b5k s fl r bs h
 ·exact b5l s fl r bs h
 ·exact b5m s fl r bs h
 ·exact b5n s fl r bs h
 ·exact b5o s fl r bs h
 ·exact b3j s fl r bs h
 ·exact b3k s fl r bs h
 ·exact b3l s fl r bs h
 ·exact b3m s fl r bs h
 ·exact b3n s fl r bs h
theorem b3N (r:Wp.Rq)(s:ByteArray)(bs:List ByteArray)(f g:Nat)(hf:f<15)(hg:g<15)(h:qK g≠qK f):jU (kF r s g) bs f=jU r bs f:=by
 have hx:f=0\/f=1\/f=2\/f=3\/f=4\/f=5\/f=6\/f=7\/f=8\/f=9\/f=10\/f=11\/f=12\/f=13\/f=14:=by omega
 have hy:g=0\/g=1\/g=2\/g=3\/g=4\/g=5\/g=6\/g=7\/g=8\/g=9\/g=10\/g=11\/g=12\/g=13\/g=14:=by omega
 rcases hx with rfl|rfl|rfl|rfl|rfl|rfl|rfl|rfl|rfl|rfl|rfl|rfl|rfl|rfl|rfl<;>
  rcases hy with rfl|rfl|rfl|rfl|rfl|rfl|rfl|rfl|rfl|rfl|rfl|rfl|rfl|rfl|rfl<;>
  first|rfl|exact absurd rfl h
theorem b0U (L:List Nat)(t:St)(bs:List ByteArray)(f:Nat)(hf:f<15)(hL:∀g∈L,g<15/\qK g≠qK f):jU (L.foldl jE t).r bs f=jU t.r bs f:=by
 induction L generalizing t with
 | nil=>rfl
 | cons g L ih=>
  have hg:=hL g List.mem_cons_self;rw[List.foldl_cons,ih _ (fun a ha=>hL a (List.mem_cons_of_mem _ ha))];exact b3N t.r t.s bs f g hf hg.1 hg.2
theorem b3v (L:List Nat)(t:St)(h:14∉L):(L.foldl jE t).bs=t.bs:=by
 induction L generalizing t with
 | nil=>rfl
 | cons g L ih=>
  rw[List.foldl_cons,ih _ (fun ha=>h (List.mem_cons_of_mem _ ha))]
  show (if g=14 then _ else t.bs)=t.bs
  rw[if_neg (fun e=>h (by rw[e];exact List.mem_cons_self))]
theorem b0h (L:List Nat)(t:St)(hL:∀f∈L,f<15)(hd:L.Pairwise fun a b=>qK a≠qK b)(h:(L.foldl jE t).fl=false):
  t.fl=false/\t.s.data.toList=kW (L.foldl jE t).r (L.foldl jE t).bs L++(L.foldl jE t).s.data.toList:=by
 induction L generalizing t with
 | nil=>exact⟨h,rfl⟩
 | cons f L ih=>
  rw[List.pairwise_cons]at hd;have hf:=hL f List.mem_cons_self;rw[List.foldl_cons]at h ⊢;obtain⟨h1,h2⟩:=ih (jE t f) (fun g hg=>hL g (List.mem_cons_of_mem _ hg)) hd.2 h;have h3:=h1;obtain⟨h4,h5⟩:=a7E t.s t.fl t.r (L.foldl jE (jE t f)).bs f hf h3;refine⟨h4,?_⟩;have e:kW (L.foldl jE (jE t f)).r (L.foldl jE (jE t f)).bs (f::L)=jU (L.foldl jE (jE t f)).r (L.foldl jE (jE t f)).bs f++kW (L.foldl jE (jE t f)).r (L.foldl jE (jE t f)).bs L:=by simp[kW]
  have hk:=b0U L (jE t f) (L.foldl jE (jE t f)).bs f hf (fun g hg=>⟨hL g (List.mem_cons_of_mem _ hg),Ne.symm (hd.1 g hg)⟩);rw[e,List.append_assoc,<-h2,hk];rw[h5];congr 1
  by_cases h14:f=14
  ·subst h14;have hn:14∉L:=fun hm=>hd.1 14 hm rfl
   have hb:=b3v L (jE t 14) hn;rw[hb];rfl
  ·rw[if_neg h14];rfl
theorem a9y (i:Nat)(hi:i∈qT):(Wp.lay i).Pairwise fun a b=>qK a≠qK b:=by
 have h:∀i∈qT,(Wp.lay i).Pairwise fun a b=>qK a≠qK b:=by decide
 exact h i hi
theorem b6Y {c:Prop} [Decidable c] {a b:Wp.Rq}{o:UInt8}(ha:a.op=o)(hb:b.op=o):(if c then a else b).op=o:=by
 by_cases h:c
 ·rw[if_pos h];exact ha
 ·rw[if_neg h];exact hb
theorem b4o (L:List Nat)(t:St):(L.foldl jE t).r.op=t.r.op:=by
 induction L generalizing t with
 | nil=>rfl
 | cons g L ih=>
  rw[List.foldl_cons,ih]
  show (kF t.r t.s g).op=t.r.op
  unfold kF
  repeat' (refine b6Y ?_ ?_)
  all_goals rfl
theorem zy (s:ByteArray)(h:jk s=true):s=BA ((jh s).r.op::kW (jh s).r (jh s).bs (Wp.lay ((jh s).r.op.toNat-65)))/\(jh s).r.op=vL s/\jo (jh s).r ⟨none,(jh s).bs.length,0⟩ (Wp.short (jh s).bs)=true:=by
 unfold jk at h;simp only[Bool.and_eq_true]at h;obtain⟨h1,h2,h3,h4⟩:=h;obtain⟨i,hi,hop⟩:=(a2p _).1 h1;have hr:(jh s).r.op=vL s:=b4o _ _;refine⟨?_,hr,h4⟩;rw[hr,hop,Nat.add_sub_cancel_left];have he:jh s=kU s (Wp.lay i):=by rw[jh,hop,Nat.add_sub_cancel_left]
 have hfl:(jh s).fl=false:=by simpa using h2
 have hem:=(a3M _).1 h3;rw[he]at hfl hem;obtain⟨h5,h6⟩:=b0h (Wp.lay i) ⟨opR (vL s),lf s 1,bad s false 1,[]⟩ (a0S i hi) (a9y i hi) hfl;have hb:=kV (show bad s false 1=false from h5);apply kI;rw[vq,he];have e1:=qR s 1 hb.2;have e2:(tk s 1).data.toList=[vL s]:=(a0N s hb.2).symm;have e3:(lf s 1).data.toList=kW (kU s (Wp.lay i)).r (kU s (Wp.lay i)).bs (Wp.lay i)++(kU s (Wp.lay i)).s.data.toList:=h6;rw[e1,e2,e3,hem];simp
theorem a8b (n:Nat)(h:n<65536):i64 (n:Int):=by unfold i64;omega
theorem b7K (r:Wp.Rq)(s:ByteArray)(f:Nat)(h:Wf r):Wf (kF r s f):=by
 have hz:i64 ((nmN s 1:Nat):Int):=a8b _ (by have:=nm1 s;omega);have hy:i64 ((nmN s 2:Nat):Int):=a8b _ (nm2 s);obtain⟨h1,h2,h3,h4,h5,h6⟩:=h;unfold kF
 repeat' (refine b1w ?_ ?_)
 all_goals exact⟨by first|exact h1|exact hz|exact hy,by first|exact h2|exact hz|exact hy,by first|exact h3|exact hz|exact hy,by first|exact h4|exact hz|exact hy,by first|exact h5|exact hz|exact hy,by first|exact h6|exact hz|exact hy⟩
theorem b7F (L:List Nat)(t:St)(h:Wf t.r):Wf (L.foldl jE t).r:=by
 induction L generalizing t with
 | nil=>exact h
 | cons f L ih=>exact ih _ (b7K _ _ _ h)
theorem a1u (s:ByteArray):Wf (jh s).r:=by
 have hz:i64 0:=by unfold i64;omega
 exact b7F _ _ ⟨hz,hz,hz,hz,hz,hz⟩
theorem xT (r:Wp.Rq)(x:Sl)(bs:List ByteArray)(h:jo r x (Wp.short bs)=true):qc r x bs=BA (r.op::kW r bs (Wp.lay (r.op.toNat-65))++[])/\xY r x bs=0:=by
 rw[List.append_nil];exact⟨by rw[qc,if_pos h];rfl,by rw[xY,if_pos h]⟩
theorem a3i (r:Wp.Rq)(x:Sl)(bs:List ByteArray)(h:jo r x (Wp.short bs)=false):qc r x bs=⟨#[]⟩/\xY r x bs=1:=by
 exact⟨by rw[qc,h];rfl,by rw[xY,h];rfl⟩
theorem a7j (r:Wp.Rq)(x:Sl)(bs:List ByteArray)(hw:Wf r)(hxn:x.n=bs.length)(h:jo r x (Wp.short bs)=true):
  jk (qc r x bs)=true/\(jh (qc r x bs)).r=r/\(jh (qc r x bs)).bs=bs:=by
 rw[(xT r x bs h).1];refine⟨b1i r x bs [] hw hxn h,?_,?_⟩
 ·rw[(a4y r x bs [] hw hxn h).1]
 ·rw[(a4y r x bs [] hw hxn h).1]
theorem a0I (s:ByteArray)(x:Sl)(hg:jk s=true)(hxn:x.n=(jh s).bs.length):qc (jh s).r x (jh s).bs=s/\xY (jh s).r x (jh s).bs=0:=by
 obtain⟨h1,h2,h3⟩:=zy s hg;have h4:jo (jh s).r x (Wp.short (jh s).bs)=true:=by rw[a3o _ x ⟨none,(jh s).bs.length,0⟩ _ hxn];exact h3
 have h5:=xT (jh s).r x (jh s).bs h4;rw[List.append_nil,<-h1]at h5;exact h5
end Go.Proofs.YtbdobaapadlcjaaGreatDoor
namespace Go.Proofs.YtbdobaapadlcjaaGreatDoor.Keep
open Go.RowKit
structure Szs (r:Wp.Rq):Prop where
 grp:r.grp.size<=maxLen
 ded:r.ded.size<=maxLen
 bod:r.bod.size<=maxLen
 att:r.att.size<=maxLen
 han:r.han.size<=maxLen
end Go.Proofs.YtbdobaapadlcjaaGreatDoor.Keep
