import Derived.Test.YtbdobaapadlcjaaGreatDoorBy04
set_option maxRecDepth 100000
set_option maxHeartbeats 2000000
set_option linter.unusedVariables false
set_option linter.unusedSimpArgs false
namespace Go.Proofs.YtbdobaapadlcjaaGreatDoor.Ref
open Go.RowKit
variable {w w1 W:World}{b p q:Nat}{s:ByteArray}{row:Option Nat}{r:Wp.Rq}
def Rr (w:World)(b:Nat)(s:ByteArray)(p:Nat):Prop:=w.heap[b]?=some (.cells #[.string s,.int .i64 (p:Int)] 199 (0,0))
theorem Rr.c0 (h:Rr w b s p):w.cell? ⟨b,0,none⟩=some (.string s):=cell_of_row w b 0 _ 199 (0,0) h
theorem Rr.c1 (h:Rr w b s p):w.cell? ⟨b,1,none⟩=some (.int .i64 (p:Int)):=cell_of_row w b 1 _ 199 (0,0) h
theorem Rr.fz (h:Rr w b s p)(j:Nat):w.frozen? ⟨b,j,none⟩=false:=frozen_of_row w b j _ 199 h
theorem Rr.set (h:Rr w b s p)(q:Nat):Rr (w.setCell ⟨b,1,none⟩ (.int .i64 (q:Int))) b s q:=heap_setCell_same w b 1 _ 199 _ h
theorem Rr.lt (h:Rr w b s p):b<w.heap.size:=(Array.getElem?_eq_some_iff.1 h).1
theorem Rr.grown {w':World}(h:Rr w b s p)(g:w.grownBy w' row)(hr:some b≠row):Rr w' b s p:=(g.block b h.lt hr).trans h
theorem a1y {a w2:World}{o:Option Nat}(h:a.grownBy w1 o)(g:w1.grownBy w2 row)(hr:∀k,row=some k->a.heap.size<=k):a.grownBy w2 o:=
 ⟨g.os.trans h.os,g.tape.trans h.tape,g.output.trans h.output,Nat.le_trans h.size g.size,fun i hi ho=>(g.block i (Nat.lt_of_lt_of_le hi h.size) (fun e=>by have:=hr i e.symm;omega)).trans (h.block i hi ho)⟩
def at0 (s:ByteArray)(p:Nat):UInt8:=s.data.toList.getD p 0
def rt (s:ByteArray)(p n:Nat):List UInt8:=(List.range n).map fun j=>at0 s (p+j)
theorem b4J (s:ByteArray)(p n:Nat):rt s p (n+1)=rt s p n++[at0 s (p+n)]:=by simp[rt,List.range_succ]
theorem vP (s:ByteArray)(p n:Nat):(rt s p n).length=n:=by simp[rt]
theorem b6c (s:ByteArray)(p:Nat)(h:p<s.size):at0 s p=s[p]:=by
 have h':=h;rw[at0,List.getD_eq_getElem?_getD,List.getElem?_eq_getElem h'];rfl
theorem b3s (s:ByteArray)(p:Nat)(h:¬p<s.size):at0 s p=0:=by
 have h':s.data.toList.length<=p:=Nat.not_lt.1 h;rw[at0,List.getD_eq_getElem?_getD,List.getElem?_eq_none h'];rfl
theorem a4k {wr:World}{m:Nat}{v v':Value}{L:List UInt8}{x:Value}{c:UInt8}{o:Obj}(hg:w.grownBy wr (some b))(hr:Rr wr b s q)(ho:OwnB wr w.heap.size v L)(hb:b<w.heap.size)
  (hx:x=.int .u8 (c.toNat:Int))(hown:w1.ownsRow w.heap.size 5 1 v' (L.length+1) (kO L++[x]))(hgrow:((wr.drewN m).alloc o).grownBy w1 v.ownBlock):
  OwnB w1 w.heap.size v' (L++[c])/\Rr w1 b s q/\w.grownBy w1 (some b):=by
 have h0:wr.grownBy (wr.drewN m) none:=⟨rfl,rfl,rfl,Nat.le_refl _,fun _ _ _=>rfl⟩
 refine⟨OwnB.snoc hx hown,?_,?_⟩
 ·refine((hr.grown h0 (by simp)).grown (World.grownBy_alloc _ _ none) (by simp)).grown hgrow ?_;intro e;have:=(World.ownsRow.lt ho b e.symm).1;omega
 ·refine a1y (a1y (a1y hg h0 (by simp)) (World.grownBy_alloc _ _ none) (by simp)) hgrow ?_;intro k hk;exact(World.ownsRow.lt ho k hk).1
theorem zn (b:Nat)(s:ByteArray)(p n:Nat)(w:World)(hs:s.size<=maxLen)(hp:p<=1000000)(hn:n<=1000)(hR:Rr w b s p):
  Cp 176 #[zp b,.int .i64 (n:Int)] w fun e w'=>e=.returned (.string ⟨(rt s p n).toArray⟩)/\Rr w' b s (p+n)/\w.grownBy w' (some b):=by
 obtain⟨i0,hi,hz0,hz1,hz2⟩:=info_parts zh;unfold maxLen at hs;have hbw:=hR.lt;go_enter Tryz.func176,Tryz.ntmps176
 go_wp2
 go_loopw [5,6] (fun o i wr=>∃k:Nat,k<=n/\i=.int .i64 k/\OwnB wr w.heap.size o (rt s p k)/\Rr wr b s (p+k)/\w.grownBy wr (some b)) (fun _ i _=>n-(intOf i).toNat)
 case atStart=>exact⟨0,Nat.zero_le _,rfl,World.ownsRow_nil _ _ _ _,hR,a6M _ _⟩
 case round=>
  obtain⟨k,hk,rfl,ho,hrd,hg⟩:=hrel
  by_cases hlt:k<n
  ·have hle:(rt s p k).length<=1000:=by rw[vP];omega
   have hls:=zH (b4J s p k);have hsz:=hg.size;have HG:=zH hg;have HR:=zH hrd;have c0:=hrd.c0;have c1:=hrd.c1;clear hg hrd hR;generalize rt s p k=L at ho hle hls;have HO:Hid (∀m,OwnB (wr.drewN m) w.heap.size u5 L):=fun _=>ho
   clear ho;obtain⟨q,hq0⟩:∃q,p+k=q:=⟨_,rfl⟩;rw[hq0]at c1 HR hls;have hqb:q<=1001000:=by omega
   have hq:Hid (p+(k+1)=q+1):=by show _=_;omega
   clear hq0
   by_cases hin:q<s.size
   ·have HV:Hid (Value.int .u8 (s[q].toNat:Int)=.int .u8 ((at0 s q).toNat:Int)):=by show _=_;rw[b6c s q hin]
    have hinI:(q:Int)<(s.size:Int):=by omega
    go_wp2_with fail;go_quiet (fail);go_wp2_with fail;go_quiet (fail);go_wp2_with (at_builtin;refine wpList_append_own _ rfl _ _ 74 rfl w.heap.size 5 i0 (.int .u8 0) 1 1 Tryz.underlying74 hi hz0 hz1 hz2 rfl (by decide) _ _ _ rfl (World.ownsRow.alloc (HO.out _) _) ⟨wr.heap.size,0,none⟩ 1 1 [.int .u8 (s[q].toNat:Int)] rfl rfl ?a1 ?a2 ?a3 ?a4 ?a5 ?_)
    case a1=>exact cell_one_new _ _ _
    case a2=>intro u hu;simp at hu;subst hu;rfl
    case a3=>unfold maxLen;omega
    case a4=>omega
    case a5=>simp;omega
    intro v' w1 hown' hgrow _;obtain⟨hr1,hR2,hg2⟩:=a4k HG.out HR.out (HO.out 0) hbw HV.out hown' hgrow;rw[<-hls.out]at hr1;have d1:=hR2.c1;have f1:=hR2.fz 1;have HR2:Hid (OwnB w1 w.heap.size v' (rt s p (k+1))/\Rr w1 b s q/\w.grownBy w1 (some b)):=⟨hr1,hR2,hg2⟩;clear hown' hgrow hr1 hR2 hg2;go_wp2_with fail;go_roundw
    case rel=>exact⟨k+1,by omega,by go_num,ownsRow_setCell_below HR2.out.1 (a:=⟨b,1,none⟩) hbw _,by have h:=HR2.out.2.1.set (q+1);rw[hq.out];exact h,qx HR2.out.2.2 (zf _ _ _ _)⟩
    case measure=>simp[intOf];omega
   ·have HV:Hid (Value.int .u8 0=.int .u8 ((at0 s q).toNat:Int)):=by show _=_;rw[b3s s q hin];rfl
    have hinI:¬(q:Int)<(s.size:Int):=by omega
    go_wp2_with fail;go_quiet (fail);go_wp2_with (at_builtin;refine wpList_append_own _ rfl _ _ 74 rfl w.heap.size 5 i0 (.int .u8 0) 1 1 Tryz.underlying74 hi hz0 hz1 hz2 rfl (by decide) _ _ _ rfl (World.ownsRow.alloc (HO.out _) _) ⟨wr.heap.size,0,none⟩ 1 1 [.int .u8 0] rfl rfl ?a1 ?a2 ?a3 ?a4 ?a5 ?_)
    case a1=>exact cell_one_new _ _ _
    case a2=>intro u hu;simp at hu;subst hu;rfl
    case a3=>unfold maxLen;omega
    case a4=>omega
    case a5=>simp;omega
    intro v' w1 hown' hgrow _;obtain⟨hr1,hR2,hg2⟩:=a4k HG.out HR.out (HO.out 0) hbw HV.out hown' hgrow;rw[<-hls.out]at hr1;have d1:=hR2.c1;have f1:=hR2.fz 1;have HR2:Hid (OwnB w1 w.heap.size v' (rt s p (k+1))/\Rr w1 b s q/\w.grownBy w1 (some b)):=⟨hr1,hR2,hg2⟩;clear hown' hgrow hr1 hR2 hg2;go_wp2_with fail;go_roundw
    case rel=>exact⟨k+1,by omega,by go_num,ownsRow_setCell_below HR2.out.1 (a:=⟨b,1,none⟩) hbw _,by have h:=HR2.out.2.1.set (q+1);rw[hq.out];exact h,qx HR2.out.2.2 (zf _ _ _ _)⟩
    case measure=>simp[intOf];omega
  ·have he:k=n:=by omega
   subst he;have hcv:=a8v ho
   go_wp2
   go_ret;exact⟨rfl,hrd,hg⟩
def rn (s:ByteArray)(p n:Nat):Nat:=leN (rt s p n)
theorem rn1 (s:ByteArray)(p:Nat):rn s p 1<256:=by
 have h:=a3a (rt s p 1);rw[vP]at h;exact h
theorem rn2 (s:ByteArray)(p:Nat):rn s p 2<65536:=by
 have h:=a3a (rt s p 2);rw[vP]at h;exact h
theorem a4R (b:Nat)(s:ByteArray)(p n:Nat)(w:World)(hs:s.size<=maxLen)(hp:p<=1000000)(hn:n<=2)(hR:Rr w b s p):
  Cp 131 #[zp b,.int .i64 (n:Int)] w fun e w'=>e=.returned (.int .i64 (rn s p n:Nat))/\Rr w' b s (p+n)/\w.grownBy w' (some b):=by
 have htk:=zH (zn b s p n w hs hp (by omega) hR);have hnm:Hid (∀W:World,zE 177 #[.string ⟨(rt s p n).toArray⟩] W (.int .i64 (rn s p n:Nat))):=fun W=>by
  have h:=qJ ⟨(rt s p n).toArray⟩ W (by show (rt s p n).toArray.size<=2;simp[vP];omega);rw[show rn s p n=leN (⟨(rt s p n).toArray⟩:ByteArray).data.toList by simp[rn]]
  exact h
 generalize rn s p n=N at hnm;generalize (⟨(rt s p n).toArray⟩:ByteArray)=T at htk hnm;clear hR;go_enter Tryz.func131,Tryz.ntmps131;go_wp2_with fail;refine(htk.out).mono ?_;rintro e w1 ⟨rfl,h1,h2⟩;have H1:Hid (Rr w1 b s (p+n)/\w.grownBy w1 (some b)):=⟨h1,h2⟩;clear h1 h2;go_wp2_with fail;refine(hnm.out w1).mono ?_;rintro e w2 ⟨rfl,rfl⟩;go_wp2_with fail;go_ret;exact⟨rfl,H1.out⟩
theorem b1K (b:Nat)(s:ByteArray)(p:Nat)(w:World)(hs:s.size<=maxLen)(hp:p<=1000000)(hR:Rr w b s p):
  Cp 130 #[zp b] w fun e w'=>e=.returned (.int .u8 ((at0 s p).toNat:Int))/\Rr w' b s (p+1)/\w.grownBy w' (some b):=by
 have hnm:Hid (Cp 131 #[zp b,.int .i64 1] w fun e w'=>e=.returned (.int .i64 (rn s p 1:Nat))/\Rr w' b s (p+1)/\w.grownBy w' (some b)):=a4R b s p 1 w hs hp (by decide) hR;have hv:Hid (rn s p 1=(at0 s p).toNat):=by show leN [at0 s (p+0)]=_;simp[leN]
 have hl:=rn1 s p;generalize rn s p 1=N at hnm hv hl;clear hR;go_enter Tryz.func130,Tryz.ntmps130;go_wp2_with fail;refine(hnm.out).mono ?_;rintro e w1 ⟨rfl,h1,h2⟩;have H1:Hid (Rr w1 b s (p+1)/\w.grownBy w1 (some b)):=⟨h1,h2⟩;clear h1 h2;go_wp2_with fail;go_ret;exact⟨a5f (by rw[<-hv.out]),H1.out⟩
def rx (s:ByteArray)(p:Nat):ByteArray:=⟨(rt s (p+1) (rn s p 1)).toArray⟩
theorem a8H (b:Nat)(s:ByteArray)(p:Nat)(w:World)(hs:s.size<=maxLen)(hp:p<=900000)(hR:Rr w b s p):
  Cp 132 #[zp b] w fun e w'=>e=.returned (.string (rx s p))/\Rr w' b s (p+1+rn s p 1)/\w.grownBy w' (some b):=by
 have hnm:Hid (Cp 131 #[zp b,.int .i64 1] w fun e w'=>e=.returned (.int .i64 (rn s p 1:Nat))/\Rr w' b s (p+1)/\w.grownBy w' (some b)):=a4R b s p 1 w hs (by omega) (by decide) hR;have hl:=rn1 s p;have hx:Hid (rx s p=⟨(rt s (p+1) (rn s p 1)).toArray⟩):=rfl;generalize rn s p 1=N at hnm hl hx;clear hR;go_enter Tryz.func132,Tryz.ntmps132;go_wp2_with fail;refine(hnm.out).mono ?_;rintro e w1 ⟨rfl,h1,h2⟩;have htk:=zH (zn b s (p+1) N w1 hs (by omega) (by omega) h1);have H1:=zH h2;clear h1 h2;go_wp2_with fail;refine(htk.out).mono ?_;rintro e w2 ⟨rfl,h1,h2⟩;have H2:Hid (Rr w2 b s (p+1+N)/\w1.grownBy w2 (some b)):=⟨h1,h2⟩;clear h1 h2;go_wp2_with fail;go_ret;exact⟨qQ hx.out.symm,H2.out.1,qx H1.out H2.out.2⟩
def nx (s:ByteArray)(p:Nat):Nat:=p+1+rn s p 1
theorem a3b (s:ByteArray)(p:Nat):nx s p<=p+256:=by have:=rn1 s p;unfold nx;omega
def nilS:Sl:=⟨none,0,0⟩
structure Gs (w W:World)(s:ByteArray)(r:Wp.Rq)(p:Nat):Prop where
 below:Below w.heap.size w W
 res:Blk W w.heap.size (opR 0) nilS
 rd:Rr W (w.heap.size+1) s p
 x:Blk W (w.heap.size+1+1) r nilS
theorem Gs.call {W':World}(h:Gs w W s r p)(g:W.grownBy W' (some (w.heap.size+1)))(hr:Rr W' (w.heap.size+1) s q):Gs w W' s r q:=
 ⟨Below.grown h.below g h.below.size (fun k hk=>by have:=Option.some.inj hk;omega),
  (g.block _ (Array.getElem?_eq_some_iff.1 h.res).1 (fun e=>by have:=Option.some.inj e;omega)).trans h.res,hr,
  (g.block _ (Array.getElem?_eq_some_iff.1 h.x).1 (fun e=>by have:=Option.some.inj e;omega)).trans h.x⟩
theorem Gs.set {r':Wp.Rq}(h:Gs w W s r p)(o:Nat)(v:Value)(hc:(ja r nilS.v).setIfInBounds o v=ja r' nilS.v):Gs w (W.setCell ⟨w.heap.size+1+1,o,none⟩ v) s r' p:=by
 refine⟨h.below.setCell (by show w.heap.size<=w.heap.size+1+1;omega) _,?_,?_,?_⟩
 ·exact(heap_setCell_other _ _ _ _ (by show w.heap.size≠w.heap.size+1+1;omega)).trans h.res
 ·exact(heap_setCell_other _ _ _ _ (by show w.heap.size+1≠w.heap.size+1+1;omega)).trans h.rd
 ·have e:=heap_setCell_same W (w.heap.size+1+1) o _ 27 v h.x;rw[hc]at e;exact e
theorem Gs.start (w:World)(s:ByteArray)(C:Array Value)(hC:C=ja (opR 0) nilS.v):Gs w (((w.alloc (.cells C 27)).alloc (.cells #[.string s,.int .i64 0] 199)).alloc (.cells C 27)) s (opR 0) 0:=by
 subst hC;refine⟨(((Below.refl _ _).alloc (Nat.le_refl _) _).alloc (by simp) _).alloc (by simp;omega) _,?_,?_,?_⟩
 ·show _=_
  rw[Below.heap_alloc _ _ _ (by simp;omega),heap_alloc2_old]
 ·show _=_
  rw[Below.heap_alloc _ _ _ (by simp),heap_alloc2_new];rfl
 ·have h:=heap_alloc_new ((w.alloc (.cells (ja (opR 0) nilS.v) 27)).alloc (.cells #[.string s,.int .i64 0] 199)) (.cells (ja (opR 0) nilS.v) 27);rw[World.size_alloc,World.size_alloc]at h;exact h
theorem vw (w:World)(s:ByteArray)(p:Nat)(hs:s.size<=maxLen)(hp:p<=900000)(W:World)(r:Wp.Rq)(h:Gs w W s r p):
  Cp 130 #[zp (w.heap.size+1)] W fun e w'=>e=.returned (.int .u8 ((at0 s p).toNat:Int))/\Gs w w' s r (p+1):=
 (b1K (w.heap.size+1) s p W hs (by omega) h.rd).mono fun e w' ⟨he,h1,h2⟩=>⟨he,h.call h2 h1⟩
theorem a0d (w:World)(s:ByteArray)(p n:Nat)(hs:s.size<=maxLen)(hp:p<=900000)(hn:n<=2)(W:World)(r:Wp.Rq)(h:Gs w W s r p):
  Cp 131 #[zp (w.heap.size+1),.int .i64 (n:Int)] W fun e w'=>e=.returned (.int .i64 (rn s p n:Nat))/\Gs w w' s r (p+n):=
 (a4R (w.heap.size+1) s p n W hs (by omega) hn h.rd).mono fun e w' ⟨he,h1,h2⟩=>⟨he,h.call h2 h1⟩
theorem a1z (w:World)(s:ByteArray)(p:Nat)(hs:s.size<=maxLen)(hp:p<=900000)(W:World)(r:Wp.Rq)(h:Gs w W s r p):
  Cp 132 #[zp (w.heap.size+1)] W fun e w'=>e=.returned (.string (rx s p))/\Gs w w' s r (nx s p):=
 (a8H (w.heap.size+1) s p W hs (by omega) h.rd).mono fun e w' ⟨he,h1,h2⟩=>⟨he,h.call h2 h1⟩
theorem Gs.cell (h:Gs w W s r p)(o:Nat)(v:Value)(hv:(ja r nilS.v)[o]?=some v):W.cell? ⟨w.heap.size+1+1,o,none⟩=some v:=h.x.box o v hv
theorem Gs.fz (h:Gs w W s r p)(o:Nat):W.frozen? ⟨w.heap.size+1+1,o,none⟩=false:=h.x.frozen o
end Go.Proofs.YtbdobaapadlcjaaGreatDoor.Ref
namespace Go.Proofs.YtbdobaapadlcjaaGreatDoor.Keep
open Go.RowKit
variable {w:World}{base:Nat}{v:Value}{l:List ByteArray}
theorem a8L (n j:Nat):(⟨n,0,none⟩:Addr).add j=⟨n,j,none⟩:=by
 unfold Addr.add
 split
 ·next h=>rw[h]
 ·rw[Nat.zero_add]
def OwnS (w:World)(base:Nat)(v:Value)(l:List ByteArray):Prop:=w.ownsRow base 9 1 v l.length (l.map Value.string)
theorem OwnS.form (h:OwnS w base v l):∃a c,v=.slice a l.length c:=by
 obtain⟨h1,h2|⟨g,cap,cur,h2,_⟩⟩:=h
 ·exact⟨none,0,by rw[h2.1,h2.2]⟩
 ·exact⟨_,_,h2⟩
theorem OwnS.strs {a:Option Addr}{n c:Nat}(h:OwnS w base (.slice a n c) l):FStrs base w a l:=by
 intro j hj;have h':=h;obtain⟨h1,h2|⟨g,cap,cur,h2,hg,hh,_⟩⟩:=h
 ·omega
 ·injection h2 with e1 e2 e3;subst e1;refine⟨g,0,rfl,hg,?_⟩;have hc:=World.ownsRow.cells h' (g:=g) rfl j (.string l[j]) (by simp[hj]);rw[a8L]at hc;rw[Nat.zero_add];exact hc
theorem OwnS.snoc {x:ByteArray}(h:w.ownsRow base 9 1 v (l.length+1) (l.map Value.string++[.string x])):OwnS w base v (l++[x]):=by
 unfold OwnS;rw[List.length_append,List.map_append];exact h
end Go.Proofs.YtbdobaapadlcjaaGreatDoor.Keep
namespace Go.Proofs.YtbdobaapadlcjaaGreatDoor.Ref
open Go.RowKit
theorem xE (w:World)(A B C:Obj):Below w.heap.size w (((w.alloc A).alloc B).alloc C):=
 (((Below.refl _ _).alloc (Nat.le_refl _) _).alloc (by simp) _).alloc (by simp;omega) _
theorem a0e (w:World)(A B C:Obj):(((w.alloc A).alloc B).alloc C).heap[w.heap.size+1]?=some B:=by
 rw[Below.heap_alloc _ _ _ (by simp),heap_alloc2_new]
theorem a8k (r:Wp.Rq)(x:Sl)(w:World)(h:r.op.toNat=65):
  zB 133 #[.agg (ja r x.v)] w (.agg (ja ⟨r.op,0,0,0,0,0,0,0,0,⟨#[]⟩,⟨#[]⟩,⟨#[]⟩,⟨#[]⟩,r.han⟩ (Sl.v ⟨none,0,0⟩))):=by
 have hI:((r.op.toNat:Nat):Int)=65:=by omega
 have hinf:=jS;have hv:Hid (ja ⟨r.op,0,0,0,0,0,0,0,0,⟨#[]⟩,⟨#[]⟩,⟨#[]⟩,⟨#[]⟩,r.han⟩ (Sl.v ⟨none,0,0⟩)=(ja {(⟨r.op,0,0,0,0,0,0,0,0,⟨#[]⟩,⟨#[]⟩,⟨#[]⟩,⟨#[]⟩,r.han⟩:Wp.Rq) with op:=65} (Sl.v ⟨none,0,0⟩))):=by
  show _=_
  unfold ja;simp only[hI];rfl
 rw[hv.out];unfold ja Sl.v;rw[hI];clear h hI hv;go_enter Tryz.func133,Tryz.ntmps133;go_wp2_with fail;refine bodyPost_ret (results_cell_row (p:=2) rfl _ _ (w.heap.size+1) 27 (ja {(⟨r.op,0,0,0,0,0,0,0,0,⟨#[]⟩,⟨#[]⟩,⟨#[]⟩,⟨#[]⟩,r.han⟩:Wp.Rq) with op:=65} (Sl.v ⟨none,0,0⟩)) (0,0) _ rfl ?_ Tryz.underlying27 rfl hinf) rfl ⟨rfl,?_⟩
 ·exact a0e _ _ _ _
 ·exact xE _ _ _ _
theorem a8n (r:Wp.Rq)(x:Sl)(w:World)(h:r.op.toNat=69):
  zB 133 #[.agg (ja r x.v)] w (.agg (ja ⟨r.op,0,0,0,0,0,0,0,r.tic,⟨#[]⟩,⟨#[]⟩,⟨#[]⟩,⟨#[]⟩,r.han⟩ (Sl.v ⟨none,0,0⟩))):=by
 have hI:((r.op.toNat:Nat):Int)=69:=by omega
 have hinf:=jS;have hv:Hid (ja ⟨r.op,0,0,0,0,0,0,0,r.tic,⟨#[]⟩,⟨#[]⟩,⟨#[]⟩,⟨#[]⟩,r.han⟩ (Sl.v ⟨none,0,0⟩)=(ja {(⟨r.op,0,0,0,0,0,0,0,r.tic,⟨#[]⟩,⟨#[]⟩,⟨#[]⟩,⟨#[]⟩,r.han⟩:Wp.Rq) with op:=69} (Sl.v ⟨none,0,0⟩))):=by
  show _=_
  unfold ja;simp only[hI];rfl
 rw[hv.out];unfold ja Sl.v;rw[hI];clear h hI hv;go_enter Tryz.func133,Tryz.ntmps133;go_wp2_with fail;refine bodyPost_ret (results_cell_row (p:=2) rfl _ _ (w.heap.size+1) 27 (ja {(⟨r.op,0,0,0,0,0,0,0,r.tic,⟨#[]⟩,⟨#[]⟩,⟨#[]⟩,⟨#[]⟩,r.han⟩:Wp.Rq) with op:=69} (Sl.v ⟨none,0,0⟩)) (0,0) _ rfl ?_ Tryz.underlying27 rfl hinf) rfl ⟨rfl,?_⟩
 ·exact a0e _ _ _ _
 ·exact xE _ _ _ _
theorem a8r (r:Wp.Rq)(x:Sl)(w:World)(h:r.op.toNat=84):
  zB 133 #[.agg (ja r x.v)] w (.agg (ja ⟨r.op,0,0,0,0,0,0,0,r.tic,⟨#[]⟩,⟨#[]⟩,⟨#[]⟩,⟨#[]⟩,⟨#[]⟩⟩ (Sl.v ⟨none,0,0⟩))):=by
 have hI:((r.op.toNat:Nat):Int)=84:=by omega
 have hinf:=jS;have hv:Hid (ja ⟨r.op,0,0,0,0,0,0,0,r.tic,⟨#[]⟩,⟨#[]⟩,⟨#[]⟩,⟨#[]⟩,⟨#[]⟩⟩ (Sl.v ⟨none,0,0⟩)=(ja {(⟨r.op,0,0,0,0,0,0,0,r.tic,⟨#[]⟩,⟨#[]⟩,⟨#[]⟩,⟨#[]⟩,⟨#[]⟩⟩:Wp.Rq) with op:=84} (Sl.v ⟨none,0,0⟩))):=by
  show _=_
  unfold ja;simp only[hI];rfl
 rw[hv.out];unfold ja Sl.v;rw[hI];clear h hI hv;go_enter Tryz.func133,Tryz.ntmps133;go_wp2_with fail;refine bodyPost_ret (results_cell_row (p:=2) rfl _ _ (w.heap.size+1) 27 (ja {(⟨r.op,0,0,0,0,0,0,0,r.tic,⟨#[]⟩,⟨#[]⟩,⟨#[]⟩,⟨#[]⟩,⟨#[]⟩⟩:Wp.Rq) with op:=84} (Sl.v ⟨none,0,0⟩)) (0,0) _ rfl ?_ Tryz.underlying27 rfl hinf) rfl ⟨rfl,?_⟩
 ·exact a0e _ _ _ _
 ·exact xE _ _ _ _
theorem a8l (r:Wp.Rq)(x:Sl)(w:World)(h:r.op.toNat=66):
  zB 133 #[.agg (ja r x.v)] w (.agg (ja ⟨r.op,0,0,0,0,0,0,0,0,⟨#[]⟩,⟨#[]⟩,⟨#[]⟩,⟨#[]⟩,⟨#[]⟩⟩ (Sl.v x))):=by
 have hI:((r.op.toNat:Nat):Int)=66:=by omega
 have hinf:=jS;have hv:Hid (ja ⟨r.op,0,0,0,0,0,0,0,0,⟨#[]⟩,⟨#[]⟩,⟨#[]⟩,⟨#[]⟩,⟨#[]⟩⟩ (Sl.v x)=(ja {(⟨r.op,0,0,0,0,0,0,0,0,⟨#[]⟩,⟨#[]⟩,⟨#[]⟩,⟨#[]⟩,⟨#[]⟩⟩:Wp.Rq) with op:=66} (Sl.v x))):=by
  show _=_
  unfold ja;simp only[hI];rfl
 rw[hv.out];unfold ja Sl.v;rw[hI];clear h hI hv;go_enter Tryz.func133,Tryz.ntmps133;go_wp2_with fail;refine bodyPost_ret (results_cell_row (p:=2) rfl _ _ (w.heap.size+1) 27 (ja {(⟨r.op,0,0,0,0,0,0,0,0,⟨#[]⟩,⟨#[]⟩,⟨#[]⟩,⟨#[]⟩,⟨#[]⟩⟩:Wp.Rq) with op:=66} (Sl.v x)) (0,0) _ rfl ?_ Tryz.underlying27 rfl hinf) rfl ⟨rfl,?_⟩
 ·exact a0e _ _ _ _
 ·exact xE _ _ _ _
theorem hne (n:Nat)(L:Nat)(h:n≠L):(((n:Nat):Int) == (L:Int))=false:=beq_eq_false_iff_ne.2 (by omega)
theorem a9E (r:Wp.Rq)(x:Sl)(w:World)(n:Nat)(hn:r.op.toNat=n)(h:n≠67/\n≠88/\n≠80/\n≠86/\n≠83/\n≠82/\n≠65/\n≠69/\n≠84/\n≠66):
  zB 133 #[.agg (ja r x.v)] w (.agg (ja ⟨r.op,0,0,0,0,0,0,0,0,⟨#[]⟩,⟨#[]⟩,⟨#[]⟩,⟨#[]⟩,⟨#[]⟩⟩ (Sl.v ⟨none,0,0⟩))):=by
 obtain⟨h67,h88,h80,h86,h83,h82,h65,h69,h84,h66⟩:=h;have hinf:=jS;have g67:=hne n 67 h67;have g88:=hne n 88 h88;have g80:=hne n 80 h80;have g86:=hne n 86 h86;have g83:=hne n 83 h83;have g82:=hne n 82 h82;have g65:=hne n 65 h65;have g69:=hne n 69 h69;have g84:=hne n 84 h84;have g66:=hne n 66 h66;unfold ja Sl.v;rw[hn];clear hn h67 h88 h80 h86 h83 h82 h65 h69 h84 h66;go_enter Tryz.func133,Tryz.ntmps133;go_wp2_with fail;refine bodyPost_ret (results_cell_row (p:=2) rfl _ _ (w.heap.size+1) 27 #[.int .u8 (n:Int),.int .u8 0,.int .u8 0,.int .i64 0,.int .i64 0,.int .i64 0,.int .i64 0,.int .i64 0,.int .i64 0,.string ⟨#[]⟩,.string ⟨#[]⟩,.string ⟨#[]⟩,.string ⟨#[]⟩,.string ⟨#[]⟩,.slice none 0 0] (0,0) _ rfl ?_ Tryz.underlying27 rfl hinf) rfl ⟨rfl,?_⟩
 ·exact a0e _ _ _ _
 ·exact xE _ _ _ _
theorem a6Q (s:ByteArray)(w:World)(hs:s.size<=maxLen)(h:(at0 s 0).toNat=67):
  zB 101 #[.string s] w (.agg (ja {opR 67 with q:=at0 s (1),vis:=(rn s (2) 2:Nat),win:=(rn s (4) 2:Nat),rcv:=(rn s (6) 1:Nat),d:=at0 s (7),quo:=(rn s (8) 1:Nat)} nilS.v)):=by
 have hinf:=jS;have HC:Hid (∀W r,Gs w W s r 0->Cp 130 #[zp (w.heap.size+1)] W fun e w'=>e=.returned (.int .u8 67)/\Gs w w' s r 1):=fun W r hG=>by
  have hc:=vw w s 0 hs (by decide) W r hG;rw[h]at hc;exact hc
 obtain⟨c0,V0⟩:∃c,Hid (at0 s (1)=c):=⟨_,rfl⟩;have HC0:Hid (∀W r,Gs w W s r (1)->Cp 130 #[zp (w.heap.size+1)] W fun e w'=>e=.returned (.int .u8 (c0.toNat:Int))/\Gs w w' s r (2)):=fun W r hG=>by rw[<-V0.out];exact vw w s (1) hs (by decide) W r hG
 obtain⟨c1,V1⟩:∃c,Hid (rn s (2) 2=c):=⟨_,rfl⟩;have HC1:Hid (∀W r,Gs w W s r (2)->Cp 131 #[zp (w.heap.size+1),.int .i64 2] W fun e w'=>e=.returned (.int .i64 (c1:Int))/\Gs w w' s r (4)):=fun W r hG=>by rw[<-V1.out];exact a0d w s (2) 2 hs (by decide) (by decide) W r hG
 obtain⟨c2,V2⟩:∃c,Hid (rn s (4) 2=c):=⟨_,rfl⟩;have HC2:Hid (∀W r,Gs w W s r (4)->Cp 131 #[zp (w.heap.size+1),.int .i64 2] W fun e w'=>e=.returned (.int .i64 (c2:Int))/\Gs w w' s r (6)):=fun W r hG=>by rw[<-V2.out];exact a0d w s (4) 2 hs (by decide) (by decide) W r hG
 obtain⟨c3,V3⟩:∃c,Hid (rn s (6) 1=c):=⟨_,rfl⟩;have HC3:Hid (∀W r,Gs w W s r (6)->Cp 131 #[zp (w.heap.size+1),.int .i64 1] W fun e w'=>e=.returned (.int .i64 (c3:Int))/\Gs w w' s r (7)):=fun W r hG=>by rw[<-V3.out];exact a0d w s (6) 1 hs (by decide) (by decide) W r hG
 obtain⟨c4,V4⟩:∃c,Hid (at0 s (7)=c):=⟨_,rfl⟩;have HC4:Hid (∀W r,Gs w W s r (7)->Cp 130 #[zp (w.heap.size+1)] W fun e w'=>e=.returned (.int .u8 (c4.toNat:Int))/\Gs w w' s r (8)):=fun W r hG=>by rw[<-V4.out];exact vw w s (7) hs (by decide) W r hG
 obtain⟨c5,V5⟩:∃c,Hid (rn s (8) 1=c):=⟨_,rfl⟩;have HC5:Hid (∀W r,Gs w W s r (8)->Cp 131 #[zp (w.heap.size+1),.int .i64 1] W fun e w'=>e=.returned (.int .i64 (c5:Int))/\Gs w w' s r (9)):=fun W r hG=>by rw[<-V5.out];exact a0d w s (8) 1 hs (by decide) (by decide) W r hG
 clear h;go_enter Tryz.func101,Tryz.ntmps101;go_wp2_with fail;refine(HC.out _ _ (Gs.start w s _ rfl)).mono ?_;rintro e w0 ⟨rfl,hg⟩;have f0:=hg.cell 0 (.int .u8 0) rfl;have z0:=hg.fz 0;have G0:Hid (Gs w (w0.setCell ⟨w.heap.size+1+1,0,none⟩ (.int .u8 67)) s (opR 67) 1):=hg.set 0 _ rfl;clear hg;go_wp2_with fail;refine(HC0.out _ _ G0.out).mono ?_;rintro e w1 ⟨rfl,hg⟩;have f1:=hg.cell 1 (.int .u8 0) rfl;have z1:=hg.fz 1;have G1:Hid (Gs w (w1.setCell ⟨w.heap.size+1+1,1,none⟩ (.int .u8 (c0.toNat:Int))) s {opR 67 with q:=c0} (2)):=hg.set 1 _ rfl;clear hg;go_wp2_with fail;refine(HC1.out _ _ G1.out).mono ?_;rintro e w2 ⟨rfl,hg⟩;have f2:=hg.cell 3 (.int .i64 0) rfl;have z2:=hg.fz 3;have G2:Hid (Gs w (w2.setCell ⟨w.heap.size+1+1,3,none⟩ (.int .i64 (c1:Int))) s {opR 67 with q:=c0,vis:=(c1:Int)} (4)):=hg.set 3 _ rfl;clear hg;go_wp2_with fail;refine(HC2.out _ _ G2.out).mono ?_;rintro e w3 ⟨rfl,hg⟩;have f3:=hg.cell 4 (.int .i64 0) rfl;have z3:=hg.fz 4;have G3:Hid (Gs w (w3.setCell ⟨w.heap.size+1+1,4,none⟩ (.int .i64 (c2:Int))) s {opR 67 with q:=c0,vis:=(c1:Int),win:=(c2:Int)} (6)):=hg.set 4 _ rfl;clear hg;go_wp2_with fail;refine(HC3.out _ _ G3.out).mono ?_;rintro e w4 ⟨rfl,hg⟩;have f4:=hg.cell 5 (.int .i64 0) rfl;have z4:=hg.fz 5;have G4:Hid (Gs w (w4.setCell ⟨w.heap.size+1+1,5,none⟩ (.int .i64 (c3:Int))) s {opR 67 with q:=c0,vis:=(c1:Int),win:=(c2:Int),rcv:=(c3:Int)} (7)):=hg.set 5 _ rfl;clear hg;go_wp2_with fail;refine(HC4.out _ _ G4.out).mono ?_;rintro e w5 ⟨rfl,hg⟩;have f5:=hg.cell 2 (.int .u8 0) rfl;have z5:=hg.fz 2;have G5:Hid (Gs w (w5.setCell ⟨w.heap.size+1+1,2,none⟩ (.int .u8 (c4.toNat:Int))) s {opR 67 with q:=c0,vis:=(c1:Int),win:=(c2:Int),rcv:=(c3:Int),d:=c4} (8)):=hg.set 2 _ rfl;clear hg;go_wp2_with fail;refine(HC5.out _ _ G5.out).mono ?_;rintro e w6 ⟨rfl,hg⟩;have f6:=hg.cell 6 (.int .i64 0) rfl;have z6:=hg.fz 6;have G6:Hid (Gs w (w6.setCell ⟨w.heap.size+1+1,6,none⟩ (.int .i64 (c5:Int))) s {opR 67 with q:=c0,vis:=(c1:Int),win:=(c2:Int),rcv:=(c3:Int),d:=c4,quo:=(c5:Int)} (9)):=hg.set 6 _ rfl;clear hg;go_wp2_with (first|(refine wpList_load_row rfl 27 _ rfl (w.heap.size+1+1) rfl 27 _ (0,0) _ G6.out.x Tryz.underlying27 rfl hinf ?_)|(refine wpList_store_row rfl 27 _ _ rfl w.heap.size _ rfl rfl 27 _ G6.out.res hinf rfl (jC _ _) ?_));rw[V0.out,V1.out,V2.out,V3.out,V4.out,V5.out];refine bodyPost_ret (results_cell_row (p:=2) rfl _ _ w.heap.size 27 (ja {opR 67 with q:=c0,vis:=(c1:Int),win:=(c2:Int),rcv:=(c3:Int),d:=c4,quo:=(c5:Int)} nilS.v) (0,0) _ rfl (setRow_heap _ _ _ _ 27 (0,0) G6.out.res) Tryz.underlying27 rfl hinf) rfl ⟨rfl,?_⟩;exact jD G6.out.below (Nat.le_refl _) _
theorem a6U (s:ByteArray)(w:World)(hs:s.size<=maxLen)(h:(at0 s 0).toNat=83):
  zB 101 #[.string s] w (.agg (ja {opR 83 with q:=at0 s (1),grp:=rx s (2),ded:=rx s (nx s (2)),bod:=rx s (nx s (nx s (2)))} nilS.v)):=by
 have hinf:=jS;have HC:Hid (∀W r,Gs w W s r 0->Cp 130 #[zp (w.heap.size+1)] W fun e w'=>e=.returned (.int .u8 83)/\Gs w w' s r 1):=fun W r hG=>by
  have hc:=vw w s 0 hs (by decide) W r hG;rw[h]at hc;exact hc
 obtain⟨c0,V0⟩:∃c,Hid (at0 s (1)=c):=⟨_,rfl⟩;have HC0:Hid (∀W r,Gs w W s r (1)->Cp 130 #[zp (w.heap.size+1)] W fun e w'=>e=.returned (.int .u8 (c0.toNat:Int))/\Gs w w' s r (2)):=fun W r hG=>by rw[<-V0.out];exact vw w s (1) hs (by decide) W r hG
 obtain⟨c1,V1⟩:∃c,Hid (rx s (2)=c):=⟨_,rfl⟩;have HC1:Hid (∀W r,Gs w W s r (2)->Cp 132 #[zp (w.heap.size+1)] W fun e w'=>e=.returned (.string c1)/\Gs w w' s r (nx s (2))):=fun W r hG=>by rw[<-V1.out];exact a1z w s (2) hs (by decide) W r hG
 obtain⟨c2,V2⟩:∃c,Hid (rx s (nx s (2))=c):=⟨_,rfl⟩;have HC2:Hid (∀W r,Gs w W s r (nx s (2))->Cp 132 #[zp (w.heap.size+1)] W fun e w'=>e=.returned (.string c2)/\Gs w w' s r (nx s (nx s (2)))):=fun W r hG=>by rw[<-V2.out];exact a1z w s (nx s (2)) hs (by have b0:=a3b s (2);have b1:=a3b s (nx s (2));omega) W r hG
 obtain⟨c3,V3⟩:∃c,Hid (rx s (nx s (nx s (2)))=c):=⟨_,rfl⟩;have HC3:Hid (∀W r,Gs w W s r (nx s (nx s (2)))->Cp 132 #[zp (w.heap.size+1)] W fun e w'=>e=.returned (.string c3)/\Gs w w' s r (nx s (nx s (nx s (2))))):=fun W r hG=>by rw[<-V3.out];exact a1z w s (nx s (nx s (2))) hs (by have b0:=a3b s (2);have b1:=a3b s (nx s (2));omega) W r hG
 clear h;go_enter Tryz.func101,Tryz.ntmps101;go_wp2_with fail;refine(HC.out _ _ (Gs.start w s _ rfl)).mono ?_;rintro e w0 ⟨rfl,hg⟩;have f0:=hg.cell 0 (.int .u8 0) rfl;have z0:=hg.fz 0;have G0:Hid (Gs w (w0.setCell ⟨w.heap.size+1+1,0,none⟩ (.int .u8 83)) s (opR 83) 1):=hg.set 0 _ rfl;clear hg;go_wp2_with fail;refine(HC0.out _ _ G0.out).mono ?_;rintro e w1 ⟨rfl,hg⟩;have f1:=hg.cell 1 (.int .u8 0) rfl;have z1:=hg.fz 1;have G1:Hid (Gs w (w1.setCell ⟨w.heap.size+1+1,1,none⟩ (.int .u8 (c0.toNat:Int))) s {opR 83 with q:=c0} (2)):=hg.set 1 _ rfl;clear hg;go_wp2_with fail;refine(HC1.out _ _ G1.out).mono ?_;rintro e w2 ⟨rfl,hg⟩;have f2:=hg.cell 9 (.string ⟨#[]⟩) rfl;have z2:=hg.fz 9;have G2:Hid (Gs w (w2.setCell ⟨w.heap.size+1+1,9,none⟩ (.string c1)) s {opR 83 with q:=c0,grp:=c1} (nx s (2))):=hg.set 9 _ rfl;clear hg;go_wp2_with fail;refine(HC2.out _ _ G2.out).mono ?_;rintro e w3 ⟨rfl,hg⟩;have f3:=hg.cell 10 (.string ⟨#[]⟩) rfl;have z3:=hg.fz 10;have G3:Hid (Gs w (w3.setCell ⟨w.heap.size+1+1,10,none⟩ (.string c2)) s {opR 83 with q:=c0,grp:=c1,ded:=c2} (nx s (nx s (2)))):=hg.set 10 _ rfl;clear hg;go_wp2_with fail;refine(HC3.out _ _ G3.out).mono ?_;rintro e w4 ⟨rfl,hg⟩;have f4:=hg.cell 11 (.string ⟨#[]⟩) rfl;have z4:=hg.fz 11;have G4:Hid (Gs w (w4.setCell ⟨w.heap.size+1+1,11,none⟩ (.string c3)) s {opR 83 with q:=c0,grp:=c1,ded:=c2,bod:=c3} (nx s (nx s (nx s (2))))):=hg.set 11 _ rfl;clear hg;go_wp2_with (first|(refine wpList_load_row rfl 27 _ rfl (w.heap.size+1+1) rfl 27 _ (0,0) _ G4.out.x Tryz.underlying27 rfl hinf ?_)|(refine wpList_store_row rfl 27 _ _ rfl w.heap.size _ rfl rfl 27 _ G4.out.res hinf rfl (jC _ _) ?_));rw[V0.out,V1.out,V2.out,V3.out];refine bodyPost_ret (results_cell_row (p:=2) rfl _ _ w.heap.size 27 (ja {opR 83 with q:=c0,grp:=c1,ded:=c2,bod:=c3} nilS.v) (0,0) _ rfl (setRow_heap _ _ _ _ 27 (0,0) G4.out.res) Tryz.underlying27 rfl hinf) rfl ⟨rfl,?_⟩;exact jD G4.out.below (Nat.le_refl _) _
theorem a6T (s:ByteArray)(w:World)(hs:s.size<=maxLen)(h:(at0 s 0).toNat=82):
  zB 101 #[.string s] w (.agg (ja {opR 82 with q:=at0 s (1),att:=rx s (2),mx:=(rn s (nx s (2)) 1:Nat)} nilS.v)):=by
 have hinf:=jS;have HC:Hid (∀W r,Gs w W s r 0->Cp 130 #[zp (w.heap.size+1)] W fun e w'=>e=.returned (.int .u8 82)/\Gs w w' s r 1):=fun W r hG=>by
  have hc:=vw w s 0 hs (by decide) W r hG;rw[h]at hc;exact hc
 obtain⟨c0,V0⟩:∃c,Hid (at0 s (1)=c):=⟨_,rfl⟩;have HC0:Hid (∀W r,Gs w W s r (1)->Cp 130 #[zp (w.heap.size+1)] W fun e w'=>e=.returned (.int .u8 (c0.toNat:Int))/\Gs w w' s r (2)):=fun W r hG=>by rw[<-V0.out];exact vw w s (1) hs (by decide) W r hG
 obtain⟨c1,V1⟩:∃c,Hid (rx s (2)=c):=⟨_,rfl⟩;have HC1:Hid (∀W r,Gs w W s r (2)->Cp 132 #[zp (w.heap.size+1)] W fun e w'=>e=.returned (.string c1)/\Gs w w' s r (nx s (2))):=fun W r hG=>by rw[<-V1.out];exact a1z w s (2) hs (by decide) W r hG
 obtain⟨c2,V2⟩:∃c,Hid (rn s (nx s (2)) 1=c):=⟨_,rfl⟩;have HC2:Hid (∀W r,Gs w W s r (nx s (2))->Cp 131 #[zp (w.heap.size+1),.int .i64 1] W fun e w'=>e=.returned (.int .i64 (c2:Int))/\Gs w w' s r (nx s (2)+1)):=fun W r hG=>by rw[<-V2.out];exact a0d w s (nx s (2)) 1 hs (by have b0:=a3b s (2);omega) (by decide) W r hG
 clear h;go_enter Tryz.func101,Tryz.ntmps101;go_wp2_with fail;refine(HC.out _ _ (Gs.start w s _ rfl)).mono ?_;rintro e w0 ⟨rfl,hg⟩;have f0:=hg.cell 0 (.int .u8 0) rfl;have z0:=hg.fz 0;have G0:Hid (Gs w (w0.setCell ⟨w.heap.size+1+1,0,none⟩ (.int .u8 82)) s (opR 82) 1):=hg.set 0 _ rfl;clear hg;go_wp2_with fail;refine(HC0.out _ _ G0.out).mono ?_;rintro e w1 ⟨rfl,hg⟩;have f1:=hg.cell 1 (.int .u8 0) rfl;have z1:=hg.fz 1;have G1:Hid (Gs w (w1.setCell ⟨w.heap.size+1+1,1,none⟩ (.int .u8 (c0.toNat:Int))) s {opR 82 with q:=c0} (2)):=hg.set 1 _ rfl;clear hg;go_wp2_with fail;refine(HC1.out _ _ G1.out).mono ?_;rintro e w2 ⟨rfl,hg⟩;have f2:=hg.cell 12 (.string ⟨#[]⟩) rfl;have z2:=hg.fz 12;have G2:Hid (Gs w (w2.setCell ⟨w.heap.size+1+1,12,none⟩ (.string c1)) s {opR 82 with q:=c0,att:=c1} (nx s (2))):=hg.set 12 _ rfl;clear hg;go_wp2_with fail;refine(HC2.out _ _ G2.out).mono ?_;rintro e w3 ⟨rfl,hg⟩;have f3:=hg.cell 7 (.int .i64 0) rfl;have z3:=hg.fz 7;have G3:Hid (Gs w (w3.setCell ⟨w.heap.size+1+1,7,none⟩ (.int .i64 (c2:Int))) s {opR 82 with q:=c0,att:=c1,mx:=(c2:Int)} (nx s (2)+1)):=hg.set 7 _ rfl;clear hg;go_wp2_with (first|(refine wpList_load_row rfl 27 _ rfl (w.heap.size+1+1) rfl 27 _ (0,0) _ G3.out.x Tryz.underlying27 rfl hinf ?_)|(refine wpList_store_row rfl 27 _ _ rfl w.heap.size _ rfl rfl 27 _ G3.out.res hinf rfl (jC _ _) ?_));rw[V0.out,V1.out,V2.out];refine bodyPost_ret (results_cell_row (p:=2) rfl _ _ w.heap.size 27 (ja {opR 82 with q:=c0,att:=c1,mx:=(c2:Int)} nilS.v) (0,0) _ rfl (setRow_heap _ _ _ _ 27 (0,0) G3.out.res) Tryz.underlying27 rfl hinf) rfl ⟨rfl,?_⟩;exact jD G3.out.below (Nat.le_refl _) _
theorem a6O (s:ByteArray)(w:World)(hs:s.size<=maxLen)(h:(at0 s 0).toNat=65):
  zB 101 #[.string s] w (.agg (ja {opR 65 with han:=rx s (1)} nilS.v)):=by
 have hinf:=jS;have HC:Hid (∀W r,Gs w W s r 0->Cp 130 #[zp (w.heap.size+1)] W fun e w'=>e=.returned (.int .u8 65)/\Gs w w' s r 1):=fun W r hG=>by
  have hc:=vw w s 0 hs (by decide) W r hG;rw[h]at hc;exact hc
 obtain⟨c0,V0⟩:∃c,Hid (rx s (1)=c):=⟨_,rfl⟩;have HC0:Hid (∀W r,Gs w W s r (1)->Cp 132 #[zp (w.heap.size+1)] W fun e w'=>e=.returned (.string c0)/\Gs w w' s r (nx s (1))):=fun W r hG=>by rw[<-V0.out];exact a1z w s (1) hs (by decide) W r hG
 clear h;go_enter Tryz.func101,Tryz.ntmps101;go_wp2_with fail;refine(HC.out _ _ (Gs.start w s _ rfl)).mono ?_;rintro e w0 ⟨rfl,hg⟩;have f0:=hg.cell 0 (.int .u8 0) rfl;have z0:=hg.fz 0;have G0:Hid (Gs w (w0.setCell ⟨w.heap.size+1+1,0,none⟩ (.int .u8 65)) s (opR 65) 1):=hg.set 0 _ rfl;clear hg;go_wp2_with fail;refine(HC0.out _ _ G0.out).mono ?_;rintro e w1 ⟨rfl,hg⟩;have f1:=hg.cell 13 (.string ⟨#[]⟩) rfl;have z1:=hg.fz 13;have G1:Hid (Gs w (w1.setCell ⟨w.heap.size+1+1,13,none⟩ (.string c0)) s {opR 65 with han:=c0} (nx s (1))):=hg.set 13 _ rfl;clear hg;go_wp2_with (first|(refine wpList_load_row rfl 27 _ rfl (w.heap.size+1+1) rfl 27 _ (0,0) _ G1.out.x Tryz.underlying27 rfl hinf ?_)|(refine wpList_store_row rfl 27 _ _ rfl w.heap.size _ rfl rfl 27 _ G1.out.res hinf rfl (jC _ _) ?_));rw[V0.out];refine bodyPost_ret (results_cell_row (p:=2) rfl _ _ w.heap.size 27 (ja {opR 65 with han:=c0} nilS.v) (0,0) _ rfl (setRow_heap _ _ _ _ 27 (0,0) G1.out.res) Tryz.underlying27 rfl hinf) rfl ⟨rfl,?_⟩;exact jD G1.out.below (Nat.le_refl _) _
theorem a6R (s:ByteArray)(w:World)(hs:s.size<=maxLen)(h:(at0 s 0).toNat=69):
  zB 101 #[.string s] w (.agg (ja {opR 69 with han:=rx s (1),tic:=(rn s (nx s (1)) 2:Nat)} nilS.v)):=by
 have hinf:=jS;have HC:Hid (∀W r,Gs w W s r 0->Cp 130 #[zp (w.heap.size+1)] W fun e w'=>e=.returned (.int .u8 69)/\Gs w w' s r 1):=fun W r hG=>by
  have hc:=vw w s 0 hs (by decide) W r hG;rw[h]at hc;exact hc
 obtain⟨c0,V0⟩:∃c,Hid (rx s (1)=c):=⟨_,rfl⟩;have HC0:Hid (∀W r,Gs w W s r (1)->Cp 132 #[zp (w.heap.size+1)] W fun e w'=>e=.returned (.string c0)/\Gs w w' s r (nx s (1))):=fun W r hG=>by rw[<-V0.out];exact a1z w s (1) hs (by decide) W r hG
 obtain⟨c1,V1⟩:∃c,Hid (rn s (nx s (1)) 2=c):=⟨_,rfl⟩;have HC1:Hid (∀W r,Gs w W s r (nx s (1))->Cp 131 #[zp (w.heap.size+1),.int .i64 2] W fun e w'=>e=.returned (.int .i64 (c1:Int))/\Gs w w' s r (nx s (1)+2)):=fun W r hG=>by rw[<-V1.out];exact a0d w s (nx s (1)) 2 hs (by have b0:=a3b s (1);omega) (by decide) W r hG
 clear h;go_enter Tryz.func101,Tryz.ntmps101;go_wp2_with fail;refine(HC.out _ _ (Gs.start w s _ rfl)).mono ?_;rintro e w0 ⟨rfl,hg⟩;have f0:=hg.cell 0 (.int .u8 0) rfl;have z0:=hg.fz 0;have G0:Hid (Gs w (w0.setCell ⟨w.heap.size+1+1,0,none⟩ (.int .u8 69)) s (opR 69) 1):=hg.set 0 _ rfl;clear hg;go_wp2_with fail;refine(HC0.out _ _ G0.out).mono ?_;rintro e w1 ⟨rfl,hg⟩;have f1:=hg.cell 13 (.string ⟨#[]⟩) rfl;have z1:=hg.fz 13;have G1:Hid (Gs w (w1.setCell ⟨w.heap.size+1+1,13,none⟩ (.string c0)) s {opR 69 with han:=c0} (nx s (1))):=hg.set 13 _ rfl;clear hg;go_wp2_with fail;refine(HC1.out _ _ G1.out).mono ?_;rintro e w2 ⟨rfl,hg⟩;have f2:=hg.cell 8 (.int .i64 0) rfl;have z2:=hg.fz 8;have G2:Hid (Gs w (w2.setCell ⟨w.heap.size+1+1,8,none⟩ (.int .i64 (c1:Int))) s {opR 69 with han:=c0,tic:=(c1:Int)} (nx s (1)+2)):=hg.set 8 _ rfl;clear hg;go_wp2_with (first|(refine wpList_load_row rfl 27 _ rfl (w.heap.size+1+1) rfl 27 _ (0,0) _ G2.out.x Tryz.underlying27 rfl hinf ?_)|(refine wpList_store_row rfl 27 _ _ rfl w.heap.size _ rfl rfl 27 _ G2.out.res hinf rfl (jC _ _) ?_));rw[V0.out,V1.out];refine bodyPost_ret (results_cell_row (p:=2) rfl _ _ w.heap.size 27 (ja {opR 69 with han:=c0,tic:=(c1:Int)} nilS.v) (0,0) _ rfl (setRow_heap _ _ _ _ 27 (0,0) G2.out.res) Tryz.underlying27 rfl hinf) rfl ⟨rfl,?_⟩;exact jD G2.out.below (Nat.le_refl _) _
theorem a6V (s:ByteArray)(w:World)(hs:s.size<=maxLen)(h:(at0 s 0).toNat=84):
  zB 101 #[.string s] w (.agg (ja {opR 84 with tic:=(rn s (1) 2:Nat)} nilS.v)):=by
 have hinf:=jS;have HC:Hid (∀W r,Gs w W s r 0->Cp 130 #[zp (w.heap.size+1)] W fun e w'=>e=.returned (.int .u8 84)/\Gs w w' s r 1):=fun W r hG=>by
  have hc:=vw w s 0 hs (by decide) W r hG;rw[h]at hc;exact hc
 obtain⟨c0,V0⟩:∃c,Hid (rn s (1) 2=c):=⟨_,rfl⟩;have HC0:Hid (∀W r,Gs w W s r (1)->Cp 131 #[zp (w.heap.size+1),.int .i64 2] W fun e w'=>e=.returned (.int .i64 (c0:Int))/\Gs w w' s r (3)):=fun W r hG=>by rw[<-V0.out];exact a0d w s (1) 2 hs (by decide) (by decide) W r hG
 clear h;go_enter Tryz.func101,Tryz.ntmps101;go_wp2_with fail;refine(HC.out _ _ (Gs.start w s _ rfl)).mono ?_;rintro e w0 ⟨rfl,hg⟩;have f0:=hg.cell 0 (.int .u8 0) rfl;have z0:=hg.fz 0;have G0:Hid (Gs w (w0.setCell ⟨w.heap.size+1+1,0,none⟩ (.int .u8 84)) s (opR 84) 1):=hg.set 0 _ rfl;clear hg;go_wp2_with fail;refine(HC0.out _ _ G0.out).mono ?_;rintro e w1 ⟨rfl,hg⟩;have f1:=hg.cell 8 (.int .i64 0) rfl;have z1:=hg.fz 8;have G1:Hid (Gs w (w1.setCell ⟨w.heap.size+1+1,8,none⟩ (.int .i64 (c0:Int))) s {opR 84 with tic:=(c0:Int)} (3)):=hg.set 8 _ rfl;clear hg;go_wp2_with (first|(refine wpList_load_row rfl 27 _ rfl (w.heap.size+1+1) rfl 27 _ (0,0) _ G1.out.x Tryz.underlying27 rfl hinf ?_)|(refine wpList_store_row rfl 27 _ _ rfl w.heap.size _ rfl rfl 27 _ G1.out.res hinf rfl (jC _ _) ?_));rw[V0.out];refine bodyPost_ret (results_cell_row (p:=2) rfl _ _ w.heap.size 27 (ja {opR 84 with tic:=(c0:Int)} nilS.v) (0,0) _ rfl (setRow_heap _ _ _ _ 27 (0,0) G1.out.res) Tryz.underlying27 rfl hinf) rfl ⟨rfl,?_⟩;exact jD G1.out.below (Nat.le_refl _) _
theorem a1A (s:ByteArray)(w:World)(hs:s.size<=maxLen)(n:Nat)(N:Int)(u:UInt8)(hx:n=88/\N=88/\u=88\/n=80/\N=80/\u=80\/n=86/\N=86/\u=86)(h:(at0 s 0).toNat=n):
  zB 101 #[.string s] w (.agg (ja {opR u with q:=at0 s (1)} nilS.v)):=by
 have hinf:=jS;have hN:(n:Int)=N/\(ja (opR 0) nilS.v).setIfInBounds 0 (.int .u8 N)=ja (opR u) nilS.v:=by rcases hx with ⟨rfl,rfl,rfl⟩|⟨rfl,rfl,rfl⟩|⟨rfl,rfl,rfl⟩<;>exact⟨rfl,rfl⟩
 have HC:Hid (∀W r,Gs w W s r 0->Cp 130 #[zp (w.heap.size+1)] W fun e w'=>e=.returned (.int .u8 N)/\Gs w w' s r 1):=fun W r hG=>by
  have hc:=vw w s 0 hs (by decide) W r hG;rw[h,hN.1]at hc;exact hc
 obtain⟨c0,V0⟩:∃c,Hid (at0 s (1)=c):=⟨_,rfl⟩;have HC0:Hid (∀W r,Gs w W s r (1)->Cp 130 #[zp (w.heap.size+1)] W fun e w'=>e=.returned (.int .u8 (c0.toNat:Int))/\Gs w w' s r (2)):=fun W r hG=>by rw[<-V0.out];exact vw w s (1) hs (by decide) W r hG
 have HG0:Hid (∀W,Gs w W s (opR 0) 1->Gs w (W.setCell ⟨w.heap.size+1+1,0,none⟩ (.int .u8 N)) s (opR u) 1):=fun W hg=>hg.set 0 _ hN.2
 have HG1:Hid (∀W,Gs w W s (opR u) 2->Gs w (W.setCell ⟨w.heap.size+1+1,1,none⟩ (.int .u8 (c0.toNat:Int))) s {opR u with q:=c0} 2):=fun W hg=>hg.set 1 _ rfl
 clear h hN;rcases hx with ⟨rfl,rfl,rfl⟩|⟨rfl,rfl,rfl⟩|⟨rfl,rfl,rfl⟩
 all_goals
  go_enter Tryz.func101,Tryz.ntmps101;go_wp2_with fail;refine(HC.out _ _ (Gs.start w s _ rfl)).mono ?_;rintro e w0 ⟨rfl,hg⟩;have f0:=hg.cell 0 (.int .u8 0) rfl;have z0:=hg.fz 0;have G0:=zH (HG0.out _ hg);clear hg;go_wp2_with fail;refine(HC0.out _ _ G0.out).mono ?_;rintro e w1 ⟨rfl,hg⟩;have f1:=hg.cell 1 (.int .u8 0) rfl;have z1:=hg.fz 1;have G1:=zH (HG1.out _ hg);clear hg;go_wp2_with (first|(refine wpList_load_row rfl 27 _ rfl (w.heap.size+1+1) rfl 27 _ (0,0) _ G1.out.x Tryz.underlying27 rfl hinf ?_)|(refine wpList_store_row rfl 27 _ _ rfl w.heap.size _ rfl rfl 27 _ G1.out.res hinf rfl (jC _ _) ?_));rw[V0.out];refine bodyPost_ret (results_cell_row (p:=2) rfl _ _ w.heap.size 27 _ (0,0) _ rfl (setRow_heap _ _ _ _ 27 (0,0) G1.out.res) Tryz.underlying27 rfl hinf) rfl ⟨rfl,?_⟩;exact jD G1.out.below (Nat.le_refl _) _
theorem a6X (s:ByteArray)(w:World)(hs:s.size<=maxLen)(h:(at0 s 0).toNat=88):
  zB 101 #[.string s] w (.agg (ja {opR 88 with q:=at0 s (1)} nilS.v)):=
 a1A s w hs 88 88 88 (by simp) h
theorem a6S (s:ByteArray)(w:World)(hs:s.size<=maxLen)(h:(at0 s 0).toNat=80):
  zB 101 #[.string s] w (.agg (ja {opR 80 with q:=at0 s (1)} nilS.v)):=
 a1A s w hs 80 80 80 (by simp) h
theorem a6W (s:ByteArray)(w:World)(hs:s.size<=maxLen)(h:(at0 s 0).toNat=86):
  zB 101 #[.string s] w (.agg (ja {opR 86 with q:=at0 s (1)} nilS.v)):=
 a1A s w hs 86 86 86 (by simp) h
end Go.Proofs.YtbdobaapadlcjaaGreatDoor.Ref
namespace Go.Proofs.YtbdobaapadlcjaaGreatDoor.Ref
open Go.RowKit
open Go.Proofs.YtbdobaapadlcjaaGreatDoor.Keep (OwnS OwnS.form OwnS.strs OwnS.snoc)
def bp (s:ByteArray):Nat->Nat->Nat
 | 0,p=>p
 | k+1,p=>nx s (bp s k p)
def bt (s:ByteArray):Nat->Nat->List ByteArray
 | 0,_=>[]
 | k+1,p=>bt s k p++[rx s (bp s k p)]
theorem a1s (s:ByteArray)(k p:Nat):(bt s k p).length=k:=by
 induction k with
 | zero=>rfl
 | succ k ih=>rw[bt,List.length_append,ih];rfl
theorem b7V (s:ByteArray)(k p:Nat):bp s k p<=p+k*256:=by
 induction k with
 | zero=>exact Nat.le_add_right _ _
 | succ k ih=>exact Nat.le_trans (a3b s (bp s k p)) (by rw[Nat.succ_mul];exact Nat.le_trans (Nat.add_le_add_right ih 256) (by rw[Nat.add_assoc];exact Nat.le_refl _))
theorem b4M (s:ByteArray)(p:Nat):(rx s p).size<=255:=by
 have:=rn1 s p
 show (rt s (p+1) (rn s p 1)).toArray.size<=255
 simp[vP];omega
structure Gb (w W:World)(s:ByteArray)(a:Option Addr)(k c p:Nat)(l:List ByteArray):Prop where
 below:Below w.heap.size w W
 res:Blk W w.heap.size (opR 0) nilS
 rd:Rr W (w.heap.size+1) s p
 x:Blk W (w.heap.size+1+1) (opR 66) ⟨a,k,c⟩
 own:OwnS W (w.heap.size+1+1+1) (.slice a k c) l
theorem Gb.call {w W W':World}{s:ByteArray}{a:Option Addr}{k c p q:Nat}{l:List ByteArray}(h:Gb w W s a k c p l)(g:W.grownBy W' (some (w.heap.size+1)))(hr:Rr W' (w.heap.size+1) s q):Gb w W' s a k c q l:=by
 refine⟨Below.grown h.below g h.below.size (fun k hk=>by have:=Option.some.inj hk;omega),
  (g.block _ (Array.getElem?_eq_some_iff.1 h.res).1 (fun e=>by have:=Option.some.inj e;omega)).trans h.res,hr,
  (g.block _ (Array.getElem?_eq_some_iff.1 h.x).1 (fun e=>by have:=Option.some.inj e;omega)).trans h.x,?_⟩
 refine World.ownsRow.kept h.own g ?_
 by_cases hb:(Value.slice a k c).ownBlock=none
 ·exact Or.inl hb
 ·right;intro e;have:=(World.ownsRow.lt h.own _ e).1;omega
theorem a6P (s:ByteArray)(w:World)(hs:s.size<=maxLen)(h:(at0 s 0).toNat=66):
  Cp 101 #[.string s] w fun e w'=>(∃a c,e=.returned (.agg (ja (opR 66) (Sl.v ⟨a,rn s 1 1,c⟩)))/\FStrs w.heap.size w' a (bt s (rn s 1 1) 2))/\Below w.heap.size w w':=by
 have hinf:=jS;obtain⟨i0,hi,hz0,hz1,hz2⟩:=info_parts a2T;have HC:Hid (∀W r,Gs w W s r 0->Cp 130 #[zp (w.heap.size+1)] W fun e w'=>e=.returned (.int .u8 66)/\Gs w w' s r 1):=fun W r hG=>by
  have hc:=vw w s 0 hs (by decide) W r hG;rw[h]at hc;exact hc
 obtain⟨n,V⟩:∃c,Hid (rn s 1 1=c):=⟨_,rfl⟩;have hn:n<256:=by rw[<-V.out];exact rn1 s 1
 have HN:Hid (∀W r,Gs w W s r 1->Cp 131 #[zp (w.heap.size+1),.int .i64 1] W fun e w'=>e=.returned (.int .i64 (n:Int))/\Gs w w' s r 2):=fun W r hG=>by rw[<-V.out];exact a0d w s 1 1 hs (by decide) (by decide) W r hG
 rw[V.out];clear h;go_enter Tryz.func101,Tryz.ntmps101;go_wp2_with fail;refine(HC.out _ _ (Gs.start w s _ rfl)).mono ?_;rintro e w0 ⟨rfl,hg⟩;have f0:=hg.cell 0 (.int .u8 0) rfl;have z0:=hg.fz 0;have G0:Hid (Gs w (w0.setCell ⟨w.heap.size+1+1,0,none⟩ (.int .u8 66)) s (opR 66) 1):=hg.set 0 _ rfl;clear hg;go_wp2_with fail;refine(HN.out _ _ G0.out).mono ?_;rintro e w1 ⟨rfl,hg⟩;have G1:=zH hg;clear hg;go_wp2_with fail
 go_loopw [6] (fun v wr=>∃(k:Nat) (a:Option Addr) (c:Nat),k<=n/\v=.int .i64 k/\Gb w wr s a k c (bp s k 2) (bt s k 2)) (fun v _=>n-(intOf v).toNat)
 case atStart=>exact⟨0,none,0,Nat.zero_le _,rfl,G1.out.below,G1.out.res,G1.out.rd,G1.out.x,World.ownsRow_nil _ _ _ _⟩
 case round=>
  obtain⟨k,a,c,hk,rfl,hg⟩:=hrel
  by_cases hlt:k<n
  ·have hble:=b7V s k 2;have HT:Hid (Cp 132 #[zp (w.heap.size+1)] wr fun e w'=>e=.returned (.string (rx s (bp s k 2)))/\Gb w w' s a k c (bp s (k+1) 2) (bt s k 2)):=
    (a8H (w.heap.size+1) s (bp s k 2) wr hs (by omega) hg.rd).mono fun e w' ⟨he,h1,h2⟩=>⟨he,hg.call h2 h1⟩
   have HBT:Hid (bt s (k+1) 2=bt s k 2++[rx s (bp s k 2)]):=rfl;have HLK:=zH (a1s s k 2);generalize rx s (bp s k 2)=T at HT HBT;obtain⟨Q,HQ⟩:∃Q,Hid (bp s (k+1) 2=Q):=⟨_,rfl⟩;rw[HQ.out]at HT;generalize bt s k 2=L at HT HBT HLK;have hltI:(k:Int)<(n:Int):=by omega
   clear hg hble;go_wp2_with fail;refine(HT.out).mono ?_;rintro e w2 ⟨rfl,hg⟩;have G2:=zH hg;have hLle:L.length<=256:=by rw[HLK.out];omega
   have c14:w2.cell? ⟨w.heap.size+1+1,14,none⟩=some (.slice a k c):=hg.x.box 14 _ rfl;have hsw:w.heap.size+1+1<w2.heap.size:=(Array.getElem?_eq_some_iff.1 hg.x).1;clear hg;go_wp2_with (at_builtin;refine wpList_append_own _ rfl _ _ 25 rfl (w.heap.size+1+1+1) 9 i0 (.string ⟨#[]⟩) 1 16 Tryz.underlying25 hi hz0 hz1 hz2 rfl (by decide) _ _ _ rfl (World.ownsRow.alloc G2.out.own _) ⟨w2.heap.size,0,none⟩ 1 1 [.string T] rfl rfl ?c1 ?c2 ?c3 ?c4 ?c5 ?_)
   case c1=>exact cell_one_new _ _ _
   case c2=>intro u hu;simp at hu;subst hu;rfl
   case c3=>unfold maxLen;omega
   case c4=>omega
   case c5=>simp;omega
   intro v' w3 hown' hgrow _;have hown3:=OwnS.snoc hown';obtain⟨a',c',hv'⟩:=hown3.form;have hL1:(L++[T]).length=k+1:=by rw[List.length_append,HLK.out];rfl
   rw[hL1]at hv';have hb3:Below (w.heap.size+1+1+1) w2 w3:=by
    refine Below.grown ((Below.refl _ _).alloc (by omega) _) hgrow (by simp;omega) ?_;intro q hq;exact(World.ownsRow.lt G2.out.own q hq).1
   rw[hv']at hown3 ⊢;rw[<-HBT.out]at hown3;have hb2:Blk w3 (w.heap.size+1+1) (opR 66) ⟨a,k,c⟩:=by
    unfold Blk;rw[hb3.block _ (by omega)];exact G2.out.x
   have c3:w3.cell? ⟨w.heap.size+1+1,14,none⟩=some (.slice a k c):=hb2.box 14 _ rfl;have f3:=hb2.frozen 14;have HF:Hid (Gb w (w3.setCell ⟨w.heap.size+1+1,14,none⟩ (.slice a' (k+1) c')) s a' (k+1) c' Q (bt s (k+1) 2)):=by
    refine⟨(G2.out.below.trans (hb3.mono (by omega))).setCell (by show _<=w.heap.size+1+1;omega) _,?_,?_,heap_setCell_same w3 (w.heap.size+1+1) 14 _ 27 _ hb2,ownsRow_setCell_below hown3 (by show w.heap.size+1+1<_;omega) _⟩
    ·unfold Blk;rw[heap_setCell_other _ _ _ _ (by show w.heap.size≠w.heap.size+1+1;omega),hb3.block _ (by omega)];exact G2.out.res
    ·unfold Rr;rw[heap_setCell_other _ _ _ _ (by show w.heap.size+1≠w.heap.size+1+1;omega),hb3.block _ (by omega)];exact G2.out.rd
   clear hown' hgrow hown3 hb3 hb2 hL1 hv';go_wp2_with fail;go_roundw
   case rel=>exact⟨k+1,a',c',by omega,by go_num,by rw[HQ.out];exact HF.out⟩
   case measure=>simp[intOf];omega
  ·obtain rfl:k=n:=by omega
   have HG:=zH hg;clear hg;go_wp2_with (first|(refine wpList_load_row rfl 27 _ rfl (w.heap.size+1+1) rfl 27 _ (0,0) _ HG.out.x Tryz.underlying27 rfl hinf ?_)|(refine wpList_store_row rfl 27 _ _ rfl w.heap.size _ rfl rfl 27 _ HG.out.res hinf rfl (jC _ _) ?_));refine bodyPost_ret (results_cell_row (p:=2) rfl _ _ w.heap.size 27 (ja (opR 66) (Sl.v ⟨a,k,c⟩)) (0,0) _ rfl (setRow_heap _ _ _ _ 27 (0,0) HG.out.res) Tryz.underlying27 rfl hinf) rfl ⟨⟨a,c,rfl,?_⟩,jD HG.out.below (Nat.le_refl _) _⟩;intro j hj;obtain⟨g,o,ha,hgl,hc⟩:=HG.out.own.strs j hj;have e1:(wr.setRow w.heap.size (ja (opR 66) (Sl.v ⟨a,k,c⟩))).heap[g]?=wr.heap[g]?:=setRow_other _ _ g _ (by omega);exact⟨g,o,ha,by omega,(World.cell?_of_block (a:=⟨g,o+j,none⟩) e1).trans hc⟩
end Go.Proofs.YtbdobaapadlcjaaGreatDoor.Ref
namespace Go.Proofs.YtbdobaapadlcjaaGreatDoor.Ref
open Go.RowKit
theorem a4F (s:ByteArray)(w:World)(hs:s.size<=maxLen)(c:UInt8)(hcc:at0 s 0=c)(h:c.toNat≠67/\c.toNat≠88/\c.toNat≠80/\c.toNat≠86/\c.toNat≠83/\c.toNat≠82/\c.toNat≠65/\c.toNat≠69/\c.toNat≠84/\c.toNat≠66):
  zB 101 #[.string s] w (.agg (ja (opR c) nilS.v)):=by
 have hinf:=jS;have HC:Hid (∀W r,Gs w W s r 0->Cp 130 #[zp (w.heap.size+1)] W fun e w'=>e=.returned (.int .u8 (c.toNat:Int))/\Gs w w' s r 1):=fun W r hG=>by
  have hc:=vw w s 0 hs (by decide) W r hG;rw[hcc]at hc;exact hc
 clear hcc;obtain⟨h67,h88,h80,h86,h83,h82,h65,h69,h84,h66⟩:=h;have g67:(((c.toNat:Nat):Int) == 67)=false:=hne _ 67 h67;have g88:(((c.toNat:Nat):Int) == 88)=false:=hne _ 88 h88;have g80:(((c.toNat:Nat):Int) == 80)=false:=hne _ 80 h80;have g86:(((c.toNat:Nat):Int) == 86)=false:=hne _ 86 h86;have g83:(((c.toNat:Nat):Int) == 83)=false:=hne _ 83 h83;have g82:(((c.toNat:Nat):Int) == 82)=false:=hne _ 82 h82;have g65:(((c.toNat:Nat):Int) == 65)=false:=hne _ 65 h65;have g69:(((c.toNat:Nat):Int) == 69)=false:=hne _ 69 h69;have g84:(((c.toNat:Nat):Int) == 84)=false:=hne _ 84 h84;have g66:(((c.toNat:Nat):Int) == 66)=false:=hne _ 66 h66;clear h67 h88 h80 h86 h83 h82 h65 h69 h84 h66;go_enter Tryz.func101,Tryz.ntmps101;go_wp2_with fail;refine(HC.out _ _ (Gs.start w s _ rfl)).mono ?_;rintro e w0 ⟨rfl,hg⟩;have f0:=hg.cell 0 (.int .u8 0) rfl;have z0:=hg.fz 0;have G0:Hid (Gs w (w0.setCell ⟨w.heap.size+1+1,0,none⟩ (.int .u8 (c.toNat:Int))) s (opR c) 1):=hg.set 0 _ rfl;clear hg;go_wp2_with (first|(refine wpList_load_row rfl 27 _ rfl (w.heap.size+1+1) rfl 27 _ (0,0) _ G0.out.x Tryz.underlying27 rfl hinf ?_)|(refine wpList_store_row rfl 27 _ _ rfl w.heap.size _ rfl rfl 27 _ G0.out.res hinf rfl (jC _ _) ?_));refine bodyPost_ret (results_cell_row (p:=2) rfl _ _ w.heap.size 27 (ja (opR c) nilS.v) (0,0) _ rfl (setRow_heap _ _ _ _ 27 (0,0) G0.out.res) Tryz.underlying27 rfl hinf) rfl ⟨rfl,?_⟩;exact jD G0.out.below (Nat.le_refl _) _
end Go.Proofs.YtbdobaapadlcjaaGreatDoor.Ref
