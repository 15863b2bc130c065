import Derived.Test.YtbdobaapadlcjaaGreatDoorBy14
set_option maxHeartbeats 4000000
set_option linter.unusedVariables false
set_option linter.unusedSimpArgs false
namespace Go.Proofs.YtbdobaapadlcjaaGreatDoor.Ref
open Go.RowKit Go.Proofs.YtbdobaapadlcjaaGreatDoor
variable {w w' w2:World}{t:TypeId}{v sl v':Value}{size n k qb cnt o:Nat}{xs:List Value}{C C':Array Value}{Q:QM}
theorem a3v {α:Type}(p:α->Bool)(l:List α)(j:Nat)(h:j<l.length):(l.take (j+1)).any p=((l.take j).any p||p l[j]):=by
 rw[List.take_succ_eq_append_getElem h,List.any_append];simp
structure Tn where
 g:ByteArray
 tm:Int
def Tn.row (t:Tn):List Value:=[.string t.g,.int .i64 t.tm]
def ddK (d:Dd):List Value:=[.string d.id,.int .i64 d.num,.string ⟨#[]⟩,.int .i64 d.til]
def atK (a:At):List Value:=[.string a.id,.int .i64 0,.string a.ans,.int .i64 a.til]
def rqC (c:Wp.Rq)(sl:Value)(next:Int)(m t:Value)(cnt:Int)(d a:Value):Array Value:=#[.int .u8 (c.op.toNat:Int),.int .u8 (c.q.toNat:Int),.int .u8 (c.d.toNat:Int),.int .i64 c.vis,.int .i64 c.win,.int .i64 c.rcv,.int .i64 c.quo,.int .i64 c.mx,.int .i64 c.tic,.string c.grp,.string c.ded,.string c.bod,.string c.att,.string c.han,sl,.int .i64 next,m,t,.int .i64 cnt,d,a]
theorem kA {α:Type}(row:α->List Value)(size:Nat)(hr:∀x,(row x).length=size){w:World}{t:TypeId}{v:Value}{l:List α}(ho:w.ownsRow 0 t size v l.length (l.flatMap row))(j:Nat)(hj:j<l.length):∃g cap,v=.slice (some ⟨g,0,none⟩) l.length cap/\g<w.heap.size/\∀i u,(row l[j])[i]?=some u->w.cell? ⟨g,j*size+i,none⟩=some u:=by
 have inh:Inhabited α:=⟨l[j]⟩;obtain⟨g,cap,hv,hg⟩:∃g cap,v=.slice (some ⟨g,0,none⟩) l.length cap/\g<w.heap.size:=by
  rcases ho.2 with ⟨_,h1⟩|⟨g,cap,cur,h0,_,hg,_⟩
  ·omega
  ·exact⟨g,cap,h0,lt_of_block hg⟩
 refine⟨g,cap,hv,hg,fun i u hu=>?_⟩
 rw[hv]at ho;have h1:=jF row size hr ho j hj i u (by rw[List.getElem!_eq_getElem?_getD,List.getElem?_eq_getElem hj];exact hu);simpa using h1
def isT (g:ByteArray)(t:Tn):Bool:=t.g.toList == g.toList
def qj (ts:List Tn)(g:ByteArray):Int:=match ts.find? (isT g) with
 | some t=>t.tm
 | none=>0
theorem a4A {α:Type}(p:α->Bool):∀(l:List α) (j:Nat) (hj:j<l.length),p l[j]=true->(∀i (hi:i<j) (hl:i<l.length),p l[i]=false)->l.find? p=some l[j]
 | [],j,hj,_,_=>by simp at hj
 | a::r,0,hj,hp,_=>by
  have h0:p a=true:=hp;rw[List.find?_cons,h0];rfl
 | a::r,j+1,hj,hp,hno=>by
  have h0:p a=false:=hno 0 (by omega) (by simp);rw[List.find?_cons,h0];exact a4A p r j (by simpa using hj) (by simpa using hp) (fun i hi hl=>by
   have:=hno (i+1) (by omega) (by simpa using hl);simpa using this)
theorem b3h (ts:List Tn)(qb:Nat)(vt:Value)(g:ByteArray)(w:World)(hc:w.cell? ⟨qb,17,none⟩=some vt)(ho:w.ownsRow 0 306 2 vt ts.length (ts.flatMap Tn.row))(hl:ts.length<=1000):
  zE 274 #[zp qb,.string g] w (.int .i64 (qj ts g)):=by
 obtain⟨sa,sc,rfl⟩:=jl ho;have HO:=zH ho;have lq:=World.block_lt_of_cell? _ _ hc;clear ho;go_enter Tryz.func274,Tryz.ntmps274;go_wp2_with fail
 go_loopw [5] (fun v wr=>∃j:Nat,j<=ts.length/\v=.int .i64 (j:Int)/\(∀i (hi:i<j) (hl:i<ts.length),isT g ts[i]=false)/\wr=w) (fun v _=>ts.length-(intOf v).toNat)
 case atStart=>exact⟨0,Nat.zero_le _,rfl,fun i hi=>by omega,rfl⟩
 case round=>
  obtain⟨j,hj,rfl,hno,rfl⟩:=hrel;have HNO:=zH hno;clear hno
  by_cases hlt:j<ts.length
  ·obtain⟨gb,cap,hv,lg,hcs⟩:=kA Tn.row 2 (fun _=>rfl) HO.out j hlt;simp only[Value.slice.injEq,true_and]at hv;obtain⟨rfl,rfl⟩:=hv;have d0:wr.cell? ⟨gb,j*2,none⟩=some (.string ts[j].g):=hcs 0 _ rfl;have d1:wr.cell? ⟨gb,j*2+1,none⟩=some (.int .i64 ts[j].tm):=hcs 1 _ rfl;clear hcs
   cases he:(ts[j].g.toList == g.toList) with
   | true=>
    have HE:Hid (qj ts g=ts[j].tm):=by
     show _=_
     unfold qj;rw[a4A (isT g) ts j hlt he (fun i hi hl=>HNO.out i hi hl)]
    go_wp2_with fail;go_ret;exact⟨vC HE.out.symm,rfl⟩
   | false=>
    have HE:=zH he;go_wp2_with fail;go_roundw
    case rel=>exact⟨j+1,by omega,by go_num,fun i hi hl=>by
     by_cases hij:i=j
     ·subst hij;exact HE.out
     ·exact HNO.out i (by omega) hl,by trivial⟩
    case measure=>simp[intOf];omega
  ·have HM:Hid (qj ts g=0):=by
    show _=_
    unfold qj;have h1:ts.find? (isT g)=none:=List.find?_eq_none.2 (fun t ht=>by
     obtain⟨i,hi,rfl⟩:=List.mem_iff_getElem.1 ht;rw[HNO.out i (by omega) hi];decide)
    rw[h1]
   go_wp2_with fail;go_ret;exact⟨vC HM.out.symm,rfl⟩
def xN (g:ByteArray)(l:List Ms):Bool:=l.any (fun m=>isG g m&&decide (0<m.til))
theorem a9n (g:ByteArray)(l:List Ms)(j:Nat)(hj:j<l.length):xN g (l.take (j+1))=(xN g (l.take j)||(isG g l[j]&&decide (0<l[j].til))):=a3v _ l j hj
theorem a1E (ms:List Ms)(qb:Nat)(vm:Value)(g:ByteArray)(w:World)(hc:w.cell? ⟨qb,16,none⟩=some vm)(ho:w.ownsRow 0 271 5 vm ms.length (ms.flatMap Ms.row))(hl:ms.length<=1000):
  zE 230 #[zp qb,.string g] w (.tuple #[.int .i64 (jZ g ms:Int),.bool (xN g ms)]):=by
 obtain⟨sa,sc,rfl⟩:=jl ho;have HO:=zH ho;have lq:=World.block_lt_of_cell? _ _ hc;clear ho;go_enter Tryz.func230,Tryz.ntmps230;go_wp2_with fail
 go_loopw [6,7,8] (fun a b v wr=>∃j:Nat,j<=ms.length/\a=.int .i64 (jZ g (ms.take j):Int)/\b=.bool (xN g (ms.take j))/\v=.int .i64 (j:Int)/\wr=w) (fun _ _ v _=>ms.length-(intOf v).toNat)
 case atStart=>exact⟨0,Nat.zero_le _,rfl,rfl,rfl,rfl⟩
 case round=>
  obtain⟨j,hj,rfl,rfl,rfl,rfl⟩:=hrel
  by_cases hlt:j<ms.length
  ·obtain⟨gb,cap,hv,lg,hcs⟩:=kA Ms.row 5 (fun _=>rfl) HO.out j hlt;simp only[Value.slice.injEq,true_and]at hv;obtain⟨rfl,rfl⟩:=hv;have d1:wr.cell? ⟨gb,j*5+1,none⟩=some (.string ms[j].grp):=hcs 1 _ rfl;have d4:wr.cell? ⟨gb,j*5+4,none⟩=some (.int .i64 ms[j].til):=hcs 4 _ rfl;have hcg:=a1t g ms j hlt;have hfg:=a9n g ms j hlt;have hle:jZ g (ms.take j)<=1000:=Nat.le_trans (zq _ _) (by rw[List.length_take];omega);clear hcs
   cases he:(ms[j].grp.toList == g.toList) with
   | true=>
    have hg:isG g ms[j]=true:=he;rw[if_pos hg]at hcg;rw[hg,Bool.true_and]at hfg;generalize jZ g (ms.take j)=cn at*
    generalize xN g (ms.take j)=fl at*
    have HX:Hid (jZ g (ms.take (j+1))=cn+1/\xN g (ms.take (j+1))=(fl||decide (0<ms[j].til))):=⟨hcg,hfg⟩;clear hcg hfg hg
    cases fl with
    | true=>
     go_wp2_with fail;go_roundw
     case rel=>exact⟨j+1,by omega,by rw[HX.out.1];go_num,by rw[HX.out.2];rfl,by go_num,by trivial⟩
     case measure=>simp[intOf];omega
    | false=>
     go_wp2_with fail;go_roundw
     case rel=>exact⟨j+1,by omega,by rw[HX.out.1];go_num,by rw[HX.out.2];simp,by go_num,by trivial⟩
     case measure=>simp[intOf];omega
   | false=>
    have hg:isG g ms[j]=false:=he;rw[if_neg (by rw[hg];decide)]at hcg;rw[hg,Bool.false_and,Bool.or_false]at hfg;generalize jZ g (ms.take j)=cn at*
    generalize xN g (ms.take j)=fl at*
    have HX:Hid (jZ g (ms.take (j+1))=cn/\xN g (ms.take (j+1))=fl):=⟨hcg,hfg⟩;clear hcg hfg hg;go_wp2_with fail;go_roundw
    case rel=>exact⟨j+1,by omega,by rw[HX.out.1],by rw[HX.out.2],by go_num,by trivial⟩
    case measure=>simp[intOf];omega
  ·have hje:j=ms.length:=by omega
   subst hje;rw[List.take_length];go_wp2_with fail;go_ret2;exact⟨rfl,rfl⟩
theorem jL (c:UInt8)(w:World):zT 140 #[.int .i64 (c.toNat:Int)] w (.string ⟨#[c]⟩):=by
 have hc:=c.toNat_lt;have hw:IntKind.u8.wrap ((c.toNat:Nat):Int)=((c.toNat:Nat):Int):=by rw[IntKind.wrap_u8];omega
 have hs:=a4T c;have hl:(w.alloc (.cells #[.int .u8 ((c.toNat:Nat):Int)] 5)).cell? ⟨w.heap.size,0,none⟩=some (.int .u8 ((c.toNat:Nat):Int)):=cell_of_one (heap_alloc_new _ _);generalize ((c.toNat:Nat):Int)=n at*
 go_enter Tryz.func140,Tryz.ntmps140;go_wp2_with fail;go_ret;exact⟨rfl,(Tch.refl _ _).alloc _⟩
def rowO (w:World)(t:TypeId)(size:Nat)(v:Value)(n:Nat)(xs:List Value):Prop:=(v=.slice none 0 0/\n=0/\xs=[])\/∃g o cap cur,v=.slice (some ⟨g,o,none⟩) n cap/\w.heap[g]?=some (.cells cur t (0,0))/\n<=cap/\cap<=maxLen/\cur.size=o+cap*size/\(cur.toList.drop o).take (n*size)=xs/\xs.length=n*size
theorem rowO.keep (h:rowO w t size v n xs)(hk:∀k,v.ownBlock=some k->w'.heap[k]?=w.heap[k]?):rowO w' t size v n xs:=by
 rcases h with h|⟨g,o,cap,cur,rfl,hg,hr⟩
 ·exact .inl h
 ·exact .inr ⟨g,o,cap,cur,rfl,(hk g rfl).trans hg,hr⟩
theorem rowO.ty (h:rowO w t size v n xs){k:Nat}(hk:v.ownBlock=some k):∃C,w.heap[k]?=some (.cells C t (0,0)):=by
 rcases h with ⟨rfl,_⟩|⟨g,o,cap,cur,rfl,hg,hr⟩
 ·simp[Value.ownBlock]at hk
 ·simp only[Value.ownBlock,Option.some.injEq]at hk;subst hk;exact⟨cur,hg⟩
theorem jV (h:w.ownsRow 0 t size v n xs){k:Nat}(hk:v.ownBlock=some k):∃C,w.heap[k]?=some (.cells C t (0,0)):=by
 rcases h.2 with ⟨rfl,_⟩|⟨g,cap,cur,rfl,_,hg,_⟩
 ·simp[Value.ownBlock]at hk
 ·simp only[Value.ownBlock,Option.some.injEq]at hk;subst hk;exact⟨cur,hg⟩
theorem rowO.of_own (h:w.ownsRow 0 t size v n xs):rowO w t size v n xs:=by
 have hl:=h.1;rcases h.2 with ⟨rfl,rfl⟩|⟨g,cap,cur,rfl,_,hg,h1,h2,h3,h4⟩
 ·exact .inl ⟨rfl,rfl,List.length_eq_zero_iff.1 (by rw[hl];omega)⟩
 ·exact .inr ⟨g,0,cap,cur,rfl,hg,h1,h2,by omega,by simpa using h4,hl⟩
theorem qF {t':TypeId}(h:w.heap[k]?=some (.cells C t (0,0)))(h':w.heap[k]?=some (.cells C' t' (0,0))):t=t':=by
 rw[h]at h';simp at h';exact h'.2
structure RV where
 m:Value
 t:Value
 d:Value
 a:Value
structure RR (w:World)(qb:Nat)(V:RV)(sl:Value)(Q:QM)(ts:List Tn)(cnt:Nat):Prop where
 blk:w.heap[qb]?=some (.cells (rqC Q.c sl (Q.next:Int) V.m V.t (cnt:Int) V.d V.a) 216 (0,0))
 m:w.ownsRow 0 271 5 V.m Q.ms.length (Q.ms.flatMap Ms.row)
 t:w.ownsRow 0 306 2 V.t ts.length (ts.flatMap Tn.row)
 d:w.ownsRow 0 267 4 V.d Q.ds.length (Q.ds.flatMap ddK)
 a:rowO w 267 4 V.a Q.ats.length (Q.ats.flatMap atK)
 sep:∀k,V.d.ownBlock=some k->V.a.ownBlock≠some k
def rbl (qb:Nat)(V:RV):List Nat:=qb::(bl V.m++(bl V.t++(bl V.d++bl V.a)))
theorem ju {V:RV}:k∈rbl qb V↔k=qb\/V.m.ownBlock=some k\/V.t.ownBlock=some k\/V.d.ownBlock=some k\/V.a.ownBlock=some k:=by
 unfold rbl;rw[List.mem_cons,List.mem_append,List.mem_append,List.mem_append,jq,jq,jq,jq]
theorem RR.keep {V:RV}{ts:List Tn}(h:RR w qb V sl Q ts cnt)(hk:∀k∈rbl qb V,w'.heap[k]?=w.heap[k]?):RR w' qb V sl Q ts cnt:=
 ⟨(hk qb (ju.2 (.inl rfl))).trans h.blk,jO h.m (fun k e=>hk k (ju.2 (.inr (.inl e)))),jO h.t (fun k e=>hk k (ju.2 (.inr (.inr (.inl e))))),jO h.d (fun k e=>hk k (ju.2 (.inr (.inr (.inr (.inl e)))))),h.a.keep (fun k e=>hk k (ju.2 (.inr (.inr (.inr (.inr e)))))),h.sep⟩
theorem RR.lt {V:RV}{ts:List Tn}(h:RR w qb V sl Q ts cnt):∀k∈rbl qb V,k<w.heap.size:=fun k hk=>by
 rcases ju.1 hk with rfl|e|e|e|e
 ·exact lt_of_block h.blk
 ·exact vM h.m e
 ·exact vM h.t e
 ·exact vM h.d e
 ·obtain⟨C,hC⟩:=h.a.ty e;exact lt_of_block hC
theorem RR.tch {V:RV}{ts:List Tn}(h:RR w qb V sl Q ts cnt){S:List Nat}(ht:Tch S w w')(hS:∀k∈rbl qb V,k∉S):RR w' qb V sl Q ts cnt:=h.keep (fun k hk=>ht.block k (h.lt k hk) (hS k hk))
theorem RR.ty {V:RV}{ts:List Tn}(h:RR w qb V sl Q ts cnt){k:Nat}(hk:k∈rbl qb V):∃C t,t∈([216,271,306,267]:List TypeId)/\w.heap[k]?=some (.cells C t (0,0)):=by
 rcases ju.1 hk with rfl|e|e|e|e
 ·exact⟨_,_,by decide,h.blk⟩
 ·obtain⟨C,hC⟩:=jV h.m e;exact⟨C,_,by decide,hC⟩
 ·obtain⟨C,hC⟩:=jV h.t e;exact⟨C,_,by decide,hC⟩
 ·obtain⟨C,hC⟩:=jV h.d e;exact⟨C,_,by decide,hC⟩
 ·obtain⟨C,hC⟩:=h.a.ty e;exact⟨C,_,by decide,hC⟩
structure RS (w w':World)(qb:Nat)(V V':RV)(sl:Value)(Q':QM)(ts':List Tn)(cnt':Nat):Prop where
 rr:RR w' qb V' sl Q' ts' cnt'
 tch:Tch (rbl qb V) w w'
 new:∀b∈rbl qb V',b∈rbl qb V\/w.heap.size<=b
theorem RS.trans {a b c:World}{V V1 V2:RV}{Q1 Q2:QM}{t1 t2:List Tn}{n1 n2:Nat}(h1:RS a b qb V V1 sl Q1 t1 n1)(h2:RS b c qb V1 V2 sl Q2 t2 n2):RS a c qb V V2 sl Q2 t2 n2:=
 ⟨h2.rr,h1.tch.trans h2.tch (fun x hx hlt=>by
  rcases h1.new x hx with h|h
  ·exact h
  ·omega),fun k hk=>by
  rcases h2.new k hk with h|h
  ·exact h1.new k h
  ·exact .inr (Nat.le_trans h1.tch.size h)⟩
theorem RR.rs {V:RV}{ts:List Tn}(h:RR w qb V sl Q ts cnt)(ht:Tch [] w w'):RS w w' qb V V sl Q ts cnt:=⟨h.tch ht (by simp),ht.sub (by simp),fun _ h=>.inl h⟩
theorem jJ {u:Value}(hk:k≠qb)(h:w2.heap[k]?=w.heap[k]?):(w2.setCell ⟨qb,o,none⟩ u).heap[k]?=w.heap[k]?:=(heap_setCell_other _ _ _ _ (show k≠qb from hk)).trans h
theorem RR.kq {V:RV}{ts:List Tn}(h:RR w qb V sl Q ts cnt){k:Nat}(hk:V.m.ownBlock=some k\/V.t.ownBlock=some k\/V.d.ownBlock=some k\/V.a.ownBlock=some k):k≠qb:=by
 rintro rfl;rcases hk with e|e|e|e
 ·obtain⟨C,hC⟩:=jV h.m e;exact absurd (qF hC h.blk) (by decide)
 ·obtain⟨C,hC⟩:=jV h.t e;exact absurd (qF hC h.blk) (by decide)
 ·obtain⟨C,hC⟩:=jV h.d e;exact absurd (qF hC h.blk) (by decide)
 ·obtain⟨C,hC⟩:=h.a.ty e;exact absurd (qF hC h.blk) (by decide)
theorem xq (h:w.heap[qb]?=some (.cells C t (0,0)))(v:Value)(hC:C.setIfInBounds o v=C'):(w.setCell ⟨qb,o,none⟩ v).heap[qb]?=some (.cells C' t (0,0)):=by
 rw[<-hC];exact heap_setCell_same w qb o C t v h
theorem RR.newM {V:RV}{ts:List Tn}(h:RR w qb V sl Q ts cnt){v':Value}{l':List Ms}(ht:Tch (bl V.m) w w2)(ho:w2.ownsRow 0 271 5 v' l'.length (l'.flatMap Ms.row))(hN:∀k,v'.ownBlock=some k->V.m.ownBlock=some k\/w.heap.size<=k):
  w2.cell? ⟨qb,16,none⟩=some V.m/\w2.frozen? ⟨qb,16,none⟩=false/\qb<w2.heap.size/\RS w (w2.setCell ⟨qb,16,none⟩ v') qb V {V with m:=v'} sl {Q with ms:=l'} ts cnt:=by
 have hb:w2.heap[qb]?=some (.cells (rqC Q.c sl (Q.next:Int) V.m V.t (cnt:Int) V.d V.a) 216 (0,0)):=(ht.block _ (lt_of_block h.blk) (fun hm=>h.kq (.inl (jq.1 hm)) rfl)).trans h.blk;have hvq:∀k,v'.ownBlock=some k->k≠qb:=fun k e hk=>by
  subst hk;obtain⟨C,hC⟩:=jV ho e;exact absurd (qF hC hb) (by decide)
 have t3:Tch [qb] w2 (w2.setCell ⟨qb,16,none⟩ v'):=(Tch.refl _ _).setCell (fun _=>by simp) _;have kt:∀k,V.t.ownBlock=some k->(w2.setCell ⟨qb,16,none⟩ v').heap[k]?=w.heap[k]?:=fun k e=>by
  obtain⟨C,hC⟩:=jV h.t e;refine jJ (h.kq (.inr (.inl e))) (ht.block k (lt_of_block hC) (fun hm=>?_));obtain⟨C',hC'⟩:=jV h.m (jq.1 hm);exact absurd (qF hC hC') (by decide)
 have kd:∀k,V.d.ownBlock=some k->(w2.setCell ⟨qb,16,none⟩ v').heap[k]?=w.heap[k]?:=fun k e=>by
  obtain⟨C,hC⟩:=jV h.d e;refine jJ (h.kq (.inr (.inr (.inl e)))) (ht.block k (lt_of_block hC) (fun hm=>?_));obtain⟨C',hC'⟩:=jV h.m (jq.1 hm);exact absurd (qF hC hC') (by decide)
 have ka:∀k,V.a.ownBlock=some k->(w2.setCell ⟨qb,16,none⟩ v').heap[k]?=w.heap[k]?:=fun k e=>by
  obtain⟨C,hC⟩:=h.a.ty e;refine jJ (h.kq (.inr (.inr (.inr e)))) (ht.block k (lt_of_block hC) (fun hm=>?_));obtain⟨C',hC'⟩:=jV h.m (jq.1 hm);exact absurd (qF hC hC') (by decide)
 refine⟨jb hb 16 _ rfl,frozen_of_row w2 _ _ _ 216 hb,lt_of_block hb,⟨xq hb v' rfl,jO ho (fun k e=>jJ (hvq k e) rfl),jO h.t kt,jO h.d kd,h.a.keep ka,h.sep⟩,(ht.sub (fun k hk _=>?_)).trans t3 (fun k hk _=>?_),fun b hb'=>?_⟩
 ·have e:=jq.1 hk;exact ju.2 (.inr (.inl e))
 ·simp at hk;exact ju.2 (.inl hk)
 ·rcases ju.1 hb' with e|e|e|e|e
  ·exact .inl (ju.2 (.inl e))
  ·exact(hN b e).imp (fun e=>ju.2 (.inr (.inl e))) id
  ·exact .inl (ju.2 (.inr (.inr (.inl e))))
  ·exact .inl (ju.2 (.inr (.inr (.inr (.inl e)))))
  ·exact .inl (ju.2 (.inr (.inr (.inr (.inr e)))))
theorem RR.newT {V:RV}{ts:List Tn}(h:RR w qb V sl Q ts cnt){v':Value}{l':List Tn}(ht:Tch (bl V.t) w w2)(ho:w2.ownsRow 0 306 2 v' l'.length (l'.flatMap Tn.row))(hN:∀k,v'.ownBlock=some k->V.t.ownBlock=some k\/w.heap.size<=k):
  w2.cell? ⟨qb,17,none⟩=some V.t/\w2.frozen? ⟨qb,17,none⟩=false/\qb<w2.heap.size/\RS w (w2.setCell ⟨qb,17,none⟩ v') qb V {V with t:=v'} sl Q l' cnt:=by
 have hb:w2.heap[qb]?=some (.cells (rqC Q.c sl (Q.next:Int) V.m V.t (cnt:Int) V.d V.a) 216 (0,0)):=(ht.block _ (lt_of_block h.blk) (fun hm=>h.kq (.inr (.inl (jq.1 hm))) rfl)).trans h.blk;have hvq:∀k,v'.ownBlock=some k->k≠qb:=fun k e hk=>by
  subst hk;obtain⟨C,hC⟩:=jV ho e;exact absurd (qF hC hb) (by decide)
 have t3:Tch [qb] w2 (w2.setCell ⟨qb,17,none⟩ v'):=(Tch.refl _ _).setCell (fun _=>by simp) _;have km:∀k,V.m.ownBlock=some k->(w2.setCell ⟨qb,17,none⟩ v').heap[k]?=w.heap[k]?:=fun k e=>by
  obtain⟨C,hC⟩:=jV h.m e;refine jJ (h.kq (.inl e)) (ht.block k (lt_of_block hC) (fun hm=>?_));obtain⟨C',hC'⟩:=jV h.t (jq.1 hm);exact absurd (qF hC hC') (by decide)
 have kd:∀k,V.d.ownBlock=some k->(w2.setCell ⟨qb,17,none⟩ v').heap[k]?=w.heap[k]?:=fun k e=>by
  obtain⟨C,hC⟩:=jV h.d e;refine jJ (h.kq (.inr (.inr (.inl e)))) (ht.block k (lt_of_block hC) (fun hm=>?_));obtain⟨C',hC'⟩:=jV h.t (jq.1 hm);exact absurd (qF hC hC') (by decide)
 have ka:∀k,V.a.ownBlock=some k->(w2.setCell ⟨qb,17,none⟩ v').heap[k]?=w.heap[k]?:=fun k e=>by
  obtain⟨C,hC⟩:=h.a.ty e;refine jJ (h.kq (.inr (.inr (.inr e)))) (ht.block k (lt_of_block hC) (fun hm=>?_));obtain⟨C',hC'⟩:=jV h.t (jq.1 hm);exact absurd (qF hC hC') (by decide)
 refine⟨jb hb 17 _ rfl,frozen_of_row w2 _ _ _ 216 hb,lt_of_block hb,⟨xq hb v' rfl,jO h.m km,jO ho (fun k e=>jJ (hvq k e) rfl),jO h.d kd,h.a.keep ka,h.sep⟩,(ht.sub (fun k hk _=>?_)).trans t3 (fun k hk _=>?_),fun b hb'=>?_⟩
 ·have e:=jq.1 hk;exact ju.2 (.inr (.inr (.inl e)))
 ·simp at hk;exact ju.2 (.inl hk)
 ·rcases ju.1 hb' with e|e|e|e|e
  ·exact .inl (ju.2 (.inl e))
  ·exact .inl (ju.2 (.inr (.inl e)))
  ·exact(hN b e).imp (fun e=>ju.2 (.inr (.inr (.inl e)))) id
  ·exact .inl (ju.2 (.inr (.inr (.inr (.inl e)))))
  ·exact .inl (ju.2 (.inr (.inr (.inr (.inr e)))))
theorem RR.newD {V:RV}{ts:List Tn}(h:RR w qb V sl Q ts cnt){v':Value}{l':List Dd}(ht:Tch (bl V.d) w w2)(ho:w2.ownsRow 0 267 4 v' l'.length (l'.flatMap ddK))(hN:∀k,v'.ownBlock=some k->V.d.ownBlock=some k\/w.heap.size<=k)(hS:∀k,v'.ownBlock=some k->V.a.ownBlock≠some k):
  w2.cell? ⟨qb,19,none⟩=some V.d/\w2.frozen? ⟨qb,19,none⟩=false/\qb<w2.heap.size/\RS w (w2.setCell ⟨qb,19,none⟩ v') qb V {V with d:=v'} sl {Q with ds:=l'} ts cnt:=by
 have hb:w2.heap[qb]?=some (.cells (rqC Q.c sl (Q.next:Int) V.m V.t (cnt:Int) V.d V.a) 216 (0,0)):=(ht.block _ (lt_of_block h.blk) (fun hm=>h.kq (.inr (.inr (.inl (jq.1 hm)))) rfl)).trans h.blk
 have hvq:∀k,v'.ownBlock=some k->k≠qb:=fun k e hk=>by
  subst hk;obtain⟨C,hC⟩:=jV ho e;exact absurd (qF hC hb) (by decide)
 have t3:Tch [qb] w2 (w2.setCell ⟨qb,19,none⟩ v'):=(Tch.refl _ _).setCell (fun _=>by simp) _;have km:∀k,V.m.ownBlock=some k->(w2.setCell ⟨qb,19,none⟩ v').heap[k]?=w.heap[k]?:=fun k e=>by
  obtain⟨C,hC⟩:=jV h.m e;refine jJ (h.kq (.inl e)) (ht.block k (lt_of_block hC) (fun hm=>?_));obtain⟨C',hC'⟩:=jV h.d (jq.1 hm);exact absurd (qF hC hC') (by decide)
 have kt:∀k,V.t.ownBlock=some k->(w2.setCell ⟨qb,19,none⟩ v').heap[k]?=w.heap[k]?:=fun k e=>by
  obtain⟨C,hC⟩:=jV h.t e;refine jJ (h.kq (.inr (.inl e))) (ht.block k (lt_of_block hC) (fun hm=>?_));obtain⟨C',hC'⟩:=jV h.d (jq.1 hm);exact absurd (qF hC hC') (by decide)
 have ka:∀k,V.a.ownBlock=some k->(w2.setCell ⟨qb,19,none⟩ v').heap[k]?=w.heap[k]?:=fun k e=>by
  obtain⟨C,hC⟩:=h.a.ty e;exact jJ (h.kq (.inr (.inr (.inr e)))) (ht.block k (lt_of_block hC) (fun hm=>h.sep k (jq.1 hm) e))
 refine⟨jb hb 19 _ rfl,frozen_of_row w2 _ _ _ 216 hb,lt_of_block hb,⟨xq hb v' rfl,jO h.m km,jO h.t kt,jO ho (fun k e=>jJ (hvq k e) rfl),h.a.keep ka,hS⟩,(ht.sub (fun k hk _=>?_)).trans t3 (fun k hk _=>?_),fun b hb'=>?_⟩
 ·have e:=jq.1 hk;exact ju.2 (.inr (.inr (.inr (.inl e))))
 ·simp at hk;exact ju.2 (.inl hk)
 ·rcases ju.1 hb' with e|e|e|e|e
  ·exact .inl (ju.2 (.inl e))
  ·exact .inl (ju.2 (.inr (.inl e)))
  ·exact .inl (ju.2 (.inr (.inr (.inl e))))
  ·exact(hN b e).imp (fun e=>ju.2 (.inr (.inr (.inr (.inl e))))) id
  ·exact .inl (ju.2 (.inr (.inr (.inr (.inr e)))))
theorem RR.newA {V:RV}{ts:List Tn}(h:RR w qb V sl Q ts cnt){v':Value}{l':List At}(ht:Tch (bl V.a) w w2)(ho:rowO w2 267 4 v' l'.length (l'.flatMap atK))(hN:∀k,v'.ownBlock=some k->V.a.ownBlock=some k\/w.heap.size<=k)(hS:∀k,v'.ownBlock=some k->V.d.ownBlock≠some k):
  w2.cell? ⟨qb,20,none⟩=some V.a/\w2.frozen? ⟨qb,20,none⟩=false/\qb<w2.heap.size/\RS w (w2.setCell ⟨qb,20,none⟩ v') qb V {V with a:=v'} sl {Q with ats:=l'} ts cnt:=by
 have hb:w2.heap[qb]?=some (.cells (rqC Q.c sl (Q.next:Int) V.m V.t (cnt:Int) V.d V.a) 216 (0,0)):=(ht.block _ (lt_of_block h.blk) (fun hm=>h.kq (.inr (.inr (.inr (jq.1 hm)))) rfl)).trans h.blk
 have hvq:∀k,v'.ownBlock=some k->k≠qb:=fun k e hk=>by
  subst hk;obtain⟨C,hC⟩:=ho.ty e;exact absurd (qF hC hb) (by decide)
 have t3:Tch [qb] w2 (w2.setCell ⟨qb,20,none⟩ v'):=(Tch.refl _ _).setCell (fun _=>by simp) _;have km:∀k,V.m.ownBlock=some k->(w2.setCell ⟨qb,20,none⟩ v').heap[k]?=w.heap[k]?:=fun k e=>by
  obtain⟨C,hC⟩:=jV h.m e;refine jJ (h.kq (.inl e)) (ht.block k (lt_of_block hC) (fun hm=>?_));obtain⟨C',hC'⟩:=h.a.ty (jq.1 hm);exact absurd (qF hC hC') (by decide)
 have kt:∀k,V.t.ownBlock=some k->(w2.setCell ⟨qb,20,none⟩ v').heap[k]?=w.heap[k]?:=fun k e=>by
  obtain⟨C,hC⟩:=jV h.t e;refine jJ (h.kq (.inr (.inl e))) (ht.block k (lt_of_block hC) (fun hm=>?_));obtain⟨C',hC'⟩:=h.a.ty (jq.1 hm);exact absurd (qF hC hC') (by decide)
 have kd:∀k,V.d.ownBlock=some k->(w2.setCell ⟨qb,20,none⟩ v').heap[k]?=w.heap[k]?:=fun k e=>by
  obtain⟨C,hC⟩:=jV h.d e;exact jJ (h.kq (.inr (.inr (.inl e)))) (ht.block k (lt_of_block hC) (fun hm=>h.sep k e (jq.1 hm)))
 refine⟨jb hb 20 _ rfl,frozen_of_row w2 _ _ _ 216 hb,lt_of_block hb,⟨xq hb v' rfl,jO h.m km,jO h.t kt,jO h.d kd,ho.keep (fun k e=>jJ (hvq k e) rfl),fun k e e'=>hS k e' e⟩,(ht.sub (fun k hk _=>?_)).trans t3 (fun k hk _=>?_),fun b hb'=>?_⟩
 ·have e:=jq.1 hk;exact ju.2 (.inr (.inr (.inr (.inr e))))
 ·simp at hk;exact ju.2 (.inl hk)
 ·rcases ju.1 hb' with e|e|e|e|e
  ·exact .inl (ju.2 (.inl e))
  ·exact .inl (ju.2 (.inr (.inl e)))
  ·exact .inl (ju.2 (.inr (.inr (.inl e))))
  ·exact .inl (ju.2 (.inr (.inr (.inr (.inl e)))))
  ·exact(hN b e).imp (fun e=>ju.2 (.inr (.inr (.inr (.inr e))))) id
theorem RR.setNext {V:RV}{ts:List Tn}(h:RR w qb V sl Q ts cnt)(n:Nat):
  w.cell? ⟨qb,15,none⟩=some (.int .i64 (Q.next:Int))/\w.frozen? ⟨qb,15,none⟩=false/\RS w (w.setCell ⟨qb,15,none⟩ (.int .i64 (n:Int))) qb V V sl {Q with next:=n} ts cnt:=by
 have t3:Tch [qb] w (w.setCell ⟨qb,15,none⟩ (.int .i64 (n:Int))):=(Tch.refl _ _).setCell (fun _=>by simp) _;refine⟨jb h.blk 15 _ rfl,frozen_of_row w _ _ _ 216 h.blk,⟨xq h.blk _ rfl,jO h.m (fun k e=>jJ (h.kq (.inl e)) rfl),jO h.t (fun k e=>jJ (h.kq (.inr (.inl e))) rfl),jO h.d (fun k e=>jJ (h.kq (.inr (.inr (.inl e)))) rfl),h.a.keep (fun k e=>jJ (h.kq (.inr (.inr (.inr e)))) rfl),h.sep⟩,t3.sub (fun k hk _=>?_),fun b hb=>.inl hb⟩
 simp at hk;exact ju.2 (.inl hk)
theorem RR.setCnt {V:RV}{ts:List Tn}(h:RR w qb V sl Q ts cnt)(n:Nat):
  w.cell? ⟨qb,18,none⟩=some (.int .i64 (cnt:Int))/\w.frozen? ⟨qb,18,none⟩=false/\RS w (w.setCell ⟨qb,18,none⟩ (.int .i64 (n:Int))) qb V V sl Q ts n:=by
 have t3:Tch [qb] w (w.setCell ⟨qb,18,none⟩ (.int .i64 (n:Int))):=(Tch.refl _ _).setCell (fun _=>by simp) _;refine⟨jb h.blk 18 _ rfl,frozen_of_row w _ _ _ 216 h.blk,⟨xq h.blk _ rfl,jO h.m (fun k e=>jJ (h.kq (.inl e)) rfl),jO h.t (fun k e=>jJ (h.kq (.inr (.inl e))) rfl),jO h.d (fun k e=>jJ (h.kq (.inr (.inr (.inl e)))) rfl),h.a.keep (fun k e=>jJ (h.kq (.inr (.inr (.inr e)))) rfl),h.sep⟩,t3.sub (fun k hk _=>?_),fun b hb=>.inl hb⟩
 simp at hk;exact ju.2 (.inl hk)
end Go.Proofs.YtbdobaapadlcjaaGreatDoor.Ref
