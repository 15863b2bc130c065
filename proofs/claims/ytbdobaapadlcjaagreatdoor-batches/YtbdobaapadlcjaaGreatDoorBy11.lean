import Derived.Test.YtbdobaapadlcjaaGreatDoorBy10
import Derived.Shelf.SlSortCmp.WholeK
set_option maxRecDepth 8000
set_option maxHeartbeats 4000000
set_option linter.unusedVariables false
set_option linter.unusedSimpArgs false
namespace Go.Proofs.YtbdobaapadlcjaaGreatDoor
open Go.RowKit
variable {w w':World}{st b base size n qb:Nat}{v:Value}{xs:List Value}{V:QV}
theorem a6n {α:Type}(A D:Array α)(j:Nat)(v:α)(hj:j<A.size):(A++D).setIfInBounds j v=A.setIfInBounds j v++D:=by
 apply Array.toList_inj.1;rw[Array.toList_setIfInBounds,Array.toList_append,Array.toList_append,Array.toList_setIfInBounds,List.set_append_left _ _ (by simpa using hj)]
theorem b1g {α:Type}(A D:Array α)(j:Nat)(hj:j<A.size):(A++D)[j]?=A[j]?:=Array.getElem?_append_left hj
def stH (now:Int)(P:Nat->Value):Array Value:=#[.int .i64 now,P 0,P 1,P 2,P 3,P 4,P 5,P 6,P 7]
def stG (now:Int)(P:Nat->Value)(b:Nat):Array Value:=stH now P++xh b
def Stb (w:World)(st b:Nat)(now:Int)(P:Nat->Value):Prop:=w.heap[st]?=some (.cells (stG now P b) 156 (0,0))
theorem lt8 {i:Nat}(h:i<8):i=0\/i=1\/i=2\/i=3\/i=4\/i=5\/i=6\/i=7:=by omega
theorem zm (now:Int)(P:Nat->Value):(stH now P).size=9:=rfl
theorem Stb.get {now:Int}{P:Nat->Value}(h:Stb w st b now P)(j:Nat)(hj:j<9):w.cell? ⟨st,j,none⟩=(stH now P)[j]?:=
 (cell_of_row w st j _ 156 (0,0) h).trans (b1g _ _ _ (by rw[zm];exact hj))
theorem Stb.cell {now:Int}{P:Nat->Value}(h:Stb w st b now P)(i:Nat)(hi:i<8):w.cell? ⟨st,1+i,none⟩=some (P i):=by
 rw[h.get (1+i) (by omega)];rcases lt8 hi with rfl|rfl|rfl|rfl|rfl|rfl|rfl|rfl<;>rfl
theorem Stb.now {now:Int}{P:Nat->Value}(h:Stb w st b now P):w.cell? ⟨st,0,none⟩=some (.int .i64 now):=by
 rw[h.get 0 (by decide)];rfl
theorem Stb.lt {now:Int}{P:Nat->Value}(h:Stb w st b now P):st<w.heap.size:=lt_of_block h
theorem Stb.tch {now:Int}{P:Nat->Value}(h:Stb w st b now P){S:List Nat}(ht:Tch S w w')(hS:st∉S):Stb w' st b now P:=(ht.block _ h.lt hS).trans h
theorem Stb.fr {B:Nat}{T:List TypeId}{now:Int}{P:Nat->Value}(h:Stb w st b now P)(hf:Fr B T w w')(hT:156∉T):Stb w' st b now P:=hf.keep _ _ _ h hT
theorem Stb.fz {now:Int}{P:Nat->Value}(h:Stb w st b now P)(j:Nat):w.frozen? ⟨st,j,none⟩=false:=frozen_of_row w st j _ 156 h
def vE (P:Nat->Value)(i:Nat)(v:Value):Nat->Value:=fun j=>if j=i then v else P j
theorem a8D (now:Int)(P:Nat->Value)(i:Nat)(hi:i<8)(v:Value):(stH now P).setIfInBounds (1+i) v=stH now (vE P i v):=by
 rcases lt8 hi with rfl|rfl|rfl|rfl|rfl|rfl|rfl|rfl<;>rfl
theorem Stb.set {now:Int}{P:Nat->Value}(h:Stb w st b now P)(i:Nat)(hi:i<8)(v:Value):Stb (w.setCell ⟨st,1+i,none⟩ v) st b now (vE P i v):=by
 have h1:=heap_setCell_same w st (1+i) _ 156 v h;unfold stG at h1;rw[a6n _ _ _ _ (by rw[zm];omega),a8D now P i hi v]at h1;exact h1
theorem Stb.set0 {now:Int}{P:Nat->Value}(h:Stb w st b now P)(n:Int):Stb (w.setCell ⟨st,0,none⟩ (.int .i64 n)) st b n P:=by
 have h1:=heap_setCell_same w st 0 _ 156 (.int .i64 n) h;unfold stG at h1;rw[a6n _ _ _ _ (by rw[zm];omega)]at h1;exact h1
theorem a8Q (st b i:Nat)(now:Int)(P:Nat->Value)(w:World)(h:Stb w st b now P)(hi:i<8):zE 200 #[zp st,.int .u8 (97+(i:Int))] w (P i):=by
 have hc:=h.cell i hi;have hw0:IntKind.u8.wrap (97+(i:Int)-97)=(i:Int):=by
  have e:(97+(i:Int)-97)=(i:Int):=by omega
  rw[e,IntKind.wrap_u8];omega
 clear h;generalize P i=v at*
 go_enter Tryz.func200,Tryz.ntmps200
 go_wp2
 go_ret;exact⟨rfl,rfl⟩
def jB:Option Nat->Value
 | some q=>zp q
 | none=>.pointer none
theorem a4U {t:Nat}(h:w.ownsRow base t size v n xs):∀k,v.ownBlock=some k->base<=k:=fun k hk=>by
 rcases h.2 with ⟨rfl,_⟩|⟨g,cap,cur,rfl,hb,hg,rest⟩
 ·simp[Value.ownBlock]at hk
 ·simp only[Value.ownBlock,Option.some.injEq]at hk;omega
theorem vf {e:Nat}(h:w.ownsRow base e size v n xs):∃a c,v=.slice a n c:=by
 rcases h.2 with ⟨h0,h1⟩|⟨g,cap,cur,h0,_⟩
 ·exact⟨none,0,by rw[h0,h1]⟩
 ·exact⟨_,_,h0⟩
theorem b3Z:(Tryz.prog.info? 152).map (fun i=>(i.zero,i.size,i.bytes))=some (some (.pointer none),1,8):=by kernel_rfl
theorem zI (base:Nat)(w:World){ops:Array Oper}{rest:List Oper}{o:Oper}{a:Act}{Q:Exit->Act->World->Prop}(hgd:o.guard=none)(s x:Operand)(t te:TypeId)
  (ho:o.op=.call {callee:=.builtin .append,args:=#[s,x],argTypes:=#[t,t]})(ht:Tryz.prog.underlying t=some (.slice te))(z:Value)(size bytes:Nat)
  (hinfo:(Tryz.prog.info? te).map (fun i=>(i.zero,i.size,i.bytes))=some (some z,size,bytes))(hzs:z.cells.size=size)(hsz:0<size)(hby:bytes<=100)
  (v:Value)(n:Nat)(xs:List Value)(hs:a.eval s=v)(hown:w.ownsRow base te size v n xs)(hbase:base<=w.heap.size)(g:Nat)(news:List Value)(m:Nat)(hx:a.eval x=.slice (some ⟨g,0,none⟩) m m)(hm:news.length=m*size)(hm0:0<m)(hg:w.heap[g]?=some (.cells news.toArray te (0,0)))(hone:∀u∈news,u.oneCell'=true)(hn:n+m<=1073741824)
  (h:∀v' w',w'.ownsRow base te size v' (n+m) (xs++news)->w.grownBy w' v.ownBlock->(v'.ownBlock=v.ownBlock\/v'.ownBlock=some w.heap.size)->wpList Tryz.prog ops Q rest (a.put o.dst v') w'):wpList Tryz.prog ops Q (o::rest) a w:=by
 obtain⟨i0,hi,hz0,hz1,hz2⟩:=info_parts hinfo;refine vS w hgd s x t ho base te i0 _ size bytes ht hi hz0 hz1 hz2 hzs hsz v n xs hs hown ⟨g,0,none⟩ m m news hx hm ?_ hone (by unfold maxLen;omega) ?_ hbase hm0 h
 ·intro j u hj;have e:(⟨g,0,none⟩:Addr).add j=⟨g,j,none⟩:=by unfold Addr.add;split<;>simp_all
  rw[e,cell_of_row w g j _ te (0,0) hg,<-hj];simp
 ·have h1:(n+m)*bytes<=1073741824*100:=Nat.mul_le_mul hn hby
  omega
theorem a3H (qb:Nat)(d:Int)(w:World)(c1:w.cell? ⟨qb,1,none⟩=some (.int .u8 d)):zE 261 #[zp qb] w (.int .u8 d):=by
 go_enter Tryz.func261,Tryz.ntmps261
 go_wp2
 go_ret;exact⟨rfl,rfl⟩
theorem a5v (st qb:Nat)(w:World)(c1:w.cell? ⟨qb,1,none⟩=some (.int .u8 45)):zE 204 #[zp st,zp qb] w (.pointer none):=by
 have HD:Hid (∀W,W=w->zE 261 #[zp qb] W (.int .u8 45)):=fun W h=>by rw[h];exact a3H qb 45 w c1
 go_enter Tryz.func204,Tryz.ntmps204;go_wp2_with (go_at_call 261;refine(HD.out _ rfl).mono ?_;rintro e w' ⟨rfl,rfl⟩);go_ret;exact⟨rfl,rfl⟩
theorem a5w (st b qb i:Nat)(now:Int)(P:Nat->Value)(w:World)(h:Stb w st b now P)(hi:i<8)(c1:w.cell? ⟨qb,1,none⟩=some (.int .u8 (97+(i:Int)))):zE 204 #[zp st,zp qb] w (P i):=by
 have HD:Hid (∀W,W=w->zE 261 #[zp qb] W (.int .u8 (97+(i:Int)))):=fun W h=>by rw[h];exact a3H qb _ w c1
 have HA:Hid (∀W,W=w->zE 200 #[zp st,.int .u8 (97+(i:Int))] W (P i)):=fun W hW=>by rw[hW];exact a8Q st b i now P w h hi
 have hne:((97+(i:Int)) == 45)=false:=beq_eq_false_iff_ne.2 (by omega);generalize P i=v at*
 clear h;go_enter Tryz.func204,Tryz.ntmps204;go_wp2_with (first|(go_at_call 261;refine(HD.out _ rfl).mono ?_;rintro e w' ⟨rfl,rfl⟩)|(go_at_call 200;refine(HA.out _ rfl).mono ?_;rintro e w' ⟨rfl,rfl⟩));go_ret;exact⟨rfl,rfl⟩
def qsL (Pq:Nat->Option Nat)(k:Nat):List Nat:=(List.range k).filterMap Pq
theorem b2n (Pq:Nat->Option Nat)(k:Nat):qsL Pq (k+1)=qsL Pq k++(Pq k).toList:=by
 unfold qsL;rw[List.range_succ,List.filterMap_append]
 cases h:Pq k<;>simp[h]
theorem a8z (Pq:Nat->Option Nat)(k:Nat):(qsL Pq k).length<=k:=by
 unfold qsL;have:=List.length_filterMap_le Pq (List.range k);simpa using this
theorem b6J (p0 p1 p2 p3 p4 p5 p6 p7:Value)(W:World):(Instr.index 153 (.agg #[p0,p1,p2,p3,p4,p5,p6,p7]) (.int .i64 0)).run Tryz.prog W=.ok p0 W:=by kernel_rfl
theorem b6K (p0 p1 p2 p3 p4 p5 p6 p7:Value)(W:World):(Instr.index 153 (.agg #[p0,p1,p2,p3,p4,p5,p6,p7]) (.int .i64 1)).run Tryz.prog W=.ok p1 W:=by kernel_rfl
theorem b6L (p0 p1 p2 p3 p4 p5 p6 p7:Value)(W:World):(Instr.index 153 (.agg #[p0,p1,p2,p3,p4,p5,p6,p7]) (.int .i64 2)).run Tryz.prog W=.ok p2 W:=by kernel_rfl
theorem b6M (p0 p1 p2 p3 p4 p5 p6 p7:Value)(W:World):(Instr.index 153 (.agg #[p0,p1,p2,p3,p4,p5,p6,p7]) (.int .i64 3)).run Tryz.prog W=.ok p3 W:=by kernel_rfl
theorem b6N (p0 p1 p2 p3 p4 p5 p6 p7:Value)(W:World):(Instr.index 153 (.agg #[p0,p1,p2,p3,p4,p5,p6,p7]) (.int .i64 4)).run Tryz.prog W=.ok p4 W:=by kernel_rfl
theorem b6O (p0 p1 p2 p3 p4 p5 p6 p7:Value)(W:World):(Instr.index 153 (.agg #[p0,p1,p2,p3,p4,p5,p6,p7]) (.int .i64 5)).run Tryz.prog W=.ok p5 W:=by kernel_rfl
theorem b6P (p0 p1 p2 p3 p4 p5 p6 p7:Value)(W:World):(Instr.index 153 (.agg #[p0,p1,p2,p3,p4,p5,p6,p7]) (.int .i64 6)).run Tryz.prog W=.ok p6 W:=by kernel_rfl
theorem b6Q (p0 p1 p2 p3 p4 p5 p6 p7:Value)(W:World):(Instr.index 153 (.agg #[p0,p1,p2,p3,p4,p5,p6,p7]) (.int .i64 7)).run Tryz.prog W=.ok p7 W:=by kernel_rfl
theorem b8G (P:Nat->Value)(k:Nat)(hk:k<8)(W:World):(Instr.index 153 (.agg #[P 0,P 1,P 2,P 3,P 4,P 5,P 6,P 7]) (.int .i64 (k:Int))).run Tryz.prog W=.ok (P k) W:=by
 rcases lt8 hk with rfl|rfl|rfl|rfl|rfl|rfl|rfl|rfl
 ·exact b6J _ _ _ _ _ _ _ _ W
 ·exact b6K _ _ _ _ _ _ _ _ W
 ·exact b6L _ _ _ _ _ _ _ _ W
 ·exact b6M _ _ _ _ _ _ _ _ W
 ·exact b6N _ _ _ _ _ _ _ _ W
 ·exact b6O _ _ _ _ _ _ _ _ W
 ·exact b6P _ _ _ _ _ _ _ _ W
 ·exact b6Q _ _ _ _ _ _ _ _ W
theorem a5i (st b:Nat)(now:Int)(Pq:Nat->Option Nat)(w:World)(h:Stb w st b now (fun i=>jB (Pq i))):
  Cp 93 #[zp st] w fun e w'=>∃v,e=.returned v/\w'.ownsRow w.heap.size 152 1 v (qsL Pq 8).length ((qsL Pq 8).map fun q=>zp q)/\Tch [] w w':=by
 have HC:=fun i hi=>h.cell i hi
 have c1:w.cell? ⟨st,1,none⟩=some (jB (Pq 0)):=HC 0 (by decide);have c2:w.cell? ⟨st,2,none⟩=some (jB (Pq 1)):=HC 1 (by decide);have c3:w.cell? ⟨st,3,none⟩=some (jB (Pq 2)):=HC 2 (by decide);have c4:w.cell? ⟨st,4,none⟩=some (jB (Pq 3)):=HC 3 (by decide);have c5:w.cell? ⟨st,5,none⟩=some (jB (Pq 4)):=HC 4 (by decide);have c6:w.cell? ⟨st,6,none⟩=some (jB (Pq 5)):=HC 5 (by decide);have c7:w.cell? ⟨st,7,none⟩=some (jB (Pq 6)):=HC 6 (by decide);have c8:w.cell? ⟨st,8,none⟩=some (jB (Pq 7)):=HC 7 (by decide);have HIX:Hid (∀k:Nat,k<8->∀W:World,(Instr.index 153 (.agg #[jB (Pq 0),jB (Pq 1),jB (Pq 2),jB (Pq 3),jB (Pq 4),jB (Pq 5),jB (Pq 6),jB (Pq 7)]) (.int .i64 (k:Int))).run Tryz.prog W=.ok (jB (Pq k)) W):=fun k hk W=>b8G (fun i=>jB (Pq i)) k hk W
 clear h HC;go_enter Tryz.func93,Tryz.ntmps93;go_wp2_with fail
 go_loopw [3,10] (fun ov kv wr=>∃(k:Nat) (v:Value),k<=8/\ov=v/\kv=.int .i64 (k:Int)/\wr.ownsRow w.heap.size 152 1 v (qsL Pq k).length ((qsL Pq k).map fun q=>zp q)/\Tch [] w wr) (fun _ kv _=>8-(intOf kv).toNat)
 case atStart=>exact⟨0,_,by decide,rfl,rfl,World.ownsRow_nil _ _ _ _,Tch.refl _ _⟩
 case round=>
  obtain⟨k,v,hk,rfl,rfl,ho,ht⟩:=hrel;have HO:=zH ho;have HT:=zH ht;have zr:=ht.size;have hln:=a8z Pq k;clear ho ht
  by_cases hlt:k<8
  ·have hix:=HIX.out k hlt;have HS:Hid (qsL Pq (k+1)=qsL Pq k++(Pq k).toList):=b2n Pq k
   cases hp:Pq k with
   | none=>
    have HR:Hid (qsL Pq (k+1)=qsL Pq k):=by show _=_;rw[HS.out,hp];simp
    rw[hp]at hix;have hix':∀W:World,(Instr.index 153 (.agg #[jB (Pq 0),jB (Pq 1),jB (Pq 2),jB (Pq 3),jB (Pq 4),jB (Pq 5),jB (Pq 6),jB (Pq 7)]) (.int .i64 (k:Int))).run Tryz.prog W=.ok (.pointer none) W:=hix;clear hix hp HS;go_wp2_with fail;go_roundw
    case rel=>exact⟨k+1,_,by omega,rfl,by go_num,by rw[HR.out];exact HO.out,HT.out⟩
    case measure=>simp[intOf];omega
   | some q=>
    have HR:Hid (qsL Pq (k+1)=qsL Pq k++[q]):=by show _=_;rw[HS.out,hp];rfl
    rw[hp]at hix;have hix':∀W:World,(Instr.index 153 (.agg #[jB (Pq 0),jB (Pq 1),jB (Pq 2),jB (Pq 3),jB (Pq 4),jB (Pq 5),jB (Pq 6),jB (Pq 7)]) (.int .i64 (k:Int))).run Tryz.prog W=.ok (zp q) W:=hix;clear hix hp HS;obtain⟨oa,oc,hoe⟩:=vf HO.out;subst hoe;go_wp2_with (at_builtin;refine zI w.heap.size _ rfl _ _ 159 152 rfl Tryz.underlying159 (.pointer none) 1 8 b3Z rfl (by decide) (by decide) (.slice oa (qsL Pq k).length oc) (qsL Pq k).length ((qsL Pq k).map fun q=>zp q) ?hvs ?hvo ?hvb wr.heap.size [zp q] 1 ?hvx rfl (by decide) ?hvg ?hv1 (by omega) ?hvk)
    case hvs=>simp[Act.eval,Act.put]
    case hvo=>exact jf HO.out ((Tch.refl [] _).alloc _) (fun _ _=>by simp)
    case hvb=>rw[World.size_alloc];omega
    case hvx=>simp[Act.eval,Act.put]
    case hvg=>exact heap_alloc_new _ _
    case hv1=>intro u hu;simp at hu;subst hu;rfl
    intro v2 w2 ho2 hg2 hb2;have HO2:Hid (w2.ownsRow w.heap.size 152 1 v2 (qsL Pq (k+1)).length ((qsL Pq (k+1)).map fun q=>zp q)/\Tch [] w w2):=by
     refine⟨by rw[HR.out];simpa using ho2,(HT.out.alloc _).grown hg2 (fun j hj hlt=>?_)⟩;have:=a4U HO.out j hj;omega
    clear ho2 hg2 hb2;go_wp2_with fail;go_roundw
    case rel=>exact⟨k+1,v2,by omega,rfl,by go_num,HO2.out.1,HO2.out.2⟩
    case measure=>simp[intOf];omega
  ·have hke:k=8:=by omega
   subst hke;go_wp2_with fail;go_ret;exact⟨_,rfl,HO.out,HT.out⟩
theorem a3E (base:Nat)(v:Value)(l:List UInt8)(a:Option Addr)(cap:Nat)(bs:List ByteArray)(w:World)(hbs:∀s∈bs,s.size<=65535)(hn:bs.length<=65535)(hl:l.length<=1200000000)(hb:base<=w.heap.size)(hown:OwnB w base v l)
  (hS:∀j (h:j<bs.length),∃b o,a=some ⟨b,o,none⟩/\b<base/\w.cell? ⟨b,o+j,none⟩=some (.string bs[j])):
  Cp 116 #[v,.slice a bs.length cap] w fun e w'=>∃v',e=.returned v'/\OwnB w' base v' (l++(je bs.length 1++jK bs))/\BF base w w':=by
 have hnum:Hid (Cp 91 #[v,.int .i64 (bs.length:Int),.int .i64 1] w fun e w'=>∃v',e=.returned v'/\OwnB w' base v' (l++je bs.length 1)/\Below base w w'/\Fr 0 [5] w w'):=
  jR base v l bs.length 1 w (by omega) (by decide) (by omega) hb hown
 have HS:=zH hS;have HBS:=zH hbs;clear hS hown hbs;go_enter Tryz.func116,Tryz.ntmps116;go_wp2_with fail;refine(hnum.out).mono ?_;rintro e w1 ⟨v1,rfl,ho1,hb1,hf1⟩;have hle:Hid ((l++je bs.length 1).length<=1200000100):=by show _<=_;rw[List.length_append,jc];omega
 have hls:Hid (l++(je bs.length 1++jK bs)=(l++je bs.length 1)++jK bs):=by
  show _=_
  rw[List.append_assoc]
 generalize l++je bs.length 1=L at ho1 hle hls;have HO:=zH ho1;have HB:Hid (BF base w w1):=⟨hb1,hf1⟩;clear ho1 hb1 hf1;go_wp2_with fail
 go_loopw [0,13] (fun o i wr=>∃k:Nat,k<=bs.length/\i=.int .i64 k/\OwnB wr base o (L++jK (bs.take k))/\BF base w wr) (fun _ i _=>bs.length-(intOf i).toNat)
 case atStart=>exact⟨0,Nat.zero_le _,rfl,by simpa [jK]using HO.out,HB.out⟩
 case round=>
  obtain⟨k,hk,rfl,ho,hbr⟩:=hrel
  by_cases hlt:k<bs.length
  ·obtain⟨lb,lo,rfl,hlb,hck⟩:=HS.out k hlt;have hck':=(hbr.1.cell (p:=⟨lb,lo+k,none⟩) hlb).trans hck;have hsz:=hbr.size;have hlk:(L++jK (bs.take k)).length<=1099511627776:=by
    rw[List.length_append];have h1:=a5l (bs.take k) (fun s hs=>HBS.out s (List.mem_of_mem_take hs));have h2:=hle.out;rw[List.length_take]at h1;omega
   have htk:Hid (L++jK (bs.take (k+1))=(L++jK (bs.take k))++jx bs[k]):=by
    show _=_
    rw[List.take_succ_eq_append_getElem hlt,jK,List.flatMap_append,List.flatMap_singleton,<-List.append_assoc];rfl
   have hx:=HBS.out bs[k] (List.getElem_mem hlt);generalize bs[k]=x at hck' htk hx hck;have ht:Hid (Cp 114 #[u0,.string x] wr fun e w'=>∃v',e=.returned v'/\OwnB w' base v' ((L++jK (bs.take k))++jx x)/\Below base wr w'/\Fr 0 [5] wr w'):=
    qy base u0 _ x wr hx hlk (by omega) ho
   rw[<-htk.out]at ht;have HBR:=zH hbr;clear ho hbr hck hlk htk;go_wp2_with fail;refine(ht.out).mono ?_;rintro e w2 ⟨v2,rfl,ho2,hb2,hf2⟩;have HO2:=zH ho2;have HB2:=zH (HBR.out.trans ⟨hb2,hf2⟩);clear ho2 hb2 hf2;go_wp2_with fail;go_roundw
   case rel=>exact⟨k+1,by omega,by go_num,HO2.out,HB2.out⟩
   case measure=>simp[intOf];omega
  ·have he:bs.take k=bs:=List.take_of_length_le (by omega);rw[he]at ho;rw[<-hls.out]at ho;have HO2:=zH ho;have HBR:=zH hbr;clear he ho hbr;go_wp2_with fail;go_ret;exact⟨_,rfl,HO2.out,HBR.out⟩
structure QOk (Q:QM):Prop where
 c:CoK Q.c
 nx:Q.next<4294967296
 ml:Q.ms.length<=50
 ms:∀m∈Q.ms,MsW m
 rl:Q.rs.length<=50
 rs:∀s∈Q.rs,s.size<=8
 dl:Q.ds.length<=200
 ds:∀m∈Q.ds,DdW m
 al:Q.ats.length<=20
 ats:∀m∈Q.ats,AtW m
def msL (Q:QM):List UInt8:=je Q.ms.length 1++Q.ms.flatMap msB
def rsL (Q:QM):List UInt8:=je Q.rs.length 1++jK Q.rs
def dsL (Q:QM):List UInt8:=je Q.ds.length 1++Q.ds.flatMap ddB
def atL (Q:QM):List UInt8:=je Q.ats.length 1++Q.ats.flatMap atB
def xD (Q:QM):List UInt8:=((((xO Q.c++je Q.next 4)++msL Q)++rsL Q)++dsL Q)++atL Q
theorem QOk.lens {Q:QM}(h:QOk Q):(msL Q).length<=3001/\(rsL Q).length<=451/\(dsL Q).length<=3401/\(atL Q).length<=12301:=by
 have h1:=vb msB 60 Q.ms (fun m hm=>by have h2:=h.ms m hm;rw[a4P];have:=h2.grp;have:=h2.bod;omega);have h2:=vb jx 9 Q.rs (fun s hs=>by have:=h.rs s hs;rw[jp];omega);have h3:=vb ddB 17 Q.ds (fun m hm=>by have h2:=h.ds m hm;rw[a7X];have:=h2.id;omega);have h4:=vb atB 615 Q.ats (fun m hm=>by have h2:=h.ats m hm;rw[a7P];have:=h2.id;have:=h2.ans;omega);have:=h.ml;have:=h.rl;have:=h.dl;have:=h.al;refine⟨?_,?_,?_,?_⟩<;>(simp only[msL,rsL,dsL,atL,jK,List.length_append,jc];omega)
theorem QR.rsc {Q:QM}(h:QR w qb V Q)(base:Nat)(hlo:∀b∈qbl qb V,b<base):∃a c,V.r=.slice a Q.rs.length c/\∀j (hj:j<Q.rs.length),∃b o,a=some ⟨b,o,none⟩/\b<base/\w.cell? ⟨b,o+j,none⟩=some (.string Q.rs[j]):=by
 have hh:=h.r;rcases hh.2 with ⟨h0,h1⟩|⟨g,cap,cur,h0,hb,hg,h5,h6,h7,h8⟩
 ·exact⟨none,0,by rw[h0,h1],fun j hj=>by omega⟩
 ·refine⟨_,_,h0,fun j hj=>⟨g,0,rfl,hlo g (ji.2 (.inr (.inr (.inl (by rw[h0];rfl))))),?_⟩⟩
  have inh:Inhabited ByteArray:=⟨⟨#[]⟩⟩;have hm:w.ownsRow 0 9 1 (.slice (some ⟨g,0,none⟩) Q.rs.length cap) Q.rs.length (Q.rs.flatMap fun s=>[Value.string s]):=by
   rw[<-h0];have e:(Q.rs.flatMap fun s=>[Value.string s])=Q.rs.map Value.string:=by induction Q.rs<;>simp_all
   rw[e];exact hh
  have h1:=jF (fun s:ByteArray=>[Value.string s]) 1 (fun _=>rfl) hm j hj 0 (.string Q.rs[j]) (by rw[List.getElem!_eq_getElem?_getD,List.getElem?_eq_getElem hj];rfl);simpa using h1
theorem a2A (base:Nat)(v:Value)(l:List UInt8)(Q:QM)(V:QV)(qb:Nat)(w:World)(h:QR w qb V Q)(hlo:∀b∈qbl qb V,b<base)(hQ:QOk Q)(hl:l.length<=900000000)(hb:base<=w.heap.size)(hown:OwnB w base v l):
  Cp 124 #[zp qb,v] w fun e w'=>∃v',e=.returned v'/\OwnB w' base v' (l++xD Q)/\BF base w w':=by
 have HQ:Hid (∀W,BF base w W->QR W qb V Q):=fun W hW=>h.below hlo hW.1
 have HLO:=zH hlo;have lqb:=hlo qb (by simp[qbl]);have HL:=zH hQ.lens;have hsl:=vo Q.c;have HK:Hid (QOk Q):=hQ;have H1:Hid (Cp 153 #[zp qb,v] w fun e w'=>∃v',e=.returned v'/\OwnB w' base v' (l++xO Q.c)/\BF base w w'):=a6w base v l Q V qb w h hlo hQ.c (by omega) hb hown;clear h hown hQ hlo;go_enter Tryz.func124,Tryz.ntmps124;go_wp2_with fail;refine H1.out.mono ?_;rintro e w1 ⟨v1,rfl,ho1,hb1⟩;have q1:=HQ.out w1 hb1;have z1:=hb1.size;have d6:w1.cell? ⟨qb,6,none⟩=some (.int .i64 (Q.next:Int)):=jb q1.blk 6 _ rfl;have hl1:(l++xO Q.c).length<=900000007:=by rw[List.length_append];omega
 obtain⟨A1,HA1⟩:∃A,Hid (A=l++xO Q.c):=⟨_,rfl⟩;rw[<-HA1.out]at ho1 hl1;have H2:Hid (Cp 91 #[v1,.int .i64 (Q.next:Int),.int .i64 4] w1 fun e w'=>∃v',e=.returned v'/\OwnB w' base v' (A1++je Q.next 4)/\Below base w1 w'/\Fr 0 [5] w1 w'):=jR base v1 A1 Q.next 4 w1 HK.out.nx (by decide) (by omega) (by omega) ho1;have HB1:Hid (BF base w w1):=hb1;have lq1:qb<w1.heap.size:=by omega
 clear ho1 hb1 q1 H1;go_wp2_with fail;refine H2.out.mono ?_;rintro e w2 ⟨v2,rfl,ho2,hb2,hf2⟩;have HB2:Hid (BF base w w2):=HB1.out.trans ⟨hb2,hf2⟩;have z2:=hb2.size;have hl2:(A1++je Q.next 4).length<=900000011:=by rw[List.length_append,jc];omega
 obtain⟨A2,HA2⟩:∃A,Hid (A=A1++je Q.next 4):=⟨_,rfl⟩;rw[<-HA2.out]at ho2 hl2;have H3:Hid (Cp 154 #[zp qb,v2] w2 fun e w'=>∃v',e=.returned v'/\OwnB w' base v' (A2++msL Q)/\BF base w2 w'):=a8P base v2 A2 Q V qb w2 (HQ.out w2 HB2.out) HLO.out (by have:=HK.out.ml;omega) HK.out.ms (by omega) (by omega) ho2;clear ho2 hb2 hf2 H2 d6;go_wp2_with fail;refine H3.out.mono ?_;rintro e w3 ⟨v3,rfl,ho3,hb3⟩;have HB3:Hid (BF base w w3):=HB2.out.trans hb3;have z3:=hb3.size;have hl3:(A2++msL Q).length<=901000000:=by rw[List.length_append];have:=HL.out.1;omega
 obtain⟨A3,HA3⟩:∃A,Hid (A=A2++msL Q):=⟨_,rfl⟩;rw[<-HA3.out]at ho3 hl3;have q3:=HQ.out w3 HB3.out;obtain⟨ar,cr,hvr,hcr⟩:=q3.rsc base HLO.out;have d8:w3.cell? ⟨qb,8,none⟩=some (.slice ar Q.rs.length cr):=by rw[<-hvr];exact jb q3.blk 8 _ rfl
 have H4:Hid (Cp 116 #[v3,.slice ar Q.rs.length cr] w3 fun e w'=>∃v',e=.returned v'/\OwnB w' base v' (A3++rsL Q)/\BF base w3 w'):=a3E base v3 A3 ar cr Q.rs w3 (fun s hs=>by have:=HK.out.rs s hs;omega) (by have:=HK.out.rl;omega) (by omega) (by omega) ho3 hcr;clear ho3 hb3 q3 hcr hvr H3;go_wp2_with fail;refine H4.out.mono ?_;rintro e w4 ⟨v4,rfl,ho4,hb4⟩;have HB4:Hid (BF base w w4):=HB3.out.trans hb4;have z4:=hb4.size;have hl4:(A3++rsL Q).length<=908000000:=by rw[List.length_append];have:=HL.out.2.1;omega
 obtain⟨A4,HA4⟩:∃A,Hid (A=A3++rsL Q):=⟨_,rfl⟩;rw[<-HA4.out]at ho4 hl4;have H5:Hid (Cp 155 #[zp qb,v4] w4 fun e w'=>∃v',e=.returned v'/\OwnB w' base v' (A4++dsL Q)/\BF base w4 w'):=a8O base v4 A4 Q V qb w4 (HQ.out w4 HB4.out) HLO.out (by have:=HK.out.dl;omega) HK.out.ds (by omega) (by omega) ho4;clear ho4 hb4 H4 d8;go_wp2_with fail;refine H5.out.mono ?_;rintro e w5 ⟨v5,rfl,ho5,hb5⟩;have HB5:Hid (BF base w w5):=HB4.out.trans hb5;have z5:=hb5.size;have hl5:(A4++dsL Q).length<=909000000:=by rw[List.length_append];have:=HL.out.2.2.1;omega
 obtain⟨A5,HA5⟩:∃A,Hid (A=A4++dsL Q):=⟨_,rfl⟩;rw[<-HA5.out]at ho5 hl5;have H6:=zH (a8N base v5 A5 Q V qb w5 (HQ.out w5 HB5.out) HLO.out (by have:=HK.out.al;omega) HK.out.ats (by omega) (by omega) ho5);clear ho5 hb5 H5;go_wp2_with fail;refine H6.out.mono ?_;rintro e w6 ⟨v6,rfl,ho6,hb6⟩;have HF:Hid (OwnB w6 base v6 (l++xD Q)/\BF base w w6):=by
  refine⟨?_,HB5.out.trans hb6⟩;have e:l++xD Q=A5++atL Q:=by rw[HA5.out,HA4.out,HA3.out,HA2.out,HA1.out];simp only[xD,List.append_assoc]
  rw[e];exact ho6
 clear ho6 hb6 H6;go_wp2_with fail;go_ret;exact⟨_,rfl,HF.out.1,HF.out.2⟩
theorem b2X (Q:QM)(V:QV)(qb:Nat)(now:Int)(r:Wp.Rq)(x:Sl)(w:World)(h:QR w qb V Q)(hQ:QOk Q):
  Cp 166 #[zp qb,.int .i64 now,.agg (ja r x.v)] w fun e w'=>∃v,e=.returned (.tuple #[v,.nilFunc,.int .i64 0])/\OwnB w' w.heap.size v (xD Q)/\Tch [] w w':=by
 have cells:ja r x.v=(zR r x):=rfl;have H1:Hid (∀W,BF w.heap.size w W->Cp 124 #[zp qb,.slice none 0 0] W fun e w'=>∃v',e=.returned v'/\OwnB w' w.heap.size v' ([]++xD Q)/\BF w.heap.size W w'):=fun W hb=>a2A w.heap.size _ [] Q V qb W (h.below h.lt hb.1) h.lt hQ (by simp) hb.size (World.ownsRow_nil _ _ _ _)
 rw[cells];clear cells h;go_enter Tryz.func166,Tryz.ntmps166;have HB0:Hid (∀o,BF w.heap.size w (w.alloc o)):=fun o=>(BF.refl _ _).alloc (Nat.le_refl _) o
 go_wp2_with (go_at_call 124;refine(H1.out _ (HB0.out _)).mono ?_;rintro e w1 ⟨v1,rfl,ho1,hb1⟩);go_ret3;exact⟨_,rfl,ho1,(Tch.of_below ((HB0.out _).trans hb1).1)⟩
theorem a6x (base:Nat)(v:Value)(l:List UInt8)(Q:QM)(V:QV)(qb:Nat)(w:World)(h:QR w qb V Q)(hlo:∀b∈qbl qb V,b<base)(hQ:QOk Q)(hl:l.length<=800000000)(hb:base<=w.heap.size)(hown:OwnB w base v l):
  Cp 94 #[zp qb,v] w fun e w'=>∃v',e=.returned v'/\OwnB w' base v' (l++(Q.c.q::xD Q))/\BF base w w':=by
 obtain⟨i0,hi,hz0,hz1,hz2⟩:=info_parts zh;have HQ:Hid (∀W,BF base w W->QR W qb V Q):=fun W hW=>h.below hlo hW.1
 have HLO:=zH hlo;have lqb:=hlo qb (by simp[qbl]);have HK:=zH hQ;have c0:w.cell? ⟨qb,0,none⟩=some (.int .u8 (Q.c.q.toNat:Int)):=jb h.blk 0 _ rfl;have HO:=zH hown;clear h hown hQ hlo;go_enter Tryz.func94,Tryz.ntmps94;go_wp2_with (at_builtin;refine wpList_append_own _ rfl _ _ 74 rfl base 5 i0 (.int .u8 0) 1 1 Tryz.underlying74 hi hz0 hz1 hz2 rfl (by decide) _ _ _ rfl (World.ownsRow.alloc HO.out _) ⟨w.heap.size,0,none⟩ 1 1 [.int .u8 (Q.c.q.toNat:Int)] rfl rfl ?c1 ?c2 ?c3 ?c4 ?c5 ?_)
 case c1=>exact cell_one_new _ _ _
 case c2=>intro u hu;simp at hu;subst hu;rfl
 case c3=>unfold maxLen;omega
 case c4=>omega
 case c5=>simp;omega
 intro v4 w4 hown' hgrow _;have ho4:OwnB w4 base v4 (l++[Q.c.q]):=OwnB.snoc rfl hown';have hb4:BF base w w4:=by
  exact BF.grown ((BF.refl _ _).alloc (by omega) _) (World.ownsRow.alloc HO.out _) hgrow (by simp;omega)
 have z4:=hb4.size;have H4:Hid (Cp 124 #[zp qb,v4] w4 fun e w'=>∃v',e=.returned v'/\OwnB w' base v' ((l++[Q.c.q])++xD Q)/\BF base w4 w'):=a2A base v4 _ Q V qb w4 (HQ.out w4 hb4) HLO.out HK.out (by rw[List.length_append];simp;omega) (by omega) ho4;have HB4:=zH hb4;clear hown' hgrow ho4 hb4 c0;go_wp2_with fail;refine H4.out.mono ?_;rintro e w5 ⟨v5,rfl,ho5,hb5⟩;have H5:Hid (OwnB w5 base v5 (l++(Q.c.q::xD Q))/\BF base w w5):=⟨by rw[List.append_assoc]at ho5;exact ho5,HB4.out.trans hb5⟩;clear ho5 hb5 H4;go_wp2_with fail;go_ret;exact⟨_,rfl,H5.out.1,H5.out.2⟩
def putL (T:QM)(l:List Ms):QM:=l.foldl (fun T m=>xx T m.grp m.bod) T
theorem a4b (T:QM)(l:List Ms)(m:Ms):putL T (l++[m])=xx (putL T l) m.grp m.bod:=by simp[putL,List.foldl_append]
theorem a4a (T:QM)(l:List Ms):(putL T l).next=T.next+l.length:=by
 unfold putL
 induction l generalizing T with
 | nil=>rfl
 | cons m l ih=>rw[List.foldl_cons,ih,List.length_cons];show T.next+1+l.length=_;omega
theorem a3j (T:QM)(l:List Ms):(putL T l).ms.length=T.ms.length+l.length:=by
 unfold putL
 induction l generalizing T with
 | nil=>rfl
 | cons m l ih=>
  rw[List.foldl_cons,ih,List.length_cons]
  show (T.ms++_).length+l.length=_
  rw[List.length_append,List.length_singleton];omega
theorem b4v (T:QM)(l:List Ms):(putL T l).rs.length<=T.rs.length+l.length:=by
 unfold putL
 induction l generalizing T with
 | nil=>exact Nat.le_refl _
 | cons m l ih=>
  rw[List.foldl_cons,List.length_cons];have h1:=ih (xx T m.grp m.bod);have h2:(xx T m.grp m.bod).rs.length<=T.rs.length+1:=by
   show (if _ then T.rs++[m.grp] else T.rs).length<=_
   rw[a5g]
   split<;>omega
  omega
theorem b7o (T:QM)(l:List Ms):(putL T l).c=T.c:=by
 unfold putL
 induction l generalizing T with
 | nil=>rfl
 | cons m l ih=>rw[List.foldl_cons,ih];rfl
theorem zc (g:ByteArray)(l:List Ms)(j:Nat)(hj:j<l.length):(l.take (j+1)).filter (isG g)=(l.take j).filter (isG g)++if isG g l[j]=true then [l[j]] else []:=by
 rw[List.take_succ_eq_append_getElem hj,List.filter_append];congr 1
 by_cases h:isG g l[j]=true
 ·simp[h]
 ·simp[h]
def b5q (qb:Nat)(V:QV)(qt:Nat)(VT:QV):Prop:=∀k∈qbl qb V,k∉qbl qt VT
theorem b1P (Q T:QM)(V VT:QV)(qb qt:Nat)(gr:ByteArray)(w:World)(h:QR w qb V Q)(hT:QR w qt VT T)(hap:b5q qb V qt VT)(hl:Q.ms.length<=1000)(hm:T.ms.length+jZ gr Q.ms<=1000)(hr:T.rs.length+jZ gr Q.ms<=1000)(hn:T.next+jZ gr Q.ms<=201):
  Cp 260 #[zp qb,.string gr,zp qt] w fun e w'=>e=.returned (.tuple #[])/\∃V' VT',QR w' qb V' {Q with ms:=Q.ms.filter (fun x=>!isG gr x)}/\QR w' qt VT' (putL T (Q.ms.filter (isG gr)))/\Tch (qbl qb V++qbl qt VT) w w'/\(∀k∈qbl qb V',k∈qbl qb V)/\(∀k∈qbl qt VT',k∈qbl qt VT\/w.heap.size<=k):=by
 obtain⟨am,cm,hvm⟩:=jl h.m;obtain⟨wb,hwb⟩:∃wb,wb=w.alloc (.cells #[.string gr] 9):=⟨_,rfl⟩;have tb:Tch [] w wb:=by rw[hwb];exact(Tch.refl _ _).alloc _
 have HBX:Hid (wb.heap[w.heap.size]?=some (.cells #[.string gr] 9 (0,0))):=by rw[hwb];exact heap_alloc_new _ _
 have c7:w.cell? ⟨qb,7,none⟩=some (.slice am Q.ms.length cm):=by rw[<-hvm];exact jb h.blk 7 _ rfl
 have lq:=h.blk.lt;have zb:wb.heap.size=w.heap.size+1:=by rw[hwb];simp
 have HQ:=zH h;have HT:=zH hT;have HV:=zH hvm;have HAP:=zH hap;have TB:=zH tb;have HLT:=zH h.lt;have HTT:=zH hT.lt;clear h hT hvm tb hap;go_enter Tryz.func260,Tryz.ntmps260;go_wp2_with fail;rw[<-hwb];clear hwb
 go_loopw [13] (fun jv wr=>∃(j:Nat) (VT':QV),j<=Q.ms.length/\jv=.int .i64 (j:Int)/\QS wb wr qt VT VT' (putL T ((Q.ms.take j).filter (isG gr)))/\wr.heap[w.heap.size]?=some (.cells #[.string gr] 9 (0,0))/\QR wr qb V Q) (fun jv _=>Q.ms.length-(intOf jv).toNat)
 case atStart=>exact⟨0,VT,Nat.zero_le _,rfl,(HT.out.tch TB.out (by simp)).qs (Tch.refl _ _),HBX.out,HQ.out.tch TB.out (by simp)⟩
 case round=>
  obtain⟨j,VT',hj,rfl,hqs,hbx,hqr⟩:=hrel;have HQS:=zH hqs;have HBR:Hid (wr.heap[w.heap.size]?=some (.cells #[.string gr] 9 (0,0))):=hbx;have HQR:Hid (QR wr qb V Q):=hqr
  by_cases hlt:j<Q.ms.length
  ·obtain⟨g,c,hv,hg,hc⟩:=hqr.msc j hlt;rw[HV.out]at hv;simp only[Value.slice.injEq,true_and]at hv;obtain⟨rfl,rfl⟩:=hv;have g0:wr.cell? ⟨g,j*5,none⟩=some (.int .i64 Q.ms[j].num):=hc 0 _ rfl;have g1:wr.cell? ⟨g,j*5+1,none⟩=some (.string Q.ms[j].grp):=hc 1 _ rfl;have g2:wr.cell? ⟨g,j*5+2,none⟩=some (.string Q.ms[j].bod):=hc 2 _ rfl;have g3:wr.cell? ⟨g,j*5+3,none⟩=some (.int .i64 Q.ms[j].rcv):=hc 3 _ rfl;have g4:wr.cell? ⟨g,j*5+4,none⟩=some (.int .i64 Q.ms[j].til):=hc 4 _ rfl;have b0:wr.cell? ⟨w.heap.size,0,none⟩=some (.string gr):=cell_of_one hbx;have lb:=lt_of_block hbx;have HC:Hid ((Q.ms.take (j+1)).filter (isG gr)=(Q.ms.take j).filter (isG gr)++if isG gr Q.ms[j]=true then [Q.ms[j]] else []):=zc gr Q.ms j hlt;have hcs:=a1t gr Q.ms j hlt;have hcle:jZ gr (Q.ms.take (j+1))<=jZ gr Q.ms:=by
    unfold jZ;exact(List.Sublist.filter _ (List.take_sublist _ _)).length_le
   have ecn:((Q.ms.take j).filter (isG gr)).length=jZ gr (Q.ms.take j):=rfl;clear hc
   by_cases he:(Q.ms[j].grp.toList == gr.toList)=true
   ·have HE:Hid (isG gr Q.ms[j]=true):=he;rw[if_pos he]at hcs;have hx1:=a4a T ((Q.ms.take j).filter (isG gr));have hx2:=a3j T ((Q.ms.take j).filter (isG gr));have hx3:=b4v T ((Q.ms.take j).filter (isG gr));rw[ecn]at hx1 hx2 hx3;have HPT:Hid (∀W,Tch [] wr W->Cp 219 #[zp qt,.string Q.ms[j].grp,.string Q.ms[j].bod] W fun e w'=>e=.returned (.tuple #[])/\(∃VT2,QS wb w' qt VT VT2 (putL T ((Q.ms.take (j+1)).filter (isG gr))))/\w'.heap[w.heap.size]?=some (.cells #[.string gr] 9 (0,0))/\QR w' qb V Q):=fun W hW=>by
     refine(b9i _ VT' qt Q.ms[j].grp Q.ms[j].bod W (HQS.out.qr.tch hW (by simp)) (by rw[hx2];omega) (by omega) (by rw[hx1];omega)).mono ?_;rintro e w' ⟨he2,VT2,hq2,ht2,hn2⟩;refine⟨he2,⟨VT2,?_⟩,?_,?_⟩
     ·rw[HC.out,if_pos HE.out,a4b];exact(HQS.out.trans (HQS.out.qr.qs hW)).trans ⟨hq2,ht2,hn2⟩
     ·have h1:=(hW.block _ (lt_of_block HBR.out) (by simp)).trans HBR.out;refine(ht2.block _ (lt_of_block h1) (fun hm=>?_)).trans h1;rcases HQS.out.new _ hm with h2|h2
      ·have:=HTT.out _ h2;omega
      ·omega
     ·refine(HQR.out.tch hW (by simp)).tch ht2 (fun k hk hm=>?_);rcases HQS.out.new _ hm with h2|h2
      ·exact HAP.out k hk h2
      ·have:=HLT.out k hk;omega
    clear hcs hcle ecn hx1 hx2 hx3 hqs hbx hqr;go_wp2_with fail;refine(HPT.out _ ((Tch.refl [] _).alloc _)).mono ?_;rintro e w2 ⟨rfl,⟨VT2,hqs2⟩,hbx2,hqr2⟩;have HR2:Hid (QS wb w2 qt VT VT2 (putL T ((Q.ms.take (j+1)).filter (isG gr)))/\w2.heap[w.heap.size]?=some (.cells #[.string gr] 9 (0,0))/\QR w2 qb V Q):=⟨hqs2,hbx2,hqr2⟩;clear hqs2 hbx2 hqr2 HPT g0 g1 g2 g3 g4 b0;go_wp2_with fail;go_roundw
    case rel=>exact⟨j+1,VT2,by omega,by go_num,HR2.out.1,HR2.out.2.1,HR2.out.2.2⟩
    case measure=>simp[intOf];omega
   ·have he':(Q.ms[j].grp.toList == gr.toList)=false:=by simpa using he
    have HE:Hid (isG gr Q.ms[j]=false):=he';have HR2:Hid (∀o:Obj,QS wb (wr.alloc o) qt VT VT' (putL T ((Q.ms.take (j+1)).filter (isG gr)))/\(wr.alloc o).heap[w.heap.size]?=some (.cells #[.string gr] 9 (0,0))/\QR (wr.alloc o) qb V Q):=fun o=>by
     have t:Tch [] wr (wr.alloc o):=(Tch.refl _ _).alloc _;refine⟨?_,(t.block _ (lt_of_block HBR.out) (by simp)).trans HBR.out,HQR.out.tch t (by simp)⟩;rw[HC.out,HE.out,if_neg (by decide),List.append_nil];exact HQS.out.trans (HQS.out.qr.qs t)
    clear he hcs hcle ecn hqs hbx hqr;go_wp2_with fail;go_roundw
    case rel=>exact⟨j+1,VT',by omega,by go_num,(HR2.out _).1,(HR2.out _).2.1,(HR2.out _).2.2⟩
    case measure=>simp[intOf];omega
  ·have hje:j=Q.ms.length:=by omega
   subst hje;have HDL:Hid (Cp 291 #[.slice am Q.ms.length cm,.func (.func 292) #[] #[zp w.heap.size]] wr fun e w'=>∃v',e=.returned v'/\v'.ownBlock=(Value.slice am Q.ms.length cm).ownBlock/\w'.ownsRow 0 226 5 v' (Q.ms.filter (fun x=>!isG gr x)).length ((Q.ms.filter (fun x=>!isG gr x)).flatMap Ms.row)/\Tch (bl (.slice am Q.ms.length cm)) wr w'):=by
    have h9:=hqr.m;rw[HV.out]at h9;exact b0J (.slice am Q.ms.length cm) Q.ms gr w.heap.size wr h9 (by omega) hbx
   have k7:wr.cell? ⟨qb,7,none⟩=some (.slice am Q.ms.length cm):=by rw[<-HV.out];exact jb hqr.blk 7 _ rfl
   clear hqs hbx hqr c7;go_wp2_with fail;refine HDL.out.mono ?_;rintro e w2 ⟨v2,rfl,hvb,ho2,ht2⟩;obtain⟨k72,z72,hqs2⟩:=HQR.out.newM (v':=v2) (ms':=Q.ms.filter (fun x=>!isG gr x)) (by rw[HV.out];exact ht2) ho2 (fun k hk=>.inl (by rw[HV.out,<-hvb];exact hk));have HFN:Hid (∃V' VT',QR (w2.setCell ⟨qb,7,none⟩ v2) qb V' {Q with ms:=Q.ms.filter (fun x=>!isG gr x)}/\QR (w2.setCell ⟨qb,7,none⟩ v2) qt VT' (putL T (Q.ms.filter (isG gr)))/\Tch (qbl qb V++qbl qt VT) w (w2.setCell ⟨qb,7,none⟩ v2)/\(∀k∈qbl qb V',k∈qbl qb V)/\(∀k∈qbl qt VT',k∈qbl qt VT\/w.heap.size<=k)):=by
    have hQS:=HQS.out;rw[List.take_length]at hQS;refine⟨_,VT',hqs2.qr,hQS.qr.tch hqs2.tch (fun k hk hm=>?_),((TB.out.sub (by simp)).trans (hQS.tch.sub (fun x hx _=>List.mem_append.2 (.inr hx))) (fun x hx _=>hx)).trans hqs2.tch (fun x hx _=>List.mem_append.2 (.inl hx)),fun k hk=>?_,fun k hk=>?_⟩
    ·rcases hQS.new k hk with h2|h2
     ·exact HAP.out k hm h2
     ·have:=HLT.out k hm;omega
    ·rcases ji.1 hk with e|e|e|e|e
     ·exact ji.2 (.inl e)
     ·exact ji.2 (.inr (.inl (by rw[HV.out,<-hvb];exact e)))
     ·exact ji.2 (.inr (.inr (.inl e)))
     ·exact ji.2 (.inr (.inr (.inr (.inl e))))
     ·exact ji.2 (.inr (.inr (.inr (.inr e))))
    ·rcases hQS.new k hk with h2|h2
     ·exact .inl h2
     ·exact .inr (by omega)
   rw[HV.out]at k72;obtain⟨a2,c2,hv2⟩:=jl ho2;subst hv2;clear hqs2 ho2 ht2 hvb HDL k7;go_wp2_with fail;go_end0;exact⟨rfl,HFN.out⟩
def jW (Q:QM)(g:ByteArray):QM:={Q with rs:=Q.rs++[g]}
theorem QR.rdy {Q:QM}(h:QR w qb V Q)(gr:ByteArray)(v':Value)(w9:World)(ho:w9.ownsRow 0 9 1 v' (Q.rs.length+1) (Q.rs.map Value.string++[.string gr]))(hg:(w.drew.alloc (.cells #[.string gr] 9)).grownBy w9 V.r.ownBlock)(hb:v'.ownBlock=V.r.ownBlock\/v'.ownBlock=some (w.drew.alloc (.cells #[.string gr] 9)).heap.size):
  ∃g4 cap4,v'=.slice (some ⟨g4,0,none⟩) (Q.rs.length+1) cap4/\w9.cell? ⟨qb,8,none⟩=some V.r/\w9.frozen? ⟨qb,8,none⟩=false/\QL w (w9.setCell ⟨qb,8,none⟩ v') qb V (jW Q gr):=by
 obtain⟨g4,cap4,hv⟩:=qB ho;have t1:Tch [] w (w.drew.alloc (.cells #[.string gr] 9)):=(Tch.refl _ _).drew.alloc _;obtain⟨k8,z8,hqs⟩:=h.newR (w2:=w9) (v':=v') (rs':=Q.rs++[gr]) ((t1.sub (by simp)).trans (kK hg) (fun x hx _=>hx)) (by simpa using ho) (fun k hk=>by
  rcases hb with e|e
  ·exact .inl (e.symm.trans hk)
  ·rw[hk]at e;injection e with e;have:=t1.size;exact .inr (by omega))
 exact⟨g4,cap4,hv,k8,z8,hqs.ql⟩
theorem a1r (K:World->Prop)(Q:QM)(V:QV)(qb:Nat)(num:Int)(dv:Value)(w:World)(h:QR w qb V Q)(hl:Q.ms.length<=1000)(hr:Q.rs.length<=1000)(i:Nat)(hi:jj (isN num) Q.ms=(i:Int))(hil:i<Q.ms.length)
  (hdv:dv=.pointer none\/∃qt,dv=zp qt)
  (hcase:(upQ Q.c Q.ms[i].rcv=false\/dv=.pointer none)/\(∀w',QL w w' qb V (jW (jm Q num 0) Q.ms[i].grp)->K w')\/
   ∃qt rm,upQ Q.c Q.ms[i].rcv=true/\dv=zp qt/\
    (∀W,QS w W qb V V (jm Q num 0)->zT 258 #[zp qt,.int .i64 (jZ Q.ms[i].grp (jm Q num 0).ms:Nat)] W (.bool rm))/\
    (if rm=true then ∀W,QS w W qb V V (jm Q num 0)->Cp 260 #[zp qb,.string Q.ms[i].grp,zp qt] W fun e w'=>e=.returned (.tuple #[])/\K w' else ∀w',QL w w' qb V (jW (jm Q num 0) Q.ms[i].grp)->K w')):
  Cp 203 #[zp qb,.int .i64 num,dv] w fun e w'=>e=.returned (.tuple #[])/\K w':=by
 have hfi:Q.ms.find? (isN num)=some Q.ms[i]:=(qA _ _ i hi).2.2;have hdq:jm Q num 0={Q with ms:=Q.ms.set i {Q.ms[i] with til:=0}}:=by
  unfold jm;rw[hfi,hi];rfl
 obtain⟨g,c,hv,hg,hc⟩:=h.msc i hil;have HF:Hid (Cp 253 #[zp qb,.int .i64 num] w.drew fun e w'=>e=.returned (.int .i64 (i:Int))/\w'.cell? ⟨qb,7,none⟩=some (.slice (some ⟨g,0,none⟩) Q.ms.length c)/\w'.cell? ⟨g,i*5+4,none⟩=some (.int .i64 Q.ms[i].til)/\w'.frozen? ⟨g,i*5+4,none⟩=false/\g<w'.heap.size/\QS w (w'.setCell ⟨g,i*5+4,none⟩ (.int .i64 0)) qb V V (jm Q num 0)):=by
  have h1:=a1b num qb V.m Q.ms w.drew (jb h.blk 7 _ rfl) (jf h.m (Tch.refl [] w).drew (by simp)) (by omega);rw[hi]at h1;refine h1.mono ?_;rintro e w' ⟨he,hb⟩;have t:Tch [] w w':=(Tch.refl [] w).drew.trans (Tch.of_below hb) (by simp);have hq:=h.tch t (by simp);obtain⟨g2,c2,hv2,hg2,hc2⟩:=hq.msc i hil;rw[hv]at hv2;simp only[Value.slice.injEq,Option.some.injEq,Addr.mk.injEq,and_true,true_and]at hv2;obtain⟨rfl,rfl⟩:=hv2;have hs:=hq.setQ hv i 0 hil;refine⟨he,by rw[<-hv];exact jb hq.blk 7 _ rfl,hc2 4 _ rfl,hq.fzM hv _,hg2,?_⟩;rw[hdq];exact(h.qs t).trans hs
 have c7:w.cell? ⟨qb,7,none⟩=some (.slice (some ⟨g,0,none⟩) Q.ms.length c):=by rw[<-hv];exact jb h.blk 7 _ rfl
 have HV:=zH hv;have HCS:=zH hcase;have HI:Hid ((jm Q num 0).ms.length=Q.ms.length/\(jm Q num 0).rs=Q.rs/\(jm Q num 0).c=Q.c/\(jm Q num 0).ms[i]?=some {Q.ms[i] with til:=0}):=by
  show _/\_
  rw[hdq];exact⟨by simp,rfl,rfl,by simp[hil]⟩
 clear hi hfi hdq hc h hcase hv;go_enter Tryz.func203,Tryz.ntmps203;go_wp2_with fail
 go_region_held3 (fun w'=>w'.cell? ⟨qb,7,none⟩=some (.slice (some ⟨g,0,none⟩) Q.ms.length c)) (go_keep) (first|(go_at_call 253;refine HF.out.mono ?_;rintro e w1 ⟨rfl,k7,k4,z4,lg,hqs⟩;have HQS:Hid (QS w (w1.setCell ⟨g,i*5+4,none⟩ (.int .i64 0)) qb V V (jm Q num 0)):=hqs;clear hqs))
 have hq1:=HQS.out.qr;have hm1:∀j u,(({Q.ms[i] with til:=0}:Ms).row)[j]?=some u->(w1.setCell ⟨g,i*5+4,none⟩ (.int .i64 0)).cell? ⟨g,i*5+j,none⟩=some u:=fun j u hj=>by
  have hil2:i<(jm Q num 0).ms.length:=by rw[HI.out.1];exact hil
  obtain⟨g2,c2,hv2,hg2,hc2⟩:=hq1.msc i hil2;rw[HV.out,HI.out.1]at hv2;simp only[Value.slice.injEq,Option.some.injEq,Addr.mk.injEq,and_true,true_and]at hv2;obtain⟨rfl,rfl⟩:=hv2;have e:(jm Q num 0).ms[i]={Q.ms[i] with til:=0}:=by
   have:=HI.out.2.2.2;rw[List.getElem?_eq_getElem hil2]at this;exact Option.some.inj this
  refine hc2 j u ?_;rw[e];exact hj
 have hzz:(w1.setCell ⟨g,i*5+4,none⟩ (.int .i64 0)).heap.size=w1.heap.size:=World.size_setCell _ _ _;have m0:(w1.setCell ⟨g,i*5+4,none⟩ (.int .i64 0)).cell? ⟨g,i*5,none⟩=some (.int .i64 Q.ms[i].num):=hm1 0 _ rfl;have m1:(w1.setCell ⟨g,i*5+4,none⟩ (.int .i64 0)).cell? ⟨g,i*5+1,none⟩=some (.string Q.ms[i].grp):=hm1 1 _ rfl;have m2:(w1.setCell ⟨g,i*5+4,none⟩ (.int .i64 0)).cell? ⟨g,i*5+2,none⟩=some (.string Q.ms[i].bod):=hm1 2 _ rfl;have m3:(w1.setCell ⟨g,i*5+4,none⟩ (.int .i64 0)).cell? ⟨g,i*5+3,none⟩=some (.int .i64 Q.ms[i].rcv):=hm1 3 _ rfl;have m4:(w1.setCell ⟨g,i*5+4,none⟩ (.int .i64 0)).cell? ⟨g,i*5+4,none⟩=some (.int .i64 0):=hm1 4 _ rfl;have HGU:Hid (zT 257 #[zp qb,.agg #[.int .i64 Q.ms[i].num,.string Q.ms[i].grp,.string Q.ms[i].bod,.int .i64 Q.ms[i].rcv,.int .i64 0]] (w1.setCell ⟨g,i*5+4,none⟩ (.int .i64 0)) (.bool (upQ Q.c Q.ms[i].rcv))):=by
  have h9:=a5I (jm Q num 0) V qb {Q.ms[i] with til:=0} _ hq1;rw[HI.out.2.2.1]at h9;exact h9
 clear hm1 hq1 HF;have HRD:Hid (∀(W:World),QS w W qb V V (jm Q num 0)->W.cell? ⟨qb,8,none⟩=some V.r/\W.ownsRow 0 9 1 V.r Q.rs.length (Q.rs.map Value.string)/\∀v' w9,w9.ownsRow 0 9 1 v' (Q.rs.length+1) (Q.rs.map Value.string++[.string Q.ms[i].grp])->(W.drew.alloc (.cells #[.string Q.ms[i].grp] 9)).grownBy w9 V.r.ownBlock->(v'.ownBlock=V.r.ownBlock\/v'.ownBlock=some (W.drew.alloc (.cells #[.string Q.ms[i].grp] 9)).heap.size)->∃g4 cap4,v'=.slice (some ⟨g4,0,none⟩) (Q.rs.length+1) cap4/\w9.cell? ⟨qb,8,none⟩=some V.r/\w9.frozen? ⟨qb,8,none⟩=false/\QL w (w9.setCell ⟨qb,8,none⟩ v') qb V (jW (jm Q num 0) Q.ms[i].grp)):=fun W hW=>by
  have e8:=HI.out.2.1;refine⟨jb hW.qr.blk 8 _ rfl,by have:=hW.qr.r;rw[e8]at this;exact this,fun v' w9 ho hg hb=>?_⟩
  obtain⟨g4,cap4,h1,h2,h3,V4,h4,h5,h6⟩:=hW.qr.rdy Q.ms[i].grp v' w9 (by rw[e8];exact ho) hg hb;rw[e8]at h1;exact⟨g4,cap4,h1,h2,h3,(hW.trans ⟨h4,h5,h6⟩).ql⟩
 have HCN:Hid (∀W,QS w W qb V V (jm Q num 0)->zT 259 #[zp qb,.string Q.ms[i].grp] W (.int .i64 (jZ Q.ms[i].grp (jm Q num 0).ms:Nat))):=fun W hW=>a9c (jm Q num 0) V qb Q.ms[i].grp W hW.qr (by rw[HI.out.1];exact hl)
 obtain⟨res,HRS⟩:∃res:Bool,Hid ((res=false/\(upQ Q.c Q.ms[i].rcv=false\/dv=.pointer none)/\(∀w',QL w w' qb V (jW (jm Q num 0) Q.ms[i].grp)->K w'))\/(∃qt,upQ Q.c Q.ms[i].rcv=true/\dv=zp qt/\
    (∀W,QS w W qb V V (jm Q num 0)->zT 258 #[zp qt,.int .i64 (jZ Q.ms[i].grp (jm Q num 0).ms:Nat)] W (.bool res))/\
    (if res=true then ∀W,QS w W qb V V (jm Q num 0)->Cp 260 #[zp qb,.string Q.ms[i].grp,zp qt] W fun e w'=>e=.returned (.tuple #[])/\K w' else ∀w',QL w w' qb V (jW (jm Q num 0) Q.ms[i].grp)->K w'))):=by
  rcases HCS.out with ⟨hor,hK⟩|⟨qt,rm,hup,hdq,hRM,hK⟩
  ·exact⟨false,.inl ⟨rfl,hor,hK⟩⟩
  ·exact⟨rm,.inr ⟨qt,hup,hdq,hRM,hK⟩⟩
 generalize hgr:Q.ms[i].grp=gr at*
 generalize hwx:w1.setCell ⟨g,i*5+4,none⟩ (.int .i64 0)=wx1 at*
 clear HCS
 go_upto_region 2 with fail
 try rw[hwx]
 clear hwx
 go_cut [36] (fun s wx=>s=.bool res/\QS w wx qb V V (jm Q num 0)/\wx.cell? ⟨g,i*5+1,none⟩=some (.string gr))
 case first=>
  go_wp2_with fail;refine HGU.out.mono ?_;rintro e w3 ⟨rfl,ht3⟩;have HQ3:=zH (HQS.out.trans (HQS.out.qr.qs ht3));have n1:w3.cell? ⟨g,i*5+1,none⟩=some (.string gr):=by rw[ht3.cell (a:=⟨g,i*5+1,none⟩) (by rw[hzz];exact lg) (by simp)];exact m1
  have lg3:g<w3.heap.size:=by have:=ht3.size;omega
  rcases HRS.out with ⟨hres,hor,hK⟩|⟨qt,hup,rfl,hRM,hK⟩
  ·subst hres;rcases hor with hup|rfl
   ·rw[hup];clear hK ht3 HRD HCN HGU HRS;go_wp2_with fail;go_meet;exact⟨rfl,HQ3.out,n1⟩
   ·clear hK ht3 HRD HCN HGU HRS
    by_cases hup:upQ Q.c Q.ms[i].rcv=true
    ·rw[hup];go_wp2_with fail;go_meet;exact⟨rfl,HQ3.out,n1⟩
    ·have hup':upQ Q.c Q.ms[i].rcv=false:=by simpa using hup
     rw[hup'];go_wp2_with fail;go_meet;exact⟨rfl,HQ3.out,n1⟩
  ·rw[hup];have HCC:=zH (HCN.out w3 HQ3.out);have HRM:=zH hRM;clear hK ht3 HRD HCN HGU HRS hRM;go_wp2_with fail;refine HCC.out.mono ?_;rintro e w4 ⟨rfl,ht4⟩;have HQ4:=zH (HQ3.out.trans (HQ3.out.qr.qs ht4));have HC4:=zH (HRM.out w4 HQ4.out);have n4:w4.cell? ⟨g,i*5+1,none⟩=some (.string gr):=by rw[ht4.cell (a:=⟨g,i*5+1,none⟩) lg3 (by simp)];exact n1
   have lg4:g<w4.heap.size:=by have:=ht4.size;omega
   clear ht4 HCC HRM n1;go_wp2_with fail;refine HC4.out.mono ?_;rintro e w5 ⟨rfl,ht5⟩;have HQ5:Hid (QS w w5 qb V V (jm Q num 0)/\w5.cell? ⟨g,i*5+1,none⟩=some (.string gr)):=⟨HQ4.out.trans (HQ4.out.qr.qs ht5),by rw[ht5.cell (a:=⟨g,i*5+1,none⟩) lg4 (by simp)];exact n4⟩;clear ht5 HC4 n4;go_wp2_with fail;go_meet;exact⟨rfl,HQ5.out⟩
 case rest=>
  obtain⟨rfl,hqs5,n5⟩:=hcut;generalize wc=w5 at*
  have HQ5:=zH hqs5;clear hqs5 m0 m1 m2 m3 m4 HGU HCN;have HTWO:Hid ((res=true/\∃qt,dv=zp qt/\Cp 260 #[zp qb,.string gr,zp qt] w5 fun e w'=>e=.returned (.tuple #[])/\K w')\/(res=false/\∀w',QL w w' qb V (jW (jm Q num 0) gr)->K w')):=by
   rcases HRS.out with ⟨hres,_,hK⟩|⟨qt,hup,hdq,_,hK⟩
   ·exact .inr ⟨hres,hK⟩
   ·cases res with
    | true=>exact .inl ⟨rfl,qt,hdq,hK w5 HQ5.out⟩
    | false=>exact .inr ⟨rfl,hK⟩
  clear HRS;rcases HTWO.out with ⟨rfl,qt,rfl,hM⟩|⟨rfl,hK⟩
  ·have HM:=zH hM;clear hM HTWO HRD;go_wp2_with fail;refine HM.out.mono ?_;rintro e w6 ⟨rfl,hk6⟩;have HK6:=zH hk6;clear hk6 HM;go_wp2_with fail;refine bodyPost_ret (results_none rfl _ _ _) rfl ?_;exact⟨rfl,HK6.out⟩
  ·have HK:=zH hK;obtain⟨q8,ow8,hfin⟩:=HRD.out w5 HQ5.out;have HOW:=zH ow8;have HFI:=zH hfin;have q8a:(w5.alloc (.cells #[.string gr] 9)).cell? ⟨qb,8,none⟩=some V.r:=Lib.cell?_alloc_some _ q8;clear ow8 hfin HRD hK HTWO;go_wp2_with fail
   go_region_law (refine qu rfl (.tmp 48) (.tmp 53) 25 9 rfl Tryz.underlying25 (.string ⟨#[]⟩) 1 16 a2T rfl (by decide) (by decide) V.r Q.rs.length (Q.rs.map Value.string) (by simp[Act.eval,Act.put]) (jf HOW.out ((Tch.refl [] _).drew.alloc _) (fun _ _=>by simp)) w5.heap.size [.string gr] 1 (by simp[Act.eval,Act.put]) rfl (by decide) (heap_alloc_new _ _) (by intro u hu;simp at hu;subst hu;rfl) (by omega) ?_;intro v' w9 ho3 hg3 hb3;obtain⟨g4,cap4,hv4,c9,z9,hfin⟩:=HFI.out v' w9 ho3 hg3 hb3;subst hv4;clear ho3 hg3 hb3;have HFI2:Hid (K _):=HK.out _ hfin;clear hfin)
   all_goals (go_wp2_with fail;go_end0;exact⟨rfl,HFI2.out⟩)
end Go.Proofs.YtbdobaapadlcjaaGreatDoor
namespace Go.Proofs.YtbdobaapadlcjaaGreatDoor
open Go.Shelf
def b1B:Go.Shelf.Ren:=⟨fun|6=>301|15=>306|14=>305|28=>316|29=>317|20=>308|21=>309|22=>310|23=>311|24=>312|25=>313|26=>314|27=>315|46=>318|47=>319|48=>320|49=>321|50=>322|57=>323|n=>n,fun|22=>187|24=>226|25=>327|3=>3|39=>135|0=>0|53=>121|55=>244|4=>4|46=>332|45=>331|50=>276|5=>5|9=>9|66=>339|70=>178|76=>343|77=>344|n=>n,fun|n=>n⟩
theorem b9x:Go.Proofs.SlLaysF0.n6 Tryz.prog b1B:={
 mixed:=by kernel_rfl
 f6:=⟨Tryz.f301.name,by decide,Tryz.func301.trans (congrArg some (by kernel_rfl))⟩
 f14:=⟨Tryz.f305.name,by decide,Tryz.func305.trans (congrArg some (by kernel_rfl))⟩
 f15:=Tryz.func306.trans (congrArg some (by kernel_rfl))
 f20:=⟨Tryz.f308.name,by decide,Tryz.func308.trans (congrArg some (by kernel_rfl))⟩
 f21:=⟨Tryz.f309.name,by decide,Tryz.func309.trans (congrArg some (by kernel_rfl))⟩
 f22:=⟨Tryz.f310.name,by decide,Tryz.func310.trans (congrArg some (by kernel_rfl))⟩
 f23:=⟨Tryz.f311.name,by decide,Tryz.func311.trans (congrArg some (by kernel_rfl))⟩
 f24:=⟨Tryz.f312.name,by decide,Tryz.func312.trans (congrArg some (by kernel_rfl))⟩
 f25:=⟨Tryz.f313.name,by decide,Tryz.func313.trans (congrArg some (by kernel_rfl))⟩
 f26:=⟨Tryz.f314.name,by decide,Tryz.func314.trans (congrArg some (by kernel_rfl))⟩
 f27:=⟨Tryz.f315.name,by decide,Tryz.func315.trans (congrArg some (by kernel_rfl))⟩
 f28:=Tryz.func316.trans (congrArg some (by kernel_rfl))
 f29:=Tryz.func317.trans (congrArg some (by kernel_rfl))
 f46:=⟨Tryz.f318.name,by decide,Tryz.func318.trans (congrArg some (by kernel_rfl))⟩
 f47:=Tryz.func319.trans (congrArg some (by kernel_rfl))
 f48:=Tryz.func320.trans (congrArg some (by kernel_rfl))
 f49:=⟨Tryz.f321.name,by decide,Tryz.func321.trans (congrArg some (by kernel_rfl))⟩
 f50:=⟨Tryz.f322.name,by decide,Tryz.func322.trans (congrArg some (by kernel_rfl))⟩
 f57:=⟨Tryz.f323.name,by decide,Tryz.func323.trans (congrArg some (by kernel_rfl))⟩
 t0:=Tryz.underlying0
 a0:=Tryz.isAgg0
 z0:=Tryz.sizeOf0
 v0:=Tryz.zeroValue0
 t3:=Tryz.underlying3
 a3:=Tryz.isAgg3
 z3:=Tryz.sizeOf3
 v3:=Tryz.zeroValue3
 t4:=Tryz.underlying4
 a4:=Tryz.isAgg4
 z4:=Tryz.sizeOf4
 v4:=Tryz.zeroValue4
 t5:=Tryz.underlying5
 a5:=Tryz.isAgg5
 z5:=Tryz.sizeOf5
 v5:=Tryz.zeroValue5
 t9:=Tryz.underlying9
 a9:=Tryz.isAgg9
 z9:=Tryz.sizeOf9
 v9:=Tryz.zeroValue9
 t22:=Tryz.underlying187
 a22:=Tryz.isAgg187
 z22:=Tryz.sizeOf187
 v22:=Tryz.zeroValue187
 t25:=Tryz.underlying327
 a25:=Tryz.isAgg327
 z25:=Tryz.sizeOf327
 v25:=Tryz.zeroValue327
 t39:=Tryz.underlying135
 a39:=Tryz.isAgg135
 z39:=Tryz.sizeOf135
 v39:=Tryz.zeroValue135
 t45:=Tryz.underlying331
 a45:=Tryz.isAgg331
 z45:=Tryz.sizeOf331
 v45:=Tryz.zeroValue331
 t46:=Tryz.underlying332
 a46:=Tryz.isAgg332
 z46:=Tryz.sizeOf332
 v46:=Tryz.zeroValue332
 t50:=Tryz.underlying276
 a50:=Tryz.isAgg276
 z50:=Tryz.sizeOf276
 v50:=Tryz.zeroValue276
 t53:=Tryz.underlying121
 a53:=Tryz.isAgg121
 z53:=Tryz.sizeOf121
 v53:=Tryz.zeroValue121
 t55:=Tryz.underlying244
 a55:=Tryz.isAgg244
 z55:=Tryz.sizeOf244
 v55:=Tryz.zeroValue244
 t66:=Tryz.underlying339
 a66:=Tryz.isAgg339
 z66:=Tryz.sizeOf339
 v66:=Tryz.zeroValue339
 t70:=Tryz.underlying178
 a70:=Tryz.isAgg178
 z70:=Tryz.sizeOf178
 v70:=Tryz.zeroValue178
 t76:=Tryz.underlying343
 a76:=Tryz.isAgg343
 z76:=Tryz.sizeOf343
 v76:=Tryz.zeroValue343
 t77:=Tryz.underlying344
 a77:=Tryz.isAgg344
 z77:=Tryz.sizeOf344
 v77:=Tryz.zeroValue344}
end Go.Proofs.YtbdobaapadlcjaaGreatDoor
namespace Go.Proofs.YtbdobaapadlcjaaGreatDoor
open Go.Shelf Go.RowKit Go.Lib Go.Sort
def xt (a b:Int):Int:=if a<b then -1 else if b<a then 1 else 0
theorem a8h (x:Int)(w:World):zE 307 #[.int .i64 x] w (.bool false):=by
 go_enter Tryz.func307,Tryz.ntmps307
 go_wp2
 go_ret;exact⟨rfl,rfl⟩
theorem a5u (x y:Int)(w:World):zE 304 #[.int .i64 x,.int .i64 y] w (.int .i64 (xt x y)):=by
 have HX:Hid (∀W,zE 307 #[.int .i64 x] W (.bool false)):=fun W=>a8h x W
 have HY:Hid (∀W,zE 307 #[.int .i64 y] W (.bool false)):=fun W=>a8h y W
 obtain⟨c,HC⟩:∃c,Hid (c=xt x y):=⟨_,rfl⟩;rw[<-HC.out];go_enter Tryz.func304,Tryz.ntmps304;go_wp2_with fail;refine(HX.out _).mono ?_;rintro e w' ⟨rfl,h'⟩;have h'':=h'.symm;subst h'';go_wp2_with fail;refine(HY.out _).mono ?_;rintro e w' ⟨rfl,h'⟩;have h'':=h'.symm;subst h''
 by_cases h1:x<y
 ·have HV:Hid (c=-1):=by show _=_;rw[HC.out,xt,if_pos h1]
  go_wp2_with fail;go_ret;exact⟨vC HV.out.symm,rfl⟩
 ·by_cases h2:y<x
  ·have HV:Hid (c=1):=by show _=_;rw[HC.out,xt,if_neg h1,if_pos h2]
   go_wp2_with fail;go_ret;exact⟨vC HV.out.symm,rfl⟩
  ·have HV:Hid (c=0):=by show _=_;rw[HC.out,xt,if_neg h1,if_neg h2]
   go_wp2_with fail;go_ret;exact⟨vC HV.out.symm,rfl⟩
theorem b7m (a b:Int)(g:Nat)(w:World)(hg:w.heap[g]?=some (.cells #[.int .i64 a,.int .i64 b] 3 (0,0))):zE 303 #[.slice (some ⟨g,0,none⟩) 2 2] w (.int .i64 (if a=0 then b else a)):=by
 have c0:w.cell? ⟨g,0,none⟩=some (.int .i64 a):=jb hg 0 _ rfl;have c1:w.cell? ⟨g,1,none⟩=some (.int .i64 b):=jb hg 1 _ rfl;obtain⟨c,HC⟩:∃c,Hid (c=if a=0 then b else a):=⟨_,rfl⟩;rw[<-HC.out];clear hg
 by_cases ha:a=0
 ·have hb1:(a != 0)=false:=by simp[ha]
  have HV:Hid (c=b):=by show _=_;rw[HC.out,if_pos ha]
  by_cases hb:b=0
  ·have hb2:(b != 0)=false:=by simp[hb]
   have HW:=zH (HV.out.trans hb);subst ha;subst hb;clear HC HV;go_enter Tryz.func303,Tryz.ntmps303;go_wp2_with fail;refine wp_loop_rounds 3 ?_;rw[rounds_succ];go_wp2_with fail;rw[rounds_succ];go_wp2_with fail;rw[rounds_succ];go_wp2_with fail;go_ret;exact⟨vC HW.out.symm,rfl⟩
  ·have hb2:(b != 0)=true:=by simp[hb]
   subst ha;clear HC;go_enter Tryz.func303,Tryz.ntmps303;go_wp2_with fail;refine wp_loop_rounds 3 ?_;rw[rounds_succ];go_wp2_with fail;rw[rounds_succ];go_wp2_with fail;go_ret;exact⟨vC HV.out.symm,rfl⟩
 ·have hb1:(a != 0)=true:=by simp[ha]
  have HV:Hid (c=a):=by show _=_;rw[HC.out,if_neg ha]
  clear HC;go_enter Tryz.func303,Tryz.ntmps303;go_wp2_with fail;refine wp_loop_rounds 3 ?_;rw[rounds_succ];go_wp2_with fail;go_ret;exact⟨vC HV.out.symm,rfl⟩
def cfM (x y:Ms):Int:=if xt x.til y.til=0 then xt x.num y.num else xt x.til y.til
theorem b3L (x y:Ms)(W:World):Cp 302 #[.agg x.row.toArray,.agg y.row.toArray] W fun e w'=>e=.returned (.int .i64 (cfM x y))/\∃q os',w'=grow (W.drewN q) os':=by
 have HC:=zH a5u;obtain⟨c,HCF⟩:∃c,Hid (c=cfM x y):=⟨_,rfl⟩;rw[<-HCF.out]
 show Cp 302 #[.agg #[.int .i64 x.num,.string x.grp,.string x.bod,.int .i64 x.rcv,.int .i64 x.til],.agg #[.int .i64 y.num,.string y.grp,.string y.bod,.int .i64 y.rcv,.int .i64 y.til]] W _
 obtain⟨wb,hwb⟩:∃wb,wb=(W.alloc (.cells #[.int .i64 x.num,.string x.grp,.string x.bod,.int .i64 x.rcv,.int .i64 x.til] 226)).alloc (.cells #[.int .i64 y.num,.string y.grp,.string y.bod,.int .i64 y.rcv,.int .i64 y.til] 226):=⟨_,rfl⟩;have b0:wb.heap[W.heap.size]?=some (.cells #[.int .i64 x.num,.string x.grp,.string x.bod,.int .i64 x.rcv,.int .i64 x.til] 226 (0,0)):=by rw[hwb,heap_alloc2_old]
 have b1:wb.heap[W.heap.size+1]?=some (.cells #[.int .i64 y.num,.string y.grp,.string y.bod,.int .i64 y.rcv,.int .i64 y.til] 226 (0,0)):=by rw[hwb,heap_alloc2_new]
 have x0:wb.cell? ⟨W.heap.size,0,none⟩=some (.int .i64 x.num):=jb b0 0 _ rfl;have x4:wb.cell? ⟨W.heap.size,4,none⟩=some (.int .i64 x.til):=jb b0 4 _ rfl;have y0:wb.cell? ⟨W.heap.size+1,0,none⟩=some (.int .i64 y.num):=jb b1 0 _ rfl;have y4:wb.cell? ⟨W.heap.size+1,4,none⟩=some (.int .i64 y.til):=jb b1 4 _ rfl;have HWB:Hid (wb=grow W #[.cells #[.int .i64 x.num,.string x.grp,.string x.bod,.int .i64 x.rcv,.int .i64 x.til] 226,.cells #[.int .i64 y.num,.string y.grp,.string y.bod,.int .i64 y.rcv,.int .i64 y.til] 226]):=by
  show _=_
  rw[hwb,alloc_eq_grow,alloc_eq_grow,grow_grow];rfl
 have HOR:Hid (Cp 303 #[.slice (some ⟨wb.heap.size,0,none⟩) 2 2] (wb.alloc (.cells #[.int .i64 (xt x.til y.til),.int .i64 (xt x.num y.num)] 3)).drew fun e w'=>e=.returned (.int .i64 c)/\w'=(wb.alloc (.cells #[.int .i64 (xt x.til y.til),.int .i64 (xt x.num y.num)] 3)).drew):=by
  have h:=b7m (xt x.til y.til) (xt x.num y.num) wb.heap.size (wb.alloc (.cells #[.int .i64 (xt x.til y.til),.int .i64 (xt x.num y.num)] 3)).drew (heap_alloc_new wb _);rw[show (if xt x.til y.til=0 then xt x.num y.num else xt x.til y.til)=c from HCF.out.symm]at h
  exact h
 clear b0 b1;go_enter Tryz.func302,Tryz.ntmps302;go_wp2_with fail;rw[<-hwb];clear hwb
 go_region_held3 (fun w'=>w'.cell? ⟨W.heap.size,0,none⟩=some (.int .i64 x.num)/\w'.cell? ⟨W.heap.size,4,none⟩=some (.int .i64 x.til)/\w'.cell? ⟨W.heap.size+1,0,none⟩=some (.int .i64 y.num)/\w'.cell? ⟨W.heap.size+1,4,none⟩=some (.int .i64 y.til)) (go_keep) (first|(go_at_call 304;refine(HC.out _ _ _).mono ?_;rintro e w' ⟨rfl,h'⟩;have h'':=h'.symm;subst h'')|(go_at_call 303;refine HOR.out.mono ?_;rintro e w9 ⟨rfl,h9⟩;have H9:Hid (w9=(wb.alloc (.cells #[.int .i64 (xt x.til y.til),.int .i64 (xt x.num y.num)] 3)).drew):=h9;have q0:w9.cell? ⟨W.heap.size,0,none⟩=some (.int .i64 x.num):=(by rw[h9];exact Lib.cell?_alloc_some _ x0);have q1:w9.cell? ⟨W.heap.size,4,none⟩=some (.int .i64 x.til):=(by rw[h9];exact Lib.cell?_alloc_some _ x4);have q2:w9.cell? ⟨W.heap.size+1,0,none⟩=some (.int .i64 y.num):=(by rw[h9];exact Lib.cell?_alloc_some _ y0);have q3:w9.cell? ⟨W.heap.size+1,4,none⟩=some (.int .i64 y.til):=(by rw[h9];exact Lib.cell?_alloc_some _ y4);clear h9))
 all_goals (go_wp2_with fail;go_ret;exact⟨rfl,1,#[.cells #[.int .i64 x.num,.string x.grp,.string x.bod,.int .i64 x.rcv,.int .i64 x.til] 226,.cells #[.int .i64 y.num,.string y.grp,.string y.bod,.int .i64 y.rcv,.int .i64 y.til] 226]++#[.cells #[.int .i64 (xt x.til y.til),.int .i64 (xt x.num y.num)] 3],by rw[H9.out,HWB.out,alloc_eq_grow,grow_grow];rfl⟩)
theorem ltM (x y:Ms):ltOf cfM x y=decide (x.til<y.til\/x.til=y.til/\x.num<y.num):=by
 unfold ltOf cfM xt;apply decide_eq_decide.2
 repeat' split
 all_goals omega
theorem b9K:SWO (ltOf cfM) where
 irrefl x:=by rw[ltM];exact decide_eq_false (by omega)
 trans x y z h1 h2:=by
  rw[ltM] at*
  have a:=of_decide_eq_true h1;have b:=of_decide_eq_true h2;exact decide_eq_true (by omega)
 ntrans x y z h1 h2:=by
  rw[ltM] at*
  have a:=of_decide_eq_false h1;have b:=of_decide_eq_false h2;exact decide_eq_false (by omega)
theorem b8v:∀args w,(callFunc 302 args).run Tryz.prog w=.ok (.enter 302 args) w:=enters_of Tryz.func302 (by kernel_rfl) rfl
def b7f (x y:Ms):Prop:=x.til<y.til\/x.til=y.til/\x.num<y.num
def Asc (l:List Ms):Prop:=∀i j (hi:i<l.length) (hj:j<l.length),i<j->¬b7f l[j] l[i]
theorem a7z (w:World)(g n:Nat)(d':Array Ms)(os:Array Obj) [Inhabited Ms]:Tch [g] w (sortWorldK Ms.row 5 w g 0 n d' os):=by
 unfold sortWorldK putRowK putRow mapBlock;refine⟨rfl,rfl,rfl,?_,fun k hk hm=>?_⟩
 ·simp[grow,Sort.ahead]
 ·have hne:g≠k:=fun e=>hm (by simp[e])
  rw[heap_grow_old _ _ (by simp[Sort.ahead];exact hk)]
  show ((Sort.ahead w n).heap.modify g _)[k]?=_
  rw[Array.getElem?_modify,if_neg hne];rfl
theorem b2Z (l:List Ms)(g c base:Nat)(w:World)(ho:w.ownsRow base 226 5 (.slice (some ⟨g,0,none⟩) l.length c) l.length (l.flatMap Ms.row))(hl:l.length<=1000):
  Cp 301 #[.slice (some ⟨g,0,none⟩) l.length c,.func (.func 302) #[] #[]] w fun e w'=>e=.returned (.tuple #[])/\∃l':List Ms,l'.Perm l/\Asc l'/\(∀j (hj:j<l'.length) i u,(l'[j].row)[i]?=some u->w'.cell? ⟨g,j*5+i,none⟩=some u)/\Tch [g] w w':=by
 have inh:Inhabited Ms:=⟨⟨0,⟨#[]⟩,⟨#[]⟩,0,0⟩⟩;have ho0:w.ownsRow 0 226 5 (.slice (some ⟨g,0,none⟩) l.length c) l.length (l.flatMap Ms.row):=by
  refine⟨ho.1,?_⟩;rcases ho.2 with hn|⟨g,cap,cur,h0,hb,hg,rest⟩
  ·exact .inl hn
  ·exact .inr ⟨g,cap,cur,h0,Nat.zero_le _,hg,rest⟩
 obtain⟨cur,hrow⟩:∃cur,w.heap[g]?=some (.cells cur 226 (0,0)):=by
  rcases ho.2 with ⟨h',_⟩|⟨g',cap',cur,h',hb,hg,_⟩
  ·simp at h'
  ·simp only[Value.slice.injEq,Option.some.injEq,Addr.mk.injEq,and_true,true_and]at h';obtain⟨rfl,rfl⟩:=h';exact⟨cur,hg⟩
 have hH:HoldsK Ms.row 5 w g 0 l.toArray:=fun j hj=>by
  have hj':j<l.length*5:=by simpa using hj
  have h1:j / 5<l.length:=by omega
  refine⟨?_,frozen_of_row w g _ cur 226 hrow⟩;have e1:=get_flatK Ms.row 5 l.toArray j (by simpa using hj');have e2:l.toArray[j / 5]! = l[j / 5]!:=by simp
  have h4:j % 5<(Ms.row l[j / 5]!).length:=by show j % 5<5;omega
  have h5:=jF Ms.row 5 (fun _=>rfl) ho0 (j / 5) h1 (j % 5) ((Ms.row l[j / 5]!)[j % 5]!) (by rw[List.getElem?_eq_getElem h4,_root_.getElem!_pos (Ms.row l[j / 5]!) (j % 5) h4]);have e3:0+j / 5*5+j % 5=0+j:=by omega
  rw[e3]at h5;rw[h5]
  show some _=some (id _)
  rw[e1,e2];rfl
 have h:=AnyQ.slices_SortFunc b9x 5 Tryz.isAgg226 Tryz.sizeOf226 Ms.row (fun _=>rfl) (fun x v hv=>by simp[Ms.row]at hv;rcases hv with rfl|rfl|rfl|rfl|rfl<;>rfl) cfM b9K 302 #[] g 0 c l.toArray w b8v (fun _ _ _ _ x y=>b3L x y _) hH (lt_of_block hrow) (by simp;omega);have e0:l.toArray.size=l.length:=by simp
 rw[e0]at h;refine h.mono ?_;rintro e w' ⟨he,d',n,os,⟨hs,_,hp⟩,hsrt,hw⟩;have hds:d'.size=l.length:=by rw[hs,e0]
 have hSW:SWK Ms.row 5 w g 0 d' w':=⟨n,os,hw⟩;have hh:=hSW.holds (lt_of_block hrow) hH (by rw[hds,e0]);refine⟨he,d'.toList,?_,fun i j hi hj hij=>?_,fun j hj i u hu=>?_,by rw[hw];exact a7z w g n d' os⟩
 ·have e1:(d'.extract 0 l.length).toList=d'.toList:=by rw[<-hds];simp
  have e2:(l.toArray.extract 0 l.length).toList=l:=by simp
  rw[e1,e2]at hp;exact hp
 ·have h1:=hsrt i j (Nat.zero_le _) hij (by simpa [hds]using hj);rw[ltM]at h1;have h2:=of_decide_eq_false h1;have hi':i<d'.size:=by simpa using hi
  have hj':j<d'.size:=by simpa using hj
  rw[_root_.getElem!_pos d' i hi',_root_.getElem!_pos d' j hj']at h2;simpa [b7f]using h2
 ·have hj':j<d'.size:=by simpa using hj
  have hi5:i<5:=by
   have:=(List.getElem?_eq_some_iff.1 hu).1;exact this
  have h1:=(hh.cell hj' hi5).1;have e1:d'[j]! = d'.toList[j]:=by rw[_root_.getElem!_pos d' j hj'];simp
  have e2:0+j*5+i=j*5+i:=by omega
  rw[e1,e2]at h1;rw[h1];have hi6:i<(Ms.row d'.toList[j]).length:=hi5;rw[_root_.getElem!_pos (Ms.row d'.toList[j]) i hi6,<-List.getElem?_eq_getElem hi6];exact hu
end Go.Proofs.YtbdobaapadlcjaaGreatDoor
namespace Go.Proofs.YtbdobaapadlcjaaGreatDoor
open Go.RowKit
variable {l:List Ms}{j:Nat}{m:Ms}
theorem b1t (p:Option Addr)(cap:Nat)(fv:Value)(w:World):
  zE 308 #[.slice p 0 cap,.int .i64 0,.int .i64 0,fv] w (.tuple #[]):=by
 go_enter Tryz.func308,Tryz.ntmps308
 go_wp2
 refine wp_loop_rounds 1 ?_;rw[rounds_succ]
 go_wp2
 go_end0;exact⟨rfl,rfl⟩
theorem b2c (p:Option Addr)(cap:Nat)(lim:Int)(fv:Value)(w:World):
  zE 305 #[.slice p 0 cap,.int .i64 0,.int .i64 0,.int .i64 lim,fv] w (.tuple #[]):=by
 go_enter Tryz.func305,Tryz.ntmps305
 go_wp2
 refine wp_loop_rounds 1 ?_;rw[rounds_succ];go_wp2_with (go_at_call 308;refine(b1t _ _ _ _).mono ?_;rintro e w' ⟨rfl,rfl⟩)
 (try simp only[Exit.inBlock,Exit.then])
 refine bodyPost_ret (results_none rfl _ _ _) rfl ?_;exact⟨rfl,rfl⟩
theorem b4f (w:World):Cp 317 #[.int .u64 0] w fun e w'=>(∃z:Int,e=.returned (.int .i64 z))/\w'=w:=by
 go_enter Tryz.func317,Tryz.ntmps317
 go_wp2
 go_ret;exact⟨⟨_,rfl⟩,rfl⟩
theorem b8N (w:World):Cp 306 #[.int .u64 0] w fun e w'=>(∃z:Int,e=.returned (.int .i64 z))/\w'=w:=by
 go_enter Tryz.func306,Tryz.ntmps306;go_wp2_with (go_at_call 317;refine(b4f _).mono ?_;rintro e w' ⟨⟨z,rfl⟩,rfl⟩);go_ret;exact⟨⟨_,rfl⟩,rfl⟩
theorem a4j (p:Option Addr)(cap:Nat)(fv:Value)(w:World):zE 301 #[.slice p 0 cap,fv] w (.tuple #[]):=by
 go_enter Tryz.func301,Tryz.ntmps301;go_wp2_with (first|(go_at_call 306;refine(b8N _).mono ?_;rintro e w' ⟨⟨z,rfl⟩,rfl⟩)|(go_at_call 305;refine(b2c _ _ _ _ _).mono ?_;rintro e w' ⟨rfl,rfl⟩));go_end0;exact⟨rfl,rfl⟩
def kJ (now:Int)(l:List Ms):List Ms:=l.filter fun m=>decide (0<m.til/\m.til<=now)
theorem b0P {now:Int}(hm:l[j]?=some m)(h:0<m.til/\m.til<=now):kJ now (l.take (j+1))=kJ now (l.take j)++[m]:=by
 unfold kJ;rw[List.take_add_one,hm,List.filter_append];simp[h]
theorem b3J {now:Int}(hm:l[j]?=some m)(h:¬(0<m.til/\m.til<=now)):kJ now (l.take (j+1))=kJ now (l.take j):=by
 unfold kJ;rw[List.take_add_one,hm,List.filter_append];have h2:[m].filter (fun m=>decide (0<m.til/\m.til<=now))=[]:=by
  rw[List.filter_cons];simp only[h,decide_false];rfl
 simp only[Option.toList_some,h2,List.append_nil]
theorem a1F {w:World}{base b' t size n:Nat}{v:Value}{xs:List Value}(h:w.ownsRow base t size v n xs)(hb:b'<=base):w.ownsRow b' t size v n xs:=by
 refine⟨h.1,?_⟩;rcases h.2 with hn|⟨g,cap,cur,h0,hb2,hg,rest⟩
 ·exact .inl hn
 ·exact .inr ⟨g,cap,cur,h0,Nat.le_trans hb hb2,hg,rest⟩
theorem b0O (now:Int)(l:List Ms)(j:Nat):(kJ now (l.take j)).length<=l.length:=by
 have h1:=List.length_filter_le (fun m:Ms=>decide (0<m.til/\m.til<=now)) (l.take j);have h2:(l.take j).length<=l.length:=by rw[List.length_take];omega
 exact Nat.le_trans h1 h2
def b9t (l':List Ms)(w:World)(v:Value)(w':World):Prop:=w'.ownsRow w.heap.size 3 1 v l'.length (l'.map fun m=>.int .i64 m.num)/\Tch [] w w'
theorem b3K (l:List Ms)(v:Value)(qb:Nat)(now:Int)(w:World)(c7:w.cell? ⟨qb,7,none⟩=some v)(ho:w.ownsRow 0 226 5 v l.length (l.flatMap Ms.row))(hl:l.length<=1000):
  Cp 297 #[zp qb,.int .i64 now] w fun e w'=>∃v' l',e=.returned v'/\l'.Perm (kJ now l)/\Asc l'/\b9t l' w v' w':=by
 have inh:Inhabited Ms:=⟨⟨0,⟨#[]⟩,⟨#[]⟩,0,0⟩⟩;have hasc0:Asc []:=fun i j hi hj _=>by simp at hi
 rcases ho.2 with ⟨rfl,h0⟩|⟨gd,cd,cur,rfl,_,hg,hnc,_⟩
 ·have hle:l=[]:=List.length_eq_zero_iff.1 h0;subst hle;clear ho;go_enter Tryz.func297,Tryz.ntmps297
  go_wp2
  refine wp_loop_rounds 1 ?_;rw[rounds_succ];go_wp2_with (go_at_call 301;go_loud (refine(a4j _ _ _ _).mono ?_;rintro e w' ⟨rfl,hw⟩;have hw':=hw.symm;subst hw'));refine wp_loop_rounds 1 ?_;rw[rounds_succ]
  go_wp2
  go_ret;exact⟨_,[],rfl,List.Perm.refl _,hasc0,World.ownsRow_nil _ _ _ _,Tch.refl _ _⟩
 ·have HO:Hid (w.ownsRow 0 226 5 (.slice (some ⟨gd,0,none⟩) l.length cd) l.length (l.flatMap Ms.row)):=ho;have hgl:=lt_of_block hg;clear hg ho;go_enter Tryz.func297,Tryz.ntmps297;go_wp2_with fail
  go_loopw [5,16] (fun dv jv wr=>∃(j:Nat) (v1:Value),j<=l.length/\dv=v1/\jv=.int .i64 (j:Int)/\wr.ownsRow w.heap.size 226 5 v1 (kJ now (l.take j)).length ((kJ now (l.take j)).flatMap Ms.row)/\Tch [] w wr) (fun _ jv _=>l.length-(intOf jv).toNat)
  case atStart=>exact⟨0,_,Nat.zero_le _,rfl,rfl,World.ownsRow_nil _ _ _ _,Tch.refl _ _⟩
  case round=>
   obtain⟨j,v1,hj,rfl,rfl,hv1,ht⟩:=hrel;have HV:Hid (wr.ownsRow w.heap.size 226 5 u5 (kJ now (l.take j)).length ((kJ now (l.take j)).flatMap Ms.row)):=hv1;have HT:Hid (Tch [] w wr):=ht;have zr:=ht.size;have hln:=b0O now l j
   by_cases hlt:j<l.length
   ·have hor:=jf HO.out ht (fun _ _=>by simp);have hgr:=vM hor rfl;obtain⟨m,hm⟩:∃m,l[j]?=some m:=⟨_,List.getElem?_eq_getElem hlt⟩;have fm:∀i v,m.row[i]?=some v->wr.cell? ⟨gd,j*5+i,none⟩=some v:=fun i v hi=>by
     have h1:=jF Ms.row 5 (fun _=>rfl) hor j hlt i v (by rw[List.getElem!_eq_getElem?_getD,hm];exact hi);simpa using h1
    have g0:wr.cell? ⟨gd,j*5,none⟩=some (.int .i64 m.num):=fm 0 _ rfl;have g1:wr.cell? ⟨gd,j*5+1,none⟩=some (.string m.grp):=fm 1 _ rfl;have g2:wr.cell? ⟨gd,j*5+2,none⟩=some (.string m.bod):=fm 2 _ rfl;have g3:wr.cell? ⟨gd,j*5+3,none⟩=some (.int .i64 m.rcv):=fm 3 _ rfl;have g4:wr.cell? ⟨gd,j*5+4,none⟩=some (.int .i64 m.til):=fm 4 _ rfl;have HN:Hid (¬(0<m.til/\m.til<=now)->kJ now (l.take (j+1))=kJ now (l.take j)):=fun h=>b3J hm h
    have HY:Hid (0<m.til/\m.til<=now->kJ now (l.take (j+1))=kJ now (l.take j)++[m]):=fun h=>b0P hm h
    clear fm hor hm ht hv1
    by_cases h0:0<m.til
    ·by_cases h1:m.til<=now
     ·have HR:Hid (kJ now (l.take (j+1))=kJ now (l.take j)++[m]):=HY.out ⟨h0,h1⟩;clear HN HY;obtain⟨oa,oc,hoe⟩:=vf HV.out;subst hoe;generalize kJ now (l.take j)=D at*
      go_wp2_with (at_builtin;refine zI w.heap.size _ rfl _ _ 187 226 rfl Tryz.underlying187 (.agg #[.int .i64 0,.string ⟨#[]⟩,.string ⟨#[]⟩,.int .i64 0,.int .i64 0]) 5 56 a0u rfl (by decide) (by decide) (.slice oa D.length oc) D.length (D.flatMap Ms.row) ?hvs ?hvo ?hvb (wr.heap.size+1) m.row 1 ?hvx rfl (by decide) ?hvg ?hv1 (by omega) ?hvk)
      case hvo=>exact jf HV.out (((Tch.refl [] _).alloc _).alloc _) (fun _ _=>by simp)
      case hvb=>omega
      case hvg=>
       obtain⟨_,h⟩:=Array.getElem?_eq_some_iff.1 (heap_alloc2_new wr (.cells #[.int .i64 m.num,.string m.grp,.string m.bod,.int .i64 m.rcv,.int .i64 m.til] 226) (.cells #[.int .i64 m.num,.string m.grp,.string m.bod,.int .i64 m.rcv,.int .i64 m.til] 226));exact h
      case hv1=>intro u hu;simp[Ms.row]at hu;rcases hu with rfl|rfl|rfl|rfl|rfl<;>rfl
      intro v2 w2 ho2 hg2 hb2;have HO2:Hid (w2.ownsRow w.heap.size 226 5 v2 (kJ now (l.take (j+1))).length ((kJ now (l.take (j+1))).flatMap Ms.row)/\Tch [] w w2):=by
       refine⟨by rw[HR.out];simpa using ho2,((HT.out.alloc _).alloc _).grown hg2 (fun j hj hlt=>?_)⟩;have:=a4U HV.out j hj;omega
      clear ho2 hg2 hb2;go_wp2_with fail;go_roundw
      case rel=>exact⟨j+1,v2,by omega,rfl,by go_num,HO2.out.1,HO2.out.2⟩
      case measure=>simp[intOf];omega
     ·have HR:Hid (kJ now (l.take (j+1))=kJ now (l.take j)):=HN.out (fun h=>h1 h.2);clear HN HY;go_wp2_with fail;go_roundw
      case rel=>exact⟨j+1,_,by omega,rfl,by go_num,by rw[HR.out];exact jf HV.out ((Tch.refl [] _).alloc _) (fun _ _=>by simp),HT.out.alloc _⟩
      case measure=>simp[intOf];omega
    ·have HR:Hid (kJ now (l.take (j+1))=kJ now (l.take j)):=HN.out (fun h=>h0 h.1);clear HN HY;go_wp2_with fail;go_roundw
     case rel=>exact⟨j+1,_,by omega,rfl,by go_num,by rw[HR.out];exact jf HV.out ((Tch.refl [] _).alloc _) (fun _ _=>by simp),HT.out.alloc _⟩
     case measure=>simp[intOf];omega
   ·have hje:j=l.length:=by omega
    subst hje;clear ht hv1;obtain⟨D,HD⟩:∃D,Hid (kJ now l=D):=⟨_,rfl⟩;have HV2:Hid (wr.ownsRow w.heap.size 226 5 u5 D.length (D.flatMap Ms.row)):=by
     have h:=HV.out;rw[List.take_length,HD.out]at h;exact h
    have hDl:D.length<=l.length:=by rw[<-HD.out];rw[List.take_length]at hln;exact hln
    clear HV hln;rcases HV2.out.2 with ⟨rfl,h0⟩|⟨g,c,cur2,rfl,hb,hg,_⟩
    ·have hDe:D=[]:=List.length_eq_zero_iff.1 h0;have HDE:Hid (kJ now l=[]):=HD.out.trans hDe;clear HD hDe HV2;go_wp2_with (go_at_call 301;refine(a4j _ _ _ _).mono ?_;rintro e w' ⟨rfl,rfl⟩);refine wp_loop_rounds 1 ?_;rw[rounds_succ]
     go_wp2
     go_ret;exact⟨_,[],rfl,by rw[HDE.out],hasc0,World.ownsRow_nil _ _ _ _,HT.out⟩
    ·have HS:Hid (Cp 301 #[.slice (some ⟨g,0,none⟩) D.length c,.func (.func 302) #[] #[]] wr _):=b2Z D g c w.heap.size wr HV2.out (by omega);have hgl2:=lt_of_block hg;clear hg HV2;go_wp2_with (go_at_call 301;refine HS.out.mono ?_;rintro e w3 ⟨rfl,l',hp,hasc,hcl,ht3⟩;have HP:Hid (l'.Perm D/\Asc l'):=⟨hp,hasc⟩;have hle:=hp.length_eq;have HCL:Hid (∀j (hj:j<l'.length) i u,(l'[j].row)[i]?=some u->w3.cell? ⟨g,j*5+i,none⟩=some u):=hcl;have HT3:Hid (Tch [] w w3):=(HT.out.trans ht3 (fun x hx hlt=>by simp at hx;omega));have z3:=HT3.out.size;have z4:=ht3.size;clear hp hasc hcl ht3)
     go_loopw [8,38] (fun nv jv wq=>∃(j:Nat) (v2:Value),j<=l'.length/\nv=v2/\jv=.int .i64 (j:Int)/\wq.ownsRow w3.heap.size 3 1 v2 j ((l'.take j).map fun m=>.int .i64 m.num)/\Tch [] w3 wq) (fun _ jv _=>l'.length-(intOf jv).toNat)
     case atStart=>exact⟨0,_,Nat.zero_le _,rfl,rfl,World.ownsRow_nil _ _ _ _,Tch.refl _ _⟩
     case round=>
      obtain⟨j,v2,hj2,rfl,rfl,hv2,ht2⟩:=hrel;have HV2:Hid (wr.ownsRow w3.heap.size 3 1 u8 j ((l'.take j).map fun m=>.int .i64 m.num)):=hv2;have HT2:Hid (Tch [] w3 wr):=ht2;have z2:=ht2.size;have hgw:g<wr.heap.size:=by omega
      have hg3:g<w3.heap.size:=by omega
      clear hv2
      by_cases hlt:j<l'.length
      ·obtain⟨m,hm⟩:∃m,l'[j]=m:=⟨_,rfl⟩;have fm:∀i v,m.row[i]?=some v->wr.cell? ⟨g,j*5+i,none⟩=some v:=fun i v hi=>by
        have h1:=HCL.out j hlt i v (by rw[hm];exact hi);rw[<-h1];exact ht2.cell hg3 (by simp)
       have g0:wr.cell? ⟨g,j*5,none⟩=some (.int .i64 m.num):=fm 0 _ rfl;have g1:wr.cell? ⟨g,j*5+1,none⟩=some (.string m.grp):=fm 1 _ rfl;have g2:wr.cell? ⟨g,j*5+2,none⟩=some (.string m.bod):=fm 2 _ rfl;have g3:wr.cell? ⟨g,j*5+3,none⟩=some (.int .i64 m.rcv):=fm 3 _ rfl;have g4:wr.cell? ⟨g,j*5+4,none⟩=some (.int .i64 m.til):=fm 4 _ rfl;have HR:Hid (l'.take (j+1)=l'.take j++[m]):=by
        show _=_
        rw[List.take_add_one,List.getElem?_eq_getElem hlt,hm];rfl
       clear fm hm ht2;obtain⟨oa,oc,hoe⟩:=vf HV2.out;subst hoe;have hj3:j<D.length:=by omega
       go_wp2_with (at_builtin;refine zI w3.heap.size _ rfl _ _ 258 3 rfl Tryz.underlying258 (.int .i64 0) 1 8 b5I rfl (by decide) (by decide) (.slice oa j oc) j ((l'.take j).map fun m=>.int .i64 m.num) ?hys ?hyo ?hyb (wr.heap.size+1) [.int .i64 m.num] 1 ?hyx rfl (by decide) ?hyg ?hy1 (by omega) ?hyk)
       case hyo=>exact jf HV2.out (((Tch.refl [] _).alloc _).alloc _) (fun _ _=>by simp)
       case hys=>simp[Act.eval,Act.put]
       case hyx=>simp[Act.eval,Act.put]
       case hyb=>simp only[World.size_alloc];omega
       case hyg=>exact heap_alloc2_new _ _ _
       case hy1=>intro u hu;simp at hu;subst hu;rfl
       intro v2 w2 ho2 hg2 hb2;have HO2:Hid (w2.ownsRow w3.heap.size 3 1 v2 (j+1) ((l'.take (j+1)).map fun m=>.int .i64 m.num)/\Tch [] w3 w2):=by
        refine⟨by rw[HR.out];simpa using ho2,((HT2.out.alloc _).alloc _).grown hg2 (fun j hj hlt=>?_)⟩;have:=a4U HV2.out j hj;omega
       clear ho2 hg2 hb2;go_wp2_with fail;go_roundw
       case rel=>exact⟨j+1,v2,by omega,rfl,by go_num,HO2.out.1,HO2.out.2⟩
       case measure=>simp[intOf];omega
      ·have hje:j=l'.length:=by omega
       subst hje;clear ht2;obtain⟨oa,oc,hoe⟩:=vf HV2.out;subst hoe;have hDe:¬((l'.length:Int)<(D.length:Int)):=by omega
       have HF:Hid (wr.ownsRow w3.heap.size 3 1 (.slice oa D.length oc) l'.length (l'.map fun m=>.int .i64 m.num)):=by
        have h:=HV2.out;rw[List.take_length]at h
        show wr.ownsRow _ _ _ _ _ _
        rw[<-hle];exact h
       go_wp2_with fail;go_ret;refine⟨_,rfl,l',by rw[HD.out];exact HP.out.1,HP.out.2,a1F HF.out z3,HT3.out.trans HT2.out (fun x hx=>by simp at hx)⟩
end Go.Proofs.YtbdobaapadlcjaaGreatDoor
