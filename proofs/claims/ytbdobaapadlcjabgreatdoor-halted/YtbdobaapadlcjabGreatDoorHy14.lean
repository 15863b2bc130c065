import Derived.Test.YtbdobaapadlcjabGreatDoorHy13
set_option maxRecDepth 8000
set_option maxHeartbeats 4000000
set_option linter.unusedVariables false
set_option linter.unusedSimpArgs false
namespace Go.Proofs.YtbdobaapadlcjabGreatDoor
open Go.RowKit
variable {w w':World}{st b base size n qb:Nat}{v:Value}{xs:List Value}{V:QV}
theorem set_head {α:Type}(A D:Array α)(j:Nat)(v:α)(hj:j<A.size):(A++D).setIfInBounds j v=A.setIfInBounds j v++D:=by
 apply Array.toList_inj.1;rw[Array.toList_setIfInBounds,Array.toList_append,Array.toList_append,Array.toList_setIfInBounds,List.set_append_left _ _ (by simpa using hj)]
theorem get_head {α:Type}(A D:Array α)(j:Nat)(hj:j<A.size):(A++D)[j]?=A[j]?:=Array.getElem?_append_left hj
def stH (now:Int)(P:Nat->Value):Array Value:=#[.int .i64 now,P 0,P 1,P 2,P 3,P 4,P 5,P 6,P 7]
def stG (now:Int)(P:Nat->Value)(b:Nat):Array Value:=stH now P++deedsC b
def Stb (w:World)(st b:Nat)(now:Int)(P:Nat->Value):Prop:=w.heap[st]?=some (.cells (stG now P b) 94 (0,0))
theorem lt8 {i:Nat}(h:i<8):i=0\/i=1\/i=2\/i=3\/i=4\/i=5\/i=6\/i=7:=by omega
theorem stH_size (now:Int)(P:Nat->Value):(stH now P).size=9:=rfl
theorem Stb.get {now:Int}{P:Nat->Value}(h:Stb w st b now P)(j:Nat)(hj:j<9):w.cell? ⟨st,j,none⟩=(stH now P)[j]?:=
 (cell_of_row w st j _ 94 (0,0) h).trans (get_head _ _ _ (by rw[stH_size];exact hj))
theorem Stb.cell {now:Int}{P:Nat->Value}(h:Stb w st b now P)(i:Nat)(hi:i<8):w.cell? ⟨st,1+i,none⟩=some (P i):=by
 rw[h.get (1+i) (by omega)];rcases lt8 hi with rfl|rfl|rfl|rfl|rfl|rfl|rfl|rfl<;>rfl
theorem Stb.now {now:Int}{P:Nat->Value}(h:Stb w st b now P):w.cell? ⟨st,0,none⟩=some (.int .i64 now):=by
 rw[h.get 0 (by decide)];rfl
theorem Stb.lt {now:Int}{P:Nat->Value}(h:Stb w st b now P):st<w.heap.size:=lt_of_block h
theorem Stb.tch {now:Int}{P:Nat->Value}(h:Stb w st b now P){S:List Nat}(ht:Tch S w w')(hS:st∉S):Stb w' st b now P:=(ht.block _ h.lt hS).trans h
theorem Stb.fr {B:Nat}{T:List TypeId}{now:Int}{P:Nat->Value}(h:Stb w st b now P)(hf:Fr B T w w')(hT:94∉T):Stb w' st b now P:=hf.keep _ _ _ h hT
theorem Stb.fz {now:Int}{P:Nat->Value}(h:Stb w st b now P)(j:Nat):w.frozen? ⟨st,j,none⟩=false:=frozen_of_row w st j _ 94 h
def updP (P:Nat->Value)(i:Nat)(v:Value):Nat->Value:=fun j=>if j=i then v else P j
theorem stH_set (now:Int)(P:Nat->Value)(i:Nat)(hi:i<8)(v:Value):(stH now P).setIfInBounds (1+i) v=stH now (updP P i v):=by
 rcases lt8 hi with rfl|rfl|rfl|rfl|rfl|rfl|rfl|rfl<;>rfl
theorem Stb.set {now:Int}{P:Nat->Value}(h:Stb w st b now P)(i:Nat)(hi:i<8)(v:Value):Stb (w.setCell ⟨st,1+i,none⟩ v) st b now (updP P i v):=by
 have h1:=heap_setCell_same w st (1+i) _ 94 v h;unfold stG at h1;rw[set_head _ _ _ _ (by rw[stH_size];omega),stH_set now P i hi v]at h1;exact h1
theorem Stb.set0 {now:Int}{P:Nat->Value}(h:Stb w st b now P)(n:Int):Stb (w.setCell ⟨st,0,none⟩ (.int .i64 n)) st b n P:=by
 have h1:=heap_setCell_same w st 0 _ 94 (.int .i64 n) h;unfold stG at h1;rw[set_head _ _ _ _ (by rw[stH_size];omega)]at h1;exact h1
theorem at_g (st b i:Nat)(now:Int)(P:Nat->Value)(w:World)(h:Stb w st b now P)(hi:i<8):zE 153 #[.pointer (some ⟨st,0,none⟩),.int .u8 (97+(i:Int))] w (P i):=by
 have hc:=h.cell i hi;have hw0:IntKind.u8.wrap (97+(i:Int)-97)=(i:Int):=by
  have e:(97+(i:Int)-97)=(i:Int):=by omega
  rw[e,IntKind.wrap_u8];omega
 clear h;generalize P i=v at*
 go_enter Tryz.func153,Tryz.ntmps153
 go_wp2
 go_ret;exact⟨rfl,rfl⟩
def ptrV:Option Nat->Value
 | some q=>.pointer (some ⟨q,0,none⟩)
 | none=>.pointer none
theorem own_ge' {t:Nat}(h:w.ownsRow base t size v n xs):∀k,v.ownBlock=some k->base<=k:=fun k hk=>by
 rcases h.2 with ⟨rfl,_⟩|⟨g,cap,cur,rfl,hb,hg,rest⟩
 ·simp[Value.ownBlock]at hk
 ·simp only[Value.ownBlock,Option.some.injEq]at hk;omega
theorem own_shape' {e:Nat}(h:w.ownsRow base e size v n xs):∃a c,v=.slice a n c:=by
 rcases h.2 with ⟨h0,h1⟩|⟨g,cap,cur,h0,_⟩
 ·exact⟨none,0,by rw[h0,h1]⟩
 ·exact⟨_,_,h0⟩
theorem info152:(Tryz.prog.info? 88).map (fun i=>(i.zero,i.size,i.bytes))=some (some (.pointer none),1,8):=by kernel_rfl
theorem wpList_valsD (base:Nat)(w:World){ops:Array Oper}{rest:List Oper}{o:Oper}{a:Act}{Q:Exit->Act->World->Prop}(hgd:o.guard=none)(s x:Operand)(t te:TypeId)
  (ho:o.op=.call {callee:=.builtin .append,args:=#[s,x],argTypes:=#[t,t]})(ht:Tryz.prog.underlying t=some (.slice te))(z:Value)(size bytes:Nat)
  (hinfo:(Tryz.prog.info? te).map (fun i=>(i.zero,i.size,i.bytes))=some (some z,size,bytes))(hzs:z.cells.size=size)(hsz:0<size)(hby:bytes<=100)
  (v:Value)(n:Nat)(xs:List Value)(hs:a.eval s=v)(hown:w.ownsRow base te size v n xs)(hbase:base<=w.heap.size)(g:Nat)(news:List Value)(m:Nat)(hx:a.eval x=.slice (some ⟨g,0,none⟩) m m)(hm:news.length=m*size)(hm0:0<m)(hg:w.heap[g]?=some (.cells news.toArray te (0,0)))(hone:∀u∈news,u.oneCell'=true)(hn:n+m<=1073741824)
  (h:∀v' w',w'.ownsRow base te size v' (n+m) (xs++news)->w.grownBy w' v.ownBlock->(v'.ownBlock=v.ownBlock\/v'.ownBlock=some w.heap.size)->wpList Tryz.prog ops Q rest (a.put o.dst v') w'):wpList Tryz.prog ops Q (o::rest) a w:=by
 obtain⟨i0,hi,hz0,hz1,hz2⟩:=info_parts hinfo;refine wpList_app w hgd s x t ho base te i0 _ size bytes ht hi hz0 hz1 hz2 hzs hsz v n xs hs hown ⟨g,0,none⟩ m m news hx hm ?_ hone (by unfold maxLen;omega) ?_ hbase hm0 h
 ·intro j u hj;have e:(⟨g,0,none⟩:Addr).add j=⟨g,j,none⟩:=by unfold Addr.add;split<;>simp_all
  rw[e,cell_of_row w g j _ te (0,0) hg,<-hj];simp
 ·have h1:(n+m)*bytes<=1073741824*100:=Nat.mul_le_mul hn hby
  omega
theorem deadL_any (qb:Nat)(d:Int)(w:World)(c1:w.cell? ⟨qb,1,none⟩=some (.int .u8 d)):zE 190 #[.pointer (some ⟨qb,0,none⟩)] w (.int .u8 d):=by
 go_enter Tryz.func190,Tryz.ntmps190
 go_wp2
 go_ret;exact⟨rfl,rfl⟩
theorem deadOf_none (st qb:Nat)(w:World)(c1:w.cell? ⟨qb,1,none⟩=some (.int .u8 45)):zE 157 #[.pointer (some ⟨st,0,none⟩),.pointer (some ⟨qb,0,none⟩)] w (.pointer none):=by
 have HD:Hid (∀W,W=w->zE 190 #[.pointer (some ⟨qb,0,none⟩)] W (.int .u8 45)):=fun W h=>by rw[h];exact deadL_any qb 45 w c1
 go_enter Tryz.func157,Tryz.ntmps157;go_wp2_with (go_at_call 190;refine(HD.out _ rfl).mono ?_;rintro e w' ⟨rfl,rfl⟩);go_ret;exact⟨rfl,rfl⟩
theorem deadOf_some (st b qb i:Nat)(now:Int)(P:Nat->Value)(w:World)(h:Stb w st b now P)(hi:i<8)(c1:w.cell? ⟨qb,1,none⟩=some (.int .u8 (97+(i:Int)))):zE 157 #[.pointer (some ⟨st,0,none⟩),.pointer (some ⟨qb,0,none⟩)] w (P i):=by
 have HD:Hid (∀W,W=w->zE 190 #[.pointer (some ⟨qb,0,none⟩)] W (.int .u8 (97+(i:Int)))):=fun W h=>by rw[h];exact deadL_any qb _ w c1
 have HA:Hid (∀W,W=w->zE 153 #[.pointer (some ⟨st,0,none⟩),.int .u8 (97+(i:Int))] W (P i)):=fun W hW=>by rw[hW];exact at_g st b i now P w h hi
 have hne:((97+(i:Int)) == 45)=false:=beq_eq_false_iff_ne.2 (by omega);generalize P i=v at*
 clear h;go_enter Tryz.func157,Tryz.ntmps157;go_wp2_with (first|(go_at_call 190;refine(HD.out _ rfl).mono ?_;rintro e w' ⟨rfl,rfl⟩)|(go_at_call 153;refine(HA.out _ rfl).mono ?_;rintro e w' ⟨rfl,rfl⟩));go_ret;exact⟨rfl,rfl⟩
def qsL (Pq:Nat->Option Nat)(k:Nat):List Nat:=(List.range k).filterMap Pq
theorem qsL_succ (Pq:Nat->Option Nat)(k:Nat):qsL Pq (k+1)=qsL Pq k++(Pq k).toList:=by
 unfold qsL;rw[List.range_succ,List.filterMap_append]
 cases h:Pq k<;>simp[h]
theorem qsL_len (Pq:Nat->Option Nat)(k:Nat):(qsL Pq k).length<=k:=by
 unfold qsL;have:=List.length_filterMap_le Pq (List.range k);simpa using this
theorem idx8_0 (p0 p1 p2 p3 p4 p5 p6 p7:Value)(W:World):(Instr.index 89 (.agg #[p0,p1,p2,p3,p4,p5,p6,p7]) (.int .i64 0)).run Tryz.prog W=.ok p0 W:=by kernel_rfl
theorem idx8_1 (p0 p1 p2 p3 p4 p5 p6 p7:Value)(W:World):(Instr.index 89 (.agg #[p0,p1,p2,p3,p4,p5,p6,p7]) (.int .i64 1)).run Tryz.prog W=.ok p1 W:=by kernel_rfl
theorem idx8_2 (p0 p1 p2 p3 p4 p5 p6 p7:Value)(W:World):(Instr.index 89 (.agg #[p0,p1,p2,p3,p4,p5,p6,p7]) (.int .i64 2)).run Tryz.prog W=.ok p2 W:=by kernel_rfl
theorem idx8_3 (p0 p1 p2 p3 p4 p5 p6 p7:Value)(W:World):(Instr.index 89 (.agg #[p0,p1,p2,p3,p4,p5,p6,p7]) (.int .i64 3)).run Tryz.prog W=.ok p3 W:=by kernel_rfl
theorem idx8_4 (p0 p1 p2 p3 p4 p5 p6 p7:Value)(W:World):(Instr.index 89 (.agg #[p0,p1,p2,p3,p4,p5,p6,p7]) (.int .i64 4)).run Tryz.prog W=.ok p4 W:=by kernel_rfl
theorem idx8_5 (p0 p1 p2 p3 p4 p5 p6 p7:Value)(W:World):(Instr.index 89 (.agg #[p0,p1,p2,p3,p4,p5,p6,p7]) (.int .i64 5)).run Tryz.prog W=.ok p5 W:=by kernel_rfl
theorem idx8_6 (p0 p1 p2 p3 p4 p5 p6 p7:Value)(W:World):(Instr.index 89 (.agg #[p0,p1,p2,p3,p4,p5,p6,p7]) (.int .i64 6)).run Tryz.prog W=.ok p6 W:=by kernel_rfl
theorem idx8_7 (p0 p1 p2 p3 p4 p5 p6 p7:Value)(W:World):(Instr.index 89 (.agg #[p0,p1,p2,p3,p4,p5,p6,p7]) (.int .i64 7)).run Tryz.prog W=.ok p7 W:=by kernel_rfl
theorem idx8 (P:Nat->Value)(k:Nat)(hk:k<8)(W:World):(Instr.index 89 (.agg #[P 0,P 1,P 2,P 3,P 4,P 5,P 6,P 7]) (.int .i64 (k:Int))).run Tryz.prog W=.ok (P k) W:=by
 rcases lt8 hk with rfl|rfl|rfl|rfl|rfl|rfl|rfl|rfl
 ·exact idx8_0 _ _ _ _ _ _ _ _ W
 ·exact idx8_1 _ _ _ _ _ _ _ _ W
 ·exact idx8_2 _ _ _ _ _ _ _ _ W
 ·exact idx8_3 _ _ _ _ _ _ _ _ W
 ·exact idx8_4 _ _ _ _ _ _ _ _ W
 ·exact idx8_5 _ _ _ _ _ _ _ _ W
 ·exact idx8_6 _ _ _ _ _ _ _ _ W
 ·exact idx8_7 _ _ _ _ _ _ _ _ W
theorem there_g (st b:Nat)(now:Int)(Pq:Nat->Option Nat)(w:World)(h:Stb w st b now (fun i=>ptrV (Pq i))):
  Calls Tryz.prog 47 #[.pointer (some ⟨st,0,none⟩)] w fun e w'=>∃v,e=.returned v/\w'.ownsRow w.heap.size 88 1 v (qsL Pq 8).length ((qsL Pq 8).map fun q=>.pointer (some ⟨q,0,none⟩))/\Tch [] w w':=by
 have HC:=fun i hi=>h.cell i hi
 have c1:w.cell? ⟨st,1,none⟩=some (ptrV (Pq 0)):=HC 0 (by decide);have c2:w.cell? ⟨st,2,none⟩=some (ptrV (Pq 1)):=HC 1 (by decide);have c3:w.cell? ⟨st,3,none⟩=some (ptrV (Pq 2)):=HC 2 (by decide);have c4:w.cell? ⟨st,4,none⟩=some (ptrV (Pq 3)):=HC 3 (by decide);have c5:w.cell? ⟨st,5,none⟩=some (ptrV (Pq 4)):=HC 4 (by decide);have c6:w.cell? ⟨st,6,none⟩=some (ptrV (Pq 5)):=HC 5 (by decide);have c7:w.cell? ⟨st,7,none⟩=some (ptrV (Pq 6)):=HC 6 (by decide);have c8:w.cell? ⟨st,8,none⟩=some (ptrV (Pq 7)):=HC 7 (by decide);have HIX:Hid (∀k:Nat,k<8->∀W:World,(Instr.index 89 (.agg #[ptrV (Pq 0),ptrV (Pq 1),ptrV (Pq 2),ptrV (Pq 3),ptrV (Pq 4),ptrV (Pq 5),ptrV (Pq 6),ptrV (Pq 7)]) (.int .i64 (k:Int))).run Tryz.prog W=.ok (ptrV (Pq k)) W):=fun k hk W=>idx8 (fun i=>ptrV (Pq i)) k hk W
 clear h HC;go_enter Tryz.func47,Tryz.ntmps47;go_wp2_with fail
 go_loopw [3,10] (fun ov kv wr=>∃(k:Nat) (v:Value),k<=8/\ov=v/\kv=.int .i64 (k:Int)/\wr.ownsRow w.heap.size 88 1 v (qsL Pq k).length ((qsL Pq k).map fun q=>.pointer (some ⟨q,0,none⟩))/\Tch [] w wr) (fun _ kv _=>8-(intOf kv).toNat)
 case atStart=>exact⟨0,_,by decide,rfl,rfl,World.ownsRow_nil _ _ _ _,Tch.refl _ _⟩
 case round=>
  obtain⟨k,v,hk,rfl,rfl,ho,ht⟩:=hrel;have HO:=zH ho;have HT:=zH ht;have zr:=ht.size;have hln:=qsL_len Pq k;clear ho ht
  by_cases hlt:k<8
  ·have hix:=HIX.out k hlt;have HS:Hid (qsL Pq (k+1)=qsL Pq k++(Pq k).toList):=qsL_succ Pq k
   cases hp:Pq k with
   | none=>
    have HR:Hid (qsL Pq (k+1)=qsL Pq k):=by show _=_;rw[HS.out,hp];simp
    rw[hp]at hix;have hix':∀W:World,(Instr.index 89 (.agg #[ptrV (Pq 0),ptrV (Pq 1),ptrV (Pq 2),ptrV (Pq 3),ptrV (Pq 4),ptrV (Pq 5),ptrV (Pq 6),ptrV (Pq 7)]) (.int .i64 (k:Int))).run Tryz.prog W=.ok (.pointer none) W:=hix;clear hix hp HS;go_wp2_with fail;go_roundw
    case rel=>exact⟨k+1,_,by omega,rfl,by go_num,by rw[HR.out];exact HO.out,HT.out⟩
    case measure=>simp[intOf];omega
   | some q=>
    have HR:Hid (qsL Pq (k+1)=qsL Pq k++[q]):=by show _=_;rw[HS.out,hp];rfl
    rw[hp]at hix;have hix':∀W:World,(Instr.index 89 (.agg #[ptrV (Pq 0),ptrV (Pq 1),ptrV (Pq 2),ptrV (Pq 3),ptrV (Pq 4),ptrV (Pq 5),ptrV (Pq 6),ptrV (Pq 7)]) (.int .i64 (k:Int))).run Tryz.prog W=.ok (.pointer (some ⟨q,0,none⟩)) W:=hix;clear hix hp HS;obtain⟨oa,oc,hoe⟩:=own_shape' HO.out;subst hoe;go_wp2_with (at_builtin;refine wpList_valsD w.heap.size _ rfl _ _ 95 88 rfl Tryz.underlying95 (.pointer none) 1 8 info152 rfl (by decide) (by decide) (.slice oa (qsL Pq k).length oc) (qsL Pq k).length ((qsL Pq k).map fun q=>.pointer (some ⟨q,0,none⟩)) ?hvs ?hvo ?hvb wr.heap.size [.pointer (some ⟨q,0,none⟩)] 1 ?hvx rfl (by decide) ?hvg ?hv1 (by omega) ?hvk)
    case hvs=>simp[Act.eval,Act.put]
    case hvo=>exact own_tch HO.out ((Tch.refl [] _).alloc _) (fun _ _=>by simp)
    case hvb=>rw[World.size_alloc];omega
    case hvx=>simp[Act.eval,Act.put]
    case hvg=>exact heap_alloc_new _ _
    case hv1=>intro u hu;simp at hu;subst hu;rfl
    intro v2 w2 ho2 hg2 hb2;have HO2:Hid (w2.ownsRow w.heap.size 88 1 v2 (qsL Pq (k+1)).length ((qsL Pq (k+1)).map fun q=>.pointer (some ⟨q,0,none⟩))/\Tch [] w w2):=by
     refine⟨by rw[HR.out];simpa using ho2,(HT.out.alloc _).grown hg2 (fun j hj hlt=>?_)⟩;have:=own_ge' HO.out j hj;omega
    clear ho2 hg2 hb2;go_wp2_with fail;go_roundw
    case rel=>exact⟨k+1,v2,by omega,rfl,by go_num,HO2.out.1,HO2.out.2⟩
    case measure=>simp[intOf];omega
  ·have hke:k=8:=by omega
   subst hke;go_wp2_with fail;go_ret;exact⟨_,rfl,HO.out,HT.out⟩
theorem appTx_any (base:Nat)(v:Value)(l:List UInt8)(a:Option Addr)(cap:Nat)(bs:List ByteArray)(w:World)(hbs:∀s∈bs,s.size<=65535)(hn:bs.length<=65535)(hl:l.length<=1200000000)(hb:base<=w.heap.size)(hown:OwnB w base v l)
  (hS:∀j (h:j<bs.length),∃b o,a=some ⟨b,o,none⟩/\b<base/\w.cell? ⟨b,o+j,none⟩=some (.string bs[j])):
  Calls Tryz.prog 91 #[v,.slice a bs.length cap] w fun e w'=>∃v',e=.returned v'/\OwnB w' base v' (l++(lowB bs.length 1++txtsB bs))/\BF base w w':=by
 have hnum:Hid (Calls Tryz.prog 46 #[v,.int .i64 (bs.length:Int),.int .i64 1] w fun e w'=>∃v',e=.returned v'/\OwnB w' base v' (l++lowB bs.length 1)/\Below base w w'/\Fr 0 [5] w w'):=
  appendNumber_f base v l bs.length 1 w (by omega) (by decide) (by omega) hb hown
 have HS:=zH hS;have HBS:=zH hbs;clear hS hown hbs;go_enter Tryz.func91,Tryz.ntmps91;go_wp2_with fail;refine(hnum.out).mono ?_;rintro e w1 ⟨v1,rfl,ho1,hb1,hf1⟩;have hle:Hid ((l++lowB bs.length 1).length<=1200000100):=by show _<=_;rw[List.length_append,lowB_length];omega
 have hls:Hid (l++(lowB bs.length 1++txtsB bs)=(l++lowB bs.length 1)++txtsB bs):=by
  show _=_
  rw[List.append_assoc]
 generalize l++lowB bs.length 1=L at ho1 hle hls;have HO:=zH ho1;have HB:Hid (BF base w w1):=⟨hb1,hf1⟩;clear ho1 hb1 hf1;go_wp2_with fail
 go_loopw [0,13] (fun o i wr=>∃k:Nat,k<=bs.length/\i=.int .i64 k/\OwnB wr base o (L++txtsB (bs.take k))/\BF base w wr) (fun _ i _=>bs.length-(intOf i).toNat)
 case atStart=>exact⟨0,Nat.zero_le _,rfl,by simpa [txtsB]using HO.out,HB.out⟩
 case round=>
  obtain⟨k,hk,rfl,ho,hbr⟩:=hrel
  by_cases hlt:k<bs.length
  ·obtain⟨lb,lo,rfl,hlb,hck⟩:=HS.out k hlt;have hck':=(hbr.1.cell (p:=⟨lb,lo+k,none⟩) hlb).trans hck;have hsz:=hbr.size;have hlk:(L++txtsB (bs.take k)).length<=1099511627776:=by
    rw[List.length_append];have h1:=txtsB_length (bs.take k) (fun s hs=>HBS.out s (List.mem_of_mem_take hs));have h2:=hle.out;rw[List.length_take]at h1;omega
   have htk:Hid (L++txtsB (bs.take (k+1))=(L++txtsB (bs.take k))++txtB bs[k]):=by
    show _=_
    rw[List.take_succ_eq_append_getElem hlt,txtsB,List.flatMap_append,List.flatMap_singleton,<-List.append_assoc];rfl
   have hx:=HBS.out bs[k] (List.getElem_mem hlt);generalize bs[k]=x at hck' htk hx hck;have ht:Hid (Calls Tryz.prog 90 #[u0,.string x] wr fun e w'=>∃v',e=.returned v'/\OwnB w' base v' ((L++txtsB (bs.take k))++txtB x)/\Below base wr w'/\Fr 0 [5] wr w'):=
    appendText_f base u0 _ x wr hx hlk (by omega) ho
   rw[<-htk.out]at ht;have HBR:=zH hbr;clear ho hbr hck hlk htk;go_wp2_with fail;refine(ht.out).mono ?_;rintro e w2 ⟨v2,rfl,ho2,hb2,hf2⟩;have HO2:=zH ho2;have HB2:=zH (HBR.out.trans ⟨hb2,hf2⟩);clear ho2 hb2 hf2;go_wp2_with fail;go_roundw
   case rel=>exact⟨k+1,by omega,by go_num,HO2.out,HB2.out⟩
   case measure=>simp[intOf];omega
  ·have he:bs.take k=bs:=List.take_of_length_le (by omega);rw[he]at ho;rw[<-hls.out]at ho;have HO2:=zH ho;have HBR:=zH hbr;clear he ho hbr;go_wp2_with fail;go_ret;exact⟨_,rfl,HO2.out,HBR.out⟩
structure QOk (Q:QM):Prop where
 c:CoK Q.c
 nx:Q.next<4294967296
 ml:Q.ms.length<=50
 ms:∀m∈Q.ms,MsW m
 rl:Q.rs.length<=50
 rs:∀s∈Q.rs,s.size<=8
 dl:Q.ds.length<=200
 ds:∀m∈Q.ds,DdW m
 al:Q.ats.length<=20
 ats:∀m∈Q.ats,AtW m
def msL (Q:QM):List UInt8:=lowB Q.ms.length 1++Q.ms.flatMap msB
def rsL (Q:QM):List UInt8:=lowB Q.rs.length 1++txtsB Q.rs
def dsL (Q:QM):List UInt8:=lowB Q.ds.length 1++Q.ds.flatMap ddB
def atL (Q:QM):List UInt8:=lowB Q.ats.length 1++Q.ats.flatMap atB
def allB (Q:QM):List UInt8:=((((setB Q.c++lowB Q.next 4)++msL Q)++rsL Q)++dsL Q)++atL Q
theorem QOk.lens {Q:QM}(h:QOk Q):(msL Q).length<=3001/\(rsL Q).length<=451/\(dsL Q).length<=3401/\(atL Q).length<=12301:=by
 have h1:=flt_len msB 60 Q.ms (fun m hm=>by have h2:=h.ms m hm;rw[msB_len];have:=h2.grp;have:=h2.bod;omega);have h2:=flt_len txtB 9 Q.rs (fun s hs=>by have:=h.rs s hs;rw[txtB_length];omega);have h3:=flt_len ddB 17 Q.ds (fun m hm=>by have h2:=h.ds m hm;rw[ddB_len];have:=h2.id;omega);have h4:=flt_len atB 615 Q.ats (fun m hm=>by have h2:=h.ats m hm;rw[atB_len];have:=h2.id;have:=h2.ans;omega);have:=h.ml;have:=h.rl;have:=h.dl;have:=h.al;refine⟨?_,?_,?_,?_⟩<;>(simp only[msL,rsL,dsL,atL,txtsB,List.length_append,lowB_length];omega)
theorem QR.rsc {Q:QM}(h:QR w qb V Q)(base:Nat)(hlo:∀b∈qbl qb V,b<base):∃a c,V.r=.slice a Q.rs.length c/\∀j (hj:j<Q.rs.length),∃b o,a=some ⟨b,o,none⟩/\b<base/\w.cell? ⟨b,o+j,none⟩=some (.string Q.rs[j]):=by
 have hh:=h.r;rcases hh.2 with ⟨h0,h1⟩|⟨g,cap,cur,h0,hb,hg,h5,h6,h7,h8⟩
 ·exact⟨none,0,by rw[h0,h1],fun j hj=>by omega⟩
 ·refine⟨_,_,h0,fun j hj=>⟨g,0,rfl,hlo g (mem_qbl.2 (.inr (.inr (.inl (by rw[h0];rfl))))),?_⟩⟩
  have inh:Inhabited ByteArray:=⟨⟨#[]⟩⟩;have hm:w.ownsRow 0 9 1 (.slice (some ⟨g,0,none⟩) Q.rs.length cap) Q.rs.length (Q.rs.flatMap fun s=>[Value.string s]):=by
   rw[<-h0];have e:(Q.rs.flatMap fun s=>[Value.string s])=Q.rs.map Value.string:=by induction Q.rs<;>simp_all
   rw[e];exact hh
  have h1:=own_cells (fun s:ByteArray=>[Value.string s]) 1 (fun _=>rfl) hm j hj 0 (.string Q.rs[j]) (by rw[List.getElem!_eq_getElem?_getD,List.getElem?_eq_getElem hj];rfl);simpa using h1
theorem appAll_any (base:Nat)(v:Value)(l:List UInt8)(Q:QM)(V:QV)(qb:Nat)(w:World)(h:QR w qb V Q)(hlo:∀b∈qbl qb V,b<base)(hQ:QOk Q)(hl:l.length<=900000000)(hb:base<=w.heap.size)(hown:OwnB w base v l):
  Calls Tryz.prog 71 #[.pointer (some ⟨qb,0,none⟩),v] w fun e w'=>∃v',e=.returned v'/\OwnB w' base v' (l++allB Q)/\BF base w w':=by
 have HQ:Hid (∀W,BF base w W->QR W qb V Q):=fun W hW=>h.below hlo hW.1
 have HLO:=zH hlo;have lqb:=hlo qb (by simp[qbl]);have HL:=zH hQ.lens;have hsl:=setB_length Q.c;have HK:Hid (QOk Q):=hQ;have H1:Hid (Calls Tryz.prog 95 #[.pointer (some ⟨qb,0,none⟩),v] w fun e w'=>∃v',e=.returned v'/\OwnB w' base v' (l++setB Q.c)/\BF base w w'):=appSet_any base v l Q V qb w h hlo hQ.c (by omega) hb hown;clear h hown hQ hlo;go_enter Tryz.func71,Tryz.ntmps71;go_wp2_with fail;refine H1.out.mono ?_;rintro e w1 ⟨v1,rfl,ho1,hb1⟩;have q1:=HQ.out w1 hb1;have z1:=hb1.size;have d6:w1.cell? ⟨qb,6,none⟩=some (.int .i64 (Q.next:Int)):=cell_qC q1.blk 6 _ rfl;have hl1:(l++setB Q.c).length<=900000007:=by rw[List.length_append];omega
 obtain⟨A1,HA1⟩:∃A,Hid (A=l++setB Q.c):=⟨_,rfl⟩;rw[<-HA1.out]at ho1 hl1;have H2:Hid (Calls Tryz.prog 46 #[v1,.int .i64 (Q.next:Int),.int .i64 4] w1 fun e w'=>∃v',e=.returned v'/\OwnB w' base v' (A1++lowB Q.next 4)/\Below base w1 w'/\Fr 0 [5] w1 w'):=appendNumber_f base v1 A1 Q.next 4 w1 HK.out.nx (by decide) (by omega) (by omega) ho1;have HB1:Hid (BF base w w1):=hb1;have lq1:qb<w1.heap.size:=by omega
 clear ho1 hb1 q1 H1;go_wp2_with fail;refine H2.out.mono ?_;rintro e w2 ⟨v2,rfl,ho2,hb2,hf2⟩;have HB2:Hid (BF base w w2):=HB1.out.trans ⟨hb2,hf2⟩;have z2:=hb2.size;have hl2:(A1++lowB Q.next 4).length<=900000011:=by rw[List.length_append,lowB_length];omega
 obtain⟨A2,HA2⟩:∃A,Hid (A=A1++lowB Q.next 4):=⟨_,rfl⟩;rw[<-HA2.out]at ho2 hl2;have H3:Hid (Calls Tryz.prog 96 #[.pointer (some ⟨qb,0,none⟩),v2] w2 fun e w'=>∃v',e=.returned v'/\OwnB w' base v' (A2++msL Q)/\BF base w2 w'):=appMs_any base v2 A2 Q V qb w2 (HQ.out w2 HB2.out) HLO.out (by have:=HK.out.ml;omega) HK.out.ms (by omega) (by omega) ho2;clear ho2 hb2 hf2 H2 d6;go_wp2_with fail;refine H3.out.mono ?_;rintro e w3 ⟨v3,rfl,ho3,hb3⟩;have HB3:Hid (BF base w w3):=HB2.out.trans hb3;have z3:=hb3.size;have hl3:(A2++msL Q).length<=901000000:=by rw[List.length_append];have:=HL.out.1;omega
 obtain⟨A3,HA3⟩:∃A,Hid (A=A2++msL Q):=⟨_,rfl⟩;rw[<-HA3.out]at ho3 hl3;have q3:=HQ.out w3 HB3.out;obtain⟨ar,cr,hvr,hcr⟩:=q3.rsc base HLO.out;have d8:w3.cell? ⟨qb,8,none⟩=some (.slice ar Q.rs.length cr):=by rw[<-hvr];exact cell_qC q3.blk 8 _ rfl
 have H4:Hid (Calls Tryz.prog 91 #[v3,.slice ar Q.rs.length cr] w3 fun e w'=>∃v',e=.returned v'/\OwnB w' base v' (A3++rsL Q)/\BF base w3 w'):=appTx_any base v3 A3 ar cr Q.rs w3 (fun s hs=>by have:=HK.out.rs s hs;omega) (by have:=HK.out.rl;omega) (by omega) (by omega) ho3 hcr;clear ho3 hb3 q3 hcr hvr H3;go_wp2_with fail;refine H4.out.mono ?_;rintro e w4 ⟨v4,rfl,ho4,hb4⟩;have HB4:Hid (BF base w w4):=HB3.out.trans hb4;have z4:=hb4.size;have hl4:(A3++rsL Q).length<=908000000:=by rw[List.length_append];have:=HL.out.2.1;omega
 obtain⟨A4,HA4⟩:∃A,Hid (A=A3++rsL Q):=⟨_,rfl⟩;rw[<-HA4.out]at ho4 hl4;have H5:Hid (Calls Tryz.prog 97 #[.pointer (some ⟨qb,0,none⟩),v4] w4 fun e w'=>∃v',e=.returned v'/\OwnB w' base v' (A4++dsL Q)/\BF base w4 w'):=appDs_any base v4 A4 Q V qb w4 (HQ.out w4 HB4.out) HLO.out (by have:=HK.out.dl;omega) HK.out.ds (by omega) (by omega) ho4;clear ho4 hb4 H4 d8;go_wp2_with fail;refine H5.out.mono ?_;rintro e w5 ⟨v5,rfl,ho5,hb5⟩;have HB5:Hid (BF base w w5):=HB4.out.trans hb5;have z5:=hb5.size;have hl5:(A4++dsL Q).length<=909000000:=by rw[List.length_append];have:=HL.out.2.2.1;omega
 obtain⟨A5,HA5⟩:∃A,Hid (A=A4++dsL Q):=⟨_,rfl⟩;rw[<-HA5.out]at ho5 hl5;have H6:=zH (appAs_any base v5 A5 Q V qb w5 (HQ.out w5 HB5.out) HLO.out (by have:=HK.out.al;omega) HK.out.ats (by omega) (by omega) ho5);clear ho5 hb5 H5;go_wp2_with fail;refine H6.out.mono ?_;rintro e w6 ⟨v6,rfl,ho6,hb6⟩;have HF:Hid (OwnB w6 base v6 (l++allB Q)/\BF base w w6):=by
  refine⟨?_,HB5.out.trans hb6⟩;have e:l++allB Q=A5++atL Q:=by rw[HA5.out,HA4.out,HA3.out,HA2.out,HA1.out];simp only[allB,List.append_assoc]
  rw[e];exact ho6
 clear ho6 hb6 H6;go_wp2_with fail;go_ret;exact⟨_,rfl,HF.out.1,HF.out.2⟩
theorem show_any (Q:QM)(V:QV)(qb:Nat)(now:Int)(r:Wp.Rq)(x:Sl)(w:World)(h:QR w qb V Q)(hQ:QOk Q):
  Calls Tryz.prog 126 #[.pointer (some ⟨qb,0,none⟩),.int .i64 now,.agg (cellsOf r x.v)] w fun e w'=>∃v,e=.returned (.tuple #[v,.nilFunc,.int .i64 0])/\OwnB w' w.heap.size v (allB Q)/\Tch [] w w':=by
 have cells:cellsOf r x.v=#[.int .u8 (r.op.toNat:Int),.int .u8 (r.q.toNat:Int),.int .u8 (r.d.toNat:Int),.int .i64 r.vis,.int .i64 r.win,.int .i64 r.rcv,.int .i64 r.quo,.int .i64 r.mx,.int .i64 r.tic,.string r.grp,.string r.ded,.string r.bod,.string r.att,.string r.han,.slice x.a x.n x.c]:=rfl;have H1:Hid (∀W,BF w.heap.size w W->Calls Tryz.prog 71 #[.pointer (some ⟨qb,0,none⟩),.slice none 0 0] W fun e w'=>∃v',e=.returned v'/\OwnB w' w.heap.size v' ([]++allB Q)/\BF w.heap.size W w'):=fun W hb=>appAll_any w.heap.size _ [] Q V qb W (h.below h.lt hb.1) h.lt hQ (by simp) hb.size (World.ownsRow_nil _ _ _ _)
 rw[cells];clear cells h;go_enter Tryz.func126,Tryz.ntmps126;have HB0:Hid (∀o,BF w.heap.size w (w.alloc o)):=fun o=>(BF.refl _ _).alloc (Nat.le_refl _) o
 go_wp2_with (go_at_call 71;refine(H1.out _ (HB0.out _)).mono ?_;rintro e w1 ⟨v1,rfl,ho1,hb1⟩);go_ret3;exact⟨_,rfl,ho1,(Tch.of_below ((HB0.out _).trans hb1).1)⟩
theorem append_any (base:Nat)(v:Value)(l:List UInt8)(Q:QM)(V:QV)(qb:Nat)(w:World)(h:QR w qb V Q)(hlo:∀b∈qbl qb V,b<base)(hQ:QOk Q)(hl:l.length<=800000000)(hb:base<=w.heap.size)(hown:OwnB w base v l):
  Calls Tryz.prog 48 #[.pointer (some ⟨qb,0,none⟩),v] w fun e w'=>∃v',e=.returned v'/\OwnB w' base v' (l++(Q.c.q::allB Q))/\BF base w w':=by
 obtain⟨i0,hi,hz0,hz1,hz2⟩:=info_parts info5;have HQ:Hid (∀W,BF base w W->QR W qb V Q):=fun W hW=>h.below hlo hW.1
 have HLO:=zH hlo;have lqb:=hlo qb (by simp[qbl]);have HK:=zH hQ;have c0:w.cell? ⟨qb,0,none⟩=some (.int .u8 (Q.c.q.toNat:Int)):=cell_qC h.blk 0 _ rfl;have HO:=zH hown;clear h hown hQ hlo;go_enter Tryz.func48,Tryz.ntmps48;go_wp2_with (at_builtin;refine wpList_append_own _ rfl _ _ 54 rfl base 5 i0 (.int .u8 0) 1 1 Tryz.underlying54 hi hz0 hz1 hz2 rfl (by decide) _ _ _ rfl (World.ownsRow.alloc HO.out _) ⟨w.heap.size,0,none⟩ 1 1 [.int .u8 (Q.c.q.toNat:Int)] rfl rfl ?c1 ?c2 ?c3 ?c4 ?c5 ?_)
 case c1=>exact cell_one_new _ _ _
 case c2=>intro u hu;simp at hu;subst hu;rfl
 case c3=>unfold maxLen;omega
 case c4=>omega
 case c5=>simp;omega
 intro v4 w4 hown' hgrow _;have ho4:OwnB w4 base v4 (l++[Q.c.q]):=OwnB.snoc rfl hown';have hb4:BF base w w4:=by
  exact BF.grown ((BF.refl _ _).alloc (by omega) _) (World.ownsRow.alloc HO.out _) hgrow (by simp;omega)
 have z4:=hb4.size;have H4:Hid (Calls Tryz.prog 71 #[.pointer (some ⟨qb,0,none⟩),v4] w4 fun e w'=>∃v',e=.returned v'/\OwnB w' base v' ((l++[Q.c.q])++allB Q)/\BF base w4 w'):=appAll_any base v4 _ Q V qb w4 (HQ.out w4 hb4) HLO.out HK.out (by rw[List.length_append];simp;omega) (by omega) ho4;have HB4:=zH hb4;clear hown' hgrow ho4 hb4 c0;go_wp2_with fail;refine H4.out.mono ?_;rintro e w5 ⟨v5,rfl,ho5,hb5⟩;have H5:Hid (OwnB w5 base v5 (l++(Q.c.q::allB Q))/\BF base w w5):=⟨by rw[List.append_assoc]at ho5;exact ho5,HB4.out.trans hb5⟩;clear ho5 hb5 H4;go_wp2_with fail;go_ret;exact⟨_,rfl,H5.out.1,H5.out.2⟩
def putL (T:QM)(l:List Ms):QM:=l.foldl (fun T m=>putQ T m.grp m.bod) T
theorem putL_snoc (T:QM)(l:List Ms)(m:Ms):putL T (l++[m])=putQ (putL T l) m.grp m.bod:=by simp[putL,List.foldl_append]
theorem putL_next (T:QM)(l:List Ms):(putL T l).next=T.next+l.length:=by
 unfold putL
 induction l generalizing T with
 | nil=>rfl
 | cons m l ih=>rw[List.foldl_cons,ih,List.length_cons];show T.next+1+l.length=_;omega
theorem putL_len (T:QM)(l:List Ms):(putL T l).ms.length=T.ms.length+l.length:=by
 unfold putL
 induction l generalizing T with
 | nil=>rfl
 | cons m l ih=>
  rw[List.foldl_cons,ih,List.length_cons]
  show (T.ms++_).length+l.length=_
  rw[List.length_append,List.length_singleton];omega
theorem putL_rs (T:QM)(l:List Ms):(putL T l).rs.length<=T.rs.length+l.length:=by
 unfold putL
 induction l generalizing T with
 | nil=>exact Nat.le_refl _
 | cons m l ih=>
  rw[List.foldl_cons,List.length_cons];have h1:=ih (putQ T m.grp m.bod);have h2:(putQ T m.grp m.bod).rs.length<=T.rs.length+1:=by
   show (if _ then T.rs++[m.grp] else T.rs).length<=_
   rw[rs_len]
   split<;>omega
  omega
theorem filt_succ (g:ByteArray)(l:List Ms)(j:Nat)(hj:j<l.length):(l.take (j+1)).filter (isG g)=(l.take j).filter (isG g)++if isG g l[j]=true then [l[j]] else []:=by
 rw[List.take_succ_eq_append_getElem hj,List.filter_append];congr 1
 by_cases h:isG g l[j]=true
 ·simp[h]
 ·simp[h]
def Apart (qb:Nat)(V:QV)(qt:Nat)(VT:QV):Prop:=∀k∈qbl qb V,k∉qbl qt VT
theorem move_any (Q T:QM)(V VT:QV)(qb qt:Nat)(gr:ByteArray)(w:World)(h:QR w qb V Q)(hT:QR w qt VT T)(hap:Apart qb V qt VT)(hl:Q.ms.length<=1000)(hm:T.ms.length+cntG gr Q.ms<=1000)(hr:T.rs.length+cntG gr Q.ms<=1000)(hn:T.next+cntG gr Q.ms<=201):
  Calls Tryz.prog 189 #[.pointer (some ⟨qb,0,none⟩),.string gr,.pointer (some ⟨qt,0,none⟩)] w fun e w'=>e=.returned (.tuple #[])/\∃V' VT',QR w' qb V' {Q with ms:=Q.ms.filter (fun x=>!isG gr x)}/\QR w' qt VT' (putL T (Q.ms.filter (isG gr)))/\Tch (qbl qb V++qbl qt VT) w w'/\(∀k∈qbl qb V',k∈qbl qb V)/\(∀k∈qbl qt VT',k∈qbl qt VT\/w.heap.size<=k):=by
 obtain⟨am,cm,hvm⟩:=own_shape h.m;obtain⟨wb,hwb⟩:∃wb,wb=w.alloc (.cells #[.string gr] 9):=⟨_,rfl⟩;have tb:Tch [] w wb:=by rw[hwb];exact(Tch.refl _ _).alloc _
 have HBX:Hid (wb.heap[w.heap.size]?=some (.cells #[.string gr] 9 (0,0))):=by rw[hwb];exact heap_alloc_new _ _
 have c7:w.cell? ⟨qb,7,none⟩=some (.slice am Q.ms.length cm):=by rw[<-hvm];exact cell_qC h.blk 7 _ rfl
 have lq:=h.blk.lt;have zb:wb.heap.size=w.heap.size+1:=by rw[hwb];simp
 have HQ:=zH h;have HT:=zH hT;have HV:=zH hvm;have HAP:=zH hap;have TB:=zH tb;have HLT:=zH h.lt;have HTT:=zH hT.lt;clear h hT hvm tb hap;go_enter Tryz.func189,Tryz.ntmps189;go_wp2_with fail;rw[<-hwb];clear hwb
 go_loopw [13] (fun jv wr=>∃(j:Nat) (VT':QV),j<=Q.ms.length/\jv=.int .i64 (j:Int)/\QS wb wr qt VT VT' (putL T ((Q.ms.take j).filter (isG gr)))/\wr.heap[w.heap.size]?=some (.cells #[.string gr] 9 (0,0))/\QR wr qb V Q) (fun jv _=>Q.ms.length-(intOf jv).toNat)
 case atStart=>exact⟨0,VT,Nat.zero_le _,rfl,(HT.out.tch TB.out (by simp)).qs (Tch.refl _ _),HBX.out,HQ.out.tch TB.out (by simp)⟩
 case round=>
  obtain⟨j,VT',hj,rfl,hqs,hbx,hqr⟩:=hrel;have HQS:=zH hqs;have HBR:Hid (wr.heap[w.heap.size]?=some (.cells #[.string gr] 9 (0,0))):=hbx;have HQR:Hid (QR wr qb V Q):=hqr
  by_cases hlt:j<Q.ms.length
  ·obtain⟨g,c,hv,hg,hc⟩:=hqr.msc j hlt;rw[HV.out]at hv;simp only[Value.slice.injEq,true_and]at hv;obtain⟨rfl,rfl⟩:=hv;have g0:wr.cell? ⟨g,j*5,none⟩=some (.int .i64 Q.ms[j].num):=hc 0 _ rfl;have g1:wr.cell? ⟨g,j*5+1,none⟩=some (.string Q.ms[j].grp):=hc 1 _ rfl;have g2:wr.cell? ⟨g,j*5+2,none⟩=some (.string Q.ms[j].bod):=hc 2 _ rfl;have g3:wr.cell? ⟨g,j*5+3,none⟩=some (.int .i64 Q.ms[j].rcv):=hc 3 _ rfl;have g4:wr.cell? ⟨g,j*5+4,none⟩=some (.int .i64 Q.ms[j].til):=hc 4 _ rfl;have b0:wr.cell? ⟨w.heap.size,0,none⟩=some (.string gr):=cell_of_one hbx;have lb:=lt_of_block hbx;have HC:Hid ((Q.ms.take (j+1)).filter (isG gr)=(Q.ms.take j).filter (isG gr)++if isG gr Q.ms[j]=true then [Q.ms[j]] else []):=filt_succ gr Q.ms j hlt;have hcs:=cntG_succ gr Q.ms j hlt;have hcle:cntG gr (Q.ms.take (j+1))<=cntG gr Q.ms:=by
    unfold cntG;exact(List.Sublist.filter _ (List.take_sublist _ _)).length_le
   have ecn:((Q.ms.take j).filter (isG gr)).length=cntG gr (Q.ms.take j):=rfl;clear hc
   by_cases he:(Q.ms[j].grp.toList == gr.toList)=true
   ·have HE:Hid (isG gr Q.ms[j]=true):=he;rw[if_pos he]at hcs;have hx1:=putL_next T ((Q.ms.take j).filter (isG gr));have hx2:=putL_len T ((Q.ms.take j).filter (isG gr));have hx3:=putL_rs T ((Q.ms.take j).filter (isG gr));rw[ecn]at hx1 hx2 hx3;have HPT:Hid (∀W,Tch [] wr W->Calls Tryz.prog 172 #[.pointer (some ⟨qt,0,none⟩),.string Q.ms[j].grp,.string Q.ms[j].bod] W fun e w'=>e=.returned (.tuple #[])/\(∃VT2,QS wb w' qt VT VT2 (putL T ((Q.ms.take (j+1)).filter (isG gr))))/\w'.heap[w.heap.size]?=some (.cells #[.string gr] 9 (0,0))/\QR w' qb V Q):=fun W hW=>by
     refine(put_q _ VT' qt Q.ms[j].grp Q.ms[j].bod W (HQS.out.qr.tch hW (by simp)) (by rw[hx2];omega) (by omega) (by rw[hx1];omega)).mono ?_;rintro e w' ⟨he2,VT2,hq2,ht2,hn2⟩;refine⟨he2,⟨VT2,?_⟩,?_,?_⟩
     ·rw[HC.out,if_pos HE.out,putL_snoc];exact(HQS.out.trans (HQS.out.qr.qs hW)).trans ⟨hq2,ht2,hn2⟩
     ·have h1:=(hW.block _ (lt_of_block HBR.out) (by simp)).trans HBR.out;refine(ht2.block _ (lt_of_block h1) (fun hm=>?_)).trans h1;rcases HQS.out.new _ hm with h2|h2
      ·have:=HTT.out _ h2;omega
      ·omega
     ·refine(HQR.out.tch hW (by simp)).tch ht2 (fun k hk hm=>?_);rcases HQS.out.new _ hm with h2|h2
      ·exact HAP.out k hk h2
      ·have:=HLT.out k hk;omega
    clear hcs hcle ecn hx1 hx2 hx3 hqs hbx hqr;go_wp2_with fail;refine(HPT.out _ ((Tch.refl [] _).alloc _)).mono ?_;rintro e w2 ⟨rfl,⟨VT2,hqs2⟩,hbx2,hqr2⟩;have HR2:Hid (QS wb w2 qt VT VT2 (putL T ((Q.ms.take (j+1)).filter (isG gr)))/\w2.heap[w.heap.size]?=some (.cells #[.string gr] 9 (0,0))/\QR w2 qb V Q):=⟨hqs2,hbx2,hqr2⟩;clear hqs2 hbx2 hqr2 HPT g0 g1 g2 g3 g4 b0;go_wp2_with fail;go_roundw
    case rel=>exact⟨j+1,VT2,by omega,by go_num,HR2.out.1,HR2.out.2.1,HR2.out.2.2⟩
    case measure=>simp[intOf];omega
   ·have he':(Q.ms[j].grp.toList == gr.toList)=false:=by simpa using he
    have HE:Hid (isG gr Q.ms[j]=false):=he';have HR2:Hid (∀o:Obj,QS wb (wr.alloc o) qt VT VT' (putL T ((Q.ms.take (j+1)).filter (isG gr)))/\(wr.alloc o).heap[w.heap.size]?=some (.cells #[.string gr] 9 (0,0))/\QR (wr.alloc o) qb V Q):=fun o=>by
     have t:Tch [] wr (wr.alloc o):=(Tch.refl _ _).alloc _;refine⟨?_,(t.block _ (lt_of_block HBR.out) (by simp)).trans HBR.out,HQR.out.tch t (by simp)⟩;rw[HC.out,HE.out,if_neg (by decide),List.append_nil];exact HQS.out.trans (HQS.out.qr.qs t)
    clear he hcs hcle ecn hqs hbx hqr;go_wp2_with fail;go_roundw
    case rel=>exact⟨j+1,VT',by omega,by go_num,(HR2.out _).1,(HR2.out _).2.1,(HR2.out _).2.2⟩
    case measure=>simp[intOf];omega
  ·have hje:j=Q.ms.length:=by omega
   subst hje;have HDL:Hid (Calls Tryz.prog 207 #[.slice am Q.ms.length cm,.func (.func 208) #[] #[.pointer (some ⟨w.heap.size,0,none⟩)]] wr fun e w'=>∃v',e=.returned v'/\v'.ownBlock=(Value.slice am Q.ms.length cm).ownBlock/\w'.ownsRow 0 191 5 v' (Q.ms.filter (fun x=>!isG gr x)).length ((Q.ms.filter (fun x=>!isG gr x)).flatMap Ms.row)/\Tch (bl (.slice am Q.ms.length cm)) wr w'):=by
    have h9:=hqr.m;rw[HV.out]at h9;exact delM_any (.slice am Q.ms.length cm) Q.ms gr w.heap.size wr h9 (by omega) hbx
   have k7:wr.cell? ⟨qb,7,none⟩=some (.slice am Q.ms.length cm):=by rw[<-HV.out];exact cell_qC hqr.blk 7 _ rfl
   clear hqs hbx hqr c7;go_wp2_with fail;refine HDL.out.mono ?_;rintro e w2 ⟨v2,rfl,hvb,ho2,ht2⟩;obtain⟨k72,z72,hqs2⟩:=HQR.out.newM (v':=v2) (ms':=Q.ms.filter (fun x=>!isG gr x)) (by rw[HV.out];exact ht2) ho2 (fun k hk=>.inl (by rw[HV.out,<-hvb];exact hk));have HFN:Hid (∃V' VT',QR (w2.setCell ⟨qb,7,none⟩ v2) qb V' {Q with ms:=Q.ms.filter (fun x=>!isG gr x)}/\QR (w2.setCell ⟨qb,7,none⟩ v2) qt VT' (putL T (Q.ms.filter (isG gr)))/\Tch (qbl qb V++qbl qt VT) w (w2.setCell ⟨qb,7,none⟩ v2)/\(∀k∈qbl qb V',k∈qbl qb V)/\(∀k∈qbl qt VT',k∈qbl qt VT\/w.heap.size<=k)):=by
    have hQS:=HQS.out;rw[List.take_length]at hQS;refine⟨_,VT',hqs2.qr,hQS.qr.tch hqs2.tch (fun k hk hm=>?_),((TB.out.sub (by simp)).trans (hQS.tch.sub (fun x hx _=>List.mem_append.2 (.inr hx))) (fun x hx _=>hx)).trans hqs2.tch (fun x hx _=>List.mem_append.2 (.inl hx)),fun k hk=>?_,fun k hk=>?_⟩
    ·rcases hQS.new k hk with h2|h2
     ·exact HAP.out k hm h2
     ·have:=HLT.out k hm;omega
    ·rcases mem_qbl.1 hk with e|e|e|e|e
     ·exact mem_qbl.2 (.inl e)
     ·exact mem_qbl.2 (.inr (.inl (by rw[HV.out,<-hvb];exact e)))
     ·exact mem_qbl.2 (.inr (.inr (.inl e)))
     ·exact mem_qbl.2 (.inr (.inr (.inr (.inl e))))
     ·exact mem_qbl.2 (.inr (.inr (.inr (.inr e))))
    ·rcases hQS.new k hk with h2|h2
     ·exact .inl h2
     ·exact .inr (by omega)
   rw[HV.out]at k72;obtain⟨a2,c2,hv2⟩:=own_shape ho2;subst hv2;clear hqs2 ho2 ht2 hvb HDL k7;go_wp2_with fail;go_end0;exact⟨rfl,HFN.out⟩
def readyQ (Q:QM)(g:ByteArray):QM:={Q with rs:=Q.rs++[g]}
theorem QR.rdy {Q:QM}(h:QR w qb V Q)(gr:ByteArray)(v':Value)(w9:World)(ho:w9.ownsRow 0 9 1 v' (Q.rs.length+1) (Q.rs.map Value.string++[.string gr]))(hg:(w.drew.alloc (.cells #[.string gr] 9)).grownBy w9 V.r.ownBlock)(hb:v'.ownBlock=V.r.ownBlock\/v'.ownBlock=some (w.drew.alloc (.cells #[.string gr] 9)).heap.size):
  ∃g4 cap4,v'=.slice (some ⟨g4,0,none⟩) (Q.rs.length+1) cap4/\w9.cell? ⟨qb,8,none⟩=some V.r/\w9.frozen? ⟨qb,8,none⟩=false/\QL w (w9.setCell ⟨qb,8,none⟩ v') qb V (readyQ Q gr):=by
 obtain⟨g4,cap4,hv⟩:=own_some ho;have t1:Tch [] w (w.drew.alloc (.cells #[.string gr] 9)):=(Tch.refl _ _).drew.alloc _;obtain⟨k8,z8,hqs⟩:=h.newR (w2:=w9) (v':=v') (rs':=Q.rs++[gr]) ((t1.sub (by simp)).trans (grown_tch hg) (fun x hx _=>hx)) (by simpa using ho) (fun k hk=>by
  rcases hb with e|e
  ·exact .inl (e.symm.trans hk)
  ·rw[hk]at e;injection e with e;have:=t1.size;exact .inr (by omega))
 exact⟨g4,cap4,hv,k8,z8,hqs.ql⟩
theorem back_walk (K:World->Prop)(Q:QM)(V:QV)(qb:Nat)(num:Int)(dv:Value)(w:World)(h:QR w qb V Q)(hl:Q.ms.length<=1000)(hr:Q.rs.length<=1000)(i:Nat)(hi:idxL (isN num) Q.ms=(i:Int))(hil:i<Q.ms.length)
  (hdv:dv=.pointer none\/∃qt,dv=.pointer (some ⟨qt,0,none⟩))
  (hcase:(upQ Q.c Q.ms[i].rcv=false\/dv=.pointer none)/\(∀w',QL w w' qb V (readyQ (tilQ Q num 0) Q.ms[i].grp)->K w')\/
   ∃qt rm,upQ Q.c Q.ms[i].rcv=true/\dv=.pointer (some ⟨qt,0,none⟩)/\
    (∀W,QS w W qb V V (tilQ Q num 0)->zT 187 #[.pointer (some ⟨qt,0,none⟩),.int .i64 (cntG Q.ms[i].grp (tilQ Q num 0).ms:Nat)] W (.bool rm))/\
    (if rm=true then ∀W,QS w W qb V V (tilQ Q num 0)->Calls Tryz.prog 189 #[.pointer (some ⟨qb,0,none⟩),.string Q.ms[i].grp,.pointer (some ⟨qt,0,none⟩)] W fun e w'=>e=.returned (.tuple #[])/\K w' else ∀w',QL w w' qb V (readyQ (tilQ Q num 0) Q.ms[i].grp)->K w')):
  Calls Tryz.prog 156 #[.pointer (some ⟨qb,0,none⟩),.int .i64 num,dv] w fun e w'=>e=.returned (.tuple #[])/\K w':=by
 have hfi:Q.ms.find? (isN num)=some Q.ms[i]:=(idxL_fnd _ _ i hi).2.2;have hdq:tilQ Q num 0={Q with ms:=Q.ms.set i {Q.ms[i] with til:=0}}:=by
  unfold tilQ;rw[hfi,hi];rfl
 obtain⟨g,c,hv,hg,hc⟩:=h.msc i hil;have HF:Hid (Calls Tryz.prog 182 #[.pointer (some ⟨qb,0,none⟩),.int .i64 num] w.drew fun e w'=>e=.returned (.int .i64 (i:Int))/\w'.cell? ⟨qb,7,none⟩=some (.slice (some ⟨g,0,none⟩) Q.ms.length c)/\w'.cell? ⟨g,i*5+4,none⟩=some (.int .i64 Q.ms[i].til)/\w'.frozen? ⟨g,i*5+4,none⟩=false/\g<w'.heap.size/\QS w (w'.setCell ⟨g,i*5+4,none⟩ (.int .i64 0)) qb V V (tilQ Q num 0)):=by
  have h1:=find_gen num qb V.m Q.ms w.drew (cell_qC h.blk 7 _ rfl) (own_tch h.m (Tch.refl [] w).drew (by simp)) (by omega);rw[hi]at h1;refine h1.mono ?_;rintro e w' ⟨he,hb⟩;have t:Tch [] w w':=(Tch.refl [] w).drew.trans (Tch.of_below hb) (by simp);have hq:=h.tch t (by simp);obtain⟨g2,c2,hv2,hg2,hc2⟩:=hq.msc i hil;rw[hv]at hv2;simp only[Value.slice.injEq,Option.some.injEq,Addr.mk.injEq,and_true,true_and]at hv2;obtain⟨rfl,rfl⟩:=hv2;have hs:=hq.setQ hv i 0 hil;refine⟨he,by rw[<-hv];exact cell_qC hq.blk 7 _ rfl,hc2 4 _ rfl,hq.fzM hv _,hg2,?_⟩;rw[hdq];exact(h.qs t).trans hs
 have c7:w.cell? ⟨qb,7,none⟩=some (.slice (some ⟨g,0,none⟩) Q.ms.length c):=by rw[<-hv];exact cell_qC h.blk 7 _ rfl
 have HV:=zH hv;have HCS:=zH hcase;have HI:Hid ((tilQ Q num 0).ms.length=Q.ms.length/\(tilQ Q num 0).rs=Q.rs/\(tilQ Q num 0).c=Q.c/\(tilQ Q num 0).ms[i]?=some {Q.ms[i] with til:=0}):=by
  show _/\_
  rw[hdq];exact⟨by simp,rfl,rfl,by simp[hil]⟩
 clear hi hfi hdq hc h hcase hv;go_enter Tryz.func156,Tryz.ntmps156;go_wp2_with fail
 go_region_held3 (fun w'=>w'.cell? ⟨qb,7,none⟩=some (.slice (some ⟨g,0,none⟩) Q.ms.length c)) (go_keep) (first|(go_at_call 182;refine HF.out.mono ?_;rintro e w1 ⟨rfl,k7,k4,z4,lg,hqs⟩;have HQS:Hid (QS w (w1.setCell ⟨g,i*5+4,none⟩ (.int .i64 0)) qb V V (tilQ Q num 0)):=hqs;clear hqs))
 have hq1:=HQS.out.qr;have hm1:∀j u,(({Q.ms[i] with til:=0}:Ms).row)[j]?=some u->(w1.setCell ⟨g,i*5+4,none⟩ (.int .i64 0)).cell? ⟨g,i*5+j,none⟩=some u:=fun j u hj=>by
  have hil2:i<(tilQ Q num 0).ms.length:=by rw[HI.out.1];exact hil
  obtain⟨g2,c2,hv2,hg2,hc2⟩:=hq1.msc i hil2;rw[HV.out,HI.out.1]at hv2;simp only[Value.slice.injEq,Option.some.injEq,Addr.mk.injEq,and_true,true_and]at hv2;obtain⟨rfl,rfl⟩:=hv2;have e:(tilQ Q num 0).ms[i]={Q.ms[i] with til:=0}:=by
   have:=HI.out.2.2.2;rw[List.getElem?_eq_getElem hil2]at this;exact Option.some.inj this
  refine hc2 j u ?_;rw[e];exact hj
 have hzz:(w1.setCell ⟨g,i*5+4,none⟩ (.int .i64 0)).heap.size=w1.heap.size:=World.size_setCell _ _ _;have m0:(w1.setCell ⟨g,i*5+4,none⟩ (.int .i64 0)).cell? ⟨g,i*5,none⟩=some (.int .i64 Q.ms[i].num):=hm1 0 _ rfl;have m1:(w1.setCell ⟨g,i*5+4,none⟩ (.int .i64 0)).cell? ⟨g,i*5+1,none⟩=some (.string Q.ms[i].grp):=hm1 1 _ rfl;have m2:(w1.setCell ⟨g,i*5+4,none⟩ (.int .i64 0)).cell? ⟨g,i*5+2,none⟩=some (.string Q.ms[i].bod):=hm1 2 _ rfl;have m3:(w1.setCell ⟨g,i*5+4,none⟩ (.int .i64 0)).cell? ⟨g,i*5+3,none⟩=some (.int .i64 Q.ms[i].rcv):=hm1 3 _ rfl;have m4:(w1.setCell ⟨g,i*5+4,none⟩ (.int .i64 0)).cell? ⟨g,i*5+4,none⟩=some (.int .i64 0):=hm1 4 _ rfl;have HGU:Hid (zT 186 #[.pointer (some ⟨qb,0,none⟩),.agg #[.int .i64 Q.ms[i].num,.string Q.ms[i].grp,.string Q.ms[i].bod,.int .i64 Q.ms[i].rcv,.int .i64 0]] (w1.setCell ⟨g,i*5+4,none⟩ (.int .i64 0)) (.bool (upQ Q.c Q.ms[i].rcv))):=by
  have h9:=givesUp_any (tilQ Q num 0) V qb {Q.ms[i] with til:=0} _ hq1;rw[HI.out.2.2.1]at h9;exact h9
 clear hm1 hq1 HF;have HRD:Hid (∀(W:World),QS w W qb V V (tilQ Q num 0)->W.cell? ⟨qb,8,none⟩=some V.r/\W.ownsRow 0 9 1 V.r Q.rs.length (Q.rs.map Value.string)/\∀v' w9,w9.ownsRow 0 9 1 v' (Q.rs.length+1) (Q.rs.map Value.string++[.string Q.ms[i].grp])->(W.drew.alloc (.cells #[.string Q.ms[i].grp] 9)).grownBy w9 V.r.ownBlock->(v'.ownBlock=V.r.ownBlock\/v'.ownBlock=some (W.drew.alloc (.cells #[.string Q.ms[i].grp] 9)).heap.size)->∃g4 cap4,v'=.slice (some ⟨g4,0,none⟩) (Q.rs.length+1) cap4/\w9.cell? ⟨qb,8,none⟩=some V.r/\w9.frozen? ⟨qb,8,none⟩=false/\QL w (w9.setCell ⟨qb,8,none⟩ v') qb V (readyQ (tilQ Q num 0) Q.ms[i].grp)):=fun W hW=>by
  have e8:=HI.out.2.1;refine⟨cell_qC hW.qr.blk 8 _ rfl,by have:=hW.qr.r;rw[e8]at this;exact this,fun v' w9 ho hg hb=>?_⟩
  obtain⟨g4,cap4,h1,h2,h3,V4,h4,h5,h6⟩:=hW.qr.rdy Q.ms[i].grp v' w9 (by rw[e8];exact ho) hg hb;rw[e8]at h1;exact⟨g4,cap4,h1,h2,h3,(hW.trans ⟨h4,h5,h6⟩).ql⟩
 have HCN:Hid (∀W,QS w W qb V V (tilQ Q num 0)->zT 188 #[.pointer (some ⟨qb,0,none⟩),.string Q.ms[i].grp] W (.int .i64 (cntG Q.ms[i].grp (tilQ Q num 0).ms:Nat))):=fun W hW=>count_any (tilQ Q num 0) V qb Q.ms[i].grp W hW.qr (by rw[HI.out.1];exact hl)
 obtain⟨res,HRS⟩:∃res:Bool,Hid ((res=false/\(upQ Q.c Q.ms[i].rcv=false\/dv=.pointer none)/\(∀w',QL w w' qb V (readyQ (tilQ Q num 0) Q.ms[i].grp)->K w'))\/(∃qt,upQ Q.c Q.ms[i].rcv=true/\dv=.pointer (some ⟨qt,0,none⟩)/\
    (∀W,QS w W qb V V (tilQ Q num 0)->zT 187 #[.pointer (some ⟨qt,0,none⟩),.int .i64 (cntG Q.ms[i].grp (tilQ Q num 0).ms:Nat)] W (.bool res))/\
    (if res=true then ∀W,QS w W qb V V (tilQ Q num 0)->Calls Tryz.prog 189 #[.pointer (some ⟨qb,0,none⟩),.string Q.ms[i].grp,.pointer (some ⟨qt,0,none⟩)] W fun e w'=>e=.returned (.tuple #[])/\K w' else ∀w',QL w w' qb V (readyQ (tilQ Q num 0) Q.ms[i].grp)->K w'))):=by
  rcases HCS.out with ⟨hor,hK⟩|⟨qt,rm,hup,hdq,hRM,hK⟩
  ·exact⟨false,.inl ⟨rfl,hor,hK⟩⟩
  ·exact⟨rm,.inr ⟨qt,hup,hdq,hRM,hK⟩⟩
 generalize hgr:Q.ms[i].grp=gr at*
 generalize hwx:w1.setCell ⟨g,i*5+4,none⟩ (.int .i64 0)=wx1 at*
 clear HCS
 go_upto_region 2 with fail
 try rw[hwx]
 clear hwx
 go_cut [36] (fun s wx=>s=.bool res/\QS w wx qb V V (tilQ Q num 0)/\wx.cell? ⟨g,i*5+1,none⟩=some (.string gr))
 case first=>
  go_wp2_with fail;refine HGU.out.mono ?_;rintro e w3 ⟨rfl,ht3⟩;have HQ3:=zH (HQS.out.trans (HQS.out.qr.qs ht3));have n1:w3.cell? ⟨g,i*5+1,none⟩=some (.string gr):=by rw[ht3.cell (a:=⟨g,i*5+1,none⟩) (by rw[hzz];exact lg) (by simp)];exact m1
  have lg3:g<w3.heap.size:=by have:=ht3.size;omega
  rcases HRS.out with ⟨hres,hor,hK⟩|⟨qt,hup,rfl,hRM,hK⟩
  ·subst hres;rcases hor with hup|rfl
   ·rw[hup];clear hK ht3 HRD HCN HGU HRS;go_wp2_with fail;go_meet;exact⟨rfl,HQ3.out,n1⟩
   ·clear hK ht3 HRD HCN HGU HRS
    by_cases hup:upQ Q.c Q.ms[i].rcv=true
    ·rw[hup];go_wp2_with fail;go_meet;exact⟨rfl,HQ3.out,n1⟩
    ·have hup':upQ Q.c Q.ms[i].rcv=false:=by simpa using hup
     rw[hup'];go_wp2_with fail;go_meet;exact⟨rfl,HQ3.out,n1⟩
  ·rw[hup];have HCC:=zH (HCN.out w3 HQ3.out);have HRM:=zH hRM;clear hK ht3 HRD HCN HGU HRS hRM;go_wp2_with fail;refine HCC.out.mono ?_;rintro e w4 ⟨rfl,ht4⟩;have HQ4:=zH (HQ3.out.trans (HQ3.out.qr.qs ht4));have HC4:=zH (HRM.out w4 HQ4.out);have n4:w4.cell? ⟨g,i*5+1,none⟩=some (.string gr):=by rw[ht4.cell (a:=⟨g,i*5+1,none⟩) lg3 (by simp)];exact n1
   have lg4:g<w4.heap.size:=by have:=ht4.size;omega
   clear ht4 HCC HRM n1;go_wp2_with fail;refine HC4.out.mono ?_;rintro e w5 ⟨rfl,ht5⟩;have HQ5:Hid (QS w w5 qb V V (tilQ Q num 0)/\w5.cell? ⟨g,i*5+1,none⟩=some (.string gr)):=⟨HQ4.out.trans (HQ4.out.qr.qs ht5),by rw[ht5.cell (a:=⟨g,i*5+1,none⟩) lg4 (by simp)];exact n4⟩;clear ht5 HC4 n4;go_wp2_with fail;go_meet;exact⟨rfl,HQ5.out⟩
 case rest=>
  obtain⟨rfl,hqs5,n5⟩:=hcut;generalize wc=w5 at*
  have HQ5:=zH hqs5;clear hqs5 m0 m1 m2 m3 m4 HGU HCN;have HTWO:Hid ((res=true/\∃qt,dv=.pointer (some ⟨qt,0,none⟩)/\Calls Tryz.prog 189 #[.pointer (some ⟨qb,0,none⟩),.string gr,.pointer (some ⟨qt,0,none⟩)] w5 fun e w'=>e=.returned (.tuple #[])/\K w')\/(res=false/\∀w',QL w w' qb V (readyQ (tilQ Q num 0) gr)->K w')):=by
   rcases HRS.out with ⟨hres,_,hK⟩|⟨qt,hup,hdq,_,hK⟩
   ·exact .inr ⟨hres,hK⟩
   ·cases res with
    | true=>exact .inl ⟨rfl,qt,hdq,hK w5 HQ5.out⟩
    | false=>exact .inr ⟨rfl,hK⟩
  clear HRS;rcases HTWO.out with ⟨rfl,qt,rfl,hM⟩|⟨rfl,hK⟩
  ·have HM:=zH hM;clear hM HTWO HRD;go_wp2_with fail;refine HM.out.mono ?_;rintro e w6 ⟨rfl,hk6⟩;have HK6:=zH hk6;clear hk6 HM;go_wp2_with fail;refine bodyPost_ret (results_none rfl _ _ _) rfl ?_;exact⟨rfl,HK6.out⟩
  ·have HK:=zH hK;obtain⟨q8,ow8,hfin⟩:=HRD.out w5 HQ5.out;have HOW:=zH ow8;have HFI:=zH hfin;have q8a:(w5.alloc (.cells #[.string gr] 9)).cell? ⟨qb,8,none⟩=some V.r:=Lib.cell?_alloc_some _ q8;clear ow8 hfin HRD hK HTWO;go_wp2_with fail
   go_region_law (refine step_vals rfl (.tmp 48) (.tmp 53) 22 9 rfl Tryz.underlying22 (.string ⟨#[]⟩) 1 16 info9 rfl (by decide) (by decide) V.r Q.rs.length (Q.rs.map Value.string) (by simp[Act.eval,Act.put]) (own_tch HOW.out ((Tch.refl [] _).drew.alloc _) (fun _ _=>by simp)) w5.heap.size [.string gr] 1 (by simp[Act.eval,Act.put]) rfl (by decide) (heap_alloc_new _ _) (by intro u hu;simp at hu;subst hu;rfl) (by omega) ?_;intro v' w9 ho3 hg3 hb3;obtain⟨g4,cap4,hv4,c9,z9,hfin⟩:=HFI.out v' w9 ho3 hg3 hb3;subst hv4;clear ho3 hg3 hb3;have HFI2:Hid (K _):=HK.out _ hfin;clear hfin)
   all_goals (go_wp2_with fail;go_end0;exact⟨rfl,HFI2.out⟩)
end Go.Proofs.YtbdobaapadlcjabGreatDoor
