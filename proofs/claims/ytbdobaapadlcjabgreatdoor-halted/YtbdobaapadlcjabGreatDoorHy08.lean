import Derived.Deep.RegionHeld3
import Derived.Test.YtbdobaapadlcjabGreatDoorHy05
import Derived.Shelf.SlicesQ.IndexFunc
set_option maxRecDepth 8000
set_option maxHeartbeats 4000000
set_option linter.unusedVariables false
set_option linter.unusedSimpArgs false
namespace Go.Proofs.YtbdobaapadlcjabGreatDoor
theorem zK {P:Program}{md:Region.Mode}{ops:Array Oper}{Q:Exit->Act->World->Prop}{S:World->Prop}(i:Nat){oi:Oper}{v:Value}{fuel:Nat}{listed:Array Bool}{a:Act}{w:World}(hi:ops[i]?=some oi:=by rfl)
  (hs:Region.noSelect ops=true:=by kernel_rfl)(hf:Region.free md ops listed i=true:=by kernel_rfl)(hr:(Region.ready md ops listed).contains i=true:=by kernel_rfl)
  (hQ:∀c a w,Q (.panic c) (a.put oi.dst v) w->Q (.panic c) a w:=by exact fun _ _ _ h=>h)(hw:Region.wanted oi (yielded ops a.tmps)=true:=by rfl)(hy:∀w,S w->(execOp a.eval oi).run P w=.ok (.value v) w:=by(intro w hSw;(try dsimp only at hSw);go_simp;try with_reducible rfl))(hS:S w:=by assumption)
  (h:wpAnyH P md ops Q S fuel (listed.setIfInBounds i true) (a.put oi.dst v) w):wpAnyH P md ops Q S (fuel+1) listed a w:=wpAnyH_take hi hs hf hr hQ (Or.inl ⟨hw,hy⟩) hS h
end Go.Proofs.YtbdobaapadlcjabGreatDoor
namespace Go.Proofs.YtbdobaapadlcjabGreatDoor
open Go.RowKit
theorem run_app {P:Program}(w:World)(base:Nat)(t ty e:TypeId)(i:TypeInfo)(z:Value)(size bytes:Nat)(ht:P.underlying t=some (.slice e))(hi:P.info? e=some i)(hz:i.zero=some z)
  (hsize:i.size=size)(hby:i.bytes=bytes)(hzs:z.cells.size=size)(hsz:0<size)
  (v:Value)(n:Nat)(xs:List Value)(hown:w.ownsRow base e size v n xs)
  (a:Addr)(m c:Nat)(news:List Value)(hl:news.length=m*size)(hnews:∀j u,news[j]?=some u->w.cell? (a.add j)=some u)(h1:∀u∈news,u.oneCell'=true)
  (h63:n+m<=maxLen)(hbytes:(n+m)*bytes<=140737488355328)(hbase:base<=w.heap.size)(hm:0<m):
  ∃v' w',(Builtin.append_ #[t,t] ty #[v,.slice (some a) m c]).run P w=.ok v' w'/\w'.ownsRow base e size v' (n+m) (xs++news)/\w.grownBy w' v.ownBlock/\(v'.ownBlock=v.ownBlock\/v'.ownBlock=some w.heap.size):=by
 obtain⟨v',w',hr,h2,h3,_⟩:=run_append_own (P:=P) w base t ty e i z size bytes ht hi hz hsize hby hzs hsz v n xs hown a m c news hl hnews h1 h63 hbytes hbase;refine⟨v',w',hr,h2,h3,?_⟩;subst hsize;subst hby
 have hsmall:n+m<=9223372036854775807:=by simp only[maxLen]at h63;omega
 rcases hown.2 with ⟨rfl,rfl⟩|⟨g,cap,cur,rfl,hbg,hg,hnc,hcm,hcs,htake⟩
 ·have hr2:=run_append_nil (P:=P) w t ty e i z ht hi hz a m c news hl hnews hm (by omega) (by have hb:=hbytes;simp only[Nat.zero_add]at hb;omega);rw[hr2]at hr;injection hr with e1 e2;subst e1;exact .inr rfl
 ·by_cases hroom:n+m<=cap
  ·have hfit:n*i.size+news.length<=cur.size:=by rw[hl,hcs,<-Nat.add_mul];exact Nat.mul_le_mul_right _ hroom
   have hr2:=run_append_room (P:=P) w t ty e i ht hi g n cap cur hg a m c news hl hnews h1 hroom hfit;rw[hr2]at hr;injection hr with e1 e2;subst e1;exact .inl rfl
  ·have holds:∀j u,xs[j]?=some u->w.cell? ((⟨g,0,none⟩:Addr).add j)=some u:=hown.cells (g:=g) rfl;have hr2:=run_append_grow (P:=P) w t ty e i z ht hi hz ⟨g,0,none⟩ n cap xs hown.1 holds a m c news hl hnews (by omega) (by omega) (growslice_fits (by omega) hbytes);rw[hr2]at hr;injection hr with e1 e2;subst e1;exact .inr rfl
theorem wpList_app {P:Program}(w:World){ops:Array Oper}{rest:List Oper}{o:Oper}{a:Act}{Q:Exit->Act->World->Prop}(hgd:o.guard=none)(s x:Operand)(t:TypeId)
  (ho:o.op=.call {callee:=.builtin .append,args:=#[s,x],argTypes:=#[t,t]})
  (base:Nat)(e:TypeId)(i:TypeInfo)(z:Value)(size bytes:Nat)(ht:P.underlying t=some (.slice e))(hi:P.info? e=some i)(hz:i.zero=some z)
  (hsize:i.size=size)(hby:i.bytes=bytes)(hzs:z.cells.size=size)(hsz:0<size)
  (v:Value)(n:Nat)(xs:List Value)(hs:a.eval s=v)(hown:w.ownsRow base e size v n xs)
  (ad:Addr)(m c:Nat)(news:List Value)(hx:a.eval x=.slice (some ad) m c)(hl:news.length=m*size)(hnews:∀j u,news[j]?=some u->w.cell? (ad.add j)=some u)(h1:∀u∈news,u.oneCell'=true)
  (h63:n+m<=maxLen)(hbytes:(n+m)*bytes<=140737488355328)(hbase:base<=w.heap.size)(hm:0<m)
  (h:∀v' w',w'.ownsRow base e size v' (n+m) (xs++news)->w.grownBy w' v.ownBlock->(v'.ownBlock=v.ownBlock\/v'.ownBlock=some w.heap.size)->wpList P ops Q rest (a.put o.dst v') w'):wpList P ops Q (o::rest) a w:=
 wpList_plain hgd fun _ hK=>by
  obtain⟨v',w',hr,h2,h3,h4⟩:=run_app (P:=P) w base t o.type e i z size bytes ht hi hz hsize hby hzs hsz v n xs hown ad m c news hl hnews h1 h63 hbytes hbase hm;unfold Oper.wp execOp;simp only[ho,resolve,invoke,builtin,Sem.run_bind,Sem.run_pure,Result.andThen_ok,List.map_toArray,List.map_cons,List.map_nil,hs,hx,hr];exact hK _ _ (h v' w' h2 h3 h4)
theorem step_vals {ops:Array Oper}{o:Oper}{a:Act}{w:World}{K:Act->World->Prop}{Q:Exit->Act->World->Prop}{E:Prop}(hgd:o.guard=none)(s x:Operand)(t te:TypeId)
  (ho:o.op=.call {callee:=.builtin .append,args:=#[s,x],argTypes:=#[t,t]})(ht:Tryz.prog.underlying t=some (.slice te))(z:Value)(size bytes:Nat)
  (hinfo:(Tryz.prog.info? te).map (fun i=>(i.zero,i.size,i.bytes))=some (some z,size,bytes))(hzs:z.cells.size=size)(hsz:0<size)(hby:bytes<=100)
  (v:Value)(n:Nat)(xs:List Value)(hs:a.eval s=v)(hown:w.ownsRow 0 te size v n xs)(g:Nat)(news:List Value)(m:Nat)(hx:a.eval x=.slice (some ⟨g,0,none⟩) m m)(hm:news.length=m*size)(hm0:0<m)(hg:w.heap[g]?=some (.cells news.toArray te (0,0)))(hone:∀u∈news,u.oneCell'=true)(hn:n+m<=1073741824)
  (h:∀v' w',w'.ownsRow 0 te size v' (n+m) (xs++news)->w.grownBy w' v.ownBlock->(v'.ownBlock=v.ownBlock\/v'.ownBlock=some w.heap.size)->K (a.put o.dst v') w'):
  if Region.wanted o (yielded ops a.tmps)=true then Oper.wp Tryz.prog o a w K Q else E:=by
 have hw:Region.wanted o (yielded ops a.tmps)=true:=by simp[Region.wanted,hgd]
 rw[if_pos hw];obtain⟨i0,hi,hz0,hz1,hz2⟩:=info_parts hinfo;obtain⟨v',w',hr,h2,h3,h4⟩:=run_app (P:=Tryz.prog) w 0 t o.type te i0 _ size bytes ht hi hz0 hz1 hz2 hzs hsz v n xs hown ⟨g,0,none⟩ m m news hm (fun j u hj=>by
  have e:(⟨g,0,none⟩:Addr).add j=⟨g,j,none⟩:=by unfold Addr.add;split<;>simp_all
  rw[e,cell_of_row w g j _ te (0,0) hg,<-hj];simp) hone (by unfold maxLen;omega) (by
   have h1:(n+m)*bytes<=1073741824*100:=Nat.mul_le_mul hn hby
   omega) (Nat.zero_le _) hm0
 unfold Oper.wp execOp;simp only[ho,resolve,invoke,builtin,Sem.run_bind,Sem.run_pure,Result.andThen_ok,List.map_toArray,List.map_cons,List.map_nil,hs,hx,hr];exact h v' w' h2 h3 h4
theorem wpList_vals (w:World){ops:Array Oper}{rest:List Oper}{o:Oper}{a:Act}{Q:Exit->Act->World->Prop}(hgd:o.guard=none)(s x:Operand)(t te:TypeId)
  (ho:o.op=.call {callee:=.builtin .append,args:=#[s,x],argTypes:=#[t,t]})(ht:Tryz.prog.underlying t=some (.slice te))(z:Value)(size bytes:Nat)
  (hinfo:(Tryz.prog.info? te).map (fun i=>(i.zero,i.size,i.bytes))=some (some z,size,bytes))(hzs:z.cells.size=size)(hsz:0<size)(hby:bytes<=100)
  (v:Value)(n:Nat)(xs:List Value)(hs:a.eval s=v)(hown:w.ownsRow 0 te size v n xs)(g:Nat)(news:List Value)(m:Nat)(hx:a.eval x=.slice (some ⟨g,0,none⟩) m m)(hm:news.length=m*size)(hm0:0<m)(hg:w.heap[g]?=some (.cells news.toArray te (0,0)))(hone:∀u∈news,u.oneCell'=true)(hn:n+m<=1073741824)
  (h:∀v' w',w'.ownsRow 0 te size v' (n+m) (xs++news)->w.grownBy w' v.ownBlock->(v'.ownBlock=v.ownBlock\/v'.ownBlock=some w.heap.size)->wpList Tryz.prog ops Q rest (a.put o.dst v') w'):wpList Tryz.prog ops Q (o::rest) a w:=by
 obtain⟨i0,hi,hz0,hz1,hz2⟩:=info_parts hinfo;refine wpList_app w hgd s x t ho 0 te i0 _ size bytes ht hi hz0 hz1 hz2 hzs hsz v n xs hs hown ⟨g,0,none⟩ m m news hx hm ?_ hone (by unfold maxLen;omega) ?_ (Nat.zero_le _) hm0 h
 ·intro j u hj;have e:(⟨g,0,none⟩:Addr).add j=⟨g,j,none⟩:=by unfold Addr.add;split<;>simp_all
  rw[e,cell_of_row w g j _ te (0,0) hg,<-hj];simp
 ·have h1:(n+m)*bytes<=1073741824*100:=Nat.mul_le_mul hn hby
  omega
def qC (r:Wp.Rq)(next:Int)(ms rs ds at_:Value):Array Value:=#[.int .u8 (r.q.toNat:Int),.int .u8 (r.d.toNat:Int),.int .i64 r.vis,.int .i64 r.win,.int .i64 r.rcv,.int .i64 r.quo,.int .i64 next,ms,rs,ds,at_]
theorem qnew_any (r:Wp.Rq)(x:Sl)(w:World):Calls Tryz.prog 128 #[.agg (cellsOf r x.v)] w fun e w'=>
  e=.returned (.pointer (some ⟨w.heap.size+1,0,none⟩))/\w'=(w.alloc (.cells (cellsOf r x.v) 24)).alloc (.cells (qC r 1 (.slice none 0 0) (.slice none 0 0) (.slice none 0 0) (.slice none 0 0)) 137):=by
 rw[zM r x];go_enter Tryz.func128,Tryz.ntmps128
 go_wp2
 go_ret;exact⟨rfl,rfl⟩
end Go.Proofs.YtbdobaapadlcjabGreatDoor
namespace Go.Proofs.YtbdobaapadlcjabGreatDoor
open Go.Shelf Go.RowKit Go.Lib
def l201_ren:Go.Shelf.Ren:=⟨fun|6=>197|n=>n,fun|22=>134|23=>195|25=>238|3=>3|0=>0|4=>4|n=>n,fun|n=>n⟩
theorem l201:Go.Proofs.SlLaysH0.n6 Tryz.prog l201_ren:={
 mixed:=by kernel_rfl
 f6:=⟨Tryz.f197.name,by decide,Tryz.func197.trans (congrArg some (by kernel_rfl))⟩
 t0:=Tryz.underlying0
 a0:=Tryz.isAgg0
 z0:=Tryz.sizeOf0
 v0:=Tryz.zeroValue0
 t3:=Tryz.underlying3
 a3:=Tryz.isAgg3
 z3:=Tryz.sizeOf3
 v3:=Tryz.zeroValue3
 t4:=Tryz.underlying4
 a4:=Tryz.isAgg4
 z4:=Tryz.sizeOf4
 v4:=Tryz.zeroValue4
 t22:=Tryz.underlying134
 a22:=Tryz.isAgg134
 z22:=Tryz.sizeOf134
 v22:=Tryz.zeroValue134
 t25:=Tryz.underlying238
 a25:=Tryz.isAgg238
 z25:=Tryz.sizeOf238
 v25:=Tryz.zeroValue238}
def l197_ren:Go.Shelf.Ren:=⟨fun|6=>193|n=>n,fun|22=>133|23=>191|25=>229|3=>3|0=>0|4=>4|n=>n,fun|n=>n⟩
theorem l197:Go.Proofs.SlLaysH0.n6 Tryz.prog l197_ren:={
 mixed:=by kernel_rfl
 f6:=⟨Tryz.f193.name,by decide,Tryz.func193.trans (congrArg some (by kernel_rfl))⟩
 t0:=Tryz.underlying0
 a0:=Tryz.isAgg0
 z0:=Tryz.sizeOf0
 v0:=Tryz.zeroValue0
 t3:=Tryz.underlying3
 a3:=Tryz.isAgg3
 z3:=Tryz.sizeOf3
 v3:=Tryz.zeroValue3
 t4:=Tryz.underlying4
 a4:=Tryz.isAgg4
 z4:=Tryz.sizeOf4
 v4:=Tryz.zeroValue4
 t22:=Tryz.underlying133
 a22:=Tryz.isAgg133
 z22:=Tryz.sizeOf133
 v22:=Tryz.zeroValue133
 t25:=Tryz.underlying229
 a25:=Tryz.isAgg229
 z25:=Tryz.sizeOf229
 v25:=Tryz.zeroValue229}
structure Dd where
 id:ByteArray
 num:Int
 til:Int
def Dd.row (x:Dd):List Value:=[.string x.id,.int .i64 x.num,.int .i64 x.til]
structure Ms where
 num:Int
 grp:ByteArray
 bod:ByteArray
 rcv:Int
 til:Int
def Ms.row (x:Ms):List Value:=[.int .i64 x.num,.string x.grp,.string x.bod,.int .i64 x.rcv,.int .i64 x.til]
theorem dd_pred (id:ByteArray)(B:Nat)(w:World)(hB:B<w.heap.size)(hcell:w.cell? ⟨B,0,none⟩=some (.string id)):
  PredBelow Tryz.prog 198 #[.pointer (some ⟨B,0,none⟩)] (fun x:Dd=>.agg x.row.toArray) (fun x=>x.id.toList == id.toList) w:=fun W x hb=>by
 have hc:=(hb.cell (p:=⟨B,0,none⟩) hB).trans hcell;have hBW:B<W.heap.size:=Nat.lt_of_lt_of_le hB hb.size
 show Calls Tryz.prog 198 #[.agg #[.string x.id,.int .i64 x.num,.int .i64 x.til],.pointer (some ⟨B,0,none⟩)] W _
 go_enter Tryz.func198,Tryz.ntmps198
 go_wp2
 all_goals (go_ret;exact⟨by simp_all,hb.alloc hb.size _⟩)
theorem ms_pred (grp:ByteArray)(B:Nat)(w:World)(hB:B<w.heap.size)(hcell:w.cell? ⟨B,0,none⟩=some (.string grp)):
  PredBelow Tryz.prog 194 #[.pointer (some ⟨B,0,none⟩)] (fun x:Ms=>.agg x.row.toArray) (fun x=>x.grp.toList == grp.toList) w:=fun W x hb=>by
 have hc:=(hb.cell (p:=⟨B,0,none⟩) hB).trans hcell;have hBW:B<W.heap.size:=Nat.lt_of_lt_of_le hB hb.size
 show Calls Tryz.prog 194 #[.agg #[.int .i64 x.num,.string x.grp,.string x.bod,.int .i64 x.rcv,.int .i64 x.til],.pointer (some ⟨B,0,none⟩)] W _
 go_enter Tryz.func194,Tryz.ntmps194
 go_wp2
 all_goals (go_ret;exact⟨by simp_all,hb.alloc hb.size _⟩)
theorem idx_dd_none (a:Option Addr)(c:Nat)(fv:Value)(w:World):zE 197 #[.slice a 0 c,fv] w (.int .i64 (-1)):=by
 go_enter Tryz.func197,Tryz.ntmps197
 go_wp2
 go_loopg [5,8] 0 (fun gg _ s8 wr=>s8=.int .i64 0/\wr=w)
 case atStart=>exact⟨rfl,rfl⟩
 case round=>
  obtain⟨rfl,rfl⟩:=hrel
  go_wp2
  go_ret;exact⟨rfl,rfl⟩
theorem idx_ms_none (a:Option Addr)(c:Nat)(fv:Value)(w:World):zE 193 #[.slice a 0 c,fv] w (.int .i64 (-1)):=by
 go_enter Tryz.func193,Tryz.ntmps193
 go_wp2
 go_loopg [5,8] 0 (fun gg _ s8 wr=>s8=.int .i64 0/\wr=w)
 case atStart=>exact⟨rfl,rfl⟩
 case round=>
  obtain⟨rfl,rfl⟩:=hrel
  go_wp2
  go_ret;exact⟨rfl,rfl⟩
theorem eg202:∀args w,(callFunc 198 args).run Tryz.prog w=.ok (.enter 198 args) w:=enters_of Tryz.func198 (by kernel_rfl) rfl
theorem eg198:∀args w,(callFunc 194 args).run Tryz.prog w=.ok (.enter 194 args) w:=enters_of Tryz.func194 (by kernel_rfl) rfl
end Go.Proofs.YtbdobaapadlcjabGreatDoor
namespace Go.Proofs.YtbdobaapadlcjabGreatDoor
open Go.RowKit
variable {w w' W:World}{qb size n gr:Nat}{C:Array Value}{t t':TypeId}{c r:Wp.Rq}{next:Int}{ms rs ds at_ v v':Value}{xs:List Value}{y:Sl}
theorem cell_qC (h:w.heap[qb]?=some (.cells C t (0,0)))(j:Nat)(v:Value)(hj:C[j]?=some v):w.cell? ⟨qb,j,none⟩=some v:=(cell_of_row w qb j C t (0,0) h).trans hj
def sbox (w:World)(qb:Nat)(now:Int)(C:Array Value):World:=((w.alloc (.cells #[.pointer (some ⟨qb,0,none⟩)] 88)).alloc (.cells #[.int .i64 now] 3)).alloc (.cells C 24)
theorem sbox_tch (w:World)(qb:Nat)(now:Int)(C:Array Value):Tch [] w (sbox w qb now C):=(((Tch.refl _ _).alloc _).alloc _).alloc _
theorem sbox_size (w:World)(qb:Nat)(now:Int)(C:Array Value):(sbox w qb now C).heap.size=w.heap.size+3:=by simp[sbox]
theorem sbox_0 (w:World)(qb:Nat)(now:Int)(C:Array Value):(sbox w qb now C).heap[w.heap.size]?=some (.cells #[.pointer (some ⟨qb,0,none⟩)] 88 (0,0)):=by
 unfold sbox;rw[Below.heap_alloc _ _ _ (by simp;omega),heap_alloc2_old]
theorem sbox_1 (w:World)(qb:Nat)(now:Int)(C:Array Value):(sbox w qb now C).heap[w.heap.size+1]?=some (.cells #[.int .i64 now] 3 (0,0)):=by
 unfold sbox;rw[Below.heap_alloc _ _ _ (by simp),heap_alloc2_new]
theorem sbox_2 (w:World)(qb:Nat)(now:Int)(C:Array Value):(sbox w qb now C).heap[w.heap.size+2]?=some (.cells C 24 (0,0)):=by
 unfold sbox;have h:=heap_alloc_new ((w.alloc (.cells #[.pointer (some ⟨qb,0,none⟩)] 88)).alloc (.cells #[.int .i64 now] 3)) (.cells C 24);simpa using h
theorem info214:(Tryz.prog.info? 191).map (fun i=>(i.zero,i.size,i.bytes))=some (some (.agg #[.int .i64 0,.string ⟨#[]⟩,.string ⟨#[]⟩,.int .i64 0,.int .i64 0]),5,56):=by kernel_rfl
theorem info219:(Tryz.prog.info? 195).map (fun i=>(i.zero,i.size,i.bytes))=some (some (.agg #[.string ⟨#[]⟩,.int .i64 0,.int .i64 0]),3,32):=by kernel_rfl
abbrev Qb (w:World)(qb:Nat)(c:Wp.Rq)(next:Int)(ms rs ds at_:Value):Prop:=w.heap[qb]?=some (.cells (qC c next ms rs ds at_) 137 (0,0))
theorem Qb.set6 (h:Qb w qb c next ms rs ds at_)(v:Int):Qb (w.setCell ⟨qb,6,none⟩ (.int .i64 v)) qb c v ms rs ds at_:=heap_setCell_same w qb 6 _ 137 _ h
theorem Qb.set7 (h:Qb w qb c next ms rs ds at_)(v:Value):Qb (w.setCell ⟨qb,7,none⟩ v) qb c next v rs ds at_:=heap_setCell_same w qb 7 _ 137 _ h
theorem Qb.set8 (h:Qb w qb c next ms rs ds at_)(v:Value):Qb (w.setCell ⟨qb,8,none⟩ v) qb c next ms v ds at_:=heap_setCell_same w qb 8 _ 137 _ h
theorem Qb.set9 (h:Qb w qb c next ms rs ds at_)(v:Value):Qb (w.setCell ⟨qb,9,none⟩ v) qb c next ms rs v at_:=heap_setCell_same w qb 9 _ 137 _ h
theorem Qb.set10 (h:Qb w qb c next ms rs ds at_)(v:Value):Qb (w.setCell ⟨qb,10,none⟩ v) qb c next ms rs ds v:=heap_setCell_same w qb 10 _ 137 _ h
theorem Qb.fz (h:Qb w qb c next ms rs ds at_)(j:Nat):w.frozen? ⟨qb,j,none⟩=false:=frozen_of_row w qb j _ 137 h
theorem Qb.lt (h:Qb w qb c next ms rs ds at_):qb<w.heap.size:=lt_of_block h
def bl (v:Value):List Nat:=v.ownBlock.toList
theorem mem_bl {k:Nat}:k∈bl v↔v.ownBlock=some k:=by simp[bl,Option.mem_toList]
theorem own_some (h:w.ownsRow 0 t size v (n+1) xs):∃g cap,v=.slice (some ⟨g,0,none⟩) (n+1) cap:=by
 rcases h.2 with ⟨_,h0⟩|⟨g,cap,cur,rfl,_⟩
 ·omega
 ·exact⟨g,cap,rfl⟩
theorem grown_tch (h:w.grownBy w' v.ownBlock):Tch (bl v) w w':=(Tch.refl _ _).grown h (fun k hk _=>mem_bl.2 hk)
def NewOr (w:World)(v v':Value):Prop:=∀j,v'.ownBlock=some j->v.ownBlock=some j\/w.heap.size<=j
theorem NewOr.refl (w:World)(v:Value):NewOr w v v:=fun _ h=>.inl h
theorem NewOr.of (hs:w.heap.size<=W.heap.size)(h:v'.ownBlock=v.ownBlock\/v'.ownBlock=some W.heap.size):NewOr w v v':=fun j hj=>by
 rcases h with h|h
 ·exact .inl (h.symm.trans hj)
 ·rw[hj]at h;injection h with h;exact .inr (by omega)
theorem NewOr.mono (hs:w.heap.size<=W.heap.size)(h:NewOr W v v'):NewOr w v v':=fun j hj=>by
 rcases h j hj with h|h
 ·exact .inl h
 ·exact .inr (by omega)
abbrev msV (k:Int)(g bd:ByteArray):List Value:=[.int .i64 k,.string g,.string bd,.int .i64 0,.int .i64 0]
abbrev ddV (id:ByteArray)(k til:Int):List Value:=[.string id,.int .i64 k,.int .i64 til]
theorem gr9 (h:w.heap[gr]?=some (.cells (cellsOf r y.v) 24 (0,0))):w.cell? ⟨gr,9,none⟩=some (.string r.grp):=cell_qC h 9 _ rfl
theorem gr11 (h:w.heap[gr]?=some (.cells (cellsOf r y.v) 24 (0,0))):w.cell? ⟨gr,11,none⟩=some (.string r.bod):=cell_qC h 11 _ rfl
theorem own_apart {size' n':Nat}{xs':List Value}(h:w.ownsRow 0 t size v n xs)(h':w.ownsRow 0 t' size' v' n' xs')(htt:t'≠t)(ht:Tch (bl v') w w'):w'.ownsRow 0 t size v n xs:=
 own_tch h ht (fun j hj hm'=>by
  have e:=mem_bl.1 hm';rcases h.2 with ⟨rfl,_⟩|⟨g',cap',cur',rfl,_,hg',_⟩
  ·simp[Value.ownBlock]at hj
  ·simp only[Value.ownBlock,Option.some.injEq]at hj;subst hj;exact own_ne h' hg' htt e)
theorem own_set (h:w.ownsRow 0 t size v n xs){C:Array Value}{t':TypeId}(hq:w.heap[qb]?=some (.cells C t' (0,0)))(htt:t≠t'){w':World}(ht:Tch [qb] w w'):w'.ownsRow 0 t size v n xs:=
 own_tch h ht (fun j hj hm'=>by
  simp at hm';subst hm';exact own_ne h hq htt hj)
def Sf (w:World)(gq gi gn qb:Nat)(id:ByteArray)(now win k:Int):Prop:=w.cell? ⟨gq,0,none⟩=some (.pointer (some ⟨qb,0,none⟩))/\w.cell? ⟨gi,0,none⟩=some (.string id)/\w.cell? ⟨gn,0,none⟩=some (.int .i64 now)/\w.cell? ⟨qb,3,none⟩=some (.int .i64 win)/\w.cell? ⟨qb,6,none⟩=some (.int .i64 k)/\w.frozen? ⟨qb,9,none⟩=false
end Go.Proofs.YtbdobaapadlcjabGreatDoor
namespace Go.Proofs.YtbdobaapadlcjabGreatDoor
open Go.Shelf Go.RowKit Go.Lib
def l262_ren:Go.Shelf.Ren:=⟨fun|6=>191|n=>n,fun|22=>135|23=>199|25=>233|3=>3|0=>0|4=>4|n=>n,fun|n=>n⟩
theorem l262:Go.Proofs.SlLaysH0.n6 Tryz.prog l262_ren:={
 mixed:=by kernel_rfl
 f6:=⟨Tryz.f191.name,by decide,Tryz.func191.trans (congrArg some (by kernel_rfl))⟩
 t0:=Tryz.underlying0
 a0:=Tryz.isAgg0
 z0:=Tryz.sizeOf0
 v0:=Tryz.zeroValue0
 t3:=Tryz.underlying3
 a3:=Tryz.isAgg3
 z3:=Tryz.sizeOf3
 v3:=Tryz.zeroValue3
 t4:=Tryz.underlying4
 a4:=Tryz.isAgg4
 z4:=Tryz.sizeOf4
 v4:=Tryz.zeroValue4
 t22:=Tryz.underlying135
 a22:=Tryz.isAgg135
 z22:=Tryz.sizeOf135
 v22:=Tryz.zeroValue135
 t25:=Tryz.underlying233
 a25:=Tryz.isAgg233
 z25:=Tryz.sizeOf233
 v25:=Tryz.zeroValue233}
structure At where
 id:ByteArray
 til:Int
 ans:ByteArray
def At.row (x:At):List Value:=[.string x.id,.int .i64 x.til,.string x.ans]
def idxL {α:Type}(p:α->Bool):List α->Int
 | []=>-1
 | x::l=>if p x=true then 0 else (if idxL p l<0 then -1 else idxL p l+1)
theorem idxL_ge {α:Type}(p:α->Bool)(l:List α):-1<=idxL p l:=by
 induction l with
 | nil=>exact Int.le_refl _
 | cons x l ih=>simp only[idxL];split<;>(try split)<;>omega
theorem idxL_lt {α:Type}(p:α->Bool)(l:List α):idxL p l<l.length:=by
 induction l with
 | nil=>simp[idxL]
 | cons x l ih=>simp only[idxL,List.length_cons];split<;>(try split)<;>omega
theorem idxByFrom_eq {α:Type}(p:α->Bool)(d:α)(l:List α)(i:Nat):Lib.idxByFrom (fun _ y=>p y) d l i=if idxL p l<0 then -1 else idxL p l+i:=by
 induction l generalizing i with
 | nil=>rfl
 | cons x l ih=>
  simp only[Lib.idxByFrom,idxL]
  by_cases hx:p x=true
  ·simp[hx]
  ·simp only[hx,if_false,Bool.false_eq_true];rw[ih]
   by_cases h2:idxL p l<0
   ·simp[h2]
   ·have h3:¬(idxL p l+1<0):=by omega
    simp only[h2,h3,if_false];omega
theorem idxBy_eq {α:Type}(p:α->Bool)(d:α)(l:List α):Lib.idxBy (fun _ y=>p y) l d=idxL p l:=by
 have h1:=idxL_ge p l;rw[Lib.idxBy,idxByFrom_eq]
 split<;>omega
theorem idxL_neg {α:Type}(p:α->Bool)(l:List α):idxL p l<0↔∀x∈l,p x=false:=by
 induction l with
 | nil=>simp[idxL]
 | cons x l ih=>
  have h1:=idxL_ge p l;simp only[idxL,List.mem_cons,forall_eq_or_imp]
  by_cases hx:p x=true
  ·simp[hx]
  ·have hx':p x=false:=by simpa using hx
   simp only[hx',Bool.false_eq_true,if_false,true_and,<-ih]
   split<;>omega
theorem flat_get {α:Type}(row:α->List Value)(k:Nat)(hk:∀x,(row x).length=k)(l:List α)(j i:Nat)(hj:j<l.length)(hi:i<k):(l.flatMap row)[j*k+i]?=(row l[j])[i]?:=by
 induction l generalizing j with
 | nil=>simp at hj
 | cons x l ih=>
  rw[List.flatMap_cons]
  cases j with
  | zero=>
   rw[Nat.zero_mul,Nat.zero_add,List.getElem?_append_left (by rw[hk];exact hi)];rfl
  | succ j=>
   have e:(j+1)*k+i=(row x).length+(j*k+i):=by rw[hk,Nat.add_mul,Nat.one_mul];omega
   rw[e,List.getElem?_append_right (by omega),Nat.add_sub_cancel_left,ih j (by simpa using hj)];rfl
theorem flat_len {α:Type}(row:α->List Value)(k:Nat)(hk:∀x,(row x).length=k)(l:List α):(l.flatMap row).length=l.length*k:=by
 induction l with
 | nil=>simp
 | cons x l ih=>rw[List.flatMap_cons,List.length_append,ih,hk,List.length_cons,Nat.add_mul];omega
theorem own_cells {α:Type} [Inhabited α] (row:α->List Value)(k:Nat)(hk:∀x,(row x).length=k){w:World}{t:TypeId}{n c g:Nat}{l:List α}(h:w.ownsRow 0 t k (.slice (some ⟨g,0,none⟩) n c) l.length (l.flatMap row))(j:Nat)(hj:j<l.length)(i:Nat)(v:Value)(hv:(row l[j]!)[i]?=some v):w.cell? ⟨g,0+j*k+i,none⟩=some v:=by
 have hi:i<k:=by
  have:=(List.getElem?_eq_some_iff.1 hv).1;rw[hk]at this;exact this
 have e:l[j]! = l[j]:=by rw[List.getElem!_eq_getElem?_getD,List.getElem?_eq_getElem hj];rfl
 rw[e,<-flat_get row k hk l j i hj hi]at hv;have h1:=World.ownsRow.cells h (g:=g) rfl (j*k+i) v hv;have e2:(⟨g,0,none⟩:Addr).add (j*k+i)=⟨g,0+j*k+i,none⟩:=by unfold Addr.add;split<;>simp_all
 rw[e2]at h1;exact h1
theorem at_pred (id:ByteArray)(B:Nat)(w:World)(hB:B<w.heap.size)(hcell:w.cell? ⟨B,0,none⟩=some (.string id)):
  PredBelow Tryz.prog 192 #[.pointer (some ⟨B,0,none⟩)] (fun x:At=>.agg x.row.toArray) (fun x=>x.id.toList == id.toList) w:=fun W x hb=>by
 have hc:=(hb.cell (p:=⟨B,0,none⟩) hB).trans hcell;have hBW:B<W.heap.size:=Nat.lt_of_lt_of_le hB hb.size
 show Calls Tryz.prog 192 #[.agg #[.string x.id,.int .i64 x.til,.string x.ans],.pointer (some ⟨B,0,none⟩)] W _
 go_enter Tryz.func192,Tryz.ntmps192
 go_wp2
 all_goals (go_ret;exact⟨by simp_all,hb.alloc hb.size _⟩)
theorem idx_at_nil (a:Option Addr)(c:Nat)(fv:Value)(w:World):zE 191 #[.slice a 0 c,fv] w (.int .i64 (-1)):=by
 go_enter Tryz.func191,Tryz.ntmps191
 go_wp2
 go_loopg [5,8] 0 (fun gg _ s8 wr=>s8=.int .i64 0/\wr=w)
 case atStart=>exact⟨rfl,rfl⟩
 case round=>
  obtain⟨rfl,rfl⟩:=hrel
  go_wp2
  go_ret;exact⟨rfl,rfl⟩
theorem eg263:∀args w,(callFunc 192 args).run Tryz.prog w=.ok (.enter 192 args) w:=enters_of Tryz.func192 (by kernel_rfl) rfl
abbrev isG (g:ByteArray)(x:Ms):Bool:=x.grp.toList == g.toList
abbrev isI (id:ByteArray)(x:Dd):Bool:=x.id.toList == id.toList
abbrev isA (id:ByteArray)(x:At):Bool:=x.id.toList == id.toList
theorem idx_ms (v:Value)(l:List Ms)(g:ByteArray)(B:Nat)(w:World)(ho:w.ownsRow 0 191 5 v l.length (l.flatMap Ms.row))(hl:l.length<=1000000)(hB:B<w.heap.size)(hcell:w.cell? ⟨B,0,none⟩=some (.string g)):
  zB 193 #[v,.func (.func 194) #[] #[.pointer (some ⟨B,0,none⟩)]] w (.int .i64 (idxL (isG g) l)):=by
 have inh:Inhabited Ms:=⟨⟨0,⟨#[]⟩,⟨#[]⟩,0,0⟩⟩;rcases ho.2 with ⟨rfl,h0⟩|⟨gd,cap,cur,rfl,_,hg,_⟩
 ·have e0:l=[]:=List.length_eq_zero_iff.1 h0;subst e0;refine(idx_ms_none none 0 _ w).mono ?_;rintro e w' ⟨rfl,rfl⟩;exact⟨rfl,Below.refl _ _⟩
 ·have h:=AnyQ.slices_IndexFunc l197 5 Tryz.isAgg191 Tryz.sizeOf191 Ms.row (fun _=>rfl) (isG g) 194 #[.pointer (some ⟨B,0,none⟩)] eg198 gd 0 l.length cap l w (ms_pred g B w hB hcell) (Nat.le_refl _) (by omega) (lt_of_block hg) (fun j hj i v hi=>own_cells Ms.row 5 (fun _=>rfl) ho j hj i v hi);rw[List.take_length,idxBy_eq]at h;exact h
theorem idx_dd (v:Value)(l:List Dd)(id:ByteArray)(B:Nat)(w:World)(ho:w.ownsRow 0 195 3 v l.length (l.flatMap Dd.row))(hl:l.length<=1000000)(hB:B<w.heap.size)(hcell:w.cell? ⟨B,0,none⟩=some (.string id)):
  zB 197 #[v,.func (.func 198) #[] #[.pointer (some ⟨B,0,none⟩)]] w (.int .i64 (idxL (isI id) l)):=by
 have inh:Inhabited Dd:=⟨⟨⟨#[]⟩,0,0⟩⟩;rcases ho.2 with ⟨rfl,h0⟩|⟨gd,cap,cur,rfl,_,hg,_⟩
 ·have e0:l=[]:=List.length_eq_zero_iff.1 h0;subst e0;refine(idx_dd_none none 0 _ w).mono ?_;rintro e w' ⟨rfl,rfl⟩;exact⟨rfl,Below.refl _ _⟩
 ·have h:=AnyQ.slices_IndexFunc l201 3 Tryz.isAgg195 Tryz.sizeOf195 Dd.row (fun _=>rfl) (isI id) 198 #[.pointer (some ⟨B,0,none⟩)] eg202 gd 0 l.length cap l w (dd_pred id B w hB hcell) (Nat.le_refl _) (by omega) (lt_of_block hg) (fun j hj i v hi=>own_cells Dd.row 3 (fun _=>rfl) ho j hj i v hi);rw[List.take_length,idxBy_eq]at h;exact h
theorem idx_at (v:Value)(l:List At)(id:ByteArray)(B:Nat)(w:World)(ho:w.ownsRow 0 199 3 v l.length (l.flatMap At.row))(hl:l.length<=1000000)(hB:B<w.heap.size)(hcell:w.cell? ⟨B,0,none⟩=some (.string id)):
  zB 191 #[v,.func (.func 192) #[] #[.pointer (some ⟨B,0,none⟩)]] w (.int .i64 (idxL (isA id) l)):=by
 have inh:Inhabited At:=⟨⟨⟨#[]⟩,0,⟨#[]⟩⟩⟩;rcases ho.2 with ⟨rfl,h0⟩|⟨gd,cap,cur,rfl,_,hg,_⟩
 ·have e0:l=[]:=List.length_eq_zero_iff.1 h0;subst e0;refine(idx_at_nil none 0 _ w).mono ?_;rintro e w' ⟨rfl,rfl⟩;exact⟨rfl,Below.refl _ _⟩
 ·have h:=AnyQ.slices_IndexFunc l262 3 Tryz.isAgg199 Tryz.sizeOf199 At.row (fun _=>rfl) (isA id) 192 #[.pointer (some ⟨B,0,none⟩)] eg263 gd 0 l.length cap l w (at_pred id B w hB hcell) (Nat.le_refl _) (by omega) (lt_of_block hg) (fun j hj i v hi=>own_cells At.row 3 (fun _=>rfl) ho j hj i v hi);rw[List.take_length,idxBy_eq]at h;exact h
theorem head_gen (g:ByteArray)(qb:Nat)(v:Value)(l:List Ms)(w:World)(c7:w.cell? ⟨qb,7,none⟩=some v)(ho:w.ownsRow 0 191 5 v l.length (l.flatMap Ms.row))(hl:l.length<=1000000):
  zB 163 #[.pointer (some ⟨qb,0,none⟩),.string g] w (.int .i64 (idxL (isG g) l)):=by
 have hlt:=World.block_lt_of_cell? _ _ c7;have HI:Hid (Calls Tryz.prog 193 _ (w.alloc (.cells #[.string g] 9)) _):=idx_ms v l g w.heap.size (w.alloc (.cells #[.string g] 9)) (own_tch ho ((Tch.refl [] w).alloc _) (fun _ _=>by simp)) hl (by simp) (cell_of_one (heap_alloc_new _ _));clear ho;generalize idxL (isG g) l=z at*
 go_enter Tryz.func163,Tryz.ntmps163;go_wp2_with (go_at_call 193;refine HI.out.mono ?_;rintro e w' ⟨rfl,hb⟩);go_ret;exact⟨rfl,((Below.refl _ _).alloc (Nat.le_refl _) _).trans (hb.mono (by simp))⟩
theorem findDedup_gen (id:ByteArray)(qb:Nat)(v:Value)(l:List Dd)(w:World)(c9:w.cell? ⟨qb,9,none⟩=some v)(ho:w.ownsRow 0 195 3 v l.length (l.flatMap Dd.row))(hl:l.length<=1000000):
  zB 170 #[.pointer (some ⟨qb,0,none⟩),.string id] w (.int .i64 (idxL (isI id) l)):=by
 have hlt:=World.block_lt_of_cell? _ _ c9;have HI:Hid (Calls Tryz.prog 197 _ (w.alloc (.cells #[.string id] 9)) _):=idx_dd v l id w.heap.size (w.alloc (.cells #[.string id] 9)) (own_tch ho ((Tch.refl [] w).alloc _) (fun _ _=>by simp)) hl (by simp) (cell_of_one (heap_alloc_new _ _));clear ho;generalize idxL (isI id) l=z at*
 go_enter Tryz.func170,Tryz.ntmps170;go_wp2_with (go_at_call 197;refine HI.out.mono ?_;rintro e w' ⟨rfl,hb⟩);go_ret;exact⟨rfl,((Below.refl _ _).alloc (Nat.le_refl _) _).trans (hb.mono (by simp))⟩
theorem findAttempt_gen (id:ByteArray)(qb:Nat)(v:Value)(l:List At)(w:World)(c10:w.cell? ⟨qb,10,none⟩=some v)(ho:w.ownsRow 0 199 3 v l.length (l.flatMap At.row))(hl:l.length<=1000000):
  zB 162 #[.pointer (some ⟨qb,0,none⟩),.string id] w (.int .i64 (idxL (isA id) l)):=by
 have hlt:=World.block_lt_of_cell? _ _ c10;have HI:Hid (Calls Tryz.prog 191 _ (w.alloc (.cells #[.string id] 9)) _):=idx_at v l id w.heap.size (w.alloc (.cells #[.string id] 9)) (own_tch ho ((Tch.refl [] w).alloc _) (fun _ _=>by simp)) hl (by simp) (cell_of_one (heap_alloc_new _ _));clear ho;generalize idxL (isA id) l=z at*
 go_enter Tryz.func162,Tryz.ntmps162;go_wp2_with (go_at_call 191;refine HI.out.mono ?_;rintro e w' ⟨rfl,hb⟩);go_ret;exact⟨rfl,((Below.refl _ _).alloc (Nat.le_refl _) _).trans (hb.mono (by simp))⟩
end Go.Proofs.YtbdobaapadlcjabGreatDoor
namespace Go.Proofs.YtbdobaapadlcjabGreatDoor
open Go.RowKit
theorem putg_fin (K:World->Prop)(c:Wp.Rq)(g bd:ByteArray)(qb k nm nr:Nat)(ms rs0 rs ds at_:Value)(xm xr:List Value)(w W:World)(ht:Tch (qb::bl rs0) w W)
  (hq:Qb W qb c (k:Int) ms rs ds at_)(hm:W.ownsRow 0 191 5 ms nm xm)(hr:W.ownsRow 0 9 1 rs nr xr)
  (hK:∀w' ms' rs',Qb w' qb c ((k+1:Nat):Int) ms' rs' ds at_->w'.ownsRow 0 191 5 ms' (nm+1) (xm++msV k g bd)->w'.ownsRow 0 9 1 rs' nr xr->NewOr w ms ms'->NewOr w rs0 rs'->Tch (qb::(bl ms++bl rs0)) w w'->K w')(hNr:NewOr w rs0 rs)
  (v':Value)(w':World)(ho:w'.ownsRow 0 191 5 v' (nm+1) (xm++msV k g bd))(hg:(W.drew.alloc (.cells (msV k g bd).toArray 191)).grownBy w' ms.ownBlock)(hb:v'.ownBlock=ms.ownBlock\/v'.ownBlock=some (W.drew.alloc (.cells (msV k g bd).toArray 191)).heap.size):
  ∃g4 cap4,v'=.slice (some ⟨g4,0,none⟩) (nm+1) cap4/\w'.cell? ⟨qb,7,none⟩=some ms/\w'.frozen? ⟨qb,7,none⟩=false/\(w'.setCell ⟨qb,7,none⟩ v').cell? ⟨qb,6,none⟩=some (.int .i64 (k:Int))/\(w'.setCell ⟨qb,7,none⟩ v').frozen? ⟨qb,6,none⟩=false/\
   K ((w'.setCell ⟨qb,7,none⟩ v').setCell ⟨qb,6,none⟩ (.int .i64 ((k:Int)+1))):=by
 obtain⟨g4,cap4,hv⟩:=own_some ho;have t1:Tch [] W (W.drew.alloc (.cells (msV k g bd).toArray 191)):=(Tch.refl _ _).drew.alloc _;have t2:Tch (bl ms) W w':=(t1.sub (by simp)).trans (grown_tch hg) (fun x hx _=>hx);have hq1:Qb w' qb c (k:Int) ms rs ds at_:=(t2.block _ hq.lt (fun e=>own_ne hm hq (by decide) (mem_bl.1 e))).trans hq;have hq2:=hq1.set7 v';have t3:Tch [qb] w' ((w'.setCell ⟨qb,7,none⟩ v').setCell ⟨qb,6,none⟩ (.int .i64 ((k:Int)+1))):=((Tch.refl _ _).setCell (fun _=>by simp) _).setCell (fun _=>by simp) _;have hr':w'.ownsRow 0 9 1 rs nr xr:=own_tch hr t2 (fun j hj hm'=>by
  have e:=mem_bl.1 hm';rcases hr.2 with ⟨rfl,_⟩|⟨g',cap',cur',rfl,_,hg',_⟩
  ·simp[Value.ownBlock]at hj
  ·simp only[Value.ownBlock,Option.some.injEq]at hj;subst hj;exact own_ne hm hg' (by decide) e)
 refine⟨g4,cap4,hv,cell_qC hq1 7 _ rfl,hq1.fz 7,cell_qC hq2 6 _ rfl,hq2.fz 6,hK _ v' rs (hq2.set6 _) (own_tch ho t3 (fun j hj hm'=>?_)) (own_tch hr' t3 (fun j hj hm'=>?_)) (NewOr.of (Nat.le_trans ht.size t1.size) hb) hNr ?_⟩
 ·simp at hm';subst hm';exact own_ne ho hq1 (by decide) hj
 ·simp at hm';subst hm';exact own_ne hr' hq1 (by decide) hj
 ·refine((ht.sub (S':=qb::(bl ms++bl rs0)) (fun x hx _=>?_)).trans t2 (fun x hx _=>?_)).trans t3 (fun x hx _=>?_)
  ·rcases List.mem_cons.1 hx with h|h
   ·exact List.mem_cons.2 (.inl h)
   ·exact List.mem_cons.2 (.inr (List.mem_append.2 (.inr h)))
  ·exact List.mem_cons.2 (.inr (List.mem_append.2 (.inl hx)))
  ·exact List.mem_cons.2 (.inl (by simpa using hx))
theorem putg_walk (K:World->Prop)(c:Wp.Rq)(g bd:ByteArray)(qb k nr:Nat)(ms rs ds at_:Value)(l:List Ms)(xr:List Value)(w:World)
  (hq:Qb w qb c (k:Int) ms rs ds at_)(hm:w.ownsRow 0 191 5 ms l.length (l.flatMap Ms.row))(hr:w.ownsRow 0 9 1 rs nr xr)(hnm:l.length<=1000)(hnr:nr<=1000)(hk:k<=200)
  (hK:∀w' ms' rs',Qb w' qb c ((k+1:Nat):Int) ms' rs' ds at_->w'.ownsRow 0 191 5 ms' (l.length+1) (l.flatMap Ms.row++msV k g bd)->w'.ownsRow 0 9 1 rs' (if idxL (isG g) l<0 then nr+1 else nr) (if idxL (isG g) l<0 then xr++[.string g] else xr)->NewOr w ms ms'->NewOr w rs rs'->Tch (qb::(bl ms++bl rs)) w w'->K w'):
  Calls Tryz.prog 172 #[.pointer (some ⟨qb,0,none⟩),.string g,.string bd] w fun e w'=>e=.returned (.tuple #[])/\K w':=by
 have hlt:=hq.lt;have HQ:=zH hq;have HH:Hid (Calls Tryz.prog 163 _ w _):=head_gen g qb ms l w (cell_qC hq 7 _ rfl) hm (by omega);generalize idxL (isG g) l=z at HH hK;generalize l.flatMap Ms.row=xm at*
 generalize l.length=nm at*
 have HM:=zH hm;have HR:=zH hr;have HK0:=zH hK;clear hq hm hr hK;go_enter Tryz.func172,Tryz.ntmps172;go_wp2_with fail;refine HH.out.mono ?_;rintro e w1 ⟨rfl,hb1⟩;have t1:=Tch.of_below hb1;have hq1:Qb w1 qb c (k:Int) ms rs ds at_:=(t1.block _ hlt (by simp)).trans HQ.out;have HQ1:=zH hq1;have HM1:Hid (w1.ownsRow 0 191 5 ms nm xm):=own_tch HM.out t1 (fun _ _=>by simp);have HR1:Hid (w1.ownsRow 0 9 1 rs nr xr):=own_tch HR.out t1 (fun _ _=>by simp);have T1:=zH t1;have hlt1:=hq1.lt;have hK:=HK0.out
 by_cases hz:z<0
 ·simp only[hz,if_true]at hK;have HK:=zH hK;clear hK;have q8:w1.cell? ⟨qb,8,none⟩=some rs:=cell_qC hq1 8 _ rfl;clear hq1 hb1 t1;go_wp2_with (at_builtin;refine wpList_vals _ rfl _ _ 22 9 rfl Tryz.underlying22 (.string ⟨#[]⟩) 1 16 info9 rfl (by decide) (by decide) rs nr xr ?hs ?own w1.heap.size [.string g] 1 ?hx rfl (by decide) ?hg ?one (by omega) ?k)
  case hs=>simp[Act.eval,Act.put]
  case own=>exact own_tch HR1.out ((Tch.refl [] _).alloc _) (fun _ _=>by simp)
  case hx=>simp[Act.eval,Act.put]
  case hg=>exact heap_alloc_new _ _
  case one=>intro u hu;simp at hu;subst hu;rfl
  intro v2 w2 ho2 hg2 hb2;have t2:Tch (bl rs) w1 w2:=(((Tch.refl [] w1).alloc _).sub (by simp)).trans (grown_tch hg2) (fun x hx _=>hx);have hq2:Qb w2 qb c (k:Int) ms rs ds at_:=(t2.block _ hlt1 (fun e=>own_ne HR1.out HQ1.out (by decide) (mem_bl.1 e))).trans HQ1.out;obtain⟨g2,cap2,hv2⟩:=own_some ho2;subst hv2;have t3:Tch [qb] w2 (w2.setCell ⟨qb,8,none⟩ (.slice (some ⟨g2,0,none⟩) (nr+1) cap2)):=(Tch.refl _ _).setCell (fun _=>by simp) _;have HQ3:Hid (Qb (w2.setCell ⟨qb,8,none⟩ (.slice (some ⟨g2,0,none⟩) (nr+1) cap2)) qb c (k:Int) ms (.slice (some ⟨g2,0,none⟩) (nr+1) cap2) ds at_):=hq2.set8 _;have HM2:w2.ownsRow 0 191 5 ms nm xm:=own_tch HM1.out t2 (fun j hj hm'=>by
   have e:=mem_bl.1 hm';rcases HM1.out.2 with ⟨rfl,_⟩|⟨g',cap',cur',rfl,_,hg',_⟩
   ·simp[Value.ownBlock]at hj
   ·simp only[Value.ownBlock,Option.some.injEq]at hj;subst hj;exact own_ne HR1.out hg' (by decide) e)
  have HM3:Hid ((w2.setCell ⟨qb,8,none⟩ (.slice (some ⟨g2,0,none⟩) (nr+1) cap2)).ownsRow 0 191 5 ms nm xm):=own_tch HM2 t3 (fun j hj hm'=>by
   simp at hm';subst hm';exact own_ne HM2 hq2 (by decide) hj)
  have HR3:Hid ((w2.setCell ⟨qb,8,none⟩ (.slice (some ⟨g2,0,none⟩) (nr+1) cap2)).ownsRow 0 9 1 (.slice (some ⟨g2,0,none⟩) (nr+1) cap2) (nr+1) (xr++[.string g])):=own_tch ho2 t3 (fun j hj hm'=>by
   simp at hm';subst hm';exact own_ne ho2 hq2 (by decide) hj)
  have T3:Hid (Tch (qb::bl rs) w (w2.setCell ⟨qb,8,none⟩ (.slice (some ⟨g2,0,none⟩) (nr+1) cap2))):=((T1.out.sub (by simp)).trans t2 (fun x hx _=>List.mem_cons.2 (.inr hx))).trans t3 (fun x hx _=>List.mem_cons.2 (.inl (by simpa using hx)));have HNR:Hid (NewOr w rs (.slice (some ⟨g2,0,none⟩) (nr+1) cap2)):=fun j hj=>by
   rcases hb2 with h|h
   ·exact .inl (h.symm.trans hj)
   ·rw[hj]at h;injection h with h;have:=T1.out.size;exact .inr (by omega)
  have c8:w2.cell? ⟨qb,8,none⟩=some rs:=cell_qC hq2 8 _ rfl;have z8:=hq2.fz 8;clear ho2 hg2 hb2 t2 hq2 t3 HM2 q8;go_wp2_with fail;generalize hWW:w2.setCell ⟨qb,8,none⟩ (.slice (some ⟨g2,0,none⟩) (nr+1) cap2)=WW at HQ3 HM3 HR3 T3 ⊢;have HQW:Hid (Qb WW qb c (k:Int) ms (.slice (some ⟨g2,0,none⟩) (nr+1) cap2) ds at_):=HQ3;have HMW:Hid (WW.ownsRow 0 191 5 ms nm xm):=HM3;have HRW:Hid (WW.ownsRow 0 9 1 (.slice (some ⟨g2,0,none⟩) (nr+1) cap2) (nr+1) (xr++[.string g])):=HR3;have TW:Hid (Tch (qb::bl rs) w WW):=T3;clear HQ3 HM3 HR3 T3 hWW c8 z8;have q6:WW.cell? ⟨qb,6,none⟩=some (.int .i64 (k:Int)):=cell_qC HQW.out 6 _ rfl;have q7:WW.cell? ⟨qb,7,none⟩=some ms:=cell_qC HQW.out 7 _ rfl;have q7a:(WW.alloc (.cells (msV k g bd).toArray 191)).cell? ⟨qb,7,none⟩=some ms:=Lib.cell?_alloc_some _ q7;have HG:Hid (∀v' w',w'.ownsRow 0 191 5 v' (nm+1) (xm++msV k g bd)->(WW.drew.alloc (.cells (msV k g bd).toArray 191)).grownBy w' ms.ownBlock->(v'.ownBlock=ms.ownBlock\/v'.ownBlock=some (WW.drew.alloc (.cells (msV k g bd).toArray 191)).heap.size)->_):=fun v' w'=>putg_fin K c g bd qb k nm (nr+1) ms rs (.slice (some ⟨g2,0,none⟩) (nr+1) cap2) ds at_ xm (xr++[.string g]) w WW TW.out HQW.out HMW.out HRW.out HK.out HNR.out v' w'
  go_region_law (refine step_vals rfl (.tmp 24) (.tmp 32) 133 191 rfl Tryz.underlying133 (.agg #[.int .i64 0,.string ⟨#[]⟩,.string ⟨#[]⟩,.int .i64 0,.int .i64 0]) 5 56 info214 rfl (by decide) (by decide) ms nm xm (by simp[Act.eval,Act.put]) (own_tch HMW.out ((Tch.refl [] _).drew.alloc _) (fun _ _=>by simp)) WW.heap.size (msV k g bd) 1 (by simp[Act.eval,Act.put]) rfl (by decide) (heap_alloc_new _ _) (by intro u hu;simp at hu;rcases hu with rfl|rfl|rfl|rfl|rfl<;>rfl) (by omega) ?_;intro v' w9 ho3 hg3 hb3;obtain⟨g4,cap4,hv4,c9,z9,c6,z6,hfin⟩:=HG.out v' w9 ho3 hg3 hb3;subst hv4;clear ho3 hg3 hb3;have HFIN:Hid (K _):=hfin;clear hfin)
  all_goals (go_wp2_with fail;go_end0;exact⟨rfl,HFIN.out⟩)
 ·simp only[hz,if_false]at hK;have HK:=zH hK;clear hK hq1 hb1 t1;go_wp2_with fail;have HQW:=zH HQ1;have HMW:=zH HM1;have HRW:=zH HR1;have TW:Hid (Tch (qb::bl rs) w w1):=T1.out.sub (by simp);have HNR:Hid (NewOr w rs rs):=NewOr.refl _ _;have q6:w1.cell? ⟨qb,6,none⟩=some (.int .i64 (k:Int)):=cell_qC HQW.out 6 _ rfl;have q7:w1.cell? ⟨qb,7,none⟩=some ms:=cell_qC HQW.out 7 _ rfl;have q7a:(w1.alloc (.cells (msV k g bd).toArray 191)).cell? ⟨qb,7,none⟩=some ms:=Lib.cell?_alloc_some _ q7;have HG:Hid (∀v' w',w'.ownsRow 0 191 5 v' (nm+1) (xm++msV k g bd)->(w1.drew.alloc (.cells (msV k g bd).toArray 191)).grownBy w' ms.ownBlock->(v'.ownBlock=ms.ownBlock\/v'.ownBlock=some (w1.drew.alloc (.cells (msV k g bd).toArray 191)).heap.size)->_):=fun v' w'=>putg_fin K c g bd qb k nm nr ms rs rs ds at_ xm xr w w1 TW.out HQW.out HMW.out HRW.out HK.out HNR.out v' w'
  go_region_law (refine step_vals rfl (.tmp 24) (.tmp 32) 133 191 rfl Tryz.underlying133 (.agg #[.int .i64 0,.string ⟨#[]⟩,.string ⟨#[]⟩,.int .i64 0,.int .i64 0]) 5 56 info214 rfl (by decide) (by decide) ms nm xm (by simp[Act.eval,Act.put]) (own_tch HMW.out ((Tch.refl [] _).drew.alloc _) (fun _ _=>by simp)) w1.heap.size (msV k g bd) 1 (by simp[Act.eval,Act.put]) rfl (by decide) (heap_alloc_new _ _) (by intro u hu;simp at hu;rcases hu with rfl|rfl|rfl|rfl|rfl<;>rfl) (by omega) ?_;intro v' w9 ho3 hg3 hb3;obtain⟨g4,cap4,hv4,c9,z9,c6,z6,hfin⟩:=HG.out v' w9 ho3 hg3 hb3;subst hv4;clear ho3 hg3 hb3;have HFIN:Hid (K _):=hfin;clear hfin)
  all_goals (go_wp2_with fail;go_end0;exact⟨rfl,HFIN.out⟩)
theorem sentg_fin (K:World->Prop)(c r:Wp.Rq)(y:Sl)(id:ByteArray)(qb k nr nd gq gi gn gr:Nat)(now til:Int)(vd ms rs at_:Value)(l:List Ms)(xr xd:List Value)(w:World)
  (hq:Qb w qb c (k:Int) ms rs vd at_)(hm:w.ownsRow 0 191 5 ms l.length (l.flatMap Ms.row))(hr:w.ownsRow 0 9 1 rs nr xr)(hd:w.ownsRow 0 195 3 vd nd xd)(hnm:l.length<=1000)(hnd:nd<=1000)(hnr:nr<=1000)(hk:k<=200)
  (hgq:w.heap[gq]?=some (.cells #[.pointer (some ⟨qb,0,none⟩)] 88 (0,0)))(hgr:w.heap[gr]?=some (.cells (cellsOf r y.v) 24 (0,0)))
  (hgi:w.heap[gi]?=some (.cells #[.string id] 9 (0,0)))(hgn:w.heap[gn]?=some (.cells #[.int .i64 now] 3 (0,0)))
  (hK:∀w' ms' rs' ds',Qb w' qb c ((k+1:Nat):Int) ms' rs' ds' at_->w'.ownsRow 0 191 5 ms' (l.length+1) (l.flatMap Ms.row++msV k r.grp r.bod)->w'.ownsRow 0 9 1 rs' (if idxL (isG r.grp) l<0 then nr+1 else nr) (if idxL (isG r.grp) l<0 then xr++[.string r.grp] else xr)->w'.ownsRow 0 195 3 ds' (nd+1) (xd++ddV id k til)->NewOr w ms ms'->NewOr w rs rs'->(∀j,ds'.ownBlock=some j->vd.ownBlock=some j\/w.heap.size<=j)->Tch (qb::(bl vd++(bl ms++bl rs))) w w'->K w')
  (v':Value)(w':World)(ho:w'.ownsRow 0 195 3 v' (nd+1) (xd++ddV id k til))(hg:(w.drew.alloc (.cells (ddV id k til).toArray 195)).grownBy w' vd.ownBlock)(hb:v'.ownBlock=vd.ownBlock\/v'.ownBlock=some (w.drew.alloc (.cells (ddV id k til).toArray 195)).heap.size):
  ∃g4 cap4,v'=.slice (some ⟨g4,0,none⟩) (nd+1) cap4/\Sf w' gq gi gn qb id now c.win k/\w'.cell? ⟨qb,9,none⟩=some vd/\
   Sf (w'.setCell ⟨qb,9,none⟩ v') gq gi gn qb id now c.win k/\(w'.setCell ⟨qb,9,none⟩ v').cell? ⟨gr,9,none⟩=some (.string r.grp)/\(w'.setCell ⟨qb,9,none⟩ v').cell? ⟨gr,11,none⟩=some (.string r.bod)/\
   Calls Tryz.prog 172 #[.pointer (some ⟨qb,0,none⟩),.string r.grp,.string r.bod] (w'.setCell ⟨qb,9,none⟩ v') fun e w2=>e=.returned (.tuple #[])/\K w2:=by
 obtain⟨g4,cap4,hv4⟩:=own_some ho;have t1:Tch [] w (w.drew.alloc (.cells (ddV id k til).toArray 195)):=(Tch.refl _ _).drew.alloc _;have t2:Tch (bl vd) w w':=(t1.sub (by simp)).trans (grown_tch hg) (fun x hx _=>hx);have hq1:Qb w' qb c (k:Int) ms rs vd at_:=(t2.block _ hq.lt (fun e=>own_ne hd hq (by decide) (mem_bl.1 e))).trans hq;have hgq1:w'.heap[gq]?=some (.cells #[.pointer (some ⟨qb,0,none⟩)] 88 (0,0)):=(t2.block _ (lt_of_block hgq) (fun e=>own_ne hd hgq (by decide) (mem_bl.1 e))).trans hgq;have hgr1:w'.heap[gr]?=some (.cells (cellsOf r y.v) 24 (0,0)):=(t2.block _ (lt_of_block hgr) (fun e=>own_ne hd hgr (by decide) (mem_bl.1 e))).trans hgr;have hgi1:w'.heap[gi]?=some (.cells #[.string id] 9 (0,0)):=(t2.block _ (lt_of_block hgi) (fun e=>own_ne hd hgi (by decide) (mem_bl.1 e))).trans hgi;have hgn1:w'.heap[gn]?=some (.cells #[.int .i64 now] 3 (0,0)):=(t2.block _ (lt_of_block hgn) (fun e=>own_ne hd hgn (by decide) (mem_bl.1 e))).trans hgn;have hm1:=own_apart hm hd (by decide) t2;have hr1:=own_apart hr hd (by decide) t2;have hq2:=hq1.set9 v';have t3:Tch [qb] w' (w'.setCell ⟨qb,9,none⟩ v'):=(Tch.refl _ _).setCell (fun _=>by simp) _;have hnq:gq≠qb:=fun e=>by rw[e,hq]at hgq;simp at hgq
 have hnr':gr≠qb:=fun e=>by rw[e,hq]at hgr;simp at hgr
 have hniq:gi≠qb:=fun e=>by rw[e,hq]at hgi;simp at hgi
 have hnnq:gn≠qb:=fun e=>by rw[e,hq]at hgn;simp at hgn
 have hgi2:=(t3.block _ (lt_of_block hgi1) (by simpa using hniq)).trans hgi1;have hgn2:=(t3.block _ (lt_of_block hgn1) (by simpa using hnnq)).trans hgn1;have hgq2:=(t3.block _ (lt_of_block hgq1) (by simpa using hnq)).trans hgq1;have hgr2:=(t3.block _ (lt_of_block hgr1) (by simpa using hnr')).trans hgr1;have hd2:(w'.setCell ⟨qb,9,none⟩ v').ownsRow 0 195 3 v' (nd+1) (xd++ddV id k til):=own_set ho hq1 (by decide) t3;have hm2:=own_set hm1 hq1 (by decide) t3;have hr2:=own_set hr1 hq1 (by decide) t3;refine⟨g4,cap4,hv4,⟨cell_of_one hgq1,cell_of_one hgi1,cell_of_one hgn1,cell_qC hq1 3 _ rfl,cell_qC hq1 6 _ rfl,hq1.fz 9⟩,cell_qC hq1 9 _ rfl,⟨cell_of_one hgq2,cell_of_one hgi2,cell_of_one hgn2,cell_qC hq2 3 _ rfl,cell_qC hq2 6 _ rfl,hq2.fz 9⟩,gr9 hgr2,gr11 hgr2,?_⟩;refine putg_walk K c r.grp r.bod qb k nr ms rs v' at_ l xr _ hq2 hm2 hr2 hnm hnr hk ?_;intro w3 ms3 rs3 hq3 hm3 hr3 hN1 hN2 ht3;refine hK w3 ms3 rs3 v' hq3 hm3 hr3 (own_tch hd2 ht3 (fun j hj hm'=>?_)) (hN1.mono (Nat.le_trans t2.size t3.size)) (hN2.mono (Nat.le_trans t2.size t3.size)) (fun j hj=>?_) ?_
 ·rcases List.mem_cons.1 hm' with h|h
  ·subst h;exact own_ne hd2 hq2 (by decide) hj
  ·obtain⟨C,hjj⟩:∃C,(w'.setCell ⟨qb,9,none⟩ v').heap[j]?=some (.cells C 195 (0,0)):=by
    rcases hd2.2 with ⟨h0,_⟩|⟨g',cap',cur',h0,_,hg',_⟩
    ·rw[h0]at hj;simp[Value.ownBlock]at hj
    ·rw[h0]at hj;simp only[Value.ownBlock,Option.some.injEq]at hj;subst hj;exact⟨_,hg'⟩
   rcases List.mem_append.1 h with h|h
   ·exact own_ne hm2 hjj (by decide) (mem_bl.1 h)
   ·exact own_ne hr2 hjj (by decide) (mem_bl.1 h)
 ·rcases hb with h|h
  ·exact .inl (h.symm.trans hj)
  ·right;rw[hj]at h;injection h with h;have:=t1.size;omega
 ·refine((t2.sub (S':=qb::(bl vd++(bl ms++bl rs))) (fun x hx _=>?_)).trans t3 (fun x hx _=>?_)).trans ht3 (fun x hx _=>?_)
  ·exact List.mem_cons.2 (.inr (List.mem_append.2 (.inl hx)))
  ·exact List.mem_cons.2 (.inl (by simpa using hx))
  ·rcases List.mem_cons.1 hx with h|h
   ·exact List.mem_cons.2 (.inl h)
   ·exact List.mem_cons.2 (.inr (List.mem_append.2 (.inr h)))
theorem sentg_walk (K:World->Prop)(c r:Wp.Rq)(y:Sl)(id:ByteArray)(qb k nr nd gq gi gn gr:Nat)(now:Int)(vd ms rs at_:Value)(l:List Ms)(xr xd:List Value)(w:World)
  (hq:Qb w qb c (k:Int) ms rs vd at_)(hm:w.ownsRow 0 191 5 ms l.length (l.flatMap Ms.row))(hr:w.ownsRow 0 9 1 rs nr xr)(hd:w.ownsRow 0 195 3 vd nd xd)(hnm:l.length<=1000)(hnd:nd<=1000)(hnr:nr<=1000)(hk:k<=200)
  (hwin:0<c.win/\c.win<=1001)(hnow:0<=now/\now<=60000)
  (hgq:w.heap[gq]?=some (.cells #[.pointer (some ⟨qb,0,none⟩)] 88 (0,0)))(hgi:w.heap[gi]?=some (.cells #[.string id] 9 (0,0)))(hgn:w.heap[gn]?=some (.cells #[.int .i64 now] 3 (0,0)))(hgr:w.heap[gr]?=some (.cells (cellsOf r y.v) 24 (0,0)))
  (hK:∀w' ms' rs' ds',Qb w' qb c ((k+1:Nat):Int) ms' rs' ds' at_->w'.ownsRow 0 191 5 ms' (l.length+1) (l.flatMap Ms.row++msV k r.grp r.bod)->w'.ownsRow 0 9 1 rs' (if idxL (isG r.grp) l<0 then nr+1 else nr) (if idxL (isG r.grp) l<0 then xr++[.string r.grp] else xr)->w'.ownsRow 0 195 3 ds' (nd+1) (xd++ddV id k (now+c.win))->NewOr w ms ms'->NewOr w rs rs'->(∀j,ds'.ownBlock=some j->vd.ownBlock=some j\/w.heap.size<=j)->Tch (qb::(bl vd++(bl ms++bl rs))) w w'->K w'):
  Calls Tryz.prog 171 #[.pointer (some ⟨gq,0,none⟩),.pointer (some ⟨gi,0,none⟩),.pointer (some ⟨gn,0,none⟩),.pointer (some ⟨gr,0,none⟩)] w fun e w'=>e=.returned (.tuple #[])/\K w':=by
 have HG:Hid (∀v' w',w'.ownsRow 0 195 3 v' (nd+1) (xd++ddV id k (now+c.win))->(w.drew.alloc (.cells (ddV id k (now+c.win)).toArray 195)).grownBy w' vd.ownBlock->(v'.ownBlock=vd.ownBlock\/v'.ownBlock=some (w.drew.alloc (.cells (ddV id k (now+c.win)).toArray 195)).heap.size)->_):=fun v' w'=>sentg_fin K c r y id qb k nr nd gq gi gn gr now (now+c.win) vd ms rs at_ l xr xd w hq hm hr hd hnm hnd hnr hk hgq hgr hgi hgn hK v' w'
 have q3:w.cell? ⟨qb,3,none⟩=some (.int .i64 c.win):=cell_qC hq 3 _ rfl;have q6:w.cell? ⟨qb,6,none⟩=some (.int .i64 (k:Int)):=cell_qC hq 6 _ rfl;have q9:w.cell? ⟨qb,9,none⟩=some vd:=cell_qC hq 9 _ rfl;have cq:=cell_of_one hgq;have ci:=cell_of_one hgi;have cn:=cell_of_one hgn;have l1:=hq.lt;have HD:=zH hd;have hw1:=hwin.1;have hwr:IntKind.i64.wrap (now+c.win)=now+c.win:=by rw[IntKind.wrap_i64];omega
 have HZ:=zH (hq.fz 9);have HZB:Hid (∀o,(w.drew.alloc o).frozen? ⟨qb,9,none⟩=false):=fun o=>frozen_of_row _ qb 9 _ 137 ((Below.heap_alloc _ _ _ hq.lt).trans hq)
 clear hq hm hr hd hgq hgi hgn hgr hK hwin hnow;go_enter Tryz.func171,Tryz.ntmps171;go_wp2_with fail;have z9a:=HZ.out;have z9c:∀o,(w.alloc o).drew.frozen? ⟨qb,9,none⟩=false:=fun o=>HZB.out o
 refine wp_region_noPanic ?_;refine wp_region_held_drew (S:=(fun w'=>w'.cell? ⟨gq,0,none⟩=some (.pointer (some ⟨qb,0,none⟩))/\w'.cell? ⟨gi,0,none⟩=some (.string id)/\w'.cell? ⟨gn,0,none⟩=some (.int .i64 now)/\w'.cell? ⟨qb,3,none⟩=some (.int .i64 c.win)/\w'.cell? ⟨qb,6,none⟩=some (.int .i64 (k:Int))/\w'.frozen? ⟨qb,9,none⟩=false)) (by kernel_rfl) (by go_keep) (fun hHeld=>?_);refine zK 0 (h:=?_);refine zK 1 (h:=?_);refine zK 2 (h:=?_);refine zK 3 (h:=?_);refine zK 5 (h:=?_);refine zK 6 (h:=?_);refine zK 7 (h:=?_);refine zK 8 (h:=?_);refine zK 9 (h:=?_);refine zK 10 (h:=?_);refine zK 11 (h:=?_);refine zK 12 (h:=?_);refine zK 13 (h:=?_);refine zK 14 (h:=?_);refine zK 15 (h:=?_);refine zK 16 (h:=?_)
 try simp only[Act.put,List.setIfInBounds_toArray,List.set_cons_zero,List.set_cons_succ]
 refine wpAnyH_ready (rs:=[4,17]) (by kernel_rfl) (by simp) ?_;refine AllReadyH.cons rfl (fun K' hK'=>?_) (AllReadyH.cons rfl (fun K' hK'=>?_) AllReadyH.nil)
 ·go_simp;refine hK'.out _ _ (by go_keep) (fun hHeld=>?_);clear hK' K'
  try simp only[Act.put,List.setIfInBounds_toArray,List.set_cons_zero,List.set_cons_succ]
  refine wpAnyH_ready (rs:=[17]) (by kernel_rfl) (by simp) ?_;refine AllReadyH.cons rfl (fun K' hK'=>?_) AllReadyH.nil;go_simp;refine hK'.out _ _ (by go_keep) (fun hHeld=>?_);clear hK' K'
  try simp only[Act.put,List.setIfInBounds_toArray,List.set_cons_zero,List.set_cons_succ]
  refine wpAnyH_ready (rs:=[18]) (by kernel_rfl) (by simp) ?_;refine AllReadyH.cons rfl (fun K' hK'=>?_) AllReadyH.nil;refine step_vals rfl (.tmp 13) (.tmp 26) 134 195 rfl Tryz.underlying134 (.agg #[.string ⟨#[]⟩,.int .i64 0,.int .i64 0]) 3 32 info219 rfl (by decide) (by decide) vd nd xd (by simp[Act.eval,Act.put]) (by first|exact own_tch HD.out ((Tch.refl [] _).alloc _).drew (fun _ _=>by simp)|exact own_tch HD.out ((Tch.refl [] _).drew.alloc _) (fun _ _=>by simp)) w.heap.size (ddV id k (now+c.win)) 1 (by simp[Act.eval,Act.put]) rfl (by decide) (by first|exact heap_alloc_new _ _|exact heap_alloc_new w _) (by intro u hu;simp at hu;rcases hu with rfl|rfl|rfl<;>rfl) (by omega) ?_;intro v' w9 ho3 hg3 hb3;obtain⟨g4,cap4,hv4,⟨s1,s2,s3,s4,s5,s6⟩,d9,⟨u1,u2,u3,u4,u5,u6⟩,d10,e10,hfin⟩:=HG.out v' w9 ho3 hg3 hb3;subst hv4;clear ho3 hg3 hb3;have HFIN:Hid (Calls Tryz.prog 172 _ _ _):=hfin;clear hfin;refine hK'.out _ _ (by go_keep) (fun hHeld=>?_);clear hK' K'
  try simp only[Act.put,List.setIfInBounds_toArray,List.set_cons_zero,List.set_cons_succ]
  refine zK 19 (h:=?_);refine zK 20 (h:=?_)
  try simp only[Act.put,List.setIfInBounds_toArray,List.set_cons_zero,List.set_cons_succ]
  refine wpAnyH_ready (rs:=[21]) (by kernel_rfl) (by simp) ?_;refine AllReadyH.cons rfl (fun K' hK'=>?_) AllReadyH.nil;go_simp;refine hK'.out _ _ (by go_keep) (fun hHeld=>?_);clear hK' K'
  try simp only[Act.put,List.setIfInBounds_toArray,List.set_cons_zero,List.set_cons_succ]
  refine wpAnyH_done (by kernel_rfl) ?_ _;refine NoPanic.normal ?_;go_wp2_with fail;refine HFIN.out.mono ?_;rintro e w2 ⟨rfl,hk2⟩;go_wp2_with fail;go_end0;exact⟨rfl,hk2⟩
 ·go_simp;refine hK'.out _ _ (by go_keep) (fun hHeld=>?_);clear hK' K'
  try simp only[Act.put,List.setIfInBounds_toArray,List.set_cons_zero,List.set_cons_succ]
  refine wpAnyH_ready (rs:=[4]) (by kernel_rfl) (by simp) ?_;refine AllReadyH.cons rfl (fun K' hK'=>?_) AllReadyH.nil;go_simp;refine hK'.out _ _ (by go_keep) (fun hHeld=>?_);clear hK' K'
  try simp only[Act.put,List.setIfInBounds_toArray,List.set_cons_zero,List.set_cons_succ]
  refine wpAnyH_ready (rs:=[18]) (by kernel_rfl) (by simp) ?_;refine AllReadyH.cons rfl (fun K' hK'=>?_) AllReadyH.nil;refine step_vals rfl (.tmp 13) (.tmp 26) 134 195 rfl Tryz.underlying134 (.agg #[.string ⟨#[]⟩,.int .i64 0,.int .i64 0]) 3 32 info219 rfl (by decide) (by decide) vd nd xd (by simp[Act.eval,Act.put]) (by first|exact own_tch HD.out ((Tch.refl [] _).alloc _).drew (fun _ _=>by simp)|exact own_tch HD.out ((Tch.refl [] _).drew.alloc _) (fun _ _=>by simp)) w.heap.size (ddV id k (now+c.win)) 1 (by simp[Act.eval,Act.put]) rfl (by decide) (by first|exact heap_alloc_new _ _|exact heap_alloc_new w _) (by intro u hu;simp at hu;rcases hu with rfl|rfl|rfl<;>rfl) (by omega) ?_;intro v' w9 ho3 hg3 hb3;obtain⟨g4,cap4,hv4,⟨s1,s2,s3,s4,s5,s6⟩,d9,⟨u1,u2,u3,u4,u5,u6⟩,d10,e10,hfin⟩:=HG.out v' w9 ho3 hg3 hb3;subst hv4;clear ho3 hg3 hb3;have HFIN:Hid (Calls Tryz.prog 172 _ _ _):=hfin;clear hfin;refine hK'.out _ _ (by go_keep) (fun hHeld=>?_);clear hK' K'
  try simp only[Act.put,List.setIfInBounds_toArray,List.set_cons_zero,List.set_cons_succ]
  refine zK 19 (h:=?_);refine zK 20 (h:=?_)
  try simp only[Act.put,List.setIfInBounds_toArray,List.set_cons_zero,List.set_cons_succ]
  refine wpAnyH_ready (rs:=[21]) (by kernel_rfl) (by simp) ?_;refine AllReadyH.cons rfl (fun K' hK'=>?_) AllReadyH.nil;go_simp;refine hK'.out _ _ (by go_keep) (fun hHeld=>?_);clear hK' K'
  try simp only[Act.put,List.setIfInBounds_toArray,List.set_cons_zero,List.set_cons_succ]
  refine wpAnyH_done (by kernel_rfl) ?_ _;refine NoPanic.normal ?_;go_wp2_with fail;refine HFIN.out.mono ?_;rintro e w2 ⟨rfl,hk2⟩;go_wp2_with fail;go_end0;exact⟨rfl,hk2⟩
end Go.Proofs.YtbdobaapadlcjabGreatDoor
