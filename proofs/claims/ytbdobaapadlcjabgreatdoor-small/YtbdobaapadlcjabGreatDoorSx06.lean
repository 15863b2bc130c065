import Derived.Deep.RegionHeld3
import Derived.Deep.RegionLaw
import Derived.Lib.Bytes
import Derived.Test.YtbdobaapadlcjabGreatDoorSx05
import Derived.Shelf.Abstract
set_option maxHeartbeats 1000000
set_option linter.unusedVariables false
set_option linter.unusedSimpArgs false
namespace Go.Proofs.YtbdobaapadlcjabGreatDoor
abbrev zT (n:Nat)(a:Array Value)(W:World)(v:Value):Prop:=Calls Tryz.prog n a W fun e w'=>e=.returned v/\Tch [] W w'
theorem zL (r:Wp.Rq)(v:Value):cellsOf r v=#[.int .u8 (r.op.toNat:Int),.int .u8 (r.q.toNat:Int),.int .u8 (r.d.toNat:Int),.int .i64 r.vis,.int .i64 r.win,.int .i64 r.rcv,.int .i64 r.quo,.int .i64 r.mx,.int .i64 r.tic,.string r.grp,.string r.ded,.string r.bod,.string r.att,.string r.han,v]:=rfl
theorem zM (r:Wp.Rq)(y:Sl):cellsOf r y.v=#[.int .u8 (r.op.toNat:Int),.int .u8 (r.q.toNat:Int),.int .u8 (r.d.toNat:Int),.int .i64 r.vis,.int .i64 r.win,.int .i64 r.rcv,.int .i64 r.quo,.int .i64 r.mx,.int .i64 r.tic,.string r.grp,.string r.ded,.string r.bod,.string r.att,.string r.han,.slice y.a y.n y.c]:=rfl
theorem zK {P:Program}{md:Region.Mode}{ops:Array Oper}{Q:Exit->Act->World->Prop}{S:World->Prop}(i:Nat){oi:Oper}{v:Value}{fuel:Nat}{listed:Array Bool}{a:Act}{w:World}(hi:ops[i]?=some oi:=by rfl)
  (hs:Region.noSelect ops=true:=by kernel_rfl)(hf:Region.free md ops listed i=true:=by kernel_rfl)(hr:(Region.ready md ops listed).contains i=true:=by kernel_rfl)
  (hQ:∀c a w,Q (.panic c) (a.put oi.dst v) w->Q (.panic c) a w:=by exact fun _ _ _ h=>h)(hw:Region.wanted oi (yielded ops a.tmps)=true:=by rfl)(hy:∀w,S w->(execOp a.eval oi).run P w=.ok (.value v) w:=by(intro w hSw;(try dsimp only at hSw);go_simp;try with_reducible rfl))(hS:S w:=by assumption)
  (h:wpAnyH P md ops Q S fuel (listed.setIfInBounds i true) (a.put oi.dst v) w):wpAnyH P md ops Q S (fuel+1) listed a w:=wpAnyH_take hi hs hf hr hQ (Or.inl ⟨hw,hy⟩) hS h
end Go.Proofs.YtbdobaapadlcjabGreatDoor
namespace Go.Proofs.YtbdobaapadlcjabGreatDoor
open Go.RowKit
theorem run_app {P:Program}(w:World)(base:Nat)(t ty e:TypeId)(i:TypeInfo)(z:Value)(size bytes:Nat)(ht:P.underlying t=some (.slice e))(hi:P.info? e=some i)(hz:i.zero=some z)
  (hsize:i.size=size)(hby:i.bytes=bytes)(hzs:z.cells.size=size)(hsz:0<size)
  (v:Value)(n:Nat)(xs:List Value)(hown:w.ownsRow base e size v n xs)
  (a:Addr)(m c:Nat)(news:List Value)(hl:news.length=m*size)(hnews:∀j u,news[j]?=some u->w.cell? (a.add j)=some u)(h1:∀u∈news,u.oneCell'=true)
  (h63:n+m<=maxLen)(hbytes:(n+m)*bytes<=140737488355328)(hbase:base<=w.heap.size)(hm:0<m):
  ∃v' w',(Builtin.append_ #[t,t] ty #[v,.slice (some a) m c]).run P w=.ok v' w'/\w'.ownsRow base e size v' (n+m) (xs++news)/\w.grownBy w' v.ownBlock/\(v'.ownBlock=v.ownBlock\/v'.ownBlock=some w.heap.size):=by
 obtain⟨v',w',hr,h2,h3,_⟩:=run_append_own (P:=P) w base t ty e i z size bytes ht hi hz hsize hby hzs hsz v n xs hown a m c news hl hnews h1 h63 hbytes hbase;refine⟨v',w',hr,h2,h3,?_⟩;subst hsize;subst hby
 have hsmall:n+m<=9223372036854775807:=by simp only[maxLen]at h63;omega
 rcases hown.2 with ⟨rfl,rfl⟩|⟨g,cap,cur,rfl,hbg,hg,hnc,hcm,hcs,htake⟩
 ·have hr2:=run_append_nil (P:=P) w t ty e i z ht hi hz a m c news hl hnews hm (by omega) (by have hb:=hbytes;simp only[Nat.zero_add]at hb;omega);rw[hr2]at hr;injection hr with e1 e2;subst e1;exact .inr rfl
 ·by_cases hroom:n+m<=cap
  ·have hfit:n*i.size+news.length<=cur.size:=by rw[hl,hcs,<-Nat.add_mul];exact Nat.mul_le_mul_right _ hroom
   have hr2:=run_append_room (P:=P) w t ty e i ht hi g n cap cur hg a m c news hl hnews h1 hroom hfit;rw[hr2]at hr;injection hr with e1 e2;subst e1;exact .inl rfl
  ·have holds:∀j u,xs[j]?=some u->w.cell? ((⟨g,0,none⟩:Addr).add j)=some u:=hown.cells (g:=g) rfl;have hr2:=run_append_grow (P:=P) w t ty e i z ht hi hz ⟨g,0,none⟩ n cap xs hown.1 holds a m c news hl hnews (by omega) (by omega) (growslice_fits (by omega) hbytes);rw[hr2]at hr;injection hr with e1 e2;subst e1;exact .inr rfl
theorem wpList_app {P:Program}(w:World){ops:Array Oper}{rest:List Oper}{o:Oper}{a:Act}{Q:Exit->Act->World->Prop}(hgd:o.guard=none)(s x:Operand)(t:TypeId)
  (ho:o.op=.call {callee:=.builtin .append,args:=#[s,x],argTypes:=#[t,t]})
  (base:Nat)(e:TypeId)(i:TypeInfo)(z:Value)(size bytes:Nat)(ht:P.underlying t=some (.slice e))(hi:P.info? e=some i)(hz:i.zero=some z)
  (hsize:i.size=size)(hby:i.bytes=bytes)(hzs:z.cells.size=size)(hsz:0<size)
  (v:Value)(n:Nat)(xs:List Value)(hs:a.eval s=v)(hown:w.ownsRow base e size v n xs)
  (ad:Addr)(m c:Nat)(news:List Value)(hx:a.eval x=.slice (some ad) m c)(hl:news.length=m*size)(hnews:∀j u,news[j]?=some u->w.cell? (ad.add j)=some u)(h1:∀u∈news,u.oneCell'=true)
  (h63:n+m<=maxLen)(hbytes:(n+m)*bytes<=140737488355328)(hbase:base<=w.heap.size)(hm:0<m)
  (h:∀v' w',w'.ownsRow base e size v' (n+m) (xs++news)->w.grownBy w' v.ownBlock->(v'.ownBlock=v.ownBlock\/v'.ownBlock=some w.heap.size)->wpList P ops Q rest (a.put o.dst v') w'):wpList P ops Q (o::rest) a w:=
 wpList_plain hgd fun _ hK=>by
  obtain⟨v',w',hr,h2,h3,h4⟩:=run_app (P:=P) w base t o.type e i z size bytes ht hi hz hsize hby hzs hsz v n xs hown ad m c news hl hnews h1 h63 hbytes hbase hm;unfold Oper.wp execOp;simp only[ho,resolve,invoke,builtin,Sem.run_bind,Sem.run_pure,Result.andThen_ok,List.map_toArray,List.map_cons,List.map_nil,hs,hx,hr];exact hK _ _ (h v' w' h2 h3 h4)
theorem step_vals {ops:Array Oper}{o:Oper}{a:Act}{w:World}{K:Act->World->Prop}{Q:Exit->Act->World->Prop}{E:Prop}(hgd:o.guard=none)(s x:Operand)(t te:TypeId)
  (ho:o.op=.call {callee:=.builtin .append,args:=#[s,x],argTypes:=#[t,t]})(ht:Tryz.prog.underlying t=some (.slice te))(z:Value)(size bytes:Nat)
  (hinfo:(Tryz.prog.info? te).map (fun i=>(i.zero,i.size,i.bytes))=some (some z,size,bytes))(hzs:z.cells.size=size)(hsz:0<size)(hby:bytes<=100)
  (v:Value)(n:Nat)(xs:List Value)(hs:a.eval s=v)(hown:w.ownsRow 0 te size v n xs)(g:Nat)(news:List Value)(m:Nat)(hx:a.eval x=.slice (some ⟨g,0,none⟩) m m)(hm:news.length=m*size)(hm0:0<m)(hg:w.heap[g]?=some (.cells news.toArray te (0,0)))(hone:∀u∈news,u.oneCell'=true)(hn:n+m<=1073741824)
  (h:∀v' w',w'.ownsRow 0 te size v' (n+m) (xs++news)->w.grownBy w' v.ownBlock->(v'.ownBlock=v.ownBlock\/v'.ownBlock=some w.heap.size)->K (a.put o.dst v') w'):
  if Region.wanted o (yielded ops a.tmps)=true then Oper.wp Tryz.prog o a w K Q else E:=by
 have hw:Region.wanted o (yielded ops a.tmps)=true:=by simp[Region.wanted,hgd]
 rw[if_pos hw];obtain⟨i0,hi,hz0,hz1,hz2⟩:=info_parts hinfo;obtain⟨v',w',hr,h2,h3,h4⟩:=run_app (P:=Tryz.prog) w 0 t o.type te i0 _ size bytes ht hi hz0 hz1 hz2 hzs hsz v n xs hown ⟨g,0,none⟩ m m news hm (fun j u hj=>by
  have e:(⟨g,0,none⟩:Addr).add j=⟨g,j,none⟩:=by unfold Addr.add;split<;>simp_all
  rw[e,cell_of_row w g j _ te (0,0) hg,<-hj];simp) hone (by unfold maxLen;omega) (by
   have h1:(n+m)*bytes<=1073741824*100:=Nat.mul_le_mul hn hby
   omega) (Nat.zero_le _) hm0
 unfold Oper.wp execOp;simp only[ho,resolve,invoke,builtin,Sem.run_bind,Sem.run_pure,Result.andThen_ok,List.map_toArray,List.map_cons,List.map_nil,hs,hx,hr];exact h v' w' h2 h3 h4
theorem wpList_vals (w:World){ops:Array Oper}{rest:List Oper}{o:Oper}{a:Act}{Q:Exit->Act->World->Prop}(hgd:o.guard=none)(s x:Operand)(t te:TypeId)
  (ho:o.op=.call {callee:=.builtin .append,args:=#[s,x],argTypes:=#[t,t]})(ht:Tryz.prog.underlying t=some (.slice te))(z:Value)(size bytes:Nat)
  (hinfo:(Tryz.prog.info? te).map (fun i=>(i.zero,i.size,i.bytes))=some (some z,size,bytes))(hzs:z.cells.size=size)(hsz:0<size)(hby:bytes<=100)
  (v:Value)(n:Nat)(xs:List Value)(hs:a.eval s=v)(hown:w.ownsRow 0 te size v n xs)(g:Nat)(news:List Value)(m:Nat)(hx:a.eval x=.slice (some ⟨g,0,none⟩) m m)(hm:news.length=m*size)(hm0:0<m)(hg:w.heap[g]?=some (.cells news.toArray te (0,0)))(hone:∀u∈news,u.oneCell'=true)(hn:n+m<=1073741824)
  (h:∀v' w',w'.ownsRow 0 te size v' (n+m) (xs++news)->w.grownBy w' v.ownBlock->(v'.ownBlock=v.ownBlock\/v'.ownBlock=some w.heap.size)->wpList Tryz.prog ops Q rest (a.put o.dst v') w'):wpList Tryz.prog ops Q (o::rest) a w:=by
 obtain⟨i0,hi,hz0,hz1,hz2⟩:=info_parts hinfo;refine wpList_app w hgd s x t ho 0 te i0 _ size bytes ht hi hz0 hz1 hz2 hzs hsz v n xs hs hown ⟨g,0,none⟩ m m news hx hm ?_ hone (by unfold maxLen;omega) ?_ (Nat.zero_le _) hm0 h
 ·intro j u hj;have e:(⟨g,0,none⟩:Addr).add j=⟨g,j,none⟩:=by unfold Addr.add;split<;>simp_all
  rw[e,cell_of_row w g j _ te (0,0) hg,<-hj];simp
 ·have h1:(n+m)*bytes<=1073741824*100:=Nat.mul_le_mul hn hby
  omega
end Go.Proofs.YtbdobaapadlcjabGreatDoor
namespace Go.Proofs.YtbdobaapadlcjabGreatDoor.Crc
variable {h:Nat}
def tab:List Nat:=[0,498536548,997073096,651767980,1994146192,1802195444,1303535960,1342533948,3988292384,4027552580,3604390888,3412177804,2607071920,2262029012,2685067896,3183342108]
def half (h:Nat):Nat:=(h / 16) ^^^ tab.getD (h % 16) 0
def step (h:Nat)(b:UInt8):Nat:=half (half (h ^^^ b.toNat))
def run (h:Nat)(l:List UInt8):Nat:=l.foldl step h
def crc (l:List UInt8):Nat:=4294967295-run 4294967295 l
theorem tab_lt (i:Nat):tab.getD i 0<4294967296:=by
 by_cases h:i<16
 ·have:∀j:Fin 16,tab.getD j.val 0<4294967296:=by decide
  exact this ⟨i,h⟩
 ·rw[List.getD_eq_getElem?_getD,List.getElem?_eq_none (by simp[tab];omega)];decide
theorem xor_lt {a b:Nat}(ha:a<4294967296)(hb:b<4294967296):a ^^^ b<4294967296:=by
 have:=Nat.xor_lt_two_pow (n:=32) (x:=a) (y:=b) (by omega) (by omega);omega
theorem half_lt (hh:h<4294967296):half h<4294967296:=xor_lt (by omega) (tab_lt _)
theorem byte_lt (b:UInt8):b.toNat<4294967296:=Nat.lt_trans b.toNat_lt (by decide)
theorem step_lt (b:UInt8)(hh:h<4294967296):step h b<4294967296:=half_lt (half_lt (xor_lt hh (byte_lt b)))
theorem run_lt (l:List UInt8)(hh:h<4294967296):run h l<4294967296:=by
 induction l generalizing h with
 | nil=>exact hh
 | cons b l ih=>exact ih (step_lt b hh)
theorem run_snoc (h:Nat)(l:List UInt8)(b:UInt8):run h (l++[b])=step (run h l) b:=by simp[run]
theorem not_sub (x:Nat)(hx:x<4294967296):4294967295 ^^^ x=4294967295-x:=by
 have h:=congrArg BitVec.toNat (BitVec.allOnes_xor (x:=BitVec.ofNat 32 x));rw[BitVec.toNat_xor,BitVec.toNat_not,BitVec.toNat_allOnes,BitVec.toNat_ofNat,Nat.mod_eq_of_lt (by omega)]at h;omega
theorem not_u32 (x:Nat)(hx:x<4294967296):bits .xor .u32 4294967295 (x:Int)=((4294967295-x:Nat):Int):=by
 rw[<-not_sub x hx];exact u32_xor_nat 4294967295 x (by omega) hx
theorem xor_u32 (a b:Nat)(ha:a<4294967296)(hb:b<4294967296):bits .xor .u32 (a:Int) (b:Int)=((a ^^^ b:Nat):Int):=u32_xor_nat a b ha hb
theorem and_u32 (a:Nat)(ha:a<4294967296):bits .and .u32 (a:Int) 15=((a % 16:Nat):Int):=by
 have:=u32_and_nat a 15 ha (by omega);rw[show (15:Nat)=2^4-1 by decide,Nat.and_two_pow_sub_one_eq_mod]at this
 exact this
end Go.Proofs.YtbdobaapadlcjabGreatDoor.Crc
namespace Go.Proofs.YtbdobaapadlcjabGreatDoor
open Go.RowKit
variable {w w':World}{j d n:Nat}{room:Int}{v:Value}{fs:List Dk.DF}
theorem ret_num {k:IntKind}{a b:Int}(h:a=b):Ending.returned (.int k a)=.returned (.int k b):=by rw[h]
theorem check_any (s:ByteArray)(w:World)(hs:s.size<=maxLen)(hT:∀i:Nat,i<16->w.cell? ⟨2,i,none⟩=some (.int .u32 (Crc.tab.getD i 0:Nat))):
  zE 59 #[.string s] w (.int .u32 (Crc.crc s.data.toList:Nat)):=by
 unfold maxLen at hs;go_enter Tryz.func59,Tryz.ntmps59
 go_wp2
 go_loop [3,7] (fun h i=>∃k:Nat,k<=s.size/\i=.int .i64 k/\h=.int .u32 (Crc.run 4294967295 (s.data.toList.take k):Nat)) (fun _ i=>s.size-(intOf i).toNat)
 case atStart=>exact⟨0,Nat.zero_le _,rfl,rfl⟩
 case round=>
  obtain⟨k,hk,rfl,rfl⟩:=hrel;have hHl:=Crc.run_lt (h:=4294967295) (s.data.toList.take k) (by decide)
  by_cases hlt:k<s.size
  ·have hsn:Crc.run 4294967295 (s.data.toList.take (k+1))=Crc.step (Crc.run 4294967295 (s.data.toList.take k)) s[k]:=by
    rw[<-Crc.run_snoc,List.take_succ_eq_append_getElem (by simpa using hlt)];rfl
   generalize Crc.run 4294967295 (s.data.toList.take k)=H at hHl hsn;unfold Crc.step at hsn;have e1:bits .xor .u32 (H:Int) ((s[k].toNat:Int) % 4294967296)=((H ^^^ s[k].toNat:Nat):Int):=by
    rw[Int.emod_eq_of_lt (by omega) (by have:=s[k].toNat_lt;omega)];exact Crc.xor_u32 _ _ hHl (Crc.byte_lt _)
   have l1:=Crc.xor_lt hHl (Crc.byte_lt s[k]);generalize H ^^^ s[k].toNat=X1 at e1 hsn l1;have a1:=Crc.and_u32 X1 l1;have c1:=hT (X1 % 16) (Nat.mod_lt _ (by decide));have m1:X1 % 16<16:=Nat.mod_lt _ (by decide);have t1:=Crc.tab_lt (X1 % 16);have x1:bits .xor .u32 ((X1:Int) / 16) ((Crc.tab.getD (X1 % 16) 0:Nat):Int)=((Crc.half X1:Nat):Int):=by
    have:=Crc.xor_u32 (X1 / 16) _ (by omega) t1;rw[show ((X1 / 16:Nat):Int)=(X1:Int) / 16 by omega]at this
    exact this
   have l2:=Crc.half_lt l1;generalize Crc.half X1=X2 at hsn x1 l2;generalize Crc.tab.getD (X1 % 16) 0=T1 at c1 x1 t1;generalize X1 % 16=J1 at a1 c1 m1;have a2:=Crc.and_u32 X2 l2;have c2:=hT (X2 % 16) (Nat.mod_lt _ (by decide));have m2:X2 % 16<16:=Nat.mod_lt _ (by decide);have t2:=Crc.tab_lt (X2 % 16);have x2:bits .xor .u32 ((X2:Int) / 16) ((Crc.tab.getD (X2 % 16) 0:Nat):Int)=((Crc.half X2:Nat):Int):=by
    have:=Crc.xor_u32 (X2 / 16) _ (by omega) t2;rw[show ((X2 / 16:Nat):Int)=(X2:Int) / 16 by omega]at this
    exact this
   generalize Crc.half X2=X3 at hsn x2;generalize Crc.tab.getD (X2 % 16) 0=T2 at c2 x2 t2;generalize X2 % 16=J2 at a2 c2 m2;have HS:=zH hsn;clear hsn hT
   go_wp2
   go_round
   case rel=>exact⟨k+1,by omega,by go_num,by rw[HS.out]⟩
   case measure=>simp[intOf];omega
  ·generalize hH:Crc.run 4294967295 (s.data.toList.take k)=H at hHl;have HH:Hid (Crc.run 4294967295 (s.data.toList.take k)=H):=hH;clear hH;have n1:bits .xor .u32 IntKind.u32.max (H:Int)=((4294967295-H:Nat):Int):=Crc.not_u32 H hHl
   go_wp2
   go_ret;exact⟨ret_num (by rw[Crc.crc,<-HH.out,List.take_of_length_le (by simp;omega)]),rfl⟩
def Tab (w:World):Prop:=∀i:Nat,i<16->w.cell? ⟨2,i,none⟩=some (.int .u32 (Crc.tab.getD i 0:Nat))
theorem Tab.below {B:Nat}(h:Tab w)(hb:Below B w w')(hB:2<B):Tab w':=fun i hi=>(hb.cell (p:=⟨2,i,none⟩) hB).trans (h i hi)
def didS (r:Wp.Rq):ByteArray:=if r.ded.size=0 then ⟨(0::lowB (Crc.crc r.bod.data.toList) 4).toArray⟩ else r.ded
theorem toList_nil (s:ByteArray)(h:s.size=0):s=⟨#[]⟩:=by
 have h1:=h;have h2:s.data=#[]:=Array.eq_empty_of_size_eq_zero h1
 cases s
 simp at h2;rw[h2]
theorem ne_nil (s:ByteArray)(h:s.size≠0):s.toList.isEmpty=false:=by
 rw[Lib.toList_data]
 cases hl:s.data.toList with
 | nil=>exact absurd (show s.size=0 by rw[ByteArray.size,<-Array.length_toList,hl];rfl) h
 | cons a l=>rfl
theorem crc_lt (l:List UInt8):Crc.crc l<4294967296:=by
 show 4294967295-_<4294967296
 omega
theorem dedupID_any (r:Wp.Rq)(y:Sl)(w:World)(hb:r.bod.size<=maxLen)(hT:Tab w)(h2:2<w.heap.size):
  zB 169 #[.agg (cellsOf r y.v)] w (.string (didS r)):=by
 rw[show cellsOf r y.v=#[.int .u8 (r.op.toNat:Int),.int .u8 (r.q.toNat:Int),.int .u8 (r.d.toNat:Int),.int .i64 r.vis,.int .i64 r.win,.int .i64 r.rcv,.int .i64 r.quo,.int .i64 r.mx,.int .i64 r.tic,.string r.grp,.string r.ded,.string r.bod,.string r.att,.string r.han,.slice y.a y.n y.c] from rfl]
 by_cases hd:r.ded.size=0
 ·have e0:r.ded=⟨#[]⟩:=toList_nil _ hd;have hdid:Hid (didS r=⟨(0::lowB (Crc.crc r.bod.data.toList) 4).toArray⟩):=by show _=_;unfold didS;rw[if_pos hd]
  rw[e0];clear e0 hd;have HD:Hid (∀W:World,(W.alloc (.cells #[.int .u8 0] 5)).ownsRow W.heap.size 5 1 (.slice (some ⟨W.heap.size,0,none⟩) 1 1) 1 [.int .u8 0]):=fun W=>⟨rfl,.inr ⟨W.heap.size,1,#[.int .u8 0],rfl,Nat.le_refl _,heap_alloc_new _ _,by decide,by decide,rfl,rfl⟩⟩
  have HC:Hid (Crc.crc r.bod.data.toList<4294967296):=crc_lt _;have HCK:Hid (∀W,Below w.heap.size w W->zE 59 #[.string r.bod] W (.int .u32 (Crc.crc r.bod.data.toList:Nat))):=fun W hbW=>check_any _ W hb (hT.below hbW h2)
  clear hT h2 hb;generalize Crc.crc r.bod.data.toList=N at*
  have hN:=HC.out;go_enter Tryz.func169,Tryz.ntmps169;go_wp2_with (go_at_call 59;refine(HCK.out _ (((Below.refl _ _).alloc (Nat.le_refl _) _).alloc (by simp) _)).mono ?_;rintro e w' ⟨rfl,rfl⟩);have ha:=HD.out (w.alloc (.cells #[.int .u8 (r.op.toNat:Int),.int .u8 (r.q.toNat:Int),.int .u8 (r.d.toNat:Int),.int .i64 r.vis,.int .i64 r.win,.int .i64 r.rcv,.int .i64 r.quo,.int .i64 r.mx,.int .i64 r.tic,.string r.grp,.string ⟨#[]⟩,.string r.bod,.string r.att,.string r.han,.slice y.a y.n y.c] 24));rw[World.size_alloc]at ha;refine(appendNumber_any (w.heap.size+1) _ [0] N 4 _ hN (by decide) (by decide) (by simp) ha).mono ?_;rintro e w2 ⟨v',rfl,ho,hbel⟩;have hstr:=OwnB.str ho (by simp);have HBE:Hid (Below w.heap.size w w2):=(((Below.refl _ _).alloc (Nat.le_refl _) _).alloc (by simp) _).trans (hbel.mono (by omega));clear ha ho hbel;go_wp2_with fail;go_ret;exact⟨by rw[hdid.out];rfl,HBE.out⟩
 ·have hne:=ne_nil _ hd;have hdid:Hid (didS r=r.ded):=by show _=_;unfold didS;rw[if_neg hd]
  clear hd;go_enter Tryz.func169,Tryz.ntmps169;go_wp2_with fail;go_ret;exact⟨by rw[hdid.out];rfl,(Below.refl _ _).alloc (Nat.le_refl _) _⟩
def recB (s:ByteArray):List UInt8:=(lowB s.size 4++lowB (Crc.crc s.data.toList) 4)++s.data.toList
theorem recB_length (s:ByteArray):(recB s).length=8+s.size:=by
 rw[recB,List.length_append,List.length_append,lowB_length,lowB_length];rfl
theorem record_any (s:ByteArray)(w:World)(hs:s.size<=1048576)(hT:Tab w)(h2:2<w.heap.size):
  Calls Tryz.prog 31 #[.slice none 0 0,.string s] w fun e w'=>∃v,e=.returned v/\OwnB w' w.heap.size v (recB s)/\Below w.heap.size w w':=by
 obtain⟨i0,hi,hz0,hz1,hz2⟩:=info_parts info5;have hnum:Hid (Calls Tryz.prog 46 #[.slice none 0 0,.int .i64 (s.size:Int),.int .i64 4] w fun e w'=>∃v',e=.returned v'/\OwnB w' w.heap.size v' ([]++lowB s.size 4)/\Below w.heap.size w w'):=
  appendNumber_any w.heap.size _ [] s.size 4 w (by omega) (by decide) (by decide) (Nat.le_refl _) (World.ownsRow_nil _ _ _ _)
 have HC:Hid (Crc.crc s.data.toList<4294967296):=crc_lt _;have HCK:Hid (∀W,Below w.heap.size w W->zE 59 #[.string s] W (.int .u32 (Crc.crc s.data.toList:Nat))):=fun W hbW=>check_any _ W (by unfold maxLen;omega) (hT.below hbW h2)
 have hrec:Hid (recB s=(([]++lowB s.size 4)++lowB (Crc.crc s.data.toList) 4)++s.data.toList):=by show _=_;simp[recB]
 clear hT h2;generalize Crc.crc s.data.toList=N at*
 have hN:=HC.out;go_enter Tryz.func31,Tryz.ntmps31;go_wp2_with fail;refine(hnum.out).mono ?_;rintro e w1 ⟨v1,rfl,ho1,hb1⟩;have HO:=zH ho1;have HB:=zH hb1;clear ho1 hb1;go_wp2_with (go_at_call 59;refine(HCK.out _ HB.out).mono ?_;rintro e w' ⟨rfl,rfl⟩);refine(appendNumber_any w.heap.size _ _ N 4 _ hN (by decide) (by simp[lowB_length]) HB.out.size HO.out).mono ?_;rintro e w2 ⟨v2,rfl,ho2,hb2⟩;have hle:(([]++lowB s.size 4)++lowB N 4).length<=100:=by simp[lowB_length]
 generalize (([]++lowB s.size 4)++lowB N 4)=L at ho2 hle hrec;have HO2:=zH ho2;have HB2:=zH (HB.out.trans hb2);have hsz:=HB2.out.size;clear ho2 hb2;go_wp2_with (at_builtin;refine Lib.wpList_append_own_string _ rfl _ _ 54 9 rfl w.heap.size 5 i0 Tryz.underlying54 Tryz.underlying9 hi hz0 hz1 hz2 _ _ _ rfl HO2.out s rfl ?c1 ?c2 ?c3 ?_)
 case c1=>unfold maxLen;omega
 case c2=>omega
 case c3=>omega
 intro v' w3 hown' hgrow _;have hr1:OwnB w3 w.heap.size v' (recB s):=by
  rw[hrec.out];unfold OwnB;have e1:bytesV (L++s.data.toList)=bytesV L++Lib.strCells s:=by rw[<-bytesV_str];simp[bytesV]
  have e2:(L++s.data.toList).length=L.length+s.size:=by rw[List.length_append];rfl
  rw[e1,e2];exact hown'
 have hr2:Below w.heap.size w w3:=by
  refine Below.grown HB2.out hgrow (by omega) ?_;intro k hk;exact(World.ownsRow.lt HO2.out k hk).1
 clear hown' hgrow
 go_wp2
 go_ret;exact⟨_,rfl,hr1,hr2⟩
abbrev jn:ByteArray:=⟨#[106,111,117,114,110,97,108]⟩
abbrev jw:ByteArray:=⟨#[106,111,117,114,110,97,108,46,110,101,119]⟩
abbrev Dd0 (w:World)(d:Nat)(v:Value)(fs:List Dk.DF):Prop:=Dk.Dsk w 77 79 d v ⟨fs,-1,false⟩
abbrev Gd0 (fs:List Dk.DF)(n k:Nat):Prop:=Dk.Good ⟨fs,-1,false⟩ n k
structure Jr (w:World)(j d:Nat)(room:Int)(v:Value)(fs:List Dk.DF)(n k:Nat):Prop where
 hj:w.heap[j]?=some (.cells #[.pointer (some ⟨d,0,none⟩),.int .i64 room,.bool false] 85 (0,0))
 dsk:Dd0 w d v fs
 gd:Gd0 fs n k
def jbl (j d:Nat)(v:Value):List Nat:=j::Dk.bl d v
theorem Jr.ne {k:Nat}(h:Jr w j d room v fs n k):j∉Dk.bl d v:=fun hm=>by
 rcases List.mem_cons.1 hm with e|e
 ·have h1:=h.hj;have h2:w.heap[d]?=_:=h.dsk.blk;rw[<-e,h1]at h2;simp at h2
 ·exact own_ne h.dsk.own h.hj (by decide) (by simpa [Option.mem_toList]using e)
theorem Jr.tch {k:Nat}(h:Jr w j d room v fs n k){S:List Nat}(ht:Tch S w w')(hS:∀b∈jbl j d v,b∉S):Jr w' j d room v fs n k:=
 ⟨(ht.block _ (lt_of_block h.hj) (hS _ (by simp[jbl]))).trans h.hj,h.dsk.tch ht (fun b hb=>hS b (List.mem_cons_of_mem _ hb)),h.gd⟩
theorem Jr.apart {k:Nat}(h:Jr w j d room v fs n k){b:Nat}{C:Array Value}{t:TypeId}(hb:w.heap[b]?=some (.cells C t (0,0)))(h1:85≠t)(h2:77≠t)(h3:79≠t):b∉jbl j d v:=fun hm=>by
 rcases List.mem_cons.1 hm with e|e
 ·have h0:=h.hj;rw[<-e,hb]at h0;simp at h0;exact h1 h0.2.symm
 ·rcases List.mem_cons.1 e with e|e
  ·have h0:w.heap[d]?=_:=h.dsk.blk;rw[<-e,hb]at h0;simp at h0;exact h2 h0.2.symm
  ·exact own_ne h.dsk.own hb h3 (by simpa [Option.mem_toList]using e)
theorem Jr.c0 {k:Nat}(h:Jr w j d room v fs n k):w.cell? ⟨j,0,none⟩=some (.pointer (some ⟨d,0,none⟩)):=(cell_of_row w j 0 _ 85 (0,0) h.hj).trans rfl
theorem Jr.c1 {k:Nat}(h:Jr w j d room v fs n k):w.cell? ⟨j,1,none⟩=some (.int .i64 room):=(cell_of_row w j 1 _ 85 (0,0) h.hj).trans rfl
theorem Jr.c2 {k:Nat}(h:Jr w j d room v fs n k):w.cell? ⟨j,2,none⟩=some (.bool false):=(cell_of_row w j 2 _ 85 (0,0) h.hj).trans rfl
theorem Jr.fz {k:Nat}(h:Jr w j d room v fs n k)(o:Nat):w.frozen? ⟨j,o,none⟩=false:=frozen_of_row w j o _ 85 h.hj
theorem Jr.tj {k:Nat}(h:Jr w j d room v fs n k):∀b∈Dk.bl d v,b∉[j]:=fun b hb hm=>by
 simp at hm;subst hm;exact h.ne hb
theorem Jr.set1 {k:Nat}(h:Jr w j d room v fs n k)(r:Int):Jr (w.setCell ⟨j,1,none⟩ (.int .i64 r)) j d r v fs n k:=
 ⟨heap_setCell_same w j 1 _ 85 _ h.hj,h.dsk.tch ((Tch.refl [j] w).setCell (fun _=>by simp) _) h.tj,h.gd⟩
theorem Jr.set2 {k:Nat}(h:Jr w j d room v fs n k):Jr (w.setCell ⟨j,2,none⟩ (.bool false)) j d room v fs n k:=
 ⟨heap_setCell_same w j 2 _ 85 _ h.hj,h.dsk.tch ((Tch.refl [j] w).setCell (fun _=>by simp) _) h.tj,h.gd⟩
theorem OwnB.slc {base:Nat}{l:List UInt8}(h:OwnB w base v l)(hl:0<l.length):∃g cap,v=.slice (some ⟨g,0,none⟩) l.length cap:=by
 rcases h.2 with ⟨rfl,h0⟩|⟨g,cap,cur,rfl,_⟩
 ·omega
 ·exact⟨g,cap,rfl⟩
end Go.Proofs.YtbdobaapadlcjabGreatDoor
