import Derived.Test.YtbdobaapadlcjabGreatDoorHy03
set_option maxRecDepth 10000
set_option maxHeartbeats 2000000
set_option linter.unusedVariables false
set_option linter.unusedSimpArgs false
namespace Go.Proofs.YtbdobaapadlcjabGreatDoor.Dk
open Go.RowKit
variable {w w':World}{p g cap n:Nat}{t te:TypeId}{v:Value}{left:Int}{st:Bool}{name frm to:ByteArray}
theorem run_app {P:Program}(w:World)(base:Nat)(t ty e:TypeId)(i:TypeInfo)(z:Value)(size bytes:Nat)(ht:P.underlying t=some (.slice e))(hi:P.info? e=some i)(hz:i.zero=some z)
  (hsize:i.size=size)(hby:i.bytes=bytes)(hzs:z.cells.size=size)(hsz:0<size)
  (v:Value)(n:Nat)(xs:List Value)(hown:w.ownsRow base e size v n xs)
  (a:Addr)(m c:Nat)(news:List Value)(hl:news.length=m*size)(hnews:∀j u,news[j]?=some u->w.cell? (a.add j)=some u)(h1:∀u∈news,u.oneCell'=true)
  (h63:n+m<=maxLen)(hbytes:(n+m)*bytes<=140737488355328)(hbase:base<=w.heap.size)(hm:0<m):
  ∃v' w',(Builtin.append_ #[t,t] ty #[v,.slice (some a) m c]).run P w=.ok v' w'/\w'.ownsRow base e size v' (n+m) (xs++news)/\w.grownBy w' v.ownBlock/\(v'.ownBlock=v.ownBlock\/v'.ownBlock=some w.heap.size):=by
 obtain⟨v',w',hr,h2,h3,_⟩:=run_append_own (P:=P) w base t ty e i z size bytes ht hi hz hsize hby hzs hsz v n xs hown a m c news hl hnews h1 h63 hbytes hbase;refine⟨v',w',hr,h2,h3,?_⟩;subst hsize;subst hby
 have hsmall:n+m<=9223372036854775807:=by simp only[maxLen]at h63;omega
 rcases hown.2 with ⟨rfl,rfl⟩|⟨g,cap,cur,rfl,hbg,hg,hnc,hcm,hcs,htake⟩
 ·have hr2:=run_append_nil (P:=P) w t ty e i z ht hi hz a m c news hl hnews hm (by omega) (by have hb:=hbytes;simp only[Nat.zero_add]at hb;omega);rw[hr2]at hr;injection hr with e1 e2;subst e1;exact .inr rfl
 ·by_cases hroom:n+m<=cap
  ·have hfit:n*i.size+news.length<=cur.size:=by rw[hl,hcs,<-Nat.add_mul];exact Nat.mul_le_mul_right _ hroom
   have hr2:=run_append_room (P:=P) w t ty e i ht hi g n cap cur hg a m c news hl hnews h1 hroom hfit;rw[hr2]at hr;injection hr with e1 e2;subst e1;exact .inl rfl
  ·have holds:∀j u,xs[j]?=some u->w.cell? ((⟨g,0,none⟩:Addr).add j)=some u:=hown.cells (g:=g) rfl;have hr2:=run_append_grow (P:=P) w t ty e i z ht hi hz ⟨g,0,none⟩ n cap xs hown.1 holds a m c news hl hnews (by omega) (by omega) (growslice_fits (by omega) hbytes);rw[hr2]at hr;injection hr with e1 e2;subst e1;exact .inr rfl
theorem wpList_app {P:Program}(w:World){ops:Array Oper}{rest:List Oper}{o:Oper}{a:Act}{Q:Exit->Act->World->Prop}(hgd:o.guard=none)(s x:Operand)(t:TypeId)
  (ho:o.op=.call {callee:=.builtin .append,args:=#[s,x],argTypes:=#[t,t]})
  (base:Nat)(e:TypeId)(i:TypeInfo)(z:Value)(size bytes:Nat)(ht:P.underlying t=some (.slice e))(hi:P.info? e=some i)(hz:i.zero=some z)
  (hsize:i.size=size)(hby:i.bytes=bytes)(hzs:z.cells.size=size)(hsz:0<size)
  (v:Value)(n:Nat)(xs:List Value)(hs:a.eval s=v)(hown:w.ownsRow base e size v n xs)
  (ad:Addr)(m c:Nat)(news:List Value)(hx:a.eval x=.slice (some ad) m c)(hl:news.length=m*size)(hnews:∀j u,news[j]?=some u->w.cell? (ad.add j)=some u)(h1:∀u∈news,u.oneCell'=true)
  (h63:n+m<=maxLen)(hbytes:(n+m)*bytes<=140737488355328)(hbase:base<=w.heap.size)(hm:0<m)
  (h:∀v' w',w'.ownsRow base e size v' (n+m) (xs++news)->w.grownBy w' v.ownBlock->(v'.ownBlock=v.ownBlock\/v'.ownBlock=some w.heap.size)->wpList P ops Q rest (a.put o.dst v') w'):wpList P ops Q (o::rest) a w:=
 wpList_plain hgd fun _ hK=>by
  obtain⟨v',w',hr,h2,h3,h4⟩:=run_app (P:=P) w base t o.type e i z size bytes ht hi hz hsize hby hzs hsz v n xs hown ad m c news hl hnews h1 h63 hbytes hbase hm;unfold Oper.wp execOp;simp only[ho,resolve,invoke,builtin,Sem.run_bind,Sem.run_pure,Result.andThen_ok,List.map_toArray,List.map_cons,List.map_nil,hs,hx,hr];exact hK _ _ (h v' w' h2 h3 h4)
theorem ret_b {a b:Bool}(h:a=b):Ending.returned (.bool a)=.returned (.bool b):=by rw[h]
theorem ret_i {k:IntKind}{a b:Int}(h:a=b):Ending.returned (.int k a)=.returned (.int k b):=by rw[h]
def dcells (v:Value)(left:Int)(st:Bool):Array Value:=#[v,.int .i64 left,.bool st]
def DBlk (w:World)(p:Nat)(t:TypeId)(v:Value)(left:Int)(st:Bool):Prop:=w.heap[p]?=some (.cells (dcells v left st) t (0,0))
theorem DBlk.c0 (h:DBlk w p t v left st):w.cell? ⟨p,0,none⟩=some v:=(cell_of_row w p 0 _ t (0,0) h).trans rfl
theorem DBlk.c1 (h:DBlk w p t v left st):w.cell? ⟨p,1,none⟩=some (.int .i64 left):=(cell_of_row w p 1 _ t (0,0) h).trans rfl
theorem DBlk.c2 (h:DBlk w p t v left st):w.cell? ⟨p,2,none⟩=some (.bool st):=(cell_of_row w p 2 _ t (0,0) h).trans rfl
theorem DBlk.fz (h:DBlk w p t v left st)(o:Nat):w.frozen? ⟨p,o,none⟩=false:=frozen_of_row w p o _ t h
theorem DBlk.s0 (h:DBlk w p t v left st)(u:Value):DBlk (w.setCell ⟨p,0,none⟩ u) p t u left st:=heap_setCell_same w p 0 _ t u h
theorem DBlk.s1 (h:DBlk w p t v left st)(n:Int):DBlk (w.setCell ⟨p,1,none⟩ (.int .i64 n)) p t v n st:=heap_setCell_same w p 1 _ t _ h
theorem DBlk.s2 (h:DBlk w p t v left st)(b:Bool):DBlk (w.setCell ⟨p,2,none⟩ (.bool b)) p t v left b:=heap_setCell_same w p 2 _ t _ h
theorem DBlk.lt (h:DBlk w p t v left st):p<w.heap.size:=World.block_lt_of_cell? _ _ h.c0
theorem DBlk.tch (h:DBlk w p t v left st){S:List Nat}(ht:Tch S w w')(hp:p∉S):DBlk w' p t v left st:=(ht.block p h.lt hp).trans h
def stepOk (left:Int)(st:Bool):Bool:=!(st||left == 0)
def stepL (left:Int)(st:Bool):Int:=if stepOk left st=true/\0<left then left-1 else left
def stepS (left:Int)(st:Bool):Bool:=!(stepOk left st)
theorem step_no (h:(st||left == 0)=true):stepOk left st=false/\stepL left st=left/\stepS left st=true:=by
 have h1:stepOk left st=false:=by unfold stepOk;rw[h];rfl
 refine⟨h1,?_,?_⟩
 ·unfold stepL;rw[h1];simp
 ·unfold stepS;rw[h1];rfl
theorem step_dn (h:left≠0)(hp:0<left):stepOk left false=true/\stepL left false=left-1/\stepS left false=false:=by
 have h1:stepOk left false=true:=by unfold stepOk;simpa using h
 refine⟨h1,?_,?_⟩
 ·unfold stepL;rw[h1,if_pos ⟨rfl,hp⟩]
 ·unfold stepS;rw[h1];rfl
theorem step_go (h:left≠0)(hp:left<=0):stepOk left false=true/\stepL left false=left/\stepS left false=false:=by
 have h1:stepOk left false=true:=by unfold stepOk;simpa using h
 refine⟨h1,?_,?_⟩
 ·unfold stepL;rw[h1,if_neg (by omega)]
 ·unfold stepS;rw[h1];rfl
theorem step_d (p:Nat)(v:Value)(left:Int)(st:Bool)(w:World)(h:DBlk w p 77 v left st)(hl:-9223372036854775808<=left/\left<=9223372036854775807):
  Calls Tryz.prog 94 #[.pointer (some ⟨p,0,none⟩)] w fun e w'=>e=.returned (.bool (stepOk left st))/\DBlk w' p 77 v (stepL left st) (stepS left st)/\Tch [p] w w'/\w'.heap.size=w.heap.size:=by
 have h1:=h.c1;have h2:=h.c2;have f1:=h.fz 1;have f2:=h.fz 2;have H:=zH h;clear h
 cases st with
 | true=>
  obtain⟨e1,e2,e3⟩:=step_no (left:=left) (st:=true) rfl;rw[e1,e2,e3];go_enter Tryz.func94,Tryz.ntmps94
  go_wp2
  go_ret;refine⟨rfl,H.out.s2 true,(Tch.refl _ _).setCell (fun _=>by simp) _,by simp⟩
 | false=>
  by_cases hz:left=0
  ·subst hz;obtain⟨e1,e2,e3⟩:=step_no (left:=0) (st:=false) rfl;rw[e1,e2,e3];go_enter Tryz.func94,Tryz.ntmps94
   go_wp2
   go_ret;refine⟨rfl,H.out.s2 true,(Tch.refl _ _).setCell (fun _=>by simp) _,by simp⟩
  ·have hz':(left == 0)=false:=by simpa using hz
   by_cases hp:0<left
   ·obtain⟨e1,e2,e3⟩:=step_dn hz hp;rw[e1,e2,e3];have hw:wrap64 (left-1)=left-1:=by simp[wrap64];omega
    go_enter Tryz.func94,Tryz.ntmps94
    go_wp2
    go_ret;refine⟨rfl,H.out.s1 _,(Tch.refl _ _).setCell (fun _=>by simp) _,by simp⟩
   ·obtain⟨e1,e2,e3⟩:=step_go hz (by omega);rw[e1,e2,e3];go_enter Tryz.func94,Tryz.ntmps94
    go_wp2
    go_ret;refine⟨rfl,H.out,Tch.refl _ _,rfl⟩
theorem stopped_d (p:Nat)(v:Value)(left:Int)(st:Bool)(w:World)(h:DBlk w p 77 v left st):
  zE 17 #[.pointer (some ⟨p,0,none⟩)] w (.bool (st||left == 0)):=by
 have h1:=h.c1;have h2:=h.c2;clear h
 cases st with
 | true=>
  go_enter Tryz.func17,Tryz.ntmps17
  go_wp2
  go_ret;exact⟨rfl,rfl⟩
 | false=>
  go_enter Tryz.func17,Tryz.ntmps17
  go_wp2
  go_ret;exact⟨ret_b (by simp),rfl⟩
structure DF where
 name:ByteArray
 data:ByteArray
 safe:Nat
def DF.row (f:DF):List Value:=[.string f.name,.string f.data,.int .i64 (f.safe:Nat)]
def rowOf (fs:List DF):List Value:=fs.flatMap DF.row
theorem rowOf_app (a b:List DF):rowOf (a++b)=rowOf a++rowOf b:=List.flatMap_append ..
theorem rowOf_get (fs:List DF)(j k:Nat)(h:j<fs.length)(hk:k<3):(rowOf fs)[3*j+k]?=fs[j].row[k]?:=by
 induction fs generalizing j with
 | nil=>cases h
 | cons f fs ih=>
  show (f.row++rowOf fs)[3*j+k]?=_
  cases j with
  | zero=>rw[List.getElem?_append_left (by show 3*0+k<3;omega)];simp
  | succ j=>
   rw[List.getElem?_append_right (by show 3<=3*(j+1)+k;omega),show 3*(j+1)+k-f.row.length=3*j+k by show 3*(j+1)+k-3=_;omega]
   simpa using ih j (by simpa using h)
def Own (w:World)(te:TypeId)(v:Value)(fs:List DF):Prop:=w.ownsRow 0 te 3 v fs.length (rowOf fs)
theorem Own.nil (w:World)(te:TypeId):Own w te (.slice none 0 0) []:=World.ownsRow_nil w 0 te 3
theorem Own.open {fs:List DF}(h:Own w te v fs):(v=.slice none 0 0/\fs=[])\/∃g cap,v=.slice (some ⟨g,0,none⟩) fs.length cap/\g<w.heap.size/\
  ∀j (hj:j<fs.length),w.cell? ⟨g,3*j,none⟩=some (.string fs[j].name)/\w.cell? ⟨g,3*j+1,none⟩=some (.string fs[j].data)/\w.cell? ⟨g,3*j+2,none⟩=some (.int .i64 (fs[j].safe:Nat)):=by
 rcases h.2 with ⟨hv,hn⟩|⟨g,cap,cur,hv,_,hg,_⟩
 ·exact .inl ⟨hv,List.eq_nil_of_length_eq_zero hn⟩
 ·refine .inr ⟨g,cap,hv,?_,fun j hj=>?_⟩
  ·exact(h.lt g (by rw[hv];rfl)).2
  ·subst hv;have c:=fun k (hk:k<3)=>(World.ownsRow.cellAt h (3*j+k) (by omega)).trans (rowOf_get fs j k hj hk)
   exact⟨c 0 (by omega),c 1 (by omega),c 2 (by omega)⟩
theorem Own.at {fs:List DF}(h:Own w te v fs):∃a cap,v=.slice a fs.length cap/\∀j (hj:j<fs.length),∃g,a=some ⟨g,0,none⟩/\
  w.cell? ⟨g,j*3,none⟩=some (.string fs[j].name)/\w.cell? ⟨g,j*3+1,none⟩=some (.string fs[j].data)/\w.cell? ⟨g,j*3+2,none⟩=some (.int .i64 (fs[j].safe:Nat)):=by
 rcases h.open with ⟨rfl,rfl⟩|⟨g,cap,rfl,_,hc⟩
 ·exact⟨none,0,rfl,fun j hj=>by cases hj⟩
 ·refine⟨_,_,rfl,fun j hj=>⟨g,rfl,?_⟩⟩
  rw[Nat.mul_comm j 3];exact hc j hj
def isN (name:ByteArray)(f:DF):Bool:=f.name.toList == name.toList
def fnd (name:ByteArray)(fs:List DF):Int:=match fs.findIdx? (isN name) with|some i=>(i:Int)|none=>-1
theorem fnd_at (name:ByteArray)(fs:List DF)(k:Nat)(h:k<fs.length)(hk:isN name fs[k]=true)(hp:∀j (hj:j<k),isN name (fs[j]'(by omega))=false):fnd name fs=k:=by
 have:fs.findIdx? (isN name)=some k:=by
  rw[List.findIdx?_eq_some_iff_getElem];exact⟨h,hk,fun j hj=>by simp[hp j hj]⟩
 unfold fnd;rw[this]
theorem fnd_none (name:ByteArray)(fs:List DF)(hp:∀j (hj:j<fs.length),isN name fs[j]=false):fnd name fs=-1:=by
 have:fs.findIdx? (isN name)=none:=by
  rw[List.findIdx?_eq_none_iff];intro x hx;obtain⟨j,hj,rfl⟩:=List.getElem_of_mem hx;exact hp j hj
 unfold fnd;rw[this]
theorem find_d (p:Nat)(v:Value)(left:Int)(st:Bool)(fs:List DF)(name:ByteArray)(w:World)(h:DBlk w p 77 v left st)(ho:Own w 79 v fs)(hn:fs.length<=8388608):
  zE 65 #[.pointer (some ⟨p,0,none⟩),.string name] w (.int .i64 (fnd name fs)):=by
 have h0:=h.c0;clear h;obtain⟨a,cap,rfl,hc⟩:=ho.at
 have HC:Hid (∀j (hj:j<fs.length),∃g,a=some ⟨g,0,none⟩/\w.cell? ⟨g,j*3,none⟩=some (.string fs[j].name)):=fun j hj=>by
  obtain⟨g,ha,h1,_⟩:=hc j hj;exact⟨g,ha,h1⟩
 clear hc ho;go_enter Tryz.func65,Tryz.ntmps65;go_wp2_with fail
 go_loop [11] (fun i=>∃k:Nat,k<=fs.length/\i=.int .i64 k/\∀j (hj:j<fs.length),j<k->isN name fs[j]=false) (fun i=>fs.length-(intOf i).toNat)
 case atStart=>exact⟨0,Nat.zero_le _,rfl,fun j hj h=>by omega⟩
 case round=>
  obtain⟨k,hk,rfl,hp⟩:=hrel
  by_cases hkn:k<fs.length
  ·obtain⟨g,rfl,hc⟩:=HC.out k hkn;have HP:=zH hp;have HK:Hid (isN name fs[k]=(fs[k].name.toList == name.toList)):=rfl;clear hp;generalize fs[k].name=nm at hc HK
   cases hq:(nm.toList == name.toList) with
   | true=>
    have HF:=zH (fnd_at name fs k hkn (HK.out.trans hq) (fun j hj=>HP.out j (by omega) hj));go_wp2_with fail;go_ret;exact⟨ret_i HF.out.symm,rfl⟩
   | false=>
    have HF:=zH (HK.out.trans hq);go_wp2_with fail
    go_round
    case rel=>
     refine⟨k+1,by omega,by go_num,fun j hj hjk=>?_⟩
     by_cases e:j=k
     ·subst e;exact HF.out
     ·exact HP.out j hj (by omega)
    case measure=>simp[intOf];omega
  ·have HF:=zH (fnd_none name fs (fun j hj=>hp j hj (by omega)));clear hp;go_wp2_with fail;go_ret;exact⟨ret_i HF.out.symm,rfl⟩
theorem fnd_cases (name:ByteArray)(fs:List DF):(fnd name fs=-1/\∀f∈fs,isN name f=false)\/∃k,k<fs.length/\fnd name fs=(k:Int):=by
 unfold fnd
 cases h:fs.findIdx? (isN name) with
 | none=>exact .inl ⟨rfl,List.findIdx?_eq_none_iff.1 h⟩
 | some k=>exact .inr ⟨k,(List.findIdx?_eq_some_iff_getElem.1 h).1,rfl⟩
def rd (name:ByteArray)(fs:List DF):ByteArray:=if fnd name fs<0 then ⟨#[]⟩ else ((fs[(fnd name fs).toNat]?).map DF.data).getD ⟨#[]⟩
theorem rd_none {fs:List DF}(h:fnd name fs=-1):rd name fs=⟨#[]⟩:=by unfold rd;rw[h];rfl
theorem rd_some {fs:List DF}{k:Nat}(hk:k<fs.length)(h:fnd name fs=k):rd name fs=fs[k].data:=by
 unfold rd;rw[h,if_neg (by omega),Int.toNat_natCast,List.getElem?_eq_getElem hk];rfl
theorem read_d (p:Nat)(v:Value)(left:Int)(st:Bool)(fs:List DF)(name:ByteArray)(w:World)(h:DBlk w p 77 v left st)(ho:Own w 79 v fs)(hn:fs.length<=8388608):
  zE 37 #[.pointer (some ⟨p,0,none⟩),.string name] w (.string (rd name fs)):=by
 have h0:=h.c0;have HF:=zH (find_d p v left st fs name w h ho hn);obtain⟨a,cap,rfl,hc⟩:=ho.at
 clear h ho;rcases fnd_cases name fs with ⟨hf,_⟩|⟨k,hk,hf⟩
 ·have hr:=zH (rd_none hf);rw[hf]at HF;clear hc hf;go_enter Tryz.func37,Tryz.ntmps37;go_wp2_with fail;refine HF.out.mono ?_;rintro e w1 ⟨rfl,rfl⟩;go_wp2_with fail;go_ret;exact⟨by rw[hr.out];rfl,rfl⟩
 ·have hr:=zH (rd_some hk hf);obtain⟨g,rfl,_,hd,_⟩:=hc k hk;rw[hf]at HF;clear hc hf;generalize fs[k].data=D at hr hd;have hkl:((k:Int)<(fs.length:Int)):=by omega
  go_enter Tryz.func37,Tryz.ntmps37;go_wp2_with fail;refine HF.out.mono ?_;rintro e w1 ⟨rfl,rfl⟩;go_wp2_with fail;go_ret;exact⟨by rw[hr.out];rfl,rfl⟩
theorem has_d (p:Nat)(v:Value)(left:Int)(st:Bool)(fs:List DF)(name:ByteArray)(w:World)(h:DBlk w p 77 v left st)(ho:Own w 79 v fs)(hn:fs.length<=8388608):
  zE 61 #[.pointer (some ⟨p,0,none⟩),.string name] w (.bool (decide (0<=fnd name fs))):=by
 have HF:=zH (find_d p v left st fs name w h ho hn);clear h ho hn;generalize fnd name fs=F at HF;go_enter Tryz.func61,Tryz.ntmps61;go_wp2_with fail;refine HF.out.mono ?_;rintro e w1 ⟨rfl,rfl⟩;go_wp2_with fail;go_ret;exact⟨ret_b (by simp),rfl⟩
theorem new_d (w:World):Calls Tryz.prog 35 #[] w fun e w'=>e=.returned (.pointer (some ⟨w.heap.size,0,none⟩))/\w'=w.alloc (.cells (dcells (.slice none 0 0) (-1) false) 77):=by
 go_enter Tryz.func35,Tryz.ntmps35;go_wp2_with fail;go_ret;exact⟨rfl,rfl⟩
structure DK where
 fs:List DF
 left:Int
 st:Bool
structure Dsk (w:World)(t te:TypeId)(p:Nat)(v:Value)(D:DK):Prop where
 blk:DBlk w p t v D.left D.st
 own:Own w te v D.fs
 sep:v.ownBlock≠some p
def bl (p:Nat)(v:Value):List Nat:=p::v.ownBlock.toList
theorem Own.tch {fs:List DF}(h:Own w te v fs){S:List Nat}(ht:Tch S w w')(hS:∀b,v.ownBlock=some b->b∉S):Own w' te v fs:=by
 refine⟨h.1,?_⟩;rcases h.2 with h0|⟨g,cap,cur,rfl,hb,hg,h1,h2,h3,h4⟩
 ·exact .inl h0
 ·exact .inr ⟨g,cap,cur,rfl,hb,(ht.block g (Array.getElem?_eq_some_iff.1 hg).1 (hS g rfl)).trans hg,h1,h2,h3,h4⟩
theorem Dsk.tch {D:DK}(h:Dsk w t te p v D){S:List Nat}(ht:Tch S w w')(hS:∀b∈bl p v,b∉S):Dsk w' t te p v D:=
 ⟨h.blk.tch ht (hS p (by simp[bl])),h.own.tch ht (fun b hb=>hS b (by simp[bl,hb])),h.sep⟩
def Left (w w':World)(t te:TypeId)(p:Nat)(v:Value)(D:DK):Prop:=
 ∃v',Dsk w' t te p v' D/\Tch (bl p v) w w'/\∀b,v'.ownBlock=some b->v.ownBlock=some b\/w.heap.size<=b
theorem Left.drew {D:DK}(h:Left w w' t te p v D):Left w w'.drew t te p v D:=by
 obtain⟨v',h1,h2,h3⟩:=h;exact⟨v',⟨h1.blk,h1.own,h1.sep⟩,h2.drew,h3⟩
theorem info81:(Tryz.prog.info? 79).map (fun i=>(i.zero,i.size,i.bytes))=some (some (Value.agg #[.string ⟨#[]⟩,.string ⟨#[]⟩,.int .i64 0]),3,40):=by kernel_rfl
def DF.arr (f:DF):Array Value:=#[.string f.name,.string f.data,.int .i64 (f.safe:Nat)]
theorem wpList_file (w:World){ops:Array Oper}{rest:List Oper}{o:Oper}{a:Act}{Q:Exit->Act->World->Prop}(hgd:o.guard=none)(s x:Operand)(t te:TypeId)
  (ho:o.op=.call {callee:=.builtin .append,args:=#[s,x],argTypes:=#[t,t]})(ht:Tryz.prog.underlying t=some (.slice te))
  (hinfo:(Tryz.prog.info? te).map (fun i=>(i.zero,i.size,i.bytes))=some (some (Value.agg #[.string ⟨#[]⟩,.string ⟨#[]⟩,.int .i64 0]),3,40))
  (v:Value)(fs:List DF)(hs:a.eval s=v)(hown:Own w te v fs)(g:Nat)(f:DF)(hx:a.eval x=.slice (some ⟨g,0,none⟩) 1 1)(hg:w.heap[g]?=some (.cells f.arr te (0,0)))(hn:fs.length<=8388608)
  (h:∀v' w',Own w' te v' (fs++[f])->w.grownBy w' v.ownBlock->(v'.ownBlock=v.ownBlock\/v'.ownBlock=some w.heap.size)->wpList Tryz.prog ops Q rest (a.put o.dst v') w'):wpList Tryz.prog ops Q (o::rest) a w:=by
 obtain⟨i0,hi,hz0,hz1,hz2⟩:=info_parts hinfo;refine wpList_app w hgd s x t ho 0 te i0 _ 3 40 ht hi hz0 hz1 hz2 rfl (by decide) v fs.length (rowOf fs) hs hown ⟨g,0,none⟩ 1 1 f.row hx rfl ?_ ?_ ?_ ?_ (Nat.zero_le _) (by decide) ?_
 ·intro j u hj;have e:(⟨g,0,none⟩:Addr).add j=⟨g,j,none⟩:=by unfold Addr.add;split<;>simp_all
  rw[e,cell_of_row w g j _ te (0,0) hg,<-hj];simp[DF.arr,DF.row]
 ·intro u hu;simp only[DF.row,List.mem_cons,List.not_mem_nil,or_false]at hu;rcases hu with rfl|rfl|rfl<;>rfl
 ·unfold maxLen;omega
 ·omega
 ·intro v' w' h1 h2 h3;refine h v' w' ?_ h2 h3
  show w'.ownsRow 0 te 3 v' (fs++[f]).length (rowOf (fs++[f]))
  rw[List.length_append,rowOf_app];exact h1
theorem rowOf_setD (fs:List DF)(j:Nat)(h:j<fs.length)(d:ByteArray):rowOf (fs.set j {fs[j] with data:=d})=(rowOf fs).set (j*3+1) (.string d):=by
 induction fs generalizing j with
 | nil=>cases h
 | cons g fs ih=>
  cases j with
  | zero=>rfl
  | succ j=>
   show g.row++rowOf (fs.set j {fs[j]'(by simpa using h) with data:=d})=(g.row++rowOf fs).set _ _
   rw[ih j (by simpa using h),List.set_append_right _ _ (by show 3<=_;omega)];have e:g.row.length=3:=rfl;rw[e,show (j+1)*3+1-3=j*3+1 by omega]
theorem rowOf_setS (fs:List DF)(j:Nat)(h:j<fs.length)(n:Nat):rowOf (fs.set j {fs[j] with safe:=n})=(rowOf fs).set (j*3+2) (.int .i64 (n:Nat)):=by
 induction fs generalizing j with
 | nil=>cases h
 | cons g fs ih=>
  cases j with
  | zero=>rfl
  | succ j=>
   show g.row++rowOf (fs.set j {fs[j]'(by simpa using h) with safe:=n})=(g.row++rowOf fs).set _ _
   rw[ih j (by simpa using h),List.set_append_right _ _ (by show 3<=_;omega)];have e:g.row.length=3:=rfl;rw[e,show (j+1)*3+2-3=j*3+2 by omega]
theorem Own.setD {fs:List DF}(h:Own w te (.slice (some ⟨g,0,none⟩) fs.length cap) fs)(k:Nat)(hk:k<fs.length)(d:ByteArray):
  Own (w.setCell ⟨g,k*3+1,none⟩ (.string d)) te (.slice (some ⟨g,0,none⟩) fs.length cap) (fs.set k {fs[k] with data:=d}):=by
 have h2:=(World.ownsRow.stored h (k*3+1) (.string d)).1;unfold Own;rw[rowOf_setD fs k hk,List.length_set];exact h2
theorem Own.setS {fs:List DF}(h:Own w te (.slice (some ⟨g,0,none⟩) fs.length cap) fs)(k:Nat)(hk:k<fs.length)(n:Nat):
  Own (w.setCell ⟨g,k*3+2,none⟩ (.int .i64 (n:Nat))) te (.slice (some ⟨g,0,none⟩) fs.length cap) (fs.set k {fs[k] with safe:=n}):=by
 have h2:=(World.ownsRow.stored h (k*3+2) (.int .i64 (n:Nat))).1;unfold Own;rw[rowOf_setS fs k hk,List.length_set];exact h2
theorem Own.fz {fs:List DF}(h:Own w te (.slice (some ⟨g,0,none⟩) n cap) fs)(j:Nat):w.frozen? ⟨g,j,none⟩=false:=by
 rcases h.2 with ⟨h',_⟩|⟨g',cap',cur,h',_,hg,_⟩
 ·simp at h'
 ·simp only[Value.slice.injEq,Option.some.injEq,Addr.mk.injEq,and_true]at h';obtain⟨rfl,_⟩:=h';exact frozen_of_row w g j cur te hg
theorem Own.some {fs:List DF}(h:Own w te v fs)(hn:0<fs.length):∃g cap,v=.slice (some ⟨g,0,none⟩) fs.length cap:=by
 rcases h.open with ⟨_,rfl⟩|⟨g,cap,hv,_,_⟩
 ·cases hn
 ·exact⟨g,cap,hv⟩
theorem grow_fin {w2 w3:World}{v':Value}{L:Int}{S:Bool}{FS:List DF}{row:Option Nat}(hB:DBlk w2 p t v L S)(hT:Tch (bl p v) w w2)(hg3:w2.grownBy w3 row)(ho3:Own w3 te v' FS)
  (hr:∀k,row=some k->k≠p/\(v.ownBlock=some k\/w.heap.size<=k))(hb3:v'.ownBlock=row\/v'.ownBlock=some w2.heap.size):
  DBlk w3 p t v L S/\Dsk (w3.setCell ⟨p,0,none⟩ v') t te p v' ⟨FS,L,S⟩/\Tch (bl p v) w (w3.setCell ⟨p,0,none⟩ v')/\∀b,v'.ownBlock=some b->v.ownBlock=some b\/w.heap.size<=b:=by
 have hB3:DBlk w3 p t v L S:=(hg3.block p hB.lt (fun e=>(hr p e.symm).1 rfl)).trans hB;have hsep:v'.ownBlock≠some p:=by
  intro e;rcases hb3 with hb3|hb3
  ·exact(hr p (hb3.symm.trans e)).1 rfl
  ·have:=hB.lt;rw[e]at hb3;injection hb3 with e2;omega
 have hT3:Tch (bl p v) w w3:=hT.grown hg3 (fun k hk hlt=>by
  rcases(hr k hk).2 with h|h
  ·simp[bl,h]
  ·omega)
 refine⟨hB3,⟨hB3.s0 _,ho3.tch (S:=[p]) ((Tch.refl _ _).setCell (fun _=>by simp) _) (fun b hb hm=>hsep (by simp at hm;rw[hb,hm])),hsep⟩,hT3.setCell (fun _=>by simp[bl]) _,fun b hb=>?_⟩
 rcases hb3 with hb3|hb3
 ·exact(hr b (hb3.symm.trans hb)).2
 ·rw[hb]at hb3;injection hb3 with e;right;rw[e];exact hT.size
theorem Dsk.cells {D:DK}(h:Dsk w t te p (.slice (some ⟨g,0,none⟩) n cap) D)(k:Nat)(f:DF)(hk:D.fs[k]?=some f):
  n=D.fs.length/\w.cell? ⟨g,k*3,none⟩=some (.string f.name)/\w.cell? ⟨g,k*3+1,none⟩=some (.string f.data)/\w.cell? ⟨g,k*3+2,none⟩=some (.int .i64 (f.safe:Nat))/\∀j,w.frozen? ⟨g,j,none⟩=false:=by
 obtain⟨a4,cap4,e4,hc4⟩:=h.own.at
 injection e4 with e5 e6 e7;subst e5 e6 e7;obtain⟨hl,rfl⟩:=List.getElem?_eq_some_iff.1 hk;obtain⟨g4,hg4,c1,c2,c3⟩:=hc4 k hl;injection hg4 with hg5;injection hg5 with hg6;subst hg6;exact⟨rfl,c1,c2,c3,h.own.fz⟩
theorem Dsk.setD {D:DK}(h:Dsk w t te p (.slice (some ⟨g,0,none⟩) n cap) D)(k:Nat)(f:DF)(hk:D.fs[k]?=some f)(d:ByteArray):
  Dsk (w.setCell ⟨g,k*3+1,none⟩ (.string d)) t te p (.slice (some ⟨g,0,none⟩) n cap) ⟨D.fs.set k {f with data:=d},D.left,D.st⟩/\Tch [g] w (w.setCell ⟨g,k*3+1,none⟩ (.string d)):=by
 have ht:Tch [g] w (w.setCell ⟨g,k*3+1,none⟩ (.string d)):=(Tch.refl _ _).setCell (fun _=>by simp) _;obtain⟨rfl,_⟩:=h.cells k f hk;obtain⟨hl,rfl⟩:=List.getElem?_eq_some_iff.1 hk;exact⟨⟨h.blk.tch ht (fun hm=>h.sep (by simp at hm;rw[hm];rfl)),h.own.setD k hl d,h.sep⟩,ht⟩
theorem Dsk.setS {D:DK}(h:Dsk w t te p (.slice (some ⟨g,0,none⟩) n cap) D)(k:Nat)(f:DF)(hk:D.fs[k]?=some f)(m:Nat):
  Dsk (w.setCell ⟨g,k*3+2,none⟩ (.int .i64 (m:Nat))) t te p (.slice (some ⟨g,0,none⟩) n cap) ⟨D.fs.set k {f with safe:=m},D.left,D.st⟩/\Tch [g] w (w.setCell ⟨g,k*3+2,none⟩ (.int .i64 (m:Nat))):=by
 have ht:Tch [g] w (w.setCell ⟨g,k*3+2,none⟩ (.int .i64 (m:Nat))):=(Tch.refl _ _).setCell (fun _=>by simp) _;obtain⟨rfl,_⟩:=h.cells k f hk;obtain⟨hl,rfl⟩:=List.getElem?_eq_some_iff.1 hk;exact⟨⟨h.blk.tch ht (fun hm=>h.sep (by simp at hm;rw[hm];rfl)),h.own.setS k hl m,h.sep⟩,ht⟩
theorem empty_cat (d:ByteArray):(⟨#[]⟩:ByteArray)++d=d:=by
 apply ByteArray.ext;simp[ByteArray.data_append]
def onF (name:ByteArray)(F:DF->DF)(fs:List DF):List DF:=if fnd name fs<0 then fs else match fs[(fnd name fs).toNat]? with|some f=>fs.set (fnd name fs).toNat (F f)|none=>fs
theorem onF_none {fs:List DF}(F:DF->DF)(h:fnd name fs=-1):onF name F fs=fs:=by unfold onF;rw[h];rfl
theorem onF_some {fs:List DF}(F:DF->DF){k:Nat}{f:DF}(h:fnd name fs=(k:Int))(hk:fs[k]?=some f):onF name F fs=fs.set k (F f):=by
 unfold onF;rw[h,if_neg (by omega),Int.toNat_natCast,hk]
def appF (name data:ByteArray)(fs:List DF):List DF:=if fnd name fs<0 then fs++[⟨name,data,0⟩] else onF name (fun f=>{f with data:=f.data++data}) fs
def syncF (name:ByteArray)(fs:List DF):List DF:=onF name (fun f=>{f with safe:=f.data.size}) fs
theorem append_d (p:Nat)(v:Value)(D:DK)(name data:ByteArray)(w:World)(h:Dsk w 77 79 p v D)(hl:-9223372036854775808<=D.left/\D.left<=9223372036854775807)(hn:D.fs.length<8388608)
  (hd:∀f∈D.fs,f.data.size+data.size<=1099511627776)(hd0:data.size<=1099511627776):
  Calls Tryz.prog 69 #[.pointer (some ⟨p,0,none⟩),.string name,.string data] w fun e w'=>e=.returned (.bool (stepOk D.left D.st))/\Left w w' 77 79 p v ⟨if stepOk D.left D.st=true then appF name data D.fs else D.fs,stepL D.left D.st,stepS D.left D.st⟩:=by
 obtain⟨fs,left,st⟩:=D;simp only at*
 have HS:=zH (step_d p v left st w h.blk hl);have H:=zH h;clear h;generalize stepL left st=L at HS;generalize stepS left st=S at HS
 cases hok:stepOk left st with
 | false=>
  rw[hok]at HS;go_enter Tryz.func69,Tryz.ntmps69;go_wp2_with fail;refine HS.out.mono ?_;rintro e w1 ⟨rfl,hb,ht,hz⟩;have HB:Hid (DBlk w1 p 77 v L S/\Tch [p] w w1):=⟨hb,ht⟩;clear hb ht hz;go_wp2_with fail;go_ret;refine⟨rfl,v,⟨HB.out.1,H.out.own.tch HB.out.2 (fun b hb hm=>H.out.sep (by simp at hm;rw[hb,hm])),H.out.sep⟩,HB.out.2.sub (fun x hx _=>by simp at hx;simp[bl,hx]),fun b hb=>.inl hb⟩
 | true=>
  rw[hok]at HS;go_enter Tryz.func69,Tryz.ntmps69;go_wp2_with fail;refine HS.out.mono ?_;rintro e w1 ⟨rfl,hb,ht,hz⟩;have HB:Hid (DBlk w1 p 77 v L S/\Tch [p] w w1):=⟨hb,ht⟩;have HO:=zH (H.out.own.tch ht (fun b hb hm=>H.out.sep (by simp at hm;rw[hb,hm])));clear hb ht hz;go_wp2_with fail;refine(find_d p v L S fs name w1 HB.out.1 HO.out (by omega)).mono ?_;rintro e w2 ⟨rfl,rfl⟩;have h0:=HB.out.1.c0;rcases fnd_cases name fs with ⟨hf,_⟩|⟨k,hk,hf⟩
  ·rw[hf];obtain⟨nf,HNF⟩:∃nf:DF,Hid (nf=⟨name,⟨#[]⟩,0⟩):=⟨_,rfl⟩;go_wp2_with (at_builtin;refine wpList_file _ rfl _ _ 75 79 rfl Tryz.underlying75 info81 v fs rfl (HO.out.tch ((Tch.refl [] _).alloc _) (fun _ _=>by simp)) w2.heap.size nf rfl (by rw[HNF.out];exact heap_alloc_new _ _) (by omega) ?_);intro v' w3 ho3 hg3 hb3;obtain⟨hB3,hD4,hT4,hn4⟩:=grow_fin (w:=w) ((Below.heap_alloc _ _ _ HB.out.1.lt).trans HB.out.1) ((HB.out.2.alloc _).sub (fun x hx _=>by simp at hx;simp[bl,hx])) hg3 ho3 (fun k hk=>⟨fun e=>H.out.sep (by rw[hk,e]),.inl hk⟩) (by simpa using hb3);obtain⟨g,cap,hv⟩:=ho3.some (by simp);subst hv;have hlen:(fs++[nf]).length=fs.length+1:=by simp
   have hnth:(fs++[nf])[fs.length]?=some nf:=by simp
   have HAPP:Hid ((fs++[nf]).set fs.length {nf with data:=nf.data++data}=appF name data fs):=by
    show _=_
    unfold appF;rw[hf,if_pos (by decide),HNF.out];simp[empty_cat]
   generalize fs++[nf]=FS at hlen hnth HAPP hD4 hT4 hn4 ho3;have HF:=Dsk.setD (D:=⟨FS,L,S⟩) hD4 fs.length nf hnth (nf.data++data);obtain⟨_,_,c4,_,zz⟩:=Dsk.cells (D:=⟨FS,L,S⟩) hD4 fs.length nf hnth;have z4:=zz (fs.length*3+1);rw[HAPP.out]at HF;have c3:=hB3.c0;have z3:=hB3.fz 0;have HFIN:Hid (Left w ((w3.setCell ⟨p,0,none⟩ (.slice (some ⟨g,0,none⟩) FS.length cap)).setCell ⟨g,fs.length*3+1,none⟩ (.string (nf.data++data))) 77 79 p v ⟨appF name data fs,L,S⟩):=
    ⟨_,HF.1,hT4.setCell (fun hlt=>by
     rcases hn4 g rfl with h|h
     ·simp[bl,h]
     ·simp at hlt;omega) _,hn4⟩
   rw[hlen]at c4 z4 HFIN ⊢;have HND:Hid (nf.data.size=0):=by rw[HNF.out];rfl
   clear HF zz ho3 hg3 hb3 hB3 h0 hD4 hT4 hn4 hnth HAPP hlen;generalize nf.data=ND at c4 HFIN HND;have hw:wrap64 ((fs.length:Int)+1-1)=(fs.length:Int):=by simp[wrap64];omega
   have hcat:¬9223372036854775807<ND.size+data.size:=by rw[HND.out];omega
   go_wp2_with fail;go_ret;exact⟨rfl,HFIN.out⟩
  ·rw[hf];obtain⟨g,cap,hv⟩:=HO.out.some (by omega);subst hv;have hD:Dsk w2 77 79 p (.slice (some ⟨g,0,none⟩) fs.length cap) ⟨fs,L,S⟩:=⟨HB.out.1,HO.out,H.out.sep⟩;have hnth:fs[k]?=some fs[k]:=List.getElem?_eq_getElem hk;obtain⟨_,_,c4,_,zz⟩:=hD.cells k fs[k] hnth;have z4:=zz (k*3+1);obtain⟨hF,_⟩:=hD.setD k fs[k] hnth (fs[k].data++data);have HAPP:Hid (fs.set k {fs[k] with data:=fs[k].data++data}=appF name data fs):=by
    show _=_
    unfold appF;rw[if_neg (by omega),onF_some _ hf hnth]
   have HFIN:Hid (Left w (w2.setCell ⟨g,k*3+1,none⟩ (.string (fs[k].data++data))) 77 79 p (.slice (some ⟨g,0,none⟩) fs.length cap) ⟨appF name data fs,L,S⟩):=by
    rw[<-HAPP.out];exact⟨_,hF,(HB.out.2.sub (fun x hx _=>by simp at hx;simp[bl,hx])).setCell (fun hlt=>by simp[bl,Value.ownBlock]) _,fun b hb=>.inl hb⟩
   have hcat:¬9223372036854775807<fs[k].data.size+data.size:=by
    have:=hd fs[k] (List.getElem_mem _);omega
   clear hF zz hD hnth HAPP;generalize fs[k].data=ND at c4 HFIN hcat
   have hkl:((k:Int)<(fs.length:Int)):=by omega
   go_wp2_with fail;go_ret;exact⟨rfl,HFIN.out⟩
theorem sync_d (p:Nat)(v:Value)(D:DK)(name:ByteArray)(w:World)(h:Dsk w 77 79 p v D)(hl:-9223372036854775808<=D.left/\D.left<=9223372036854775807)(hn:D.fs.length<8388608)(hd:∀f∈D.fs,f.data.size<=1099511627776):
  Calls Tryz.prog 70 #[.pointer (some ⟨p,0,none⟩),.string name] w fun e w'=>e=.returned (.bool (stepOk D.left D.st))/\Left w w' 77 79 p v ⟨if stepOk D.left D.st=true then syncF name D.fs else D.fs,stepL D.left D.st,stepS D.left D.st⟩:=by
 obtain⟨fs,left,st⟩:=D;simp only at*
 have HS:=zH (step_d p v left st w h.blk hl);have H:=zH h;clear h;generalize stepL left st=L at HS;generalize stepS left st=S at HS
 cases hok:stepOk left st with
 | false=>
  rw[hok]at HS;go_enter Tryz.func70,Tryz.ntmps70;go_wp2_with fail;refine HS.out.mono ?_;rintro e w1 ⟨rfl,hb,ht,hz⟩;have HB:Hid (DBlk w1 p 77 v L S/\Tch [p] w w1):=⟨hb,ht⟩;have HO:=zH (H.out.own.tch ht (fun b hb hm=>H.out.sep (by simp at hm;rw[hb,hm])));clear hb ht hz;go_wp2_with fail;go_ret;refine⟨rfl,v,⟨HB.out.1,HO.out,H.out.sep⟩,HB.out.2.sub (fun x hx _=>by simp at hx;simp[bl,hx]),fun b hb=>.inl hb⟩
 | true=>
  rw[hok]at HS;go_enter Tryz.func70,Tryz.ntmps70;go_wp2_with fail;refine HS.out.mono ?_;rintro e w1 ⟨rfl,hb,ht,hz⟩;have HB:Hid (DBlk w1 p 77 v L S/\Tch [p] w w1):=⟨hb,ht⟩;have HO:=zH (H.out.own.tch ht (fun b hb hm=>H.out.sep (by simp at hm;rw[hb,hm])));clear hb ht hz;go_wp2_with fail;refine(find_d p v L S fs name w1 HB.out.1 HO.out (by omega)).mono ?_;rintro e w2 ⟨rfl,rfl⟩;have h0:=HB.out.1.c0;rcases fnd_cases name fs with ⟨hf,_⟩|⟨k,hk,hf⟩
  ·rw[hf];have HY:Hid (syncF name fs=fs):=onF_none _ hf;go_wp2_with fail;go_ret;refine⟨rfl,?_⟩;rw[HY.out];exact⟨v,⟨HB.out.1,HO.out,H.out.sep⟩,HB.out.2.sub (fun x hx _=>by simp at hx;simp[bl,hx]),fun b hb=>.inl hb⟩
  ·rw[hf];obtain⟨g,cap,hv⟩:=HO.out.some (by omega);subst hv;have hD:Dsk w2 77 79 p (.slice (some ⟨g,0,none⟩) fs.length cap) ⟨fs,L,S⟩:=⟨HB.out.1,HO.out,H.out.sep⟩;have hnth:fs[k]?=some fs[k]:=List.getElem?_eq_getElem hk;obtain⟨_,_,c4,c5,zz⟩:=hD.cells k fs[k] hnth;have z4:=zz (k*3+2);obtain⟨hF,_⟩:=hD.setS k fs[k] hnth fs[k].data.size;have HAPP:Hid (fs.set k {fs[k] with safe:=fs[k].data.size}=syncF name fs):=by
    show _=_
    unfold syncF;rw[onF_some _ hf hnth]
   have HFIN:Hid (Left w (w2.setCell ⟨g,k*3+2,none⟩ (.int .i64 (fs[k].data.size:Nat))) 77 79 p (.slice (some ⟨g,0,none⟩) fs.length cap) ⟨syncF name fs,L,S⟩):=by
    rw[<-HAPP.out];exact⟨_,hF,(HB.out.2.sub (fun x hx _=>by simp at hx;simp[bl,hx])).setCell (fun hlt=>by simp[bl,Value.ownBlock]) _,fun b hb=>.inl hb⟩
   have hcat:=hd fs[k] (List.getElem_mem _);clear hF zz hD hnth HAPP;generalize fs[k].data=ND at c4 HFIN hcat
   generalize ((fs[k].safe:Nat):Int)=SF at c5;have hkl:((k:Int)<(fs.length:Int)):=by omega
   go_wp2_with fail
   go_region
   go_wp2_with fail;go_ret;exact⟨rfl,HFIN.out.drew⟩
theorem inf81:Option.map (fun x=>x.size) (Tryz.prog.info? 79)=some 3:=by kernel_rfl
def remF (name:ByteArray)(fs:List DF):List DF:=fs.filter (fun f=>!isN name f)
def renF (frm to:ByteArray)(fs:List DF):List DF:=
 if fnd frm fs<0 then fs else if (frm.toList == to.toList)=true then fs else match fs[(fnd frm fs).toNat]? with|some f=>remF to (remF frm fs)++[{f with name:=to}]|none=>fs
theorem renF_none {fs:List DF}(h:fnd frm fs=-1):renF frm to fs=fs:=by unfold renF;rw[h];rfl
theorem renF_same {fs:List DF}(h:(frm.toList == to.toList)=true):renF frm to fs=fs:=by
 unfold renF;rw[if_pos h]
 split<;>rfl
theorem renF_some {fs:List DF}{k:Nat}{f:DF}(h:fnd frm fs=(k:Int))(hk:fs[k]?=some f)(hs:(frm.toList == to.toList)=false):renF frm to fs=remF to (remF frm fs)++[{f with name:=to}]:=by
 unfold renF;rw[h,if_neg (by omega),if_neg (by simp[hs]),Int.toNat_natCast,hk]
def rem2 (frm to:ByteArray)(fs:List DF):List DF:=fs.filter (fun f=>!isN frm f&&!isN to f)
theorem rem2_eq (frm to:ByteArray)(fs:List DF):rem2 frm to fs=remF to (remF frm fs):=by
 unfold rem2 remF;rw[List.filter_filter];congr 1;funext f;rw[Bool.and_comm]
theorem rename_d (p:Nat)(v:Value)(D:DK)(frm to:ByteArray)(w:World)(h:Dsk w 77 79 p v D)(hl:-9223372036854775808<=D.left/\D.left<=9223372036854775807)(hn:D.fs.length<8388608):
  Calls Tryz.prog 93 #[.pointer (some ⟨p,0,none⟩),.string frm,.string to] w fun e w'=>e=.returned (.bool (stepOk D.left D.st))/\Left w w' 77 79 p v ⟨if stepOk D.left D.st=true then renF frm to D.fs else D.fs,stepL D.left D.st,stepS D.left D.st⟩:=by
 obtain⟨fs,left,st⟩:=D;simp only at*
 have HS:=zH (step_d p v left st w h.blk hl);have H:=zH h;clear h;generalize stepL left st=L at HS;generalize stepS left st=S at HS
 cases hok:stepOk left st with
 | false=>
  rw[hok]at HS;go_enter Tryz.func93,Tryz.ntmps93;go_wp2_with fail;refine HS.out.mono ?_;rintro e w1 ⟨rfl,hb,ht,hz⟩;have HB:Hid (DBlk w1 p 77 v L S/\Tch [p] w w1):=⟨hb,ht⟩;have HO:=zH (H.out.own.tch ht (fun b hb hm=>H.out.sep (by simp at hm;rw[hb,hm])));clear hb ht hz;go_wp2_with fail;go_ret;refine⟨rfl,v,⟨HB.out.1,HO.out,H.out.sep⟩,HB.out.2.sub (fun x hx _=>by simp at hx;simp[bl,hx]),fun b hb=>.inl hb⟩
 | true=>
  rw[hok]at HS;go_enter Tryz.func93,Tryz.ntmps93;go_wp2_with fail;refine HS.out.mono ?_;rintro e w1 ⟨rfl,hb,ht,hz⟩;have HB:Hid (DBlk w1 p 77 v L S/\Tch [p] w w1):=⟨hb,ht⟩;have HO:=zH (H.out.own.tch ht (fun b hb hm=>H.out.sep (by simp at hm;rw[hb,hm])));clear hb ht hz;go_wp2_with fail;refine(find_d p v L S fs frm w1 HB.out.1 HO.out (by omega)).mono ?_;rintro e w2 ⟨rfl,rfl⟩;rcases fnd_cases frm fs with ⟨hf,_⟩|⟨k,hk,hf⟩
  ·rw[hf];have HY:Hid (renF frm to fs=fs):=renF_none hf;go_wp2_with fail;go_ret;refine⟨rfl,?_⟩;rw[HY.out];exact⟨v,⟨HB.out.1,HO.out,H.out.sep⟩,HB.out.2.sub (fun x hx _=>by simp at hx;simp[bl,hx]),fun b hb=>.inl hb⟩
  ·rw[hf];have hkf:¬((k:Int)<0):=by omega
   cases hs:(frm.toList == to.toList) with
   | true=>
    have HY:Hid (renF frm to fs=fs):=renF_same hs;go_wp2_with fail;go_ret;refine⟨rfl,?_⟩;rw[HY.out];exact⟨v,⟨HB.out.1,HO.out,H.out.sep⟩,HB.out.2.sub (fun x hx _=>by simp at hx;simp[bl,hx]),fun b hb=>.inl hb⟩
   | false=>
    have hnth:fs[k]?=some fs[k]:=List.getElem?_eq_getElem hk;have HY:Hid (renF frm to fs=rem2 frm to fs++[{fs[k] with name:=to}]):=by
     show _=_
     rw[renF_some hf hnth hs,rem2_eq]
    have h0:=HB.out.1.c0;obtain⟨g,cap,hv⟩:=HO.out.some (by omega);subst hv;obtain⟨_,c1,c2,c3,_⟩:=Dsk.cells (D:=⟨fs,L,S⟩) ⟨HB.out.1,HO.out,H.out.sep⟩ k fs[k] hnth;generalize fs[k]=f at c1 c2 c3 HY hnth;have hkl:((k:Int)<(fs.length:Int)):=by omega
    have h1:(w2.alloc (.cells #[.string to,.string f.data,.int .i64 (f.safe:Nat)] 79)).cell? ⟨p,0,none⟩=some (.slice (some ⟨g,0,none⟩) fs.length cap):=(World.cell?_of_block (Below.heap_alloc _ _ _ HB.out.1.lt)).trans h0;go_wp2_with fail;have HC:Hid (∀j (hj:j<fs.length),w2.cell? ⟨g,j*3,none⟩=some (.string fs[j].name)/\w2.cell? ⟨g,j*3+1,none⟩=some (.string fs[j].data)/\w2.cell? ⟨g,j*3+2,none⟩=some (.int .i64 (fs[j].safe:Nat))):=fun j hj=>by
     obtain⟨_,d1,d2,d3,_⟩:=Dsk.cells (D:=⟨fs,L,S⟩) ⟨HB.out.1,HO.out,H.out.sep⟩ j fs[j] (List.getElem?_eq_getElem hj);exact⟨d1,d2,d3⟩
    obtain⟨nf,HNF⟩:∃nf:DF,Hid (nf={f with name:=to}):=⟨_,rfl⟩;have hT3:Tch [] w2 (w2.alloc (.cells #[.string to,.string f.data,.int .i64 (f.safe:Nat)] 79)):=(Tch.refl _ _).alloc _;have hN3:(w2.alloc (.cells #[.string to,.string f.data,.int .i64 (f.safe:Nat)] 79)).heap[w2.heap.size]?=some (.cells nf.arr 79 (0,0)):=by rw[HNF.out];exact heap_alloc_new _ _
    have hZ3:(w2.alloc (.cells #[.string to,.string f.data,.int .i64 (f.safe:Nat)] 79)).heap.size=w2.heap.size+1:=by simp
    rw[<-HNF.out]at HY;generalize w2.alloc (.cells #[.string to,.string f.data,.int .i64 (f.safe:Nat)] 79)=w3 at hT3 hN3 hZ3;have HW3:Hid (Tch [] w2 w3/\w3.heap[w2.heap.size]?=some (.cells nf.arr 79 (0,0))/\w3.heap.size=w2.heap.size+1):=⟨hT3,hN3,hZ3⟩;have HY2:=zH HY;clear hT3 hN3 hZ3 c1 c2 c3 h0 h1 hnth HY HNF hkf
    go_loopw [9,39] (fun lv i wr=>∃(k:Nat) (v1:Value),k<=fs.length/\lv=v1/\i=.int .i64 k/\Own wr 79 v1 (rem2 frm to (fs.take k))/\(∀b,v1.ownBlock=some b->w3.heap.size<=b)/\Tch [] w3 wr) (fun _ i _=>fs.length-(intOf i).toNat)
    case atStart=>exact⟨0,_,Nat.zero_le _,rfl,rfl,Own.nil _ _,fun b hb=>by simp[Value.ownBlock]at hb,Tch.refl _ _⟩
    case round=>
     obtain⟨j,v1,hj,rfl,rfl,hown,hnew,htch⟩:=hrel;have HOW:Hid (Own wr 79 u9 (rem2 frm to (fs.take j))/\(∀b,u9.ownBlock=some b->w3.heap.size<=b)/\Tch [] w3 wr):=⟨hown,hnew,htch⟩;have htch2:=HW3.out.1.trans htch (fun x hx=>by cases hx)
     by_cases hjn:j<fs.length
     ·obtain⟨c1,c2,c3⟩:=HC.out j hjn;have d1:=(htch2.cell (World.block_lt_of_cell? _ _ c1) (by simp)).trans c1;have d2:=(htch2.cell (World.block_lt_of_cell? _ _ c2) (by simp)).trans c2;have d3:=(htch2.cell (World.block_lt_of_cell? _ _ c3) (by simp)).trans c3;have HTK:Hid (rem2 frm to (fs.take (j+1))=if (!isN frm fs[j]&&!isN to fs[j])=true then rem2 frm to (fs.take j)++[fs[j]] else rem2 frm to (fs.take j)):=by
       show _=_
       rw[List.take_succ_eq_append_getElem hjn];unfold rem2;rw[List.filter_append]
       cases hq:(!isN frm fs[j]&&!isN to fs[j])<;>simp[hq]
      have HLN:Hid ((rem2 frm to (fs.take j)).length<=8388608):=by
       show _<=_
       have h1:=List.length_filter_le (fun f=>!isN frm f&&!isN to f) (fs.take j);rw[List.length_take]at h1;unfold rem2;omega
      clear c1 c2 c3 hown hnew htch htch2;have HIS:Hid (isN frm fs[j]=(fs[j].name.toList == frm.toList)/\isN to fs[j]=(fs[j].name.toList == to.toList)):=⟨rfl,rfl⟩;generalize fs[j]=f2 at d1 d2 d3 HTK HIS;generalize rem2 frm to (fs.take j)=R at HOW HTK HLN;have hjl:((j:Int)<(fs.length:Int)):=by omega
      cases hq:(f2.name.toList == frm.toList) with
      | true=>
       have HTK2:Hid (rem2 frm to (fs.take (j+1))=R):=by
        show _=_
        rw[HTK.out,HIS.out.1,hq];rfl
       go_wp2_with fail;go_roundw
       case rel=>exact⟨j+1,_,by omega,rfl,by go_num,by rw[HTK2.out];exact HOW.out.1.tch ((Tch.refl [] _).alloc _) (fun _ _=>by simp),HOW.out.2.1,HOW.out.2.2.alloc _⟩
       case measure=>simp[intOf];omega
      | false=>
       cases hr:(f2.name.toList == to.toList) with
       | true=>
        have HTK2:Hid (rem2 frm to (fs.take (j+1))=R):=by
         show _=_
         rw[HTK.out,HIS.out.1,HIS.out.2,hq,hr];rfl
        go_wp2_with fail;go_roundw
        case rel=>exact⟨j+1,_,by omega,rfl,by go_num,by rw[HTK2.out];exact HOW.out.1.tch ((Tch.refl [] _).alloc _) (fun _ _=>by simp),HOW.out.2.1,HOW.out.2.2.alloc _⟩
        case measure=>simp[intOf];omega
       | false=>
        have HTK2:Hid (rem2 frm to (fs.take (j+1))=R++[f2]):=by
         show _=_
         rw[HTK.out,HIS.out.1,HIS.out.2,hq,hr];rfl
        go_wp2_with (at_builtin;refine wpList_file _ rfl _ _ 75 79 rfl Tryz.underlying75 info81 u9 R rfl (HOW.out.1.tch (((Tch.refl [] _).alloc _).alloc _) (fun _ _=>by simp)) (wr.heap.size+1) f2 rfl (heap_alloc2_new _ _ _) HLN.out ?_);intro v' w4 ho3 hg3 hb3;have HFN:Hid (Own w4 79 v' (R++[f2])/\(∀b,v'.ownBlock=some b->w3.heap.size<=b)/\Tch [] w3 w4):=by
         refine⟨ho3,fun b hb=>?_,?_⟩
         ·rcases hb3 with h|h
          ·exact HOW.out.2.1 b (h.symm.trans hb)
          ·rw[hb]at h;injection h with h;have:=HOW.out.2.2.size;omega
         ·exact((HOW.out.2.2.alloc _).alloc _).grown hg3 (fun b hb hlt=>by have:=HOW.out.2.1 b hb;omega)
        clear ho3 hg3 hb3;go_wp2_with fail;go_roundw
        case rel=>exact⟨j+1,_,by omega,rfl,by go_num,by rw[HTK2.out];exact HFN.out.1,HFN.out.2.1,HFN.out.2.2⟩
        case measure=>simp[intOf];omega
     ·have hjl:¬((j:Int)<(fs.length:Int)):=by omega
      rw[List.take_of_length_le (by omega)]at HOW;have HLN:Hid ((rem2 frm to fs).length<=8388608):=by
       show _<=_
       have h1:=List.length_filter_le (fun f=>!isN frm f&&!isN to f) fs;unfold rem2;omega
      have hnr:=(htch.block _ (by have:=HW3.out.2.2;omega) (by simp)).trans HW3.out.2.1;have HDB:=zH (HB.out.1.tch htch2 (by simp));have HT2:Hid (Tch (bl p (.slice (some ⟨g,0,none⟩) fs.length cap)) w wr):=(HB.out.2.trans htch2 (fun x hx=>by cases hx)).sub (fun x hx _=>by simp at hx;simp[bl,hx]);have HNR:=zH hnr;clear hown hnew htch htch2 hnr;go_wp2_with (first|(refine wpList_load_row rfl 79 (.tmp 8) rfl w2.heap.size rfl 79 #[.string nf.name,.string nf.data,.int .i64 (nf.safe:Nat)] (0,0) _ HNR.out Tryz.underlying79 rfl inf81 ?_)|(at_builtin;refine wpList_file _ rfl _ _ 75 79 rfl Tryz.underlying75 info81 u9 (rem2 frm to fs) rfl (HOW.out.1.tch ((Tch.refl [] _).alloc _) (fun _ _=>by simp)) wr.heap.size nf rfl (heap_alloc_new _ _) HLN.out ?_))
      intro v' w4 ho3 hg3 hb3;obtain⟨hB3,hD4,hT4,hn4⟩:=grow_fin (w:=w) (w2:=wr.alloc _) ((Below.heap_alloc _ _ _ HDB.out.lt).trans HDB.out) (HT2.out.alloc _) hg3 ho3 (fun b hb=>by
       have h1:=HOW.out.2.1 b hb;have h2:=HW3.out.2.2;have h3:=HB.out.1.lt;have h4:=HB.out.2.size;exact⟨by omega,.inr (by omega)⟩) (by simpa using hb3)
      obtain⟨g4,cap4,hv4⟩:=ho3.some (by simp);subst hv4;rw[<-HY2.out]at hD4 hT4 hn4 ⊢;have HFIN:Hid (Left w (w4.setCell ⟨p,0,none⟩ (.slice (some ⟨g4,0,none⟩) (renF frm to fs).length cap4)) 77 79 p (.slice (some ⟨g,0,none⟩) fs.length cap) ⟨renF frm to fs,L,S⟩):=⟨_,hD4,hT4,hn4⟩;have c5:=hB3.c0;have z5:=hB3.fz 0;clear ho3 hg3 hb3 hB3 hD4 hT4 hn4;go_wp2_with fail;go_ret;exact⟨rfl,HFIN.out⟩
structure Good (D:DK)(n k:Nat):Prop where
 left:-9223372036854775808<=D.left/\D.left<=9223372036854775807
 fs:D.fs.length<=n
 sz:∀f∈D.fs,f.safe<=f.data.size/\f.data.size<=k
theorem mem_onF {F:DF->DF}{fs:List DF}{f:DF}(h:f∈onF name F fs):f∈fs\/∃g∈fs,f=F g:=by
 rcases fnd_cases name fs with ⟨h0,_⟩|⟨k,hk,h0⟩
 ·rw[onF_none F h0]at h;exact .inl h
 ·rw[onF_some F h0 (List.getElem?_eq_getElem hk)]at h;rcases List.mem_or_eq_of_mem_set h with h|h
  ·exact .inl h
  ·exact .inr ⟨_,List.getElem_mem _,h⟩
theorem onF_len (name:ByteArray)(F:DF->DF)(fs:List DF):(onF name F fs).length=fs.length:=by
 rcases fnd_cases name fs with ⟨h0,_⟩|⟨k,hk,h0⟩
 ·rw[onF_none F h0]
 ·rw[onF_some F h0 (List.getElem?_eq_getElem hk),List.length_set]
theorem stepL_range (h:-9223372036854775808<=left/\left<=9223372036854775807):-9223372036854775808<=stepL left st/\stepL left st<=9223372036854775807:=by
 unfold stepL
 split<;>omega
theorem good_step {D:DK}{k n' k':Nat}(h:Good D n k)(fs':List DF)(hn:n<=n')(hk:k<=k')(h1:fs'.length<=n')(h2:∀f∈fs',f.safe<=f.data.size/\f.data.size<=k'):Good ⟨if stepOk D.left D.st=true then fs' else D.fs,stepL D.left D.st,stepS D.left D.st⟩ n' k':=by
 refine⟨stepL_range h.left,?_,?_⟩
 ·show (if _ then _ else _:List DF).length<=_
  split
  ·exact h1
  ·have:=h.fs;omega
 ·intro f hf;have hf':=hf
  split at hf'
  ·exact h2 f hf'
  ·have:=h.sz f hf';omega
theorem good_app {D:DK}{k:Nat}(h:Good D n k)(N S:ByteArray):Good ⟨if stepOk D.left D.st=true then appF N S D.fs else D.fs,stepL D.left D.st,stepS D.left D.st⟩ (n+1) (k+S.size):=by
 refine good_step h _ (by omega) (by omega) ?_ ?_
 ·have:=h.fs;unfold appF
  split
  ·rw[List.length_append,List.length_singleton];omega
  ·rw[onF_len];omega
 ·intro f hf;unfold appF at hf
  split at hf
  ·rcases List.mem_append.1 hf with hf|hf
   ·have:=h.sz f hf;omega
   ·simp at hf;subst hf;exact⟨Nat.zero_le _,by show S.size<=_;omega⟩
  ·rcases mem_onF hf with hf|⟨g,hg,rfl⟩
   ·have:=h.sz f hf;omega
   ·have:=h.sz g hg
    show g.safe<=(g.data++S).size/\(g.data++S).size<=_
    rw[ByteArray.size_append];omega
theorem good_sync {D:DK}{k:Nat}(h:Good D n k)(N:ByteArray):Good ⟨if stepOk D.left D.st=true then syncF N D.fs else D.fs,stepL D.left D.st,stepS D.left D.st⟩ n k:=by
 refine good_step h _ (Nat.le_refl _) (Nat.le_refl _) ?_ ?_
 ·unfold syncF;rw[onF_len];exact h.fs
 ·intro f hf;rcases mem_onF hf with hf|⟨g,hg,rfl⟩
  ·exact h.sz f hf
  ·exact⟨Nat.le_refl _,(h.sz g hg).2⟩
theorem remF_len (N:ByteArray)(fs:List DF):(remF N fs).length<=fs.length:=List.length_filter_le ..
theorem rem_drop {fs:List DF}{k:Nat}(hk:k<fs.length)(h:isN name fs[k]=true):(remF name fs).length+1<=fs.length:=by
 induction fs generalizing k with
 | nil=>cases hk
 | cons f fs ih=>
  cases k with
  | zero=>
   have h':isN name f=true:=h;have:=remF_len name fs;unfold remF at this ⊢;simp[h'];omega
  | succ k=>
   have h2:=ih (k:=k) (by simpa using hk) (by simpa using h);unfold remF at h2 ⊢
   cases hf:isN name f<;>simp[hf]<;>omega
theorem fnd_isN {fs:List DF}{k:Nat}(hk:k<fs.length)(h:fnd name fs=(k:Int)):isN name fs[k]=true:=by
 unfold fnd at h
 cases hx:fs.findIdx? (isN name) with
 | none=>rw[hx]at h;simp at h
 | some j=>
  rw[hx]at h;have h':(j:Int)=(k:Int):=h;have e:j=k:=by omega
  subst e;exact(List.findIdx?_eq_some_iff_getElem.1 hx).2.1
theorem good_ren {D:DK}{k:Nat}(h:Good D n k)(N S:ByteArray):Good ⟨if stepOk D.left D.st=true then renF N S D.fs else D.fs,stepL D.left D.st,stepS D.left D.st⟩ n k:=by
 have key:(renF N S D.fs).length<=n/\∀f∈renF N S D.fs,f.safe<=f.data.size/\f.data.size<=k:=by
  rcases fnd_cases N D.fs with ⟨h0,_⟩|⟨j,hj,h0⟩
  ·rw[renF_none h0];exact⟨h.fs,h.sz⟩
  ·cases hs:(N.toList == S.toList) with
   | true=>rw[renF_same hs];exact⟨h.fs,h.sz⟩
   | false=>
    rw[renF_some h0 (List.getElem?_eq_getElem hj) hs];refine⟨?_,fun f hf=>?_⟩
    ·have h1:=rem_drop hj (fnd_isN hj h0);have h2:=remF_len S (remF N D.fs);have h3:=h.fs;rw[List.length_append,List.length_singleton];omega
    ·rcases List.mem_append.1 hf with hf|hf
     ·exact h.sz f (List.mem_filter.1 (List.mem_filter.1 hf).1).1
     ·simp at hf;subst hf;exact h.sz D.fs[j] (List.getElem_mem _)
 exact good_step h _ (Nat.le_refl _) (Nat.le_refl _) key.1 key.2
end Go.Proofs.YtbdobaapadlcjabGreatDoor.Dk
