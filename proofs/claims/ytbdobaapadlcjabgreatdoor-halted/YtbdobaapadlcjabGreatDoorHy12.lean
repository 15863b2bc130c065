import Derived.Test.YtbdobaapadlcjabGreatDoorHy11
set_option maxRecDepth 8000
set_option maxHeartbeats 4000000
set_option linter.unusedVariables false
set_option linter.unusedSimpArgs false
namespace Go.Proofs.YtbdobaapadlcjabGreatDoor
open Go.Shelf Go.RowKit Go.Lib
theorem delm_pred (gr:ByteArray)(B:Nat)(w:World)(hB:B<w.heap.size)(hcell:w.cell? ⟨B,0,none⟩=some (.string gr)):
  PredBelow Tryz.prog 208 #[.pointer (some ⟨B,0,none⟩)] (fun x:Ms=>.agg x.row.toArray) (isG gr) w:=fun W x hb=>by
 have hc:=(hb.cell (p:=⟨B,0,none⟩) hB).trans hcell;have hBW:B<W.heap.size:=Nat.lt_of_lt_of_le hB hb.size
 show Calls Tryz.prog 208 #[.agg #[.int .i64 x.num,.string x.grp,.string x.bod,.int .i64 x.rcv,.int .i64 x.til],.pointer (some ⟨B,0,none⟩)] W _
 go_enter Tryz.func208,Tryz.ntmps208
 go_wp2
 all_goals (go_ret;exact⟨by simp_all,hb.alloc hb.size _⟩)
theorem eg292:∀args w,(callFunc 208 args).run Tryz.prog w=.ok (.enter 208 args) w:=enters_of Tryz.func208 (by kernel_rfl) rfl
theorem idx_delM (v:Value)(l:List Ms)(gr:ByteArray)(B:Nat)(w:World)(ho:w.ownsRow 0 191 5 v l.length (l.flatMap Ms.row))(hl:l.length<=1000000)(hB:B<w.heap.size)(hcell:w.cell? ⟨B,0,none⟩=some (.string gr)):
  zB 193 #[v,.func (.func 208) #[] #[.pointer (some ⟨B,0,none⟩)]] w (.int .i64 (idxL (isG gr) l)):=by
 have inh:Inhabited Ms:=⟨⟨0,⟨#[]⟩,⟨#[]⟩,0,0⟩⟩;rcases ho.2 with ⟨rfl,h0⟩|⟨gd,cap,cur,rfl,_,hg,_⟩
 ·have e0:l=[]:=List.length_eq_zero_iff.1 h0;subst e0;refine(idx_ms_none none 0 _ w).mono ?_;rintro e w' ⟨rfl,rfl⟩;exact⟨rfl,Below.refl _ _⟩
 ·have h:=AnyQ.slices_IndexFunc l197 5 Tryz.isAgg191 Tryz.sizeOf191 Ms.row (fun _=>rfl) (isG gr) 208 #[.pointer (some ⟨B,0,none⟩)] eg292 gd 0 l.length cap l w (delm_pred gr B w hB hcell) (Nat.le_refl _) (by omega) (lt_of_block hg) (fun j hj i v hi=>own_cells Ms.row 5 (fun _=>rfl) ho j hj i v hi);rw[List.take_length,idxBy_eq]at h;exact h
theorem zeroM (w:World):(zeroValue 191).run Tryz.prog w=.ok (.agg #[.int .i64 0,.string ⟨#[]⟩,.string ⟨#[]⟩,.int .i64 0,.int .i64 0]) w:=by kernel_rfl
theorem run_clearM (w:World)(ty:TypeId)(g k m cd:Nat)(hc:∀j,j<m*5->(w.cell? ⟨g,k*5+j,none⟩).isSome=true)(hf:∀j,w.frozen? ⟨g,j,none⟩=false)(hm:0<m):
  (Builtin.clear_ #[133] ty #[.slice (some ⟨g,k*5,none⟩) m cd]).run Tryz.prog w=.ok (.tuple #[]) (w.setCells g (k*5) (Builtin.zeroCells #[.int .i64 0,.string ⟨#[]⟩,.string ⟨#[]⟩,.int .i64 0,.int .i64 0] m).toList):=by
 obtain⟨m',rfl⟩:∃m',m=m'+1:=⟨m-1,by omega⟩;have hst:=run_storeCells_cells (P:=Tryz.prog) g (k*5) (Builtin.zeroCells #[.int .i64 0,.string ⟨#[]⟩,.string ⟨#[]⟩,.int .i64 0,.int .i64 0] (m'+1)).toList 0 w (fun j hj=>by
  rw[Nat.add_zero];exact hc j (by simpa [size_zeroCells]using hj)) (fun j hj=>hf _) (fun v hv=>by
  have hv':=Array.mem_toList_iff.1 hv;unfold Builtin.zeroCells at hv';obtain⟨i,hi,rfl⟩:=Array.mem_map.1 hv';have h3:i % 5=0\/i % 5=1\/i % 5=2\/i % 5=3\/i % 5=4:=by omega
  show Value.oneCell' (#[.int .i64 0,.string ⟨#[]⟩,.string ⟨#[]⟩,.int .i64 0,.int .i64 0][i % 5]!)=true
  rcases h3 with h|h|h|h|h<;>rw[h]<;>rfl)
 have hz:(Value.agg #[.int .i64 0,.string ⟨#[]⟩,.string ⟨#[]⟩,.int .i64 0,.int .i64 0]).cells=#[.int .i64 0,.string ⟨#[]⟩,.string ⟨#[]⟩,.int .i64 0,.int .i64 0]:=rfl;simp only[Nat.add_zero]at hst;simp[Builtin.clear_,run_underlying Tryz.underlying133,zeroM,hz,hst]
theorem delM_any (v:Value)(l:List Ms)(gr:ByteArray)(B:Nat)(w:World)(ho:w.ownsRow 0 191 5 v l.length (l.flatMap Ms.row))(hl:l.length<=1000000)(hB:w.heap[B]?=some (.cells #[.string gr] 9 (0,0))):
  Calls Tryz.prog 207 #[v,.func (.func 208) #[] #[.pointer (some ⟨B,0,none⟩)]] w fun e w'=>∃v',e=.returned v'/\v'.ownBlock=v.ownBlock/\w'.ownsRow 0 191 5 v' (l.filter (fun x=>!isG gr x)).length ((l.filter (fun x=>!isG gr x)).flatMap Ms.row)/\Tch (bl v) w w':=by
 have inh:Inhabited Ms:=⟨⟨0,⟨#[]⟩,⟨#[]⟩,0,0⟩⟩;have hBl:=lt_of_block hB;have HB:=zH hB;have HI:Hid (Calls Tryz.prog 193 _ w _):=idx_delM v l gr B w ho hl hBl (cell_of_one hB)
 by_cases hneg:idxL (isG gr) l<0
 ·have hm1:idxL (isG gr) l=-1:=by have:=idxL_ge (isG gr) l;omega
  rw[hm1]at HI;rw[idxL_none _ _ hneg];have HO:=zH ho;clear hB ho hm1 hneg;go_enter Tryz.func207,Tryz.ntmps207;go_wp2_with (go_at_call 193;refine HI.out.mono ?_;rintro e w' ⟨rfl,hb⟩);go_ret;exact⟨v,rfl,rfl,own_tch HO.out (Tch.of_below (by assumption)) (fun _ _=>by simp),(Tch.of_below (by assumption)).sub (by simp)⟩
 ·obtain⟨i0,hi0⟩:∃i:Nat,idxL (isG gr) l=(i:Int):=⟨_,(Int.toNat_of_nonneg (by omega)).symm⟩;have hdl:=idxL_first _ l i0 hi0;rw[hi0]at HI;obtain⟨gd,cd,rfl⟩:∃g c,v=.slice (some ⟨g,0,none⟩) l.length c:=by
   rcases ho.2 with ⟨_,h0⟩|⟨g,cap,cur,h0,_⟩
   ·have:=hdl.jn;omega
   ·exact⟨g,cap,h0⟩
  have hcap:l.length<=cd:=by
   rcases ho.2 with ⟨h',_⟩|⟨g',cap',cur,h',_,_,hnc,_⟩
   ·simp at h'
   ·simp at h';omega
  have hBg:B≠gd:=fun e=>by
   rw[e]at hB;exact own_ne ho hB (by decide) rfl
  have HO:=zH ho;have HD:Hid (Dl (isG gr) l l i0 (i0+1)):=hdl;have hi1:i0<l.length:=by have:=hdl.jn;omega
  have hne1:((i0:Int) == -1)=false:=beq_eq_false_iff_ne.2 (by omega);clear hB ho hi0 hneg hdl;go_enter Tryz.func207,Tryz.ntmps207;go_wp2_with (go_at_call 193;refine HI.out.mono ?_;rintro e w' ⟨rfl,hb⟩;have T0:Hid (Tch [gd] w w'):=(Tch.of_below hb).sub (by simp);have O0:Hid (w'.ownsRow 0 191 5 (.slice (some ⟨gd,0,none⟩) l.length cd) l.length (l.flatMap Ms.row)):=own_tch HO.out (Tch.of_below hb) (fun _ _=>by simp);clear hb HI)
  go_loopw [5,6] (fun iv jv wr=>∃(k j:Nat) (L:List Ms),iv=.int .i64 (k:Int)/\jv=.int .i64 (j:Int)/\Dl (isG gr) l L k j/\wr.ownsRow 0 191 5 (.slice (some ⟨gd,0,none⟩) l.length cd) L.length (L.flatMap Ms.row)/\Tch [gd] w wr) (fun _ jv _=>l.length-(intOf jv).toNat)
  case atStart=>exact⟨i0,i0+1,l,rfl,by go_num,HD.out,O0.out,T0.out⟩
  case round=>
   obtain⟨k,j,L,rfl,rfl,hd,hor,htr⟩:=hrel;have hkj:=hd.kj;have hjn:=hd.jn;have hll:=hd.len;have HOR:Hid (wr.ownsRow 0 191 5 (.slice (some ⟨gd,0,none⟩) l.length cd) L.length (L.flatMap Ms.row)):=hor;have HTR:Hid (Tch [gd] w wr):=htr;have HDL:Hid (Dl (isG gr) l L k j):=hd
   by_cases hlt:j<l.length
   ·obtain⟨x,hx⟩:∃x,l[j]?=some x:=⟨_,List.getElem?_eq_getElem hlt⟩;have hLx:L[j]?=some x:=(hd.get hlt).trans hx;have hjL:j<L.length:=by omega
    have fm:∀i v,x.row[i]?=some v->wr.cell? ⟨gd,j*5+i,none⟩=some v:=fun i v hi=>by
     have h1:=own_cells Ms.row 5 (fun _=>rfl) hor j hjL i v (by rw[List.getElem!_eq_getElem?_getD,hLx];exact hi);simpa using h1
    have g0:wr.cell? ⟨gd,j*5,none⟩=some (.int .i64 x.num):=fm 0 _ rfl;have g1:wr.cell? ⟨gd,j*5+1,none⟩=some (.string x.grp):=fm 1 _ rfl;have g2:wr.cell? ⟨gd,j*5+2,none⟩=some (.string x.bod):=fm 2 _ rfl;have g3:wr.cell? ⟨gd,j*5+3,none⟩=some (.int .i64 x.rcv):=fm 3 _ rfl;have g4:wr.cell? ⟨gd,j*5+4,none⟩=some (.int .i64 x.til):=fm 4 _ rfl;have HP:Hid (∀W,Tch [] wr W->zB 208 #[.agg #[(.int .i64 x.num),(.string x.grp),(.string x.bod),(.int .i64 x.rcv),(.int .i64 x.til)],.pointer (some ⟨B,0,none⟩)] W (.bool (isG gr x))):=fun W hW=>by
     have hBW:W.heap[B]?=some (.cells #[.string gr] 9 (0,0)):=(hW.block _ (Nat.lt_of_lt_of_le hBl HTR.out.size) (by simp)).trans ((HTR.out.block _ hBl (by simpa using hBg)).trans HB.out);exact delm_pred gr B W (lt_of_block hBW) (cell_of_one hBW) W x (Below.refl _ _)
    clear hd hor htr fm hLx;have HP1:Hid (Calls Tryz.prog 208 #[.agg #[(.int .i64 x.num),(.string x.grp),(.string x.bod),(.int .i64 x.rcv),(.int .i64 x.til)],.pointer (some ⟨B,0,none⟩)] (wr.alloc (.cells #[(.int .i64 x.num),(.string x.grp),(.string x.bod),(.int .i64 x.rcv),(.int .i64 x.til)] 191)) fun e w'=>e=.returned (.bool (isG gr x))/\Tch [] wr w'/\w'.heap[wr.heap.size]?=some (.cells #[(.int .i64 x.num),(.string x.grp),(.string x.bod),(.int .i64 x.rcv),(.int .i64 x.til)] 191 (0,0))):=(HP.out _ ((Tch.refl _ _).alloc _)).mono (by
     rintro e w' ⟨he,hb⟩;exact⟨he,((Tch.refl [] wr).alloc _).trans (Tch.of_below hb) (by simp),(hb.block _ (by simp)).trans (heap_alloc_new _ _)⟩)
    clear HP
    by_cases hp:isG gr x=true
    ·have hdec:isG gr x=true:=by simpa using hp
     rw[hdec]at HP1;have HPX:Hid (isG gr x=true):=hdec;clear hp hdec;go_wp2_with fail;refine HP1.out.mono ?_;rintro e w1 ⟨rfl,ht1,hc1⟩;have HR:Hid (w1.ownsRow 0 191 5 (.slice (some ⟨gd,0,none⟩) l.length cd) L.length (L.flatMap Ms.row)/\Tch [gd] w w1):=⟨own_tch HOR.out ht1 (fun _ _=>by simp),HTR.out.trans ht1 (by simp)⟩;clear ht1 hc1 g0 g1 g2 g3 g4 HP1;go_wp2_with fail;go_roundw
     case rel=>exact⟨k,j+1,L,rfl,by go_num,HDL.out.skip x hx HPX.out,HR.out.1,HR.out.2⟩
     case measure=>simp[intOf];omega
    ·have hdec:isG gr x=false:=by simpa using hp
     rw[hdec]at HP1;have HPX:Hid (isG gr x=false):=hdec;clear hp hdec;go_wp2_with fail;refine HP1.out.mono ?_;rintro e w1 ⟨rfl,ht1,hc1⟩;have ho1:=own_tch HOR.out ht1 (fun _ _=>by simp);have hkL:k<L.length:=by omega
     obtain⟨y,hy⟩:∃y,L[k]?=some y:=⟨_,List.getElem?_eq_getElem hkL⟩;have fk:∀i v,y.row[i]?=some v->w1.cell? ⟨gd,k*5+i,none⟩=some v:=fun i v hi=>by
      have h1:=own_cells Ms.row 5 (fun _=>rfl) ho1 k hkL i v (by rw[List.getElem!_eq_getElem?_getD,hy];exact hi);simpa using h1
     have k0:w1.cell? ⟨gd,k*5,none⟩=some (.int .i64 y.num):=fk 0 _ rfl;have k1:w1.cell? ⟨gd,k*5+1,none⟩=some (.string y.grp):=fk 1 _ rfl;have k2:w1.cell? ⟨gd,k*5+2,none⟩=some (.string y.bod):=fk 2 _ rfl;have k3:w1.cell? ⟨gd,k*5+3,none⟩=some (.int .i64 y.rcv):=fk 3 _ rfl;have k4:w1.cell? ⟨gd,k*5+4,none⟩=some (.int .i64 y.til):=fk 4 _ rfl;have m0:w1.cell? ⟨wr.heap.size,0,none⟩=some (.int .i64 x.num):=cell_qC hc1 0 _ rfl;have m1:w1.cell? ⟨wr.heap.size,1,none⟩=some (.string x.grp):=cell_qC hc1 1 _ rfl;have m2:w1.cell? ⟨wr.heap.size,2,none⟩=some (.string x.bod):=cell_qC hc1 2 _ rfl;have m3:w1.cell? ⟨wr.heap.size,3,none⟩=some (.int .i64 x.rcv):=cell_qC hc1 3 _ rfl;have m4:w1.cell? ⟨wr.heap.size,4,none⟩=some (.int .i64 x.til):=cell_qC hc1 4 _ rfl;rw[hll]at ho1;have z0:∀i,w1.frozen? ⟨gd,i,none⟩=false:=fun i=>World.ownsRow.frozenAt ho1 i
     have HR:Hid ((((((w1.setCell ⟨gd,k*5,none⟩ (.int .i64 x.num)).setCell ⟨gd,k*5+1,none⟩ (.string x.grp)).setCell ⟨gd,k*5+2,none⟩ (.string x.bod)).setCell ⟨gd,k*5+3,none⟩ (.int .i64 x.rcv)).setCell ⟨gd,k*5+4,none⟩ (.int .i64 x.til)).ownsRow 0 191 5 (.slice (some ⟨gd,0,none⟩) l.length cd) (L.set k x).length ((L.set k x).flatMap Ms.row)/\Tch [gd] w (((((w1.setCell ⟨gd,k*5,none⟩ (.int .i64 x.num)).setCell ⟨gd,k*5+1,none⟩ (.string x.grp)).setCell ⟨gd,k*5+2,none⟩ (.string x.bod)).setCell ⟨gd,k*5+3,none⟩ (.int .i64 x.rcv)).setCell ⟨gd,k*5+4,none⟩ (.int .i64 x.til))):=by
      refine⟨?_,(((((HTR.out.trans ht1 (by simp)).setCell (fun _=>by simp) _).setCell (fun _=>by simp) _).setCell (fun _=>by simp) _).setCell (fun _=>by simp) _).setCell (fun _=>by simp) _⟩;rw[List.length_set,hll,<-flat_put Ms.row 5 (fun _=>rfl) L k x hkL];exact own_setCells x.row (k*5) w1 _ ho1
     clear g0 g1 g2 g3 g4 HP1 ht1 hc1 ho1 fk hy;go_wp2_with fail;go_roundw
     case rel=>exact⟨k+1,j+1,L.set k x,by go_num,by go_num,HDL.out.keep x hx HPX.out,HR.out.1,HR.out.2⟩
     case measure=>simp[intOf];omega
   ·have hje:l.length=j:=by omega
    have hkk:(l.filter (fun x=>!isG gr x)).length=k/\L.take k=l.filter (fun x=>!isG gr x):=by
     have h1:=hd.tk;have e9:l.take j=l:=List.take_of_length_le (by omega);rw[e9]at h1;refine⟨?_,h1⟩;rw[<-h1,List.length_take];omega
    rw[hll]at hor;have hclr:=run_clearM wr 0 gd k (j-k) (cd-k) (fun i hi=>by
     have h1:k*5+i<(L.flatMap Ms.row).length:=by rw[flat_len Ms.row 5 (fun _=>rfl)];omega
     have h2:=World.ownsRow.cells hor (g:=gd) rfl (k*5+i) _ (List.getElem?_eq_getElem h1);have e:(⟨gd,0,none⟩:Addr).add (k*5+i)=⟨gd,k*5+i,none⟩:=by unfold Addr.add;split<;>simp_all
     rw[e]at h2;rw[h2];rfl) (fun i=>World.ownsRow.frozenAt hor i) (by omega)
    have HF:Hid ((wr.setCells gd (k*5) (Builtin.zeroCells #[.int .i64 0,.string ⟨#[]⟩,.string ⟨#[]⟩,.int .i64 0,.int .i64 0] (j-k)).toList).ownsRow 0 191 5 (.slice (some ⟨gd,0,none⟩) k cd) (l.filter (fun x=>!isG gr x)).length ((l.filter (fun x=>!isG gr x)).flatMap Ms.row)/\Tch [gd] w (wr.setCells gd (k*5) (Builtin.zeroCells #[.int .i64 0,.string ⟨#[]⟩,.string ⟨#[]⟩,.int .i64 0,.int .i64 0] (j-k)).toList)):=by
     refine⟨?_,htr.trans (tch_setCells gd _ _ _) (fun _ h _=>h)⟩;have h1:=own_cut (own_setCells (Builtin.zeroCells #[.int .i64 0,.string ⟨#[]⟩,.string ⟨#[]⟩,.int .i64 0,.int .i64 0] (j-k)).toList (k*5) wr _ hor) (n':=k) (by omega);rw[putMany_take _ _ _ _ (Nat.le_refl _),flat_take Ms.row 5 (fun _=>rfl) L k (by omega),hkk.2]at h1;rw[hkk.1];exact h1
    generalize wr.setCells gd (k*5) (Builtin.zeroCells #[.int .i64 0,.string ⟨#[]⟩,.string ⟨#[]⟩,.int .i64 0,.int .i64 0] (j-k)).toList=w2 at*
    clear hd hor htr hkk;go_wp2_with fail;go_ret;exact⟨.slice (some ⟨gd,0,none⟩) k cd,rfl,rfl,HF.out.1,HF.out.2⟩
end Go.Proofs.YtbdobaapadlcjabGreatDoor
namespace Go.Proofs.YtbdobaapadlcjabGreatDoor
open Go.RowKit
variable {w w' w2:World}{qb:Nat}{V:QV}{v':Value}
theorem step_room {ops:Array Oper}{o:Oper}{a:Act}{w:World}{K:Act->World->Prop}{Q:Exit->Act->World->Prop}{E:Prop}(hgd:o.guard=none)(s x:Operand)(t te:TypeId)
  (ho:o.op=.call {callee:=.builtin .append,args:=#[s,x],argTypes:=#[t,t]})(ht:Tryz.prog.underlying t=some (.slice te))(z:Value)(size bytes:Nat)
  (hinfo:(Tryz.prog.info? te).map (fun i=>(i.zero,i.size,i.bytes))=some (some z,size,bytes))
  (g sLen sCap:Nat)(cur:Array Value)(hg:w.heap[g]?=some (.cells cur te (0,0)))(ad:Addr)(m c:Nat)(news:List Value)(hl:news.length=m*size)(hnews:∀j u,news[j]?=some u->w.cell? (ad.add j)=some u)(h1:∀u∈news,u.oneCell'=true)
  (hroom:sLen+m<=sCap)(hfit:sLen*size+news.length<=cur.size)(hs:a.eval s=.slice (some ⟨g,0,none⟩) sLen sCap)(hx:a.eval x=.slice (some ad) m c)
  (h:K (a.put o.dst (.slice (some ⟨g,0,none⟩) (sLen+m) sCap)) (w.setRow g (cur.toList.take (sLen*size)++news++cur.toList.drop (sLen*size+news.length)).toArray)):
  if Region.wanted o (yielded ops a.tmps)=true then Oper.wp Tryz.prog o a w K Q else E:=by
 have hw:Region.wanted o (yielded ops a.tmps)=true:=by simp[Region.wanted,hgd]
 rw[if_pos hw];obtain⟨i0,hi,hz0,hz1,hz2⟩:=info_parts hinfo;subst hz1;have hr:=run_append_room (P:=Tryz.prog) w t o.type te i0 ht hi g sLen sCap cur hg ad m c news hl hnews h1 hroom hfit;unfold Oper.wp execOp;simp only[ho,resolve,invoke,builtin,Sem.run_bind,Sem.run_pure,Result.andThen_ok,List.map_toArray,List.map_cons,List.map_nil,hs,hx,hr];exact h
theorem own_shift (l:List Ms)(g c i:Nat)(cur:Array Value)(w:World)(hi:i<l.length)(hrow:w.heap[g]?=some (.cells cur 191 (0,0)))(hnc:l.length<=c)(hcm:c<=maxLen)(hcs:cur.size=c*5)(htake:cur.toList.take (l.length*5)=l.flatMap Ms.row):
  ∃xs:List Value,xs.take ((l.length-1)*5)=(l.eraseIdx i).flatMap Ms.row/\(w.setRow g (cur.toList.take (i*5)++(l.drop (i+1)).flatMap Ms.row++cur.toList.drop (i*5+((l.drop (i+1)).flatMap Ms.row).length)).toArray).ownsRow 0 191 5 (.slice (some ⟨g,0,none⟩) l.length c) l.length xs:=by
 have hln:((l.drop (i+1)).flatMap Ms.row).length=(l.length-(i+1))*5:=by rw[flat_len Ms.row 5 (fun _=>rfl),List.length_drop]
 have hcl:cur.toList.length=c*5:=by simpa using hcs
 have ht1:cur.toList.take (i*5)=(l.take i).flatMap Ms.row:=by
  have h1:=congrArg (List.take (i*5)) htake;rw[List.take_take,Nat.min_eq_left (by omega),flat_take Ms.row 5 (fun _=>rfl) l i (by omega)]at h1;exact h1
 have htl:(cur.toList.take (i*5)++(l.drop (i+1)).flatMap Ms.row).length=(l.length-1)*5:=by
  rw[List.length_append,hln,List.length_take,hcl];omega
 have hnl:(cur.toList.take (i*5)++(l.drop (i+1)).flatMap Ms.row++cur.toList.drop (i*5+((l.drop (i+1)).flatMap Ms.row).length)).length=c*5:=by
  rw[List.length_append,htl,List.length_drop,hln,hcl];omega
 refine⟨(cur.toList.take (i*5)++(l.drop (i+1)).flatMap Ms.row++cur.toList.drop (i*5+((l.drop (i+1)).flatMap Ms.row).length)).take (l.length*5),?_,?_,.inr ⟨g,c,_,rfl,Nat.zero_le _,setRow_heap w g cur _ 191 _ hrow,hnc,hcm,?_,?_⟩⟩
 ·rw[List.take_take,Nat.min_eq_left (by omega),List.take_append_of_le_length (by omega),List.take_of_length_le (by omega),ht1,<-List.flatMap_append,List.eraseIdx_eq_take_drop_succ]
 ·rw[List.length_take,hnl];omega
 ·rw[List.size_toArray,hnl]
 ·rfl
theorem erase_len (l:List Ms)(i:Nat)(hi:i<l.length):(l.eraseIdx i).length=l.length-1:=List.length_eraseIdx_of_lt hi
theorem delOne_any (l:List Ms)(g c i:Nat)(w:World)(ho:w.ownsRow 0 191 5 (.slice (some ⟨g,0,none⟩) l.length c) l.length (l.flatMap Ms.row))(hi:i<l.length)(hl:l.length<=1000):
  Calls Tryz.prog 183 #[.slice (some ⟨g,0,none⟩) l.length c,.int .i64 (i:Int),.int .i64 ((i:Int)+1)] w fun e w'=>e=.returned (.slice (some ⟨g,0,none⟩) (l.length-1) c)/\w'.ownsRow 0 191 5 (.slice (some ⟨g,0,none⟩) (l.length-1) c) (l.eraseIdx i).length ((l.eraseIdx i).flatMap Ms.row)/\Tch [g] w w':=by
 obtain⟨cur,hrow,hnc,hcm,hcs,htake⟩:∃cur:Array Value,w.heap[g]?=some (.cells cur 191 (0,0))/\l.length<=c/\c<=maxLen/\cur.size=c*5/\cur.toList.take (l.length*5)=l.flatMap Ms.row:=by
  rcases ho.2 with ⟨h',_⟩|⟨g',cap',cur,h',hb,hg,hnc,hcm,hcs,htake⟩
  ·simp at h'
  ·simp only[Value.slice.injEq,Option.some.injEq,Addr.mk.injEq,and_true,true_and]at h';obtain⟨rfl,rfl⟩:=h';exact⟨cur,hg,hnc,hcm,hcs,htake⟩
 have hcm':c<=9223372036854775807:=by unfold maxLen at hcm;omega
 have HNW:Hid (∀j u,((l.drop (i+1)).flatMap Ms.row)[j]?=some u->w.cell? ((⟨g,(i+1)*5,none⟩:Addr).add j)=some u):=fun j u hj=>by
  have hj2:(l.flatMap Ms.row)[(i+1)*5+j]?=some u:=by
   have e1:=congrArg (fun z=>z.flatMap Ms.row) (List.take_append_drop (i+1) l);simp only[List.flatMap_append]at e1;have e2:((l.take (i+1)).flatMap Ms.row).length=(i+1)*5:=by rw[flat_len Ms.row 5 (fun _=>rfl),List.length_take];omega
   rw[<-e1,List.getElem?_append_right (by omega),e2,Nat.add_sub_cancel_left];exact hj
  have h1:=World.ownsRow.cells ho (g:=g) rfl ((i+1)*5+j) u hj2;have e3:(⟨g,0,none⟩:Addr).add ((i+1)*5+j)=(⟨g,(i+1)*5,none⟩:Addr).add j:=by unfold Addr.add;split<;>split<;>simp_all
  rw[e3]at h1;exact h1
 have HLN:Hid (((l.drop (i+1)).flatMap Ms.row).length=(l.length-(i+1))*5):=by
  show _=_
  rw[flat_len Ms.row 5 (fun _=>rfl),List.length_drop]
 have HON:Hid (∀u∈(l.drop (i+1)).flatMap Ms.row,u.oneCell'=true):=fun u hu=>by
  obtain⟨m,_,hm⟩:=List.mem_flatMap.1 hu;simp[Ms.row]at hm;rcases hm with rfl|rfl|rfl|rfl|rfl<;>rfl
 have HFIT:Hid (i*5+((l.drop (i+1)).flatMap Ms.row).length<=cur.size):=by
  show _<=_
  rw[HLN.out,hcs];omega
 obtain⟨news,HNE⟩:∃news,Hid (news=(l.drop (i+1)).flatMap Ms.row):=⟨_,rfl⟩;rw[<-HNE.out]at HNW HLN HON HFIT;go_enter Tryz.func183,Tryz.ntmps183;go_wp2_with fail;have hic:i<=c:=by omega
 have hi2:i+1<=c:=by omega
 have hz1:(0:Int)<=(i:Int)+1:=by omega
 have hz2:(i:Int)+1<=(l.length:Int):=by omega
 have hz3:(i:Int)<=(i:Int)+1:=by omega
 have HRW:=zH hrow;obtain⟨xs,hxs,hox⟩:=own_shift l g c i cur w.drew hi hrow hnc hcm hcs htake;rw[<-HNE.out]at hox;have HOX:=zH hox;have HT2:Hid (Tch [g] w (w.drew.setRow g (cur.toList.take (i*5)++news++cur.toList.drop (i*5+news.length)).toArray)):=(Tch.refl _ _).drew.setRow (fun _=>by simp) _;clear hox;generalize hW2:w.drew.setRow g (cur.toList.take (i*5)++news++cur.toList.drop (i*5+news.length)).toArray=w2 at*
 have hxl:=HOX.out.1;have hclr:=run_clearM w2 0 g (l.length-1) (l.length-(l.length-1)) (c-(l.length-1)) (fun j hj=>by
  have h1:(l.length-1)*5+j<xs.length:=by omega
  have h2:=World.ownsRow.cells HOX.out (g:=g) rfl ((l.length-1)*5+j) _ (List.getElem?_eq_getElem h1);have e:(⟨g,0,none⟩:Addr).add ((l.length-1)*5+j)=⟨g,(l.length-1)*5+j,none⟩:=by unfold Addr.add;split<;>simp_all
  rw[e]at h2;rw[h2];rfl) (fun j=>World.ownsRow.frozenAt HOX.out j) (by omega)
 have HF:Hid ((w2.setCells g ((l.length-1)*5) (Builtin.zeroCells #[.int .i64 0,.string ⟨#[]⟩,.string ⟨#[]⟩,.int .i64 0,.int .i64 0] (l.length-(l.length-1))).toList).ownsRow 0 191 5 (.slice (some ⟨g,0,none⟩) (l.length-1) c) (l.eraseIdx i).length ((l.eraseIdx i).flatMap Ms.row)/\Tch [g] w (w2.setCells g ((l.length-1)*5) (Builtin.zeroCells #[.int .i64 0,.string ⟨#[]⟩,.string ⟨#[]⟩,.int .i64 0,.int .i64 0] (l.length-(l.length-1))).toList)):=by
  refine⟨?_,HT2.out.trans (tch_setCells g _ _ _) (fun _ h _=>h)⟩;have h1:=own_cut (own_setCells (Builtin.zeroCells #[.int .i64 0,.string ⟨#[]⟩,.string ⟨#[]⟩,.int .i64 0,.int .i64 0] (l.length-(l.length-1))).toList ((l.length-1)*5) w2 _ HOX.out) (n':=l.length-1) (by omega);rw[putMany_take _ _ _ _ (Nat.le_refl _),hxs]at h1;rw[erase_len l i hi];exact h1
 generalize w2.setCells g ((l.length-1)*5) (Builtin.zeroCells #[.int .i64 0,.string ⟨#[]⟩,.string ⟨#[]⟩,.int .i64 0,.int .i64 0] (l.length-(l.length-1))).toList=w3 at*
 have el:i+(l.length-(i+1))=l.length-1:=by omega
 have hne2:¬(c=l.length-1):=by omega
 clear hxs hxl HT2 HNE
 by_cases hcc:c=i+1
 ·have hne:news=[]:=List.length_eq_zero_iff.1 (by rw[HLN.out];omega);subst hcc
  go_region_law (refine step_room rfl (.tmp 22) (.tmp 25) 133 191 rfl Tryz.underlying133 _ 5 56 info214 g i (i+1) cur HRW.out ⟨g,0,none⟩ (l.length-(i+1)) ((i+1)-(i+1)) news HLN.out (by rw[hne];intro j u hj;simp at hj) HON.out (by omega) HFIT.out (by simp[Act.eval,Act.put]) (by simp[Act.eval,Act.put];omega) ?_;rw[hW2,el])
  all_goals (clear hW2 el HFIT HON HLN HNW HRW hz1 hz2 hz3 htake hrow hne;go_wp2_with fail;go_ret;exact⟨rfl,HF.out.1,HF.out.2⟩)
 ·have hcc':=hcc
  go_region_law (refine step_room rfl (.tmp 22) (.tmp 25) 133 191 rfl Tryz.underlying133 _ 5 56 info214 g i c cur HRW.out ⟨g,(i+1)*5,none⟩ (l.length-(i+1)) (c-(i+1)) news HLN.out HNW.out HON.out (by omega) HFIT.out (by simp[Act.eval,Act.put]) (by simp[Act.eval,Act.put]) ?_;rw[hW2,el])
  all_goals (clear hW2 el HFIT HON HLN HNW HRW hz1 hz2 hz3 htake hrow hcc';go_wp2_with fail;go_ret;exact⟨rfl,HF.out.1,HF.out.2⟩)
theorem own_sep {b1 b2 s1 s2 n1 n2:Nat}{t1 t2:TypeId}{v1 v2:Value}{x1 x2:List Value}(h1:w.ownsRow b1 t1 s1 v1 n1 x1)(h2:w.ownsRow b2 t2 s2 v2 n2 x2)(hne:t2≠t1):∀k,v1.ownBlock=some k->k∉bl v2:=fun k hk hm=>by
 obtain⟨C,hC⟩:∃C,w.heap[k]?=some (.cells C t1 (0,0)):=by
  rcases h1.2 with ⟨h0,_⟩|⟨g',cap',cur',h0,_,hg',_⟩
  ·rw[h0]at hk;simp[Value.ownBlock]at hk
  ·rw[h0]at hk;simp only[Value.ownBlock,Option.some.injEq]at hk;subst hk;exact⟨_,hg'⟩
 exact own_ne h2 hC hne (mem_bl.1 hm)
theorem QR.nq {Q:QM}(h:QR w qb V Q):qb∉bl V.m/\qb∉bl V.r/\qb∉bl V.d/\qb∉bl V.a:=
 ⟨fun e=>own_ne h.m h.blk (by decide) (mem_bl.1 e),fun e=>own_ne h.r h.blk (by decide) (mem_bl.1 e),fun e=>own_ne h.d h.blk (by decide) (mem_bl.1 e),fun e=>own_ne h.a h.blk (by decide) (mem_bl.1 e)⟩
structure QS (w w':World)(qb:Nat)(V V':QV)(Q':QM):Prop where
 qr:QR w' qb V' Q'
 tch:Tch (qbl qb V) w w'
 new:∀b∈qbl qb V',b∈qbl qb V\/w.heap.size<=b
theorem QS.ql {V':QV}{Q':QM}(h:QS w w' qb V V' Q'):QL w w' qb V Q':=⟨V',h.qr,h.tch,h.new⟩
theorem QS.trans {a b c:World}{V1 V2:QV}{Q1 Q2:QM}(h1:QS a b qb V V1 Q1)(h2:QS b c qb V1 V2 Q2):QS a c qb V V2 Q2:=
 ⟨h2.qr,h1.tch.trans h2.tch (fun x hx hlt=>by
  rcases h1.new x hx with h|h
  ·exact h
  ·omega),fun k hk=>by
  rcases h2.new k hk with h|h
  ·exact h1.new k h
  ·exact .inr (Nat.le_trans h1.tch.size h)⟩
theorem QR.qs {Q:QM}(h:QR w qb V Q)(ht:Tch [] w w'):QS w w' qb V V Q:=⟨h.tch ht (by simp),ht.sub (by simp),fun _ h=>.inl h⟩
theorem QR.newM {Q:QM}(h:QR w qb V Q){v':Value}{ms':List Ms}(ht:Tch (bl V.m) w w2)(ho:w2.ownsRow 0 191 5 v' ms'.length (ms'.flatMap Ms.row))(hN:∀k,v'.ownBlock=some k->V.m.ownBlock=some k\/w.heap.size<=k):
  w2.cell? ⟨qb,7,none⟩=some V.m/\w2.frozen? ⟨qb,7,none⟩=false/\QS w (w2.setCell ⟨qb,7,none⟩ v') qb V {V with m:=v'} {Q with ms:=ms'}:=by
 have hb:Qb w2 qb Q.c (Q.next:Int) V.m V.r V.d V.a:=(ht.block _ h.blk.lt h.nq.1).trans h.blk;have t3:Tch [qb] w2 (w2.setCell ⟨qb,7,none⟩ v'):=(Tch.refl _ _).setCell (fun _=>by simp) _;have hr:=own_tch h.r ht (own_sep h.r h.m (by decide));have hd:=own_tch h.d ht (own_sep h.d h.m (by decide));have ha:=own_tch h.a ht (own_sep h.a h.m (by decide));have nq:∀{t s n:Nat} {v:Value} {xs:List Value},w2.ownsRow 0 t s v n xs->t≠137->∀k,v.ownBlock=some k->k∉[qb]:=fun hv hne k hk hm=>by
  simp at hm;subst hm;exact own_ne hv hb hne hk
 have hq:QR (w2.setCell ⟨qb,7,none⟩ v') qb {V with m:=v'} {Q with ms:=ms'}:=⟨hb.set7 v',own_tch ho t3 (nq ho (by decide)),own_tch hr t3 (nq hr (by decide)),own_tch hd t3 (nq hd (by decide)),own_tch ha t3 (nq ha (by decide))⟩;refine⟨cell_qC hb 7 _ rfl,hb.fz 7,hq,(ht.sub (fun x hx _=>?_)).trans t3 (fun x hx _=>?_),fun b hb'=>?_⟩
 ·exact mem_qbl.2 (.inr (.inl (mem_bl.1 hx)))
 ·simp at hx;exact mem_qbl.2 (.inl hx)
 ·rcases mem_qbl.1 hb' with e|e|e|e|e
  ·exact .inl (mem_qbl.2 (.inl e))
  ·exact(hN b e).imp (fun h=>mem_qbl.2 (.inr (.inl h))) id
  ·exact .inl (mem_qbl.2 (.inr (.inr (.inl e))))
  ·exact .inl (mem_qbl.2 (.inr (.inr (.inr (.inl e)))))
  ·exact .inl (mem_qbl.2 (.inr (.inr (.inr (.inr e)))))
theorem QR.newR {Q:QM}(h:QR w qb V Q){v':Value}{rs':List ByteArray}(ht:Tch (bl V.r) w w2)(ho:w2.ownsRow 0 9 1 v' rs'.length (rs'.map Value.string))(hN:∀k,v'.ownBlock=some k->V.r.ownBlock=some k\/w.heap.size<=k):
  w2.cell? ⟨qb,8,none⟩=some V.r/\w2.frozen? ⟨qb,8,none⟩=false/\QS w (w2.setCell ⟨qb,8,none⟩ v') qb V {V with r:=v'} {Q with rs:=rs'}:=by
 have hb:Qb w2 qb Q.c (Q.next:Int) V.m V.r V.d V.a:=(ht.block _ h.blk.lt h.nq.2.1).trans h.blk;have t3:Tch [qb] w2 (w2.setCell ⟨qb,8,none⟩ v'):=(Tch.refl _ _).setCell (fun _=>by simp) _;have hm:=own_tch h.m ht (own_sep h.m h.r (by decide));have hd:=own_tch h.d ht (own_sep h.d h.r (by decide));have ha:=own_tch h.a ht (own_sep h.a h.r (by decide));have nq:∀{t s n:Nat} {v:Value} {xs:List Value},w2.ownsRow 0 t s v n xs->t≠137->∀k,v.ownBlock=some k->k∉[qb]:=fun hv hne k hk hm=>by
  simp at hm;subst hm;exact own_ne hv hb hne hk
 have hq:QR (w2.setCell ⟨qb,8,none⟩ v') qb {V with r:=v'} {Q with rs:=rs'}:=⟨hb.set8 v',own_tch hm t3 (nq hm (by decide)),own_tch ho t3 (nq ho (by decide)),own_tch hd t3 (nq hd (by decide)),own_tch ha t3 (nq ha (by decide))⟩;refine⟨cell_qC hb 8 _ rfl,hb.fz 8,hq,(ht.sub (fun x hx _=>?_)).trans t3 (fun x hx _=>?_),fun b hb'=>?_⟩
 ·exact mem_qbl.2 (.inr (.inr (.inl (mem_bl.1 hx))))
 ·simp at hx;exact mem_qbl.2 (.inl hx)
 ·rcases mem_qbl.1 hb' with e|e|e|e|e
  ·exact .inl (mem_qbl.2 (.inl e))
  ·exact .inl (mem_qbl.2 (.inr (.inl e)))
  ·exact(hN b e).imp (fun h=>mem_qbl.2 (.inr (.inr (.inl h)))) id
  ·exact .inl (mem_qbl.2 (.inr (.inr (.inr (.inl e)))))
  ·exact .inl (mem_qbl.2 (.inr (.inr (.inr (.inr e)))))
def dropQ (Q:QM)(num:Int):QM:=match Q.ms.find? (isN num) with
 | some m=>{Q with ms:=Q.ms.eraseIdx (idxL (isN num) Q.ms).toNat,rs:=if idxL (isG m.grp) (Q.ms.eraseIdx (idxL (isN num) Q.ms).toNat)<0 then Q.rs else Q.rs++[m.grp]}
 | none=>Q
theorem drop_any (Q:QM)(V:QV)(qb:Nat)(num:Int)(w:World)(h:QR w qb V Q)(hl:Q.ms.length<=1000)(hr:Q.rs.length<=1000)(hn:0<=idxL (isN num) Q.ms):
  Calls Tryz.prog 149 #[.pointer (some ⟨qb,0,none⟩),.int .i64 num] w fun e w'=>e=.returned (.tuple #[])/\QL w w' qb V (dropQ Q num):=by
 obtain⟨i,hi⟩:∃i:Nat,idxL (isN num) Q.ms=(i:Int):=⟨_,(Int.toNat_of_nonneg hn).symm⟩;obtain⟨hil,hp,hfi⟩:=idxL_fnd _ _ i hi;have hdq:dropQ Q num={Q with ms:=Q.ms.eraseIdx i,rs:=if idxL (isG Q.ms[i].grp) (Q.ms.eraseIdx i)<0 then Q.rs else Q.rs++[Q.ms[i].grp]}:=by
  unfold dropQ;rw[hfi,hi];rfl
 generalize dropQ Q num=QD at*
 have HDQ:=zH hdq;have HF:Hid (zB 182 #[.pointer (some ⟨qb,0,none⟩),.int .i64 num] w (.int .i64 (i:Int))):=by
  have h1:=find_gen num qb V.m Q.ms w (cell_qC h.blk 7 _ rfl) h.m (by omega);rw[hi]at h1;exact h1
 have HQ:=zH h;clear h hn hi hfi hp hdq;go_enter Tryz.func149,Tryz.ntmps149;go_wp2_with fail;refine HF.out.mono ?_;rintro e w1 ⟨rfl,hb1⟩;have t1:=Tch.of_below hb1;have hq1:=HQ.out.tch t1 (by simp);obtain⟨g,c,hv,hg,hc⟩:=hq1.msc i hil;have d1:w1.cell? ⟨g,i*5+1,none⟩=some (.string Q.ms[i].grp):=hc 1 _ rfl;have c7:w1.cell? ⟨qb,7,none⟩=some (.slice (some ⟨g,0,none⟩) Q.ms.length c):=by rw[<-hv];exact cell_qC hq1.blk 7 _ rfl
 have HDL:=zH (delOne_any Q.ms g c i w1 (by have:=hq1.m;rw[hv]at this;exact this) hil hl);have HQ1:=zH hq1;have T1:=zH t1;have HV:=zH hv;generalize hgr:Q.ms[i].grp=gr at*
 have HQ0:=zH HQ;clear hb1 t1 hq1 hc hv HF HQ;go_wp2_with fail;refine HDL.out.mono ?_;rintro e w2 ⟨rfl,ho2,ht2⟩;have hN:=HQ1.out.newM (v':=.slice (some ⟨g,0,none⟩) (Q.ms.length-1) c) (ms':=Q.ms.eraseIdx i) (by rw[HV.out];exact ht2.sub (fun x hx _=>by simp at hx;simp[bl,Value.ownBlock,hx])) ho2 (fun k hk=>.inl (by rw[HV.out];exact hk));obtain⟨k7,z7,hqs⟩:=hN;rw[HV.out]at k7;have HQL:=zH ((HQ0.out.qs T1.out).trans hqs);have hq3:=hqs.qr;have HQ3:=zH hq3;have el:=erase_len Q.ms i hil;have HH:Hid (Calls Tryz.prog 163 #[.pointer (some ⟨qb,0,none⟩),.string gr] (w2.setCell ⟨qb,7,none⟩ (.slice (some ⟨g,0,none⟩) (Q.ms.length-1) c)) _):=head_gen gr qb _ (Q.ms.eraseIdx i) _ (cell_qC hq3.blk 7 _ rfl) hq3.m (by omega);clear ho2 ht2 hqs hq3 HDL d1 c7;go_wp2_with fail;generalize hW3:w2.setCell ⟨qb,7,none⟩ (.slice (some ⟨g,0,none⟩) (Q.ms.length-1) c)=w3 at*
 refine HH.out.mono ?_;rintro e w4 ⟨rfl,hb4⟩;have t4:=Tch.of_below hb4;have hq4:=HQ3.out.tch t4 (by simp)
 by_cases hz:idxL (isG gr) (Q.ms.eraseIdx i)<0
 ·have HFN:Hid (QL w w4 qb V QD):=by
   show QL _ _ _ _ _
   rw[HDQ.out,if_pos hz];exact(HQL.out.trans (HQ3.out.qs t4)).ql
  generalize idxL (isG gr) (Q.ms.eraseIdx i)=z at*
  clear hW3 k7 z7 HH hb4 t4 hq4;go_wp2_with fail;go_end0;exact⟨rfl,HFN.out⟩
 ·have q8:w4.cell? ⟨qb,8,none⟩=some V.r:=cell_qC hq4.blk 8 _ rfl;have HQ4:=zH hq4;have HZ:Hid ((if idxL (isG gr) (Q.ms.eraseIdx i)<0 then Q.rs else Q.rs++[gr])=Q.rs++[gr]):=if_neg hz;have T4:=zH t4;generalize hzz:idxL (isG gr) (Q.ms.eraseIdx i)=z at hz;have hz2:0<=z:=by omega
  clear hW3 k7 z7 HH hb4 t4 hq4;go_wp2_with (at_builtin;refine wpList_vals _ rfl _ _ 22 9 rfl Tryz.underlying22 (.string ⟨#[]⟩) 1 16 info9 rfl (by decide) (by decide) V.r Q.rs.length (Q.rs.map Value.string) ?hs ?own w4.heap.size [.string gr] 1 ?hx rfl (by decide) ?hg ?one (by omega) ?kk)
  case hs=>simp[Act.eval,Act.put]
  case own=>exact own_tch HQ4.out.r ((Tch.refl [] _).alloc _) (fun _ _=>by simp)
  case hx=>simp[Act.eval,Act.put]
  case hg=>exact heap_alloc_new _ _
  case one=>intro u hu;simp at hu;subst hu;rfl
  intro v5 w5 ho5 hg5 hb5;have hN5:=HQ4.out.newR (w2:=w5) (v':=v5) (rs':=Q.rs++[gr]) ((((Tch.refl [] w4).alloc _).sub (by simp)).trans (grown_tch hg5) (fun x hx _=>hx)) (by simpa using ho5) (fun k hk=>by
   rcases hb5 with h|h
   ·exact .inl (h.symm.trans hk)
   ·rw[hk]at h;injection h with h;exact .inr (by omega))
  obtain⟨k8,z8,hqs5⟩:=hN5;have HFN:Hid (QL w (w5.setCell ⟨qb,8,none⟩ v5) qb V QD):=by
   show QL _ _ _ _ _
   rw[HDQ.out,HZ.out];exact((HQL.out.trans (HQ3.out.qs T4.out)).trans hqs5).ql
  obtain⟨g5,cap5,hv5⟩:=own_some ho5;clear ho5 hg5 hb5 hqs5;subst hv5;go_wp2_with fail;go_end0;exact⟨rfl,HFN.out⟩
end Go.Proofs.YtbdobaapadlcjabGreatDoor
