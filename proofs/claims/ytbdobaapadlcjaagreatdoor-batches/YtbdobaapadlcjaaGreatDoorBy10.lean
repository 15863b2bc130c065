import Derived.Test.YtbdobaapadlcjaaGreatDoorBy09
set_option maxRecDepth 8000
set_option maxHeartbeats 4000000
set_option linter.unusedVariables false
set_option linter.unusedSimpArgs false
namespace Go.Proofs.YtbdobaapadlcjaaGreatDoor
open Go.Shelf Go.RowKit Go.Lib
theorem a3L (gr:ByteArray)(B:Nat)(w:World)(hB:B<w.heap.size)(hcell:w.cell? ⟨B,0,none⟩=some (.string gr)):
  PredBelow Tryz.prog 292 #[zp B] (fun x:Ms=>.agg x.row.toArray) (isG gr) w:=fun W x hb=>by
 have hc:=(hb.cell (p:=⟨B,0,none⟩) hB).trans hcell;have hBW:B<W.heap.size:=Nat.lt_of_lt_of_le hB hb.size
 show Cp 292 #[.agg #[.int .i64 x.num,.string x.grp,.string x.bod,.int .i64 x.rcv,.int .i64 x.til],zp B] W _
 go_enter Tryz.func292,Tryz.ntmps292
 go_wp2
 all_goals (go_ret;exact⟨by simp_all,hb.alloc hb.size _⟩)
theorem b8t:∀args w,(callFunc 292 args).run Tryz.prog w=.ok (.enter 292 args) w:=enters_of Tryz.func292 (by kernel_rfl) rfl
theorem b1q (v:Value)(l:List Ms)(gr:ByteArray)(B:Nat)(w:World)(ho:w.ownsRow 0 226 5 v l.length (l.flatMap Ms.row))(hl:l.length<=1000000)(hB:B<w.heap.size)(hcell:w.cell? ⟨B,0,none⟩=some (.string gr)):
  zB 264 #[v,.func (.func 292) #[] #[zp B]] w (.int .i64 (jj (isG gr) l)):=by
 have inh:Inhabited Ms:=⟨⟨0,⟨#[]⟩,⟨#[]⟩,0,0⟩⟩;rcases ho.2 with ⟨rfl,h0⟩|⟨gd,cap,cur,rfl,_,hg,_⟩
 ·have e0:l=[]:=List.length_eq_zero_iff.1 h0;subst e0;refine(a0f none 0 _ w).mono ?_;rintro e w' ⟨rfl,rfl⟩;exact⟨rfl,Below.refl _ _⟩
 ·have h:=AnyQ.slices_IndexFunc b6Z 5 Tryz.isAgg226 Tryz.sizeOf226 Ms.row (fun _=>rfl) (isG gr) 292 #[zp B] b8t gd 0 l.length cap l w (a3L gr B w hB hcell) (Nat.le_refl _) (by omega) (lt_of_block hg) (fun j hj i v hi=>jF Ms.row 5 (fun _=>rfl) ho j hj i v hi);rw[List.take_length,xH]at h;exact h
theorem b9r (w:World):(zeroValue 226).run Tryz.prog w=.ok (.agg #[.int .i64 0,.string ⟨#[]⟩,.string ⟨#[]⟩,.int .i64 0,.int .i64 0]) w:=by kernel_rfl
theorem a3q (w:World)(ty:TypeId)(g k m cd:Nat)(hc:∀j,j<m*5->(w.cell? ⟨g,k*5+j,none⟩).isSome=true)(hf:∀j,w.frozen? ⟨g,j,none⟩=false)(hm:0<m):
  (Builtin.clear_ #[187] ty #[.slice (some ⟨g,k*5,none⟩) m cd]).run Tryz.prog w=.ok (.tuple #[]) (w.setCells g (k*5) (Builtin.zeroCells #[.int .i64 0,.string ⟨#[]⟩,.string ⟨#[]⟩,.int .i64 0,.int .i64 0] m).toList):=by
 obtain⟨m',rfl⟩:∃m',m=m'+1:=⟨m-1,by omega⟩;have hst:=run_storeCells_cells (P:=Tryz.prog) g (k*5) (Builtin.zeroCells #[.int .i64 0,.string ⟨#[]⟩,.string ⟨#[]⟩,.int .i64 0,.int .i64 0] (m'+1)).toList 0 w (fun j hj=>by
  rw[Nat.add_zero];exact hc j (by simpa [size_zeroCells]using hj)) (fun j hj=>hf _) (fun v hv=>by
  have hv':=Array.mem_toList_iff.1 hv;unfold Builtin.zeroCells at hv';obtain⟨i,hi,rfl⟩:=Array.mem_map.1 hv';have h3:i % 5=0\/i % 5=1\/i % 5=2\/i % 5=3\/i % 5=4:=by omega
  show Value.oneCell' (#[.int .i64 0,.string ⟨#[]⟩,.string ⟨#[]⟩,.int .i64 0,.int .i64 0][i % 5]!)=true
  rcases h3 with h|h|h|h|h<;>rw[h]<;>rfl)
 have hz:(Value.agg #[.int .i64 0,.string ⟨#[]⟩,.string ⟨#[]⟩,.int .i64 0,.int .i64 0]).cells=#[.int .i64 0,.string ⟨#[]⟩,.string ⟨#[]⟩,.int .i64 0,.int .i64 0]:=rfl;simp only[Nat.add_zero]at hst;simp[Builtin.clear_,run_underlying Tryz.underlying187,b9r,hz,hst]
theorem b0J (v:Value)(l:List Ms)(gr:ByteArray)(B:Nat)(w:World)(ho:w.ownsRow 0 226 5 v l.length (l.flatMap Ms.row))(hl:l.length<=1000000)(hB:w.heap[B]?=some (.cells #[.string gr] 9 (0,0))):
  Cp 291 #[v,.func (.func 292) #[] #[zp B]] w fun e w'=>∃v',e=.returned v'/\v'.ownBlock=v.ownBlock/\w'.ownsRow 0 226 5 v' (l.filter (fun x=>!isG gr x)).length ((l.filter (fun x=>!isG gr x)).flatMap Ms.row)/\Tch (bl v) w w':=by
 have inh:Inhabited Ms:=⟨⟨0,⟨#[]⟩,⟨#[]⟩,0,0⟩⟩;have hBl:=lt_of_block hB;have HB:=zH hB;have HI:Hid (Cp 264 _ w _):=b1q v l gr B w ho hl hBl (cell_of_one hB)
 by_cases hneg:jj (isG gr) l<0
 ·have hm1:jj (isG gr) l=-1:=by have:=xv (isG gr) l;omega
  rw[hm1]at HI;rw[a1B _ _ hneg];have HO:=zH ho;clear hB ho hm1 hneg;go_enter Tryz.func291,Tryz.ntmps291;go_wp2_with (go_at_call 264;refine HI.out.mono ?_;rintro e w' ⟨rfl,hb⟩);go_ret;exact⟨v,rfl,rfl,jf HO.out (Tch.of_below (by assumption)) (fun _ _=>by simp),(Tch.of_below (by assumption)).sub (by simp)⟩
 ·obtain⟨i0,hi0⟩:∃i:Nat,jj (isG gr) l=(i:Int):=⟨_,(Int.toNat_of_nonneg (by omega)).symm⟩;have hdl:=zC _ l i0 hi0;rw[hi0]at HI;obtain⟨gd,cd,rfl⟩:∃g c,v=.slice (some ⟨g,0,none⟩) l.length c:=by
   rcases ho.2 with ⟨_,h0⟩|⟨g,cap,cur,h0,_⟩
   ·have:=hdl.jn;omega
   ·exact⟨g,cap,h0⟩
  have hcap:l.length<=cd:=by
   rcases ho.2 with ⟨h',_⟩|⟨g',cap',cur,h',_,_,hnc,_⟩
   ·simp at h'
   ·simp at h';omega
  have hBg:B≠gd:=fun e=>by
   rw[e]at hB;exact jA ho hB (by decide) rfl
  have HO:=zH ho;have HD:Hid (Dl (isG gr) l l i0 (i0+1)):=hdl;have hi1:i0<l.length:=by have:=hdl.jn;omega
  have hne1:((i0:Int) == -1)=false:=beq_eq_false_iff_ne.2 (by omega);clear hB ho hi0 hneg hdl;go_enter Tryz.func291,Tryz.ntmps291;go_wp2_with (go_at_call 264;refine HI.out.mono ?_;rintro e w' ⟨rfl,hb⟩;have T0:Hid (Tch [gd] w w'):=(Tch.of_below hb).sub (by simp);have O0:Hid (w'.ownsRow 0 226 5 (.slice (some ⟨gd,0,none⟩) l.length cd) l.length (l.flatMap Ms.row)):=jf HO.out (Tch.of_below hb) (fun _ _=>by simp);clear hb HI)
  go_loopw [5,6] (fun iv jv wr=>∃(k j:Nat) (L:List Ms),iv=.int .i64 (k:Int)/\jv=.int .i64 (j:Int)/\Dl (isG gr) l L k j/\wr.ownsRow 0 226 5 (.slice (some ⟨gd,0,none⟩) l.length cd) L.length (L.flatMap Ms.row)/\Tch [gd] w wr) (fun _ jv _=>l.length-(intOf jv).toNat)
  case atStart=>exact⟨i0,i0+1,l,rfl,by go_num,HD.out,O0.out,T0.out⟩
  case round=>
   obtain⟨k,j,L,rfl,rfl,hd,hor,htr⟩:=hrel;have hkj:=hd.kj;have hjn:=hd.jn;have hll:=hd.len;have HOR:Hid (wr.ownsRow 0 226 5 (.slice (some ⟨gd,0,none⟩) l.length cd) L.length (L.flatMap Ms.row)):=hor;have HTR:Hid (Tch [gd] w wr):=htr;have HDL:Hid (Dl (isG gr) l L k j):=hd
   by_cases hlt:j<l.length
   ·obtain⟨x,hx⟩:∃x,l[j]?=some x:=⟨_,List.getElem?_eq_getElem hlt⟩;have hLx:L[j]?=some x:=(hd.get hlt).trans hx;have hjL:j<L.length:=by omega
    have fm:∀i v,x.row[i]?=some v->wr.cell? ⟨gd,j*5+i,none⟩=some v:=fun i v hi=>by
     have h1:=jF Ms.row 5 (fun _=>rfl) hor j hjL i v (by rw[List.getElem!_eq_getElem?_getD,hLx];exact hi);simpa using h1
    have g0:wr.cell? ⟨gd,j*5,none⟩=some (.int .i64 x.num):=fm 0 _ rfl;have g1:wr.cell? ⟨gd,j*5+1,none⟩=some (.string x.grp):=fm 1 _ rfl;have g2:wr.cell? ⟨gd,j*5+2,none⟩=some (.string x.bod):=fm 2 _ rfl;have g3:wr.cell? ⟨gd,j*5+3,none⟩=some (.int .i64 x.rcv):=fm 3 _ rfl;have g4:wr.cell? ⟨gd,j*5+4,none⟩=some (.int .i64 x.til):=fm 4 _ rfl;have HP:Hid (∀W,Tch [] wr W->zB 292 #[.agg #[(.int .i64 x.num),(.string x.grp),(.string x.bod),(.int .i64 x.rcv),(.int .i64 x.til)],zp B] W (.bool (isG gr x))):=fun W hW=>by
     have hBW:W.heap[B]?=some (.cells #[.string gr] 9 (0,0)):=(hW.block _ (Nat.lt_of_lt_of_le hBl HTR.out.size) (by simp)).trans ((HTR.out.block _ hBl (by simpa using hBg)).trans HB.out);exact a3L gr B W (lt_of_block hBW) (cell_of_one hBW) W x (Below.refl _ _)
    clear hd hor htr fm hLx;have HP1:Hid (Cp 292 #[.agg #[(.int .i64 x.num),(.string x.grp),(.string x.bod),(.int .i64 x.rcv),(.int .i64 x.til)],zp B] (wr.alloc (.cells #[(.int .i64 x.num),(.string x.grp),(.string x.bod),(.int .i64 x.rcv),(.int .i64 x.til)] 226)) fun e w'=>e=.returned (.bool (isG gr x))/\Tch [] wr w'/\w'.heap[wr.heap.size]?=some (.cells #[(.int .i64 x.num),(.string x.grp),(.string x.bod),(.int .i64 x.rcv),(.int .i64 x.til)] 226 (0,0))):=(HP.out _ ((Tch.refl _ _).alloc _)).mono (by
     rintro e w' ⟨he,hb⟩;exact⟨he,((Tch.refl [] wr).alloc _).trans (Tch.of_below hb) (by simp),(hb.block _ (by simp)).trans (heap_alloc_new _ _)⟩)
    clear HP
    by_cases hp:isG gr x=true
    ·have hdec:isG gr x=true:=by simpa using hp
     rw[hdec]at HP1;have HPX:Hid (isG gr x=true):=hdec;clear hp hdec;go_wp2_with fail;refine HP1.out.mono ?_;rintro e w1 ⟨rfl,ht1,hc1⟩;have HR:Hid (w1.ownsRow 0 226 5 (.slice (some ⟨gd,0,none⟩) l.length cd) L.length (L.flatMap Ms.row)/\Tch [gd] w w1):=⟨jf HOR.out ht1 (fun _ _=>by simp),HTR.out.trans ht1 (by simp)⟩;clear ht1 hc1 g0 g1 g2 g3 g4 HP1;go_wp2_with fail;go_roundw
     case rel=>exact⟨k,j+1,L,rfl,by go_num,HDL.out.skip x hx HPX.out,HR.out.1,HR.out.2⟩
     case measure=>simp[intOf];omega
    ·have hdec:isG gr x=false:=by simpa using hp
     rw[hdec]at HP1;have HPX:Hid (isG gr x=false):=hdec;clear hp hdec;go_wp2_with fail;refine HP1.out.mono ?_;rintro e w1 ⟨rfl,ht1,hc1⟩;have ho1:=jf HOR.out ht1 (fun _ _=>by simp);have hkL:k<L.length:=by omega
     obtain⟨y,hy⟩:∃y,L[k]?=some y:=⟨_,List.getElem?_eq_getElem hkL⟩;have fk:∀i v,y.row[i]?=some v->w1.cell? ⟨gd,k*5+i,none⟩=some v:=fun i v hi=>by
      have h1:=jF Ms.row 5 (fun _=>rfl) ho1 k hkL i v (by rw[List.getElem!_eq_getElem?_getD,hy];exact hi);simpa using h1
     have k0:w1.cell? ⟨gd,k*5,none⟩=some (.int .i64 y.num):=fk 0 _ rfl;have k1:w1.cell? ⟨gd,k*5+1,none⟩=some (.string y.grp):=fk 1 _ rfl;have k2:w1.cell? ⟨gd,k*5+2,none⟩=some (.string y.bod):=fk 2 _ rfl;have k3:w1.cell? ⟨gd,k*5+3,none⟩=some (.int .i64 y.rcv):=fk 3 _ rfl;have k4:w1.cell? ⟨gd,k*5+4,none⟩=some (.int .i64 y.til):=fk 4 _ rfl;have m0:w1.cell? ⟨wr.heap.size,0,none⟩=some (.int .i64 x.num):=jb hc1 0 _ rfl;have m1:w1.cell? ⟨wr.heap.size,1,none⟩=some (.string x.grp):=jb hc1 1 _ rfl;have m2:w1.cell? ⟨wr.heap.size,2,none⟩=some (.string x.bod):=jb hc1 2 _ rfl;have m3:w1.cell? ⟨wr.heap.size,3,none⟩=some (.int .i64 x.rcv):=jb hc1 3 _ rfl;have m4:w1.cell? ⟨wr.heap.size,4,none⟩=some (.int .i64 x.til):=jb hc1 4 _ rfl;rw[hll]at ho1;have z0:∀i,w1.frozen? ⟨gd,i,none⟩=false:=fun i=>World.ownsRow.frozenAt ho1 i
     have HR:Hid ((((((w1.setCell ⟨gd,k*5,none⟩ (.int .i64 x.num)).setCell ⟨gd,k*5+1,none⟩ (.string x.grp)).setCell ⟨gd,k*5+2,none⟩ (.string x.bod)).setCell ⟨gd,k*5+3,none⟩ (.int .i64 x.rcv)).setCell ⟨gd,k*5+4,none⟩ (.int .i64 x.til)).ownsRow 0 226 5 (.slice (some ⟨gd,0,none⟩) l.length cd) (L.set k x).length ((L.set k x).flatMap Ms.row)/\Tch [gd] w (((((w1.setCell ⟨gd,k*5,none⟩ (.int .i64 x.num)).setCell ⟨gd,k*5+1,none⟩ (.string x.grp)).setCell ⟨gd,k*5+2,none⟩ (.string x.bod)).setCell ⟨gd,k*5+3,none⟩ (.int .i64 x.rcv)).setCell ⟨gd,k*5+4,none⟩ (.int .i64 x.til))):=by
      refine⟨?_,(((((HTR.out.trans ht1 (by simp)).setCell (fun _=>by simp) _).setCell (fun _=>by simp) _).setCell (fun _=>by simp) _).setCell (fun _=>by simp) _).setCell (fun _=>by simp) _⟩;rw[List.length_set,hll,<-a2K Ms.row 5 (fun _=>rfl) L k x hkL];exact kG x.row (k*5) w1 _ ho1
     clear g0 g1 g2 g3 g4 HP1 ht1 hc1 ho1 fk hy;go_wp2_with fail;go_roundw
     case rel=>exact⟨k+1,j+1,L.set k x,by go_num,by go_num,HDL.out.keep x hx HPX.out,HR.out.1,HR.out.2⟩
     case measure=>simp[intOf];omega
   ·have hje:l.length=j:=by omega
    have hkk:(l.filter (fun x=>!isG gr x)).length=k/\L.take k=l.filter (fun x=>!isG gr x):=by
     have h1:=hd.tk;have e9:l.take j=l:=List.take_of_length_le (by omega);rw[e9]at h1;refine⟨?_,h1⟩;rw[<-h1,List.length_take];omega
    rw[hll]at hor;have hclr:=a3q wr 0 gd k (j-k) (cd-k) (fun i hi=>by
     have h1:k*5+i<(L.flatMap Ms.row).length:=by rw[qH Ms.row 5 (fun _=>rfl)];omega
     have h2:=World.ownsRow.cells hor (g:=gd) rfl (k*5+i) _ (List.getElem?_eq_getElem h1);have e:(⟨gd,0,none⟩:Addr).add (k*5+i)=⟨gd,k*5+i,none⟩:=by unfold Addr.add;split<;>simp_all
     rw[e]at h2;rw[h2];rfl) (fun i=>World.ownsRow.frozenAt hor i) (by omega)
    have HF:Hid ((wr.setCells gd (k*5) (Builtin.zeroCells #[.int .i64 0,.string ⟨#[]⟩,.string ⟨#[]⟩,.int .i64 0,.int .i64 0] (j-k)).toList).ownsRow 0 226 5 (.slice (some ⟨gd,0,none⟩) k cd) (l.filter (fun x=>!isG gr x)).length ((l.filter (fun x=>!isG gr x)).flatMap Ms.row)/\Tch [gd] w (wr.setCells gd (k*5) (Builtin.zeroCells #[.int .i64 0,.string ⟨#[]⟩,.string ⟨#[]⟩,.int .i64 0,.int .i64 0] (j-k)).toList)):=by
     refine⟨?_,htr.trans (qg gd _ _ _) (fun _ h _=>h)⟩;have h1:=a0w (kG (Builtin.zeroCells #[.int .i64 0,.string ⟨#[]⟩,.string ⟨#[]⟩,.int .i64 0,.int .i64 0] (j-k)).toList (k*5) wr _ hor) (n':=k) (by omega);rw[vy _ _ _ _ (Nat.le_refl _),ze Ms.row 5 (fun _=>rfl) L k (by omega),hkk.2]at h1;rw[hkk.1];exact h1
    generalize wr.setCells gd (k*5) (Builtin.zeroCells #[.int .i64 0,.string ⟨#[]⟩,.string ⟨#[]⟩,.int .i64 0,.int .i64 0] (j-k)).toList=w2 at*
    clear hd hor htr hkk;go_wp2_with fail;go_ret;exact⟨.slice (some ⟨gd,0,none⟩) k cd,rfl,rfl,HF.out.1,HF.out.2⟩
end Go.Proofs.YtbdobaapadlcjaaGreatDoor
namespace Go.Proofs.YtbdobaapadlcjaaGreatDoor
open Go.RowKit
variable {w w' b w2:World}{qb base:Nat}{V:QV}{v' v:Value}
theorem a0A {ops:Array Oper}{o:Oper}{a:Act}{w:World}{K:Act->World->Prop}{Q:Exit->Act->World->Prop}{E:Prop}(hgd:o.guard=none)(s x:Operand)(t te:TypeId)
  (ho:o.op=.call {callee:=.builtin .append,args:=#[s,x],argTypes:=#[t,t]})(ht:Tryz.prog.underlying t=some (.slice te))(z:Value)(size bytes:Nat)
  (hinfo:(Tryz.prog.info? te).map (fun i=>(i.zero,i.size,i.bytes))=some (some z,size,bytes))
  (g sLen sCap:Nat)(cur:Array Value)(hg:w.heap[g]?=some (.cells cur te (0,0)))(ad:Addr)(m c:Nat)(news:List Value)(hl:news.length=m*size)(hnews:∀j u,news[j]?=some u->w.cell? (ad.add j)=some u)(h1:∀u∈news,u.oneCell'=true)
  (hroom:sLen+m<=sCap)(hfit:sLen*size+news.length<=cur.size)(hs:a.eval s=.slice (some ⟨g,0,none⟩) sLen sCap)(hx:a.eval x=.slice (some ad) m c)
  (h:K (a.put o.dst (.slice (some ⟨g,0,none⟩) (sLen+m) sCap)) (w.setRow g (cur.toList.take (sLen*size)++news++cur.toList.drop (sLen*size+news.length)).toArray)):
  if Region.wanted o (yielded ops a.tmps)=true then Oper.wp Tryz.prog o a w K Q else E:=by
 have hw:Region.wanted o (yielded ops a.tmps)=true:=by simp[Region.wanted,hgd]
 rw[if_pos hw];obtain⟨i0,hi,hz0,hz1,hz2⟩:=info_parts hinfo;subst hz1;have hr:=run_append_room (P:=Tryz.prog) w t o.type te i0 ht hi g sLen sCap cur hg ad m c news hl hnews h1 hroom hfit;unfold Oper.wp execOp;simp only[ho,resolve,invoke,builtin,Sem.run_bind,Sem.run_pure,Result.andThen_ok,List.map_toArray,List.map_cons,List.map_nil,hs,hx,hr];exact h
theorem a9G (l:List Ms)(g c i:Nat)(cur:Array Value)(w:World)(hi:i<l.length)(hrow:w.heap[g]?=some (.cells cur 226 (0,0)))(hnc:l.length<=c)(hcm:c<=maxLen)(hcs:cur.size=c*5)(htake:cur.toList.take (l.length*5)=l.flatMap Ms.row):
  ∃xs:List Value,xs.take ((l.length-1)*5)=(l.eraseIdx i).flatMap Ms.row/\(w.setRow g (cur.toList.take (i*5)++(l.drop (i+1)).flatMap Ms.row++cur.toList.drop (i*5+((l.drop (i+1)).flatMap Ms.row).length)).toArray).ownsRow 0 226 5 (.slice (some ⟨g,0,none⟩) l.length c) l.length xs:=by
 have hln:((l.drop (i+1)).flatMap Ms.row).length=(l.length-(i+1))*5:=by rw[qH Ms.row 5 (fun _=>rfl),List.length_drop]
 have hcl:cur.toList.length=c*5:=by simpa using hcs
 have ht1:cur.toList.take (i*5)=(l.take i).flatMap Ms.row:=by
  have h1:=congrArg (List.take (i*5)) htake;rw[List.take_take,Nat.min_eq_left (by omega),ze Ms.row 5 (fun _=>rfl) l i (by omega)]at h1;exact h1
 have htl:(cur.toList.take (i*5)++(l.drop (i+1)).flatMap Ms.row).length=(l.length-1)*5:=by
  rw[List.length_append,hln,List.length_take,hcl];omega
 have hnl:(cur.toList.take (i*5)++(l.drop (i+1)).flatMap Ms.row++cur.toList.drop (i*5+((l.drop (i+1)).flatMap Ms.row).length)).length=c*5:=by
  rw[List.length_append,htl,List.length_drop,hln,hcl];omega
 refine⟨(cur.toList.take (i*5)++(l.drop (i+1)).flatMap Ms.row++cur.toList.drop (i*5+((l.drop (i+1)).flatMap Ms.row).length)).take (l.length*5),?_,?_,.inr ⟨g,c,_,rfl,Nat.zero_le _,setRow_heap w g cur _ 226 _ hrow,hnc,hcm,?_,?_⟩⟩
 ·rw[List.take_take,Nat.min_eq_left (by omega),List.take_append_of_le_length (by omega),List.take_of_length_le (by omega),ht1,<-List.flatMap_append,List.eraseIdx_eq_take_drop_succ]
 ·rw[List.length_take,hnl];omega
 ·rw[List.size_toArray,hnl]
 ·rfl
theorem a3N (l:List Ms)(i:Nat)(hi:i<l.length):(l.eraseIdx i).length=l.length-1:=List.length_eraseIdx_of_lt hi
theorem a6E (l:List Ms)(g c i:Nat)(w:World)(ho:w.ownsRow 0 226 5 (.slice (some ⟨g,0,none⟩) l.length c) l.length (l.flatMap Ms.row))(hi:i<l.length)(hl:l.length<=1000):
  Cp 254 #[.slice (some ⟨g,0,none⟩) l.length c,.int .i64 (i:Int),.int .i64 ((i:Int)+1)] w fun e w'=>e=.returned (.slice (some ⟨g,0,none⟩) (l.length-1) c)/\w'.ownsRow 0 226 5 (.slice (some ⟨g,0,none⟩) (l.length-1) c) (l.eraseIdx i).length ((l.eraseIdx i).flatMap Ms.row)/\Tch [g] w w':=by
 obtain⟨cur,hrow,hnc,hcm,hcs,htake⟩:∃cur:Array Value,w.heap[g]?=some (.cells cur 226 (0,0))/\l.length<=c/\c<=maxLen/\cur.size=c*5/\cur.toList.take (l.length*5)=l.flatMap Ms.row:=by
  rcases ho.2 with ⟨h',_⟩|⟨g',cap',cur,h',hb,hg,hnc,hcm,hcs,htake⟩
  ·simp at h'
  ·simp only[Value.slice.injEq,Option.some.injEq,Addr.mk.injEq,and_true,true_and]at h';obtain⟨rfl,rfl⟩:=h';exact⟨cur,hg,hnc,hcm,hcs,htake⟩
 have hcm':c<=9223372036854775807:=by unfold maxLen at hcm;omega
 have HNW:Hid (∀j u,((l.drop (i+1)).flatMap Ms.row)[j]?=some u->w.cell? ((⟨g,(i+1)*5,none⟩:Addr).add j)=some u):=fun j u hj=>by
  have hj2:(l.flatMap Ms.row)[(i+1)*5+j]?=some u:=by
   have e1:=congrArg (fun z=>z.flatMap Ms.row) (List.take_append_drop (i+1) l);simp only[List.flatMap_append]at e1;have e2:((l.take (i+1)).flatMap Ms.row).length=(i+1)*5:=by rw[qH Ms.row 5 (fun _=>rfl),List.length_take];omega
   rw[<-e1,List.getElem?_append_right (by omega),e2,Nat.add_sub_cancel_left];exact hj
  have h1:=World.ownsRow.cells ho (g:=g) rfl ((i+1)*5+j) u hj2;have e3:(⟨g,0,none⟩:Addr).add ((i+1)*5+j)=(⟨g,(i+1)*5,none⟩:Addr).add j:=by unfold Addr.add;split<;>split<;>simp_all
  rw[e3]at h1;exact h1
 have HLN:Hid (((l.drop (i+1)).flatMap Ms.row).length=(l.length-(i+1))*5):=by
  show _=_
  rw[qH Ms.row 5 (fun _=>rfl),List.length_drop]
 have HON:Hid (∀u∈(l.drop (i+1)).flatMap Ms.row,u.oneCell'=true):=fun u hu=>by
  obtain⟨m,_,hm⟩:=List.mem_flatMap.1 hu;simp[Ms.row]at hm;rcases hm with rfl|rfl|rfl|rfl|rfl<;>rfl
 have HFIT:Hid (i*5+((l.drop (i+1)).flatMap Ms.row).length<=cur.size):=by
  show _<=_
  rw[HLN.out,hcs];omega
 obtain⟨news,HNE⟩:∃news,Hid (news=(l.drop (i+1)).flatMap Ms.row):=⟨_,rfl⟩;rw[<-HNE.out]at HNW HLN HON HFIT;go_enter Tryz.func254,Tryz.ntmps254;go_wp2_with fail;have hic:i<=c:=by omega
 have hi2:i+1<=c:=by omega
 have hz1:(0:Int)<=(i:Int)+1:=by omega
 have hz2:(i:Int)+1<=(l.length:Int):=by omega
 have hz3:(i:Int)<=(i:Int)+1:=by omega
 have HRW:=zH hrow;obtain⟨xs,hxs,hox⟩:=a9G l g c i cur w.drew hi hrow hnc hcm hcs htake;rw[<-HNE.out]at hox;have HOX:=zH hox;have HT2:Hid (Tch [g] w (w.drew.setRow g (cur.toList.take (i*5)++news++cur.toList.drop (i*5+news.length)).toArray)):=(Tch.refl _ _).drew.setRow (fun _=>by simp) _;clear hox;generalize hW2:w.drew.setRow g (cur.toList.take (i*5)++news++cur.toList.drop (i*5+news.length)).toArray=w2 at*
 have hxl:=HOX.out.1;have hclr:=a3q w2 0 g (l.length-1) (l.length-(l.length-1)) (c-(l.length-1)) (fun j hj=>by
  have h1:(l.length-1)*5+j<xs.length:=by omega
  have h2:=World.ownsRow.cells HOX.out (g:=g) rfl ((l.length-1)*5+j) _ (List.getElem?_eq_getElem h1);have e:(⟨g,0,none⟩:Addr).add ((l.length-1)*5+j)=⟨g,(l.length-1)*5+j,none⟩:=by unfold Addr.add;split<;>simp_all
  rw[e]at h2;rw[h2];rfl) (fun j=>World.ownsRow.frozenAt HOX.out j) (by omega)
 have HF:Hid ((w2.setCells g ((l.length-1)*5) (Builtin.zeroCells #[.int .i64 0,.string ⟨#[]⟩,.string ⟨#[]⟩,.int .i64 0,.int .i64 0] (l.length-(l.length-1))).toList).ownsRow 0 226 5 (.slice (some ⟨g,0,none⟩) (l.length-1) c) (l.eraseIdx i).length ((l.eraseIdx i).flatMap Ms.row)/\Tch [g] w (w2.setCells g ((l.length-1)*5) (Builtin.zeroCells #[.int .i64 0,.string ⟨#[]⟩,.string ⟨#[]⟩,.int .i64 0,.int .i64 0] (l.length-(l.length-1))).toList)):=by
  refine⟨?_,HT2.out.trans (qg g _ _ _) (fun _ h _=>h)⟩;have h1:=a0w (kG (Builtin.zeroCells #[.int .i64 0,.string ⟨#[]⟩,.string ⟨#[]⟩,.int .i64 0,.int .i64 0] (l.length-(l.length-1))).toList ((l.length-1)*5) w2 _ HOX.out) (n':=l.length-1) (by omega);rw[vy _ _ _ _ (Nat.le_refl _),hxs]at h1;rw[a3N l i hi];exact h1
 generalize w2.setCells g ((l.length-1)*5) (Builtin.zeroCells #[.int .i64 0,.string ⟨#[]⟩,.string ⟨#[]⟩,.int .i64 0,.int .i64 0] (l.length-(l.length-1))).toList=w3 at*
 have el:i+(l.length-(i+1))=l.length-1:=by omega
 have hne2:¬(c=l.length-1):=by omega
 clear hxs hxl HT2 HNE
 by_cases hcc:c=i+1
 ·have hne:news=[]:=List.length_eq_zero_iff.1 (by rw[HLN.out];omega);subst hcc
  go_region_law (refine a0A rfl (.tmp 22) (.tmp 25) 187 226 rfl Tryz.underlying187 _ 5 56 a0u g i (i+1) cur HRW.out ⟨g,0,none⟩ (l.length-(i+1)) ((i+1)-(i+1)) news HLN.out (by rw[hne];intro j u hj;simp at hj) HON.out (by omega) HFIT.out (by simp[Act.eval,Act.put]) (by simp[Act.eval,Act.put];omega) ?_;rw[hW2,el])
  all_goals (clear hW2 el HFIT HON HLN HNW HRW hz1 hz2 hz3 htake hrow hne;go_wp2_with fail;go_ret;exact⟨rfl,HF.out.1,HF.out.2⟩)
 ·have hcc':=hcc
  go_region_law (refine a0A rfl (.tmp 22) (.tmp 25) 187 226 rfl Tryz.underlying187 _ 5 56 a0u g i c cur HRW.out ⟨g,(i+1)*5,none⟩ (l.length-(i+1)) (c-(i+1)) news HLN.out HNW.out HON.out (by omega) HFIT.out (by simp[Act.eval,Act.put]) (by simp[Act.eval,Act.put]) ?_;rw[hW2,el])
  all_goals (clear hW2 el HFIT HON HLN HNW HRW hz1 hz2 hz3 htake hrow hcc';go_wp2_with fail;go_ret;exact⟨rfl,HF.out.1,HF.out.2⟩)
theorem qP {b1 b2 s1 s2 n1 n2:Nat}{t1 t2:TypeId}{v1 v2:Value}{x1 x2:List Value}(h1:w.ownsRow b1 t1 s1 v1 n1 x1)(h2:w.ownsRow b2 t2 s2 v2 n2 x2)(hne:t2≠t1):∀k,v1.ownBlock=some k->k∉bl v2:=fun k hk hm=>by
 obtain⟨C,hC⟩:∃C,w.heap[k]?=some (.cells C t1 (0,0)):=by
  rcases h1.2 with ⟨h0,_⟩|⟨g',cap',cur',h0,_,hg',_⟩
  ·rw[h0]at hk;simp[Value.ownBlock]at hk
  ·rw[h0]at hk;simp only[Value.ownBlock,Option.some.injEq]at hk;subst hk;exact⟨_,hg'⟩
 exact jA h2 hC hne (jq.1 hm)
theorem QR.nq {Q:QM}(h:QR w qb V Q):qb∉bl V.m/\qb∉bl V.r/\qb∉bl V.d/\qb∉bl V.a:=
 ⟨fun e=>jA h.m h.blk (by decide) (jq.1 e),fun e=>jA h.r h.blk (by decide) (jq.1 e),fun e=>jA h.d h.blk (by decide) (jq.1 e),fun e=>jA h.a h.blk (by decide) (jq.1 e)⟩
structure QS (w w':World)(qb:Nat)(V V':QV)(Q':QM):Prop where
 qr:QR w' qb V' Q'
 tch:Tch (qbl qb V) w w'
 new:∀b∈qbl qb V',b∈qbl qb V\/w.heap.size<=b
theorem QS.ql {V':QV}{Q':QM}(h:QS w w' qb V V' Q'):QL w w' qb V Q':=⟨V',h.qr,h.tch,h.new⟩
theorem QS.trans {a c:World}{V1 V2:QV}{Q1 Q2:QM}(h1:QS a b qb V V1 Q1)(h2:QS b c qb V1 V2 Q2):QS a c qb V V2 Q2:=
 ⟨h2.qr,h1.tch.trans h2.tch (fun x hx hlt=>by
  rcases h1.new x hx with h|h
  ·exact h
  ·omega),fun k hk=>by
  rcases h2.new k hk with h|h
  ·exact h1.new k h
  ·exact .inr (Nat.le_trans h1.tch.size h)⟩
theorem QR.qs {Q:QM}(h:QR w qb V Q)(ht:Tch [] w w'):QS w w' qb V V Q:=⟨h.tch ht (by simp),ht.sub (by simp),fun _ h=>.inl h⟩
theorem QR.newM {Q:QM}(h:QR w qb V Q){v':Value}{ms':List Ms}(ht:Tch (bl V.m) w w2)(ho:w2.ownsRow 0 226 5 v' ms'.length (ms'.flatMap Ms.row))(hN:∀k,v'.ownBlock=some k->V.m.ownBlock=some k\/w.heap.size<=k):
  w2.cell? ⟨qb,7,none⟩=some V.m/\w2.frozen? ⟨qb,7,none⟩=false/\QS w (w2.setCell ⟨qb,7,none⟩ v') qb V {V with m:=v'} {Q with ms:=ms'}:=by
 have hb:Qb w2 qb Q.c (Q.next:Int) V.m V.r V.d V.a:=(ht.block _ h.blk.lt h.nq.1).trans h.blk;have t3:Tch [qb] w2 (w2.setCell ⟨qb,7,none⟩ v'):=(Tch.refl _ _).setCell (fun _=>by simp) _;have hr:=jf h.r ht (qP h.r h.m (by decide));have hd:=jf h.d ht (qP h.d h.m (by decide));have ha:=jf h.a ht (qP h.a h.m (by decide));have nq:∀{t s n:Nat} {v:Value} {xs:List Value},w2.ownsRow 0 t s v n xs->t≠191->∀k,v.ownBlock=some k->k∉[qb]:=fun hv hne k hk hm=>by
  simp at hm;subst hm;exact jA hv hb hne hk
 have hq:QR (w2.setCell ⟨qb,7,none⟩ v') qb {V with m:=v'} {Q with ms:=ms'}:=⟨hb.set7 v',jf ho t3 (nq ho (by decide)),jf hr t3 (nq hr (by decide)),jf hd t3 (nq hd (by decide)),jf ha t3 (nq ha (by decide))⟩;refine⟨jb hb 7 _ rfl,hb.fz 7,hq,(ht.sub (fun x hx _=>?_)).trans t3 (fun x hx _=>?_),fun b hb'=>?_⟩
 ·exact ji.2 (.inr (.inl (jq.1 hx)))
 ·simp at hx;exact ji.2 (.inl hx)
 ·rcases ji.1 hb' with e|e|e|e|e
  ·exact .inl (ji.2 (.inl e))
  ·exact(hN b e).imp (fun h=>ji.2 (.inr (.inl h))) id
  ·exact .inl (ji.2 (.inr (.inr (.inl e))))
  ·exact .inl (ji.2 (.inr (.inr (.inr (.inl e)))))
  ·exact .inl (ji.2 (.inr (.inr (.inr (.inr e)))))
theorem QR.newR {Q:QM}(h:QR w qb V Q){v':Value}{rs':List ByteArray}(ht:Tch (bl V.r) w w2)(ho:w2.ownsRow 0 9 1 v' rs'.length (rs'.map Value.string))(hN:∀k,v'.ownBlock=some k->V.r.ownBlock=some k\/w.heap.size<=k):
  w2.cell? ⟨qb,8,none⟩=some V.r/\w2.frozen? ⟨qb,8,none⟩=false/\QS w (w2.setCell ⟨qb,8,none⟩ v') qb V {V with r:=v'} {Q with rs:=rs'}:=by
 have hb:Qb w2 qb Q.c (Q.next:Int) V.m V.r V.d V.a:=(ht.block _ h.blk.lt h.nq.2.1).trans h.blk;have t3:Tch [qb] w2 (w2.setCell ⟨qb,8,none⟩ v'):=(Tch.refl _ _).setCell (fun _=>by simp) _;have hm:=jf h.m ht (qP h.m h.r (by decide));have hd:=jf h.d ht (qP h.d h.r (by decide));have ha:=jf h.a ht (qP h.a h.r (by decide));have nq:∀{t s n:Nat} {v:Value} {xs:List Value},w2.ownsRow 0 t s v n xs->t≠191->∀k,v.ownBlock=some k->k∉[qb]:=fun hv hne k hk hm=>by
  simp at hm;subst hm;exact jA hv hb hne hk
 have hq:QR (w2.setCell ⟨qb,8,none⟩ v') qb {V with r:=v'} {Q with rs:=rs'}:=⟨hb.set8 v',jf hm t3 (nq hm (by decide)),jf ho t3 (nq ho (by decide)),jf hd t3 (nq hd (by decide)),jf ha t3 (nq ha (by decide))⟩;refine⟨jb hb 8 _ rfl,hb.fz 8,hq,(ht.sub (fun x hx _=>?_)).trans t3 (fun x hx _=>?_),fun b hb'=>?_⟩
 ·exact ji.2 (.inr (.inr (.inl (jq.1 hx))))
 ·simp at hx;exact ji.2 (.inl hx)
 ·rcases ji.1 hb' with e|e|e|e|e
  ·exact .inl (ji.2 (.inl e))
  ·exact .inl (ji.2 (.inr (.inl e)))
  ·exact(hN b e).imp (fun h=>ji.2 (.inr (.inr (.inl h)))) id
  ·exact .inl (ji.2 (.inr (.inr (.inr (.inl e)))))
  ·exact .inl (ji.2 (.inr (.inr (.inr (.inr e)))))
def qw (Q:QM)(num:Int):QM:=match Q.ms.find? (isN num) with
 | some m=>{Q with ms:=Q.ms.eraseIdx (jj (isN num) Q.ms).toNat,rs:=if jj (isG m.grp) (Q.ms.eraseIdx (jj (isN num) Q.ms).toNat)<0 then Q.rs else Q.rs++[m.grp]}
 | none=>Q
theorem b0N (Q:QM)(V:QV)(qb:Nat)(num:Int)(w:World)(h:QR w qb V Q)(hl:Q.ms.length<=1000)(hr:Q.rs.length<=1000)(hn:0<=jj (isN num) Q.ms):
  Cp 196 #[zp qb,.int .i64 num] w fun e w'=>e=.returned (.tuple #[])/\QL w w' qb V (qw Q num):=by
 obtain⟨i,hi⟩:∃i:Nat,jj (isN num) Q.ms=(i:Int):=⟨_,(Int.toNat_of_nonneg hn).symm⟩;obtain⟨hil,hp,hfi⟩:=qA _ _ i hi;have hdq:qw Q num={Q with ms:=Q.ms.eraseIdx i,rs:=if jj (isG Q.ms[i].grp) (Q.ms.eraseIdx i)<0 then Q.rs else Q.rs++[Q.ms[i].grp]}:=by
  unfold qw;rw[hfi,hi];rfl
 generalize qw Q num=QD at*
 have HDQ:=zH hdq;have HF:Hid (zB 253 #[zp qb,.int .i64 num] w (.int .i64 (i:Int))):=by
  have h1:=a1b num qb V.m Q.ms w (jb h.blk 7 _ rfl) h.m (by omega);rw[hi]at h1;exact h1
 have HQ:=zH h;clear h hn hi hfi hp hdq;go_enter Tryz.func196,Tryz.ntmps196;go_wp2_with fail;refine HF.out.mono ?_;rintro e w1 ⟨rfl,hb1⟩;have t1:=Tch.of_below hb1;have hq1:=HQ.out.tch t1 (by simp);obtain⟨g,c,hv,hg,hc⟩:=hq1.msc i hil;have d1:w1.cell? ⟨g,i*5+1,none⟩=some (.string Q.ms[i].grp):=hc 1 _ rfl;have c7:w1.cell? ⟨qb,7,none⟩=some (.slice (some ⟨g,0,none⟩) Q.ms.length c):=by rw[<-hv];exact jb hq1.blk 7 _ rfl
 have HDL:=zH (a6E Q.ms g c i w1 (by have:=hq1.m;rw[hv]at this;exact this) hil hl);have HQ1:=zH hq1;have T1:=zH t1;have HV:=zH hv;generalize hgr:Q.ms[i].grp=gr at*
 have HQ0:=zH HQ;clear hb1 t1 hq1 hc hv HF HQ;go_wp2_with fail;refine HDL.out.mono ?_;rintro e w2 ⟨rfl,ho2,ht2⟩;have hN:=HQ1.out.newM (v':=.slice (some ⟨g,0,none⟩) (Q.ms.length-1) c) (ms':=Q.ms.eraseIdx i) (by rw[HV.out];exact ht2.sub (fun x hx _=>by simp at hx;simp[bl,Value.ownBlock,hx])) ho2 (fun k hk=>.inl (by rw[HV.out];exact hk));obtain⟨k7,z7,hqs⟩:=hN;rw[HV.out]at k7;have HQL:=zH ((HQ0.out.qs T1.out).trans hqs);have hq3:=hqs.qr;have HQ3:=zH hq3;have el:=a3N Q.ms i hil;have HH:Hid (Cp 210 #[zp qb,.string gr] (w2.setCell ⟨qb,7,none⟩ (.slice (some ⟨g,0,none⟩) (Q.ms.length-1) c)) _):=a2P gr qb _ (Q.ms.eraseIdx i) _ (jb hq3.blk 7 _ rfl) hq3.m (by omega);clear ho2 ht2 hqs hq3 HDL d1 c7;go_wp2_with fail;generalize hW3:w2.setCell ⟨qb,7,none⟩ (.slice (some ⟨g,0,none⟩) (Q.ms.length-1) c)=w3 at*
 refine HH.out.mono ?_;rintro e w4 ⟨rfl,hb4⟩;have t4:=Tch.of_below hb4;have hq4:=HQ3.out.tch t4 (by simp)
 by_cases hz:jj (isG gr) (Q.ms.eraseIdx i)<0
 ·have HFN:Hid (QL w w4 qb V QD):=by
   show QL _ _ _ _ _
   rw[HDQ.out,if_pos hz];exact(HQL.out.trans (HQ3.out.qs t4)).ql
  generalize jj (isG gr) (Q.ms.eraseIdx i)=z at*
  clear hW3 k7 z7 HH hb4 t4 hq4;go_wp2_with fail;go_end0;exact⟨rfl,HFN.out⟩
 ·have q8:w4.cell? ⟨qb,8,none⟩=some V.r:=jb hq4.blk 8 _ rfl;have HQ4:=zH hq4;have HZ:Hid ((if jj (isG gr) (Q.ms.eraseIdx i)<0 then Q.rs else Q.rs++[gr])=Q.rs++[gr]):=if_neg hz;have T4:=zH t4;generalize hzz:jj (isG gr) (Q.ms.eraseIdx i)=z at hz;have hz2:0<=z:=by omega
  clear hW3 k7 z7 HH hb4 t4 hq4;go_wp2_with (at_builtin;refine a0m _ rfl _ _ 25 9 rfl Tryz.underlying25 (.string ⟨#[]⟩) 1 16 a2T rfl (by decide) (by decide) V.r Q.rs.length (Q.rs.map Value.string) ?hs ?own w4.heap.size [.string gr] 1 ?hx rfl (by decide) ?hg ?one (by omega) ?kk)
  case hs=>simp[Act.eval,Act.put]
  case own=>exact jf HQ4.out.r ((Tch.refl [] _).alloc _) (fun _ _=>by simp)
  case hx=>simp[Act.eval,Act.put]
  case hg=>exact heap_alloc_new _ _
  case one=>intro u hu;simp at hu;subst hu;rfl
  intro v5 w5 ho5 hg5 hb5;have hN5:=HQ4.out.newR (w2:=w5) (v':=v5) (rs':=Q.rs++[gr]) ((((Tch.refl [] w4).alloc _).sub (by simp)).trans (kK hg5) (fun x hx _=>hx)) (by simpa using ho5) (fun k hk=>by
   rcases hb5 with h|h
   ·exact .inl (h.symm.trans hk)
   ·rw[hk]at h;injection h with h;exact .inr (by omega))
  obtain⟨k8,z8,hqs5⟩:=hN5;have HFN:Hid (QL w (w5.setCell ⟨qb,8,none⟩ v5) qb V QD):=by
   show QL _ _ _ _ _
   rw[HDQ.out,HZ.out];exact((HQL.out.trans (HQ3.out.qs T4.out)).trans hqs5).ql
  obtain⟨g5,cap5,hv5⟩:=qB ho5;clear ho5 hg5 hb5 hqs5;subst hv5;go_wp2_with fail;go_end0;exact⟨rfl,HFN.out⟩
def jm (Q:QM)(num til:Int):QM:=match Q.ms.find? (isN num) with
 | some m=>{Q with ms:=Q.ms.set (jj (isN num) Q.ms).toNat {m with til:=til}}
 | none=>Q
theorem QR.fzM {Q:QM}(h:QR w qb V Q){g c:Nat}(hv:V.m=.slice (some ⟨g,0,none⟩) Q.ms.length c)(j:Nat):w.frozen? ⟨g,j,none⟩=false:=by
 have hm:=h.m;rw[hv]at hm;exact World.ownsRow.frozenAt hm j
theorem QR.setQ {Q:QM}(h:QR w qb V Q){gm cm:Nat}(hvm:V.m=.slice (some ⟨gm,0,none⟩) Q.ms.length cm)(i:Nat)(til:Int)(hi:i<Q.ms.length):
  QS w (w.setCell ⟨gm,i*5+4,none⟩ (.int .i64 til)) qb V V {Q with ms:=Q.ms.set i {Q.ms[i] with til:=til}}:=by
 obtain⟨h1,h2,_⟩:=h.setM hvm i 4 (.int .i64 til) {Q.ms[i] with til:=til} hi (by decide) rfl;exact⟨h1,h2.sub (fun x hx _=>ji.2 (.inr (.inl (by rw[hvm];simp at hx;simp[Value.ownBlock,hx])))),fun _ h=>.inl h⟩
theorem a6I (Q:QM)(V:QV)(qb:Nat)(num til:Int)(w:World)(h:QR w qb V Q)(hl:Q.ms.length<=1000)(hn:0<=jj (isN num) Q.ms):
  Cp 206 #[zp qb,.int .i64 num,.int .i64 til] w fun e w'=>e=.returned (.tuple #[])/\QL w w' qb V (jm Q num til):=by
 obtain⟨i,hi⟩:∃i:Nat,jj (isN num) Q.ms=(i:Int):=⟨_,(Int.toNat_of_nonneg hn).symm⟩;obtain⟨hil,hp,hfi⟩:=qA _ _ i hi;have hdq:jm Q num til={Q with ms:=Q.ms.set i {Q.ms[i] with til:=til}}:=by
  unfold jm;rw[hfi,hi];rfl
 generalize jm Q num til=QD at*
 obtain⟨g,c,hv,hg,hc⟩:=h.msc i hil;have HF:Hid (Cp 253 #[zp qb,.int .i64 num] w.drew fun e w'=>e=.returned (.int .i64 (i:Int))/\w'.cell? ⟨qb,7,none⟩=some (.slice (some ⟨g,0,none⟩) Q.ms.length c)/\w'.cell? ⟨g,i*5+4,none⟩=some (.int .i64 Q.ms[i].til)/\w'.frozen? ⟨g,i*5+4,none⟩=false/\(w'.setCell ⟨g,i*5+4,none⟩ (.int .i64 til)).cell? ⟨qb,7,none⟩=some (.slice (some ⟨g,0,none⟩) Q.ms.length c)/\QL w (w'.setCell ⟨g,i*5+4,none⟩ (.int .i64 til)) qb V QD):=by
  have h1:=a1b num qb V.m Q.ms w.drew (jb h.blk 7 _ rfl) (jf h.m (Tch.refl [] w).drew (by simp)) (by omega);rw[hi]at h1;refine h1.mono ?_;rintro e w' ⟨he,hb⟩;have t:Tch [] w w':=(Tch.refl [] w).drew.trans (Tch.of_below hb) (by simp);have hq:=h.tch t (by simp);obtain⟨g2,c2,hv2,hg2,hc2⟩:=hq.msc i hil;rw[hv]at hv2;simp only[Value.slice.injEq,Option.some.injEq,Addr.mk.injEq,and_true,true_and]at hv2;obtain⟨rfl,rfl⟩:=hv2;have hs:=hq.setQ hv i til hil;refine⟨he,by rw[<-hv];exact jb hq.blk 7 _ rfl,hc2 4 _ rfl,hq.fzM hv _,by rw[<-hv];exact jb hs.qr.blk 7 _ rfl,?_⟩;rw[hdq];exact((h.qs t).trans hs).ql
 have c7:w.cell? ⟨qb,7,none⟩=some (.slice (some ⟨g,0,none⟩) Q.ms.length c):=by rw[<-hv];exact jb h.blk 7 _ rfl
 clear hi hfi hp hdq hc hn h;go_enter Tryz.func206,Tryz.ntmps206;go_wp2_with fail
 go_region_held3 (fun w'=>w'.cell? ⟨qb,7,none⟩=some (.slice (some ⟨g,0,none⟩) Q.ms.length c)) (go_keep) (first|(go_at_call 253;refine HF.out.mono ?_;rintro e w1 ⟨rfl,k7,k4,z4,k7',hql⟩;have HQL:Hid (QL w _ qb V QD):=hql;clear hql))
 all_goals (go_wp2_with fail;go_end0;exact⟨rfl,HQL.out⟩)
def upQ (c:Wp.Rq)(rcv:Int):Bool:=decide (0<c.rcv)&&decide (c.rcv<=rcv)
theorem a5I (Q:QM)(V:QV)(qb:Nat)(m:Ms)(w:World)(h:QR w qb V Q):
  zT 257 #[zp qb,.agg #[.int .i64 m.num,.string m.grp,.string m.bod,.int .i64 m.rcv,.int .i64 m.til]] w (.bool (upQ Q.c m.rcv)):=by
 obtain⟨wb,hwb⟩:∃wb,wb=w.alloc (.cells #[.int .i64 m.num,.string m.grp,.string m.bod,.int .i64 m.rcv,.int .i64 m.til] 226):=⟨_,rfl⟩;have HT:Hid (Tch [] w wb):=by rw[hwb];exact(Tch.refl _ _).alloc _
 have HBX:Hid (wb.heap[w.heap.size]?=some (.cells #[.int .i64 m.num,.string m.grp,.string m.bod,.int .i64 m.rcv,.int .i64 m.til] 226 (0,0))):=by rw[hwb];exact heap_alloc_new _ _
 have hq:=h.tch HT.out (by simp);have c4:wb.cell? ⟨qb,4,none⟩=some (.int .i64 Q.c.rcv):=jb hq.blk 4 _ rfl;have b3:wb.cell? ⟨w.heap.size,3,none⟩=some (.int .i64 m.rcv):=jb HBX.out 3 _ rfl;have HU:Hid (upQ Q.c m.rcv=(decide (0<Q.c.rcv)&&decide (Q.c.rcv<=m.rcv))):=rfl;clear h hq;generalize Q.c.rcv=R at*
 go_enter Tryz.func257,Tryz.ntmps257;go_wp2_with fail;rw[<-hwb];clear hwb
 by_cases hR:0<R
 ·have hd:decide ((0:Int)<R)=true:=decide_eq_true hR;go_wp2_with fail;go_quiet (fail);go_wp2_with fail;go_ret;exact⟨js (by rw[HU.out,hd];simp),HT.out.drewN _⟩
 ·have hd:decide ((0:Int)<R)=false:=decide_eq_false hR;go_wp2_with fail;go_quiet (fail);go_wp2_with fail;go_ret;exact⟨js (by rw[HU.out,hd];simp),HT.out.drewN _⟩
def qY (Q:QM)(n:Nat):Bool:=decide (((Q.ms.length+n:Nat):Int)<=Q.c.quo)&&decide (Q.next+n<=201)
theorem a5M (Q:QM)(V:QV)(qb n:Nat)(w:World)(h:QR w qb V Q)(hl:Q.ms.length<=1000)(hn:n<=1000)(hx:Q.next<=1000):
  zT 258 #[zp qb,.int .i64 (n:Int)] w (.bool (qY Q n)):=by
 obtain⟨am,cm,hvm⟩:=jl h.m;have c7:w.cell? ⟨qb,7,none⟩=some (.slice am Q.ms.length cm):=by rw[<-hvm];exact jb h.blk 7 _ rfl
 have c5:w.cell? ⟨qb,5,none⟩=some (.int .i64 Q.c.quo):=jb h.blk 5 _ rfl;have c6:w.cell? ⟨qb,6,none⟩=some (.int .i64 (Q.next:Int)):=jb h.blk 6 _ rfl;have HU:Hid (qY Q n=(decide (((Q.ms.length:Int)+(n:Int))<=Q.c.quo)&&decide ((Q.next:Int)+(n:Int)<=201))):=by
  show _=_
  unfold qY;congr 1;exact decide_eq_decide.2 (by omega)
 clear h;generalize Q.c.quo=R at*
 generalize Q.ms.length=nm at*
 generalize Q.next=nx at*
 go_enter Tryz.func258,Tryz.ntmps258
 by_cases hR:(nm:Int)+(n:Int)<=R
 ·have hd:decide ((nm:Int)+(n:Int)<=R)=true:=decide_eq_true hR;go_wp2_with fail;go_quiet (fail);go_wp2_with fail;go_ret;exact⟨js (by rw[HU.out,hd];simp),(Tch.refl [] w).drewN _⟩
 ·have hd:decide ((nm:Int)+(n:Int)<=R)=false:=decide_eq_false hR;go_wp2_with fail;go_quiet (fail);go_wp2_with fail;go_ret;exact⟨js (by rw[HU.out,hd];simp),(Tch.refl [] w).drewN _⟩
def jZ (g:ByteArray)(l:List Ms):Nat:=(l.filter (isG g)).length
theorem zq (g:ByteArray)(l:List Ms):jZ g l<=l.length:=List.length_filter_le _ _
theorem a1t (g:ByteArray)(l:List Ms)(j:Nat)(hj:j<l.length):jZ g (l.take (j+1))=jZ g (l.take j)+if isG g l[j]=true then 1 else 0:=by
 unfold jZ;rw[List.take_succ_eq_append_getElem hj,List.filter_append,List.length_append];congr 1
 by_cases h:isG g l[j]=true
 ·simp[h]
 ·simp[h]
theorem a9c (Q:QM)(V:QV)(qb:Nat)(gr:ByteArray)(w:World)(h:QR w qb V Q)(hl:Q.ms.length<=1000):
  zT 259 #[zp qb,.string gr] w (.int .i64 (jZ gr Q.ms:Nat)):=by
 obtain⟨am,cm,hvm⟩:=jl h.m;have c7:w.cell? ⟨qb,7,none⟩=some (.slice am Q.ms.length cm):=by rw[<-hvm];exact jb h.blk 7 _ rfl
 have HQ:=zH h;have HV:=zH hvm;clear h hvm;go_enter Tryz.func259,Tryz.ntmps259;go_wp2_with fail
 go_loopw [5,13] (fun nv jv wr=>∃j:Nat,j<=Q.ms.length/\nv=.int .i64 (jZ gr (Q.ms.take j):Nat)/\jv=.int .i64 (j:Int)/\Tch [] w wr) (fun _ jv _=>Q.ms.length-(intOf jv).toNat)
 case atStart=>exact⟨0,Nat.zero_le _,by simp[jZ],rfl,Tch.refl _ _⟩
 case round=>
  obtain⟨j,hj,rfl,rfl,ht⟩:=hrel;have HT:=zH ht
  by_cases hlt:j<Q.ms.length
  ·have hq:=HQ.out.tch ht (by simp);obtain⟨g,c,hv,hg,hc⟩:=hq.msc j hlt;rw[HV.out]at hv;simp only[Value.slice.injEq,true_and]at hv;obtain⟨rfl,rfl⟩:=hv;have g0:wr.cell? ⟨g,j*5,none⟩=some (.int .i64 Q.ms[j].num):=hc 0 _ rfl;have g1:wr.cell? ⟨g,j*5+1,none⟩=some (.string Q.ms[j].grp):=hc 1 _ rfl;have g2:wr.cell? ⟨g,j*5+2,none⟩=some (.string Q.ms[j].bod):=hc 2 _ rfl;have g3:wr.cell? ⟨g,j*5+3,none⟩=some (.int .i64 Q.ms[j].rcv):=hc 3 _ rfl;have g4:wr.cell? ⟨g,j*5+4,none⟩=some (.int .i64 Q.ms[j].til):=hc 4 _ rfl;have HC:Hid (jZ gr (Q.ms.take (j+1))=jZ gr (Q.ms.take j)+if isG gr Q.ms[j]=true then 1 else 0):=a1t gr Q.ms j hlt;have hb:=zq gr (Q.ms.take j);have hb2:(Q.ms.take j).length<=j:=by rw[List.length_take];omega
   have hb3:jZ gr (Q.ms.take j)<=1000:=by omega
   clear hc hq ht hb hb2
   by_cases he:(Q.ms[j].grp.toList == gr.toList)=true
   ·have HE:Hid (isG gr Q.ms[j]=true):=he;go_wp2_with fail;go_roundw
    case rel=>exact⟨j+1,by omega,by rw[HC.out,HE.out,if_pos rfl];go_num,by go_num,HT.out.alloc _⟩
    case measure=>simp[intOf];omega
   ·have he':(Q.ms[j].grp.toList == gr.toList)=false:=by simpa using he
    have HE:Hid (isG gr Q.ms[j]=false):=he';clear he;go_wp2_with fail;go_roundw
    case rel=>exact⟨j+1,by omega,by rw[HC.out,HE.out,if_neg (by decide)];rfl,by go_num,HT.out.alloc _⟩
    case measure=>simp[intOf];omega
  ·have hje:j=Q.ms.length:=by omega
   subst hje;go_wp2_with fail;go_ret;exact⟨vC (by rw[List.take_length]),HT.out⟩
def xx (Q:QM)(g b:ByteArray):QM:=
 {Q with next:=Q.next+1,ms:=Q.ms++[⟨(Q.next:Nat),g,b,0,0⟩],rs:=if jj (isG g) Q.ms<0 then Q.rs++[g] else Q.rs}
theorem b9i (Q:QM)(V:QV)(qb:Nat)(g b:ByteArray)(w:World)(h:QR w qb V Q)(hnm:Q.ms.length<=1000)(hnr:Q.rs.length<=1000)(hk:Q.next<=200):
  Cp 219 #[zp qb,.string g,.string b] w fun e w'=>e=.returned (.tuple #[])/\QL w w' qb V (xx Q g b):=by
 refine a1J (fun w'=>QL w w' qb V (xx Q g b)) Q.c g b qb Q.next Q.rs.length V.m V.r V.d V.a Q.ms (Q.rs.map Value.string) w h.blk h.m h.r hnm hnr hk ?_;intro w' ms' rs' hq hm hr hN1 hN2 ht;have hS:∀k∈(qb::(bl V.m++bl V.r)),k=qb\/V.m.ownBlock=some k\/V.r.ownBlock=some k:=fun k hk=>by
  rcases List.mem_cons.1 hk with e|e
  ·exact .inl e
  ·rcases List.mem_append.1 e with e|e
   ·exact .inr (.inl (jq.1 e))
   ·exact .inr (.inr (jq.1 e))
 have hd:w'.ownsRow 0 230 3 V.d Q.ds.length (Q.ds.flatMap Dd.row):=jf h.d ht (fun k hk hm'=>by
  rcases hS k hm' with e|e|e
  ·subst e;exact jA h.d h.blk (by decide) hk
  ·exact qP h.d h.m (by decide) k hk (jq.2 e)
  ·exact qP h.d h.r (by decide) k hk (jq.2 e))
 have ha:w'.ownsRow 0 234 3 V.a Q.ats.length (Q.ats.flatMap At.row):=jf h.a ht (fun k hk hm'=>by
  rcases hS k hm' with e|e|e
  ·subst e;exact jA h.a h.blk (by decide) hk
  ·exact qP h.a h.m (by decide) k hk (jq.2 e)
  ·exact qP h.a h.r (by decide) k hk (jq.2 e))
 refine⟨⟨ms',rs',V.d,V.a⟩,⟨hq,?_,?_,hd,ha⟩,ht.sub (fun x hx _=>?_),fun k hk=>?_⟩
 ·simpa [xx,Ms.row]using hm
 ·show w'.ownsRow 0 9 1 rs' (xx Q g b).rs.length ((xx Q g b).rs.map Value.string)
  simp only[xx,a5g,a7t];exact hr
 ·rcases hS x hx with e|e|e
  ·exact ji.2 (.inl e)
  ·exact ji.2 (.inr (.inl e))
  ·exact ji.2 (.inr (.inr (.inl e)))
 ·rcases ji.1 hk with e|e|e|e|e
  ·exact .inl (ji.2 (.inl e))
  ·exact(hN1 k e).imp (fun h=>ji.2 (.inr (.inl h))) id
  ·exact(hN2 k e).imp (fun h=>ji.2 (.inr (.inr (.inl h)))) id
  ·exact .inl (ji.2 (.inr (.inr (.inr (.inl e)))))
  ·exact .inl (ji.2 (.inr (.inr (.inr (.inr e)))))
theorem jO {t:TypeId}{size n:Nat}{xs:List Value}(h:w.ownsRow base t size v n xs)(hS:∀k,v.ownBlock=some k->w'.heap[k]?=w.heap[k]?):w'.ownsRow base t size v n xs:=by
 refine⟨h.1,?_⟩;rcases h.2 with hn|⟨g,cap,cur,rfl,hb,hg,rest⟩
 ·exact .inl hn
 ·exact .inr ⟨g,cap,cur,rfl,hb,(hS g rfl).trans hg,rest⟩
theorem QR.below {Q:QM}(h:QR w qb V Q)(hlo:∀b∈qbl qb V,b<base)(hb:Below base w w'):QR w' qb V Q:=
 ⟨(hb.block _ (hlo _ (by simp[qbl]))).trans h.blk,jO h.m (fun k hk=>hb.block _ (hlo k (ji.2 (.inr (.inl hk))))),jO h.r (fun k hk=>hb.block _ (hlo k (ji.2 (.inr (.inr (.inl hk)))))),jO h.d (fun k hk=>hb.block _ (hlo k (ji.2 (.inr (.inr (.inr (.inl hk))))))),jO h.a (fun k hk=>hb.block _ (hlo k (ji.2 (.inr (.inr (.inr (.inr hk)))))))⟩
def BF (base:Nat)(w w':World):Prop:=Below base w w'/\Fr 0 [5] w w'
theorem BF.refl (base:Nat)(w:World):BF base w w:=⟨Below.refl _ _,Fr.refl _ _ _⟩
theorem BF.trans {a c:World}(h:BF base a b)(k:BF base b c):BF base a c:=⟨h.1.trans k.1,h.2.trans k.2⟩
theorem BF.alloc {a:World}(h:BF base a b)(hb:base<=b.heap.size)(o:Obj):BF base a (b.alloc o):=⟨h.1.alloc hb o,h.2.trans (Fr.of_nil [5] ((Tch.refl [] b).alloc o) (Nat.zero_le _))⟩
theorem BF.grown {a w1:World}(h:BF base a w){v:Value}{l:List UInt8}(ho:OwnB w base v l)(hg:w.grownBy w1 v.ownBlock)(hb:base<=w.heap.size):BF base a w1:=
 ⟨Below.grown h.1 hg hb (fun k hk=>(World.ownsRow.lt ho k hk).1),h.2.grown5' ho hg⟩
theorem BF.size {a:World}(h:BF base a b):a.heap.size<=b.heap.size:=h.1.size
def inN (n:Int):Prop:=0<=n/\n<4294967296
theorem kH (base:Nat)(v:Value)(l:List UInt8)(n:Int)(size:Nat)(w:World)(hn:inN n)(hs:size<=8)(hl:l.length<=1099511627776)(hb:base<=w.heap.size)(hown:OwnB w base v l):
  Cp 91 #[v,.int .i64 n,.int .i64 (size:Int)] w fun e w'=>∃v',e=.returned v'/\OwnB w' base v' (l++je n.toNat size)/\Below base w w'/\Fr 0 [5] w w':=by
 have h:=jR base v l n.toNat size w (by have:=hn.1;have:=hn.2;omega) hs hl hb hown;rw[Int.toNat_of_nonneg hn.1]at h;exact h
def xO (c:Wp.Rq):List UInt8:=(((je c.vis.toNat 2++je c.win.toNat 2)++je c.rcv.toNat 1)++[c.d])++je c.quo.toNat 1
theorem vo (c:Wp.Rq):(xO c).length=7:=by simp[xO,jc]
structure CoK (c:Wp.Rq):Prop where
 vis:inN c.vis
 win:inN c.win
 rcv:inN c.rcv
 quo:inN c.quo
theorem a6w (base:Nat)(v:Value)(l:List UInt8)(Q:QM)(V:QV)(qb:Nat)(w:World)(h:QR w qb V Q)(hlo:∀b∈qbl qb V,b<base)(hc:CoK Q.c)(hl:l.length<=1000000000)(hb:base<=w.heap.size)(hown:OwnB w base v l):
  Cp 153 #[zp qb,v] w fun e w'=>∃v',e=.returned v'/\OwnB w' base v' (l++xO Q.c)/\BF base w w':=by
 obtain⟨i0,hi,hz0,hz1,hz2⟩:=info_parts zh;have HQ:Hid (∀W,BF base w W->QR W qb V Q):=fun W hW=>h.below hlo hW.1
 have lqb:=hlo qb (by simp[qbl]);have c2:w.cell? ⟨qb,2,none⟩=some (.int .i64 Q.c.vis):=jb h.blk 2 _ rfl;have H1:Hid (Cp 91 #[v,.int .i64 Q.c.vis,.int .i64 2] w fun e w'=>∃v',e=.returned v'/\OwnB w' base v' (l++je Q.c.vis.toNat 2)/\Below base w w'/\Fr 0 [5] w w'):=kH base v l Q.c.vis 2 w hc.vis (by decide) (by omega) hb hown;have HC:=zH hc;clear h hown hc;go_enter Tryz.func153,Tryz.ntmps153;go_wp2_with fail;refine H1.out.mono ?_;rintro e w1 ⟨v1,rfl,ho1,hb1,hf1⟩;have q1:=HQ.out w1 ⟨hb1,hf1⟩;have z1:=hb1.size;have d3:w1.cell? ⟨qb,3,none⟩=some (.int .i64 Q.c.win):=jb q1.blk 3 _ rfl;have H2:Hid (Cp 91 #[v1,.int .i64 Q.c.win,.int .i64 2] w1 fun e w'=>∃v',e=.returned v'/\OwnB w' base v' ((l++je Q.c.vis.toNat 2)++je Q.c.win.toNat 2)/\Below base w1 w'/\Fr 0 [5] w1 w'):=kH base v1 _ Q.c.win 2 w1 HC.out.win (by decide) (by simp[jc];omega) (by omega) ho1;have HB1:Hid (BF base w w1):=⟨hb1,hf1⟩;clear ho1 hb1 hf1 q1 c2 H1;go_wp2_with fail;refine H2.out.mono ?_;rintro e w2 ⟨v2,rfl,ho2,hb2,hf2⟩;have HB2:=zH (HB1.out.trans ⟨hb2,hf2⟩);have q2:=HQ.out w2 HB2.out;have z2:=hb2.size;have d4:w2.cell? ⟨qb,4,none⟩=some (.int .i64 Q.c.rcv):=jb q2.blk 4 _ rfl;have H3:Hid (Cp 91 #[v2,.int .i64 Q.c.rcv,.int .i64 1] w2 fun e w'=>∃v',e=.returned v'/\OwnB w' base v' (((l++je Q.c.vis.toNat 2)++je Q.c.win.toNat 2)++je Q.c.rcv.toNat 1)/\Below base w2 w'/\Fr 0 [5] w2 w'):=kH base v2 _ Q.c.rcv 1 w2 HC.out.rcv (by decide) (by simp[jc];omega) (by omega) ho2;clear ho2 hb2 hf2 q2 d3 H2;go_wp2_with fail;refine H3.out.mono ?_;rintro e w3 ⟨v3,rfl,ho3,hb3,hf3⟩;have HB3:=zH (HB2.out.trans ⟨hb3,hf3⟩);have q3:=HQ.out w3 HB3.out;have z3:=hb3.size;have d1:w3.cell? ⟨qb,1,none⟩=some (.int .u8 (Q.c.d.toNat:Int)):=jb q3.blk 1 _ rfl;have hle:(((l++je Q.c.vis.toNat 2)++je Q.c.win.toNat 2)++je Q.c.rcv.toNat 1).length<=1000000010:=by simp[jc];omega
 have HL:Hid (l++xO Q.c=((((l++je Q.c.vis.toNat 2)++je Q.c.win.toNat 2)++je Q.c.rcv.toNat 1)++[Q.c.d])++je Q.c.quo.toNat 1):=by show _=_;simp[xO]
 generalize (((l++je Q.c.vis.toNat 2)++je Q.c.win.toNat 2)++je Q.c.rcv.toNat 1)=L at ho3 hle HL;have HO:=zH ho3;clear ho3 hb3 hf3 q3 d4 H3;go_wp2_with (at_builtin;refine wpList_append_own _ rfl _ _ 74 rfl base 5 i0 (.int .u8 0) 1 1 Tryz.underlying74 hi hz0 hz1 hz2 rfl (by decide) _ _ _ rfl (World.ownsRow.alloc HO.out _) ⟨w3.heap.size,0,none⟩ 1 1 [.int .u8 (Q.c.d.toNat:Int)] rfl rfl ?c1 ?c2 ?c3 ?c4 ?c5 ?_)
 case c1=>exact cell_one_new _ _ _
 case c2=>intro u hu;simp at hu;subst hu;rfl
 case c3=>unfold maxLen;omega
 case c4=>omega
 case c5=>simp;omega
 intro v4 w4 hown' hgrow _;have ho4:OwnB w4 base v4 (L++[Q.c.d]):=OwnB.snoc rfl hown';have hb4:BF base w w4:=BF.grown ((HB3.out).alloc (by omega) _) (World.ownsRow.alloc HO.out _) hgrow (by simp;omega);have q4:=HQ.out w4 hb4;have z4:=hb4.size;have d5:w4.cell? ⟨qb,5,none⟩=some (.int .i64 Q.c.quo):=jb q4.blk 5 _ rfl;have H4:Hid (Cp 91 #[v4,.int .i64 Q.c.quo,.int .i64 1] w4 fun e w'=>∃v',e=.returned v'/\OwnB w' base v' ((L++[Q.c.d])++je Q.c.quo.toNat 1)/\Below base w4 w'/\Fr 0 [5] w4 w'):=kH base v4 _ Q.c.quo 1 w4 HC.out.quo (by decide) (by rw[List.length_append];simp;omega) (by omega) ho4;have HB4:=zH hb4;clear hown' hgrow ho4 hb4 q4 d1;go_wp2_with fail;refine H4.out.mono ?_;rintro e w5 ⟨v5,rfl,ho5,hb5,hf5⟩;rw[<-HL.out]at ho5;have H5:Hid (OwnB w5 base v5 (l++xO Q.c)/\BF base w w5):=⟨ho5,HB4.out.trans ⟨hb5,hf5⟩⟩;clear ho5 hb5 hf5 H4;go_wp2_with fail;go_ret;exact⟨_,rfl,H5.out.1,H5.out.2⟩
def msB (m:Ms):List UInt8:=(((je m.num.toNat 4++jx m.grp)++jx m.bod)++je m.rcv.toNat 2)++je m.til.toNat 4
structure MsW (m:Ms):Prop where
 num:inN m.num
 rcv:inN m.rcv
 til:inN m.til
 grp:m.grp.size<=8
 bod:m.bod.size<=40
theorem a4P (m:Ms):(msB m).length=12+m.grp.size+m.bod.size:=by simp only[msB,List.length_append,jc,jp];omega
def ddB (m:Dd):List UInt8:=(jx m.id++je m.num.toNat 4)++je m.til.toNat 4
structure DdW (m:Dd):Prop where
 id:m.id.size<=8
 num:inN m.num
 til:inN m.til
theorem a7X (m:Dd):(ddB m).length=9+m.id.size:=by simp only[ddB,List.length_append,jc,jp];omega
def atB (m:At):List UInt8:=((jx m.id++je m.til.toNat 4)++je m.ans.size 2)++m.ans.data.toList
structure AtW (m:At):Prop where
 id:m.id.size<=8
 til:inN m.til
 ans:m.ans.size<=600
theorem a7P (m:At):(atB m).length=7+m.id.size+m.ans.size:=by
 simp only[atB,List.length_append,jc,jp];have:m.ans.data.toList.length=m.ans.size:=rfl;omega
theorem vb {α:Type}(f:α->List UInt8)(b:Nat)(l:List α)(h:∀x∈l,(f x).length<=b):(l.flatMap f).length<=b*l.length:=by
 induction l with
 | nil=>simp
 | cons x r ih=>
  have h1:=ih (fun s hs=>h s (List.mem_cons_of_mem _ hs));have h2:=h x List.mem_cons_self;rw[List.flatMap_cons,List.length_append,List.length_cons,Nat.mul_add];omega
theorem a1c {α:Type}(f:α->List UInt8)(L:List UInt8)(l:List α)(k:Nat)(h:k<l.length):L++(l.take (k+1)).flatMap f=(L++(l.take k).flatMap f)++f l[k]:=by
 rw[List.take_succ_eq_append_getElem h,List.flatMap_append,List.flatMap_singleton,<-List.append_assoc]
theorem QR.dsc {Q:QM}(h:QR w qb V Q)(i:Nat)(hi:i<Q.ds.length):∃g c,V.d=.slice (some ⟨g,0,none⟩) Q.ds.length c/\g<w.heap.size/\∀j u,(Q.ds[i].row)[j]?=some u->w.cell? ⟨g,i*3+j,none⟩=some u:=by
 have inh:Inhabited Dd:=⟨⟨⟨#[]⟩,0,0⟩⟩;obtain⟨g,c,hv⟩:∃g c,V.d=.slice (some ⟨g,0,none⟩) Q.ds.length c:=by
  rcases h.d.2 with ⟨h0,h1⟩|⟨g,cap,cur,h0,_⟩
  ·omega
  ·exact⟨_,_,h0⟩
 have hm:=h.d;rw[hv]at hm;have hc:∀j u,(Q.ds[i].row)[j]?=some u->w.cell? ⟨g,i*3+j,none⟩=some u:=fun j u hj=>by
  have h1:=jF Dd.row 3 (fun _=>rfl) hm i hi j u (by rw[List.getElem!_eq_getElem?_getD,List.getElem?_eq_getElem hi];exact hj);simpa using h1
 exact⟨g,c,hv,World.block_lt_of_cell? _ _ (hc 0 _ rfl),hc⟩
theorem QR.asc {Q:QM}(h:QR w qb V Q)(i:Nat)(hi:i<Q.ats.length):∃g c,V.a=.slice (some ⟨g,0,none⟩) Q.ats.length c/\g<w.heap.size/\∀j u,(Q.ats[i].row)[j]?=some u->w.cell? ⟨g,i*3+j,none⟩=some u:=by
 have inh:Inhabited At:=⟨⟨⟨#[]⟩,0,⟨#[]⟩⟩⟩;obtain⟨g,c,hv⟩:∃g c,V.a=.slice (some ⟨g,0,none⟩) Q.ats.length c:=by
  rcases h.a.2 with ⟨h0,h1⟩|⟨g,cap,cur,h0,_⟩
  ·omega
  ·exact⟨_,_,h0⟩
 have hm:=h.a;rw[hv]at hm;have hc:∀j u,(Q.ats[i].row)[j]?=some u->w.cell? ⟨g,i*3+j,none⟩=some u:=fun j u hj=>by
  have h1:=jF At.row 3 (fun _=>rfl) hm i hi j u (by rw[List.getElem!_eq_getElem?_getD,List.getElem?_eq_getElem hi];exact hj);simpa using h1
 exact⟨g,c,hv,World.block_lt_of_cell? _ _ (hc 0 _ rfl),hc⟩
theorem a8P (base:Nat)(v:Value)(l:List UInt8)(Q:QM)(V:QV)(qb:Nat)(w:World)(h:QR w qb V Q)(hlo:∀b∈qbl qb V,b<base)(hn:Q.ms.length<=1000)(hW:∀m∈Q.ms,MsW m)(hl:l.length<=1000000000)(hb:base<=w.heap.size)(hown:OwnB w base v l):
  Cp 154 #[zp qb,v] w fun e w'=>∃v',e=.returned v'/\OwnB w' base v' (l++(je Q.ms.length 1++Q.ms.flatMap msB))/\BF base w w':=by
 obtain⟨i0,hi,hz0,hz1,hz2⟩:=info_parts zh;have HQ:Hid (∀W,BF base w W->QR W qb V Q):=fun W hW=>h.below hlo hW.1
 have lqb:=hlo qb (by simp[qbl]);obtain⟨am,cm,hvm⟩:=jl h.m;have HV:=zH hvm;have c7:w.cell? ⟨qb,7,none⟩=some (.slice am Q.ms.length cm):=by rw[<-hvm];exact jb h.blk 7 _ rfl
 have H1:Hid (Cp 91 #[v,.int .i64 (Q.ms.length:Int),.int .i64 1] w fun e w'=>∃v',e=.returned v'/\OwnB w' base v' (l++je Q.ms.length 1)/\Below base w w'/\Fr 0 [5] w w'):=jR base v l Q.ms.length 1 w (by omega) (by decide) (by omega) hb hown;have HW:=zH hW;clear h hown hW hvm;go_enter Tryz.func154,Tryz.ntmps154;go_wp2_with fail;refine H1.out.mono ?_;rintro e w1 ⟨v1,rfl,ho1,hb1,hf1⟩;have q1:=HQ.out w1 ⟨hb1,hf1⟩;have z1:=hb1.size;have d7:w1.cell? ⟨qb,7,none⟩=some (.slice am Q.ms.length cm):=by rw[<-HV.out];exact jb q1.blk 7 _ rfl
 have HLE:Hid ((l++je Q.ms.length 1).length<=1000000010):=by show _<=_;rw[List.length_append,jc];omega
 have HLS:Hid (l++(je Q.ms.length 1++Q.ms.flatMap msB)=(l++je Q.ms.length 1)++Q.ms.flatMap msB):=by show _=_;rw[List.append_assoc]
 generalize l++je Q.ms.length 1=L at ho1 HLE HLS;have HO1:=zH ho1;have HB1:Hid (BF base w w1):=⟨hb1,hf1⟩;clear ho1 hb1 hf1 q1 c7 H1;go_wp2_with fail
 go_loopw [1,19] (fun o i wr=>∃k:Nat,k<=Q.ms.length/\i=.int .i64 (k:Int)/\OwnB wr base o (L++(Q.ms.take k).flatMap msB)/\BF base w wr) (fun _ i _=>Q.ms.length-(intOf i).toNat)
 case atStart=>exact⟨0,Nat.zero_le _,rfl,by simpa using HO1.out,HB1.out⟩
 case round=>
  obtain⟨k,hk,rfl,ho,hbr⟩:=hrel
  by_cases hlt:k<Q.ms.length
  ·have hq:=HQ.out wr hbr;obtain⟨g,c,hv,hg,hc⟩:=hq.msc k hlt;rw[HV.out]at hv;simp only[Value.slice.injEq,true_and]at hv;obtain⟨rfl,rfl⟩:=hv;have hw:=HW.out _ (List.getElem_mem hlt);have hle:(L++(Q.ms.take k).flatMap msB).length<=1100000000:=by
    rw[List.length_append];have h1:=vb msB 60 (Q.ms.take k) (fun m hm=>by have h2:=HW.out m (List.mem_of_mem_take hm);rw[a4P];have:=h2.grp;have:=h2.bod;omega);have h2:=HLE.out;rw[List.length_take]at h1;have h3:60*min k Q.ms.length<=60*1000:=Nat.mul_le_mul_left _ (by omega);omega
   have HS:=zH (a1c msB L Q.ms k hlt);obtain⟨L2,HG2⟩:∃L2,Hid (L++(Q.ms.take (k+1)).flatMap msB=L2):=⟨_,rfl⟩;rw[HG2.out]at HS;generalize L++(Q.ms.take k).flatMap msB=L1 at HS ho hle;generalize Q.ms[k]=m at*
   have g0:wr.cell? ⟨g,k*5,none⟩=some (.int .i64 m.num):=hc 0 _ rfl;have g1:wr.cell? ⟨g,k*5+1,none⟩=some (.string m.grp):=hc 1 _ rfl;have g2:wr.cell? ⟨g,k*5+2,none⟩=some (.string m.bod):=hc 2 _ rfl;have g3:wr.cell? ⟨g,k*5+3,none⟩=some (.int .i64 m.rcv):=hc 3 _ rfl;have g4:wr.cell? ⟨g,k*5+4,none⟩=some (.int .i64 m.til):=hc 4 _ rfl;have zr:=hbr.size;have HBR:Hid (BF base w (wr.alloc (.cells #[.int .i64 m.num,.string m.grp,.string m.bod,.int .i64 m.rcv,.int .i64 m.til] 226))):=hbr.alloc (by omega) _;have HX0:Hid ((wr.alloc (.cells #[.int .i64 m.num,.string m.grp,.string m.bod,.int .i64 m.rcv,.int .i64 m.til] 226)).heap[wr.heap.size]?=some (.cells #[.int .i64 m.num,.string m.grp,.string m.bod,.int .i64 m.rcv,.int .i64 m.til] 226 (0,0))):=heap_alloc_new _ _;have HO0:Hid (OwnB (wr.alloc (.cells #[.int .i64 m.num,.string m.grp,.string m.bod,.int .i64 m.rcv,.int .i64 m.til] 226)) base u1 L1):=World.ownsRow.alloc ho _;have hsz0:(wr.alloc (.cells #[.int .i64 m.num,.string m.grp,.string m.bod,.int .i64 m.rcv,.int .i64 m.til] 226)).heap.size=wr.heap.size+1:=World.size_alloc _ _;clear hc hq ho hbr;have H1c:Hid (Cp 91 #[u1,.int .i64 m.num,.int .i64 4] (wr.alloc (.cells #[.int .i64 m.num,.string m.grp,.string m.bod,.int .i64 m.rcv,.int .i64 m.til] 226)) fun e w'=>∃v',e=.returned v'/\OwnB w' base v' (L1++je m.num.toNat 4)/\Below base (wr.alloc (.cells #[.int .i64 m.num,.string m.grp,.string m.bod,.int .i64 m.rcv,.int .i64 m.til] 226)) w'/\Fr 0 [5] (wr.alloc (.cells #[.int .i64 m.num,.string m.grp,.string m.bod,.int .i64 m.rcv,.int .i64 m.til] 226)) w'):=kH base u1 L1 m.num 4 (wr.alloc (.cells #[.int .i64 m.num,.string m.grp,.string m.bod,.int .i64 m.rcv,.int .i64 m.til] 226)) hw.num (by decide) (by omega) (by omega) HO0.out;go_wp2_with fail;refine H1c.out.mono ?_;rintro e y1 ⟨t1,rfl,ho,hb,hf⟩;have HX1:Hid (y1.heap[wr.heap.size]?=some (.cells #[.int .i64 m.num,.string m.grp,.string m.bod,.int .i64 m.rcv,.int .i64 m.til] 226 (0,0))):=hf.keep _ _ _ HX0.out (by decide);have HB1y:=zH (HBR.out.trans ⟨hb,hf⟩);have zy1:=hb.size;have hle1:(L1++je m.num.toNat 4).length<=1100070000:=by rw[List.length_append,jc];omega
   have HEE1:∃A,Hid (A=L1++je m.num.toNat 4):=⟨_,rfl⟩;obtain⟨A1,HA1⟩:=HEE1;rw[<-HA1.out]at ho hle1;have HO1y:=zH ho;clear ho hb hf H1c;have f2:y1.cell? ⟨wr.heap.size,1,none⟩=some (.string m.grp):=jb HX1.out 1 _ rfl;have H2c:=zH (qy base t1 A1 m.grp y1 (by have:=hw.grp;omega) (by omega) (by omega) HO1y.out);go_wp2_with fail;refine H2c.out.mono ?_;rintro e y2 ⟨t2,rfl,ho,hb,hf⟩;have HX2:Hid (y2.heap[wr.heap.size]?=some (.cells #[.int .i64 m.num,.string m.grp,.string m.bod,.int .i64 m.rcv,.int .i64 m.til] 226 (0,0))):=hf.keep _ _ _ HX1.out (by decide);have HB2y:=zH (HB1y.out.trans ⟨hb,hf⟩);have hle2:(A1++jx m.grp).length<=1100140000:=by rw[List.length_append,jp];have:=hw.grp;omega
   have HEE2:∃A,Hid (A=A1++jx m.grp):=⟨_,rfl⟩;obtain⟨A2,HA2⟩:=HEE2;rw[<-HA2.out]at ho hle2;have HO2y:=zH ho;clear ho hb hf H2c f2;have f3:y2.cell? ⟨wr.heap.size,2,none⟩=some (.string m.bod):=jb HX2.out 2 _ rfl;have lx3:wr.heap.size<y2.heap.size:=lt_of_block HX2.out;have H3c:=zH (qy base t2 A2 m.bod y2 (by have:=hw.bod;omega) (by omega) (by omega) HO2y.out);go_wp2_with fail;refine H3c.out.mono ?_;rintro e y3 ⟨t3,rfl,ho,hb,hf⟩;have HX3:Hid (y3.heap[wr.heap.size]?=some (.cells #[.int .i64 m.num,.string m.grp,.string m.bod,.int .i64 m.rcv,.int .i64 m.til] 226 (0,0))):=hf.keep _ _ _ HX2.out (by decide);have HB3y:=zH (HB2y.out.trans ⟨hb,hf⟩);have hle3:(A2++jx m.bod).length<=1100210000:=by rw[List.length_append,jp];have:=hw.bod;omega
   have HEE3:∃A,Hid (A=A2++jx m.bod):=⟨_,rfl⟩;obtain⟨A3,HA3⟩:=HEE3;rw[<-HA3.out]at ho hle3;have HO3y:=zH ho;clear ho hb hf H3c f3 lx3;have f4:y3.cell? ⟨wr.heap.size,3,none⟩=some (.int .i64 m.rcv):=jb HX3.out 3 _ rfl;have lx4:wr.heap.size<y3.heap.size:=lt_of_block HX3.out;have H4c:Hid (Cp 91 #[t3,.int .i64 m.rcv,.int .i64 2] y3 fun e w'=>∃v',e=.returned v'/\OwnB w' base v' (A3++je m.rcv.toNat 2)/\Below base y3 w'/\Fr 0 [5] y3 w'):=kH base t3 A3 m.rcv 2 y3 hw.rcv (by decide) (by omega) (by omega) HO3y.out;go_wp2_with fail;refine H4c.out.mono ?_;rintro e y4 ⟨t4,rfl,ho,hb,hf⟩;have HX4:Hid (y4.heap[wr.heap.size]?=some (.cells #[.int .i64 m.num,.string m.grp,.string m.bod,.int .i64 m.rcv,.int .i64 m.til] 226 (0,0))):=hf.keep _ _ _ HX3.out (by decide);have HB4y:=zH (HB3y.out.trans ⟨hb,hf⟩);have hle4:(A3++je m.rcv.toNat 2).length<=1100280000:=by rw[List.length_append,jc];omega
   have HEE4:∃A,Hid (A=A3++je m.rcv.toNat 2):=⟨_,rfl⟩;obtain⟨A4,HA4⟩:=HEE4;rw[<-HA4.out]at ho hle4;have HO4y:=zH ho;clear ho hb hf H4c f4 lx4;have f5:y4.cell? ⟨wr.heap.size,4,none⟩=some (.int .i64 m.til):=jb HX4.out 4 _ rfl;have lx5:wr.heap.size<y4.heap.size:=lt_of_block HX4.out;have H5c:Hid (Cp 91 #[t4,.int .i64 m.til,.int .i64 4] y4 fun e w'=>∃v',e=.returned v'/\OwnB w' base v' (A4++je m.til.toNat 4)/\Below base y4 w'/\Fr 0 [5] y4 w'):=kH base t4 A4 m.til 4 y4 hw.til (by decide) (by omega) (by omega) HO4y.out;go_wp2_with fail;refine H5c.out.mono ?_;rintro e y5 ⟨t5,rfl,ho,hb,hf⟩;have HB5y:=zH (HB4y.out.trans ⟨hb,hf⟩);have hle5:(A4++je m.til.toNat 4).length<=1100350000:=by rw[List.length_append,jc];omega
   have HEE5:∃A,Hid (A=A4++je m.til.toNat 4):=⟨_,rfl⟩;obtain⟨A5,HA5⟩:=HEE5;rw[<-HA5.out]at ho hle5;have HO5y:=zH ho;clear ho hb hf H5c f5 lx5;have HF:Hid (OwnB y5 base t5 L2):=by
    have e:L2=A5:=by rw[HS.out,HA5.out,HA4.out,HA3.out,HA2.out,HA1.out];simp[msB]
    rw[e];exact HO5y.out
   go_wp2_with fail;go_roundw
   case rel=>exact⟨k+1,by omega,by go_num,by rw[HG2.out];exact HF.out,HB5y.out⟩
   case measure=>simp[intOf];omega
  ·have he:Q.ms.take k=Q.ms:=List.take_of_length_le (by omega);rw[he,<-HLS.out]at ho;have HO2:=zH ho;have HBR:=zH hbr;clear he ho hbr;go_wp2_with fail;go_ret;exact⟨_,rfl,HO2.out,HBR.out⟩
theorem a8O (base:Nat)(v:Value)(l:List UInt8)(Q:QM)(V:QV)(qb:Nat)(w:World)(h:QR w qb V Q)(hlo:∀b∈qbl qb V,b<base)(hn:Q.ds.length<=1000)(hW:∀m∈Q.ds,DdW m)(hl:l.length<=1000000000)(hb:base<=w.heap.size)(hown:OwnB w base v l):
  Cp 155 #[zp qb,v] w fun e w'=>∃v',e=.returned v'/\OwnB w' base v' (l++(je Q.ds.length 1++Q.ds.flatMap ddB))/\BF base w w':=by
 obtain⟨i0,hi,hz0,hz1,hz2⟩:=info_parts zh;have HQ:Hid (∀W,BF base w W->QR W qb V Q):=fun W hW=>h.below hlo hW.1
 have lqb:=hlo qb (by simp[qbl]);obtain⟨am,cm,hvm⟩:=jl h.d;have HV:=zH hvm;have c7:w.cell? ⟨qb,9,none⟩=some (.slice am Q.ds.length cm):=by rw[<-hvm];exact jb h.blk 9 _ rfl
 have H1:Hid (Cp 91 #[v,.int .i64 (Q.ds.length:Int),.int .i64 1] w fun e w'=>∃v',e=.returned v'/\OwnB w' base v' (l++je Q.ds.length 1)/\Below base w w'/\Fr 0 [5] w w'):=jR base v l Q.ds.length 1 w (by omega) (by decide) (by omega) hb hown;have HW:=zH hW;clear h hown hW hvm;go_enter Tryz.func155,Tryz.ntmps155;go_wp2_with fail;refine H1.out.mono ?_;rintro e w1 ⟨v1,rfl,ho1,hb1,hf1⟩;have q1:=HQ.out w1 ⟨hb1,hf1⟩;have z1:=hb1.size;have d7:w1.cell? ⟨qb,9,none⟩=some (.slice am Q.ds.length cm):=by rw[<-HV.out];exact jb q1.blk 9 _ rfl
 have HLE:Hid ((l++je Q.ds.length 1).length<=1000000010):=by show _<=_;rw[List.length_append,jc];omega
 have HLS:Hid (l++(je Q.ds.length 1++Q.ds.flatMap ddB)=(l++je Q.ds.length 1)++Q.ds.flatMap ddB):=by show _=_;rw[List.append_assoc]
 generalize l++je Q.ds.length 1=L at ho1 HLE HLS;have HO1:=zH ho1;have HB1:Hid (BF base w w1):=⟨hb1,hf1⟩;clear ho1 hb1 hf1 q1 c7 H1;go_wp2_with fail
 go_loopw [1,19] (fun o i wr=>∃k:Nat,k<=Q.ds.length/\i=.int .i64 (k:Int)/\OwnB wr base o (L++(Q.ds.take k).flatMap ddB)/\BF base w wr) (fun _ i _=>Q.ds.length-(intOf i).toNat)
 case atStart=>exact⟨0,Nat.zero_le _,rfl,by simpa using HO1.out,HB1.out⟩
 case round=>
  obtain⟨k,hk,rfl,ho,hbr⟩:=hrel
  by_cases hlt:k<Q.ds.length
  ·have hq:=HQ.out wr hbr;obtain⟨g,c,hv,hg,hc⟩:=hq.dsc k hlt;rw[HV.out]at hv;simp only[Value.slice.injEq,true_and]at hv;obtain⟨rfl,rfl⟩:=hv;have hw:=HW.out _ (List.getElem_mem hlt);have hle:(L++(Q.ds.take k).flatMap ddB).length<=1100000000:=by
    rw[List.length_append];have h1:=vb ddB 17 (Q.ds.take k) (fun m hm=>by have h2:=HW.out m (List.mem_of_mem_take hm);rw[a7X];have:=h2.id;omega);have h2:=HLE.out;rw[List.length_take]at h1;have h3:17*min k Q.ds.length<=17*1000:=Nat.mul_le_mul_left _ (by omega);omega
   have HS:=zH (a1c ddB L Q.ds k hlt);obtain⟨L2,HG2⟩:∃L2,Hid (L++(Q.ds.take (k+1)).flatMap ddB=L2):=⟨_,rfl⟩;rw[HG2.out]at HS;generalize L++(Q.ds.take k).flatMap ddB=L1 at HS ho hle;generalize Q.ds[k]=m at*
   have g0:wr.cell? ⟨g,k*3,none⟩=some (.string m.id):=hc 0 _ rfl;have g1:wr.cell? ⟨g,k*3+1,none⟩=some (.int .i64 m.num):=hc 1 _ rfl;have g2:wr.cell? ⟨g,k*3+2,none⟩=some (.int .i64 m.til):=hc 2 _ rfl;have zr:=hbr.size;have HBR:Hid (BF base w (wr.alloc (.cells #[.string m.id,.int .i64 m.num,.int .i64 m.til] 230))):=hbr.alloc (by omega) _;have HX0:Hid ((wr.alloc (.cells #[.string m.id,.int .i64 m.num,.int .i64 m.til] 230)).heap[wr.heap.size]?=some (.cells #[.string m.id,.int .i64 m.num,.int .i64 m.til] 230 (0,0))):=heap_alloc_new _ _;have HO0:Hid (OwnB (wr.alloc (.cells #[.string m.id,.int .i64 m.num,.int .i64 m.til] 230)) base u1 L1):=World.ownsRow.alloc ho _;have hsz0:(wr.alloc (.cells #[.string m.id,.int .i64 m.num,.int .i64 m.til] 230)).heap.size=wr.heap.size+1:=World.size_alloc _ _;clear hc hq ho hbr;have H1c:=zH (qy base u1 L1 m.id (wr.alloc (.cells #[.string m.id,.int .i64 m.num,.int .i64 m.til] 230)) (by have:=hw.id;omega) (by omega) (by omega) HO0.out);go_wp2_with fail;refine H1c.out.mono ?_;rintro e y1 ⟨t1,rfl,ho,hb,hf⟩;have HX1:Hid (y1.heap[wr.heap.size]?=some (.cells #[.string m.id,.int .i64 m.num,.int .i64 m.til] 230 (0,0))):=hf.keep _ _ _ HX0.out (by decide);have HB1y:=zH (HBR.out.trans ⟨hb,hf⟩);have zy1:=hb.size;have hle1:(L1++jx m.id).length<=1100070000:=by rw[List.length_append,jp];have:=hw.id;omega
   have HEE1:∃A,Hid (A=L1++jx m.id):=⟨_,rfl⟩;obtain⟨A1,HA1⟩:=HEE1;rw[<-HA1.out]at ho hle1;have HO1y:=zH ho;clear ho hb hf H1c;have f2:y1.cell? ⟨wr.heap.size,1,none⟩=some (.int .i64 m.num):=jb HX1.out 1 _ rfl;have H2c:Hid (Cp 91 #[t1,.int .i64 m.num,.int .i64 4] y1 fun e w'=>∃v',e=.returned v'/\OwnB w' base v' (A1++je m.num.toNat 4)/\Below base y1 w'/\Fr 0 [5] y1 w'):=kH base t1 A1 m.num 4 y1 hw.num (by decide) (by omega) (by omega) HO1y.out;go_wp2_with fail;refine H2c.out.mono ?_;rintro e y2 ⟨t2,rfl,ho,hb,hf⟩;have HX2:Hid (y2.heap[wr.heap.size]?=some (.cells #[.string m.id,.int .i64 m.num,.int .i64 m.til] 230 (0,0))):=hf.keep _ _ _ HX1.out (by decide);have HB2y:=zH (HB1y.out.trans ⟨hb,hf⟩);have hle2:(A1++je m.num.toNat 4).length<=1100140000:=by rw[List.length_append,jc];omega
   have HEE2:∃A,Hid (A=A1++je m.num.toNat 4):=⟨_,rfl⟩;obtain⟨A2,HA2⟩:=HEE2;rw[<-HA2.out]at ho hle2;have HO2y:=zH ho;clear ho hb hf H2c f2;have f3:y2.cell? ⟨wr.heap.size,2,none⟩=some (.int .i64 m.til):=jb HX2.out 2 _ rfl;have lx3:wr.heap.size<y2.heap.size:=lt_of_block HX2.out;have H3c:Hid (Cp 91 #[t2,.int .i64 m.til,.int .i64 4] y2 fun e w'=>∃v',e=.returned v'/\OwnB w' base v' (A2++je m.til.toNat 4)/\Below base y2 w'/\Fr 0 [5] y2 w'):=kH base t2 A2 m.til 4 y2 hw.til (by decide) (by omega) (by omega) HO2y.out;go_wp2_with fail;refine H3c.out.mono ?_;rintro e y3 ⟨t3,rfl,ho,hb,hf⟩;have HB3y:=zH (HB2y.out.trans ⟨hb,hf⟩);have hle3:(A2++je m.til.toNat 4).length<=1100210000:=by rw[List.length_append,jc];omega
   have HEE3:∃A,Hid (A=A2++je m.til.toNat 4):=⟨_,rfl⟩;obtain⟨A3,HA3⟩:=HEE3;rw[<-HA3.out]at ho hle3;have HO3y:=zH ho;clear ho hb hf H3c f3 lx3;have HF:Hid (OwnB y3 base t3 L2):=by
    have e:L2=A3:=by rw[HS.out,HA3.out,HA2.out,HA1.out];simp[ddB]
    rw[e];exact HO3y.out
   go_wp2_with fail;go_roundw
   case rel=>exact⟨k+1,by omega,by go_num,by rw[HG2.out];exact HF.out,HB3y.out⟩
   case measure=>simp[intOf];omega
  ·have he:Q.ds.take k=Q.ds:=List.take_of_length_le (by omega);rw[he,<-HLS.out]at ho;have HO2:=zH ho;have HBR:=zH hbr;clear he ho hbr;go_wp2_with fail;go_ret;exact⟨_,rfl,HO2.out,HBR.out⟩
theorem a8N (base:Nat)(v:Value)(l:List UInt8)(Q:QM)(V:QV)(qb:Nat)(w:World)(h:QR w qb V Q)(hlo:∀b∈qbl qb V,b<base)(hn:Q.ats.length<=1000)(hW:∀m∈Q.ats,AtW m)(hl:l.length<=1000000000)(hb:base<=w.heap.size)(hown:OwnB w base v l):
  Cp 156 #[zp qb,v] w fun e w'=>∃v',e=.returned v'/\OwnB w' base v' (l++(je Q.ats.length 1++Q.ats.flatMap atB))/\BF base w w':=by
 obtain⟨i0,hi,hz0,hz1,hz2⟩:=info_parts zh;have HQ:Hid (∀W,BF base w W->QR W qb V Q):=fun W hW=>h.below hlo hW.1
 have lqb:=hlo qb (by simp[qbl]);obtain⟨am,cm,hvm⟩:=jl h.a;have HV:=zH hvm;have c7:w.cell? ⟨qb,10,none⟩=some (.slice am Q.ats.length cm):=by rw[<-hvm];exact jb h.blk 10 _ rfl
 have H1:Hid (Cp 91 #[v,.int .i64 (Q.ats.length:Int),.int .i64 1] w fun e w'=>∃v',e=.returned v'/\OwnB w' base v' (l++je Q.ats.length 1)/\Below base w w'/\Fr 0 [5] w w'):=jR base v l Q.ats.length 1 w (by omega) (by decide) (by omega) hb hown;have HW:=zH hW;clear h hown hW hvm;go_enter Tryz.func156,Tryz.ntmps156;go_wp2_with fail;refine H1.out.mono ?_;rintro e w1 ⟨v1,rfl,ho1,hb1,hf1⟩;have q1:=HQ.out w1 ⟨hb1,hf1⟩;have z1:=hb1.size;have d7:w1.cell? ⟨qb,10,none⟩=some (.slice am Q.ats.length cm):=by rw[<-HV.out];exact jb q1.blk 10 _ rfl
 have HLE:Hid ((l++je Q.ats.length 1).length<=1000000010):=by show _<=_;rw[List.length_append,jc];omega
 have HLS:Hid (l++(je Q.ats.length 1++Q.ats.flatMap atB)=(l++je Q.ats.length 1)++Q.ats.flatMap atB):=by show _=_;rw[List.append_assoc]
 generalize l++je Q.ats.length 1=L at ho1 HLE HLS;have HO1:=zH ho1;have HB1:Hid (BF base w w1):=⟨hb1,hf1⟩;clear ho1 hb1 hf1 q1 c7 H1;go_wp2_with fail
 go_loopw [1,19] (fun o i wr=>∃k:Nat,k<=Q.ats.length/\i=.int .i64 (k:Int)/\OwnB wr base o (L++(Q.ats.take k).flatMap atB)/\BF base w wr) (fun _ i _=>Q.ats.length-(intOf i).toNat)
 case atStart=>exact⟨0,Nat.zero_le _,rfl,by simpa using HO1.out,HB1.out⟩
 case round=>
  obtain⟨k,hk,rfl,ho,hbr⟩:=hrel
  by_cases hlt:k<Q.ats.length
  ·have hq:=HQ.out wr hbr;obtain⟨g,c,hv,hg,hc⟩:=hq.asc k hlt;rw[HV.out]at hv;simp only[Value.slice.injEq,true_and]at hv;obtain⟨rfl,rfl⟩:=hv;have hw:=HW.out _ (List.getElem_mem hlt);have hle:(L++(Q.ats.take k).flatMap atB).length<=1100000000:=by
    rw[List.length_append];have h1:=vb atB 615 (Q.ats.take k) (fun m hm=>by have h2:=HW.out m (List.mem_of_mem_take hm);rw[a7P];have:=h2.id;have:=h2.ans;omega);have h2:=HLE.out;rw[List.length_take]at h1;have h3:615*min k Q.ats.length<=615*1000:=Nat.mul_le_mul_left _ (by omega);omega
   have HS:=zH (a1c atB L Q.ats k hlt);obtain⟨L2,HG2⟩:∃L2,Hid (L++(Q.ats.take (k+1)).flatMap atB=L2):=⟨_,rfl⟩;rw[HG2.out]at HS;generalize L++(Q.ats.take k).flatMap atB=L1 at HS ho hle;generalize Q.ats[k]=m at*
   have g0:wr.cell? ⟨g,k*3,none⟩=some (.string m.id):=hc 0 _ rfl;have g1:wr.cell? ⟨g,k*3+1,none⟩=some (.int .i64 m.til):=hc 1 _ rfl;have g2:wr.cell? ⟨g,k*3+2,none⟩=some (.string m.ans):=hc 2 _ rfl;have zr:=hbr.size;have HBR:Hid (BF base w (wr.alloc (.cells #[.string m.id,.int .i64 m.til,.string m.ans] 234))):=hbr.alloc (by omega) _;have HX0:Hid ((wr.alloc (.cells #[.string m.id,.int .i64 m.til,.string m.ans] 234)).heap[wr.heap.size]?=some (.cells #[.string m.id,.int .i64 m.til,.string m.ans] 234 (0,0))):=heap_alloc_new _ _;have HO0:Hid (OwnB (wr.alloc (.cells #[.string m.id,.int .i64 m.til,.string m.ans] 234)) base u1 L1):=World.ownsRow.alloc ho _;have hsz0:(wr.alloc (.cells #[.string m.id,.int .i64 m.til,.string m.ans] 234)).heap.size=wr.heap.size+1:=World.size_alloc _ _;clear hc hq ho hbr;have H1c:=zH (qy base u1 L1 m.id (wr.alloc (.cells #[.string m.id,.int .i64 m.til,.string m.ans] 234)) (by have:=hw.id;omega) (by omega) (by omega) HO0.out);go_wp2_with fail;refine H1c.out.mono ?_;rintro e y1 ⟨t1,rfl,ho,hb,hf⟩;have HX1:Hid (y1.heap[wr.heap.size]?=some (.cells #[.string m.id,.int .i64 m.til,.string m.ans] 234 (0,0))):=hf.keep _ _ _ HX0.out (by decide);have HB1y:=zH (HBR.out.trans ⟨hb,hf⟩);have zy1:=hb.size;have hle1:(L1++jx m.id).length<=1100070000:=by rw[List.length_append,jp];have:=hw.id;omega
   have HEE1:∃A,Hid (A=L1++jx m.id):=⟨_,rfl⟩;obtain⟨A1,HA1⟩:=HEE1;rw[<-HA1.out]at ho hle1;have HO1y:=zH ho;clear ho hb hf H1c;have f2:y1.cell? ⟨wr.heap.size,1,none⟩=some (.int .i64 m.til):=jb HX1.out 1 _ rfl;have H2c:Hid (Cp 91 #[t1,.int .i64 m.til,.int .i64 4] y1 fun e w'=>∃v',e=.returned v'/\OwnB w' base v' (A1++je m.til.toNat 4)/\Below base y1 w'/\Fr 0 [5] y1 w'):=kH base t1 A1 m.til 4 y1 hw.til (by decide) (by omega) (by omega) HO1y.out;go_wp2_with fail;refine H2c.out.mono ?_;rintro e y2 ⟨t2,rfl,ho,hb,hf⟩;have HX2:Hid (y2.heap[wr.heap.size]?=some (.cells #[.string m.id,.int .i64 m.til,.string m.ans] 234 (0,0))):=hf.keep _ _ _ HX1.out (by decide);have HB2y:=zH (HB1y.out.trans ⟨hb,hf⟩);have hle2:(A1++je m.til.toNat 4).length<=1100140000:=by rw[List.length_append,jc];omega
   have HEE2:∃A,Hid (A=A1++je m.til.toNat 4):=⟨_,rfl⟩;obtain⟨A2,HA2⟩:=HEE2;rw[<-HA2.out]at ho hle2;have HO2y:=zH ho;clear ho hb hf H2c f2;have f3:y2.cell? ⟨wr.heap.size,2,none⟩=some (.string m.ans):=jb HX2.out 2 _ rfl;have lx3:wr.heap.size<y2.heap.size:=lt_of_block HX2.out;have H3c:Hid (Cp 91 #[t2,.int .i64 (m.ans.size:Int),.int .i64 2] y2 fun e w'=>∃v',e=.returned v'/\OwnB w' base v' (A2++je m.ans.size 2)/\Below base y2 w'/\Fr 0 [5] y2 w'):=jR base t2 A2 m.ans.size 2 y2 (by have:=hw.ans;omega) (by decide) (by omega) (by omega) HO2y.out;go_wp2_with fail;refine H3c.out.mono ?_;rintro e y3 ⟨t3,rfl,ho,hb,hf⟩;have HX3:Hid (y3.heap[wr.heap.size]?=some (.cells #[.string m.id,.int .i64 m.til,.string m.ans] 234 (0,0))):=hf.keep _ _ _ HX2.out (by decide);have HB3y:=zH (HB2y.out.trans ⟨hb,hf⟩);have hle3:(A2++je m.ans.size 2).length<=1100210000:=by rw[List.length_append,jc];omega
   have HEE3:∃A,Hid (A=A2++je m.ans.size 2):=⟨_,rfl⟩;obtain⟨A3,HA3⟩:=HEE3;rw[<-HA3.out]at ho hle3;have HO3y:=zH ho;clear ho hb hf H3c f3 lx3;have f4:y3.cell? ⟨wr.heap.size,2,none⟩=some (.string m.ans):=jb HX3.out 2 _ rfl;have lx4:wr.heap.size<y3.heap.size:=lt_of_block HX3.out;go_wp2_with (at_builtin;refine Lib.wpList_append_own_string _ rfl _ _ 74 9 rfl base 5 i0 Tryz.underlying74 Tryz.underlying9 hi hz0 hz1 hz2 _ _ _ rfl HO3y.out m.ans rfl ?c1 ?c2 ?c3 ?_)
   case c1=>unfold maxLen;have:=hw.ans;omega
   case c2=>have:=hw.ans;omega
   case c3=>omega
   intro t4 y4 hown' hgrow _;have ho:OwnB y4 base t4 (A3++m.ans.data.toList):=by
    unfold OwnB;have e1:kO (A3++m.ans.data.toList)=kO A3++Lib.strCells m.ans:=by rw[<-a0O];simp[kO]
    have e2:(A3++m.ans.data.toList).length=A3.length+m.ans.size:=by rw[List.length_append];rfl
    rw[e1,e2];exact hown'
   have HB4y:=zH (BF.grown HB3y.out HO3y.out hgrow (by omega));have HEE4:∃A,Hid (A=A3++m.ans.data.toList):=⟨_,rfl⟩;obtain⟨A4,HA4⟩:=HEE4;rw[<-HA4.out]at ho;have HO4y:=zH ho;clear ho hown' hgrow f4 lx4;have HF:Hid (OwnB y4 base t4 L2):=by
    have e:L2=A4:=by rw[HS.out,HA4.out,HA3.out,HA2.out,HA1.out];simp[atB]
    rw[e];exact HO4y.out
   go_wp2_with fail;go_roundw
   case rel=>exact⟨k+1,by omega,by go_num,by rw[HG2.out];exact HF.out,HB4y.out⟩
   case measure=>simp[intOf];omega
  ·have he:Q.ats.take k=Q.ats:=List.take_of_length_le (by omega);rw[he,<-HLS.out]at ho;have HO2:=zH ho;have HBR:=zH hbr;clear he ho hbr;go_wp2_with fail;go_ret;exact⟨_,rfl,HO2.out,HBR.out⟩
end Go.Proofs.YtbdobaapadlcjaaGreatDoor
