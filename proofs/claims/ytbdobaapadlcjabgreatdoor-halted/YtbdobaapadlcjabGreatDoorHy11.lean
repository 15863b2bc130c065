import Derived.Test.YtbdobaapadlcjabGreatDoorHy10
set_option maxRecDepth 8000
set_option maxHeartbeats 4000000
set_option linter.unusedVariables false
set_option linter.unusedSimpArgs false
namespace Go.Proofs.YtbdobaapadlcjabGreatDoor
open Go.Shelf Go.RowKit Go.Lib
variable {k j:Nat}
theorem putMany_take (vs:List Value):∀(xs:List Value) (o m:Nat),m<=o->(putMany xs o vs).take m=xs.take m:=by
 induction vs with
 | nil=>intro xs o m _;rfl
 | cons v r ih=>
  intro xs o m h;simp only[putMany];rw[ih (xs.set o v) (o+1) m (by omega),List.take_set_of_le h]
theorem putMany_mid (vs:List Value):∀(pre ys post:List Value),ys.length=vs.length->putMany (pre++(ys++post)) pre.length vs=pre++(vs++post):=by
 induction vs with
 | nil=>
  intro pre ys post h;have e:ys=[]:=List.length_eq_zero_iff.1 h;simp[putMany,e]
 | cons v r ih=>
  intro pre ys post h
  cases ys with
  | nil=>simp at h
  | cons y ys=>
   simp only[putMany,List.cons_append];rw[List.set_append_right _ _ (Nat.le_refl _),Nat.sub_self,List.set_cons_zero];have e1:pre++v::(ys++post)=(pre++[v])++(ys++post):=by simp
   have e2:pre.length+1=(pre++[v]).length:=by simp
   rw[e1,e2,ih (pre++[v]) ys post (by simpa using h)];simp
theorem flat_put {α:Type}(row:α->List Value)(k:Nat)(hk:∀x,(row x).length=k)(L:List α)(i:Nat)(x:α)(hi:i<L.length):putMany (L.flatMap row) (i*k) (row x)=(L.set i x).flatMap row:=by
 have e1:L.flatMap row=(L.take i).flatMap row++(row L[i]++(L.drop (i+1)).flatMap row):=by
  rw[<-List.flatMap_cons,<-List.flatMap_append,List.getElem_cons_drop,List.take_append_drop]
 have e2:((L.take i).flatMap row).length=i*k:=by rw[flat_len row k hk,List.length_take,Nat.min_eq_left (by omega)]
 rw[e1,<-e2,putMany_mid _ _ _ _ (by rw[hk,hk]),List.set_eq_take_append_cons_drop,if_pos hi,List.flatMap_append,List.flatMap_cons]
theorem flat_take {α:Type}(row:α->List Value)(k:Nat)(hk:∀x,(row x).length=k)(L:List α)(i:Nat)(hi:i<=L.length):(L.flatMap row).take (i*k)=(L.take i).flatMap row:=by
 have e1:L.flatMap row=(L.take i).flatMap row++(L.drop i).flatMap row:=by rw[<-List.flatMap_append,List.take_append_drop]
 have e2:((L.take i).flatMap row).length=i*k:=by rw[flat_len row k hk,List.length_take,Nat.min_eq_left (by omega)]
 rw[e1,<-e2,List.take_left'];rfl
structure Dl {α:Type}(p:α->Bool)(l L:List α)(k j:Nat):Prop where
 kj:k<j
 jn:j<=l.length
 len:L.length=l.length
 tk:L.take k=(l.take j).filter (fun x=>!p x)
 dr:L.drop j=l.drop j
theorem Dl.get {α:Type}{p:α->Bool}{l L:List α}(h:Dl p l L k j)(hj:j<l.length):L[j]?=l[j]?:=by
 have h1:=congrArg (fun z=>z[0]?) h.dr;simpa using h1
theorem Dl.keep {α:Type}{p:α->Bool}{l L:List α}(h:Dl p l L k j)(x:α)(hx:l[j]?=some x)(hp:p x=false):Dl p l (L.set k x) (k+1) (j+1):=by
 have hj:j<l.length:=(List.getElem?_eq_some_iff.1 hx).1;have hxe:l[j]=x:=(List.getElem?_eq_some_iff.1 hx).2;have hk:=h.kj;have hl:=h.len;refine⟨by omega,by omega,by rw[List.length_set];exact h.len,?_,?_⟩
 ·have e1:(L.set k x).take (k+1)=L.take k++[x]:=by
   rw[List.take_succ_eq_append_getElem (by simp;omega),List.take_set_of_le (Nat.le_refl _)];simp
  rw[e1,h.tk,List.take_succ_eq_append_getElem hj,List.filter_append,hxe];simp[hp]
 ·rw[List.drop_set_of_lt (show k<j+1 by omega)];have h1:=congrArg (List.drop 1) h.dr;simpa using h1
theorem Dl.skip {α:Type}{p:α->Bool}{l L:List α}(h:Dl p l L k j)(x:α)(hx:l[j]?=some x)(hp:p x=true):Dl p l L k (j+1):=by
 have hj:j<l.length:=(List.getElem?_eq_some_iff.1 hx).1;have hxe:l[j]=x:=(List.getElem?_eq_some_iff.1 hx).2;have hk:=h.kj;refine⟨by omega,by omega,h.len,?_,?_⟩
 ·rw[h.tk,List.take_succ_eq_append_getElem hj,List.filter_append,hxe];simp[hp]
 ·have h1:=congrArg (List.drop 1) h.dr;simpa using h1
theorem idxL_first {α:Type}(p:α->Bool):∀(l:List α) (i:Nat),idxL p l=(i:Int)->Dl p l l i (i+1)
 | [],i,h=>by simp[idxL]at h
 | x::l,i,h=>by
  simp only[idxL]at h
  by_cases hx:p x=true
  ·rw[if_pos hx]at h;have hi:i=0:=by omega
   subst hi;exact⟨by omega,by simp,rfl,by simp[hx],rfl⟩
  ·rw[if_neg hx]at h;have hg:=idxL_ge p l;have hx':p x=false:=by simpa using hx
   split at h
   ·omega
   ·have ih:=idxL_first p l (i-1) (by omega);have hi:i-1+1=i:=by omega
    have hjn:=ih.jn;rw[hi]at ih hjn;refine⟨by omega,by simp;omega,rfl,?_,rfl⟩;have h1:=ih.tk;rw[List.take_succ_cons,List.filter_cons];simp only[hx',Bool.not_false,if_true];rw[<-h1]
    cases i with
    | zero=>omega
    | succ i=>simp
theorem idxL_none {α:Type}(p:α->Bool)(l:List α)(h:idxL p l<0):l.filter (fun x=>!p x)=l:=by
 rw[List.filter_eq_self];intro x hx;rw[(idxL_neg p l).1 h x hx];rfl
theorem idx_delD (v:Value)(l:List Dd)(now:Int)(B:Nat)(w:World)(ho:w.ownsRow 0 195 3 v l.length (l.flatMap Dd.row))(hl:l.length<=1000000)(hB:B<w.heap.size)(hcell:w.cell? ⟨B,0,none⟩=some (.int .i64 now)):
  zB 197 #[v,.func (.func 210) #[] #[.pointer (some ⟨B,0,none⟩)]] w (.int .i64 (idxL (fun x=>decide (x.til<=now)) l)):=by
 have inh:Inhabited Dd:=⟨⟨⟨#[]⟩,0,0⟩⟩;rcases ho.2 with ⟨rfl,h0⟩|⟨gd,cap,cur,rfl,_,hg,_⟩
 ·have e0:l=[]:=List.length_eq_zero_iff.1 h0;subst e0;refine(idx_dd_none none 0 _ w).mono ?_;rintro e w' ⟨rfl,rfl⟩;exact⟨rfl,Below.refl _ _⟩
 ·have h:=AnyQ.slices_IndexFunc l201 3 Tryz.isAgg195 Tryz.sizeOf195 Dd.row (fun _=>rfl) (fun x=>decide (x.til<=now)) 210 #[.pointer (some ⟨B,0,none⟩)] eg241 gd 0 l.length cap l w (del_pred now B w hB hcell) (Nat.le_refl _) (by omega) (lt_of_block hg) (fun j hj i v hi=>own_cells Dd.row 3 (fun _=>rfl) ho j hj i v hi);rw[List.take_length,idxBy_eq]at h;exact h
theorem zeroD (w:World):(zeroValue 195).run Tryz.prog w=.ok (.agg #[.string ⟨#[]⟩,.int .i64 0,.int .i64 0]) w:=by kernel_rfl
theorem run_clearD (w:World)(ty:TypeId)(g k m cd:Nat)(hc:∀j,j<m*3->(w.cell? ⟨g,k*3+j,none⟩).isSome=true)(hf:∀j,w.frozen? ⟨g,j,none⟩=false)(hm:0<m):
  (Builtin.clear_ #[134] ty #[.slice (some ⟨g,k*3,none⟩) m cd]).run Tryz.prog w=.ok (.tuple #[]) (w.setCells g (k*3) (Builtin.zeroCells #[.string ⟨#[]⟩,.int .i64 0,.int .i64 0] m).toList):=by
 obtain⟨m',rfl⟩:∃m',m=m'+1:=⟨m-1,by omega⟩;have hst:=run_storeCells_cells (P:=Tryz.prog) g (k*3) (Builtin.zeroCells #[.string ⟨#[]⟩,.int .i64 0,.int .i64 0] (m'+1)).toList 0 w (fun j hj=>by
  rw[Nat.add_zero];exact hc j (by simpa [size_zeroCells]using hj)) (fun j hj=>hf _) (fun v hv=>by
  have hv':=Array.mem_toList_iff.1 hv;unfold Builtin.zeroCells at hv';obtain⟨i,hi,rfl⟩:=Array.mem_map.1 hv';have h3:i % 3=0\/i % 3=1\/i % 3=2:=by omega
  show Value.oneCell' (#[.string ⟨#[]⟩,.int .i64 0,.int .i64 0][i % 3]!)=true
  rcases h3 with h|h|h<;>rw[h]<;>rfl)
 have hz:(Value.agg #[.string ⟨#[]⟩,.int .i64 0,.int .i64 0]).cells=#[.string ⟨#[]⟩,.int .i64 0,.int .i64 0]:=rfl;simp only[Nat.add_zero]at hst;simp[Builtin.clear_,run_underlying Tryz.underlying134,zeroD,hz,hst]
theorem delD_any (v:Value)(l:List Dd)(now:Int)(B:Nat)(w:World)(ho:w.ownsRow 0 195 3 v l.length (l.flatMap Dd.row))(hl:l.length<=1000000)(hB:w.heap[B]?=some (.cells #[.int .i64 now] 3 (0,0))):
  Calls Tryz.prog 209 #[v,.func (.func 210) #[] #[.pointer (some ⟨B,0,none⟩)]] w fun e w'=>∃v',e=.returned v'/\v'.ownBlock=v.ownBlock/\w'.ownsRow 0 195 3 v' (l.filter (fun x=>!decide (x.til<=now))).length ((l.filter (fun x=>!decide (x.til<=now))).flatMap Dd.row)/\Tch (bl v) w w':=by
 have inh:Inhabited Dd:=⟨⟨⟨#[]⟩,0,0⟩⟩;have hBl:=lt_of_block hB;have HB:=zH hB;have HI:Hid (Calls Tryz.prog 197 _ w _):=idx_delD v l now B w ho hl hBl (cell_of_one hB)
 by_cases hneg:idxL (fun x:Dd=>decide (x.til<=now)) l<0
 ·have hm1:idxL (fun x:Dd=>decide (x.til<=now)) l=-1:=by have:=idxL_ge (fun x:Dd=>decide (x.til<=now)) l;omega
  rw[hm1]at HI;rw[idxL_none _ _ hneg];have HO:=zH ho;clear hB ho hm1 hneg;go_enter Tryz.func209,Tryz.ntmps209;go_wp2_with (go_at_call 197;refine HI.out.mono ?_;rintro e w' ⟨rfl,hb⟩);go_ret;exact⟨v,rfl,rfl,own_tch HO.out (Tch.of_below (by assumption)) (fun _ _=>by simp),(Tch.of_below (by assumption)).sub (by simp)⟩
 ·obtain⟨i0,hi0⟩:∃i:Nat,idxL (fun x:Dd=>decide (x.til<=now)) l=(i:Int):=⟨_,(Int.toNat_of_nonneg (by omega)).symm⟩;have hdl:=idxL_first _ l i0 hi0;rw[hi0]at HI;obtain⟨gd,cd,rfl⟩:∃g c,v=.slice (some ⟨g,0,none⟩) l.length c:=by
   rcases ho.2 with ⟨_,h0⟩|⟨g,cap,cur,h0,_⟩
   ·have:=hdl.jn;omega
   ·exact⟨g,cap,h0⟩
  have hcap:l.length<=cd:=by
   rcases ho.2 with ⟨h',_⟩|⟨g',cap',cur,h',_,_,hnc,_⟩
   ·simp at h'
   ·simp at h';omega
  have hBg:B≠gd:=fun e=>by
   rw[e]at hB;exact own_ne ho hB (by decide) rfl
  have HO:=zH ho;have HD:Hid (Dl (fun x=>decide (x.til<=now)) l l i0 (i0+1)):=hdl;have hi1:i0<l.length:=by have:=hdl.jn;omega
  have hne1:((i0:Int) == -1)=false:=beq_eq_false_iff_ne.2 (by omega);clear hB ho hi0 hneg hdl;go_enter Tryz.func209,Tryz.ntmps209;go_wp2_with (go_at_call 197;refine HI.out.mono ?_;rintro e w' ⟨rfl,hb⟩;have T0:Hid (Tch [gd] w w'):=(Tch.of_below hb).sub (by simp);have O0:Hid (w'.ownsRow 0 195 3 (.slice (some ⟨gd,0,none⟩) l.length cd) l.length (l.flatMap Dd.row)):=own_tch HO.out (Tch.of_below hb) (fun _ _=>by simp);clear hb HI)
  go_loopw [5,6] (fun iv jv wr=>∃(k j:Nat) (L:List Dd),iv=.int .i64 (k:Int)/\jv=.int .i64 (j:Int)/\Dl (fun x=>decide (x.til<=now)) l L k j/\wr.ownsRow 0 195 3 (.slice (some ⟨gd,0,none⟩) l.length cd) L.length (L.flatMap Dd.row)/\Tch [gd] w wr) (fun _ jv _=>l.length-(intOf jv).toNat)
  case atStart=>exact⟨i0,i0+1,l,rfl,by go_num,HD.out,O0.out,T0.out⟩
  case round=>
   obtain⟨k,j,L,rfl,rfl,hd,hor,htr⟩:=hrel;have hkj:=hd.kj;have hjn:=hd.jn;have hll:=hd.len;have HOR:Hid (wr.ownsRow 0 195 3 (.slice (some ⟨gd,0,none⟩) l.length cd) L.length (L.flatMap Dd.row)):=hor;have HTR:Hid (Tch [gd] w wr):=htr;have HDL:Hid (Dl (fun x=>decide (x.til<=now)) l L k j):=hd
   by_cases hlt:j<l.length
   ·obtain⟨x,hx⟩:∃x,l[j]?=some x:=⟨_,List.getElem?_eq_getElem hlt⟩;have hLx:L[j]?=some x:=(hd.get hlt).trans hx;have hjL:j<L.length:=by omega
    have fm:∀i v,x.row[i]?=some v->wr.cell? ⟨gd,j*3+i,none⟩=some v:=fun i v hi=>by
     have h1:=own_cells Dd.row 3 (fun _=>rfl) hor j hjL i v (by rw[List.getElem!_eq_getElem?_getD,hLx];exact hi);simpa using h1
    have g0:wr.cell? ⟨gd,j*3,none⟩=some (.string x.id):=fm 0 _ rfl;have g1:wr.cell? ⟨gd,j*3+1,none⟩=some (.int .i64 x.num):=fm 1 _ rfl;have g2:wr.cell? ⟨gd,j*3+2,none⟩=some (.int .i64 x.til):=fm 2 _ rfl;have HP:Hid (∀W,Tch [] wr W->zB 210 #[.agg #[(.string x.id),(.int .i64 x.num),(.int .i64 x.til)],.pointer (some ⟨B,0,none⟩)] W (.bool (decide (x.til<=now)))):=fun W hW=>by
     have hBW:W.heap[B]?=some (.cells #[.int .i64 now] 3 (0,0)):=(hW.block _ (Nat.lt_of_lt_of_le hBl HTR.out.size) (by simp)).trans ((HTR.out.block _ hBl (by simpa using hBg)).trans HB.out);exact del_pred now B W (lt_of_block hBW) (cell_of_one hBW) W x (Below.refl _ _)
    clear hd hor htr fm hLx;have HP1:Hid (Calls Tryz.prog 210 #[.agg #[(.string x.id),(.int .i64 x.num),(.int .i64 x.til)],.pointer (some ⟨B,0,none⟩)] (wr.alloc (.cells #[(.string x.id),(.int .i64 x.num),(.int .i64 x.til)] 195)) fun e w'=>e=.returned (.bool (decide (x.til<=now)))/\Tch [] wr w'/\w'.heap[wr.heap.size]?=some (.cells #[(.string x.id),(.int .i64 x.num),(.int .i64 x.til)] 195 (0,0))):=(HP.out _ ((Tch.refl _ _).alloc _)).mono (by
     rintro e w' ⟨he,hb⟩;exact⟨he,((Tch.refl [] wr).alloc _).trans (Tch.of_below hb) (by simp),(hb.block _ (by simp)).trans (heap_alloc_new _ _)⟩)
    clear HP
    by_cases hp:x.til<=now
    ·have hdec:decide (x.til<=now)=true:=by simpa using hp
     rw[hdec]at HP1;have HPX:Hid (decide (x.til<=now)=true):=hdec;clear hp hdec;go_wp2_with fail;refine HP1.out.mono ?_;rintro e w1 ⟨rfl,ht1,hc1⟩;have HR:Hid (w1.ownsRow 0 195 3 (.slice (some ⟨gd,0,none⟩) l.length cd) L.length (L.flatMap Dd.row)/\Tch [gd] w w1):=⟨own_tch HOR.out ht1 (fun _ _=>by simp),HTR.out.trans ht1 (by simp)⟩;clear ht1 hc1 g0 g1 g2 HP1;go_wp2_with fail;go_roundw
     case rel=>exact⟨k,j+1,L,rfl,by go_num,HDL.out.skip x hx HPX.out,HR.out.1,HR.out.2⟩
     case measure=>simp[intOf];omega
    ·have hdec:decide (x.til<=now)=false:=by simpa using hp
     rw[hdec]at HP1;have HPX:Hid (decide (x.til<=now)=false):=hdec;clear hp hdec;go_wp2_with fail;refine HP1.out.mono ?_;rintro e w1 ⟨rfl,ht1,hc1⟩;have ho1:=own_tch HOR.out ht1 (fun _ _=>by simp);have hkL:k<L.length:=by omega
     obtain⟨y,hy⟩:∃y,L[k]?=some y:=⟨_,List.getElem?_eq_getElem hkL⟩;have fk:∀i v,y.row[i]?=some v->w1.cell? ⟨gd,k*3+i,none⟩=some v:=fun i v hi=>by
      have h1:=own_cells Dd.row 3 (fun _=>rfl) ho1 k hkL i v (by rw[List.getElem!_eq_getElem?_getD,hy];exact hi);simpa using h1
     have k0:w1.cell? ⟨gd,k*3,none⟩=some (.string y.id):=fk 0 _ rfl;have k1:w1.cell? ⟨gd,k*3+1,none⟩=some (.int .i64 y.num):=fk 1 _ rfl;have k2:w1.cell? ⟨gd,k*3+2,none⟩=some (.int .i64 y.til):=fk 2 _ rfl;have m0:w1.cell? ⟨wr.heap.size,0,none⟩=some (.string x.id):=cell_qC hc1 0 _ rfl;have m1:w1.cell? ⟨wr.heap.size,1,none⟩=some (.int .i64 x.num):=cell_qC hc1 1 _ rfl;have m2:w1.cell? ⟨wr.heap.size,2,none⟩=some (.int .i64 x.til):=cell_qC hc1 2 _ rfl;rw[hll]at ho1;have z0:∀i,w1.frozen? ⟨gd,i,none⟩=false:=fun i=>World.ownsRow.frozenAt ho1 i
     have HR:Hid ((((w1.setCell ⟨gd,k*3,none⟩ (.string x.id)).setCell ⟨gd,k*3+1,none⟩ (.int .i64 x.num)).setCell ⟨gd,k*3+2,none⟩ (.int .i64 x.til)).ownsRow 0 195 3 (.slice (some ⟨gd,0,none⟩) l.length cd) (L.set k x).length ((L.set k x).flatMap Dd.row)/\Tch [gd] w (((w1.setCell ⟨gd,k*3,none⟩ (.string x.id)).setCell ⟨gd,k*3+1,none⟩ (.int .i64 x.num)).setCell ⟨gd,k*3+2,none⟩ (.int .i64 x.til))):=by
      refine⟨?_,(((HTR.out.trans ht1 (by simp)).setCell (fun _=>by simp) _).setCell (fun _=>by simp) _).setCell (fun _=>by simp) _⟩;rw[List.length_set,hll,<-flat_put Dd.row 3 (fun _=>rfl) L k x hkL];exact own_setCells x.row (k*3) w1 _ ho1
     clear g0 g1 g2 HP1 ht1 hc1 ho1 fk hy;go_wp2_with fail;go_roundw
     case rel=>exact⟨k+1,j+1,L.set k x,by go_num,by go_num,HDL.out.keep x hx HPX.out,HR.out.1,HR.out.2⟩
     case measure=>simp[intOf];omega
   ·have hje:l.length=j:=by omega
    have hkk:(l.filter (fun x=>!decide (x.til<=now))).length=k/\L.take k=l.filter (fun x=>!decide (x.til<=now)):=by
     have h1:=hd.tk;have e9:l.take j=l:=List.take_of_length_le (by omega);rw[e9]at h1;refine⟨?_,h1⟩;rw[<-h1,List.length_take];omega
    rw[hll]at hor;have hclr:=run_clearD wr 0 gd k (j-k) (cd-k) (fun i hi=>by
     have h1:k*3+i<(L.flatMap Dd.row).length:=by rw[flat_len Dd.row 3 (fun _=>rfl)];omega
     have h2:=World.ownsRow.cells hor (g:=gd) rfl (k*3+i) _ (List.getElem?_eq_getElem h1);have e:(⟨gd,0,none⟩:Addr).add (k*3+i)=⟨gd,k*3+i,none⟩:=by unfold Addr.add;split<;>simp_all
     rw[e]at h2;rw[h2];rfl) (fun i=>World.ownsRow.frozenAt hor i) (by omega)
    have HF:Hid ((wr.setCells gd (k*3) (Builtin.zeroCells #[.string ⟨#[]⟩,.int .i64 0,.int .i64 0] (j-k)).toList).ownsRow 0 195 3 (.slice (some ⟨gd,0,none⟩) k cd) (l.filter (fun x=>!decide (x.til<=now))).length ((l.filter (fun x=>!decide (x.til<=now))).flatMap Dd.row)/\Tch [gd] w (wr.setCells gd (k*3) (Builtin.zeroCells #[.string ⟨#[]⟩,.int .i64 0,.int .i64 0] (j-k)).toList)):=by
     refine⟨?_,htr.trans (tch_setCells gd _ _ _) (fun _ h _=>h)⟩;have h1:=own_cut (own_setCells (Builtin.zeroCells #[.string ⟨#[]⟩,.int .i64 0,.int .i64 0] (j-k)).toList (k*3) wr _ hor) (n':=k) (by omega);rw[putMany_take _ _ _ _ (Nat.le_refl _),flat_take Dd.row 3 (fun _=>rfl) L k (by omega),hkk.2]at h1;rw[hkk.1];exact h1
    generalize wr.setCells gd (k*3) (Builtin.zeroCells #[.string ⟨#[]⟩,.int .i64 0,.int .i64 0] (j-k)).toList=w2 at*
    clear hd hor htr hkk;go_wp2_with fail;go_ret;exact⟨.slice (some ⟨gd,0,none⟩) k cd,rfl,rfl,HF.out.1,HF.out.2⟩
theorem eg296:∀args w,(callFunc 212 args).run Tryz.prog w=.ok (.enter 212 args) w:=enters_of Tryz.func212 (by kernel_rfl) rfl
theorem del_predA (now:Int)(B:Nat)(w:World)(hB:B<w.heap.size)(hcell:w.cell? ⟨B,0,none⟩=some (.int .i64 now)):
  PredBelow Tryz.prog 212 #[.pointer (some ⟨B,0,none⟩)] (fun x:At=>.agg x.row.toArray) (fun x=>decide (x.til<=now)) w:=fun W x hb=>by
 have hc:=(hb.cell (p:=⟨B,0,none⟩) hB).trans hcell;have hBW:B<W.heap.size:=Nat.lt_of_lt_of_le hB hb.size
 show Calls Tryz.prog 212 #[.agg #[.string x.id,.int .i64 x.til,.string x.ans],.pointer (some ⟨B,0,none⟩)] W _
 go_enter Tryz.func212,Tryz.ntmps212
 go_wp2
 all_goals (go_ret;exact⟨by simp_all,hb.alloc hb.size _⟩)
theorem idx_delA (v:Value)(l:List At)(now:Int)(B:Nat)(w:World)(ho:w.ownsRow 0 199 3 v l.length (l.flatMap At.row))(hl:l.length<=1000000)(hB:B<w.heap.size)(hcell:w.cell? ⟨B,0,none⟩=some (.int .i64 now)):
  zB 191 #[v,.func (.func 212) #[] #[.pointer (some ⟨B,0,none⟩)]] w (.int .i64 (idxL (fun x=>decide (x.til<=now)) l)):=by
 have inh:Inhabited At:=⟨⟨⟨#[]⟩,0,⟨#[]⟩⟩⟩;rcases ho.2 with ⟨rfl,h0⟩|⟨gd,cap,cur,rfl,_,hg,_⟩
 ·have e0:l=[]:=List.length_eq_zero_iff.1 h0;subst e0;refine(idx_at_nil none 0 _ w).mono ?_;rintro e w' ⟨rfl,rfl⟩;exact⟨rfl,Below.refl _ _⟩
 ·have h:=AnyQ.slices_IndexFunc l262 3 Tryz.isAgg199 Tryz.sizeOf199 At.row (fun _=>rfl) (fun x=>decide (x.til<=now)) 212 #[.pointer (some ⟨B,0,none⟩)] eg296 gd 0 l.length cap l w (del_predA now B w hB hcell) (Nat.le_refl _) (by omega) (lt_of_block hg) (fun j hj i v hi=>own_cells At.row 3 (fun _=>rfl) ho j hj i v hi);rw[List.take_length,idxBy_eq]at h;exact h
theorem zeroA (w:World):(zeroValue 199).run Tryz.prog w=.ok (.agg #[.string ⟨#[]⟩,.int .i64 0,.string ⟨#[]⟩]) w:=by kernel_rfl
theorem run_clearA (w:World)(ty:TypeId)(g k m cd:Nat)(hc:∀j,j<m*3->(w.cell? ⟨g,k*3+j,none⟩).isSome=true)(hf:∀j,w.frozen? ⟨g,j,none⟩=false)(hm:0<m):
  (Builtin.clear_ #[135] ty #[.slice (some ⟨g,k*3,none⟩) m cd]).run Tryz.prog w=.ok (.tuple #[]) (w.setCells g (k*3) (Builtin.zeroCells #[.string ⟨#[]⟩,.int .i64 0,.string ⟨#[]⟩] m).toList):=by
 obtain⟨m',rfl⟩:∃m',m=m'+1:=⟨m-1,by omega⟩;have hst:=run_storeCells_cells (P:=Tryz.prog) g (k*3) (Builtin.zeroCells #[.string ⟨#[]⟩,.int .i64 0,.string ⟨#[]⟩] (m'+1)).toList 0 w (fun j hj=>by
  rw[Nat.add_zero];exact hc j (by simpa [size_zeroCells]using hj)) (fun j hj=>hf _) (fun v hv=>by
  have hv':=Array.mem_toList_iff.1 hv;unfold Builtin.zeroCells at hv';obtain⟨i,hi,rfl⟩:=Array.mem_map.1 hv';have h3:i % 3=0\/i % 3=1\/i % 3=2:=by omega
  show Value.oneCell' (#[.string ⟨#[]⟩,.int .i64 0,.string ⟨#[]⟩][i % 3]!)=true
  rcases h3 with h|h|h<;>rw[h]<;>rfl)
 have hz:(Value.agg #[.string ⟨#[]⟩,.int .i64 0,.string ⟨#[]⟩]).cells=#[.string ⟨#[]⟩,.int .i64 0,.string ⟨#[]⟩]:=rfl;simp only[Nat.add_zero]at hst;simp[Builtin.clear_,run_underlying Tryz.underlying135,zeroA,hz,hst]
theorem delA_any (v:Value)(l:List At)(now:Int)(B:Nat)(w:World)(ho:w.ownsRow 0 199 3 v l.length (l.flatMap At.row))(hl:l.length<=1000000)(hB:w.heap[B]?=some (.cells #[.int .i64 now] 3 (0,0))):
  Calls Tryz.prog 211 #[v,.func (.func 212) #[] #[.pointer (some ⟨B,0,none⟩)]] w fun e w'=>∃v',e=.returned v'/\v'.ownBlock=v.ownBlock/\w'.ownsRow 0 199 3 v' (l.filter (fun x=>!decide (x.til<=now))).length ((l.filter (fun x=>!decide (x.til<=now))).flatMap At.row)/\Tch (bl v) w w':=by
 have inh:Inhabited At:=⟨⟨⟨#[]⟩,0,⟨#[]⟩⟩⟩;have hBl:=lt_of_block hB;have HB:=zH hB;have HI:Hid (Calls Tryz.prog 191 _ w _):=idx_delA v l now B w ho hl hBl (cell_of_one hB)
 by_cases hneg:idxL (fun x:At=>decide (x.til<=now)) l<0
 ·have hm1:idxL (fun x:At=>decide (x.til<=now)) l=-1:=by have:=idxL_ge (fun x:At=>decide (x.til<=now)) l;omega
  rw[hm1]at HI;rw[idxL_none _ _ hneg];have HO:=zH ho;clear hB ho hm1 hneg;go_enter Tryz.func211,Tryz.ntmps211;go_wp2_with (go_at_call 191;refine HI.out.mono ?_;rintro e w' ⟨rfl,hb⟩);go_ret;exact⟨v,rfl,rfl,own_tch HO.out (Tch.of_below (by assumption)) (fun _ _=>by simp),(Tch.of_below (by assumption)).sub (by simp)⟩
 ·obtain⟨i0,hi0⟩:∃i:Nat,idxL (fun x:At=>decide (x.til<=now)) l=(i:Int):=⟨_,(Int.toNat_of_nonneg (by omega)).symm⟩;have hdl:=idxL_first _ l i0 hi0;rw[hi0]at HI;obtain⟨gd,cd,rfl⟩:∃g c,v=.slice (some ⟨g,0,none⟩) l.length c:=by
   rcases ho.2 with ⟨_,h0⟩|⟨g,cap,cur,h0,_⟩
   ·have:=hdl.jn;omega
   ·exact⟨g,cap,h0⟩
  have hcap:l.length<=cd:=by
   rcases ho.2 with ⟨h',_⟩|⟨g',cap',cur,h',_,_,hnc,_⟩
   ·simp at h'
   ·simp at h';omega
  have hBg:B≠gd:=fun e=>by
   rw[e]at hB;exact own_ne ho hB (by decide) rfl
  have HO:=zH ho;have HD:Hid (Dl (fun x=>decide (x.til<=now)) l l i0 (i0+1)):=hdl;have hi1:i0<l.length:=by have:=hdl.jn;omega
  have hne1:((i0:Int) == -1)=false:=beq_eq_false_iff_ne.2 (by omega);clear hB ho hi0 hneg hdl;go_enter Tryz.func211,Tryz.ntmps211;go_wp2_with (go_at_call 191;refine HI.out.mono ?_;rintro e w' ⟨rfl,hb⟩;have T0:Hid (Tch [gd] w w'):=(Tch.of_below hb).sub (by simp);have O0:Hid (w'.ownsRow 0 199 3 (.slice (some ⟨gd,0,none⟩) l.length cd) l.length (l.flatMap At.row)):=own_tch HO.out (Tch.of_below hb) (fun _ _=>by simp);clear hb HI)
  go_loopw [5,6] (fun iv jv wr=>∃(k j:Nat) (L:List At),iv=.int .i64 (k:Int)/\jv=.int .i64 (j:Int)/\Dl (fun x=>decide (x.til<=now)) l L k j/\wr.ownsRow 0 199 3 (.slice (some ⟨gd,0,none⟩) l.length cd) L.length (L.flatMap At.row)/\Tch [gd] w wr) (fun _ jv _=>l.length-(intOf jv).toNat)
  case atStart=>exact⟨i0,i0+1,l,rfl,by go_num,HD.out,O0.out,T0.out⟩
  case round=>
   obtain⟨k,j,L,rfl,rfl,hd,hor,htr⟩:=hrel;have hkj:=hd.kj;have hjn:=hd.jn;have hll:=hd.len;have HOR:Hid (wr.ownsRow 0 199 3 (.slice (some ⟨gd,0,none⟩) l.length cd) L.length (L.flatMap At.row)):=hor;have HTR:Hid (Tch [gd] w wr):=htr;have HDL:Hid (Dl (fun x=>decide (x.til<=now)) l L k j):=hd
   by_cases hlt:j<l.length
   ·obtain⟨x,hx⟩:∃x,l[j]?=some x:=⟨_,List.getElem?_eq_getElem hlt⟩;have hLx:L[j]?=some x:=(hd.get hlt).trans hx;have hjL:j<L.length:=by omega
    have fm:∀i v,x.row[i]?=some v->wr.cell? ⟨gd,j*3+i,none⟩=some v:=fun i v hi=>by
     have h1:=own_cells At.row 3 (fun _=>rfl) hor j hjL i v (by rw[List.getElem!_eq_getElem?_getD,hLx];exact hi);simpa using h1
    have g0:wr.cell? ⟨gd,j*3,none⟩=some (.string x.id):=fm 0 _ rfl;have g1:wr.cell? ⟨gd,j*3+1,none⟩=some (.int .i64 x.til):=fm 1 _ rfl;have g2:wr.cell? ⟨gd,j*3+2,none⟩=some (.string x.ans):=fm 2 _ rfl;have HP:Hid (∀W,Tch [] wr W->zB 212 #[.agg #[(.string x.id),(.int .i64 x.til),(.string x.ans)],.pointer (some ⟨B,0,none⟩)] W (.bool (decide (x.til<=now)))):=fun W hW=>by
     have hBW:W.heap[B]?=some (.cells #[.int .i64 now] 3 (0,0)):=(hW.block _ (Nat.lt_of_lt_of_le hBl HTR.out.size) (by simp)).trans ((HTR.out.block _ hBl (by simpa using hBg)).trans HB.out);exact del_predA now B W (lt_of_block hBW) (cell_of_one hBW) W x (Below.refl _ _)
    clear hd hor htr fm hLx;have HP1:Hid (Calls Tryz.prog 212 #[.agg #[(.string x.id),(.int .i64 x.til),(.string x.ans)],.pointer (some ⟨B,0,none⟩)] (wr.alloc (.cells #[(.string x.id),(.int .i64 x.til),(.string x.ans)] 199)) fun e w'=>e=.returned (.bool (decide (x.til<=now)))/\Tch [] wr w'/\w'.heap[wr.heap.size]?=some (.cells #[(.string x.id),(.int .i64 x.til),(.string x.ans)] 199 (0,0))):=(HP.out _ ((Tch.refl _ _).alloc _)).mono (by
     rintro e w' ⟨he,hb⟩;exact⟨he,((Tch.refl [] wr).alloc _).trans (Tch.of_below hb) (by simp),(hb.block _ (by simp)).trans (heap_alloc_new _ _)⟩)
    clear HP
    by_cases hp:x.til<=now
    ·have hdec:decide (x.til<=now)=true:=by simpa using hp
     rw[hdec]at HP1;have HPX:Hid (decide (x.til<=now)=true):=hdec;clear hp hdec;go_wp2_with fail;refine HP1.out.mono ?_;rintro e w1 ⟨rfl,ht1,hc1⟩;have HR:Hid (w1.ownsRow 0 199 3 (.slice (some ⟨gd,0,none⟩) l.length cd) L.length (L.flatMap At.row)/\Tch [gd] w w1):=⟨own_tch HOR.out ht1 (fun _ _=>by simp),HTR.out.trans ht1 (by simp)⟩;clear ht1 hc1 g0 g1 g2 HP1;go_wp2_with fail;go_roundw
     case rel=>exact⟨k,j+1,L,rfl,by go_num,HDL.out.skip x hx HPX.out,HR.out.1,HR.out.2⟩
     case measure=>simp[intOf];omega
    ·have hdec:decide (x.til<=now)=false:=by simpa using hp
     rw[hdec]at HP1;have HPX:Hid (decide (x.til<=now)=false):=hdec;clear hp hdec;go_wp2_with fail;refine HP1.out.mono ?_;rintro e w1 ⟨rfl,ht1,hc1⟩;have ho1:=own_tch HOR.out ht1 (fun _ _=>by simp);have hkL:k<L.length:=by omega
     obtain⟨y,hy⟩:∃y,L[k]?=some y:=⟨_,List.getElem?_eq_getElem hkL⟩;have fk:∀i v,y.row[i]?=some v->w1.cell? ⟨gd,k*3+i,none⟩=some v:=fun i v hi=>by
      have h1:=own_cells At.row 3 (fun _=>rfl) ho1 k hkL i v (by rw[List.getElem!_eq_getElem?_getD,hy];exact hi);simpa using h1
     have k0:w1.cell? ⟨gd,k*3,none⟩=some (.string y.id):=fk 0 _ rfl;have k1:w1.cell? ⟨gd,k*3+1,none⟩=some (.int .i64 y.til):=fk 1 _ rfl;have k2:w1.cell? ⟨gd,k*3+2,none⟩=some (.string y.ans):=fk 2 _ rfl;have m0:w1.cell? ⟨wr.heap.size,0,none⟩=some (.string x.id):=cell_qC hc1 0 _ rfl;have m1:w1.cell? ⟨wr.heap.size,1,none⟩=some (.int .i64 x.til):=cell_qC hc1 1 _ rfl;have m2:w1.cell? ⟨wr.heap.size,2,none⟩=some (.string x.ans):=cell_qC hc1 2 _ rfl;rw[hll]at ho1;have z0:∀i,w1.frozen? ⟨gd,i,none⟩=false:=fun i=>World.ownsRow.frozenAt ho1 i
     have HR:Hid ((((w1.setCell ⟨gd,k*3,none⟩ (.string x.id)).setCell ⟨gd,k*3+1,none⟩ (.int .i64 x.til)).setCell ⟨gd,k*3+2,none⟩ (.string x.ans)).ownsRow 0 199 3 (.slice (some ⟨gd,0,none⟩) l.length cd) (L.set k x).length ((L.set k x).flatMap At.row)/\Tch [gd] w (((w1.setCell ⟨gd,k*3,none⟩ (.string x.id)).setCell ⟨gd,k*3+1,none⟩ (.int .i64 x.til)).setCell ⟨gd,k*3+2,none⟩ (.string x.ans))):=by
      refine⟨?_,(((HTR.out.trans ht1 (by simp)).setCell (fun _=>by simp) _).setCell (fun _=>by simp) _).setCell (fun _=>by simp) _⟩;rw[List.length_set,hll,<-flat_put At.row 3 (fun _=>rfl) L k x hkL];exact own_setCells x.row (k*3) w1 _ ho1
     clear g0 g1 g2 HP1 ht1 hc1 ho1 fk hy;go_wp2_with fail;go_roundw
     case rel=>exact⟨k+1,j+1,L.set k x,by go_num,by go_num,HDL.out.keep x hx HPX.out,HR.out.1,HR.out.2⟩
     case measure=>simp[intOf];omega
   ·have hje:l.length=j:=by omega
    have hkk:(l.filter (fun x=>!decide (x.til<=now))).length=k/\L.take k=l.filter (fun x=>!decide (x.til<=now)):=by
     have h1:=hd.tk;have e9:l.take j=l:=List.take_of_length_le (by omega);rw[e9]at h1;refine⟨?_,h1⟩;rw[<-h1,List.length_take];omega
    rw[hll]at hor;have hclr:=run_clearA wr 0 gd k (j-k) (cd-k) (fun i hi=>by
     have h1:k*3+i<(L.flatMap At.row).length:=by rw[flat_len At.row 3 (fun _=>rfl)];omega
     have h2:=World.ownsRow.cells hor (g:=gd) rfl (k*3+i) _ (List.getElem?_eq_getElem h1);have e:(⟨gd,0,none⟩:Addr).add (k*3+i)=⟨gd,k*3+i,none⟩:=by unfold Addr.add;split<;>simp_all
     rw[e]at h2;rw[h2];rfl) (fun i=>World.ownsRow.frozenAt hor i) (by omega)
    have HF:Hid ((wr.setCells gd (k*3) (Builtin.zeroCells #[.string ⟨#[]⟩,.int .i64 0,.string ⟨#[]⟩] (j-k)).toList).ownsRow 0 199 3 (.slice (some ⟨gd,0,none⟩) k cd) (l.filter (fun x=>!decide (x.til<=now))).length ((l.filter (fun x=>!decide (x.til<=now))).flatMap At.row)/\Tch [gd] w (wr.setCells gd (k*3) (Builtin.zeroCells #[.string ⟨#[]⟩,.int .i64 0,.string ⟨#[]⟩] (j-k)).toList)):=by
     refine⟨?_,htr.trans (tch_setCells gd _ _ _) (fun _ h _=>h)⟩;have h1:=own_cut (own_setCells (Builtin.zeroCells #[.string ⟨#[]⟩,.int .i64 0,.string ⟨#[]⟩] (j-k)).toList (k*3) wr _ hor) (n':=k) (by omega);rw[putMany_take _ _ _ _ (Nat.le_refl _),flat_take At.row 3 (fun _=>rfl) L k (by omega),hkk.2]at h1;rw[hkk.1];exact h1
    generalize wr.setCells gd (k*3) (Builtin.zeroCells #[.string ⟨#[]⟩,.int .i64 0,.string ⟨#[]⟩] (j-k)).toList=w2 at*
    clear hd hor htr hkk;go_wp2_with fail;go_ret;exact⟨.slice (some ⟨gd,0,none⟩) k cd,rfl,rfl,HF.out.1,HF.out.2⟩
def forgQ (now:Int)(Q:QM):QM:={Q with ds:=Q.ds.filter (fun x=>!decide (x.til<=now)),ats:=Q.ats.filter (fun x=>!decide (x.til<=now))}
theorem own_shape {w:World}{base e size n:Nat}{v:Value}{xs:List Value}(h:w.ownsRow base e size v n xs):∃a c,v=.slice a n c:=by
 rcases h.2 with ⟨rfl,rfl⟩|⟨g,cap,cur,rfl,_⟩
 ·exact⟨_,_,rfl⟩
 ·exact⟨_,_,rfl⟩
theorem forget_any (Q:QM)(V:QV)(qb:Nat)(now:Int)(w:World)(h:QR w qb V Q)(hnd:Q.ds.length<=1000000)(hna:Q.ats.length<=1000000):
  Calls Tryz.prog 199 #[.pointer (some ⟨qb,0,none⟩),.int .i64 now] w fun e w'=>e=.returned (.tuple #[])/\QL w w' qb V (forgQ now Q):=by
 have hlt:=h.blk.lt;have ta:Tch [] w (w.alloc (.cells #[.int .i64 now] 3)):=(Tch.refl _ _).alloc _;have ha:=h.tch ta (fun _ _=>by simp);have hbox:(w.alloc (.cells #[.int .i64 now] 3)).heap[w.heap.size]?=some (.cells #[.int .i64 now] 3 (0,0)):=heap_alloc_new _ _;have q9:w.cell? ⟨qb,9,none⟩=some V.d:=cell_qC h.blk 9 _ rfl;have HD:Hid (Calls Tryz.prog 209 _ _ _):=delD_any V.d Q.ds now w.heap.size _ ha.d hnd hbox;have HA:Hid (QR (w.alloc (.cells #[.int .i64 now] 3)) qb V Q/\(w.alloc (.cells #[.int .i64 now] 3)).heap[w.heap.size]?=some (.cells #[.int .i64 now] 3 (0,0))/\Tch [] w (w.alloc (.cells #[.int .i64 now] 3))):=⟨ha,hbox,ta⟩;clear h ha hbox ta;go_enter Tryz.func199,Tryz.ntmps199;go_wp2_with fail;refine HD.out.mono ?_;rintro e w1 ⟨vd,rfl,hbd,hod,ht1⟩;obtain⟨ad,cd,rfl⟩:=own_shape hod;have f1:Fr 0 [195] (w.alloc (.cells #[.int .i64 now] 3)) w1:=Fr.of_tch ht1 (Nat.zero_le _) (fun _ _=>Nat.zero_le _) (fun b hb C t hC=>by
  by_cases e:195=t
  ·rw[<-e];decide
  ·exact absurd (mem_bl.1 hb) (own_ne HA.out.1.d hC e))
 have hq1:Qb w1 qb Q.c (Q.next:Int) V.m V.r V.d V.a:=f1.keep _ _ _ HA.out.1.blk (by decide);have d9:w1.cell? ⟨qb,9,none⟩=some V.d:=cell_qC hq1 9 _ rfl;have z9:=hq1.fz 9;have hq2:=hq1.set9 (.slice ad (Q.ds.filter (fun x=>!decide (x.til<=now))).length cd);have t2:Tch [qb] w1 (w1.setCell ⟨qb,9,none⟩ (.slice ad (Q.ds.filter (fun x=>!decide (x.til<=now))).length cd)):=(Tch.refl _ _).setCell (fun _=>by simp) _;have f2:Fr 0 [137] w1 (w1.setCell ⟨qb,9,none⟩ (.slice ad (Q.ds.filter (fun x=>!decide (x.til<=now))).length cd)):=Fr.one t2 (Nat.zero_le _) (Nat.zero_le _) hq1 (by decide);have HX:Hid (QR (w1.setCell ⟨qb,9,none⟩ (.slice ad (Q.ds.filter (fun x=>!decide (x.til<=now))).length cd)) qb ⟨V.m,V.r,.slice ad (Q.ds.filter (fun x=>!decide (x.til<=now))).length cd,V.a⟩ {Q with ds:=Q.ds.filter (fun x=>!decide (x.til<=now))}/\Tch (qbl qb V) w (w1.setCell ⟨qb,9,none⟩ (.slice ad (Q.ds.filter (fun x=>!decide (x.til<=now))).length cd))/\(w1.setCell ⟨qb,9,none⟩ (.slice ad (Q.ds.filter (fun x=>!decide (x.til<=now))).length cd)).heap[w.heap.size]?=some (.cells #[.int .i64 now] 3 (0,0))/\Value.ownBlock (.slice ad (Q.ds.filter (fun x=>!decide (x.til<=now))).length cd)=V.d.ownBlock):=by
  refine⟨⟨hq2,f2.own (f1.own HA.out.1.m (by decide)) (by decide),f2.own (f1.own HA.out.1.r (by decide)) (by decide),f2.own hod (by decide),f2.own (f1.own HA.out.1.a (by decide)) (by decide)⟩,?_,f2.keep _ _ _ (f1.keep _ _ _ HA.out.2.1 (by decide)) (by decide),hbd⟩;exact(((HA.out.2.2.sub (S':=qbl qb V) (by simp)).trans ht1 (fun x hx _=>mem_qbl.2 (.inr (.inr (.inr (.inl (mem_bl.1 hx))))))).trans t2 (fun x hx _=>mem_qbl.2 (.inl (by simpa using hx))))
 clear hod ht1 hbd f1 hq1 t2 f2 HD q9 HA;generalize hdn:(Q.ds.filter (fun x=>!decide (x.til<=now)))=DS at*
 have d10:(w1.setCell ⟨qb,9,none⟩ (.slice ad DS.length cd)).cell? ⟨qb,10,none⟩=some V.a:=cell_qC hq2 10 _ rfl;have HD2:Hid (Calls Tryz.prog 211 _ _ _):=delA_any V.a Q.ats now w.heap.size _ HX.out.1.a hna HX.out.2.2.1;clear hq2;go_wp2_with fail;refine HD2.out.mono ?_;rintro e w3 ⟨va,rfl,hba,hoa,ht3⟩;obtain⟨aa,ca,rfl⟩:=own_shape hoa;obtain⟨h1,h2,h3,h4⟩:=HX.out;have f3:Fr 0 [199] (w1.setCell ⟨qb,9,none⟩ (.slice ad DS.length cd)) w3:=Fr.of_tch ht3 (Nat.zero_le _) (fun _ _=>Nat.zero_le _) (fun b hb C t hC=>by
  by_cases e:199=t
  ·rw[<-e];decide
  ·exact absurd (mem_bl.1 hb) (own_ne h1.a hC e))
 have hq3:Qb w3 qb Q.c (Q.next:Int) V.m V.r (.slice ad DS.length cd) V.a:=f3.keep _ _ _ h1.blk (by decide);have e10:w3.cell? ⟨qb,10,none⟩=some V.a:=cell_qC hq3 10 _ rfl;have z10:=hq3.fz 10;have hq4:=hq3.set10 (.slice aa (Q.ats.filter (fun x=>!decide (x.til<=now))).length ca);have t4:Tch [qb] w3 (w3.setCell ⟨qb,10,none⟩ (.slice aa (Q.ats.filter (fun x=>!decide (x.til<=now))).length ca)):=(Tch.refl _ _).setCell (fun _=>by simp) _;have f4:Fr 0 [137] w3 (w3.setCell ⟨qb,10,none⟩ (.slice aa (Q.ats.filter (fun x=>!decide (x.til<=now))).length ca)):=Fr.one t4 (Nat.zero_le _) (Nat.zero_le _) hq3 (by decide);have HF:Hid (QL w (w3.setCell ⟨qb,10,none⟩ (.slice aa (Q.ats.filter (fun x=>!decide (x.til<=now))).length ca)) qb V (forgQ now Q)):=by
  refine⟨⟨V.m,V.r,.slice ad DS.length cd,.slice aa (Q.ats.filter (fun x:At=>!decide (x.til<=now))).length ca⟩,⟨hq4,f4.own (f3.own h1.m (by decide)) (by decide),f4.own (f3.own h1.r (by decide)) (by decide),?_,f4.own hoa (by decide)⟩,?_,fun b hb=>?_⟩
  ·have h5:=f4.own (f3.own h1.d (by decide)) (by decide);unfold forgQ;rw[hdn];exact h5
  ·exact((h2.trans ht3 (fun x hx _=>mem_qbl.2 (.inr (.inr (.inr (.inr (mem_bl.1 hx))))))).trans t4 (fun x hx _=>mem_qbl.2 (.inl (by simpa using hx))))
  ·left;rcases mem_qbl.1 hb with e|e|e|e|e
   ·exact mem_qbl.2 (.inl e)
   ·exact mem_qbl.2 (.inr (.inl e))
   ·exact mem_qbl.2 (.inr (.inr (.inl e)))
   ·exact mem_qbl.2 (.inr (.inr (.inr (.inl (h4.symm.trans e)))))
   ·exact mem_qbl.2 (.inr (.inr (.inr (.inr (hba.symm.trans e)))))
 clear hoa ht3 hba f3 hq3 hq4 t4 f4 h1 h2 h3 h4 HD2 d10;go_wp2_with fail;go_end0;exact⟨rfl,HF.out⟩
end Go.Proofs.YtbdobaapadlcjabGreatDoor
