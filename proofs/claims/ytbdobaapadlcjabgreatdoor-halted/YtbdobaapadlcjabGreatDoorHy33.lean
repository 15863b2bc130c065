import Derived.Test.YtbdobaapadlcjabGreatDoorHy32
set_option maxRecDepth 10000
set_option maxHeartbeats 4000000
set_option linter.unusedVariables false
set_option linter.unusedSimpArgs false
namespace Go.Proofs.YtbdobaapadlcjabGreatDoor.Dk
open Go.RowKit
variable {w:World}{t te:TypeId}
def stopL (left:Int)(st:Bool)(n:Int):Int:=if (st||left == 0)=true then left else if n<0 then -1 else n
theorem stop_d (p:Nat)(v:Value)(left:Int)(st:Bool)(n:Int)(w:World)(h:DBlk w p 77 v left st):
  Calls Tryz.prog 16 #[.pointer (some ⟨p,0,none⟩),.int .i64 n] w fun e w'=>e=.returned (.tuple #[])/\DBlk w' p 77 v (stopL left st n) st/\Tch [p] w w'/\w'.heap.size=w.heap.size:=by
 have h0:=h.c0;have h1:=h.c1;have h2:=h.c2;have f1:=h.fz 1;have H:Hid (DBlk w p 77 v left st):=h;clear h;have HST:Hid (Calls Tryz.prog 17 #[.pointer (some ⟨p,0,none⟩)] w fun e w'=>e=.returned (.bool (st||left == 0))/\w'=w):=stopped_d p v left st w H.out
 cases hs:(st||left == 0) with
 | true=>
  rw[show stopL left st n=left by unfold stopL;rw[hs,if_pos rfl]]
  rw[hs]at HST;clear hs;go_enter Tryz.func16,Tryz.ntmps16;go_wp2_with fail;refine HST.out.mono ?_;rintro e w1 ⟨rfl,rfl⟩;go_wp2_with fail;go_end0;exact⟨rfl,H.out,Tch.refl _ _,rfl⟩
 | false=>
  have he:stopL left st n=if n<0 then -1 else n:=by unfold stopL;rw[hs];simp
  rw[hs]at HST;clear hs
  by_cases hn:n<0
  ·rw[if_pos hn]at he;rw[he];go_enter Tryz.func16,Tryz.ntmps16;go_wp2_with fail;refine HST.out.mono ?_;rintro e w1 ⟨rfl,rfl⟩;go_wp2_with fail;go_end0;exact⟨rfl,(by
    have h:=H.out.s1 (max n (-1));rw[show max n (-1)=(-1:Int) by omega]at h ⊢
    exact h),(Tch.refl _ _).setCell (fun _=>by simp) _,by simp⟩
  ·rw[if_neg hn]at he;rw[he];go_enter Tryz.func16,Tryz.ntmps16;go_wp2_with fail;refine HST.out.mono ?_;rintro e w1 ⟨rfl,rfl⟩;go_wp2_with fail;go_end0;exact⟨rfl,(by
    have h:=H.out.s1 (max n (-1));rw[show max n (-1)=n by omega]at h ⊢
    exact h),(Tch.refl _ _).setCell (fun _=>by simp) _,by simp⟩
theorem step_file {ops:Array Oper}{o:Oper}{a:Act}{w:World}{K:Act->World->Prop}{Q:Exit->Act->World->Prop}{E:Prop}(hgd:o.guard=none)(s x:Operand)(t te:TypeId)
  (ho:o.op=.call {callee:=.builtin .append,args:=#[s,x],argTypes:=#[t,t]})(ht:Tryz.prog.underlying t=some (.slice te))
  (hinfo:(Tryz.prog.info? te).map (fun i=>(i.zero,i.size,i.bytes))=some (some (Value.agg #[.string ⟨#[]⟩,.string ⟨#[]⟩,.int .i64 0]),3,40))
  (v:Value)(fs:List DF)(hs:a.eval s=v)(hown:Own w te v fs)(g:Nat)(f:DF)(hx:a.eval x=.slice (some ⟨g,0,none⟩) 1 1)(hg:w.heap[g]?=some (.cells f.arr te (0,0)))(hn:fs.length<=8388608)
  (h:∀v' w',Own w' te v' (fs++[f])->w.grownBy w' v.ownBlock->(v'.ownBlock=v.ownBlock\/v'.ownBlock=some w.heap.size)->K (a.put o.dst v') w'):
  if Region.wanted o (yielded ops a.tmps)=true then Oper.wp Tryz.prog o a w K Q else E:=by
 have hw:Region.wanted o (yielded ops a.tmps)=true:=by simp[Region.wanted,hgd]
 rw[if_pos hw];obtain⟨i0,hi,hz0,hz1,hz2⟩:=info_parts hinfo;obtain⟨v',w',hr,h2,h3,h4⟩:=run_app (P:=Tryz.prog) w 0 t o.type te i0 _ 3 40 ht hi hz0 hz1 hz2 rfl (by decide) v fs.length (rowOf fs) hown ⟨g,0,none⟩ 1 1 f.row rfl (fun j u hj=>by
  have e:(⟨g,0,none⟩:Addr).add j=⟨g,j,none⟩:=by unfold Addr.add;split<;>simp_all
  rw[e,cell_of_row w g j _ te (0,0) hg,<-hj];simp[DF.arr,DF.row]) (fun u hu=>by
  simp only[DF.row,List.mem_cons,List.not_mem_nil,or_false]at hu;rcases hu with rfl|rfl|rfl<;>rfl) (by unfold maxLen;omega) (by omega) (Nat.zero_le _) (by decide)
 unfold Oper.wp execOp;simp only[ho,resolve,invoke,builtin,Sem.run_bind,Sem.run_pure,Result.andThen_ok,List.map_toArray,List.map_cons,List.map_nil,hs,hx,hr];refine h v' w' ?_ h3 h4
 show w'.ownsRow 0 te 3 v' (fs++[f]).length (rowOf (fs++[f]))
 rw[List.length_append,rowOf_app];exact h2
theorem Dsk.swap {w3:World}{p:Nat}{v v':Value}{L:Int}{S:Bool}{FS:List DF}(hB:DBlk w3 p t v L S)(ho:Own w3 te v' FS)(hsep:v'.ownBlock≠some p):Dsk (w3.setCell ⟨p,0,none⟩ v') t te p v' ⟨FS,L,S⟩:=
 ⟨hB.s0 _,ho.tch (S:=[p]) ((Tch.refl _ _).setCell (fun _=>by simp) _) (fun b hb hm=>hsep (by simp at hm;rw[hb,hm])),hsep⟩
def crN (keep:Int)(f:DF):Nat:=if keep<(f.data.size:Int)-(f.safe:Int) then (max keep 0).toNat else f.data.size-f.safe
def crF (keep:Int)(f:DF):DF:=⟨f.name,f.data.extract 0 (f.safe+crN keep f),f.safe+crN keep f⟩
theorem crN_le (keep:Int)(f:DF)(h:f.safe<=f.data.size):f.safe+crN keep f<=f.data.size:=by unfold crN;split<;>omega
theorem crF_size (keep:Int)(f:DF)(h:f.safe<=f.data.size):(f.data.extract 0 (f.safe+crN keep f)).size=f.safe+crN keep f:=by
 have:=crN_le keep f h;simp;omega
theorem grow_new {wr w9:World}{q:Nat}{v1:Value}{R:List DF}{nf:DF}(hD:Dsk wr t te q v1 ⟨R,-1,false⟩)(hT:Tch [] w wr)(hnew:∀b,v1.ownBlock=some b->w.heap.size<=b)(hq:w.heap.size<=q)(ht9:Tch [] wr w9)(o:Obj)(v':Value)(w':World)(ho3:Own w' te v' (R++[nf]))(hg3:(w9.drew.alloc o).grownBy w' v1.ownBlock)
  (hb3:v'.ownBlock=v1.ownBlock\/v'.ownBlock=some (w9.heap.size+1)):
  ∃g4 cap4,v'=.slice (some ⟨g4,0,none⟩) (R++[nf]).length cap4/\w'.cell? ⟨q,0,none⟩=some v1/\w'.frozen? ⟨q,0,none⟩=false/\
   Dsk (w'.setCell ⟨q,0,none⟩ (.slice (some ⟨g4,0,none⟩) (R++[nf]).length cap4)) t te q (.slice (some ⟨g4,0,none⟩) (R++[nf]).length cap4) ⟨R++[nf],-1,false⟩/\Tch [] w (w'.setCell ⟨q,0,none⟩ (.slice (some ⟨g4,0,none⟩) (R++[nf]).length cap4))/\∀b,(Value.slice (some ⟨g4,0,none⟩) (R++[nf]).length cap4).ownBlock=some b->w.heap.size<=b:=by
 have hB9:DBlk w9 q t v1 (-1) false:=hD.blk.tch ht9 (by simp);have hBa:DBlk (w9.drew.alloc o) q t v1 (-1) false:=(Below.heap_alloc _ _ _ hB9.lt).trans hB9;have hBb:DBlk w' q t v1 (-1) false:=(hg3.block q hBa.lt (fun e=>hD.sep e.symm)).trans hBa;have hsz:wr.heap.size<=w9.heap.size:=ht9.size;have hsz0:w.heap.size<=wr.heap.size:=hT.size;have hsep:v'.ownBlock≠some q:=by
  intro e;rcases hb3 with h|h
  ·exact hD.sep (h.symm.trans e)
  ·rw[e]at h;injection h with h;have:=hD.blk.lt;omega
 obtain⟨g4,cap4,hv⟩:=ho3.some (by simp);subst hv;refine⟨g4,cap4,rfl,hBb.c0,hBb.fz 0,Dsk.swap hBb ho3 hsep,?_,fun b hb=>?_⟩
 ·refine Tch.setCell ?_ (fun h=>by simp at h;omega) _;exact((hT.trans ht9 (fun x hx=>by cases hx)).drew.alloc _).grown hg3 (fun b hb hlt=>by have:=hnew b hb;omega)
 ·rcases hb3 with h|h
  ·exact hnew b (h.symm.trans hb)
  ·rw[hb]at h;injection h with h;omega
theorem crash_d (p:Nat)(v:Value)(left:Int)(st:Bool)(fs:List DF)(keep:Int)(w:World)(h:DBlk w p 77 v left st)(ho:Own w 79 v fs)(hn:fs.length<8388608)(hs:∀f∈fs,f.safe<=f.data.size/\f.data.size<=1099511627776)
  (hk1:-9223372036854775808<=keep)(hk2:keep<=9223372036854775807):
  Calls Tryz.prog 15 #[.pointer (some ⟨p,0,none⟩),.int .i64 keep] w fun e w'=>e=.returned (.pointer (some ⟨w.heap.size,0,none⟩))/\∃v',Dsk w' 77 79 w.heap.size v' ⟨fs.map (crF keep),-1,false⟩/\Tch [] w w'/\∀b,v'.ownBlock=some b->w.heap.size<=b:=by
 have h0:=h.c0;obtain⟨a,cap,rfl,hc⟩:=ho.at
 have HC:Hid (∀j (hj:j<fs.length),∃g,a=some ⟨g,0,none⟩/\w.cell? ⟨g,j*3,none⟩=some (.string fs[j].name)/\w.cell? ⟨g,j*3+1,none⟩=some (.string fs[j].data)/\w.cell? ⟨g,j*3+2,none⟩=some (.int .i64 (fs[j].safe:Nat))):=hc;have HB:Hid (DBlk w p 77 (.slice a fs.length cap) left st):=h;clear hc h ho;go_enter Tryz.func15,Tryz.ntmps15;go_wp2_with fail;refine(new_d _).mono ?_;rintro e w1 ⟨rfl,hw1⟩;have hT1:Tch [] w w1:=by rw[hw1];exact(Tch.refl _ _).alloc _
 have hB1:DBlk w1 w.heap.size 77 (.slice none 0 0) (-1) false:=by rw[hw1];exact heap_alloc_new _ _
 have c0:=(hT1.cell HB.out.lt (by simp)).trans h0;have HW1:Hid (Tch [] w w1/\DBlk w1 w.heap.size 77 (.slice none 0 0) (-1) false):=⟨hT1,hB1⟩;clear hT1 hB1 hw1 h0;go_wp2_with fail
 go_loopw [15] (fun i wr=>∃k:Nat,k<=fs.length/\i=.int .i64 k/\∃v1,Dsk wr 77 79 w.heap.size v1 ⟨(fs.take k).map (crF keep),-1,false⟩/\Tch [] w wr/\∀b,v1.ownBlock=some b->w.heap.size<=b) (fun i _=>fs.length-(intOf i).toNat)
 case atStart=>exact⟨0,Nat.zero_le _,rfl,_,⟨HW1.out.2,Own.nil _ _,by simp[Value.ownBlock]⟩,HW1.out.1,fun b hb=>by simp[Value.ownBlock]at hb⟩
 case round=>
  obtain⟨k,hk,rfl,v1,hD,htch,hnew⟩:=hrel;have HD:Hid (Dsk wr 77 79 w.heap.size v1 ⟨(fs.take k).map (crF keep),-1,false⟩/\Tch [] w wr/\∀b,v1.ownBlock=some b->w.heap.size<=b):=⟨hD,htch,hnew⟩
  by_cases hkn:k<fs.length
  ·obtain⟨g,rfl,c1,c2,c3⟩:=HC.out k hkn;have d1:=(htch.cell (World.block_lt_of_cell? _ _ c1) (by simp)).trans c1;have d2:=(htch.cell (World.block_lt_of_cell? _ _ c2) (by simp)).trans c2;have d3:=(htch.cell (World.block_lt_of_cell? _ _ c3) (by simp)).trans c3;have hq0:∀o,(wr.alloc o).cell? ⟨w.heap.size,0,none⟩=some v1:=fun o=>(World.cell?_of_block (Below.heap_alloc _ _ _ hD.blk.lt)).trans hD.blk.c0
   have HTK:Hid ((fs.take (k+1)).map (crF keep)=(fs.take k).map (crF keep)++[crF keep fs[k]]):=by
    show _=_
    rw[List.take_succ_eq_append_getElem hkn,List.map_append];rfl
   have HLN:Hid (((fs.take k).map (crF keep)).length<=8388608):=by
    show _<=_
    rw[List.length_map,List.length_take];omega
   obtain⟨hsf,hds⟩:=hs fs[k] (List.getElem_mem _);obtain⟨a1,cap1,hv1,_⟩:=hD.own.at
   subst hv1;clear c1 c2 c3 hD htch hnew;generalize fs[k]=f at d1 d2 d3 HTK hsf hds;generalize (fs.take k).map (crF keep)=R at HD HTK HLN hq0;have hkl:((k:Int)<(fs.length:Int)):=by omega
   obtain⟨nf,HNF⟩:∃nf:DF,Hid (nf=crF keep f):=⟨_,rfl⟩;have hcr:=crN_le keep f hsf;have hcz:=crF_size keep f hsf;rw[<-HNF.out]at HTK;have hwsub:wrap64 ((f.data.size:Int)-(f.safe:Int))=(f.data.size:Int)-(f.safe:Int):=by simp[wrap64];omega
   by_cases hlt:keep<(f.data.size:Int)-(f.safe:Int)
   ·by_cases hk0:0<=keep
    ·obtain⟨m,rfl⟩:∃m:Nat,keep=(m:Int):=⟨keep.toNat,by omega⟩;have hN:crN (m:Int) f=m:=by unfold crN;rw[if_pos hlt];omega
     rw[hN]at hcr hcz;have hwadd:wrap64 ((f.safe:Int)+(m:Int))=(f.safe:Int)+(m:Int):=by simp[wrap64];omega
     have hmx:max (m:Int) 0=(m:Int):=by omega
     have HE:Hid (nf=⟨f.name,f.data.extract 0 (f.safe+m),f.safe+m⟩):=by rw[HNF.out];unfold crF;rw[hN];rfl
     go_wp2_with fail;have HT9:Hid (Tch [] wr (wr.alloc (.cells #[.string f.name,.string (f.data.extract 0 (f.safe+m)),.int .i64 ((f.safe:Int)+(m:Int))] 79))/\(wr.alloc (.cells #[.string f.name,.string (f.data.extract 0 (f.safe+m)),.int .i64 ((f.safe:Int)+(m:Int))] 79)).heap[wr.heap.size]?=some (.cells nf.arr 79 (0,0))):=⟨(Tch.refl _ _).alloc _,by rw[HE.out];exact heap_alloc_new _ _⟩;generalize wr.alloc (.cells #[.string f.name,.string (f.data.extract 0 (f.safe+m)),.int .i64 ((f.safe:Int)+(m:Int))] 79)=w9 at HT9;have c9:w9.cell? ⟨w.heap.size,0,none⟩=some (.slice a1 R.length cap1):=(HT9.out.1.cell HD.out.1.blk.lt (by simp)).trans HD.out.1.blk.c0;have c9a:∀o,(w9.alloc o).cell? ⟨w.heap.size,0,none⟩=some (.slice a1 R.length cap1):=fun o=>(World.cell?_of_block (Below.heap_alloc _ _ _ (Nat.lt_of_lt_of_le HD.out.1.blk.lt HT9.out.1.size))).trans c9
     have e0:w9.cell? ⟨wr.heap.size,0,none⟩=some (.string nf.name):=(cell_of_row _ _ 0 _ 79 (0,0) HT9.out.2).trans rfl;have e1:w9.cell? ⟨wr.heap.size,1,none⟩=some (.string nf.data):=(cell_of_row _ _ 1 _ 79 (0,0) HT9.out.2).trans rfl;have e2:w9.cell? ⟨wr.heap.size,2,none⟩=some (.int .i64 (nf.safe:Nat)):=(cell_of_row _ _ 2 _ 79 (0,0) HT9.out.2).trans rfl;clear hq0
     go_region_law (refine step_file rfl (.tmp 46) (.tmp 48) 75 79 rfl Tryz.underlying75 info81 (.slice a1 R.length cap1) R (by simp[Act.eval,Act.put]) (HD.out.1.own.tch (S:=[]) ((HT9.out.1.drew).alloc _) (fun _ _=>by simp)) w9.heap.size nf (by simp[Act.eval,Act.put]) (heap_alloc_new _ _) HLN.out ?_;intro v' wa ho3 hg3 hb3;obtain⟨g4,cap4,hv4,ca,za,hfin⟩:=grow_new HD.out.1 HD.out.2.1 HD.out.2.2 (Nat.le_refl _) HT9.out.1 _ v' wa ho3 hg3 (by simpa using hb3);subst hv4;clear ho3 hg3 hb3;have HFIN:Hid (Dsk (wa.setCell ⟨w.heap.size,0,none⟩ (.slice (some ⟨g4,0,none⟩) (R++[nf]).length cap4)) 77 79 w.heap.size (.slice (some ⟨g4,0,none⟩) (R++[nf]).length cap4) ⟨R++[nf],-1,false⟩/\Tch [] w (wa.setCell ⟨w.heap.size,0,none⟩ (.slice (some ⟨g4,0,none⟩) (R++[nf]).length cap4))/\∀b,(Value.slice (some ⟨g4,0,none⟩) (R++[nf]).length cap4).ownBlock=some b->w.heap.size<=b):=hfin;clear hfin;rw[show (R++[nf]).length=R.length+1 by simp]at HFIN ⊢)
     all_goals go_wp2_with fail
     all_goals go_roundw
     all_goals first|exact⟨k+1,by omega,by go_num,_,by rw[HTK.out];exact HFIN.out.1,HFIN.out.2.1,HFIN.out.2.2⟩|(simp[intOf];omega)
    ·have hN:crN keep f=0:=by unfold crN;rw[if_pos hlt];omega
     rw[hN,Nat.add_zero]at hcr hcz;have hmx:max keep 0=0:=by omega
     have hwadd:wrap64 (f.safe:Int)=(f.safe:Int):=by simp[wrap64];omega
     have HE:Hid (nf=⟨f.name,f.data.extract 0 f.safe,f.safe⟩):=by rw[HNF.out];unfold crF;rw[hN];rfl
     go_wp2_with fail;have HT9:Hid (Tch [] wr (wr.alloc (.cells #[.string f.name,.string (f.data.extract 0 f.safe),.int .i64 (f.safe:Int)] 79))/\(wr.alloc (.cells #[.string f.name,.string (f.data.extract 0 f.safe),.int .i64 (f.safe:Int)] 79)).heap[wr.heap.size]?=some (.cells nf.arr 79 (0,0))):=⟨(Tch.refl _ _).alloc _,by rw[HE.out];exact heap_alloc_new _ _⟩;generalize wr.alloc (.cells #[.string f.name,.string (f.data.extract 0 f.safe),.int .i64 (f.safe:Int)] 79)=w9 at HT9;have c9:w9.cell? ⟨w.heap.size,0,none⟩=some (.slice a1 R.length cap1):=(HT9.out.1.cell HD.out.1.blk.lt (by simp)).trans HD.out.1.blk.c0;have c9a:∀o,(w9.alloc o).cell? ⟨w.heap.size,0,none⟩=some (.slice a1 R.length cap1):=fun o=>(World.cell?_of_block (Below.heap_alloc _ _ _ (Nat.lt_of_lt_of_le HD.out.1.blk.lt HT9.out.1.size))).trans c9
     have e0:w9.cell? ⟨wr.heap.size,0,none⟩=some (.string nf.name):=(cell_of_row _ _ 0 _ 79 (0,0) HT9.out.2).trans rfl;have e1:w9.cell? ⟨wr.heap.size,1,none⟩=some (.string nf.data):=(cell_of_row _ _ 1 _ 79 (0,0) HT9.out.2).trans rfl;have e2:w9.cell? ⟨wr.heap.size,2,none⟩=some (.int .i64 (nf.safe:Nat)):=(cell_of_row _ _ 2 _ 79 (0,0) HT9.out.2).trans rfl;clear hq0
     go_region_law (refine step_file rfl (.tmp 46) (.tmp 48) 75 79 rfl Tryz.underlying75 info81 (.slice a1 R.length cap1) R (by simp[Act.eval,Act.put]) (HD.out.1.own.tch (S:=[]) ((HT9.out.1.drew).alloc _) (fun _ _=>by simp)) w9.heap.size nf (by simp[Act.eval,Act.put]) (heap_alloc_new _ _) HLN.out ?_;intro v' wa ho3 hg3 hb3;obtain⟨g4,cap4,hv4,ca,za,hfin⟩:=grow_new HD.out.1 HD.out.2.1 HD.out.2.2 (Nat.le_refl _) HT9.out.1 _ v' wa ho3 hg3 (by simpa using hb3);subst hv4;clear ho3 hg3 hb3;have HFIN:Hid (Dsk (wa.setCell ⟨w.heap.size,0,none⟩ (.slice (some ⟨g4,0,none⟩) (R++[nf]).length cap4)) 77 79 w.heap.size (.slice (some ⟨g4,0,none⟩) (R++[nf]).length cap4) ⟨R++[nf],-1,false⟩/\Tch [] w (wa.setCell ⟨w.heap.size,0,none⟩ (.slice (some ⟨g4,0,none⟩) (R++[nf]).length cap4))/\∀b,(Value.slice (some ⟨g4,0,none⟩) (R++[nf]).length cap4).ownBlock=some b->w.heap.size<=b):=hfin;clear hfin;rw[show (R++[nf]).length=R.length+1 by simp]at HFIN ⊢)
     all_goals go_wp2_with fail
     all_goals go_roundw
     all_goals first|exact⟨k+1,by omega,by go_num,_,by rw[HTK.out];exact HFIN.out.1,HFIN.out.2.1,HFIN.out.2.2⟩|(simp[intOf];omega)
   ·have hN:crN keep f=f.data.size-f.safe:=by unfold crN;rw[if_neg hlt]
    have hwadd:wrap64 ((f.safe:Int)+((f.data.size:Int)-(f.safe:Int)))=(f.data.size:Int):=by simp[wrap64];omega
    have HE:Hid (nf=⟨f.name,f.data,f.data.size⟩):=by
     show _=_
     rw[HNF.out];unfold crF;rw[hN,show f.safe+(f.data.size-f.safe)=f.data.size by omega]
     simp
    have hge:0<=(f.data.size:Int)-(f.safe:Int):=by omega
    go_wp2_with fail;have HT9:Hid (Tch [] wr (wr.alloc (.cells #[.string f.name,.string f.data,.int .i64 (f.data.size:Nat)] 79))/\(wr.alloc (.cells #[.string f.name,.string f.data,.int .i64 (f.data.size:Nat)] 79)).heap[wr.heap.size]?=some (.cells nf.arr 79 (0,0))):=⟨(Tch.refl _ _).alloc _,by rw[HE.out];exact heap_alloc_new _ _⟩;generalize wr.alloc (.cells #[.string f.name,.string f.data,.int .i64 (f.data.size:Nat)] 79)=w9 at HT9;have c9:w9.cell? ⟨w.heap.size,0,none⟩=some (.slice a1 R.length cap1):=(HT9.out.1.cell HD.out.1.blk.lt (by simp)).trans HD.out.1.blk.c0;have c9a:∀o,(w9.alloc o).cell? ⟨w.heap.size,0,none⟩=some (.slice a1 R.length cap1):=fun o=>(World.cell?_of_block (Below.heap_alloc _ _ _ (Nat.lt_of_lt_of_le HD.out.1.blk.lt HT9.out.1.size))).trans c9
    have e0:w9.cell? ⟨wr.heap.size,0,none⟩=some (.string nf.name):=(cell_of_row _ _ 0 _ 79 (0,0) HT9.out.2).trans rfl;have e1:w9.cell? ⟨wr.heap.size,1,none⟩=some (.string nf.data):=(cell_of_row _ _ 1 _ 79 (0,0) HT9.out.2).trans rfl;have e2:w9.cell? ⟨wr.heap.size,2,none⟩=some (.int .i64 (nf.safe:Nat)):=(cell_of_row _ _ 2 _ 79 (0,0) HT9.out.2).trans rfl;clear hq0
    go_region_law (refine step_file rfl (.tmp 46) (.tmp 48) 75 79 rfl Tryz.underlying75 info81 (.slice a1 R.length cap1) R (by simp[Act.eval,Act.put]) (HD.out.1.own.tch (S:=[]) ((HT9.out.1.drew).alloc _) (fun _ _=>by simp)) w9.heap.size nf (by simp[Act.eval,Act.put]) (heap_alloc_new _ _) HLN.out ?_;intro v' wa ho3 hg3 hb3;obtain⟨g4,cap4,hv4,ca,za,hfin⟩:=grow_new HD.out.1 HD.out.2.1 HD.out.2.2 (Nat.le_refl _) HT9.out.1 _ v' wa ho3 hg3 (by simpa using hb3);subst hv4;clear ho3 hg3 hb3;have HFIN:Hid (Dsk (wa.setCell ⟨w.heap.size,0,none⟩ (.slice (some ⟨g4,0,none⟩) (R++[nf]).length cap4)) 77 79 w.heap.size (.slice (some ⟨g4,0,none⟩) (R++[nf]).length cap4) ⟨R++[nf],-1,false⟩/\Tch [] w (wa.setCell ⟨w.heap.size,0,none⟩ (.slice (some ⟨g4,0,none⟩) (R++[nf]).length cap4))/\∀b,(Value.slice (some ⟨g4,0,none⟩) (R++[nf]).length cap4).ownBlock=some b->w.heap.size<=b):=hfin;clear hfin;rw[show (R++[nf]).length=R.length+1 by simp]at HFIN ⊢)
    all_goals go_wp2_with fail
    all_goals go_roundw
    all_goals first|exact⟨k+1,by omega,by go_num,_,by rw[HTK.out];exact HFIN.out.1,HFIN.out.2.1,HFIN.out.2.2⟩|(simp[intOf];omega)
  ·have hkl:¬((k:Int)<(fs.length:Int)):=by omega
   rw[List.take_of_length_le (by omega)]at HD;clear hD htch hnew;go_wp2_with fail;go_ret;exact⟨rfl,_,HD.out⟩
end Go.Proofs.YtbdobaapadlcjabGreatDoor.Dk
namespace Go.Proofs.YtbdobaapadlcjabGreatDoor
open Go.RowKit
variable {B i j x d y z st b:Nat}{w0 w w':World}{v:Value}{n nx ny now:Int}{c cx cy:Nat->Option QM}{ls:List ByteArray}{col:Nat->Nat}
abbrev Pty:=World->(Nat->Nat)->Prop
def Stb9 (B:Nat)(p:Pty):Prop:=∀w w' col cl,p w col->B<=w.heap.size->0<w.heap.size->FqT TA B cl w w'->(∀q,B<=q->q<w.heap.size->col q≠9->cl q=9)->p w' (rec9 w w' col)
structure Alc (B:Nat)(w0:World)(ps:Nat->Pty)(ow:Nat->Nat)(cs:Nat->Nat->Nat)(w:World):Prop where
 env:Env B w
 bel:Below B w0 w
 stb:∀i,Stb9 B (ps i)
 all:∀i,ps i w (cs i)/\∀q,B<=q->q<w.heap.size->cs i q≠9->ow q=i
def Al (B:Nat)(w0:World)(ps:Nat->Pty)(w:World):Prop:=∃ow cs,Alc B w0 ps ow cs w
theorem Al.env {ps:Nat->Pty}(h:Al B w0 ps w):Env B w:=by
 obtain⟨ow,cs,h⟩:=h;exact h.env
theorem Al.bel {ps:Nat->Pty}(h:Al B w0 ps w):Below B w0 w:=by
 obtain⟨ow,cs,h⟩:=h;exact h.bel
def up (ps:Nat->Pty)(i:Nat)(p:Pty):Nat->Pty:=fun j=>if j=i then p else ps j
theorem up_same (ps:Nat->Pty)(i:Nat)(p:Pty):up ps i p i=p:=if_pos rfl
theorem up_ne (ps:Nat->Pty){i j:Nat}(p:Pty)(h:j≠i):up ps i p j=ps j:=if_neg h
def noP:Pty:=fun _ _=>True
theorem noP_stb (B:Nat):Stb9 B noP:=fun _ _ _ _ _ _ _ _ _=>trivial
theorem Alc.act {ps:Nat->Pty}{ow:Nat->Nat}{cs:Nat->Nat->Nat}(h:Alc B w0 ps ow cs w)(i:Nat)(p':Pty)(hp':Stb9 B p'){col':Nat->Nat}(h1:p' w' col')(h2:∀k,k<w.heap.size->col' k≠9->B<=k->cs i k≠9)(h3:FqT TA B (cs i) w w'):Al B w0 (up ps i p') w':=by
 have ha:=h.all;refine⟨fun q=>if q<w.heap.size then ow q else i,fun j=>if j=i then col' else rec9 w w' (cs j),h.env.bel h3.bel,h.bel.trans h3.bel,fun j=>?_,fun j=>?_⟩
 ·by_cases hj:j=i
  ·rw[hj,up_same];exact hp'
  ·rw[up_ne ps p' hj];exact h.stb j
 ·by_cases hj:j=i
  ·subst hj;rw[up_same,if_pos rfl];refine⟨h1,fun q hB hq h9=>?_⟩
   by_cases hlt:q<w.heap.size
   ·simp only[hlt,if_true];exact(ha j).2 q hB hlt (h2 q hlt h9 hB)
   ·simp only[hlt,if_false]
  ·rw[up_ne ps p' hj,if_neg hj];refine⟨h.stb j w w' (cs j) (cs i) (ha j).1 h.env.size h.env.pos h3 (fun q hB hq h9=>?_),fun q hB hq h9=>?_⟩
   ·apply Classical.byContradiction;intro h9';exact hj (((ha j).2 q hB hq h9).symm.trans ((ha i).2 q hB hq h9'))
   ·by_cases hlt:q<w.heap.size
    ·simp only[hlt,if_true];rw[rec9_old hlt]at h9;exact(ha j).2 q hB hlt h9
    ·exact absurd (if_pos ⟨by omega,hq⟩) h9
theorem Al.add {ps:Nat->Pty}(h:Al B w0 ps w)(i:Nat)(p:Pty)(hp:Stb9 B p)(ht:Tch [] w w')(hd:∃col,p w' col/\∀k,B<=k->k<w.heap.size->col k=9):Al B w0 (up ps i p) w':=by
 obtain⟨ow,cs,h⟩:=h;obtain⟨col',h1,h2⟩:=hd;exact h.act i p hp h1 (fun k hk h9 hB=>absurd (h2 k hB hk) h9) (FqT.of_nil _ ht h.env.size)
theorem Al.tch {ps:Nat->Pty}(h:Al B w0 ps w)(ht:Tch [] w w'):Al B w0 ps w':=by
 obtain⟨ow,cs,h⟩:=h;have ha:=h.all;have hf:∀c,FqT TA B c w w':=fun c=>FqT.of_nil c ht h.env.size
 refine⟨ow,fun j=>rec9 w w' (cs j),h.env.tch ht (by simp),h.bel.trans (hf (fun _=>0)).bel,h.stb,fun j=>⟨h.stb j w w' (cs j) (fun _=>9) (ha j).1 h.env.size h.env.pos (hf _) (fun _ _ _ _=>rfl),fun q hB hq h9=>?_⟩⟩
 by_cases hlt:q<w.heap.size
 ·rw[rec9_old hlt]at h9;exact(ha j).2 q hB hlt h9
 ·exact absurd (if_pos ⟨by omega,hq⟩) h9
theorem Al.get {ps:Nat->Pty}(h:Al B w0 ps w)(i:Nat):∃col,ps i w col:=by
 obtain⟨ow,cs,h⟩:=h;exact⟨_,(h.all i).1⟩
def bkP (B x d:Nat)(n:Int)(c:Nat->Option QM):Pty:=fun w col=>∃st b,Bk B w x st b n c col/\col 0=d+10
theorem bkP_stb (B x d:Nat)(n:Int)(c:Nat->Option QM):Stb9 B (bkP B x d n c):=fun w w' col cl ⟨st,b,h1,h2⟩ hB h0 hf hd=>⟨st,b,h1.oth hf hd,(rec9_old h0).trans h2⟩
def stP (B:Nat)(v:Value)(l:List ByteArray):Pty:=fun w col=>Dk.OwnS w v l/\∀g,v.ownBlock=some g->B<=g/\col g≠9
theorem stP_stb (B:Nat)(v:Value)(l:List ByteArray):Stb9 B (stP B v l):=fun w w' col cl ⟨h1,h2⟩ hB h0 hf hd=>by
 obtain⟨S,ht,hS⟩:=hf.chg;refine⟨h1.tch ht (fun g hg hm=>(hS g hm).2 (hf.out g (own_lt h1 hg) (hd g (h2 g hg).1 (own_lt h1 hg) (h2 g hg).2))),fun g hg=>⟨(h2 g hg).1,?_⟩⟩
 rw[rec9_old (own_lt h1 hg)];exact(h2 g hg).2
theorem Al.str {ps:Nat->Pty}(h:Al B w0 ps w)(i:Nat)(ht:Tch [] w w'){v:Value}{l:List ByteArray}(ho:Dk.OwnS w' v l)(hn:∀g,v.ownBlock=some g->w.heap.size<=g):Al B w0 (up ps i (stP B v l)) w':=
 h.add i _ (stP_stb B v l) ht ⟨fun k=>if k<w.heap.size then 9 else 0,⟨ho,fun g hg=>⟨Nat.le_trans h.env.size (hn g hg),by
  have:=hn g hg;simp only[if_neg (show ¬g<w.heap.size by omega)];decide⟩⟩,fun k _ hk=>if_pos hk⟩
theorem Al.ask {ps:Nat->Pty}(h:Al B w0 ps w){i x d:Nat}{n:Int}{c:Nat->Option QM}(hi:ps i=bkP B x d n c)(s:ByteArray)(hs:s.size<=maxLen):
  Calls Tryz.prog 11 #[.pointer (some ⟨x,0,none⟩),.string s] w fun e w'=>e=.returned (.string (doStr n c s).1)/\Al B w0 (up ps i (bkP B x d (doStr n c s).2.1 (doStr n c s).2.2)) w':=by
 obtain⟨ow,cs,h⟩:=h;have hb:=(h.all i).1;rw[hi]at hb;obtain⟨st,b,h1,h2⟩:=hb;refine(do_any B s x st b n c (cs i) w h.env h1 hs).mono ?_;rintro e w' ⟨rfl,col',hb',hag,hf⟩;exact⟨rfl,h.act i _ (bkP_stb B x d _ _) ⟨st,b,hb',(hag.1 0 h.env.pos).trans h2⟩ (fun k hk h9 _=>by rw[<-hag.1 k hk];exact h9) hf⟩
theorem Al.shw {ps:Nat->Pty}(h:Al B w0 ps w){i j x d:Nat}{n:Int}{c:Nat->Option QM}(hi:ps i=bkP B x d n c)(hij:j≠i):
  Calls Tryz.prog 12 #[.pointer (some ⟨x,0,none⟩)] w fun e w'=>∃v,e=.returned v/\Al B w0 (up (up ps i (bkP B x d n c)) j (stP B v (shw n c))) w':=by
 obtain⟨ow,cs,h⟩:=h;have hb:=(h.all i).1;rw[hi]at hb;obtain⟨st,b,h1,h2⟩:=hb;refine(shown_any B x st b n c (cs i) w h.env h1).mono ?_;rintro e w' ⟨v,col',rfl,hs⟩;refine⟨v,rfl,?_⟩;have hz:=hs.fq.size;have hBw:=h.env.size;have ha:=h.all;refine⟨fun q=>if q<w.heap.size then ow q else if v.ownBlock=some q then j else i,fun m=>if m=j then (fun q=>if v.ownBlock=some q then 0 else 9) else if m=i then col' else rec9 w w' (cs m),h.env.bel hs.fq.bel,h.bel.trans hs.fq.bel,fun m=>?_,fun m=>?_⟩
 ·by_cases hm:m=j
  ·rw[hm,up_same];exact stP_stb B v _
  ·rw[up_ne _ _ hm]
   by_cases hm2:m=i
   ·rw[hm2,up_same];exact bkP_stb B x d n c
   ·rw[up_ne _ _ hm2];exact h.stb m
 ·by_cases hm:m=j
  ·subst hm;rw[up_same,if_pos rfl];refine⟨⟨hs.own,fun g hg=>⟨Nat.le_trans hBw (hs.new g hg),by simp[hg]⟩⟩,fun q hB hq h9=>?_⟩
   have hq':v.ownBlock=some q:=by
    apply Classical.byContradiction;intro hn;simp only[hn,if_false]at h9;exact h9 rfl
   have:=hs.new q hq';simp only[show ¬q<w.heap.size by omega,if_false,hq',if_true]
  ·rw[up_ne _ _ hm,if_neg hm]
   by_cases hm2:m=i
   ·subst hm2;rw[up_same,if_pos rfl];refine⟨⟨st,b,hs.bk,(hs.old 0 h.env.pos).trans h2⟩,fun q hB hq h9=>?_⟩
    by_cases hlt:q<w.heap.size
    ·simp only[hlt,if_true];rw[hs.old q hlt]at h9;exact(ha m).2 q hB hlt h9
    ·have hq':¬v.ownBlock=some q:=fun e=>h9 (hs.c9 q e)
     simp only[hlt,if_false,hq']
   ·rw[up_ne _ _ hm2,if_neg hm2];refine⟨h.stb m w w' (cs m) (cs i) (ha m).1 hBw h.env.pos hs.fq (fun q hB hq h9=>?_),fun q hB hq h9=>?_⟩
    ·apply Classical.byContradiction;intro h9';exact hm2 (((ha m).2 q hB hq h9).symm.trans ((ha i).2 q hB hq h9'))
    ·by_cases hlt:q<w.heap.size
     ·simp only[hlt,if_true];rw[rec9_old hlt]at h9;exact(ha m).2 q hB hlt h9
     ·exact absurd (if_pos ⟨by omega,hq⟩) h9
theorem PI.al (h:PI B w0 d x y nx cx ny cy w):∃d2,Al B w0 (up (up (fun _=>noP) 0 (bkP B x d nx cx)) 1 (bkP B y d2 ny cy)) w:=by
 obtain⟨sx,bx,sy,b2,colx,coly,g1,g2,g3⟩:=h;obtain⟨o,room,⟨j,d2,v,n,k,hJ⟩,_⟩:=g1.g.jg;refine⟨d2,fun q=>if colx q=9 then 1 else 0,fun i=>if i=1 then coly else if i=0 then colx else fun _=>9,g1.env,g3,fun i=>?_,fun i=>?_⟩
 ·by_cases h1:i=1
  ·rw[h1,up_same];exact bkP_stb _ _ _ _ _
  ·rw[up_ne _ _ h1]
   by_cases h0:i=0
   ·rw[h0,up_same];exact bkP_stb _ _ _ _ _
   ·rw[up_ne _ _ h0];exact noP_stb B
 ·by_cases h1:i=1
  ·subst h1;rw[up_same,if_pos rfl];refine⟨⟨sy,b2,g1.g,hJ.dc⟩,fun q hB hq h9=>?_⟩
   simp only[(g1.ap q hB hq).resolve_right h9,if_true]
  ·rw[up_ne _ _ h1,if_neg h1]
   by_cases h0:i=0
   ·subst h0;rw[up_same,if_pos rfl];exact⟨⟨sx,bx,g1.f,g2⟩,fun q hB hq h9=>if_neg h9⟩
   ·rw[up_ne _ _ h0,if_neg h0];exact⟨trivial,fun q _ _ h9=>absurd rfl h9⟩
theorem crF_all (keep:Int)(f:Dk.DF)(h:f.safe=f.data.size):Dk.crF keep f=f:=by
 have h1:Dk.crN keep f=0:=by
  unfold Dk.crN
  split<;>omega
 obtain⟨n,s,k⟩:=f;simp only at h;subst h;unfold Dk.crF;rw[h1];simp
theorem crF_fileO (keep:Int)(o:Option ByteArray):(fileO o).map (Dk.crF keep)=fileO o:=by
 cases o with
 | none=>rfl
 | some s=>
  show [Dk.crF keep ⟨jn,s,s.size⟩]=_
  rw[crF_all keep _ rfl];rfl
def Gp (B:Nat)(w0:World)(l:List Pty)(w:World):Prop:=∃ps,Al B w0 ps w/\∀i p,l[i]?=some p->ps i=p
theorem up_list {l:List Pty}{ps:Nat->Pty}(h:∀i p,l[i]?=some p->ps i=p)(j:Nat)(q:Pty):∀i p,(l.set j q)[i]?=some p->up ps j q i=p:=fun i p hi=>by
 by_cases e:i=j
 ·subst e;rw[up_same]
  by_cases hl:i<l.length
  ·rw[List.getElem?_set_self hl]at hi;exact Option.some.inj hi
  ·rw[List.getElem?_eq_none (by rw[List.length_set];omega)]at hi
   cases hi
 ·rw[up_ne _ _ e];rw[List.getElem?_set_ne (fun h=>e h.symm)]at hi;exact h i p hi
theorem Gp.env {l:List Pty}(h:Gp B w0 l w):Env B w:=by
 obtain⟨ps,h,_⟩:=h;exact h.env
theorem Gp.bel {l:List Pty}(h:Gp B w0 l w):Below B w0 w:=by
 obtain⟨ps,h,_⟩:=h;exact h.bel
theorem Gp.get {l:List Pty}(h:Gp B w0 l w)(i:Nat){p:Pty}(hi:l[i]?=some p):∃col,p w col:=by
 obtain⟨ps,h,hl⟩:=h;obtain⟨col,hc⟩:=h.get i;rw[hl i p hi]at hc;exact⟨col,hc⟩
theorem Gp.tch {l:List Pty}(h:Gp B w0 l w)(ht:Tch [] w w'):Gp B w0 l w':=by
 obtain⟨ps,h,hl⟩:=h;exact⟨ps,h.tch ht,hl⟩
theorem Gp.str {l:List Pty}(h:Gp B w0 l w)(i:Nat)(ht:Tch [] w w'){v:Value}{ls:List ByteArray}(ho:Dk.OwnS w' v ls)(hn:∀g,v.ownBlock=some g->w.heap.size<=g):Gp B w0 (l.set i (stP B v ls)) w':=by
 obtain⟨ps,h,hl⟩:=h;exact⟨_,h.str i ht ho hn,up_list hl i _⟩
theorem Gp.ask {l:List Pty}(h:Gp B w0 l w)(i:Nat){x d:Nat}{n:Int}{c:Nat->Option QM}(hi:l[i]?=some (bkP B x d n c))(s:ByteArray)(hs:s.size<=maxLen):
  Calls Tryz.prog 11 #[.pointer (some ⟨x,0,none⟩),.string s] w fun e w'=>e=.returned (.string (doStr n c s).1)/\Gp B w0 (l.set i (bkP B x d (doStr n c s).2.1 (doStr n c s).2.2)) w':=by
 obtain⟨ps,h,hl⟩:=h;refine(h.ask (hl i _ hi) s hs).mono ?_;rintro e w' ⟨rfl,h'⟩;exact⟨rfl,_,h',up_list hl i _⟩
theorem Gp.shw {l:List Pty}(h:Gp B w0 l w)(i j:Nat){x d:Nat}{n:Int}{c:Nat->Option QM}(hi:l[i]?=some (bkP B x d n c))(hij:j≠i):
  Calls Tryz.prog 12 #[.pointer (some ⟨x,0,none⟩)] w fun e w'=>∃v,e=.returned v/\Gp B w0 (l.set j (stP B v (shw n c))) w':=by
 obtain⟨ps,h,hl⟩:=h;refine(h.shw (hl i _ hi) hij).mono ?_;rintro e w' ⟨v,rfl,h'⟩;have e2:up ps i (bkP B x d n c)=ps:=by
  funext k
  by_cases hk:k=i
  ·rw[hk,up_same,hl i _ hi]
  ·rw[up_ne _ _ hk]
 rw[e2]at h';exact⟨v,rfl,_,h',up_list hl j _⟩
theorem Gp.alike {l:List Pty}(h:Gp B w0 l w)(i j:Nat){u v:Value}{ls:List ByteArray}(hi:l[i]?=some (stP B u ls))(hj:l[j]?=some (stP B v ls))(hn:0<ls.length)(hm:ls.length<=1000000):
  Calls Tryz.prog 13 #[u,v] w fun e w'=>e=.returned (.bool true)/\Gp B w0 l w':=by
 obtain⟨c1,h1,_⟩:=h.get i hi;obtain⟨c2,h2,_⟩:=h.get j hj;obtain⟨a,ca,rfl,ha⟩:=h1.at
 obtain⟨b,cb,rfl,hb⟩:=h2.at
 obtain⟨g1,rfl,_⟩:=ha 0 hn;obtain⟨g2,rfl,_⟩:=hb 0 hn;refine(alike_same g1 ca g2 cb ls w hm (fun k hk=>?_) (fun k hk=>?_)).mono ?_
 ·obtain⟨g,e,hc,_⟩:=ha k hk;injection e with e;injection e with e;subst e;exact hc
 ·obtain⟨g,e,hc,_⟩:=hb k hk;injection e with e;injection e with e;subst e;exact hc
 ·rintro e w' ⟨rfl,ht⟩;exact⟨rfl,h.tch ht⟩
theorem shw_len (n:Int)(c:Nat->Option QM):(shw n c).length=8:=by
 unfold shw;simp
theorem Gp.at {l:List Pty}(h:Gp B w0 l w)(i:Nat){v:Value}{ls:List ByteArray}(hi:l[i]?=some (stP B v ls)):∃a cap,v=.slice a ls.length cap/\∀k (hk:k<ls.length),∃g,a=some ⟨g,0,none⟩/\w.cell? ⟨g,k,none⟩=some (.string ls[k]):=by
 obtain⟨c1,h1,_⟩:=h.get i hi;obtain⟨a,ca,e,ha⟩:=h1.at
 exact⟨a,ca,e,fun k hk=>by
  obtain⟨g,e1,e2,_⟩:=ha k hk;exact⟨g,e1,e2⟩⟩
theorem PI.gp (h:PI B w0 d x y nx cx ny cy w):∃d2,Gp B w0 [bkP B x d nx cx,bkP B y d2 ny cy,noP,noP,noP,noP,noP,noP] w:=by
 obtain⟨d2,h⟩:=h.al;refine⟨d2,_,h,fun i p hi=>?_⟩
 have e:i=0\/i=1\/i=2\/i=3\/i=4\/i=5\/i=6\/i=7\/8<=i:=by omega
 rcases e with rfl|rfl|rfl|rfl|rfl|rfl|rfl|rfl|e
 all_goals first|exact Option.some.inj hi|(rw[List.getElem?_eq_none (by simpa using e)]at hi;cases hi)
structure Bv (B:Nat)(w:World)(z st b j:Nat)(now:Int)(c:Nat->Option QM)(col:Nat->Nat):Prop where
 sk:Sk B w (Gh.tt B) st b now c col
 hz:w.heap[z]?=some (.cells #[.pointer (some ⟨st,0,none⟩),.pointer (some ⟨j,0,none⟩)] 60 (0,0))
 hj:∃dv room,w.heap[j]?=some (.cells #[dv,.int .i64 room,.bool false] 85 (0,0))
 cj:B<=j/\col j≠9
theorem Bv.tch (h:Bv B w z st b j now c col)(ht:Tch [] w w'):Bv B w' z st b j now c col:=by
 obtain⟨dv,room,hj⟩:=h.hj;exact⟨h.sk.tch ht,(ht.block _ (lt_of_block h.hz) (by simp)).trans h.hz,⟨dv,room,(ht.block _ (lt_of_block hj) (by simp)).trans hj⟩,h.cj⟩
theorem vAns_eq (now:Int)(c:Nat->Option QM){i:Nat}(hi:i<8):vAns now c i=(match c i with|none=>⟨#[2]⟩|some Q=>okL (allB Q)):=by
 obtain⟨hg,h1,_⟩:=print_good (vR i) nil0 [] (vR_wf i) rfl (vR_right hi);have hqi:qiR (vR i)=i:=by
  have:=vR_q hi;unfold qiR;omega
 unfold vAns doStr;rw[if_pos hg,h1,if_neg (by show ¬(86:UInt8).toNat=66;decide)];have ho:(vR i).op=86:=rfl
 cases hQ:c i with
 | none=>
  have e:doQ now c (vR i)=(⟨#[2]⟩,now,c):=by
   unfold doQ;rw[ho,hqi,hQ];rfl
  rw[e]
 | some Q=>
  have e:doQ now c (vR i)=(okL (allB Q),now,c):=by
   unfold doQ;rw[ho,hqi,hQ];rfl
  rw[e]
theorem Bv.askV (h:Bv B w z st b j now c col)(hE:Env B w)(hi:i<8):
  zT 32 #[.pointer (some ⟨z,0,none⟩),.agg (cellsOf (vR i) nil0.v)] w (.string (vAns now c i)):=by
 have hpg:=print_good (vR i) nil0 [] (vR_wf i) rfl (vR_right hi);have hsz:=good_size _ hpg.1;obtain⟨dv,room,hj⟩:=h.hj;obtain⟨Z,hsg,hc⟩:=h.sk.sg;rw[vAns_eq now c hi];refine(asked_walk (fun t w'=>t=(match c i with|none=>⟨#[2]⟩|some Q=>okL (allB Q))/\Tch [] w w') B (vR i) z w (vR_right hi) hE.lays hE.size (fun W hb=>?_)).mono ?_
 ·have tb:=Tch.of_below hb;have hE':=hE.tch tb (by simp);have h':=h.tch tb;have hjW:=(tb.block _ (lt_of_block hj) (by simp)).trans hj;refine bdo_v _ B (printS (vR i) nil0 []) (vR i) z st j W hsz hE'.lays hE'.tab hE'.size hE'.three hpg.1 hpg.2.1 h'.hz ((cell_of_row W j 2 _ 85 (0,0) hjW).trans rfl) _ rfl (fun W2 y ht2 hy=>?_);exact plan_V B (vR i) st b i now c col w h.sk.wf rfl hi (vR_q hi) Z hsg hc W2 y (tb.trans ht2 (by simp))
 ·rintro e w' ⟨t,rfl,rfl,ht⟩;exact⟨rfl,ht⟩
theorem shown_v (B z st b j:Nat)(now:Int)(c:Nat->Option QM)(col:Nat->Nat)(w:World)(hE:Env B w)(hb:Bv B w z st b j now c col):
  Calls Tryz.prog 12 #[.pointer (some ⟨z,0,none⟩)] w fun e w'=>∃v,e=.returned v/\Dk.OwnS w' v (shw now c)/\(∀g,v.ownBlock=some g->w.heap.size<=g)/\Tch [] w w':=by
 have HAV:Hid (∀W k,k<8->Tch [] w W->zT 32 #[.pointer (some ⟨z,0,none⟩),.agg (vA k)] W (.string (vAns now c k))):=fun W k hk ht=>by
  rw[<-vA_eq hk];exact(hb.tch ht).askV (hE.tch ht (by simp)) hk
 unfold shw;clear hb hE;go_enter Tryz.func12,Tryz.ntmps12;go_wp2_with fail
 go_loopw [3,4] (fun ov iv wr=>∃(k:Nat),k<=8/\iv=.int .i64 (k:Int)/\Dk.OwnS wr ov ((List.range k).map (vAns now c))/\(∀g,ov.ownBlock=some g->w.heap.size<=g)/\Tch [] w wr) (fun _ iv _=>8-(intOf iv).toNat)
 case atStart=>exact⟨0,by omega,rfl,Dk.OwnS.nil _,fun g hg=>by simp[Value.ownBlock]at hg,Tch.refl _ _⟩
 case round=>
  obtain⟨k,hk,rfl,ho,hn,ht⟩:=hrel;have HS:=zH (⟨ho,hn,ht⟩:Dk.OwnS wr u3 ((List.range k).map (vAns now c))/\(∀g,u3.ownBlock=some g->w.heap.size<=g)/\Tch [] w wr)
  by_cases hlt:k<8
  ·have hkI:(k:Int)<8:=by omega
   have hmI:((k:Int) % 256)=(k:Int):=by omega
   have hwr:IntKind.u8.wrap (97+(k:Int))=97+(k:Int):=by
    rw[IntKind.wrap_u8];omega
   have HC:=zH (HAV.out wr k hlt ht);have hrs:(List.range (k+1)).map (vAns now c)=(List.range k).map (vAns now c)++[vAns now c k]:=by rw[List.range_succ,List.map_append];rfl
   have hll:((List.range k).map (vAns now c)).length=k:=by simp
   clear ho hn ht HAV;generalize vAns now c k=A at*
   generalize (List.range k).map (vAns now c)=L at*
   go_wp2_with fail;refine HC.out.mono ?_;rintro e w2 ⟨rfl,t2⟩;have H2:Hid (Dk.OwnS w2 u3 L/\Tch [] w w2):=⟨HS.out.1.tch t2 (fun _ _=>by simp),HS.out.2.2.trans t2 (by simp)⟩;clear t2 HC;go_wp2_with (at_builtin;refine Dk.wpList_strs _ rfl _ _ rfl u3 L rfl (H2.out.1.tch ((Tch.refl [] _).alloc _) (fun _ _=>by simp)) w2.heap.size [A] 1 rfl rfl (by decide) (heap_alloc_new _ _) (by omega) ?_);intro v' w3 ho3 hg3 hb3;have HF:Hid (Dk.OwnS w3 v' (L++[A])/\(∀g,v'.ownBlock=some g->w.heap.size<=g)/\Tch [] w w3):=by
    have hz2:=H2.out.2.size;have hal:(w2.alloc (.cells #[.string A] 9)).heap.size=w2.heap.size+1:=by simp
    refine⟨ho3,fun g hg=>?_,(H2.out.2.alloc _).grown hg3 (fun g hg hl=>by have:=HS.out.2.1 g hg;omega)⟩
    rcases hb3 with h|h
    ·exact HS.out.2.1 g (h.symm.trans hg)
    ·rw[hg]at h;injection h with h;omega
   clear ho3 hg3 hb3 H2 HS;go_wp2_with fail;go_roundw
   case rel=>exact⟨k+1,by omega,by go_num,by rw[hrs];exact HF.out.1,HF.out.2.1,HF.out.2.2⟩
   case measure=>simp[intOf];omega
  ·have hkI:¬((k:Int)<8):=by omega
   obtain rfl:k=8:=by omega
   clear ho hn ht;go_wp2_with fail;go_ret;exact⟨_,rfl,HS.out⟩
def bvP (B z:Nat)(n:Int)(c:Nat->Option QM):Pty:=fun w col=>∃st b j,Bv B w z st b j n c col
theorem bvP_stb (B z:Nat)(n:Int)(c:Nat->Option QM):Stb9 B (bvP B z n c):=fun w w' col cl ⟨st,b,j,h⟩ hB h0 hf hd=>by
 obtain⟨S,ht,hS⟩:=hf.chg;obtain⟨⟨⟨Z,hs,hc⟩,hw,hn,_,hfu⟩,hz,⟨dv,room,hj⟩,hcj⟩:=h;have hcl:∀k,B<=k->k<w.heap.size->col k≠9->k∉S:=fun k hB hk h9 hm=>(hS k hm).2 (hf.out k hk (hd k hB hk h9))
 have hty:∀(k:Nat) (C:Array Value) (t:TypeId),w.heap[k]?=some (.cells C t (0,0))->t∉TA->w'.heap[k]?=some (.cells C t (0,0)):=fun k C t hk ht=>hf.keep k C t hk ht
 have hsz:=hf.size;have hjl:=lt_of_block hj;refine⟨st,b,j,⟨⟨Z,⟨?_,?_,?_,?_,hs.lo,hs.ls,?_⟩,hc⟩,hw,hn,.inl trivial,fun k hk=>?_⟩,hty _ _ _ hz (by decide),⟨dv,room,(ht.block j hjl (hcl j hcj.1 hjl hcj.2)).trans hj⟩,hcj.1,?_⟩
 ·exact(ht.block st hs.stb.lt (hcl st hs.ls hs.stb.lt hs.cs)).trans hs.stb
 ·exact fun q f hq=>hty _ _ _ (hs.tb q f hq) (by decide)
 ·exact fun i x hi hx=>(hs.qr i x hi hx).tch ht (fun k hk=>hcl k (hs.lo i x hi hx k hk) ((hs.qr i x hi hx).lt k hk) (by rw[hs.cl i x hi hx k hk];omega))
 ·exact fun i x hi hx k hk=>(rec9_old ((hs.qr i x hi hx).lt k hk)).trans (hs.cl i x hi hx k hk)
 ·rw[rec9_old hs.stb.lt];exact hs.cs
 ·show (if _ then _ else _)≠9
  rw[if_neg (by omega)];exact hfu k (by omega)
 ·rw[rec9_old hjl];exact hcj.2
theorem gp_shv {l:List Pty}(h:Gp B w0 l w)(i j:Nat){z:Nat}{n:Int}{c:Nat->Option QM}(hi:l[i]?=some (bvP B z n c)):
  Calls Tryz.prog 12 #[.pointer (some ⟨z,0,none⟩)] w fun e w'=>∃v,e=.returned v/\Gp B w0 (l.set j (stP B v (shw n c))) w':=by
 obtain⟨col,st,b,jj,hb⟩:=h.get i hi;refine(shown_v B z st b jj n c col w h.env hb).mono ?_;rintro e w' ⟨v,rfl,ho,hn,ht⟩;exact⟨v,rfl,h.str j ht ho hn⟩
end Go.Proofs.YtbdobaapadlcjabGreatDoor
