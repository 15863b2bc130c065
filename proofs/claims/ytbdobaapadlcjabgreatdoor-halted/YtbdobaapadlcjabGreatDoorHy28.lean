import Derived.Test.YtbdobaapadlcjabGreatDoorHy27
set_option maxRecDepth 8000
set_option maxHeartbeats 4000000
set_option linter.unusedVariables false
set_option linter.unusedSimpArgs false
namespace Go.Proofs.YtbdobaapadlcjabGreatDoor
open Go.RowKit
theorem readMsg_n (b:Nat)(n r u:Nat)(g s:ByteArray)(hn:n<4294967296)(hg:g.size<256)(hs:s.size<256)(hr:r<65536)(hu:u<4294967296)(q:List UInt8)(w:World)(h:RdL w b (lowB n 4++(txtB g++(txtB s++(lowB r 2++(lowB u 4++q)))))):
  Calls Tryz.prog 130 #[.pointer (some ⟨b,0,none⟩)] w (Tkn w b q (.agg #[.int .i64 (n:Int),.string g,.string s,.int .i64 (r:Int),.int .i64 (u:Int)])):=by
 have hlt:=h.lt;have hinf:(Tryz.prog.info? 191).map (fun i=>i.size)=some 5:=by kernel_rfl
 have H0:Hid (RdL (w.alloc (.cells #[.int .i64 0,.string ⟨#[]⟩,.string ⟨#[]⟩,.int .i64 0,.int .i64 0] 191)) b (lowB n 4++(txtB g++(txtB s++(lowB r 2++(lowB u 4++q)))))/\Tch [b] w (w.alloc (.cells #[.int .i64 0,.string ⟨#[]⟩,.string ⟨#[]⟩,.int .i64 0,.int .i64 0] 191))/\(w.alloc (.cells #[.int .i64 0,.string ⟨#[]⟩,.string ⟨#[]⟩,.int .i64 0,.int .i64 0] 191)).heap[w.heap.size]?=some (.cells #[.int .i64 0,.string ⟨#[]⟩,.string ⟨#[]⟩,.int .i64 0,.int .i64 0] 191 (0,0))):=⟨h.tch ((Tch.refl [] w).alloc _) (by simp),(Tch.refl [b] w).alloc _,heap_alloc_new _ _⟩;clear h;go_enter Tryz.func130,Tryz.ntmps130;go_wp2_with fail;refine(num_l b n 4 _ _ (.inr (.inr ⟨rfl,hn⟩)) H0.out.1).mono ?_;rintro e w1 ⟨rfl,r1,t1⟩;have H1:Hid (RdL w1 b _/\Tch [b] w w1/\w1.heap[w.heap.size]?=some (.cells #[.int .i64 0,.string ⟨#[]⟩,.string ⟨#[]⟩,.int .i64 0,.int .i64 0] 191 (0,0))):=⟨r1,H0.out.2.1.trans t1 (fun _ h _=>h),(t1.block _ (lt_of_block H0.out.2.2) (by simp;omega)).trans H0.out.2.2⟩;clear r1 t1 H0;go_wp2_with fail;refine(text_l b g _ _ hg H1.out.1).mono ?_;rintro e w2 ⟨rfl,r2,t2⟩;have H2:Hid (RdL w2 b _/\Tch [b] w w2/\w2.heap[w.heap.size]?=some (.cells #[.int .i64 0,.string ⟨#[]⟩,.string ⟨#[]⟩,.int .i64 0,.int .i64 0] 191 (0,0))):=⟨r2,H1.out.2.1.trans t2 (fun _ h _=>h),(t2.block _ (lt_of_block H1.out.2.2) (by simp;omega)).trans H1.out.2.2⟩;clear r2 t2 H1;go_wp2_with fail;refine(text_l b s _ _ hs H2.out.1).mono ?_;rintro e w3 ⟨rfl,r3,t3⟩;have H3:Hid (RdL w3 b _/\Tch [b] w w3/\w3.heap[w.heap.size]?=some (.cells #[.int .i64 0,.string ⟨#[]⟩,.string ⟨#[]⟩,.int .i64 0,.int .i64 0] 191 (0,0))):=⟨r3,H2.out.2.1.trans t3 (fun _ h _=>h),(t3.block _ (lt_of_block H2.out.2.2) (by simp;omega)).trans H2.out.2.2⟩;clear r3 t3 H2;go_wp2_with fail;refine(num_l b r 2 _ _ (.inr (.inl ⟨rfl,hr⟩)) H3.out.1).mono ?_;rintro e w4 ⟨rfl,r4,t4⟩;have H4:Hid (RdL w4 b _/\Tch [b] w w4/\w4.heap[w.heap.size]?=some (.cells #[.int .i64 0,.string ⟨#[]⟩,.string ⟨#[]⟩,.int .i64 0,.int .i64 0] 191 (0,0))):=⟨r4,H3.out.2.1.trans t4 (fun _ h _=>h),(t4.block _ (lt_of_block H3.out.2.2) (by simp;omega)).trans H3.out.2.2⟩;clear r4 t4 H3;go_wp2_with fail;refine(num_l b u 4 _ _ (.inr (.inr ⟨rfl,hu⟩)) H4.out.1).mono ?_;rintro e w5 ⟨rfl,r5,t5⟩;have H5:Hid (RdL w5 b _/\Tch [b] w w5/\w5.heap[w.heap.size]?=some (.cells #[.int .i64 0,.string ⟨#[]⟩,.string ⟨#[]⟩,.int .i64 0,.int .i64 0] 191 (0,0))):=⟨r5,H4.out.2.1.trans t5 (fun _ h _=>h),(t5.block _ (lt_of_block H4.out.2.2) (by simp;omega)).trans H4.out.2.2⟩;clear r5 t5 H4;go_wp2_with (refine wpList_store_row rfl 191 _ _ rfl w.heap.size #[.int .i64 (n:Int),.string g,.string s,.int .i64 (r:Int),.int .i64 (u:Int)] rfl rfl 191 _ H5.out.2.2 hinf rfl (by simp[Value.oneCell']) ?_);refine bodyPost_ret (results_cell_row (p:=2) rfl _ _ w.heap.size 191 #[.int .i64 (n:Int),.string g,.string s,.int .i64 (r:Int),.int .i64 (u:Int)] (0,0) _ rfl (setRow_heap _ _ _ _ 191 (0,0) H5.out.2.2) Tryz.underlying191 rfl hinf) rfl ⟨rfl,?_,?_⟩
 ·exact H5.out.1.tch ((Tch.refl [w.heap.size] _).setRow (fun _=>by simp) _) (by simp;omega)
 ·exact H5.out.2.1.setRow (fun h=>absurd h (Nat.lt_irrefl _)) _
theorem readDd_n (b:Nat)(n u:Nat)(g:ByteArray)(hn:n<4294967296)(hg:g.size<256)(hu:u<4294967296)(q:List UInt8)(w:World)(h:RdL w b (txtB g++(lowB n 4++(lowB u 4++q)))):
  Calls Tryz.prog 132 #[.pointer (some ⟨b,0,none⟩)] w (Tkn w b q (.agg #[.string g,.int .i64 (n:Int),.int .i64 (u:Int)])):=by
 have hlt:=h.lt;have hinf:(Tryz.prog.info? 195).map (fun i=>i.size)=some 3:=by kernel_rfl
 have H0:Hid (RdL (w.alloc (.cells #[.string ⟨#[]⟩,.int .i64 0,.int .i64 0] 195)) b (txtB g++(lowB n 4++(lowB u 4++q)))/\Tch [b] w (w.alloc (.cells #[.string ⟨#[]⟩,.int .i64 0,.int .i64 0] 195))/\(w.alloc (.cells #[.string ⟨#[]⟩,.int .i64 0,.int .i64 0] 195)).heap[w.heap.size]?=some (.cells #[.string ⟨#[]⟩,.int .i64 0,.int .i64 0] 195 (0,0))):=⟨h.tch ((Tch.refl [] w).alloc _) (by simp),(Tch.refl [b] w).alloc _,heap_alloc_new _ _⟩;clear h;go_enter Tryz.func132,Tryz.ntmps132;go_wp2_with fail;refine(text_l b g _ _ hg H0.out.1).mono ?_;rintro e w1 ⟨rfl,r1,t1⟩;have H1:Hid (RdL w1 b _/\Tch [b] w w1/\w1.heap[w.heap.size]?=some (.cells #[.string ⟨#[]⟩,.int .i64 0,.int .i64 0] 195 (0,0))):=⟨r1,H0.out.2.1.trans t1 (fun _ h _=>h),(t1.block _ (lt_of_block H0.out.2.2) (by simp;omega)).trans H0.out.2.2⟩;clear r1 t1 H0;go_wp2_with fail;refine(num_l b n 4 _ _ (.inr (.inr ⟨rfl,hn⟩)) H1.out.1).mono ?_;rintro e w2 ⟨rfl,r2,t2⟩;have H2:Hid (RdL w2 b _/\Tch [b] w w2/\w2.heap[w.heap.size]?=some (.cells #[.string ⟨#[]⟩,.int .i64 0,.int .i64 0] 195 (0,0))):=⟨r2,H1.out.2.1.trans t2 (fun _ h _=>h),(t2.block _ (lt_of_block H1.out.2.2) (by simp;omega)).trans H1.out.2.2⟩;clear r2 t2 H1;go_wp2_with fail;refine(num_l b u 4 _ _ (.inr (.inr ⟨rfl,hu⟩)) H2.out.1).mono ?_;rintro e w3 ⟨rfl,r3,t3⟩;have H3:Hid (RdL w3 b _/\Tch [b] w w3/\w3.heap[w.heap.size]?=some (.cells #[.string ⟨#[]⟩,.int .i64 0,.int .i64 0] 195 (0,0))):=⟨r3,H2.out.2.1.trans t3 (fun _ h _=>h),(t3.block _ (lt_of_block H2.out.2.2) (by simp;omega)).trans H2.out.2.2⟩;clear r3 t3 H2;go_wp2_with (refine wpList_store_row rfl 195 _ _ rfl w.heap.size #[.string g,.int .i64 (n:Int),.int .i64 (u:Int)] rfl rfl 195 _ H3.out.2.2 hinf rfl (by simp[Value.oneCell']) ?_);refine bodyPost_ret (results_cell_row (p:=2) rfl _ _ w.heap.size 195 #[.string g,.int .i64 (n:Int),.int .i64 (u:Int)] (0,0) _ rfl (setRow_heap _ _ _ _ 195 (0,0) H3.out.2.2) Tryz.underlying195 rfl hinf) rfl ⟨rfl,?_,?_⟩
 ·exact H3.out.1.tch ((Tch.refl [w.heap.size] _).setRow (fun _=>by simp) _) (by simp;omega)
 ·exact H3.out.2.1.setRow (fun h=>absurd h (Nat.lt_irrefl _)) _
theorem readAt_n (b:Nat)(u:Nat)(g s:ByteArray)(hg:g.size<256)(hu:u<4294967296)(hs:s.size<65536)(q:List UInt8)(w:World)(h:RdL w b (txtB g++(lowB u 4++(lowB s.size 2++(s.data.toList++q))))):
  Calls Tryz.prog 134 #[.pointer (some ⟨b,0,none⟩)] w (Tkn w b q (.agg #[.string g,.int .i64 (u:Int),.string s])):=by
 have hlt:=h.lt;have hinf:(Tryz.prog.info? 199).map (fun i=>i.size)=some 3:=by kernel_rfl
 have H0:Hid (RdL (w.alloc (.cells #[.string ⟨#[]⟩,.int .i64 0,.string ⟨#[]⟩] 199)) b (txtB g++(lowB u 4++(lowB s.size 2++(s.data.toList++q))))/\Tch [b] w (w.alloc (.cells #[.string ⟨#[]⟩,.int .i64 0,.string ⟨#[]⟩] 199))/\(w.alloc (.cells #[.string ⟨#[]⟩,.int .i64 0,.string ⟨#[]⟩] 199)).heap[w.heap.size]?=some (.cells #[.string ⟨#[]⟩,.int .i64 0,.string ⟨#[]⟩] 199 (0,0))):=⟨h.tch ((Tch.refl [] w).alloc _) (by simp),(Tch.refl [b] w).alloc _,heap_alloc_new _ _⟩;clear h;go_enter Tryz.func134,Tryz.ntmps134;go_wp2_with fail;refine(text_l b g _ _ hg H0.out.1).mono ?_;rintro e w1 ⟨rfl,r1,t1⟩;have H1:Hid (RdL w1 b _/\Tch [b] w w1/\w1.heap[w.heap.size]?=some (.cells #[.string ⟨#[]⟩,.int .i64 0,.string ⟨#[]⟩] 199 (0,0))):=⟨r1,H0.out.2.1.trans t1 (fun _ h _=>h),(t1.block _ (lt_of_block H0.out.2.2) (by simp;omega)).trans H0.out.2.2⟩;clear r1 t1 H0;go_wp2_with fail;refine(num_l b u 4 _ _ (.inr (.inr ⟨rfl,hu⟩)) H1.out.1).mono ?_;rintro e w2 ⟨rfl,r2,t2⟩;have H2:Hid (RdL w2 b _/\Tch [b] w w2/\w2.heap[w.heap.size]?=some (.cells #[.string ⟨#[]⟩,.int .i64 0,.string ⟨#[]⟩] 199 (0,0))):=⟨r2,H1.out.2.1.trans t2 (fun _ h _=>h),(t2.block _ (lt_of_block H1.out.2.2) (by simp;omega)).trans H1.out.2.2⟩;clear r2 t2 H1;go_wp2_with fail;refine(long_l b s _ _ hs H2.out.1).mono ?_;rintro e w3 ⟨rfl,r3,t3⟩;have H3:Hid (RdL w3 b _/\Tch [b] w w3/\w3.heap[w.heap.size]?=some (.cells #[.string ⟨#[]⟩,.int .i64 0,.string ⟨#[]⟩] 199 (0,0))):=⟨r3,H2.out.2.1.trans t3 (fun _ h _=>h),(t3.block _ (lt_of_block H2.out.2.2) (by simp;omega)).trans H2.out.2.2⟩;clear r3 t3 H2;go_wp2_with (refine wpList_store_row rfl 199 _ _ rfl w.heap.size #[.string g,.int .i64 (u:Int),.string s] rfl rfl 199 _ H3.out.2.2 hinf rfl (by simp[Value.oneCell']) ?_);refine bodyPost_ret (results_cell_row (p:=2) rfl _ _ w.heap.size 199 #[.string g,.int .i64 (u:Int),.string s] (0,0) _ rfl (setRow_heap _ _ _ _ 199 (0,0) H3.out.2.2) Tryz.underlying199 rfl hinf) rfl ⟨rfl,?_,?_⟩
 ·exact H3.out.1.tch ((Tch.refl [w.heap.size] _).setRow (fun _=>by simp) _) (by simp;omega)
 ·exact H3.out.2.1.setRow (fun h=>absurd h (Nat.lt_irrefl _)) _
structure MsR (m:Ms):Prop where
 num:inN m.num
 grp:m.grp.size<256
 bod:m.bod.size<256
 rcv:0<=m.rcv/\m.rcv<65536
 til:inN m.til
structure DdR (m:Dd):Prop where
 id:m.id.size<256
 num:inN m.num
 til:inN m.til
structure AtR (m:At):Prop where
 id:m.id.size<256
 til:inN m.til
 ans:m.ans.size<65536
theorem readMsg_l (b:Nat)(m:Ms)(q:List UInt8)(w:World)(hm:MsR m)(h:RdL w b (msB m++q)):Calls Tryz.prog 130 #[.pointer (some ⟨b,0,none⟩)] w (Tkn w b q (.agg m.row.toArray)):=by
 obtain⟨num,g,s,rcv,til⟩:=m;obtain⟨⟨a1,a2⟩,h2,h3,⟨a4,a5⟩,⟨a6,a7⟩⟩:=hm;simp only at a1 a2 h2 h3 a4 a5 a6 a7;have e:msB ⟨num,g,s,rcv,til⟩++q=lowB num.toNat 4++(txtB g++(txtB s++(lowB rcv.toNat 2++(lowB til.toNat 4++q)))):=by simp[msB]
 rw[e]at h;have h1:=readMsg_n b num.toNat rcv.toNat til.toNat g s (by omega) h2 h3 (by omega) (by omega) q w h;rw[Int.toNat_of_nonneg a1,Int.toNat_of_nonneg a4,Int.toNat_of_nonneg a6]at h1;exact h1
theorem readDd_l (b:Nat)(m:Dd)(q:List UInt8)(w:World)(hm:DdR m)(h:RdL w b (ddB m++q)):Calls Tryz.prog 132 #[.pointer (some ⟨b,0,none⟩)] w (Tkn w b q (.agg m.row.toArray)):=by
 obtain⟨g,num,til⟩:=m;obtain⟨h2,⟨a1,a2⟩,⟨a6,a7⟩⟩:=hm;simp only at a1 a2 h2 a6 a7;have e:ddB ⟨g,num,til⟩++q=txtB g++(lowB num.toNat 4++(lowB til.toNat 4++q)):=by simp[ddB]
 rw[e]at h;have h1:=readDd_n b num.toNat til.toNat g (by omega) h2 (by omega) q w h;rw[Int.toNat_of_nonneg a1,Int.toNat_of_nonneg a6]at h1;exact h1
theorem readAt_l (b:Nat)(m:At)(q:List UInt8)(w:World)(hm:AtR m)(h:RdL w b (atB m++q)):Calls Tryz.prog 134 #[.pointer (some ⟨b,0,none⟩)] w (Tkn w b q (.agg m.row.toArray)):=by
 obtain⟨g,til,s⟩:=m;obtain⟨h2,⟨a6,a7⟩,h3⟩:=hm;simp only at h2 h3 a6 a7;have e:atB ⟨g,til,s⟩++q=txtB g++(lowB til.toNat 4++(lowB s.size 2++(s.data.toList++q))):=by simp[atB]
 rw[e]at h;have h1:=readAt_n b til.toNat g s h2 (by omega) h3 q w h;rw[Int.toNat_of_nonneg a6]at h1;exact h1
def setL:Array Value->Nat->List Value->Array Value
 | C,_,[]=>C
 | C,o,v::r=>setL (C.setIfInBounds o v) (o+1) r
theorem setL_app:∀(vs A B C:List Value),B.length=vs.length->setL (A++(B++C)).toArray A.length vs=(A++(vs++C)).toArray
 | [],A,B,C,h=>by
  have hB:B=[]:=List.length_eq_zero_iff.1 h;subst hB;rfl
 | v::r,A,[],C,h=>by simp at h
 | v::r,A,b::B,C,h=>by
  have e:(A++(b::B++C)).toArray.setIfInBounds A.length v=((A++[v])++(B++C)).toArray:=by
   apply Array.toList_inj.1;simp
  have e2:A.length+1=(A++[v]).length:=by simp
  show setL ((A++(b::B++C)).toArray.setIfInBounds A.length v) (A.length+1) r=_
  rw[e,e2,setL_app r (A++[v]) B C (by simpa using h)];simp
theorem setCells_heap (b:Nat)(t:TypeId):∀(vs:List Value) (o:Nat) (w:World) (C:Array Value),w.heap[b]?=some (.cells C t (0,0))->(w.setCells b o vs).heap[b]?=some (.cells (setL C o vs) t (0,0))
 | [],o,w,C,h=>h
 | v::r,o,w,C,h=>setCells_heap b t r (o+1) _ _ (heap_setCell_same w b o C t v h)
theorem setCells_tch (b:Nat):∀(vs:List Value) (o:Nat) (w:World),Tch [b] w (w.setCells b o vs)
 | [],o,w=>Tch.refl _ _
 | v::r,o,w=>((Tch.refl [b] w).setCell (fun _=>by simp) v).trans (setCells_tch b r (o+1) _) (fun _ h _=>h)
theorem there_row {w:World}{b o n:Nat}{C:Array Value}{t:TypeId}(h:w.heap[b]?=some (.cells C t (0,0)))(hn:o+n<=C.size):w.there b o n:=fun j hj=>by
 refine⟨?_,frozen_of_row w b _ _ t h⟩;rw[cell_of_row w b (o+j) C t (0,0) h,Array.getElem?_eq_getElem (by omega)];rfl
theorem flat_lz {α:Type}(f:α->List Value)(z:Nat)(hz:∀x,(f x).length=z):∀l:List α,(l.flatMap f).length=l.length*z
 | []=>by simp
 | a::l=>by
  rw[List.flatMap_cons,List.length_append,hz,flat_lz f z hz l,List.length_cons,Nat.add_mul];omega
theorem set_row {α:Type}(f:α->List Value)(z:Nat)(hz:∀x,(f x).length=z)(l:List α)(k:Nat)(hk:k<l.length)(T:List Value)(hT:T.length=(l.length-k)*z):
  ∃T',T'.length=(l.length-(k+1))*z/\setL ((l.take k).flatMap f++T).toArray (k*z) (f l[k])=((l.take (k+1)).flatMap f++T').toArray:=by
 have h1:((l.take k).flatMap f).length=k*z:=by rw[flat_lz f z hz,List.length_take,Nat.min_eq_left (by omega)]
 have h2:z<=T.length:=by
  rw[hT];exact Nat.le_mul_of_pos_left z (by omega)
 refine⟨T.drop z,?_,?_⟩
 ·rw[List.length_drop,hT,show l.length-k=(l.length-(k+1))+1 from by omega,Nat.add_mul]
  omega
 ·have e:=setL_app (f l[k]) ((l.take k).flatMap f) (T.take z) (T.drop z) (by rw[List.length_take,hz];omega);rw[List.take_append_drop,h1]at e;rw[e,List.take_succ_eq_append_getElem hk,List.flatMap_append];simp
theorem eg130:∀args w,(callFunc 130 args).run Tryz.prog w=.ok (.enter 130 args) w:=enters_of Tryz.func130 (by kernel_rfl) rfl
theorem infL191:(Tryz.prog.info? 191).map (fun i=>(i.zero,i.size,i.bytes))=some (some (Value.agg #[.int .i64 0,.string ⟨#[]⟩,.string ⟨#[]⟩,.int .i64 0,.int .i64 0]),5,56):=by kernel_rfl
theorem readList_m (b:Nat)(ms:List Ms)(q:List UInt8)(w:World)(hn:ms.length<256)(hm:∀m∈ms,MsR m)(h:RdL w b (lowB ms.length 1++(ms.flatMap msB++q))):
  Calls Tryz.prog 129 #[.pointer (some ⟨b,0,none⟩),.func (.func 130) #[] #[]] w fun e w'=>∃g,w.heap.size<=g/\e=.returned (.slice (some ⟨g,0,none⟩) ms.length ms.length)/\w'.heap[g]?=some (.cells (ms.flatMap Ms.row).toArray 191 (0,0))/\RdL w' b q/\Tch [b] w w':=by
 obtain⟨i0,hi,hz0,hz1,hz2⟩:=info_parts infL191;have hlt:=h.lt;have HNM:=zH (num_l b ms.length 1 _ w (.inl ⟨rfl,hn⟩) h);have hmake:∀W:World,(Instr.makeSlice 133 (.int .i64 (ms.length:Int)) (.int .i64 (ms.length:Int))).run Tryz.prog W=.ok (.slice (some ⟨W.heap.size,0,none⟩) ms.length ms.length) (W.alloc (.cells (madeCells #[.int .i64 0,.string ⟨#[]⟩,.string ⟨#[]⟩,.int .i64 0,.int .i64 0] (ms.length*5)) 191)):=fun W=>by
  have h:=run_make (P:=Tryz.prog) W 133 191 i0 (.agg #[.int .i64 0,.string ⟨#[]⟩,.string ⟨#[]⟩,.int .i64 0,.int .i64 0]) Tryz.underlying133 hi hz0 .i64 .i64 (ms.length:Int) (ms.length:Int) (by omega) (by omega) (by rw[hz2];omega) (by omega);rw[hz1,Int.toNat_natCast]at h;exact h
 have HRD:Hid (∀W (k:Nat) (hk:k<ms.length),RdL W b ((ms.drop k).flatMap msB++q)->Calls Tryz.prog 130 #[.pointer (some ⟨b,0,none⟩)] W (Tkn W b ((ms.drop (k+1)).flatMap msB++q) (.agg (Ms.row ms[k]).toArray))):=fun W k hk hR=>by
  rw[List.drop_eq_getElem_cons hk,List.flatMap_cons,List.append_assoc]at hR;exact readMsg_l b ms[k] _ W (hm _ (List.getElem_mem hk)) hR
 have HST:Hid (∀(k:Nat) (hk:k<ms.length) (T:List Value),T.length=(ms.length-k)*5->∃T',T'.length=(ms.length-(k+1))*5/\setL ((ms.take k).flatMap Ms.row++T).toArray (k*5) (Ms.row ms[k])=((ms.take (k+1)).flatMap Ms.row++T').toArray):=fun k hk T hT=>set_row Ms.row 5 (fun _=>rfl) ms k hk T hT
 have HSZ:Hid (∀(k:Nat),k<ms.length->∀(T:List Value),T.length=(ms.length-k)*5->k*5+5<=((ms.take k).flatMap Ms.row++T).toArray.size):=fun k hk T hT=>by
  have h1:=flat_lz Ms.row 5 (fun _=>rfl) (ms.take k);rw[List.length_take,Nat.min_eq_left (by omega)]at h1
  show _<=((ms.take k).flatMap Ms.row++T).toArray.size
  rw[List.size_toArray,List.length_append,h1,hT];omega
 have hinf:(Tryz.prog.info? 191).map (fun i=>i.size)=some 5:=by kernel_rfl
 have heg:=eg130;clear h hm;go_enter Tryz.func129,Tryz.ntmps129;go_wp2_with fail;refine HNM.out.mono ?_;rintro e w1 ⟨rfl,r1,t1⟩;have H1:=zH (⟨r1,t1⟩:RdL w1 b (ms.flatMap msB++q)/\Tch [b] w w1);have hz1w:=t1.size;clear r1 t1 HNM;go_wp2_with fail
 go_loopw [12] (fun v wr=>∃(k:Nat) (T:List Value),k<=ms.length/\v=.int .i64 (k:Int)/\T.length=(ms.length-k)*5/\wr.heap[w1.heap.size]?=some (.cells ((ms.take k).flatMap Ms.row++T).toArray 191 (0,0))/\RdL wr b ((ms.drop k).flatMap msB++q)/\Tch [b] w wr) (fun v _=>ms.length-(intOf v).toNat)
 case atStart=>
  refine⟨0,(madeCells #[.int .i64 0,.string ⟨#[]⟩,.string ⟨#[]⟩,.int .i64 0,.int .i64 0] (ms.length*5)).toList,Nat.zero_le _,rfl,?_,?_,?_,?_⟩
  ·rw[Array.length_toList,size_madeCells,Nat.sub_zero]
  ·rw[heap_alloc_new];simp
  ·exact H1.out.1.tch ((Tch.refl [] _).alloc _) (by simp)
  ·exact H1.out.2.alloc _
 case round=>
  obtain⟨k,T,hk,rfl,hT,hb,hr,ht⟩:=hrel
  by_cases hkl:k<ms.length
  ·have hkI:(k:Int)<(ms.length:Int):=by omega
   have HR:=zH (HRD.out wr k hkl hr);have HB:=zH (⟨hb,ht⟩:_/\Tch [b] w wr);obtain⟨T',hT',hs⟩:=HST.out k hkl T hT;have hsz:=HSZ.out k hkl T hT;have hln:(Ms.row ms[k]).toArray.size=5:=rfl;have hon:(Ms.row ms[k]).toArray.all (·.oneCell')=true:=by simp[Ms.row,Value.oneCell']
   clear hb ht hr H1 hmake;generalize Ms.row ms[k]=R at*
   go_wp2_with (first|(go_at_fn 130;refine HR.out.mono ?_;rintro e w2 ⟨rfl,r2,t2⟩;have HB2:=zH ((t2.block _ (lt_of_block HB.out.1) (by simp;omega)).trans HB.out.1);have HT2:=zH (HB.out.2.trans t2 (fun _ h _=>h));have HR2:=zH r2;clear r2 t2 HR HB)|(refine wpList_store_mid rfl 191 _ _ rfl w1.heap.size (k*5) R.toArray rfl rfl (there_row HB2.out (by rw[hln];exact hsz)) (by rw[hln];exact hinf) hon ?_))
   have t3:=setCells_tch w1.heap.size R.toArray.toList (k*5) w2;have hb3:=setCells_heap w1.heap.size 191 R.toArray.toList (k*5) w2 _ HB2.out;rw[List.toList_toArray]at t3 hb3;rw[hs]at hb3;have HF:Hid ((w2.setCells w1.heap.size (k*5) R).heap[w1.heap.size]?=some (.cells ((ms.take (k+1)).flatMap Ms.row++T').toArray 191 (0,0))/\RdL (w2.setCells w1.heap.size (k*5) R) b ((ms.drop (k+1)).flatMap msB++q)/\Tch [b] w (w2.setCells w1.heap.size (k*5) R)):=⟨hb3,HR2.out.tch t3 (by simp;omega),HT2.out.trans t3 (fun x hx hl=>by simp at hx;omega)⟩;clear t3 hb3 HB2 HT2 HR2 HST HSZ HRD;go_wp2_with fail;go_roundw
   case rel=>exact⟨k+1,T',by omega,by go_num,hT',HF.out.1,HF.out.2.1,HF.out.2.2⟩
   case measure=>simp[intOf];omega
  ·have hkI:¬((k:Int)<(ms.length:Int)):=by omega
   have hke:k=ms.length:=by omega
   have hT0:T=[]:=List.length_eq_zero_iff.1 (by rw[hT,hke,Nat.sub_self,Nat.zero_mul]);rw[hT0,hke,List.take_length,List.append_nil]at hb;rw[hke,List.drop_length,List.flatMap_nil,List.nil_append]at hr;have HB:=zH (⟨hb,hr,ht⟩:_/\RdL wr b q/\Tch [b] w wr);clear hb hr ht H1 hmake HST HSZ HRD;go_wp2_with fail;go_ret;exact⟨w1.heap.size,hz1w,rfl,HB.out.1,HB.out.2.1,HB.out.2.2⟩
theorem eg132:∀args w,(callFunc 132 args).run Tryz.prog w=.ok (.enter 132 args) w:=enters_of Tryz.func132 (by kernel_rfl) rfl
theorem infL195:(Tryz.prog.info? 195).map (fun i=>(i.zero,i.size,i.bytes))=some (some (Value.agg #[.string ⟨#[]⟩,.int .i64 0,.int .i64 0]),3,32):=by kernel_rfl
theorem readList_d (b:Nat)(ms:List Dd)(q:List UInt8)(w:World)(hn:ms.length<256)(hm:∀m∈ms,DdR m)(h:RdL w b (lowB ms.length 1++(ms.flatMap ddB++q))):
  Calls Tryz.prog 131 #[.pointer (some ⟨b,0,none⟩),.func (.func 132) #[] #[]] w fun e w'=>∃g,w.heap.size<=g/\e=.returned (.slice (some ⟨g,0,none⟩) ms.length ms.length)/\w'.heap[g]?=some (.cells (ms.flatMap Dd.row).toArray 195 (0,0))/\RdL w' b q/\Tch [b] w w':=by
 obtain⟨i0,hi,hz0,hz1,hz2⟩:=info_parts infL195;have hlt:=h.lt;have HNM:=zH (num_l b ms.length 1 _ w (.inl ⟨rfl,hn⟩) h);have hmake:∀W:World,(Instr.makeSlice 134 (.int .i64 (ms.length:Int)) (.int .i64 (ms.length:Int))).run Tryz.prog W=.ok (.slice (some ⟨W.heap.size,0,none⟩) ms.length ms.length) (W.alloc (.cells (madeCells #[.string ⟨#[]⟩,.int .i64 0,.int .i64 0] (ms.length*3)) 195)):=fun W=>by
  have h:=run_make (P:=Tryz.prog) W 134 195 i0 (.agg #[.string ⟨#[]⟩,.int .i64 0,.int .i64 0]) Tryz.underlying134 hi hz0 .i64 .i64 (ms.length:Int) (ms.length:Int) (by omega) (by omega) (by rw[hz2];omega) (by omega);rw[hz1,Int.toNat_natCast]at h;exact h
 have HRD:Hid (∀W (k:Nat) (hk:k<ms.length),RdL W b ((ms.drop k).flatMap ddB++q)->Calls Tryz.prog 132 #[.pointer (some ⟨b,0,none⟩)] W (Tkn W b ((ms.drop (k+1)).flatMap ddB++q) (.agg (Dd.row ms[k]).toArray))):=fun W k hk hR=>by
  rw[List.drop_eq_getElem_cons hk,List.flatMap_cons,List.append_assoc]at hR;exact readDd_l b ms[k] _ W (hm _ (List.getElem_mem hk)) hR
 have HST:Hid (∀(k:Nat) (hk:k<ms.length) (T:List Value),T.length=(ms.length-k)*3->∃T',T'.length=(ms.length-(k+1))*3/\setL ((ms.take k).flatMap Dd.row++T).toArray (k*3) (Dd.row ms[k])=((ms.take (k+1)).flatMap Dd.row++T').toArray):=fun k hk T hT=>set_row Dd.row 3 (fun _=>rfl) ms k hk T hT
 have HSZ:Hid (∀(k:Nat),k<ms.length->∀(T:List Value),T.length=(ms.length-k)*3->k*3+3<=((ms.take k).flatMap Dd.row++T).toArray.size):=fun k hk T hT=>by
  have h1:=flat_lz Dd.row 3 (fun _=>rfl) (ms.take k);rw[List.length_take,Nat.min_eq_left (by omega)]at h1
  show _<=((ms.take k).flatMap Dd.row++T).toArray.size
  rw[List.size_toArray,List.length_append,h1,hT];omega
 have hinf:(Tryz.prog.info? 195).map (fun i=>i.size)=some 3:=by kernel_rfl
 have heg:=eg132;clear h hm;go_enter Tryz.func131,Tryz.ntmps131;go_wp2_with fail;refine HNM.out.mono ?_;rintro e w1 ⟨rfl,r1,t1⟩;have H1:=zH (⟨r1,t1⟩:RdL w1 b (ms.flatMap ddB++q)/\Tch [b] w w1);have hz1w:=t1.size;clear r1 t1 HNM;go_wp2_with fail
 go_loopw [12] (fun v wr=>∃(k:Nat) (T:List Value),k<=ms.length/\v=.int .i64 (k:Int)/\T.length=(ms.length-k)*3/\wr.heap[w1.heap.size]?=some (.cells ((ms.take k).flatMap Dd.row++T).toArray 195 (0,0))/\RdL wr b ((ms.drop k).flatMap ddB++q)/\Tch [b] w wr) (fun v _=>ms.length-(intOf v).toNat)
 case atStart=>
  refine⟨0,(madeCells #[.string ⟨#[]⟩,.int .i64 0,.int .i64 0] (ms.length*3)).toList,Nat.zero_le _,rfl,?_,?_,?_,?_⟩
  ·rw[Array.length_toList,size_madeCells,Nat.sub_zero]
  ·rw[heap_alloc_new];simp
  ·exact H1.out.1.tch ((Tch.refl [] _).alloc _) (by simp)
  ·exact H1.out.2.alloc _
 case round=>
  obtain⟨k,T,hk,rfl,hT,hb,hr,ht⟩:=hrel
  by_cases hkl:k<ms.length
  ·have hkI:(k:Int)<(ms.length:Int):=by omega
   have HR:=zH (HRD.out wr k hkl hr);have HB:=zH (⟨hb,ht⟩:_/\Tch [b] w wr);obtain⟨T',hT',hs⟩:=HST.out k hkl T hT;have hsz:=HSZ.out k hkl T hT;have hln:(Dd.row ms[k]).toArray.size=3:=rfl;have hon:(Dd.row ms[k]).toArray.all (·.oneCell')=true:=by simp[Dd.row,Value.oneCell']
   clear hb ht hr H1 hmake;generalize Dd.row ms[k]=R at*
   go_wp2_with (first|(go_at_fn 132;refine HR.out.mono ?_;rintro e w2 ⟨rfl,r2,t2⟩;have HB2:=zH ((t2.block _ (lt_of_block HB.out.1) (by simp;omega)).trans HB.out.1);have HT2:=zH (HB.out.2.trans t2 (fun _ h _=>h));have HR2:=zH r2;clear r2 t2 HR HB)|(refine wpList_store_mid rfl 195 _ _ rfl w1.heap.size (k*3) R.toArray rfl rfl (there_row HB2.out (by rw[hln];exact hsz)) (by rw[hln];exact hinf) hon ?_))
   have t3:=setCells_tch w1.heap.size R.toArray.toList (k*3) w2;have hb3:=setCells_heap w1.heap.size 195 R.toArray.toList (k*3) w2 _ HB2.out;rw[List.toList_toArray]at t3 hb3;rw[hs]at hb3;have HF:Hid ((w2.setCells w1.heap.size (k*3) R).heap[w1.heap.size]?=some (.cells ((ms.take (k+1)).flatMap Dd.row++T').toArray 195 (0,0))/\RdL (w2.setCells w1.heap.size (k*3) R) b ((ms.drop (k+1)).flatMap ddB++q)/\Tch [b] w (w2.setCells w1.heap.size (k*3) R)):=⟨hb3,HR2.out.tch t3 (by simp;omega),HT2.out.trans t3 (fun x hx hl=>by simp at hx;omega)⟩;clear t3 hb3 HB2 HT2 HR2 HST HSZ HRD;go_wp2_with fail;go_roundw
   case rel=>exact⟨k+1,T',by omega,by go_num,hT',HF.out.1,HF.out.2.1,HF.out.2.2⟩
   case measure=>simp[intOf];omega
  ·have hkI:¬((k:Int)<(ms.length:Int)):=by omega
   have hke:k=ms.length:=by omega
   have hT0:T=[]:=List.length_eq_zero_iff.1 (by rw[hT,hke,Nat.sub_self,Nat.zero_mul]);rw[hT0,hke,List.take_length,List.append_nil]at hb;rw[hke,List.drop_length,List.flatMap_nil,List.nil_append]at hr;have HB:=zH (⟨hb,hr,ht⟩:_/\RdL wr b q/\Tch [b] w wr);clear hb hr ht H1 hmake HST HSZ HRD;go_wp2_with fail;go_ret;exact⟨w1.heap.size,hz1w,rfl,HB.out.1,HB.out.2.1,HB.out.2.2⟩
theorem eg134:∀args w,(callFunc 134 args).run Tryz.prog w=.ok (.enter 134 args) w:=enters_of Tryz.func134 (by kernel_rfl) rfl
theorem infL199:(Tryz.prog.info? 199).map (fun i=>(i.zero,i.size,i.bytes))=some (some (Value.agg #[.string ⟨#[]⟩,.int .i64 0,.string ⟨#[]⟩]),3,40):=by kernel_rfl
theorem readList_a (b:Nat)(ms:List At)(q:List UInt8)(w:World)(hn:ms.length<256)(hm:∀m∈ms,AtR m)(h:RdL w b (lowB ms.length 1++(ms.flatMap atB++q))):
  Calls Tryz.prog 133 #[.pointer (some ⟨b,0,none⟩),.func (.func 134) #[] #[]] w fun e w'=>∃g,w.heap.size<=g/\e=.returned (.slice (some ⟨g,0,none⟩) ms.length ms.length)/\w'.heap[g]?=some (.cells (ms.flatMap At.row).toArray 199 (0,0))/\RdL w' b q/\Tch [b] w w':=by
 obtain⟨i0,hi,hz0,hz1,hz2⟩:=info_parts infL199;have hlt:=h.lt;have HNM:=zH (num_l b ms.length 1 _ w (.inl ⟨rfl,hn⟩) h);have hmake:∀W:World,(Instr.makeSlice 135 (.int .i64 (ms.length:Int)) (.int .i64 (ms.length:Int))).run Tryz.prog W=.ok (.slice (some ⟨W.heap.size,0,none⟩) ms.length ms.length) (W.alloc (.cells (madeCells #[.string ⟨#[]⟩,.int .i64 0,.string ⟨#[]⟩] (ms.length*3)) 199)):=fun W=>by
  have h:=run_make (P:=Tryz.prog) W 135 199 i0 (.agg #[.string ⟨#[]⟩,.int .i64 0,.string ⟨#[]⟩]) Tryz.underlying135 hi hz0 .i64 .i64 (ms.length:Int) (ms.length:Int) (by omega) (by omega) (by rw[hz2];omega) (by omega);rw[hz1,Int.toNat_natCast]at h;exact h
 have HRD:Hid (∀W (k:Nat) (hk:k<ms.length),RdL W b ((ms.drop k).flatMap atB++q)->Calls Tryz.prog 134 #[.pointer (some ⟨b,0,none⟩)] W (Tkn W b ((ms.drop (k+1)).flatMap atB++q) (.agg (At.row ms[k]).toArray))):=fun W k hk hR=>by
  rw[List.drop_eq_getElem_cons hk,List.flatMap_cons,List.append_assoc]at hR;exact readAt_l b ms[k] _ W (hm _ (List.getElem_mem hk)) hR
 have HST:Hid (∀(k:Nat) (hk:k<ms.length) (T:List Value),T.length=(ms.length-k)*3->∃T',T'.length=(ms.length-(k+1))*3/\setL ((ms.take k).flatMap At.row++T).toArray (k*3) (At.row ms[k])=((ms.take (k+1)).flatMap At.row++T').toArray):=fun k hk T hT=>set_row At.row 3 (fun _=>rfl) ms k hk T hT
 have HSZ:Hid (∀(k:Nat),k<ms.length->∀(T:List Value),T.length=(ms.length-k)*3->k*3+3<=((ms.take k).flatMap At.row++T).toArray.size):=fun k hk T hT=>by
  have h1:=flat_lz At.row 3 (fun _=>rfl) (ms.take k);rw[List.length_take,Nat.min_eq_left (by omega)]at h1
  show _<=((ms.take k).flatMap At.row++T).toArray.size
  rw[List.size_toArray,List.length_append,h1,hT];omega
 have hinf:(Tryz.prog.info? 199).map (fun i=>i.size)=some 3:=by kernel_rfl
 have heg:=eg134;clear h hm;go_enter Tryz.func133,Tryz.ntmps133;go_wp2_with fail;refine HNM.out.mono ?_;rintro e w1 ⟨rfl,r1,t1⟩;have H1:=zH (⟨r1,t1⟩:RdL w1 b (ms.flatMap atB++q)/\Tch [b] w w1);have hz1w:=t1.size;clear r1 t1 HNM;go_wp2_with fail
 go_loopw [12] (fun v wr=>∃(k:Nat) (T:List Value),k<=ms.length/\v=.int .i64 (k:Int)/\T.length=(ms.length-k)*3/\wr.heap[w1.heap.size]?=some (.cells ((ms.take k).flatMap At.row++T).toArray 199 (0,0))/\RdL wr b ((ms.drop k).flatMap atB++q)/\Tch [b] w wr) (fun v _=>ms.length-(intOf v).toNat)
 case atStart=>
  refine⟨0,(madeCells #[.string ⟨#[]⟩,.int .i64 0,.string ⟨#[]⟩] (ms.length*3)).toList,Nat.zero_le _,rfl,?_,?_,?_,?_⟩
  ·rw[Array.length_toList,size_madeCells,Nat.sub_zero]
  ·rw[heap_alloc_new];simp
  ·exact H1.out.1.tch ((Tch.refl [] _).alloc _) (by simp)
  ·exact H1.out.2.alloc _
 case round=>
  obtain⟨k,T,hk,rfl,hT,hb,hr,ht⟩:=hrel
  by_cases hkl:k<ms.length
  ·have hkI:(k:Int)<(ms.length:Int):=by omega
   have HR:=zH (HRD.out wr k hkl hr);have HB:=zH (⟨hb,ht⟩:_/\Tch [b] w wr);obtain⟨T',hT',hs⟩:=HST.out k hkl T hT;have hsz:=HSZ.out k hkl T hT;have hln:(At.row ms[k]).toArray.size=3:=rfl;have hon:(At.row ms[k]).toArray.all (·.oneCell')=true:=by simp[At.row,Value.oneCell']
   clear hb ht hr H1 hmake;generalize At.row ms[k]=R at*
   go_wp2_with (first|(go_at_fn 134;refine HR.out.mono ?_;rintro e w2 ⟨rfl,r2,t2⟩;have HB2:=zH ((t2.block _ (lt_of_block HB.out.1) (by simp;omega)).trans HB.out.1);have HT2:=zH (HB.out.2.trans t2 (fun _ h _=>h));have HR2:=zH r2;clear r2 t2 HR HB)|(refine wpList_store_mid rfl 199 _ _ rfl w1.heap.size (k*3) R.toArray rfl rfl (there_row HB2.out (by rw[hln];exact hsz)) (by rw[hln];exact hinf) hon ?_))
   have t3:=setCells_tch w1.heap.size R.toArray.toList (k*3) w2;have hb3:=setCells_heap w1.heap.size 199 R.toArray.toList (k*3) w2 _ HB2.out;rw[List.toList_toArray]at t3 hb3;rw[hs]at hb3;have HF:Hid ((w2.setCells w1.heap.size (k*3) R).heap[w1.heap.size]?=some (.cells ((ms.take (k+1)).flatMap At.row++T').toArray 199 (0,0))/\RdL (w2.setCells w1.heap.size (k*3) R) b ((ms.drop (k+1)).flatMap atB++q)/\Tch [b] w (w2.setCells w1.heap.size (k*3) R)):=⟨hb3,HR2.out.tch t3 (by simp;omega),HT2.out.trans t3 (fun x hx hl=>by simp at hx;omega)⟩;clear t3 hb3 HB2 HT2 HR2 HST HSZ HRD;go_wp2_with fail;go_roundw
   case rel=>exact⟨k+1,T',by omega,by go_num,hT',HF.out.1,HF.out.2.1,HF.out.2.2⟩
   case measure=>simp[intOf];omega
  ·have hkI:¬((k:Int)<(ms.length:Int)):=by omega
   have hke:k=ms.length:=by omega
   have hT0:T=[]:=List.length_eq_zero_iff.1 (by rw[hT,hke,Nat.sub_self,Nat.zero_mul]);rw[hT0,hke,List.take_length,List.append_nil]at hb;rw[hke,List.drop_length,List.flatMap_nil,List.nil_append]at hr;have HB:=zH (⟨hb,hr,ht⟩:_/\RdL wr b q/\Tch [b] w wr);clear hb hr ht H1 hmake HST HSZ HRD;go_wp2_with fail;go_ret;exact⟨w1.heap.size,hz1w,rfl,HB.out.1,HB.out.2.1,HB.out.2.2⟩
end Go.Proofs.YtbdobaapadlcjabGreatDoor
