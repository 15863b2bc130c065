import Derived.Test.YtbdobaapadlcjabGreatDoorRw10
import Derived.Shelf.Slices.Cells
set_option maxHeartbeats 2000000
set_option linter.unusedVariables false
set_option linter.unusedSimpArgs false
namespace Go.Proofs.YtbdobaapadlcjabGreatDoor
theorem enc_set (r:Wp.Rq)(s:ByteArray)(bs:List ByteArray)(f g:Nat)(hf:f<15)(hg:g<15)(h:offOf g≠offOf f):encF (setR r s g) bs f=encF r bs f:=by
 have hx:f=0\/f=1\/f=2\/f=3\/f=4\/f=5\/f=6\/f=7\/f=8\/f=9\/f=10\/f=11\/f=12\/f=13\/f=14:=by omega
 have hy:g=0\/g=1\/g=2\/g=3\/g=4\/g=5\/g=6\/g=7\/g=8\/g=9\/g=10\/g=11\/g=12\/g=13\/g=14:=by omega
 rcases hx with rfl|rfl|rfl|rfl|rfl|rfl|rfl|rfl|rfl|rfl|rfl|rfl|rfl|rfl|rfl<;>
  rcases hy with rfl|rfl|rfl|rfl|rfl|rfl|rfl|rfl|rfl|rfl|rfl|rfl|rfl|rfl|rfl<;>
  first|rfl|exact absurd rfl h
theorem enc_keep (L:List Nat)(t:St)(bs:List ByteArray)(f:Nat)(hf:f<15)(hL:∀g∈L,g<15/\offOf g≠offOf f):encF (L.foldl stepSt t).r bs f=encF t.r bs f:=by
 induction L generalizing t with
 | nil=>rfl
 | cons g L ih=>
  have hg:=hL g List.mem_cons_self;rw[List.foldl_cons,ih _ (fun a ha=>hL a (List.mem_cons_of_mem _ ha))];exact enc_set t.r t.s bs f g hf hg.1 hg.2
theorem bs_keep (L:List Nat)(t:St)(h:14∉L):(L.foldl stepSt t).bs=t.bs:=by
 induction L generalizing t with
 | nil=>rfl
 | cons g L ih=>
  rw[List.foldl_cons,ih _ (fun ha=>h (List.mem_cons_of_mem _ ha))]
  show (if g=14 then _ else t.bs)=t.bs
  rw[if_neg (fun e=>h (by rw[e];exact List.mem_cons_self))]
theorem write_run (L:List Nat)(t:St)(hL:∀f∈L,f<15)(hd:L.Pairwise fun a b=>offOf a≠offOf b)(h:(L.foldl stepSt t).fl=false):
  t.fl=false/\t.s.data.toList=encL (L.foldl stepSt t).r (L.foldl stepSt t).bs L++(L.foldl stepSt t).s.data.toList:=by
 induction L generalizing t with
 | nil=>exact⟨h,rfl⟩
 | cons f L ih=>
  rw[List.pairwise_cons]at hd;have hf:=hL f List.mem_cons_self;rw[List.foldl_cons]at h ⊢;obtain⟨h1,h2⟩:=ih (stepSt t f) (fun g hg=>hL g (List.mem_cons_of_mem _ hg)) hd.2 h;have h3:=h1;obtain⟨h4,h5⟩:=write_read t.s t.fl t.r (L.foldl stepSt (stepSt t f)).bs f hf h3;refine⟨h4,?_⟩;have e:encL (L.foldl stepSt (stepSt t f)).r (L.foldl stepSt (stepSt t f)).bs (f::L)=encF (L.foldl stepSt (stepSt t f)).r (L.foldl stepSt (stepSt t f)).bs f++encL (L.foldl stepSt (stepSt t f)).r (L.foldl stepSt (stepSt t f)).bs L:=by simp[encL]
  have hk:=enc_keep L (stepSt t f) (L.foldl stepSt (stepSt t f)).bs f hf (fun g hg=>⟨hL g (List.mem_cons_of_mem _ hg),Ne.symm (hd.1 g hg)⟩);rw[e,List.append_assoc,<-h2,hk];rw[h5];congr 1
  by_cases h14:f=14
  ·subst h14;have hn:14∉L:=fun hm=>hd.1 14 hm rfl
   have hb:=bs_keep L (stepSt t 14) hn;rw[hb];rfl
  ·rw[if_neg h14];rfl
theorem lay_apart (i:Nat)(hi:i∈opsAt):(Wp.lay i).Pairwise fun a b=>offOf a≠offOf b:=by
 have h:∀i∈opsAt,(Wp.lay i).Pairwise fun a b=>offOf a≠offOf b:=by decide
 exact h i hi
theorem ite_op {c:Prop} [Decidable c] {a b:Wp.Rq}{o:UInt8}(ha:a.op=o)(hb:b.op=o):(if c then a else b).op=o:=by
 by_cases h:c
 ·rw[if_pos h];exact ha
 ·rw[if_neg h];exact hb
theorem op_keep (L:List Nat)(t:St):(L.foldl stepSt t).r.op=t.r.op:=by
 induction L generalizing t with
 | nil=>rfl
 | cons g L ih=>
  rw[List.foldl_cons,ih]
  show (setR t.r t.s g).op=t.r.op
  unfold setR
  repeat' (refine ite_op ?_ ?_)
  all_goals rfl
theorem good_bytes (s:ByteArray)(h:parseGood s=true):s=BA ((endSt s).r.op::encL (endSt s).r (endSt s).bs (Wp.lay ((endSt s).r.op.toNat-65)))/\(endSt s).r.op=opOf s/\rightW (endSt s).r ⟨none,(endSt s).bs.length,0⟩ (Wp.short (endSt s).bs)=true:=by
 unfold parseGood at h;simp only[Bool.and_eq_true]at h;obtain⟨h1,h2,h3,h4⟩:=h;obtain⟨i,hi,hop⟩:=(isOp_at _).1 h1;have hr:(endSt s).r.op=opOf s:=op_keep _ _;refine⟨?_,hr,h4⟩;rw[hr,hop,Nat.add_sub_cancel_left];have he:endSt s=runSt s (Wp.lay i):=by rw[endSt,hop,Nat.add_sub_cancel_left]
 have hfl:(endSt s).fl=false:=by simpa using h2
 have hem:=(empty_iff _).1 h3;rw[he]at hfl hem;obtain⟨h5,h6⟩:=write_run (Wp.lay i) ⟨opR (opOf s),lf s 1,bad s false 1,[]⟩ (lay_fields i hi) (lay_apart i hi) hfl;have hb:=bad_false (show bad s false 1=false from h5);apply ext_list;rw[BA_list,he];have e1:=take_lf s 1 hb.2;have e2:(tk s 1).data.toList=[opOf s]:=(byte_taken s hb.2).symm;have e3:(lf s 1).data.toList=encL (runSt s (Wp.lay i)).r (runSt s (Wp.lay i)).bs (Wp.lay i)++(runSt s (Wp.lay i)).s.data.toList:=h6;rw[e1,e2,e3,hem];simp
theorem i64_nat (n:Nat)(h:n<65536):i64 (n:Int):=by unfold i64;omega
theorem set_wf (r:Wp.Rq)(s:ByteArray)(f:Nat)(h:Wf r):Wf (setR r s f):=by
 have hz:i64 ((nmN s 1:Nat):Int):=i64_nat _ (by have:=nm1 s;omega);have hy:i64 ((nmN s 2:Nat):Int):=i64_nat _ (nm2 s);obtain⟨h1,h2,h3,h4,h5,h6⟩:=h;unfold setR
 repeat' (refine ite_wf ?_ ?_)
 all_goals exact⟨by first|exact h1|exact hz|exact hy,by first|exact h2|exact hz|exact hy,by first|exact h3|exact hz|exact hy,by first|exact h4|exact hz|exact hy,by first|exact h5|exact hz|exact hy,by first|exact h6|exact hz|exact hy⟩
theorem run_wf (L:List Nat)(t:St)(h:Wf t.r):Wf (L.foldl stepSt t).r:=by
 induction L generalizing t with
 | nil=>exact h
 | cons f L ih=>exact ih _ (set_wf _ _ _ h)
theorem end_wf (s:ByteArray):Wf (endSt s).r:=by
 have hz:i64 0:=by unfold i64;omega
 exact run_wf _ _ ⟨hz,hz,hz,hz,hz,hz⟩
theorem print_bytes (r:Wp.Rq)(x:Sl)(bs:List ByteArray)(h:rightW r x (Wp.short bs)=true):printS r x bs=BA (r.op::encL r bs (Wp.lay (r.op.toNat-65))++[])/\printE r x bs=0:=by
 rw[List.append_nil];exact⟨by rw[printS,if_pos h];rfl,by rw[printE,if_pos h]⟩
theorem print_good (r:Wp.Rq)(x:Sl)(bs:List ByteArray)(hw:Wf r)(hxn:x.n=bs.length)(h:rightW r x (Wp.short bs)=true):
  parseGood (printS r x bs)=true/\(endSt (printS r x bs)).r=r/\(endSt (printS r x bs)).bs=bs:=by
 rw[(print_bytes r x bs h).1];refine⟨good_enc r x bs [] hw hxn h,?_,?_⟩
 ·rw[(end_enc r x bs [] hw hxn h).1]
 ·rw[(end_enc r x bs [] hw hxn h).1]
theorem print_of_good (s:ByteArray)(x:Sl)(hg:parseGood s=true)(hxn:x.n=(endSt s).bs.length):printS (endSt s).r x (endSt s).bs=s/\printE (endSt s).r x (endSt s).bs=0:=by
 obtain⟨h1,h2,h3⟩:=good_bytes s hg;have h4:rightW (endSt s).r x (Wp.short (endSt s).bs)=true:=by rw[rightW_n _ x ⟨none,(endSt s).bs.length,0⟩ _ hxn];exact h3
 have h5:=print_bytes (endSt s).r x (endSt s).bs h4;rw[List.append_nil,<-h1]at h5;exact h5
end Go.Proofs.YtbdobaapadlcjabGreatDoor
namespace Go.Proofs.YtbdobaapadlcjabGreatDoor
open Go.RowKit
variable {B qb cnt gc ga base:Nat}{T:List TypeId}{w w':World}{V:QV}{Q:QM}{CC:Array Value}{til:Int}{av:Value}
theorem zero_str (W:World)(g cap:Nat)(h:W.cell? ⟨g,0,none⟩=some (.int .u8 0)):(convert 54 9 (.slice (some ⟨g,0,none⟩) 1 cap)).run Tryz.prog W=.ok (.string ⟨#[0]⟩) W:=by
 refine run_convert_bytes_back (P:=Tryz.prog) W 54 9 5 ⟨g,0,none⟩ cap [0] Tryz.underlying54 Tryz.underlying5 Tryz.underlying9 ?_;intro j hj;have hj0:j=0:=by simpa using hj
 subst hj0;exact h
theorem func_nil2 (fn:Fn)(f c:Array Value)(W:World):(binOp .eql 1 (.func fn f c) .nilFunc).run Tryz.prog W=.ok (.bool false) W:=by kernel_rfl
theorem nil_nil2 (W:World):(binOp .eql 1 .nilFunc .nilFunc).run Tryz.prog W=.ok (.bool true) W:=by kernel_rfl
theorem nil_nil1 (W:World):(binOp .neq 1 .nilFunc .nilFunc).run Tryz.prog W=.ok (.bool false) W:=by kernel_rfl
def laidIn (w:World)(C:Array Value):World:=(w.alloc (.cells (cellsOf (opR 0) (Sl.v ⟨none,0,0⟩)) 24)).setRow w.heap.size C
theorem laidIn_heap (w:World)(C:Array Value):(laidIn w C).heap[w.heap.size]?=some (.cells C 24 (0,0)):=setRow_heap _ _ _ _ 24 (0,0) (heap_alloc_new _ _)
theorem laidIn_tch (w:World)(C:Array Value):Tch [] w (laidIn w C):=((Tch.refl _ _).alloc _).setRow (fun h=>absurd h (Nat.lt_irrefl _)) _
theorem laidIn_is (w:World)(C:Array Value):(w.alloc (.cells #[.int .u8 0,.int .u8 0,.int .u8 0,.int .i64 0,.int .i64 0,.int .i64 0,.int .i64 0,.int .i64 0,.int .i64 0,.string ⟨#[]⟩,.string ⟨#[]⟩,.string ⟨#[]⟩,.string ⟨#[]⟩,.string ⟨#[]⟩,.slice none 0 0] 24)).setRow w.heap.size C=laidIn w C:=rfl
abbrev nil0:Sl:=⟨none,0,0⟩
theorem strs0 (W:World):Strs W none []:=by
 simp[Strs]
theorem asked_walk (K:ByteArray->World->Prop)(B:Nat)(r:Wp.Rq)(x:Nat)(w:World)(hright:rightW r nil0 (Wp.short [])=true)(hL:Lays B w)(hBw:B<=w.heap.size)
  (hD:∀W,Below w.heap.size w W->Calls Tryz.prog 11 #[.pointer (some ⟨x,0,none⟩),.string (printS r nil0 [])] W fun e w'=>∃t,e=.returned (.string t)/\K t w'):
  Calls Tryz.prog 32 #[.pointer (some ⟨x,0,none⟩),.agg (cellsOf r nil0.v)] w fun e w'=>∃t,e=.returned (.string t)/\K t w':=by
 have hE:=(print_bytes r nil0 [] hright).2;have HD:=zH hD;have HP:Hid (∀W,Below w.heap.size w W->zB 22 #[.agg (cellsOf r nil0.v)] W (.tuple #[.string (printS r nil0 []),.int .i64 0])):=fun W hb=>by
  have h:=wharf_print B r nil0 [] W rfl (Nat.zero_le _) (hL.below (hb.mono hBw)) (by have:=hb.size;omega) (strs0 W);rw[hE]at h;exact h
 have HCS:Hid ((Tryz.prog.info? 24).map (·.size)=some (cellsOf r nil0.v).size):=info37;clear hD hE hright hL;generalize cellsOf r nil0.v=C at*
 generalize printS r nil0 []=T at*
 go_enter Tryz.func32,Tryz.ntmps32;go_wp2_with (first|(refine wpList_load_row rfl 24 _ rfl w.heap.size rfl 24 C (0,0) _ (heap_alloc_new _ _) Tryz.underlying24 rfl HCS.out ?_)|(go_at_call 22;refine(HP.out _ ((Below.refl _ _).alloc (Nat.le_refl _) _)).mono ?_;rintro e w1 ⟨rfl,hb⟩)|(go_at_call 11;refine(HD.out _ (((Below.refl _ _).alloc (Nat.le_refl _) _).trans (hb.mono (by simp)))).mono ?_;rintro e w2 ⟨t,rfl,hk⟩))
 go_ret;exact⟨_,rfl,by assumption⟩
theorem create_walk (K:World->Prop)(B:Nat)(r:Wp.Rq)(x:Nat)(w:World)(hright:rightW r nil0 (Wp.short [])=true)(hL:Lays B w)(hBw:B<=w.heap.size)
  (hD:∀W,Below w.heap.size w W->Calls Tryz.prog 11 #[.pointer (some ⟨x,0,none⟩),.string (printS r nil0 [])] W fun e w'=>e=.returned (.string ⟨#[0]⟩)/\K w'):
  Calls Tryz.prog 21 #[.pointer (some ⟨x,0,none⟩),.agg (cellsOf r nil0.v)] w fun e w'=>e=.returned (.bool true)/\K w':=by
 have HA:Hid (∀W,Below w.heap.size w W->Calls Tryz.prog 32 #[.pointer (some ⟨x,0,none⟩),.agg (cellsOf r nil0.v)] W fun e w'=>e=.returned (.string ⟨#[0]⟩)/\K w'):=fun W hb=>by
  refine(asked_walk (fun t w'=>t=⟨#[0]⟩/\K w') B r x W hright (hL.below (hb.mono hBw)) (by have:=hb.size;omega) ?_).mono ?_
  ·intro W' hb';refine(hD W' (hb.trans (hb'.mono hb.size))).mono ?_;rintro e w' ⟨rfl,hk⟩;exact⟨_,rfl,rfl,hk⟩
  ·rintro e w' ⟨t,rfl,rfl,hk⟩;exact⟨rfl,hk⟩
 have HCS:Hid ((Tryz.prog.info? 24).map (·.size)=some (cellsOf r nil0.v).size):=info37;clear hD hright hL;generalize cellsOf r nil0.v=C at*
 go_enter Tryz.func21,Tryz.ntmps21;go_wp2_with (first|(refine wpList_load_row rfl 24 _ rfl w.heap.size rfl 24 C (0,0) _ (heap_alloc_new _ _) Tryz.underlying24 rfl HCS.out ?_)|(go_at_call 32;refine(HA.out _ ((Below.refl _ _).alloc (Nat.le_refl _) _)).mono ?_;rintro e w1 ⟨rfl,hk⟩))
 go_ret;exact⟨rfl,by assumption⟩
abbrev TB:List TypeId:=[85,77,79,94,137,191,195,9]
theorem Lays.fr (h:Lays B w)(hf:Fr B T w w'):Lays B w':=h.below hf.below
theorem Tab.fr (h:Tab w)(hf:Fr B T w w')(h3:3<=B):Tab w':=h.below (B:=3) (hf.below.mono h3) (by decide)
theorem Fr.one {st:Nat}{C:Array Value}{t:TypeId}(ht:Tch [st] w w')(hB:B<=w.heap.size)(hlo:B<=st)(hst:w.heap[st]?=some (.cells C t (0,0)))(hT:t∈T):Fr B T w w':=
 Fr.of_tch ht hB (by simpa using hlo) (fun k hk C' t' h=>by
  simp at hk;subst hk;rw[hst]at h;simp at h;rw[<-h.2];exact hT)
theorem flat_set {α:Type}(row:α->List Value)(k:Nat)(hk:∀x,(row x).length=k)(l:List α)(i j:Nat)(v:Value)(x':α)(hi:i<l.length)(hj:j<k)(hx:row x'=(row l[i]).set j v):(l.flatMap row).set (i*k+j) v=(l.set i x').flatMap row:=by
 induction l generalizing i with
 | nil=>simp at hi
 | cons x l ih=>
  cases i with
  | zero=>
   rw[List.set_cons_zero,List.flatMap_cons,List.flatMap_cons,Nat.zero_mul,Nat.zero_add,List.set_append_left _ _ (by rw[hk];exact hj),hx];rfl
  | succ i=>
   have e:(i+1)*k+j=(row x).length+(i*k+j):=by rw[hk,Nat.add_mul,Nat.one_mul];omega
   rw[List.set_cons_succ,List.flatMap_cons,List.flatMap_cons,e,List.set_append_right _ _ (by omega),Nat.add_sub_cancel_left,ih i (by simpa using hi) hx]
def flyM (til:Int)(m:Ms):Ms:={m with rcv:=(oft m.rcv.toNat:Nat),til:=til}
def flyAt (til:Int)(ms:List Ms)(z:Int):List Ms:=match ms[z.toNat]? with
 | some m=>ms.set z.toNat (flyM til m)
 | none=>ms
def flyAll (til:Int)(ms:List Ms)(zs:List Int):List Ms:=zs.foldl (flyAt til) ms
theorem flyAt_len (til:Int)(ms:List Ms)(z:Int):(flyAt til ms z).length=ms.length:=by
 unfold flyAt;split<;>simp
theorem flyAll_len (til:Int)(ms:List Ms)(zs:List Int):(flyAll til ms zs).length=ms.length:=by
 unfold flyAll
 induction zs generalizing ms with
 | nil=>rfl
 | cons z zs ih=>rw[List.foldl_cons,ih,flyAt_len]
theorem flyM_ok (til:Int)(m:Ms)(h:MsOk m):MsOk (flyM til m):=⟨h.num,⟨by show (0:Int)<=((oft m.rcv.toNat:Nat):Int);omega,by show ((oft m.rcv.toNat:Nat):Int)<=65535;have:=oft_le m.rcv.toNat;omega⟩,h.grp,h.bod⟩
theorem flyAt_ok (til:Int)(ms:List Ms)(z:Int)(h:∀m∈ms,MsOk m):∀m∈flyAt til ms z,MsOk m:=by
 unfold flyAt
 split
 ·rename_i m hm
  intro x hx;rcases List.mem_or_eq_of_mem_set hx with hx|hx
  ·exact h x hx
  ·rw[hx];exact flyM_ok til m (h m (List.mem_of_getElem? hm))
 ·exact h
theorem flyAll_ok (til:Int)(ms:List Ms)(zs:List Int)(h:∀m∈ms,MsOk m):∀m∈flyAll til ms zs,MsOk m:=by
 unfold flyAll
 induction zs generalizing ms with
 | nil=>exact h
 | cons z zs ih=>rw[List.foldl_cons];exact ih _ (flyAt_ok til ms z h)
structure Cap (wr:World)(qb:Nat)(CC:Array Value)(cnt g0 gc ga base:Nat)(til:Int)(hds:List Int)(av:Value)(ans:List UInt8):Prop where
 hgq:wr.heap[g0]?=some (.cells #[.pointer (some ⟨qb,0,none⟩)] 88 (0,0))
 hgr:wr.heap[g0+1]?=some (.cells CC 24 (0,0))
 hgc:wr.heap[gc]?=some (.cells #[.int .i64 (cnt:Int)] 3 (0,0))
 hga:wr.heap[ga]?=some (.cells #[av] 54 (0,0))
 hgu:wr.heap[ga+1]?=some (.cells #[.int .i64 til] 3 (0,0))
 hhb:wr.heap[ga+1+1]?=some (.cells (intRow hds cnt) 3 (0,0))
 hgh:wr.heap[ga+1+1+1]?=some (.cells #[.slice (some ⟨ga+1+1,0,none⟩) cnt cnt] 26 (0,0))
 own:OwnB wr base av ans
theorem RcI.cap {wr:World}{kh ka:Nat}(h:RcI w wr qb V Q CC cnt gc ga base til kh ka av):Cap wr qb CC cnt w.heap.size gc ga base til (hdsL Q kh) av (ansL Q cnt ka):=
 ⟨h.hgq,h.hgr,h.hgc,h.hga,h.hgu,h.hhb,h.hgh,h.own⟩
theorem Cap.keep {g0:Nat}{hds:List Int}{ans:List UInt8}(h:Cap w qb CC cnt g0 gc ga base til hds av ans)(hf:Fr B T w w')(hT:∀t∈[88,24,3,54,26,5],t∉T):Cap w' qb CC cnt g0 gc ga base til hds av ans:=
 ⟨hf.keep _ _ _ h.hgq (hT _ (by decide)),hf.keep _ _ _ h.hgr (hT _ (by decide)),hf.keep _ _ _ h.hgc (hT _ (by decide)),hf.keep _ _ _ h.hga (hT _ (by decide)),hf.keep _ _ _ h.hgu (hT _ (by decide)),hf.keep _ _ _ h.hhb (hT _ (by decide)),hf.keep _ _ _ h.hgh (hT _ (by decide)),hf.own h.own (hT _ (by decide))⟩
theorem QR.setM (h:QR w qb V Q){gm cm:Nat}(hvm:V.m=.slice (some ⟨gm,0,none⟩) Q.ms.length cm)(i j:Nat)(v:Value)(x':Ms)(hi:i<Q.ms.length)(hj:j<5)(hx:x'.row=(Q.ms[i]).row.set j v):
  QR (w.setCell ⟨gm,i*5+j,none⟩ v) qb V {Q with ms:=Q.ms.set i x'}/\Tch [gm] w (w.setCell ⟨gm,i*5+j,none⟩ v)/\Fr 0 [191] w (w.setCell ⟨gm,i*5+j,none⟩ v):=by
 have t1:Tch [gm] w (w.setCell ⟨gm,i*5+j,none⟩ v):=(Tch.refl _ _).setCell (fun _=>by simp) _;have hm:=h.m;rw[hvm]at hm;obtain⟨C,hC⟩:∃C,w.heap[gm]?=some (.cells C 191 (0,0)):=by
  rcases hm.2 with ⟨e,_⟩|⟨g',cap',cur,e,_,hr,_⟩
  ·simp at e
  ·simp at e;obtain⟨e1,_⟩:=e;subst e1;exact⟨_,hr⟩
 have hf:Fr 0 [191] w (w.setCell ⟨gm,i*5+j,none⟩ v):=Fr.one t1 (Nat.zero_le _) (Nat.zero_le _) hC (by decide);refine⟨⟨hf.keep _ _ _ h.blk (by decide),?_,hf.own h.r (by decide),hf.own h.d (by decide),hf.own h.a (by decide)⟩,t1,hf⟩;have h2:=(World.ownsRow.stored hm (i*5+j) v).1
 show World.ownsRow _ 0 191 5 V.m (Q.ms.set i x').length ((Q.ms.set i x').flatMap Ms.row)
 rw[hvm,List.length_set,<-flat_set Ms.row 5 (fun _=>rfl) Q.ms i j v x' hi hj hx];exact h2
end Go.Proofs.YtbdobaapadlcjabGreatDoor
namespace Go.Proofs.YtbdobaapadlcjabGreatDoor
open Go.Shelf Go.RowKit Go.Lib
variable {base e size n g:Nat}
def l214_ren:Go.Shelf.Ren:=⟨fun|24=>167|n=>n,fun|24=>22|9=>9|3=>3|0=>0|4=>4|n=>n,fun|n=>n⟩
theorem l214:Go.Proofs.Lays2.n24 Tryz.prog l214_ren:={
 mixed:=by kernel_rfl
 f24:=Tryz.func167.trans (congrArg some (by kernel_rfl))
 t0:=Tryz.underlying0
 a0:=Tryz.isAgg0
 z0:=Tryz.sizeOf0
 v0:=Tryz.zeroValue0
 t3:=Tryz.underlying3
 a3:=Tryz.isAgg3
 z3:=Tryz.sizeOf3
 v3:=Tryz.zeroValue3
 t4:=Tryz.underlying4
 a4:=Tryz.isAgg4
 z4:=Tryz.sizeOf4
 v4:=Tryz.zeroValue4
 t9:=Tryz.underlying9
 a9:=Tryz.isAgg9
 z9:=Tryz.sizeOf9
 v9:=Tryz.zeroValue9
 t24:=Tryz.underlying22
 a24:=Tryz.isAgg22
 z24:=Tryz.sizeOf22
 v24:=Tryz.zeroValue22
 i9:=by kernel_rfl}
def putMany:List Value->Nat->List Value->List Value
 | xs,_,[]=>xs
 | xs,o,v::r=>putMany (xs.set o v) (o+1) r
theorem own_setCells {cap:Nat}:∀(vs:List Value) (o:Nat) (w:World) (xs:List Value),w.ownsRow base e size (.slice (some ⟨g,0,none⟩) n cap) n xs->(w.setCells g o vs).ownsRow base e size (.slice (some ⟨g,0,none⟩) n cap) n (putMany xs o vs)
 | [],_,_,_,h=>h
 | v::r,o,w,xs,h=>own_setCells r (o+1) _ _ (World.ownsRow.stored h o v).1
theorem putMany_all (pre xs vs:List Value)(h:xs.length=vs.length):putMany (pre++xs) pre.length vs=pre++vs:=by
 induction vs generalizing pre xs with
 | nil=>
  have:xs=[]:=List.length_eq_zero_iff.1 h;simp[putMany,this]
 | cons v r ih=>
  cases xs with
  | nil=>simp at h
  | cons x xs=>
   simp only[putMany];rw[List.set_append_right _ _ (Nat.le_refl _),Nat.sub_self,List.set_cons_zero];have e1:pre++v::xs=(pre++[v])++xs:=by simp
   have e2:pre.length+1=(pre++[v]).length:=by simp
   rw[e1,e2,ih (pre++[v]) xs (by simpa using h)];simp
theorem tch_setCells (g:Nat):∀(vs:List Value) (o:Nat) (w:World),Tch [g] w (w.setCells g o vs)
 | [],_,w=>Tch.refl _ _
 | v::r,o,w=>((Tch.refl [g] w).setCell (fun _=>by simp) v).trans (tch_setCells g r (o+1) _) (fun _ h _=>h)
theorem own_cut {w:World}{n' cap:Nat}{xs:List Value}(h:w.ownsRow base e size (.slice (some ⟨g,0,none⟩) n cap) n xs)(hn:n'<=n):w.ownsRow base e size (.slice (some ⟨g,0,none⟩) n' cap) n' (xs.take (n'*size)):=by
 have hle:n'*size<=n*size:=Nat.mul_le_mul_right _ hn;refine⟨by rw[List.length_take,h.1];omega,?_⟩;rcases h.2 with ⟨h',_⟩|⟨g',cap',cur,h',hb,hg,hnc,hcm,hcs,htake⟩
 ·simp at h'
 ·simp only[Value.slice.injEq,Option.some.injEq,Addr.mk.injEq,and_true,true_and]at h';obtain⟨rfl,rfl⟩:=h';refine .inr ⟨g,cap,cur,rfl,hb,hg,by omega,hcm,hcs,?_⟩;rw[<-htake,List.take_take,Nat.min_eq_left hle]
theorem delete_ready (rs:List ByteArray)(g c cnt:Nat)(w:World)(ho:w.ownsRow 0 9 1 (.slice (some ⟨g,0,none⟩) rs.length c) rs.length (rs.map Value.string))(hc:cnt<=rs.length):
  Calls Tryz.prog 167 #[.slice (some ⟨g,0,none⟩) rs.length c,.int .i64 0,.int .i64 (cnt:Int)] w fun e w'=>e=.returned (.slice (some ⟨g,0,none⟩) (rs.length-cnt) c)/\w'.ownsRow 0 9 1 (.slice (some ⟨g,0,none⟩) (rs.length-cnt) c) (rs.length-cnt) ((rs.drop cnt).map Value.string)/\Tch [g] w w':=by
 obtain⟨hnc,hcm,hrow⟩:rs.length<=c/\c<=maxLen/\∃cur,w.heap[g]?=some (.cells cur 9 (0,0)):=by
  rcases ho.2 with ⟨h',_⟩|⟨g',cap',cur,h',hb,hg,hnc,hcm,hcs,htake⟩
  ·simp at h'
  ·simp only[Value.slice.injEq,Option.some.injEq,Addr.mk.injEq,and_true,true_and]at h';obtain⟨rfl,rfl⟩:=h';exact⟨hnc,hcm,cur,hg⟩
 obtain⟨cur,hrow⟩:=hrow;have hcell:∀i,i<rs.length->w.cell? ⟨g,0+i,none⟩=some (.string (rs.getD i ⟨#[]⟩)):=fun i hi=>by
  have h1:=World.ownsRow.cells ho (g:=g) rfl i (.string (rs.getD i ⟨#[]⟩)) (by simp[hi]);have e2:(⟨g,0,none⟩:Addr).add i=⟨g,0+i,none⟩:=by unfold Addr.add;split<;>simp_all
  rw[e2]at h1;exact h1
 refine(Any.slices_Delete_string_cells l214 g 0 rs.length c 0 cnt (fun i=>rs.getD i ⟨#[]⟩) w hnc (by unfold maxLen at hcm;omega) (Nat.zero_le _) hc hcell (fun j hj=>frozen_of_row w g _ cur 9 hrow)).mono ?_;rintro e w' ⟨rfl,q,rfl⟩;have hst:Lib.strsOf (fun i=>rs.getD i ⟨#[]⟩) rs.length=rs.map (fun s=>s.data.toList):=by
  apply List.ext_getElem
  ·simp[Lib.strsOf]
  ·intro i h1 h2;simp[Lib.strsOf]at h1 ⊢;simp[h1]
 have hw:=ho;have t1:Tch [] w (w.drewN q):=(Tch.refl [] w).drewN q;refine⟨rfl,?_,(t1.sub (by simp)).trans (tch_setCells g _ 0 _) (fun _ h _=>h)⟩;have h2:=own_setCells ((((Lib.strsOf (fun i=>rs.getD i ⟨#[]⟩) rs.length).take 0++(Lib.strsOf (fun i=>rs.getD i ⟨#[]⟩) rs.length).drop cnt++List.replicate (cnt-0) []).map encStr)) 0 (w.drewN q) _ hw;have e1:putMany (rs.map Value.string) 0 ((((Lib.strsOf (fun i=>rs.getD i ⟨#[]⟩) rs.length).take 0++(Lib.strsOf (fun i=>rs.getD i ⟨#[]⟩) rs.length).drop cnt++List.replicate (cnt-0) []).map encStr))=(((Lib.strsOf (fun i=>rs.getD i ⟨#[]⟩) rs.length).take 0++(Lib.strsOf (fun i=>rs.getD i ⟨#[]⟩) rs.length).drop cnt++List.replicate (cnt-0) []).map encStr):=by
  have h3:=putMany_all [] (rs.map Value.string) (((Lib.strsOf (fun i=>rs.getD i ⟨#[]⟩) rs.length).take 0++(Lib.strsOf (fun i=>rs.getD i ⟨#[]⟩) rs.length).drop cnt++List.replicate (cnt-0) []).map encStr) (by simp[Lib.strsOf_length];omega);simpa using h3
 rw[e1]at h2;have h4:=own_cut h2 (n':=rs.length-cnt) (by omega);have e2:((((Lib.strsOf (fun i=>rs.getD i ⟨#[]⟩) rs.length).take 0++(Lib.strsOf (fun i=>rs.getD i ⟨#[]⟩) rs.length).drop cnt++List.replicate (cnt-0) []).map encStr)).take ((rs.length-cnt)*1)=(rs.drop cnt).map Value.string:=by
  rw[hst];simp only[List.take_zero,List.nil_append,Nat.mul_one,List.map_append];rw[List.take_append_of_le_length (by simp),List.take_of_length_le (by simp)];have e3:(rs.map (fun s=>s.data.toList)).map encStr=rs.map Value.string:=by
   rw[List.map_map];apply List.map_congr_left;intro s _
   cases s
   simp[encStr]
  rw[List.map_drop,e3,List.map_drop]
 rw[e2]at h4;exact h4
theorem eg241:∀args w,(callFunc 210 args).run Tryz.prog w=.ok (.enter 210 args) w:=enters_of Tryz.func210 (by kernel_rfl) rfl
theorem del_pred (now:Int)(B:Nat)(w:World)(hB:B<w.heap.size)(hcell:w.cell? ⟨B,0,none⟩=some (.int .i64 now)):
  PredBelow Tryz.prog 210 #[.pointer (some ⟨B,0,none⟩)] (fun x:Dd=>.agg x.row.toArray) (fun x=>decide (x.til<=now)) w:=fun W x hb=>by
 have hc:=(hb.cell (p:=⟨B,0,none⟩) hB).trans hcell;have hBW:B<W.heap.size:=Nat.lt_of_lt_of_le hB hb.size
 show Calls Tryz.prog 210 #[.agg #[.string x.id,.int .i64 x.num,.int .i64 x.til],.pointer (some ⟨B,0,none⟩)] W _
 go_enter Tryz.func210,Tryz.ntmps210
 go_wp2
 all_goals (go_ret;exact⟨by simp_all,hb.alloc hb.size _⟩)
end Go.Proofs.YtbdobaapadlcjabGreatDoor
