import Derived.Test.YtbdobaapadlcjabGreatDoorHy06
import Derived.Deep.RegionHeld3
set_option maxRecDepth 8000
set_option maxHeartbeats 2000000
set_option linter.unusedVariables false
set_option linter.unusedSimpArgs false
namespace Go.Proofs.YtbdobaapadlcjabGreatDoor
theorem bad_false {s:ByteArray}{fl:Bool}{n:Nat}(h:bad s fl n=false):fl=false/\n<=s.size:=by
 unfold bad at h
 by_cases hn:n<=s.size
 ·rw[if_pos hn]at h;exact⟨h,hn⟩
 ·rw[if_neg hn]at h;cases h
theorem take_lf (s:ByteArray)(n:Nat)(h:n<=s.size):s.data.toList=(tk s n).data.toList++(lf s n).data.toList:=by
 rw[tk_list s n h,lf_list s n h,List.take_append_drop]
theorem tk_length (s:ByteArray)(n:Nat)(h:n<=s.size):(tk s n).data.toList.length=n:=by
 rw[tk_list s n h,List.length_take];have:s.data.toList.length=s.size:=rfl;omega
theorem lowB_cons (n k:Nat):lowB n (k+1)=UInt8.ofNat (n % 256)::lowB (n / 256) k:=by
 unfold lowB;rw[List.range_succ_eq_map,List.map_cons,List.map_map];congr 1
 ·simp
 ·apply List.map_congr_left;intro j _
  show UInt8.ofNat (n / 256^(j+1) % 256)=UInt8.ofNat (n / 256 / 256^j % 256)
  rw[Nat.div_div_eq_div_mul,Nat.pow_succ,Nat.mul_comm]
theorem lowB_le (l:List UInt8):lowB (leN l) l.length=l:=by
 induction l with
 | nil=>rfl
 | cons c r ih=>
  have hc:=c.toNat_lt;have h1:leN (c::r) % 256=c.toNat:=by show (c.toNat+256*leN r) % 256=_;omega
  have h2:leN (c::r) / 256=leN r:=by show (c.toNat+256*leN r) / 256=_;omega
  rw[List.length_cons,lowB_cons,h1,h2,ih];congr 1;simp
theorem num_taken (s:ByteArray)(n:Nat)(h:n<=s.size):lowB (nmN s n) n=(tk s n).data.toList:=by
 have h1:=lowB_le (tk s n).data.toList;rw[tk_length s n h]at h1;exact h1
theorem byte_taken (s:ByteArray)(h:1<=s.size):[UInt8.ofNat (nmN s 1 % 256)]=(tk s 1).data.toList:=by
 have h1:=num_taken s 1 h;rw[lowB_cons]at h1;exact h1
theorem txt_taken (s:ByteArray)(fl:Bool)(h:txF s fl=false):fl=false/\s.data.toList=txtB (txS s)++(txL s).data.toList:=by
 have h1:=bad_false h;have h2:=bad_false h1.1;refine⟨h2.1,?_⟩;have e1:=take_lf s 1 h2.2;have e2:=take_lf (lf s 1) (nmN s 1) h1.2;have e3:(txS s).size=nmN s 1:=tk_length (lf s 1) (nmN s 1) h1.2;rw[txtB,e3,num_taken s 1 h2.2,List.append_assoc];exact e1.trans (congrArg _ e2)
theorem rd_taken (k:Nat)(s:ByteArray)(fl:Bool)(h:rdF k s fl=false):fl=false/\s.data.toList=txtsB (rdT k s)++(rdS k s).data.toList:=by
 induction k generalizing s fl with
 | zero=>exact⟨h,rfl⟩
 | succ k ih=>
  rw[rdF_cons]at h;obtain⟨h1,h2⟩:=ih _ _ h;obtain⟨h3,h4⟩:=txt_taken s fl h1;refine⟨h3,?_⟩;rw[rdT_cons,rdS_cons];have e:txtsB (txS s::rdT k (txL s))=txtB (txS s)++txtsB (rdT k (txL s)):=by simp[txtsB]
  rw[e,List.append_assoc,<-h2];exact h4
theorem write_0 (s:ByteArray)(fl:Bool)(r:Wp.Rq)(bs:List ByteArray)(h:stF s fl 0=false):fl=false/\s.data.toList=encF (setR r s 0) (if 0=14 then rdT (nmN s 1) (lf s 1) else bs) 0++(stS s 0).data.toList:=by
 have h':=h;have hb:=bad_false h';have e:encF (setR r s 0) (if 0=14 then rdT (nmN s 1) (lf s 1) else bs) 0=[UInt8.ofNat (nmN s 1 % 256)]:=rfl;have e2:stS s 0=lf s 1:=rfl;rw[e,e2,byte_taken s hb.2];exact⟨hb.1,take_lf s 1 hb.2⟩
theorem write_1 (s:ByteArray)(fl:Bool)(r:Wp.Rq)(bs:List ByteArray)(h:stF s fl 1=false):fl=false/\s.data.toList=encF (setR r s 1) (if 1=14 then rdT (nmN s 1) (lf s 1) else bs) 1++(stS s 1).data.toList:=by
 have h':=h;have hb:=bad_false h';have e:encF (setR r s 1) (if 1=14 then rdT (nmN s 1) (lf s 1) else bs) 1=[UInt8.ofNat (nmN s 1 % 256)]:=rfl;have e2:stS s 1=lf s 1:=rfl;rw[e,e2,byte_taken s hb.2];exact⟨hb.1,take_lf s 1 hb.2⟩
theorem write_2 (s:ByteArray)(fl:Bool)(r:Wp.Rq)(bs:List ByteArray)(h:stF s fl 2=false):fl=false/\s.data.toList=encF (setR r s 2) (if 2=14 then rdT (nmN s 1) (lf s 1) else bs) 2++(stS s 2).data.toList:=by
 have h':=h;have hb:=bad_false h';have e:encF (setR r s 2) (if 2=14 then rdT (nmN s 1) (lf s 1) else bs) 2=lowB ((nmN s 2:Nat):Int).toNat 2:=rfl;have e2:stS s 2=lf s 2:=rfl;rw[e,e2,Int.toNat_natCast,num_taken s 2 hb.2];exact⟨hb.1,take_lf s 2 hb.2⟩
theorem write_3 (s:ByteArray)(fl:Bool)(r:Wp.Rq)(bs:List ByteArray)(h:stF s fl 3=false):fl=false/\s.data.toList=encF (setR r s 3) (if 3=14 then rdT (nmN s 1) (lf s 1) else bs) 3++(stS s 3).data.toList:=by
 have h':=h;have hb:=bad_false h';have e:encF (setR r s 3) (if 3=14 then rdT (nmN s 1) (lf s 1) else bs) 3=lowB ((nmN s 2:Nat):Int).toNat 2:=rfl;have e2:stS s 3=lf s 2:=rfl;rw[e,e2,Int.toNat_natCast,num_taken s 2 hb.2];exact⟨hb.1,take_lf s 2 hb.2⟩
theorem write_4 (s:ByteArray)(fl:Bool)(r:Wp.Rq)(bs:List ByteArray)(h:stF s fl 4=false):fl=false/\s.data.toList=encF (setR r s 4) (if 4=14 then rdT (nmN s 1) (lf s 1) else bs) 4++(stS s 4).data.toList:=by
 have h':=h;have hb:=bad_false h';have e:encF (setR r s 4) (if 4=14 then rdT (nmN s 1) (lf s 1) else bs) 4=lowB ((nmN s 1:Nat):Int).toNat 1:=rfl;have e2:stS s 4=lf s 1:=rfl;rw[e,e2,Int.toNat_natCast,num_taken s 1 hb.2];exact⟨hb.1,take_lf s 1 hb.2⟩
theorem write_5 (s:ByteArray)(fl:Bool)(r:Wp.Rq)(bs:List ByteArray)(h:stF s fl 5=false):fl=false/\s.data.toList=encF (setR r s 5) (if 5=14 then rdT (nmN s 1) (lf s 1) else bs) 5++(stS s 5).data.toList:=by
 have h':=h;have hb:=bad_false h';have e:encF (setR r s 5) (if 5=14 then rdT (nmN s 1) (lf s 1) else bs) 5=lowB ((nmN s 1:Nat):Int).toNat 1:=rfl;have e2:stS s 5=lf s 1:=rfl;rw[e,e2,Int.toNat_natCast,num_taken s 1 hb.2];exact⟨hb.1,take_lf s 1 hb.2⟩
theorem write_6 (s:ByteArray)(fl:Bool)(r:Wp.Rq)(bs:List ByteArray)(h:stF s fl 6=false):fl=false/\s.data.toList=encF (setR r s 6) (if 6=14 then rdT (nmN s 1) (lf s 1) else bs) 6++(stS s 6).data.toList:=by
 have h':=h;have hb:=bad_false h';have e:encF (setR r s 6) (if 6=14 then rdT (nmN s 1) (lf s 1) else bs) 6=lowB ((nmN s 1:Nat):Int).toNat 1:=rfl;have e2:stS s 6=lf s 1:=rfl;rw[e,e2,Int.toNat_natCast,num_taken s 1 hb.2];exact⟨hb.1,take_lf s 1 hb.2⟩
theorem write_7 (s:ByteArray)(fl:Bool)(r:Wp.Rq)(bs:List ByteArray)(h:stF s fl 7=false):fl=false/\s.data.toList=encF (setR r s 7) (if 7=14 then rdT (nmN s 1) (lf s 1) else bs) 7++(stS s 7).data.toList:=by
 have h':=h;have hb:=bad_false h';have e:encF (setR r s 7) (if 7=14 then rdT (nmN s 1) (lf s 1) else bs) 7=lowB ((nmN s 2:Nat):Int).toNat 2:=rfl;have e2:stS s 7=lf s 2:=rfl;rw[e,e2,Int.toNat_natCast,num_taken s 2 hb.2];exact⟨hb.1,take_lf s 2 hb.2⟩
theorem write_8 (s:ByteArray)(fl:Bool)(r:Wp.Rq)(bs:List ByteArray)(h:stF s fl 8=false):fl=false/\s.data.toList=encF (setR r s 8) (if 8=14 then rdT (nmN s 1) (lf s 1) else bs) 8++(stS s 8).data.toList:=by
 have h':=h;have hb:=bad_false h';have e:encF (setR r s 8) (if 8=14 then rdT (nmN s 1) (lf s 1) else bs) 8=lowB ((nmN s 2:Nat):Int).toNat 2:=rfl;have e2:stS s 8=lf s 2:=rfl;rw[e,e2,Int.toNat_natCast,num_taken s 2 hb.2];exact⟨hb.1,take_lf s 2 hb.2⟩
theorem write_9 (s:ByteArray)(fl:Bool)(r:Wp.Rq)(bs:List ByteArray)(h:stF s fl 9=false):fl=false/\s.data.toList=encF (setR r s 9) (if 9=14 then rdT (nmN s 1) (lf s 1) else bs) 9++(stS s 9).data.toList:=by
 have h':=h;have e:encF (setR r s 9) (if 9=14 then rdT (nmN s 1) (lf s 1) else bs) 9=txtB (txS s):=rfl;have e2:stS s 9=txL s:=rfl;rw[e,e2];exact txt_taken s fl h'
theorem write_10 (s:ByteArray)(fl:Bool)(r:Wp.Rq)(bs:List ByteArray)(h:stF s fl 10=false):fl=false/\s.data.toList=encF (setR r s 10) (if 10=14 then rdT (nmN s 1) (lf s 1) else bs) 10++(stS s 10).data.toList:=by
 have h':=h;have e:encF (setR r s 10) (if 10=14 then rdT (nmN s 1) (lf s 1) else bs) 10=txtB (txS s):=rfl;have e2:stS s 10=txL s:=rfl;rw[e,e2];exact txt_taken s fl h'
theorem write_11 (s:ByteArray)(fl:Bool)(r:Wp.Rq)(bs:List ByteArray)(h:stF s fl 11=false):fl=false/\s.data.toList=encF (setR r s 11) (if 11=14 then rdT (nmN s 1) (lf s 1) else bs) 11++(stS s 11).data.toList:=by
 have h':=h;have e:encF (setR r s 11) (if 11=14 then rdT (nmN s 1) (lf s 1) else bs) 11=txtB (txS s):=rfl;have e2:stS s 11=txL s:=rfl;rw[e,e2];exact txt_taken s fl h'
theorem write_12 (s:ByteArray)(fl:Bool)(r:Wp.Rq)(bs:List ByteArray)(h:stF s fl 12=false):fl=false/\s.data.toList=encF (setR r s 12) (if 12=14 then rdT (nmN s 1) (lf s 1) else bs) 12++(stS s 12).data.toList:=by
 have h':=h;have e:encF (setR r s 12) (if 12=14 then rdT (nmN s 1) (lf s 1) else bs) 12=txtB (txS s):=rfl;have e2:stS s 12=txL s:=rfl;rw[e,e2];exact txt_taken s fl h'
theorem write_13 (s:ByteArray)(fl:Bool)(r:Wp.Rq)(bs:List ByteArray)(h:stF s fl 13=false):fl=false/\s.data.toList=encF (setR r s 13) (if 13=14 then rdT (nmN s 1) (lf s 1) else bs) 13++(stS s 13).data.toList:=by
 have h':=h;have e:encF (setR r s 13) (if 13=14 then rdT (nmN s 1) (lf s 1) else bs) 13=txtB (txS s):=rfl;have e2:stS s 13=txL s:=rfl;rw[e,e2];exact txt_taken s fl h'
theorem write_14 (s:ByteArray)(fl:Bool)(r:Wp.Rq)(bs:List ByteArray)(h:stF s fl 14=false):fl=false/\s.data.toList=encF (setR r s 14) (if 14=14 then rdT (nmN s 1) (lf s 1) else bs) 14++(stS s 14).data.toList:=by
 have h':=h;have e:encF (setR r s 14) (if 14=14 then rdT (nmN s 1) (lf s 1) else bs) 14=lowB (rdT (nmN s 1) (lf s 1)).length 1++txtsB (rdT (nmN s 1) (lf s 1)):=rfl;have e2:stS s 14=rdS (nmN s 1) (lf s 1):=rfl;have ht:=rd_taken (nmN s 1) (lf s 1) (bad s fl 1) h';have hb:=bad_false ht.1;rw[e,e2,rdT_length,num_taken s 1 hb.2,List.append_assoc,<-ht.2];exact⟨hb.1,take_lf s 1 hb.2⟩
theorem write_read (s:ByteArray)(fl:Bool)(r:Wp.Rq)(bs:List ByteArray)(f:Nat)(hf:f<15)(h:stF s fl f=false):fl=false/\s.data.toList=encF (setR r s f) (if f=14 then rdT (nmN s 1) (lf s 1) else bs) f++(stS s f).data.toList:=by
 have hx:f=0\/f=1\/f=2\/f=3\/f=4\/f=5\/f=6\/f=7\/f=8\/f=9\/f=10\/f=11\/f=12\/f=13\/f=14:=by omega
 rcases hx with rfl|rfl|rfl|rfl|rfl|rfl|rfl|rfl|rfl|rfl|rfl|rfl|rfl|rfl|rfl
 ·exact write_0 s fl r bs h
 ·exact write_1 s fl r bs h
 ·exact write_2 s fl r bs h
 ·exact write_3 s fl r bs h
 ·exact write_4 s fl r bs h
 ·exact write_5 s fl r bs h
 ·exact write_6 s fl r bs h
 ·exact write_7 s fl r bs h
 ·exact write_8 s fl r bs h
 ·exact write_9 s fl r bs h
 ·exact write_10 s fl r bs h
 ·exact write_11 s fl r bs h
 ·exact write_12 s fl r bs h
 ·exact write_13 s fl r bs h
 ·exact write_14 s fl r bs h
theorem enc_set (r:Wp.Rq)(s:ByteArray)(bs:List ByteArray)(f g:Nat)(hf:f<15)(hg:g<15)(h:offOf g≠offOf f):encF (setR r s g) bs f=encF r bs f:=by
 have hx:f=0\/f=1\/f=2\/f=3\/f=4\/f=5\/f=6\/f=7\/f=8\/f=9\/f=10\/f=11\/f=12\/f=13\/f=14:=by omega
 have hy:g=0\/g=1\/g=2\/g=3\/g=4\/g=5\/g=6\/g=7\/g=8\/g=9\/g=10\/g=11\/g=12\/g=13\/g=14:=by omega
 rcases hx with rfl|rfl|rfl|rfl|rfl|rfl|rfl|rfl|rfl|rfl|rfl|rfl|rfl|rfl|rfl<;>
  rcases hy with rfl|rfl|rfl|rfl|rfl|rfl|rfl|rfl|rfl|rfl|rfl|rfl|rfl|rfl|rfl<;>
  first|rfl|exact absurd rfl h
theorem enc_keep (L:List Nat)(t:St)(bs:List ByteArray)(f:Nat)(hf:f<15)(hL:∀g∈L,g<15/\offOf g≠offOf f):encF (L.foldl stepSt t).r bs f=encF t.r bs f:=by
 induction L generalizing t with
 | nil=>rfl
 | cons g L ih=>
  have hg:=hL g List.mem_cons_self;rw[List.foldl_cons,ih _ (fun a ha=>hL a (List.mem_cons_of_mem _ ha))];exact enc_set t.r t.s bs f g hf hg.1 hg.2
theorem bs_keep (L:List Nat)(t:St)(h:14∉L):(L.foldl stepSt t).bs=t.bs:=by
 induction L generalizing t with
 | nil=>rfl
 | cons g L ih=>
  rw[List.foldl_cons,ih _ (fun ha=>h (List.mem_cons_of_mem _ ha))]
  show (if g=14 then _ else t.bs)=t.bs
  rw[if_neg (fun e=>h (by rw[e];exact List.mem_cons_self))]
theorem write_run (L:List Nat)(t:St)(hL:∀f∈L,f<15)(hd:L.Pairwise fun a b=>offOf a≠offOf b)(h:(L.foldl stepSt t).fl=false):
  t.fl=false/\t.s.data.toList=encL (L.foldl stepSt t).r (L.foldl stepSt t).bs L++(L.foldl stepSt t).s.data.toList:=by
 induction L generalizing t with
 | nil=>exact⟨h,rfl⟩
 | cons f L ih=>
  rw[List.pairwise_cons]at hd;have hf:=hL f List.mem_cons_self;rw[List.foldl_cons]at h ⊢;obtain⟨h1,h2⟩:=ih (stepSt t f) (fun g hg=>hL g (List.mem_cons_of_mem _ hg)) hd.2 h;have h3:=h1;obtain⟨h4,h5⟩:=write_read t.s t.fl t.r (L.foldl stepSt (stepSt t f)).bs f hf h3;refine⟨h4,?_⟩;have e:encL (L.foldl stepSt (stepSt t f)).r (L.foldl stepSt (stepSt t f)).bs (f::L)=encF (L.foldl stepSt (stepSt t f)).r (L.foldl stepSt (stepSt t f)).bs f++encL (L.foldl stepSt (stepSt t f)).r (L.foldl stepSt (stepSt t f)).bs L:=by simp[encL]
  have hk:=enc_keep L (stepSt t f) (L.foldl stepSt (stepSt t f)).bs f hf (fun g hg=>⟨hL g (List.mem_cons_of_mem _ hg),Ne.symm (hd.1 g hg)⟩);rw[e,List.append_assoc,<-h2,hk];rw[h5];congr 1
  by_cases h14:f=14
  ·subst h14;have hn:14∉L:=fun hm=>hd.1 14 hm rfl
   have hb:=bs_keep L (stepSt t 14) hn;rw[hb];rfl
  ·rw[if_neg h14];rfl
theorem lay_apart (i:Nat)(hi:i∈opsAt):(Wp.lay i).Pairwise fun a b=>offOf a≠offOf b:=by
 have h:∀i∈opsAt,(Wp.lay i).Pairwise fun a b=>offOf a≠offOf b:=by decide
 exact h i hi
theorem ite_op {c:Prop} [Decidable c] {a b:Wp.Rq}{o:UInt8}(ha:a.op=o)(hb:b.op=o):(if c then a else b).op=o:=by
 by_cases h:c
 ·rw[if_pos h];exact ha
 ·rw[if_neg h];exact hb
theorem op_keep (L:List Nat)(t:St):(L.foldl stepSt t).r.op=t.r.op:=by
 induction L generalizing t with
 | nil=>rfl
 | cons g L ih=>
  rw[List.foldl_cons,ih]
  show (setR t.r t.s g).op=t.r.op
  unfold setR
  repeat' (refine ite_op ?_ ?_)
  all_goals rfl
theorem good_bytes (s:ByteArray)(h:parseGood s=true):s=BA ((endSt s).r.op::encL (endSt s).r (endSt s).bs (Wp.lay ((endSt s).r.op.toNat-65)))/\(endSt s).r.op=opOf s/\rightW (endSt s).r ⟨none,(endSt s).bs.length,0⟩ (Wp.short (endSt s).bs)=true:=by
 unfold parseGood at h;simp only[Bool.and_eq_true]at h;obtain⟨h1,h2,h3,h4⟩:=h;obtain⟨i,hi,hop⟩:=(isOp_at _).1 h1;have hr:(endSt s).r.op=opOf s:=op_keep _ _;refine⟨?_,hr,h4⟩;rw[hr,hop,Nat.add_sub_cancel_left];have he:endSt s=runSt s (Wp.lay i):=by rw[endSt,hop,Nat.add_sub_cancel_left]
 have hfl:(endSt s).fl=false:=by simpa using h2
 have hem:=(empty_iff _).1 h3;rw[he]at hfl hem;obtain⟨h5,h6⟩:=write_run (Wp.lay i) ⟨opR (opOf s),lf s 1,bad s false 1,[]⟩ (lay_fields i hi) (lay_apart i hi) hfl;have hb:=bad_false (show bad s false 1=false from h5);apply ext_list;rw[BA_list,he];have e1:=take_lf s 1 hb.2;have e2:(tk s 1).data.toList=[opOf s]:=(byte_taken s hb.2).symm;have e3:(lf s 1).data.toList=encL (runSt s (Wp.lay i)).r (runSt s (Wp.lay i)).bs (Wp.lay i)++(runSt s (Wp.lay i)).s.data.toList:=h6;rw[e1,e2,e3,hem];simp
theorem i64_nat (n:Nat)(h:n<65536):i64 (n:Int):=by unfold i64;omega
theorem set_wf (r:Wp.Rq)(s:ByteArray)(f:Nat)(h:Wf r):Wf (setR r s f):=by
 have hz:i64 ((nmN s 1:Nat):Int):=i64_nat _ (by have:=nm1 s;omega);have hy:i64 ((nmN s 2:Nat):Int):=i64_nat _ (nm2 s);obtain⟨h1,h2,h3,h4,h5,h6⟩:=h;unfold setR
 repeat' (refine ite_wf ?_ ?_)
 all_goals exact⟨by first|exact h1|exact hz|exact hy,by first|exact h2|exact hz|exact hy,by first|exact h3|exact hz|exact hy,by first|exact h4|exact hz|exact hy,by first|exact h5|exact hz|exact hy,by first|exact h6|exact hz|exact hy⟩
theorem run_wf (L:List Nat)(t:St)(h:Wf t.r):Wf (L.foldl stepSt t).r:=by
 induction L generalizing t with
 | nil=>exact h
 | cons f L ih=>exact ih _ (set_wf _ _ _ h)
theorem end_wf (s:ByteArray):Wf (endSt s).r:=by
 have hz:i64 0:=by unfold i64;omega
 exact run_wf _ _ ⟨hz,hz,hz,hz,hz,hz⟩
theorem print_bytes (r:Wp.Rq)(x:Sl)(bs:List ByteArray)(h:rightW r x (Wp.short bs)=true):printS r x bs=BA (r.op::encL r bs (Wp.lay (r.op.toNat-65))++[])/\printE r x bs=0:=by
 rw[List.append_nil];exact⟨by rw[printS,if_pos h];rfl,by rw[printE,if_pos h]⟩
theorem print_good (r:Wp.Rq)(x:Sl)(bs:List ByteArray)(hw:Wf r)(hxn:x.n=bs.length)(h:rightW r x (Wp.short bs)=true):
  parseGood (printS r x bs)=true/\(endSt (printS r x bs)).r=r/\(endSt (printS r x bs)).bs=bs:=by
 rw[(print_bytes r x bs h).1];refine⟨good_enc r x bs [] hw hxn h,?_,?_⟩
 ·rw[(end_enc r x bs [] hw hxn h).1]
 ·rw[(end_enc r x bs [] hw hxn h).1]
theorem print_of_good (s:ByteArray)(x:Sl)(hg:parseGood s=true)(hxn:x.n=(endSt s).bs.length):printS (endSt s).r x (endSt s).bs=s/\printE (endSt s).r x (endSt s).bs=0:=by
 obtain⟨h1,h2,h3⟩:=good_bytes s hg;have h4:rightW (endSt s).r x (Wp.short (endSt s).bs)=true:=by rw[rightW_n _ x ⟨none,(endSt s).bs.length,0⟩ _ hxn];exact h3
 have h5:=print_bytes (endSt s).r x (endSt s).bs h4;rw[List.append_nil,<-h1]at h5;exact h5
end Go.Proofs.YtbdobaapadlcjabGreatDoor
namespace Go.Proofs.YtbdobaapadlcjabGreatDoor
open Go.RowKit
variable {B x st:Nat}{w w':World}{o:Option ByteArray}{room:Int}{col:Nat->Nat}
theorem func_nil2 (fn:Fn)(f c:Array Value)(W:World):(binOp .eql 1 (.func fn f c) .nilFunc).run Tryz.prog W=.ok (.bool false) W:=by kernel_rfl
theorem nil_nil2 (W:World):(binOp .eql 1 .nilFunc .nilFunc).run Tryz.prog W=.ok (.bool true) W:=by kernel_rfl
theorem nil_nil1 (W:World):(binOp .neq 1 .nilFunc .nilFunc).run Tryz.prog W=.ok (.bool false) W:=by kernel_rfl
def laidIn (w:World)(C:Array Value):World:=(w.alloc (.cells (cellsOf (opR 0) (Sl.v ⟨none,0,0⟩)) 24)).setRow w.heap.size C
theorem laidIn_heap (w:World)(C:Array Value):(laidIn w C).heap[w.heap.size]?=some (.cells C 24 (0,0)):=setRow_heap _ _ _ _ 24 (0,0) (heap_alloc_new _ _)
theorem laidIn_tch (w:World)(C:Array Value):Tch [] w (laidIn w C):=((Tch.refl _ _).alloc _).setRow (fun h=>absurd h (Nat.lt_irrefl _)) _
theorem laidIn_is (w:World)(C:Array Value):(w.alloc (.cells #[.int .u8 0,.int .u8 0,.int .u8 0,.int .i64 0,.int .i64 0,.int .i64 0,.int .i64 0,.int .i64 0,.int .i64 0,.string ⟨#[]⟩,.string ⟨#[]⟩,.string ⟨#[]⟩,.string ⟨#[]⟩,.string ⟨#[]⟩,.slice none 0 0] 24)).setRow w.heap.size C=laidIn w C:=rfl
structure JgP (B:Nat)(w:World)(x st j d:Nat)(v:Value)(o:Option ByteArray)(room:Int)(n k:Nat)(col:Nat->Nat):Prop where
 hx:w.heap[x]?=some (.cells #[.pointer (some ⟨st,0,none⟩),.pointer (some ⟨j,0,none⟩)] 60 (0,0))
 jr:Jr w j d room v (fileO o) n k
 lo:∀b∈jbl j d v,B<=b
 bd:(0<room->((datO o).size:Int)+room<=217000)/\(datO o).size<=310000/\-100000<=room/\room<=16384
 cj:∀b∈jbl j d v,col b≠9
 dc:col 0=d+10
def Jg (B:Nat)(w:World)(x st:Nat)(o:Option ByteArray)(room:Int)(col:Nat->Nat):Prop:=∃j d v n k,JgP B w x st j d v o room n k col
def JgO (B:Nat)(w0:World)(col:Nat->Nat)(w:World)(x st:Nat)(o:Option ByteArray)(room:Int):Prop:=Jg B w x st o room col/\∀k:Nat,k<w0.heap.size->col k=9->w.heap[k]?=w0.heap[k]?
theorem JgP.lt {j d:Nat}{v:Value}{n k:Nat}(h:JgP B w x st j d v o room n k col):∀b∈jbl j d v,b<w.heap.size:=fun b hb=>by
 rcases List.mem_cons.1 hb with e|e
 ·rw[e];exact lt_of_block h.jr.hj
 ·rcases List.mem_cons.1 e with e|e
  ·rw[e];exact lt_of_block h.jr.dsk.blk
  ·exact own_lt h.jr.dsk.own (by simpa [Option.mem_toList]using e)
theorem Jg.recol {col':Nat->Nat}(h:Jg B w x st o room col)(ha:∀k,k<w.heap.size->col' k=9->col k=9)(h0:0<w.heap.size->col' 0=col 0):Jg B w x st o room col':=by
 obtain⟨j,d,v,n,k,h⟩:=h;exact⟨j,d,v,n,k,h.hx,h.jr,h.lo,h.bd,fun b hb e=>h.cj b hb (ha b (h.lt b hb) e),(h0 (by have:=lt_of_block h.hx;omega)).trans h.dc⟩
theorem Jg.fr (h:Jg B w x st o room col){T:List TypeId}(ht:Fr B T w w')(h1:60∉T)(h2:85∉T)(h3:77∉T)(h4:79∉T):Jg B w' x st o room col:=by
 obtain⟨j,d,v,n,k,h⟩:=h;exact⟨j,d,v,n,k,ht.keep _ _ _ h.hx h1,⟨ht.keep _ _ _ h.jr.hj h2,⟨ht.keep _ _ _ h.jr.dsk.blk h3,ht.own h.jr.dsk.own h4,h.jr.dsk.sep⟩,h.jr.gd⟩,h.lo,h.bd,h.cj,h.dc⟩
theorem Jg.tch (h:Jg B w x st o room col)(ht:Tch [] w w'):Jg B w' x st o room col:=by
 obtain⟨j,d,v,n,k,h⟩:=h;exact⟨j,d,v,n,k,(ht.block _ (lt_of_block h.hx) (by simp)).trans h.hx,h.jr.tch ht (by simp),h.lo,h.bd,h.cj,h.dc⟩
theorem dat_app (a b:ByteArray):(a++b).size=a.size+b.size:=by simp
theorem rec_sz (l:List UInt8):(⟨l.toArray⟩:ByteArray).size=l.length:=by show l.toArray.size=_;simp
theorem layO_bd (o:Option ByteArray)(room:Int)(rec:List UInt8)(t:ByteArray)(h:(0<room->((datO o).size:Int)+room<=217000)/\(datO o).size<=310000/\-100000<=room/\room<=16384)(hp:0<rec.length)(hl:rec.length<=100000)(ht:t.size<=200000):
  (0<(layO o room rec t).2->((datO (some (layO o room rec t).1)).size:Int)+(layO o room rec t).2<=217000)/\(datO (some (layO o room rec t).1)).size<=310000/\-100000<=(layO o room rec t).2/\(layO o room rec t).2<=16384:=by
 by_cases hc:(rec.length:Int)<=room
 ·have e:layO o room rec t=(datO o++(⟨rec.toArray⟩:ByteArray),(room-rec.length:Int)):=if_pos hc;rw[e];have e2:(datO (some (datO o++(⟨rec.toArray⟩:ByteArray)))).size=(datO o).size+rec.length:=by
   show (datO o++(⟨rec.toArray⟩:ByteArray)).size=_
   rw[dat_app,rec_sz rec]
  simp only[e2];omega
 ·have e:layO o room rec t=((⟨(recB t).toArray⟩:ByteArray)++(⟨rec.toArray⟩:ByteArray),(16384-rec.length:Int)):=if_neg hc;rw[e];have e2:(datO (some ((⟨(recB t).toArray⟩:ByteArray)++(⟨rec.toArray⟩:ByteArray)))).size=8+t.size+rec.length:=by
   show ((⟨(recB t).toArray⟩:ByteArray)++(⟨rec.toArray⟩:ByteArray)).size=_
   rw[dat_app,rec_sz (recB t),rec_sz rec,recB_length]
  simp only[e2];omega
def PlG (B:Nat)(N:Prop)(J:World->Prop)(K:ByteArray->World->Prop)(e:Ending)(w1:World):Prop:=
 ∃t,(e=.returned (.tuple #[.string t,.nilFunc])/\N/\∀w2,Tch [] w1 w2->K t w2)\/
  ∃f cap,e=.returned (.tuple #[.string t,.func (.func f) #[] cap])/\(∀args w,(callFunc f args).run Tryz.prog w=.ok (.enter f args) w)/\∀w2 w3,Tch [] w1 w2->Fr B TJ w2 w3->J w3->Calls Tryz.prog f cap w3 fun e w'=>e=.returned (.tuple #[])/\K t w'
theorem PlG.mono {N:Prop}{J J':World->Prop}{K:ByteArray->World->Prop}{e:Ending}(h:PlG B N J K e w)(hj:∀w,J' w->J w):PlG B N J' K e w:=by
 obtain⟨t,h|⟨f,cap,h1,h2,h3⟩⟩:=h
 ·exact⟨t,.inl h⟩
 ·exact⟨t,.inr ⟨f,cap,h1,h2,fun w2 w3 a b c=>h3 w2 w3 a b (hj w3 c)⟩⟩
theorem PlG.shape {N:Prop}{J:World->Prop}{K:ByteArray->World->Prop}{e:Ending}(h:PlG B N J K e w):∃t chg,e=.returned (.tuple #[.string t,chg]):=by
 obtain⟨t,⟨h,_⟩|⟨f,cap,h,_⟩⟩:=h
 ·exact⟨_,_,h⟩
 ·exact⟨_,_,h⟩
theorem lay_g (B x st j d:Nat)(v:Value)(o:Option ByteArray)(room:Int)(n k base:Nat)(t:ByteArray)(rv:Value)(rec:List UInt8)(col:Nat->Nat)(w:World)(h:JgP B w x st j d v o room n k col)(hfu:∀k:Nat,w.heap.size<=k->col k≠9)(hBw:B<=w.heap.size)(h3:3<=B)(hT:Tab w)(ho:OwnB w base rv rec)(hpos:0<rec.length)(hrl:rec.length<=100000)(ht:t.size<=200000)
  (hW:∀W,Tch [j] w W->zT 25 #[.pointer (some ⟨st,0,none⟩)] W (.string t)):
  Calls Tryz.prog 24 #[.pointer (some ⟨j,0,none⟩),rv,.func (.func 25) #[.pointer (some ⟨st,0,none⟩)] #[]] w fun e w'=>e=.returned (.bool true)/\Fr B TJ w w'/\JgO B w col w' x st (some (layO o room rec t).1) (layO o room rec t).2:=by
 have hbd:=h.bd;refine(lay_x j d st room v o n k base t rv rec w h.jr ho hpos (by omega) (by omega) (by omega) (by omega) hT (by omega) (by have:=h.lo j (by simp[jbl]);omega) hW).mono ?_;rintro e w' ⟨rfl,v',n',k',hj',ht',hb'⟩;refine⟨rfl,h.jr.fr hBw h.lo ht',⟨j,d,v',n',k',?_,hj',fun b hb=>?_,layO_bd o room rec t hbd hpos hrl ht,fun b hb=>?_,h.dc⟩,fun q hq h9=>ht'.block q hq (fun hm=>h.cj q hm h9)⟩
 ·exact(ht'.block _ (lt_of_block h.hx) (h.jr.apart h.hx (by decide) (by decide) (by decide))).trans h.hx
 ·rcases List.mem_cons.1 hb with e|e
  ·rw[e];exact h.lo j (by simp[jbl])
  ·rcases List.mem_cons.1 e with e|e
   ·rw[e];exact h.lo d (by simp[jbl,Dk.bl])
   ·rcases hb' b (by simpa [Option.mem_toList]using e) with h1|h1
    ·exact h.lo b (by simp[jbl,Dk.bl,h1])
    ·omega
 ·rcases List.mem_cons.1 hb with e|e
  ·rw[e];exact h.cj j (by simp[jbl])
  ·rcases List.mem_cons.1 e with e|e
   ·rw[e];exact h.cj d (by simp[jbl,Dk.bl])
   ·rcases hb' b (by simpa [Option.mem_toList]using e) with h1|h1
    ·exact h.cj b (by simp[jbl,Dk.bl,h1])
    ·exact hfu b h1
def YS (w W:World)(y:Sl)(bs:List ByteArray):Prop:=y.n=bs.length/\FStrs w.heap.size W y.a bs
theorem YS.tch {W W':World}{y:Sl}{bs:List ByteArray}(h:YS w W y bs)(ht:Tch [] W W'):YS w W' y bs:=⟨h.1,fun j hj=>by
 obtain⟨b,o,ha,hb,hc⟩:=h.2 j hj;exact⟨b,o,ha,hb,(ht.cell (World.block_lt_of_cell? _ _ hc) (by simp)).trans hc⟩⟩
theorem parse_ys (B:Nat)(s:ByteArray)(r:Wp.Rq)(bs:List ByteArray)(w:World)(hs:s.size<=maxLen)(hL:Lays B w)(hBw:B<=w.heap.size)(hg:parseGood s=true)(hr:(endSt s).r=r)(hbs:(endSt s).bs=bs):
  Calls Tryz.prog 28 #[.string s] w fun e w'=>∃y:Sl,e=.returned (.tuple #[.agg (cellsOf r y.v),.int .i64 0])/\Below w.heap.size w w'/\YS w w' y bs:=by
 refine(parse_any B s w hs hL hBw).mono ?_;rintro e w' ⟨h|h,hb⟩
 ·obtain⟨_,y,he,hy⟩:=h;exact⟨y,by rw[he,hr],hb,by rw[<-hbs];exact hy⟩
 ·rw[hg]at h;exact absurd h.1 (by decide)
theorem bdo_g {N:Prop}(K:ByteArray->World->Prop)(B:Nat)(o:Option ByteArray)(room:Int)(tw:ByteArray)(s:ByteArray)(r:Wp.Rq)(x st:Nat)(Cst:Array Value)(col:Nat->Nat)(w:World)(hfu:∀k:Nat,w.heap.size<=k->col k≠9)(hs:s.size<=90000)(hL:Lays B w)(hT:Tab w)(hBw:B<=w.heap.size)(h3:3<=B)(hg:parseGood s=true)(hr:(endSt s).r=r)
  (hJ:Jg B w x st o room col)(htw:tw.size<=200000)(hst:w.heap[st]?=some (.cells Cst 94 (0,0)))
  (hW:∀W,Fr B TJ w W->zT 25 #[.pointer (some ⟨st,0,none⟩)] W (.string tw))
  (bs:List ByteArray)(hbs:(endSt s).bs=bs)(hP:∀(W:World) (y:Sl),Tch [] w W->YS w W y bs->Calls Tryz.prog 30 #[.pointer (some ⟨st,0,none⟩),.agg (cellsOf r y.v)] W fun e w'=>Tch [] W w'/\PlG B N (fun w'=>JgO B w col w' x st (some (layO o room (recB s) tw).1) (layO o room (recB s) tw).2) K e w'):
  Calls Tryz.prog 11 #[.pointer (some ⟨x,0,none⟩),.string s] w fun e w'=>∃t,e=.returned (.string t)/\K t w':=by
 obtain⟨j,d,v,n,k,hJp⟩:=hJ;have hj143:=hJp.jr.hj;obtain⟨JJ,HJJ⟩:∃JJ:World->Prop,Hid (JJ=fun w'=>JgO B w col w' x st (some (layO o room (recB s) tw).1) (layO o room (recB s) tw).2):=⟨_,rfl⟩;rw[<-HJJ.out]at hP;have hx:=hJp.hx;have hltx:=lt_of_block hx;have hltj:=lt_of_block hJp.jr.hj;have hjst:st≠j:=fun e=>by
  have h1:=hJp.jr.hj;rw[<-e,hst]at h1;simp at h1
 have a0:w.cell? ⟨x,0,none⟩=some (.pointer (some ⟨st,0,none⟩)):=(cell_of_row w x 0 _ 60 (0,0) hx).trans rfl;have a1:w.cell? ⟨x,1,none⟩=some (.pointer (some ⟨j,0,none⟩)):=(cell_of_row w x 1 _ 60 (0,0) hx).trans rfl;have aj:=hJp.jr.c2;have HLAY:Hid (∀W rv,Tch [] w W->OwnB W w.heap.size rv (recB s)->Calls Tryz.prog 24 #[.pointer (some ⟨j,0,none⟩),rv,.func (.func 25) #[.pointer (some ⟨st,0,none⟩)] #[]] W fun e w'=>e=.returned (.bool true)/\Fr B TJ W w'/\JJ w'):=fun W rv ht ho=>by
  rw[HJJ.out];refine(lay_g B x st j d v o room n k w.heap.size tw rv (recB s) col W ⟨(ht.block _ hltx (by simp)).trans hx,hJp.jr.tch ht (by simp),hJp.lo,hJp.bd,hJp.cj,hJp.dc⟩ (fun k hk=>hfu k (Nat.le_trans ht.size hk)) (Nat.le_trans hBw ht.size) h3 (hT.below (B:=3) (ht.below (by simp) (by omega)) (by decide)) ho (by rw[recB_length];omega) (by rw[recB_length];omega) htw ?_).mono (fun e w' he=>⟨he.1,he.2.1,he.2.2.1,fun k hk h9=>(he.2.2.2 k (Nat.lt_of_lt_of_le hk ht.size) h9).trans (ht.block k hk (by simp))⟩);intro W2 ht2;refine hW W2 (Fr.of_tch ((ht.sub (by simp)).trans ht2 (fun _ h _=>h):Tch [j] w W2) hBw (fun k hk=>?_) (fun k hk C t hC=>?_))
  ·simp at hk;subst hk;exact hJp.lo k (by simp[jbl])
  ·simp at hk;subst hk;rw[hj143]at hC;simp at hC;rw[<-hC.2];decide
 have HREC:Hid (∀W,Tch [] w W->Calls Tryz.prog 31 #[.slice none 0 0,.string s] W fun e w'=>∃rv,e=.returned rv/\OwnB w' w.heap.size rv (recB s)/\Tch [] W w'):=fun W ht=>by
  refine(record_any s W (by omega) (hT.below (B:=3) (ht.below (by simp) (by omega)) (by decide)) (by have:=ht.size;omega)).mono ?_;rintro e w' ⟨rv,rfl,ho,hb⟩;exact⟨rv,rfl,⟨ho.1,by
   rcases ho.2 with h|⟨g,cap,cur,rfl,hb',rest⟩
   ·exact .inl h
   ·exact .inr ⟨g,cap,cur,rfl,Nat.le_trans ht.size hb',rest⟩⟩,Tch.of_below hb⟩
 have HD:=zH hP;have hfn:=func_nil2;have hnn:=nil_nil2;have HXB:=zH hx;clear hx hP hJp hW hst hj143 hfu;go_enter Tryz.func11,Tryz.ntmps11;go_wp2_with (go_at_call 27;go_in);refine(parse_ys B s r bs _ (by unfold maxLen;omega) hL hBw hg hr hbs).mono ?_;rintro e w1 ⟨y,rfl,hb,hys⟩;have cx:=(hb.cell (p:=⟨x,0,none⟩) hltx).trans a0;have cx1:=(hb.cell (p:=⟨x,1,none⟩) hltx).trans a1;have HBL:=zH hb;have HYS:=zH hys;have HXL:Hid ((laidIn w1 (cellsOf r y.v)).heap[w1.heap.size]?=some (.cells (cellsOf r y.v) 24 (0,0))):=laidIn_heap _ _;have HTL:Hid (Tch [] w1 (laidIn w1 (cellsOf r y.v))):=laidIn_tch _ _;have cx2:(laidIn w1 (cellsOf r y.v)).cell? ⟨x,0,none⟩=some (.pointer (some ⟨st,0,none⟩)):=((laidIn_tch _ _).cell (World.block_lt_of_cell? _ _ cx) (by simp)).trans cx;have cx3:(laidIn w1 (cellsOf r y.v)).cell? ⟨x,1,none⟩=some (.pointer (some ⟨j,0,none⟩)):=((laidIn_tch _ _).cell (World.block_lt_of_cell? _ _ cx1) (by simp)).trans cx1;obtain⟨wl,hwl⟩:∃wl,wl=laidIn w1 (cellsOf r y.v):=⟨_,rfl⟩;rw[<-hwl]at HXL HTL cx2 cx3;have HWL:=zH hwl;clear hb hwl a0 a1 aj hys;go_wp2_with (first
  | (refine wpList_store_row rfl 24 _ _ rfl w1.heap.size (cellsOf r y.v) ?hx ?hy 24 ?old ?hg ?hi ?hs ?h1 ?k;(case hx=>rfl);(case hy=>rfl);(case hg=>exact heap_alloc_new _ _);(case hi=>exact info37);(case hs=>rfl);(case h1=>exact cells_one _ _);rw[laidIn_is,<-HWL.out]))
 have hrow:=HXL.out;rw[zM r y]at hrow;have e0:wl.cell? ⟨w1.heap.size,0,none⟩=some (.int .u8 (r.op.toNat:Int)):=by simp[World.cell?,hrow]
 have e1:wl.cell? ⟨w1.heap.size,1,none⟩=some (.int .u8 (r.q.toNat:Int)):=by simp[World.cell?,hrow]
 have e2:wl.cell? ⟨w1.heap.size,2,none⟩=some (.int .u8 (r.d.toNat:Int)):=by simp[World.cell?,hrow]
 have e3:wl.cell? ⟨w1.heap.size,3,none⟩=some (.int .i64 r.vis):=by simp[World.cell?,hrow]
 have e4:wl.cell? ⟨w1.heap.size,4,none⟩=some (.int .i64 r.win):=by simp[World.cell?,hrow]
 have e5:wl.cell? ⟨w1.heap.size,5,none⟩=some (.int .i64 r.rcv):=by simp[World.cell?,hrow]
 have e6:wl.cell? ⟨w1.heap.size,6,none⟩=some (.int .i64 r.quo):=by simp[World.cell?,hrow]
 have e7:wl.cell? ⟨w1.heap.size,7,none⟩=some (.int .i64 r.mx):=by simp[World.cell?,hrow]
 have e8:wl.cell? ⟨w1.heap.size,8,none⟩=some (.int .i64 r.tic):=by simp[World.cell?,hrow]
 have e9:wl.cell? ⟨w1.heap.size,9,none⟩=some (.string r.grp):=by simp[World.cell?,hrow]
 have e10:wl.cell? ⟨w1.heap.size,10,none⟩=some (.string r.ded):=by simp[World.cell?,hrow]
 have e11:wl.cell? ⟨w1.heap.size,11,none⟩=some (.string r.bod):=by simp[World.cell?,hrow]
 have e12:wl.cell? ⟨w1.heap.size,12,none⟩=some (.string r.att):=by simp[World.cell?,hrow]
 have e13:wl.cell? ⟨w1.heap.size,13,none⟩=some (.string r.han):=by simp[World.cell?,hrow]
 have e14:wl.cell? ⟨w1.heap.size,14,none⟩=some (.slice y.a y.n y.c):=by simp[World.cell?,hrow]
 have hlL:w1.heap.size<wl.heap.size:=lt_of_block HXL.out;have hlX:x<wl.heap.size:=World.block_lt_of_cell? _ _ cx2;have HX1:=zH cx3;have HTW:=zH ((Tch.of_below HBL.out).trans HTL.out (by simp));have HPL:Hid (∀n,Calls Tryz.prog 30 #[.pointer (some ⟨st,0,none⟩),.agg (cellsOf r y.v)] (wl.drewN n) fun e w'=>Tch [] (wl.drewN n) w'/\PlG B N JJ K e w'):=fun n=>HD.out (wl.drewN n) y (HTW.out.drewN n) (HYS.out.tch (HTL.out.drewN n))
 rw[zM r y]at HPL;have HPL1:=zH (HPL.out 1);clear hrow cx3
 go_region_held3 (fun w'=>w'.cell? ⟨w1.heap.size,0,none⟩=some (.int .u8 (r.op.toNat:Int))/\w'.cell? ⟨w1.heap.size,1,none⟩=some (.int .u8 (r.q.toNat:Int))/\w'.cell? ⟨w1.heap.size,2,none⟩=some (.int .u8 (r.d.toNat:Int))/\w'.cell? ⟨w1.heap.size,3,none⟩=some (.int .i64 r.vis)/\w'.cell? ⟨w1.heap.size,4,none⟩=some (.int .i64 r.win)/\w'.cell? ⟨w1.heap.size,5,none⟩=some (.int .i64 r.rcv)/\w'.cell? ⟨w1.heap.size,6,none⟩=some (.int .i64 r.quo)/\w'.cell? ⟨w1.heap.size,7,none⟩=some (.int .i64 r.mx)/\w'.cell? ⟨w1.heap.size,8,none⟩=some (.int .i64 r.tic)/\w'.cell? ⟨w1.heap.size,9,none⟩=some (.string r.grp)/\w'.cell? ⟨w1.heap.size,10,none⟩=some (.string r.ded)/\w'.cell? ⟨w1.heap.size,11,none⟩=some (.string r.bod)/\w'.cell? ⟨w1.heap.size,12,none⟩=some (.string r.att)/\w'.cell? ⟨w1.heap.size,13,none⟩=some (.string r.han)/\w'.cell? ⟨w1.heap.size,14,none⟩=some (.slice y.a y.n y.c)/\w'.cell? ⟨x,0,none⟩=some (.pointer (some ⟨st,0,none⟩))) (go_keep) (first|(go_at_call 30;refine HPL1.out.mono ?_;rintro e w2 ⟨ht,hpl⟩;obtain⟨t,chg,rfl⟩:=hpl.shape;have k0:=(ht.cell (a:=⟨w1.heap.size,0,none⟩) hlL (by simp)).trans e0;have k1:=(ht.cell (a:=⟨w1.heap.size,1,none⟩) hlL (by simp)).trans e1;have k2:=(ht.cell (a:=⟨w1.heap.size,2,none⟩) hlL (by simp)).trans e2;have k3:=(ht.cell (a:=⟨w1.heap.size,3,none⟩) hlL (by simp)).trans e3;have k4:=(ht.cell (a:=⟨w1.heap.size,4,none⟩) hlL (by simp)).trans e4;have k5:=(ht.cell (a:=⟨w1.heap.size,5,none⟩) hlL (by simp)).trans e5;have k6:=(ht.cell (a:=⟨w1.heap.size,6,none⟩) hlL (by simp)).trans e6;have k7:=(ht.cell (a:=⟨w1.heap.size,7,none⟩) hlL (by simp)).trans e7;have k8:=(ht.cell (a:=⟨w1.heap.size,8,none⟩) hlL (by simp)).trans e8;have k9:=(ht.cell (a:=⟨w1.heap.size,9,none⟩) hlL (by simp)).trans e9;have k10:=(ht.cell (a:=⟨w1.heap.size,10,none⟩) hlL (by simp)).trans e10;have k11:=(ht.cell (a:=⟨w1.heap.size,11,none⟩) hlL (by simp)).trans e11;have k12:=(ht.cell (a:=⟨w1.heap.size,12,none⟩) hlL (by simp)).trans e12;have k13:=(ht.cell (a:=⟨w1.heap.size,13,none⟩) hlL (by simp)).trans e13;have k14:=(ht.cell (a:=⟨w1.heap.size,14,none⟩) hlL (by simp)).trans e14;have kx:=(ht.cell (a:=⟨x,0,none⟩) hlX (by simp)).trans cx2))
 have kx1:=(ht.cell (a:=⟨x,1,none⟩) hlX (by simp)).trans HX1.out;have HT2:=zH ((HTW.out.drew).trans ht (by simp));have hlX2:x<w2.heap.size:=World.block_lt_of_cell? _ _ kx;clear ht cx2 cx cx1 e0 k0 e1 k1 e2 k2 e3 k3 e4 k4 e5 k5 e6 k6 e7 k7 e8 k8 e9 k9 e10 k10 e11 k11 e12 k12 e13 k13 e14 k14;obtain⟨t',⟨he,_,hk⟩|⟨f,cap,he,eg,hc⟩⟩:=hpl
 ·simp only[Ending.returned.injEq,Value.tuple.injEq,Array.mk.injEq,List.cons.injEq,Value.string.injEq,and_true]at he;obtain⟨rfl,rfl⟩:=he;go_wp2_with fail;go_ret;exact⟨_,rfl,hk _ (Tch.refl _ _)⟩
 ·simp only[Ending.returned.injEq,Value.tuple.injEq,Array.mk.injEq,List.cons.injEq,Value.string.injEq,and_true]at he;obtain⟨rfl,rfl⟩:=he;have HC:=zH hc;clear hc;go_wp2_with fail
  go_region_held3 (fun w'=>w'.cell? ⟨x,0,none⟩=some (.pointer (some ⟨st,0,none⟩))/\w'.cell? ⟨x,1,none⟩=some (.pointer (some ⟨j,0,none⟩))) (go_keep) (first|(go_at_call 31;refine(HREC.out _ HT2.out.drew).mono ?_;rintro e w3 ⟨rv,rfl,ho,ht3⟩;have m0:=(ht3.cell (a:=⟨x,0,none⟩) hlX2 (by simp)).trans kx;have m1:=(ht3.cell (a:=⟨x,1,none⟩) hlX2 (by simp)).trans kx1;have HT3:Hid (Tch [] w w3/\Tch [] w2 w3/\OwnB w3 w.heap.size rv (recB s)):=⟨HT2.out.drew.trans ht3 (by simp),(Tch.refl [] w2).drew.trans ht3 (by simp),ho⟩;clear ho ht3)|(go_at_call 24;refine(HLAY.out _ _ HT3.out.1 HT3.out.2.2).mono ?_;rintro e w4 ⟨rfl,hfr,hjn⟩;have hb4:=hfr.keep x _ 60 ((HT3.out.1.block x hltx (by simp)).trans HXB.out) (by decide);have n0:w4.cell? ⟨x,0,none⟩=some (.pointer (some ⟨st,0,none⟩)):=(cell_of_row w4 x 0 _ 60 (0,0) hb4).trans rfl;have n1:w4.cell? ⟨x,1,none⟩=some (.pointer (some ⟨j,0,none⟩)):=(cell_of_row w4 x 1 _ 60 (0,0) hb4).trans rfl;have HC4:Hid (Calls Tryz.prog f cap w4 fun e w'=>e=.returned (.tuple #[])/\K t w'):=HC.out w3 w4 HT3.out.2.1 hfr hjn;clear hfr hjn hb4))
  all_goals go_wp2_with (go_at_fn f;refine HC4.out.mono ?_;rintro e w5 ⟨rfl,hk⟩)
  all_goals go_ret
  all_goals exact⟨t,rfl,hk⟩
end Go.Proofs.YtbdobaapadlcjabGreatDoor
