import Derived.Test.YtbdobaapadlcjaaGreatDoorBy18
set_option maxRecDepth 100000
set_option maxHeartbeats 8000000
set_option linter.unusedVariables false
set_option linter.unusedSimpArgs false
namespace Go.Proofs.YtbdobaapadlcjaaGreatDoor.Ref
def ext (s:ByteArray)(p:Nat):ByteArray:=s.extract p s.size
theorem a1a (s:ByteArray)(p:Nat)(hp:p<=s.size):(ext s p).size=s.size-p:=by simp[ext]
theorem a0r (s:ByteArray)(p:Nat):(ext s p).data.toList=s.data.toList.drop p:=by
 rw[ext,Lib.extract_data];exact List.take_of_length_le (by simp)
theorem b4I (s:ByteArray)(p n:Nat)(h:p+n<=s.size):rt s p n=(s.data.toList.drop p).take n:=by
 have hl:s.data.toList.length=s.size:=rfl;apply List.ext_getElem
 ·rw[vP,List.length_take,List.length_drop];omega
 ·intro j h1 h2;rw[vP]at h1;rw[List.getElem_take,List.getElem_drop];simp only[rt,List.getElem_map,List.getElem_range,at0];rw[List.getD_eq_getElem?_getD,List.getElem?_eq_getElem (by omega)];rfl
theorem xW {s:ByteArray}{f:Bool}{n:Nat}(h:bad s f n=false):f=false/\n<=s.size:=by
 unfold bad at h
 split at h
 ·exact⟨h,by assumption⟩
 ·cases h
theorem a0U (s:ByteArray)(p n:Nat)(f:Bool)(hp:p<=s.size)(h:bad (ext s p) f n=false):f=false/\tk (ext s p) n=⟨(rt s p n).toArray⟩/\nmN (ext s p) n=rn s p n/\lf (ext s p) n=ext s (p+n)/\p+n<=s.size:=by
 obtain⟨h1,h2⟩:=xW h;rw[a1a s p hp]at h2;have hle:p+n<=s.size:=by omega
 have ht:tk (ext s p) n=⟨(rt s p n).toArray⟩:=by
  apply kI;rw[tk,if_pos (by rw[a1a s p hp];exact h2),Lib.extract_data,a0r,List.drop_zero,Nat.sub_zero,b4I s p n hle]
 refine⟨h1,ht,?_,?_,hle⟩
 ·rw[nmN,ht,rn]
 ·apply kI;rw[lf,if_pos (by rw[a1a s p hp];exact h2),Lib.extract_data,a0r,a0r,List.drop_drop];rw[List.take_of_length_le (by rw[List.length_drop,a1a s p hp];show s.data.toList.length-_<=_;have:s.data.toList.length=s.size:=rfl;omega)]
theorem b2u (s:ByteArray)(p:Nat)(f:Bool)(hp:p<=s.size)(h:txF (ext s p) f=false):f=false/\txS (ext s p)=rx s p/\txL (ext s p)=ext s (nx s p)/\nx s p<=s.size:=by
 unfold txF at h;have hb:=(xW h).1;obtain⟨h1,_,h3,h4,h5⟩:=a0U s p 1 f hp hb;rw[h3,h4]at h;obtain⟨_,g2,_,g4,g5⟩:=a0U s (p+1) (rn s p 1) _ h5 h;refine⟨h1,?_,?_,g5⟩
 ·rw[txS,h3,h4,g2];rfl
 ·rw[txL,h3,h4,g4];rfl
theorem a6d (k:Nat)(s:ByteArray)(f:Bool)(h:rdF (k+1) s f=false):rdF k s f=false:=by
 rw[rdF]at h;unfold txF at h;exact(xW (xW h).1).1
theorem b4z (s:ByteArray)(p k:Nat)(f:Bool)(hp:p<=s.size)(h:rdF k (ext s p) f=false):f=false/\rdT k (ext s p)=bt s k p/\rdS k (ext s p)=ext s (bp s k p)/\bp s k p<=s.size:=by
 induction k with
 | zero=>exact⟨h,rfl,rfl,hp⟩
 | succ k ih=>
  obtain⟨h1,h2,h3,h4⟩:=ih (a6d k _ f h);rw[rdF,h3]at h;obtain⟨_,g2,g3,g4⟩:=b2u s (bp s k p) _ h4 h;refine⟨h1,?_,?_,g4⟩
  ·rw[rdT,bt,h2,h3,g2]
  ·rw[rdS,bp,h3,g3]
theorem a4q (s:ByteArray)(p:Nat):UInt8.ofNat (rn s p 1 % 256)=at0 s p:=by
 have h:rn s p 1=(at0 s p).toNat:=by show leN [at0 s (p+0)]=_;simp[leN]
 rw[h,Nat.mod_eq_of_lt (at0 s p).toNat_lt];exact UInt8.toNat_inj.1 (by simp)
def a0k (r:Wp.Rq)(s:ByteArray)(p:Nat)(f:Nat):Wp.Rq:=
 if f=0 then {r with q:=at0 s p} else if f=1 then {r with d:=at0 s p} else if f=2 then {r with vis:=(rn s p 2:Nat)} else if f=3 then {r with win:=(rn s p 2:Nat)} else if f=4 then {r with rcv:=(rn s p 1:Nat)} else if f=5 then {r with quo:=(rn s p 1:Nat)} else if f=6 then {r with mx:=(rn s p 1:Nat)} else if f=7 then {r with tic:=(rn s p 2:Nat)} else if f=8 then {r with tic:=(rn s p 2:Nat)} else if f=9 then {r with grp:=rx s p} else if f=10 then {r with ded:=rx s p} else if f=11 then {r with bod:=rx s p} else if f=12 then {r with att:=rx s p} else if f=13 then {r with han:=rx s p} else r
def a1l (s:ByteArray)(p:Nat)(f:Nat):Nat:=if Wp.shape f=0 then p+1 else if Wp.shape f=1 then p+1 else if Wp.shape f=2 then p+2 else if Wp.shape f=3 then nx s p else bp s (rn s p 1) (p+1)
theorem b7L (f:Nat)(hf:f<15):(Wp.shape f=0/\f<2)\/(Wp.shape f=1/\(f=4\/f=5\/f=6))\/(Wp.shape f=2/\(f=2\/f=3\/f=7\/f=8))\/(Wp.shape f=3/\9<=f/\f<14)\/(Wp.shape f=4/\f=14):=by
 have:∀a:Fin 15,(Wp.shape a.val=0/\a.val<2)\/(Wp.shape a.val=1/\(a.val=4\/a.val=5\/a.val=6))\/(Wp.shape a.val=2/\(a.val=2\/a.val=3\/a.val=7\/a.val=8))\/(Wp.shape a.val=3/\9<=a.val/\a.val<14)\/(Wp.shape a.val=4/\a.val=14):=by decide
 exact this ⟨f,hf⟩
theorem b2r (k:Nat)(s:ByteArray)(f:Bool)(h:rdF k s f=false):f=false:=by
 induction k with
 | zero=>exact h
 | succ k ih=>exact ih (a6d k s f h)
theorem b7N (s:ByteArray)(fl:Bool)(f:Nat)(h:stF s fl f=false):fl=false:=by
 unfold stF at h
 split at h
 ·exact(xW h).1
 ·split at h
  ·exact(xW h).1
  ·split at h
   ·exact(xW h).1
   ·split at h
    ·unfold txF at h;exact(xW (xW h).1).1
    ·exact(xW (b2r _ _ _ h)).1
theorem b2R (L:List Nat)(t:St)(h:(L.foldl jE t).fl=false):t.fl=false:=by
 induction L generalizing t with
 | nil=>exact h
 | cons f L ih=>exact b7N _ _ _ (ih _ h)
theorem b3b (s:ByteArray)(t:St)(f:Nat)(hf:f<15)(p:Nat)(hp:p<=s.size)(hs:t.s=ext s p)(h:(jE t f).fl=false):
  (jE t f).r=a0k t.r s p f/\(jE t f).s=ext s (a1l s p f)/\a1l s p f<=s.size/\(jE t f).bs=(if f=14 then bt s (rn s p 1) (p+1) else t.bs):=by
 have h':stF t.s t.fl f=false:=h
 show kF t.r t.s f=_/\stS t.s f=_/\_/\(if f=14 then rdT (nmN t.s 1) (lf t.s 1) else t.bs)=_
 rw[hs]at h' ⊢;unfold stF at h';rcases b7L f hf with ⟨hsh,hr⟩|⟨hsh,hr⟩|⟨hsh,hr⟩|⟨hsh,hr⟩|⟨hsh,hr⟩
 ·rw[if_pos hsh]at h';obtain⟨_,_,h3,h4,h5⟩:=a0U s p 1 _ hp h';refine⟨?_,?_,?_,?_⟩
  ·have hx:f=0\/f=1:=by omega
   rcases hx with rfl|rfl
   ·simp[kF,a0k,h3,a4q]
   ·simp[kF,a0k,h3,a4q]
  ·rw[stS,if_pos hsh,a1l,if_pos hsh];exact h4
  ·rw[a1l,if_pos hsh];exact h5
  ·rw[if_neg (by omega),if_neg (by omega)]
 ·have n0:¬Wp.shape f=0:=by omega
  rw[if_neg n0,if_pos hsh]at h';obtain⟨_,_,h3,h4,h5⟩:=a0U s p 1 _ hp h';refine⟨?_,?_,?_,?_⟩
  ·rcases hr with rfl|rfl|rfl
   ·simp[kF,a0k,h3]
   ·simp[kF,a0k,h3]
   ·simp[kF,a0k,h3]
  ·rw[stS,if_neg n0,if_pos hsh,a1l,if_neg n0,if_pos hsh];exact h4
  ·rw[a1l,if_neg n0,if_pos hsh];exact h5
  ·rw[if_neg (by omega),if_neg (by omega)]
 ·have n0:¬Wp.shape f=0:=by omega
  have n1:¬Wp.shape f=1:=by omega
  rw[if_neg n0,if_neg n1,if_pos hsh]at h';obtain⟨_,_,h3,h4,h5⟩:=a0U s p 2 _ hp h';refine⟨?_,?_,?_,?_⟩
  ·rcases hr with rfl|rfl|rfl|rfl
   ·simp[kF,a0k,h3]
   ·simp[kF,a0k,h3]
   ·simp[kF,a0k,h3]
   ·simp[kF,a0k,h3]
  ·rw[stS,if_neg n0,if_neg n1,if_pos hsh,a1l,if_neg n0,if_neg n1,if_pos hsh];exact h4
  ·rw[a1l,if_neg n0,if_neg n1,if_pos hsh];exact h5
  ·rw[if_neg (by omega),if_neg (by omega)]
 ·have n0:¬Wp.shape f=0:=by omega
  have n1:¬Wp.shape f=1:=by omega
  have n2:¬Wp.shape f=2:=by omega
  rw[if_neg n0,if_neg n1,if_neg n2,if_pos hsh]at h';obtain⟨_,h3,h4,h5⟩:=b2u s p _ hp h';refine⟨?_,?_,?_,?_⟩
  ·have hx:f=9\/f=10\/f=11\/f=12\/f=13:=by omega
   rcases hx with rfl|rfl|rfl|rfl|rfl
   ·simp[kF,a0k,h3]
   ·simp[kF,a0k,h3]
   ·simp[kF,a0k,h3]
   ·simp[kF,a0k,h3]
   ·simp[kF,a0k,h3]
  ·rw[stS,if_neg n0,if_neg n1,if_neg n2,if_pos hsh,a1l,if_neg n0,if_neg n1,if_neg n2,if_pos hsh];exact h4
  ·rw[a1l,if_neg n0,if_neg n1,if_neg n2,if_pos hsh];exact h5
  ·rw[if_neg (by omega),if_neg (by omega)]
 ·obtain rfl:=hr;have n0:¬Wp.shape 14=0:=by decide
  have n1:¬Wp.shape 14=1:=by decide
  have n2:¬Wp.shape 14=2:=by decide
  have n3:¬Wp.shape 14=3:=by decide
  rw[if_neg n0,if_neg n1,if_neg n2,if_neg n3]at h';have hb:=b2r _ _ _ h';obtain⟨_,_,h3,h4,h5⟩:=a0U s p 1 _ hp hb;rw[h3,h4]at h';obtain⟨_,g2,g3,g4⟩:=b4z s (p+1) (rn s p 1) _ h5 h';refine⟨by simp[kF,a0k],?_,?_,?_⟩
  ·rw[stS,if_neg n0,if_neg n1,if_neg n2,if_neg n3,a1l,if_neg n0,if_neg n1,if_neg n2,if_neg n3,h3,h4];exact g3
  ·rw[a1l,if_neg n0,if_neg n1,if_neg n2,if_neg n3];exact g4
  ·rw[if_pos rfl,if_pos rfl,h3,h4];exact g2
def b2N (s:ByteArray):List Nat->Wp.Rq->Nat->List ByteArray->Wp.Rq×List ByteArray
 | [],r,_,bs=>(r,bs)
 | f::L,r,p,bs=>b2N s L (a0k r s p f) (a1l s p f) (if f=14 then bt s (rn s p 1) (p+1) else bs)
theorem b4L (s:ByteArray)(L:List Nat)(t:St)(p:Nat)(hL:∀f∈L,f<15)(hp:p<=s.size)(hs:t.s=ext s p)(h:(L.foldl jE t).fl=false):
  (L.foldl jE t).r=(b2N s L t.r p t.bs).1/\(L.foldl jE t).bs=(b2N s L t.r p t.bs).2:=by
 induction L generalizing t p with
 | nil=>exact⟨rfl,rfl⟩
 | cons f L ih=>
  obtain⟨h1,h2,h3,h4⟩:=b3b s t f (hL f List.mem_cons_self) p hp hs (b2R L _ h);have:=ih (jE t f) (a1l s p f) (fun g hg=>hL g (List.mem_cons_of_mem _ hg)) h3 h2 h;rw[h1,h4]at this;exact this
theorem vu (s:ByteArray)(hg:jk s=true):(jh s).r=(b2N s (Wp.lay ((at0 s 0).toNat-65)) (opR (at0 s 0)) 1 []).1/\(jh s).bs=(b2N s (Wp.lay ((at0 s 0).toNat-65)) (opR (at0 s 0)) 1 []).2/\Wp.isOp (at0 s 0)=true:=by
 unfold jk at hg;simp only[Bool.and_eq_true,Bool.not_eq_true']at hg;obtain⟨hop,hfl,_,_⟩:=hg;have h0:bad s false 1=false:=b2R _ _ hfl;have hs:s=ext s 0:=kI (by rw[a0r,List.drop_zero]);have h0':bad (ext s 0) false 1=false:=by rw[<-hs];exact h0
 obtain⟨_,_,h3,h4,h5⟩:=a0U s 0 1 false (Nat.zero_le _) h0';rw[<-hs]at h3 h4;have ho:vL s=at0 s 0:=by rw[vL,h3,a4q]
 have hlay:∀f∈Wp.lay ((vL s).toNat-65),f<15:=by
  obtain⟨i,hi,he⟩:=(a2p _).1 hop;rw[he,Nat.add_sub_cancel_left];exact a0S i hi
 have:=b4L s (Wp.lay ((vL s).toNat-65)) ⟨opR (vL s),lf s 1,bad s false 1,[]⟩ 1 hlay (by omega) h4 hfl;rw[ho]at this hop;exact⟨by rw[jh,kU,ho];exact this.1,by rw[jh,kU,ho];exact this.2,hop⟩
end Go.Proofs.YtbdobaapadlcjaaGreatDoor.Ref
namespace Go.Proofs.YtbdobaapadlcjaaGreatDoor.Ref
open Go.RowKit
theorem vF (n:Nat)(h:n<65536):i64 ((n:Nat):Int):=by unfold i64;omega
theorem qW:i64 0:=by unfold i64;omega
def b0i (s:ByteArray)(w:World)(e:Ending)(w':World):Prop:=
 ∃(r:Wp.Rq) (x:Sl) (bs:List ByteArray),e=.returned (.agg (ja r x.v))/\Wf r/\x.n=bs.length/\bs.length<=255/\(∀t∈bs,t.size<=255)/\FStrs w.heap.size w' x.a bs/\(jk s=true->r=(jh s).r/\bs=(jh s).bs)
theorem qD {s:ByteArray}{w w':World}{r:Wp.Rq}(hw:Wf r)(hr:jk s=true->(jh s).r=r/\(jh s).bs=[]):b0i s w (.returned (.agg (ja r nilS.v))) w':=
 ⟨r,nilS,[],rfl,hw,rfl,by decide,fun t ht=>absurd ht (by simp),fun j hj=>absurd hj (by simp),fun hg=>⟨(hr hg).1.symm,(hr hg).2.symm⟩⟩
theorem b0t (s:ByteArray)(k p:Nat):∀t∈bt s k p,t.size<=255:=by
 induction k with
 | zero=>intro t ht;exact absurd ht (by simp[bt])
 | succ k ih=>
  intro t ht;rw[bt,List.mem_append]at ht;rcases ht with ht|ht
  ·exact ih t ht
  ·rw[List.mem_singleton.1 ht];exact b4M _ _
theorem a5L (s:ByteArray)(w:World)(hs:s.size<=maxLen):
  Cp 101 #[.string s] w fun e w'=>b0i s w e w'/\Below w.heap.size w w':=by
 by_cases h67:(at0 s 0).toNat=67
 ·refine(a6Q s w hs h67).mono fun e w' ⟨he,hb⟩=>⟨?_,hb⟩
  rw[he];refine qD (by constructor<;>first|exact qW|exact vF _ (rn2 s _)|exact vF _ (Nat.lt_trans (rn1 s _) (by decide))) fun hg=>?_
  have ho:at0 s 0=67:=UInt8.toNat_inj.1 h67;have hr:=vu s hg;rw[ho]at hr;exact⟨hr.1,hr.2.1⟩
 by_cases h88:(at0 s 0).toNat=88
 ·refine(a6X s w hs h88).mono fun e w' ⟨he,hb⟩=>⟨?_,hb⟩
  rw[he];refine qD (by constructor<;>first|exact qW|exact vF _ (rn2 s _)|exact vF _ (Nat.lt_trans (rn1 s _) (by decide))) fun hg=>?_
  have ho:at0 s 0=88:=UInt8.toNat_inj.1 h88;have hr:=vu s hg;rw[ho]at hr;exact⟨hr.1,hr.2.1⟩
 by_cases h80:(at0 s 0).toNat=80
 ·refine(a6S s w hs h80).mono fun e w' ⟨he,hb⟩=>⟨?_,hb⟩
  rw[he];refine qD (by constructor<;>first|exact qW|exact vF _ (rn2 s _)|exact vF _ (Nat.lt_trans (rn1 s _) (by decide))) fun hg=>?_
  have ho:at0 s 0=80:=UInt8.toNat_inj.1 h80;have hr:=vu s hg;rw[ho]at hr;exact⟨hr.1,hr.2.1⟩
 by_cases h86:(at0 s 0).toNat=86
 ·refine(a6W s w hs h86).mono fun e w' ⟨he,hb⟩=>⟨?_,hb⟩
  rw[he];refine qD (by constructor<;>first|exact qW|exact vF _ (rn2 s _)|exact vF _ (Nat.lt_trans (rn1 s _) (by decide))) fun hg=>?_
  have ho:at0 s 0=86:=UInt8.toNat_inj.1 h86;have hr:=vu s hg;rw[ho]at hr;exact⟨hr.1,hr.2.1⟩
 by_cases h83:(at0 s 0).toNat=83
 ·refine(a6U s w hs h83).mono fun e w' ⟨he,hb⟩=>⟨?_,hb⟩
  rw[he];refine qD (by constructor<;>first|exact qW|exact vF _ (rn2 s _)|exact vF _ (Nat.lt_trans (rn1 s _) (by decide))) fun hg=>?_
  have ho:at0 s 0=83:=UInt8.toNat_inj.1 h83;have hr:=vu s hg;rw[ho]at hr;exact⟨hr.1,hr.2.1⟩
 by_cases h82:(at0 s 0).toNat=82
 ·refine(a6T s w hs h82).mono fun e w' ⟨he,hb⟩=>⟨?_,hb⟩
  rw[he];refine qD (by constructor<;>first|exact qW|exact vF _ (rn2 s _)|exact vF _ (Nat.lt_trans (rn1 s _) (by decide))) fun hg=>?_
  have ho:at0 s 0=82:=UInt8.toNat_inj.1 h82;have hr:=vu s hg;rw[ho]at hr;exact⟨hr.1,hr.2.1⟩
 by_cases h65:(at0 s 0).toNat=65
 ·refine(a6O s w hs h65).mono fun e w' ⟨he,hb⟩=>⟨?_,hb⟩
  rw[he];refine qD (by constructor<;>first|exact qW|exact vF _ (rn2 s _)|exact vF _ (Nat.lt_trans (rn1 s _) (by decide))) fun hg=>?_
  have ho:at0 s 0=65:=UInt8.toNat_inj.1 h65;have hr:=vu s hg;rw[ho]at hr;exact⟨hr.1,hr.2.1⟩
 by_cases h69:(at0 s 0).toNat=69
 ·refine(a6R s w hs h69).mono fun e w' ⟨he,hb⟩=>⟨?_,hb⟩
  rw[he];refine qD (by constructor<;>first|exact qW|exact vF _ (rn2 s _)|exact vF _ (Nat.lt_trans (rn1 s _) (by decide))) fun hg=>?_
  have ho:at0 s 0=69:=UInt8.toNat_inj.1 h69;have hr:=vu s hg;rw[ho]at hr;exact⟨hr.1,hr.2.1⟩
 by_cases h84:(at0 s 0).toNat=84
 ·refine(a6V s w hs h84).mono fun e w' ⟨he,hb⟩=>⟨?_,hb⟩
  rw[he];refine qD (by constructor<;>first|exact qW|exact vF _ (rn2 s _)|exact vF _ (Nat.lt_trans (rn1 s _) (by decide))) fun hg=>?_
  have ho:at0 s 0=84:=UInt8.toNat_inj.1 h84;have hr:=vu s hg;rw[ho]at hr;exact⟨hr.1,hr.2.1⟩
 by_cases h66:(at0 s 0).toNat=66
 ·refine(a6P s w hs h66).mono fun e w' ⟨⟨a,c,he,hf⟩,hb⟩=>⟨?_,hb⟩
  have ho:at0 s 0=66:=UInt8.toNat_inj.1 h66;refine⟨opR 66,⟨a,rn s 1 1,c⟩,bt s (rn s 1 1) 2,he,⟨qW,qW,qW,qW,qW,qW⟩,(a1s _ _ _).symm,?_,b0t _ _ _,hf,fun hg=>?_⟩
  ·rw[a1s];have:=rn1 s 1;omega
  ·have hr:=vu s hg;rw[ho]at hr;exact⟨hr.1.symm,hr.2.1.symm⟩
 ·refine(a4F s w hs _ rfl ⟨h67,h88,h80,h86,h83,h82,h65,h69,h84,h66⟩).mono fun e w' ⟨he,hb⟩=>⟨?_,hb⟩
  rw[he];refine qD ⟨qW,qW,qW,qW,qW,qW⟩ fun hg=>?_
  obtain⟨i,hi,hop⟩:=(a2p _).1 (vu s hg).2.2;simp only[qT,List.mem_cons,List.not_mem_nil,or_false]at hi;omega
def qV (a b:Wp.Rq):Bool:=
 (((a.op.toNat:Int) == b.op.toNat)&&((a.q.toNat:Int) == b.q.toNat)&&((a.d.toNat:Int) == b.d.toNat)&&(a.vis == b.vis)&&(a.win == b.win))&&
 ((a.rcv == b.rcv)&&(a.quo == b.quo)&&(a.mx == b.mx)&&(a.tic == b.tic))&&
 (a.grp.toList == b.grp.toList)&&(a.ded.toList == b.ded.toList)&&(a.bod.toList == b.bod.toList)&&(a.att.toList == b.att.toList)&&(a.han.toList == b.han.toList)
theorem a5h (r r2:Wp.Rq)(xa ya:Option Addr)(xc yc:Nat)(bs:List ByteArray)(w:World)(hb:bs.length<=8796093022208)(hX:Strs w xa bs)(hY:Strs w ya bs):
  zB 72 #[.agg (ja r (.slice xa bs.length xc)),.agg (ja r2 (.slice ya bs.length yc))] w (.bool (qV r r2)):=by
 have HX:=zH hX;have HY:=zH hY;clear hX hY;unfold ja;go_enter Tryz.func72,Tryz.ntmps72;go_wp2_with fail
 go_loopw [5] (fun v wr=>∃k:Nat,k<=bs.length/\v=.int .i64 k/\Below w.heap.size w wr/\Blk wr w.heap.size r ⟨xa,bs.length,xc⟩/\Blk wr (w.heap.size+1) r2 ⟨ya,bs.length,yc⟩) (fun v _=>bs.length-(intOf v).toNat)
 case atStart=>
  refine⟨0,Nat.zero_le _,rfl,((Below.refl _ _).alloc (Nat.le_refl _) _).alloc (by simp) _,?_,?_⟩
  ·unfold Blk;rw[heap_alloc2_old];rfl
  ·unfold Blk;rw[heap_alloc2_new];rfl
 case round=>
  obtain⟨k,hk,rfl,hbw,hb1,hb2⟩:=hrel;have HBW:=zH hbw;have HB1:=zH hb1;have HB2:=zH hb2;have h1:=hb1.box;have h2:=hb2.box
  by_cases hlt:k<bs.length
  ·obtain⟨g1,o1,rfl,hc1⟩:=HX.out k hlt;obtain⟨g2,o2,rfl,hc2⟩:=HY.out k hlt;have hg1:g1<w.heap.size:=World.block_lt_of_cell? _ _ hc1;have hg2:g2<w.heap.size:=World.block_lt_of_cell? _ _ hc2;have hd1:=(hbw.cell (p:=⟨g1,o1+k,none⟩) hg1).trans hc1;have hd2:=(hbw.cell (p:=⟨g2,o2+k,none⟩) hg2).trans hc2;have a14:wr.cell? ⟨w.heap.size,14,none⟩=some (.slice (some ⟨g1,o1,none⟩) bs.length xc):=h1 14 _ rfl;have b14:wr.cell? ⟨w.heap.size+1,14,none⟩=some (.slice (some ⟨g2,o2,none⟩) bs.length yc):=h2 14 _ rfl;have hltI:(k:Int)<(bs.length:Int):=by omega
   generalize bs[k]=S at hd1 hd2 hc1 hc2;clear hbw hb1 hb2 h1 h2 hc1 hc2;go_wp2_with fail;go_quiet (fail);go_wp2_with fail;go_roundw
   case rel=>exact⟨k+1,by omega,by go_num,below_drewN HBW.out _,HB1.out,HB2.out⟩
   case measure=>simp[intOf];omega
  ·have a0:wr.cell? ⟨w.heap.size,0,none⟩=some (.int .u8 (r.op.toNat:Int)):=h1 0 _ rfl;have b0:wr.cell? ⟨w.heap.size+1,0,none⟩=some (.int .u8 (r2.op.toNat:Int)):=h2 0 _ rfl;have a1:wr.cell? ⟨w.heap.size,1,none⟩=some (.int .u8 (r.q.toNat:Int)):=h1 1 _ rfl;have b1:wr.cell? ⟨w.heap.size+1,1,none⟩=some (.int .u8 (r2.q.toNat:Int)):=h2 1 _ rfl;have a2:wr.cell? ⟨w.heap.size,2,none⟩=some (.int .u8 (r.d.toNat:Int)):=h1 2 _ rfl;have b2:wr.cell? ⟨w.heap.size+1,2,none⟩=some (.int .u8 (r2.d.toNat:Int)):=h2 2 _ rfl;have a3:wr.cell? ⟨w.heap.size,3,none⟩=some (.int .i64 r.vis):=h1 3 _ rfl;have b3:wr.cell? ⟨w.heap.size+1,3,none⟩=some (.int .i64 r2.vis):=h2 3 _ rfl;have a4:wr.cell? ⟨w.heap.size,4,none⟩=some (.int .i64 r.win):=h1 4 _ rfl;have b4:wr.cell? ⟨w.heap.size+1,4,none⟩=some (.int .i64 r2.win):=h2 4 _ rfl;have a5:wr.cell? ⟨w.heap.size,5,none⟩=some (.int .i64 r.rcv):=h1 5 _ rfl;have b5:wr.cell? ⟨w.heap.size+1,5,none⟩=some (.int .i64 r2.rcv):=h2 5 _ rfl;have a6:wr.cell? ⟨w.heap.size,6,none⟩=some (.int .i64 r.quo):=h1 6 _ rfl;have b6:wr.cell? ⟨w.heap.size+1,6,none⟩=some (.int .i64 r2.quo):=h2 6 _ rfl;have a7:wr.cell? ⟨w.heap.size,7,none⟩=some (.int .i64 r.mx):=h1 7 _ rfl;have b7:wr.cell? ⟨w.heap.size+1,7,none⟩=some (.int .i64 r2.mx):=h2 7 _ rfl;have a8:wr.cell? ⟨w.heap.size,8,none⟩=some (.int .i64 r.tic):=h1 8 _ rfl;have b8:wr.cell? ⟨w.heap.size+1,8,none⟩=some (.int .i64 r2.tic):=h2 8 _ rfl;have a9:wr.cell? ⟨w.heap.size,9,none⟩=some (.string r.grp):=h1 9 _ rfl;have b9:wr.cell? ⟨w.heap.size+1,9,none⟩=some (.string r2.grp):=h2 9 _ rfl;have a10:wr.cell? ⟨w.heap.size,10,none⟩=some (.string r.ded):=h1 10 _ rfl;have b10:wr.cell? ⟨w.heap.size+1,10,none⟩=some (.string r2.ded):=h2 10 _ rfl;have a11:wr.cell? ⟨w.heap.size,11,none⟩=some (.string r.bod):=h1 11 _ rfl;have b11:wr.cell? ⟨w.heap.size+1,11,none⟩=some (.string r2.bod):=h2 11 _ rfl;have a12:wr.cell? ⟨w.heap.size,12,none⟩=some (.string r.att):=h1 12 _ rfl;have b12:wr.cell? ⟨w.heap.size+1,12,none⟩=some (.string r2.att):=h2 12 _ rfl;have a13:wr.cell? ⟨w.heap.size,13,none⟩=some (.string r.han):=h1 13 _ rfl;have b13:wr.cell? ⟨w.heap.size+1,13,none⟩=some (.string r2.han):=h2 13 _ rfl;have a14:wr.cell? ⟨w.heap.size,14,none⟩=some (.slice xa bs.length xc):=h1 14 _ rfl;have b14:wr.cell? ⟨w.heap.size+1,14,none⟩=some (.slice ya bs.length yc):=h2 14 _ rfl;clear hbw hb1 hb2 h1 h2;go_wp2_with fail
   all_goals
    clear a0 b0 a1 b1 a2 b2 a3 b3 a4 b4 a5 b5 a6 b6 a7 b7 a8 b8 a9 b9 a10 b10 a11 b11 a12 b12 a13 b13 a14 b14;go_ret;exact⟨js (by simp_all[qV]),HBW.out⟩
theorem a6l (r r2:Wp.Rq)(x y:Sl)(w:World)(h:x.n≠y.n):
  zB 72 #[.agg (ja r x.v),.agg (ja r2 y.v)] w (.bool false):=by
 have hnn:(((x.n:Nat):Int) != ((y.n:Nat):Int))=true:=by simp;omega
 clear h;unfold ja Sl.v;go_enter Tryz.func72,Tryz.ntmps72;go_wp2_with fail;go_ret;exact⟨rfl,((Below.refl _ _).alloc (Nat.le_refl _) _).alloc (by simp) _⟩
theorem a3m (a:Option Addr)(c:Nat)(bs:List ByteArray)(w:World)(hb:bs.length<=8796093022208)(hbs:∀s∈bs,s.size<=maxLen)(hS:Strs w a bs):
  zE 137 #[.slice a bs.length c] w (.bool (Wp.short bs&&(decide (1<=bs.length)&&decide (bs.length<=10)))):=by
 have HS:=zH hS;have HBS:=zH hbs;clear hS hbs;go_enter Tryz.func137,Tryz.ntmps137
 go_wp2
 go_loop [3] (fun i=>∃k:Nat,k<=bs.length/\i=.int .i64 k/\Wp.short (bs.take k)=true) (fun i=>bs.length-(intOf i).toNat)
 case atStart=>exact⟨0,Nat.zero_le _,rfl,rfl⟩
 case round=>
  obtain⟨k,hk,rfl,hsh⟩:=hrel
  by_cases hlt:k<bs.length
  ·obtain⟨g,o,rfl,hc⟩:=HS.out k hlt;have hsn:Hid (Wp.short (bs.take (k+1))=(Wp.short (bs.take k)&&decide (bs[k].size<=255))):=by
    show _=_
    rw[List.take_succ_eq_append_getElem hlt,Wp.short,List.all_append];simp only[List.all_cons,List.all_nil,Bool.and_true];rfl
   have hmem:Hid (bs[k]∈bs):=List.getElem_mem hlt;have hsz:=HBS.out bs[k] (List.getElem_mem hlt);unfold maxLen at hsz;have HSH:=zH hsh;generalize bs[k]=S at hc hsn hsz hmem;clear hsh
   by_cases hs:255<S.size
   ·have hv:Hid (Wp.short bs=false):=by
     show _=_
     rw[Bool.eq_false_iff];intro h;have:=List.all_eq_true.1 h S hmem.out;simp at this;omega
    go_wp2
    go_ret;exact⟨by rw[hv.out];rfl,rfl⟩
   ·have hv:Hid (Wp.short (bs.take (k+1))=true):=by
     show _=_
     rw[hsn.out,HSH.out];simp;omega
    go_wp2
    go_round
    case rel=>exact⟨k+1,by omega,by go_num,hv.out⟩
    case measure=>simp[intOf];omega
  ·have he:bs.take k=bs:=List.take_of_length_le (by omega);rw[he]at hsh;have HSH:=zH hsh;clear hsh he
   by_cases h1:1<=bs.length
   ·have hv:Hid ((Wp.short bs&&(decide (1<=bs.length)&&decide (bs.length<=10)))=decide (bs.length<=10)):=by show _=_;rw[HSH.out];simp[h1]
    go_wp2
    go_ret;exact⟨js (by rw[HSH.out];simp;omega),rfl⟩
   ·have hv:Hid ((Wp.short bs&&(decide (1<=bs.length)&&decide (bs.length<=10)))=false):=by show _=_;rw[HSH.out];simp[h1]
    go_wp2
    go_ret;exact⟨rfl,rfl⟩
def vO (r:Wp.Rq):Bool:=(decide (1<=r.vis)&&decide (r.vis<=1000))&&(decide (0<=r.win)&&decide (r.win<=1000))&&(decide (0<=r.rcv)&&decide (r.rcv<=9))&&(decide (1<=r.quo)&&decide (r.quo<=50))&&
 ((((r.d.toNat:Int) == 45))||((decide (97<=r.d.toNat)&&decide (r.d.toNat<=104))&&((r.d.toNat:Int) != (r.q.toNat:Int))))
theorem a3n (r:Wp.Rq)(x:Sl)(w:World):
  zB 135 #[.agg (ja r x.v)] w (.bool (vO r)):=by
 unfold vO;unfold ja Sl.v;go_enter Tryz.func135,Tryz.ntmps135;go_wp2_with (first|(go_at_call 136;refine(a2S _ _ _ _).mono ?_;rintro e w' ⟨rfl,rfl⟩)|(go_at_call 134;refine(vK _ _).mono ?_;rintro e w' ⟨rfl,rfl⟩))
 all_goals
  go_ret;exact⟨js (by simp_all<;>(intros;omega)),(Below.refl _ _).alloc (Nat.le_refl _) _⟩
def ke (w:World)(C:Array Value):World:=(w.alloc (.cells (ja (opR 0) (Sl.v ⟨none,0,0⟩)) 27)).setRow w.heap.size C
theorem jT (w:World)(C:Array Value):(ke w C).heap[w.heap.size]?=some (.cells C 27 (0,0)):=setRow_heap _ _ _ _ 27 (0,0) (heap_alloc_new _ _)
theorem jz (w:World)(C:Array Value):Below w.heap.size w (ke w C):=jD ((Below.refl _ _).alloc (Nat.le_refl _) _) (Nat.le_refl _) _
theorem qI (w:World)(C:Array Value):(ke w C).heap.size=w.heap.size+1:=by simp[ke]
theorem xK (r o:Wp.Rq)(x y:Sl)(w:World)(ho:∀W,zB 133 #[.agg (ja r x.v)] W (.agg (ja o y.v)))
  (hs:∀W,Below w.heap.size w W->zB 72 #[.agg (ja o y.v),.agg (ja r x.v)] W (.bool false)):
  zB 102 #[.agg (ja r x.v)] w (.bool false):=by
 have hinf:=jS;have HO:=zH ho;have HS:=zH hs;clear ho hs;go_enter Tryz.func102,Tryz.ntmps102;go_wp2_with (refine wpList_load_row rfl 27 _ rfl w.heap.size rfl 27 (ja r x.v) (0,0) _ (heap_alloc_new _ _) Tryz.underlying27 rfl hinf ?_);refine(HO.out _).mono ?_;rintro e w1 ⟨rfl,hb1⟩;have HB1:Hid (Below w.heap.size w w1):=((Below.refl _ _).alloc (Nat.le_refl _) _).trans (hb1.mono (by simp));have HK1:Hid ((ke w1 (ja o y.v)).heap[w.heap.size]?=some (.cells (ja r x.v) 27 (0,0))/\w.heap.size<w1.heap.size):=by
  have h1:w1.heap[w.heap.size]?=some (.cells (ja r x.v) 27 (0,0)):=by rw[hb1.block _ (by simp)];exact heap_alloc_new _ _
  have h2:w.heap.size<w1.heap.size:=(Array.getElem?_eq_some_iff.1 h1).1;exact⟨((jz w1 _).block _ h2).trans h1,h2⟩
 clear hb1;go_wp2_with (first|(refine wpList_store_row rfl 27 _ _ rfl w1.heap.size (ja o y.v) rfl rfl 27 _ (heap_alloc_new _ _) hinf rfl (jC _ _) ?_)|(refine wpList_load_row rfl 27 (.tmp 3) rfl w1.heap.size rfl 27 (ja o y.v) (0,0) _ (jT _ _) Tryz.underlying27 rfl hinf ?_)|(refine wpList_load_row rfl 27 (.tmp 1) rfl w.heap.size rfl 27 (ja r x.v) (0,0) _ HK1.out.1 Tryz.underlying27 rfl hinf ?_));refine(HS.out (ke w1 (ja o y.v)) (HB1.out.trans ((jz _ _).mono HB1.out.size))).mono ?_;rintro e w2 ⟨rfl,hb2⟩;rw[qI]at hb2;have HB2:Hid (Below w.heap.size w w2):=(HB1.out.trans ((jz w1 (ja o y.v)).mono HB1.out.size)).trans (hb2.mono (by have:=HB1.out.size;omega));have HK2:Hid (Blk w2 w.heap.size r x):=(hb2.block _ (by have:=HK1.out.2;omega)).trans HK1.out.1;clear hb2;have hq:=HK2.out.box 1 _ rfl;go_wp2_with (go_at_call 134;refine(vK _ _).mono ?_;rintro e w' ⟨rfl,rfl⟩);go_ret;exact⟨rfl,HB2.out⟩
def ltq (r:Wp.Rq):Bool:=decide (97<=r.q.toNat)&&decide (r.q.toNat<=104)
theorem zk (r:Wp.Rq)(w:World):zE 134 #[.int .u8 (r.q.toNat:Int)] w (.bool (ltq r)):=vK r.q w
end Go.Proofs.YtbdobaapadlcjaaGreatDoor.Ref
namespace Go.Proofs.YtbdobaapadlcjaaGreatDoor.Ref
theorem b3c {s t:ByteArray}:(s.toList == t.toList)=true↔s=t:=by
 rw[beq_iff_eq,ByteArray.toList_eq,ByteArray.toList_eq];exact⟨fun h=>kI h,fun h=>by rw[h]⟩
theorem b3x {a b:UInt8}:(((a.toNat:Nat):Int) == ((b.toNat:Nat):Int))=true↔a=b:=by
 rw[beq_iff_eq];exact⟨fun h=>UInt8.toNat_inj.1 (by omega),fun h=>by rw[h]⟩
theorem b6X {a b:Int}:(a == b)=true↔a=b:=beq_iff_eq
theorem xu (a b:Wp.Rq):qV a b=true↔a=b:=by
 unfold qV;simp only[Bool.and_eq_true,b3c,b3x,b6X]
 cases a
 cases b
 simp only[Wp.Rq.mk.injEq];constructor
 ·rintro ⟨⟨⟨⟨⟨⟨⟨⟨⟨⟨h1,h2⟩,h3⟩,h4⟩,h5⟩,⟨⟨h6,h7⟩,h8⟩,h9⟩,h10⟩,h11⟩,h12⟩,h13⟩,h14⟩;exact⟨UInt8.toNat_inj.1 (by omega),UInt8.toNat_inj.1 (by omega),UInt8.toNat_inj.1 (by omega),h4,h5,h6,h7,h8,h9,h10,h11,h12,h13,h14⟩
 ·rintro ⟨h1,h2,h3,h4,h5,h6,h7,h8,h9,h10,h11,h12,h13,h14⟩;exact⟨⟨⟨⟨⟨⟨⟨⟨⟨⟨by rw[h1],by rw[h2]⟩,by rw[h3]⟩,h4⟩,h5⟩,⟨⟨h6,h7⟩,h8⟩,h9⟩,h10⟩,h11⟩,h12⟩,h13⟩,h14⟩
theorem qd (r:Wp.Rq)(n:Nat)(b:Bool)(f:Nat)(h1:f≠1)(h10:f≠10)(h14:f≠14):r.fits n b f=true↔Wp.least f<=r.measure n f/\r.measure n f<=Wp.most f:=by
 unfold Wp.Rq.fits;rw[if_neg (fun e=>h1 e.1),if_neg h1,if_neg h10,if_neg h14];constructor
 ·intro h
  split at h
  ·cases h
  ·split at h
   ·cases h
   ·omega
 ·intro h;rw[if_neg (by omega),if_neg (by omega)]
theorem b6E (r:Wp.Rq)(n:Nat)(b:Bool):r.fits n b 1=true↔r.d.toNat=45\/(97<=r.d.toNat/\r.d.toNat<=104)/\r.d.toNat≠r.q.toNat:=by
 have e1:r.measure n 1=(r.d.toNat:Int):=rfl;have e2:Wp.least 1=97:=rfl;have e3:Wp.most 1=104:=rfl;unfold Wp.Rq.fits;rw[e1,e2,e3]
 by_cases h0:r.d=45
 ·rw[if_pos ⟨rfl,h0⟩,h0];exact⟨fun _=>Or.inl rfl,fun _=>rfl⟩
 ·rw[if_neg (fun e=>h0 e.2)];have h0':r.d.toNat≠45:=fun e=>h0 (UInt8.toNat_inj.1 e)
  have hq:(r.d != r.q)=true↔r.d.toNat≠r.q.toNat:=by
   rw[bne_iff_ne];exact not_congr ⟨fun h=>by rw[h],fun h=>UInt8.toNat_inj.1 h⟩
  constructor
  ·intro h
   split at h
   ·cases h
   ·split at h
    ·cases h
    ·rw[if_pos rfl]at h;exact Or.inr ⟨by omega,hq.1 h⟩
  ·rintro (h|⟨h1,h2⟩)
   ·exact absurd h h0'
   ·rw[if_neg (by omega),if_neg (by omega),if_pos rfl];exact hq.2 h2
theorem a5F (r:Wp.Rq)(n:Nat)(b:Bool):r.fits n b 10=true↔r.ded.size<=8/\Wp.dedOk r.ded=true:=by
 have e1:r.measure n 10=(r.ded.size:Int):=rfl;have e2:Wp.least 10=0:=rfl;have e3:Wp.most 10=8:=rfl;unfold Wp.Rq.fits;rw[if_neg (fun e=>by cases e.1),e1,e2,e3,if_neg (show ¬((r.ded.size:Nat):Int)<0 by omega),if_neg (show ¬10=1 by decide),if_pos rfl];constructor
 ·intro h
  split at h
  ·cases h
  ·exact⟨by omega,h⟩
 ·rintro ⟨h1,h2⟩;rw[if_neg (by omega)];exact h2
theorem a5E (r:Wp.Rq)(n:Nat)(b:Bool):r.fits n b 14=true↔(1<=n/\n<=10)/\b=true:=by
 have e1:r.measure n 14=(n:Int):=rfl;have e2:Wp.least 14=1:=rfl;have e3:Wp.most 14=10:=rfl;unfold Wp.Rq.fits;rw[if_neg (fun e=>by cases e.1),e1,e2,e3,if_neg (show ¬14=1 by decide),if_neg (show ¬14=10 by decide),if_pos rfl];constructor
 ·intro h
  split at h
  ·cases h
  ·split at h
   ·cases h
   ·exact⟨by omega,h⟩
 ·rintro ⟨h1,h2⟩;rw[if_neg (by omega),if_neg (by omega)];exact h2
theorem ku (r:Wp.Rq)(x:Sl)(b:Bool)(h:Wf r)(i:Nat)(hi:i∈qT)(hop:r.op.toNat=65+i):
  jo r x b=true↔(∀f∈Wp.lay i,r.fits x.n b f=true)/\jX {r with op:=0} (Wp.lay i)=opR 0/\(kD x (Wp.lay i)).n=0:=by
 rw[vj r x b h];constructor
 ·rintro ⟨j,hj,he,h1,h2,h3⟩;obtain rfl:j=i:=by omega
  exact⟨List.all_eq_true.1 h1,h2,h3⟩
 ·rintro ⟨h1,h2,h3⟩;exact⟨i,hi,hop,List.all_eq_true.2 h1,h2,h3⟩
theorem a0v (r:Wp.Rq)(n:Nat)(b:Bool):r.fits n b 0=true↔ltq r=true:=by
 rw[qd r n b 0 (by decide) (by decide) (by decide)];have e1:r.measure n 0=(r.q.toNat:Int):=rfl;have e2:Wp.least 0=97:=rfl;have e3:Wp.most 0=104:=rfl;rw[e1,e2,e3,ltq,Bool.and_eq_true,decide_eq_true_eq,decide_eq_true_eq];omega
theorem b5z (r:Wp.Rq):jX {r with op:=0} (Wp.lay 2)=opR 0↔(⟨r.op,r.q,r.d,r.vis,r.win,r.rcv,r.quo,0,0,⟨#[]⟩,⟨#[]⟩,⟨#[]⟩,⟨#[]⟩,⟨#[]⟩⟩:Wp.Rq)=r:=by
 cases r
 simp[jX,er,opR,Wp.lay,Wp.layTab,Wp.shape,Wp.rowTab,eq_comm]
theorem b8a (x:Sl):(kD x (Wp.lay 2)).n=x.n:=rfl
theorem b5G (r:Wp.Rq):jX {r with op:=0} (Wp.lay 23)=opR 0↔(⟨r.op,r.q,0,0,0,0,0,0,0,⟨#[]⟩,⟨#[]⟩,⟨#[]⟩,⟨#[]⟩,⟨#[]⟩⟩:Wp.Rq)=r:=by
 cases r
 simp[jX,er,opR,Wp.lay,Wp.layTab,Wp.shape,Wp.rowTab,eq_comm]
theorem b8h (x:Sl):(kD x (Wp.lay 23)).n=x.n:=rfl
theorem b5B (r:Wp.Rq):jX {r with op:=0} (Wp.lay 15)=opR 0↔(⟨r.op,r.q,0,0,0,0,0,0,0,⟨#[]⟩,⟨#[]⟩,⟨#[]⟩,⟨#[]⟩,⟨#[]⟩⟩:Wp.Rq)=r:=by
 cases r
 simp[jX,er,opR,Wp.lay,Wp.layTab,Wp.shape,Wp.rowTab,eq_comm]
theorem b8c (x:Sl):(kD x (Wp.lay 15)).n=x.n:=rfl
theorem b5F (r:Wp.Rq):jX {r with op:=0} (Wp.lay 21)=opR 0↔(⟨r.op,r.q,0,0,0,0,0,0,0,⟨#[]⟩,⟨#[]⟩,⟨#[]⟩,⟨#[]⟩,⟨#[]⟩⟩:Wp.Rq)=r:=by
 cases r
 simp[jX,er,opR,Wp.lay,Wp.layTab,Wp.shape,Wp.rowTab,eq_comm]
theorem b8g (x:Sl):(kD x (Wp.lay 21)).n=x.n:=rfl
theorem b5D (r:Wp.Rq):jX {r with op:=0} (Wp.lay 18)=opR 0↔(⟨r.op,r.q,0,0,0,0,0,0,0,r.grp,r.ded,r.bod,⟨#[]⟩,⟨#[]⟩⟩:Wp.Rq)=r:=by
 cases r
 simp[jX,er,opR,Wp.lay,Wp.layTab,Wp.shape,Wp.rowTab,eq_comm]
theorem b8e (x:Sl):(kD x (Wp.lay 18)).n=x.n:=rfl
theorem b5C (r:Wp.Rq):jX {r with op:=0} (Wp.lay 17)=opR 0↔(⟨r.op,r.q,0,0,0,0,0,r.mx,0,⟨#[]⟩,⟨#[]⟩,⟨#[]⟩,r.att,⟨#[]⟩⟩:Wp.Rq)=r:=by
 cases r
 simp[jX,er,opR,Wp.lay,Wp.layTab,Wp.shape,Wp.rowTab,eq_comm]
theorem b8d (x:Sl):(kD x (Wp.lay 17)).n=x.n:=rfl
theorem b5x (r:Wp.Rq):jX {r with op:=0} (Wp.lay 0)=opR 0↔(⟨r.op,0,0,0,0,0,0,0,0,⟨#[]⟩,⟨#[]⟩,⟨#[]⟩,⟨#[]⟩,r.han⟩:Wp.Rq)=r:=by
 cases r
 simp[jX,er,opR,Wp.lay,Wp.layTab,Wp.shape,Wp.rowTab,eq_comm]
theorem b7Y (x:Sl):(kD x (Wp.lay 0)).n=x.n:=rfl
theorem b5A (r:Wp.Rq):jX {r with op:=0} (Wp.lay 4)=opR 0↔(⟨r.op,0,0,0,0,0,0,0,r.tic,⟨#[]⟩,⟨#[]⟩,⟨#[]⟩,⟨#[]⟩,r.han⟩:Wp.Rq)=r:=by
 cases r
 simp[jX,er,opR,Wp.lay,Wp.layTab,Wp.shape,Wp.rowTab,eq_comm]
theorem b8b (x:Sl):(kD x (Wp.lay 4)).n=x.n:=rfl
theorem b5E (r:Wp.Rq):jX {r with op:=0} (Wp.lay 19)=opR 0↔(⟨r.op,0,0,0,0,0,0,0,r.tic,⟨#[]⟩,⟨#[]⟩,⟨#[]⟩,⟨#[]⟩,⟨#[]⟩⟩:Wp.Rq)=r:=by
 cases r
 simp[jX,er,opR,Wp.lay,Wp.layTab,Wp.shape,Wp.rowTab,eq_comm]
theorem b8f (x:Sl):(kD x (Wp.lay 19)).n=x.n:=rfl
theorem b5y (r:Wp.Rq):jX {r with op:=0} (Wp.lay 1)=opR 0↔(⟨r.op,0,0,0,0,0,0,0,0,⟨#[]⟩,⟨#[]⟩,⟨#[]⟩,⟨#[]⟩,⟨#[]⟩⟩:Wp.Rq)=r:=by
 cases r
 simp[jX,er,opR,Wp.lay,Wp.layTab,Wp.shape,Wp.rowTab,eq_comm]
theorem b7Z (x:Sl):(kD x (Wp.lay 1)).n=0:=rfl
end Go.Proofs.YtbdobaapadlcjaaGreatDoor.Ref
namespace Go.Proofs.YtbdobaapadlcjaaGreatDoor.Ref
open Go.RowKit
theorem a8m (r:Wp.Rq)(x:Sl)(w:World)(h:r.op.toNat=67):
  zB 133 #[.agg (ja r x.v)] w (.agg (ja ⟨r.op,r.q,r.d,r.vis,r.win,r.rcv,r.quo,0,0,⟨#[]⟩,⟨#[]⟩,⟨#[]⟩,⟨#[]⟩,⟨#[]⟩⟩ (Sl.v ⟨none,0,0⟩))):=by
 have hI:((r.op.toNat:Nat):Int)=67:=by omega
 have hinf:=jS;have hv:Hid (ja ⟨r.op,r.q,r.d,r.vis,r.win,r.rcv,r.quo,0,0,⟨#[]⟩,⟨#[]⟩,⟨#[]⟩,⟨#[]⟩,⟨#[]⟩⟩ (Sl.v ⟨none,0,0⟩)=(ja {(⟨r.op,r.q,r.d,r.vis,r.win,r.rcv,r.quo,0,0,⟨#[]⟩,⟨#[]⟩,⟨#[]⟩,⟨#[]⟩,⟨#[]⟩⟩:Wp.Rq) with op:=67} (Sl.v ⟨none,0,0⟩))):=by
  show _=_
  unfold ja;simp only[hI];rfl
 rw[hv.out];unfold ja Sl.v;rw[hI];clear h hI hv;go_enter Tryz.func133,Tryz.ntmps133;go_wp2_with fail;refine bodyPost_ret (results_cell_row (p:=2) rfl _ _ (w.heap.size+1) 27 (ja {(⟨r.op,r.q,r.d,r.vis,r.win,r.rcv,r.quo,0,0,⟨#[]⟩,⟨#[]⟩,⟨#[]⟩,⟨#[]⟩,⟨#[]⟩⟩:Wp.Rq) with op:=67} (Sl.v ⟨none,0,0⟩)) (0,0) _ rfl ?_ Tryz.underlying27 rfl hinf) rfl ⟨rfl,?_⟩
 ·exact a0e _ _ _ _
 ·exact xE _ _ _ _
theorem a8t (r:Wp.Rq)(x:Sl)(w:World)(h:r.op.toNat=88):
  zB 133 #[.agg (ja r x.v)] w (.agg (ja ⟨r.op,r.q,0,0,0,0,0,0,0,⟨#[]⟩,⟨#[]⟩,⟨#[]⟩,⟨#[]⟩,⟨#[]⟩⟩ (Sl.v ⟨none,0,0⟩))):=by
 have hI:((r.op.toNat:Nat):Int)=88:=by omega
 have hinf:=jS;have hv:Hid (ja ⟨r.op,r.q,0,0,0,0,0,0,0,⟨#[]⟩,⟨#[]⟩,⟨#[]⟩,⟨#[]⟩,⟨#[]⟩⟩ (Sl.v ⟨none,0,0⟩)=(ja {(⟨r.op,r.q,0,0,0,0,0,0,0,⟨#[]⟩,⟨#[]⟩,⟨#[]⟩,⟨#[]⟩,⟨#[]⟩⟩:Wp.Rq) with op:=88} (Sl.v ⟨none,0,0⟩))):=by
  show _=_
  unfold ja;simp only[hI];rfl
 rw[hv.out];unfold ja Sl.v;rw[hI];clear h hI hv;go_enter Tryz.func133,Tryz.ntmps133;go_wp2_with fail;refine bodyPost_ret (results_cell_row (p:=2) rfl _ _ (w.heap.size+1) 27 (ja {(⟨r.op,r.q,0,0,0,0,0,0,0,⟨#[]⟩,⟨#[]⟩,⟨#[]⟩,⟨#[]⟩,⟨#[]⟩⟩:Wp.Rq) with op:=88} (Sl.v ⟨none,0,0⟩)) (0,0) _ rfl ?_ Tryz.underlying27 rfl hinf) rfl ⟨rfl,?_⟩
 ·exact a0e _ _ _ _
 ·exact xE _ _ _ _
theorem a8o (r:Wp.Rq)(x:Sl)(w:World)(h:r.op.toNat=80):
  zB 133 #[.agg (ja r x.v)] w (.agg (ja ⟨r.op,r.q,0,0,0,0,0,0,0,⟨#[]⟩,⟨#[]⟩,⟨#[]⟩,⟨#[]⟩,⟨#[]⟩⟩ (Sl.v ⟨none,0,0⟩))):=by
 have hI:((r.op.toNat:Nat):Int)=80:=by omega
 have hinf:=jS;have hv:Hid (ja ⟨r.op,r.q,0,0,0,0,0,0,0,⟨#[]⟩,⟨#[]⟩,⟨#[]⟩,⟨#[]⟩,⟨#[]⟩⟩ (Sl.v ⟨none,0,0⟩)=(ja {(⟨r.op,r.q,0,0,0,0,0,0,0,⟨#[]⟩,⟨#[]⟩,⟨#[]⟩,⟨#[]⟩,⟨#[]⟩⟩:Wp.Rq) with op:=80} (Sl.v ⟨none,0,0⟩))):=by
  show _=_
  unfold ja;simp only[hI];rfl
 rw[hv.out];unfold ja Sl.v;rw[hI];clear h hI hv;go_enter Tryz.func133,Tryz.ntmps133;go_wp2_with fail;refine bodyPost_ret (results_cell_row (p:=2) rfl _ _ (w.heap.size+1) 27 (ja {(⟨r.op,r.q,0,0,0,0,0,0,0,⟨#[]⟩,⟨#[]⟩,⟨#[]⟩,⟨#[]⟩,⟨#[]⟩⟩:Wp.Rq) with op:=80} (Sl.v ⟨none,0,0⟩)) (0,0) _ rfl ?_ Tryz.underlying27 rfl hinf) rfl ⟨rfl,?_⟩
 ·exact a0e _ _ _ _
 ·exact xE _ _ _ _
theorem a8s (r:Wp.Rq)(x:Sl)(w:World)(h:r.op.toNat=86):
  zB 133 #[.agg (ja r x.v)] w (.agg (ja ⟨r.op,r.q,0,0,0,0,0,0,0,⟨#[]⟩,⟨#[]⟩,⟨#[]⟩,⟨#[]⟩,⟨#[]⟩⟩ (Sl.v ⟨none,0,0⟩))):=by
 have hI:((r.op.toNat:Nat):Int)=86:=by omega
 have hinf:=jS;have hv:Hid (ja ⟨r.op,r.q,0,0,0,0,0,0,0,⟨#[]⟩,⟨#[]⟩,⟨#[]⟩,⟨#[]⟩,⟨#[]⟩⟩ (Sl.v ⟨none,0,0⟩)=(ja {(⟨r.op,r.q,0,0,0,0,0,0,0,⟨#[]⟩,⟨#[]⟩,⟨#[]⟩,⟨#[]⟩,⟨#[]⟩⟩:Wp.Rq) with op:=86} (Sl.v ⟨none,0,0⟩))):=by
  show _=_
  unfold ja;simp only[hI];rfl
 rw[hv.out];unfold ja Sl.v;rw[hI];clear h hI hv;go_enter Tryz.func133,Tryz.ntmps133;go_wp2_with fail;refine bodyPost_ret (results_cell_row (p:=2) rfl _ _ (w.heap.size+1) 27 (ja {(⟨r.op,r.q,0,0,0,0,0,0,0,⟨#[]⟩,⟨#[]⟩,⟨#[]⟩,⟨#[]⟩,⟨#[]⟩⟩:Wp.Rq) with op:=86} (Sl.v ⟨none,0,0⟩)) (0,0) _ rfl ?_ Tryz.underlying27 rfl hinf) rfl ⟨rfl,?_⟩
 ·exact a0e _ _ _ _
 ·exact xE _ _ _ _
theorem a8q (r:Wp.Rq)(x:Sl)(w:World)(h:r.op.toNat=83):
  zB 133 #[.agg (ja r x.v)] w (.agg (ja ⟨r.op,r.q,0,0,0,0,0,0,0,r.grp,r.ded,r.bod,⟨#[]⟩,⟨#[]⟩⟩ (Sl.v ⟨none,0,0⟩))):=by
 have hI:((r.op.toNat:Nat):Int)=83:=by omega
 have hinf:=jS;have hv:Hid (ja ⟨r.op,r.q,0,0,0,0,0,0,0,r.grp,r.ded,r.bod,⟨#[]⟩,⟨#[]⟩⟩ (Sl.v ⟨none,0,0⟩)=(ja {(⟨r.op,r.q,0,0,0,0,0,0,0,r.grp,r.ded,r.bod,⟨#[]⟩,⟨#[]⟩⟩:Wp.Rq) with op:=83} (Sl.v ⟨none,0,0⟩))):=by
  show _=_
  unfold ja;simp only[hI];rfl
 rw[hv.out];unfold ja Sl.v;rw[hI];clear h hI hv;go_enter Tryz.func133,Tryz.ntmps133;go_wp2_with fail;refine bodyPost_ret (results_cell_row (p:=2) rfl _ _ (w.heap.size+1) 27 (ja {(⟨r.op,r.q,0,0,0,0,0,0,0,r.grp,r.ded,r.bod,⟨#[]⟩,⟨#[]⟩⟩:Wp.Rq) with op:=83} (Sl.v ⟨none,0,0⟩)) (0,0) _ rfl ?_ Tryz.underlying27 rfl hinf) rfl ⟨rfl,?_⟩
 ·exact a0e _ _ _ _
 ·exact xE _ _ _ _
theorem a8p (r:Wp.Rq)(x:Sl)(w:World)(h:r.op.toNat=82):
  zB 133 #[.agg (ja r x.v)] w (.agg (ja ⟨r.op,r.q,0,0,0,0,0,r.mx,0,⟨#[]⟩,⟨#[]⟩,⟨#[]⟩,r.att,⟨#[]⟩⟩ (Sl.v ⟨none,0,0⟩))):=by
 have hI:((r.op.toNat:Nat):Int)=82:=by omega
 have hinf:=jS;have hv:Hid (ja ⟨r.op,r.q,0,0,0,0,0,r.mx,0,⟨#[]⟩,⟨#[]⟩,⟨#[]⟩,r.att,⟨#[]⟩⟩ (Sl.v ⟨none,0,0⟩)=(ja {(⟨r.op,r.q,0,0,0,0,0,r.mx,0,⟨#[]⟩,⟨#[]⟩,⟨#[]⟩,r.att,⟨#[]⟩⟩:Wp.Rq) with op:=82} (Sl.v ⟨none,0,0⟩))):=by
  show _=_
  unfold ja;simp only[hI];rfl
 rw[hv.out];unfold ja Sl.v;rw[hI];clear h hI hv;go_enter Tryz.func133,Tryz.ntmps133;go_wp2_with fail;refine bodyPost_ret (results_cell_row (p:=2) rfl _ _ (w.heap.size+1) 27 (ja {(⟨r.op,r.q,0,0,0,0,0,r.mx,0,⟨#[]⟩,⟨#[]⟩,⟨#[]⟩,r.att,⟨#[]⟩⟩:Wp.Rq) with op:=82} (Sl.v ⟨none,0,0⟩)) (0,0) _ rfl ?_ Tryz.underlying27 rfl hinf) rfl ⟨rfl,?_⟩
 ·exact a0e _ _ _ _
 ·exact xE _ _ _ _
abbrev ROk (r o:Wp.Rq)(x y:Sl):Prop:=∀W,Cp 133 #[.agg (ja r x.v)] W fun e w'=>e=.returned (.agg (ja o y.v))/\Below W.heap.size W w'
abbrev RSk (r o:Wp.Rq)(x y:Sl)(w:World):Prop:=∀W,Below w.heap.size w W->Cp 72 #[.agg (ja o y.v),.agg (ja r x.v)] W fun e w'=>e=.returned (.bool true)/\Below W.heap.size W w'
def rgV (n:Nat)(r:Wp.Rq):Bool:=if n=67 then ltq r&&vO r else if n=82 then ltq r&&(decide (1<=r.mx)&&decide (r.mx<=10))&&decide ((r.att.size:Int)<=8) else if n=65 then decide ((r.han.size:Int)<=255) else if n=69 then (decide (0<=r.tic)&&decide (r.tic<=1000))&&decide ((r.han.size:Int)<=255) else if n=84 then decide (1<=r.tic)&&decide (r.tic<=1000) else ltq r
theorem vk (n:Nat)(hn:n=67\/n=88\/n=80\/n=86\/n=82\/n=65\/n=69\/n=84)(r o:Wp.Rq)(x y:Sl)(w:World)(hop:r.op.toNat=n)(ho:ROk r o x y)(hs:RSk r o x y w):
  Cp 102 #[.agg (ja r x.v)] w fun e w'=>e=.returned (.bool (rgV n r))/\Below w.heap.size w w':=by
 have HOP:Hid (r.op.toNat=n):=hop;have HN:Hid (n=67\/n=88\/n=80\/n=86\/n=82\/n=65\/n=69\/n=84):=hn;clear hop hn;have hinf:=jS;have HO:Hid (ROk r o x y):=ho;have HS:Hid (RSk r o x y w):=hs;clear ho hs;go_enter Tryz.func102,Tryz.ntmps102;go_wp2_with (refine wpList_load_row rfl 27 _ rfl w.heap.size rfl 27 (ja r x.v) (0,0) _ (heap_alloc_new _ _) Tryz.underlying27 rfl hinf ?_);refine(HO.out _).mono ?_;rintro e w1 ⟨rfl,hb1⟩;have HB1:Hid (Below w.heap.size w w1):=((Below.refl _ _).alloc (Nat.le_refl _) _).trans (hb1.mono (by simp));have HK1:Hid ((ke w1 (ja o y.v)).heap[w.heap.size]?=some (.cells (ja r x.v) 27 (0,0))/\w.heap.size<w1.heap.size):=by
  have h1:w1.heap[w.heap.size]?=some (.cells (ja r x.v) 27 (0,0)):=by rw[hb1.block _ (by simp)];exact heap_alloc_new _ _
  have h2:w.heap.size<w1.heap.size:=(Array.getElem?_eq_some_iff.1 h1).1;exact⟨((jz w1 _).block _ h2).trans h1,h2⟩
 clear hb1;go_wp2_with (first|(refine wpList_store_row rfl 27 _ _ rfl w1.heap.size (ja o y.v) rfl rfl 27 _ (heap_alloc_new _ _) hinf rfl (jC _ _) ?_)|(refine wpList_load_row rfl 27 (.tmp 3) rfl w1.heap.size rfl 27 (ja o y.v) (0,0) _ (jT _ _) Tryz.underlying27 rfl hinf ?_)|(refine wpList_load_row rfl 27 (.tmp 1) rfl w.heap.size rfl 27 (ja r x.v) (0,0) _ HK1.out.1 Tryz.underlying27 rfl hinf ?_));refine(HS.out (ke w1 (ja o y.v)) (HB1.out.trans ((jz _ _).mono HB1.out.size))).mono ?_;rintro e w2 ⟨rfl,hb2⟩;rw[qI]at hb2;have HB2:Hid (Below w.heap.size w w2):=(HB1.out.trans ((jz w1 (ja o y.v)).mono HB1.out.size)).trans (hb2.mono (by have:=HB1.out.size;omega));have HK2:Hid (Blk w2 w.heap.size r x):=(hb2.block _ (by have:=HK1.out.2;omega)).trans HK1.out.1;clear hb2;have hq:w2.cell? ⟨w.heap.size,1,none⟩=some (.int .u8 (r.q.toNat:Int)):=HK2.out.box 1 _ rfl;have c7:w2.cell? ⟨w.heap.size,7,none⟩=some (.int .i64 r.mx):=HK2.out.box 7 _ rfl;have c8:w2.cell? ⟨w.heap.size,8,none⟩=some (.int .i64 r.tic):=HK2.out.box 8 _ rfl;have c12:w2.cell? ⟨w.heap.size,12,none⟩=some (.string r.att):=HK2.out.box 12 _ rfl;have c13:w2.cell? ⟨w.heap.size,13,none⟩=some (.string r.han):=HK2.out.box 13 _ rfl;have hp:w2.cell? ⟨w.heap.size,0,none⟩=some (.int .u8 (n:Int)):=by
  have h:w2.cell? ⟨w.heap.size,0,none⟩=some (.int .u8 (r.op.toNat:Int)):=HK2.out.box 0 _ rfl;rw[h,HOP.out]
 have HB3:Hid (∀w3,Below w2.heap.size w2 w3->Below w.heap.size w w3):=fun w3 h3=>HB2.out.trans (h3.mono HB2.out.size)
 clear HOP;rcases HN.out with rfl|rfl|rfl|rfl|rfl|rfl|rfl|rfl
 all_goals
  go_wp2_with (first|(go_at_call 134;refine(zk r _).mono ?_;rintro e w' ⟨rfl,rfl⟩)|(go_at_call 136;refine(a2S _ _ _ _).mono ?_;rintro e w' ⟨rfl,rfl⟩)|(refine wpList_load_row rfl 27 (.tmp 1) rfl w.heap.size rfl 27 (ja r x.v) (0,0) _ HK2.out Tryz.underlying27 rfl hinf ?_)|(go_at_call 135;refine(a3n _ _ _).mono ?_;rintro e w3 ⟨rfl,hb3⟩))
  all_goals
   go_ret;exact⟨js (by simp_all[rgV]<;>(intros;omega)),by first|exact HB2.out|exact HB3.out _ hb3⟩
theorem b2E (r o:Wp.Rq)(x y:Sl)(w:World)(hop:r.op.toNat=67)(ho:ROk r o x y)(hs:RSk r o x y w):Cp 102 #[.agg (ja r x.v)] w fun e w'=>e=.returned (.bool (ltq r&&vO r))/\Below w.heap.size w w':=vk 67 (by decide) r o x y w hop ho hs
theorem b2L (r o:Wp.Rq)(x y:Sl)(w:World)(hop:r.op.toNat=88)(ho:ROk r o x y)(hs:RSk r o x y w):Cp 102 #[.agg (ja r x.v)] w fun e w'=>e=.returned (.bool (ltq r))/\Below w.heap.size w w':=vk 88 (by decide) r o x y w hop ho hs
theorem b2G (r o:Wp.Rq)(x y:Sl)(w:World)(hop:r.op.toNat=80)(ho:ROk r o x y)(hs:RSk r o x y w):Cp 102 #[.agg (ja r x.v)] w fun e w'=>e=.returned (.bool (ltq r))/\Below w.heap.size w w':=vk 80 (by decide) r o x y w hop ho hs
theorem b2K (r o:Wp.Rq)(x y:Sl)(w:World)(hop:r.op.toNat=86)(ho:ROk r o x y)(hs:RSk r o x y w):Cp 102 #[.agg (ja r x.v)] w fun e w'=>e=.returned (.bool (ltq r))/\Below w.heap.size w w':=vk 86 (by decide) r o x y w hop ho hs
theorem b2H (r o:Wp.Rq)(x y:Sl)(w:World)(hop:r.op.toNat=82)(ho:ROk r o x y)(hs:RSk r o x y w):Cp 102 #[.agg (ja r x.v)] w fun e w'=>e=.returned (.bool (ltq r&&(decide (1<=r.mx)&&decide (r.mx<=10))&&decide ((r.att.size:Int)<=8)))/\Below w.heap.size w w':=vk 82 (by decide) r o x y w hop ho hs
theorem b2C (r o:Wp.Rq)(x y:Sl)(w:World)(hop:r.op.toNat=65)(ho:ROk r o x y)(hs:RSk r o x y w):Cp 102 #[.agg (ja r x.v)] w fun e w'=>e=.returned (.bool (decide ((r.han.size:Int)<=255)))/\Below w.heap.size w w':=vk 65 (by decide) r o x y w hop ho hs
theorem b2F (r o:Wp.Rq)(x y:Sl)(w:World)(hop:r.op.toNat=69)(ho:ROk r o x y)(hs:RSk r o x y w):Cp 102 #[.agg (ja r x.v)] w fun e w'=>e=.returned (.bool ((decide (0<=r.tic)&&decide (r.tic<=1000))&&decide ((r.han.size:Int)<=255)))/\Below w.heap.size w w':=vk 69 (by decide) r o x y w hop ho hs
theorem b2J (r o:Wp.Rq)(x y:Sl)(w:World)(hop:r.op.toNat=84)(ho:ROk r o x y)(hs:RSk r o x y w):Cp 102 #[.agg (ja r x.v)] w fun e w'=>e=.returned (.bool (decide (1<=r.tic)&&decide (r.tic<=1000)))/\Below w.heap.size w w':=vk 84 (by decide) r o x y w hop ho hs
theorem a7q (r o:Wp.Rq)(x y:Sl)(w:World)(n:Nat)(hn:r.op.toNat=n)(h:n≠67/\n≠88/\n≠80/\n≠86/\n≠83/\n≠82/\n≠65/\n≠69/\n≠84/\n≠66)(ho:ROk r o x y)
  (hs:RSk r o x y w):
  Cp 102 #[.agg (ja r x.v)] w fun e w'=>e=.returned (.bool (false))/\Below w.heap.size w w':=by
 obtain⟨h67,h88,h80,h86,h83,h82,h65,h69,h84,h66⟩:=h;have HOP:Hid (r.op.toNat=n):=hn;have g67:(((n:Nat):Int) == 67)=false:=hne n 67 h67;have g88:(((n:Nat):Int) == 88)=false:=hne n 88 h88;have g80:(((n:Nat):Int) == 80)=false:=hne n 80 h80;have g86:(((n:Nat):Int) == 86)=false:=hne n 86 h86;have g83:(((n:Nat):Int) == 83)=false:=hne n 83 h83;have g82:(((n:Nat):Int) == 82)=false:=hne n 82 h82;have g65:(((n:Nat):Int) == 65)=false:=hne n 65 h65;have g69:(((n:Nat):Int) == 69)=false:=hne n 69 h69;have g84:(((n:Nat):Int) == 84)=false:=hne n 84 h84;have g66:(((n:Nat):Int) == 66)=false:=hne n 66 h66;clear hn h67 h88 h80 h86 h83 h82 h65 h69 h84 h66;have hinf:=jS;have HO:Hid (ROk r o x y):=ho;have HS:Hid (RSk r o x y w):=hs;clear ho hs;go_enter Tryz.func102,Tryz.ntmps102;go_wp2_with (refine wpList_load_row rfl 27 _ rfl w.heap.size rfl 27 (ja r x.v) (0,0) _ (heap_alloc_new _ _) Tryz.underlying27 rfl hinf ?_);refine(HO.out _).mono ?_;rintro e w1 ⟨rfl,hb1⟩;have HB1:Hid (Below w.heap.size w w1):=((Below.refl _ _).alloc (Nat.le_refl _) _).trans (hb1.mono (by simp));have HK1:Hid ((ke w1 (ja o y.v)).heap[w.heap.size]?=some (.cells (ja r x.v) 27 (0,0))/\w.heap.size<w1.heap.size):=by
  have h1:w1.heap[w.heap.size]?=some (.cells (ja r x.v) 27 (0,0)):=by rw[hb1.block _ (by simp)];exact heap_alloc_new _ _
  have h2:w.heap.size<w1.heap.size:=(Array.getElem?_eq_some_iff.1 h1).1;exact⟨((jz w1 _).block _ h2).trans h1,h2⟩
 clear hb1;go_wp2_with (first|(refine wpList_store_row rfl 27 _ _ rfl w1.heap.size (ja o y.v) rfl rfl 27 _ (heap_alloc_new _ _) hinf rfl (jC _ _) ?_)|(refine wpList_load_row rfl 27 (.tmp 3) rfl w1.heap.size rfl 27 (ja o y.v) (0,0) _ (jT _ _) Tryz.underlying27 rfl hinf ?_)|(refine wpList_load_row rfl 27 (.tmp 1) rfl w.heap.size rfl 27 (ja r x.v) (0,0) _ HK1.out.1 Tryz.underlying27 rfl hinf ?_));refine(HS.out (ke w1 (ja o y.v)) (HB1.out.trans ((jz _ _).mono HB1.out.size))).mono ?_;rintro e w2 ⟨rfl,hb2⟩;rw[qI]at hb2;have HB2:Hid (Below w.heap.size w w2):=(HB1.out.trans ((jz w1 (ja o y.v)).mono HB1.out.size)).trans (hb2.mono (by have:=HB1.out.size;omega));have HK2:Hid (Blk w2 w.heap.size r x):=(hb2.block _ (by have:=HK1.out.2;omega)).trans HK1.out.1;clear hb2;have hq:w2.cell? ⟨w.heap.size,1,none⟩=some (.int .u8 (r.q.toNat:Int)):=HK2.out.box 1 _ rfl;have hp:w2.cell? ⟨w.heap.size,0,none⟩=some (.int .u8 (n:Int)):=by
  have h:w2.cell? ⟨w.heap.size,0,none⟩=some (.int .u8 (r.op.toNat:Int)):=HK2.out.box 0 _ rfl;rw[h,HOP.out]
 go_wp2_with (go_at_call 134;refine(zk r _).mono ?_;rintro e w' ⟨rfl,rfl⟩);go_ret;exact⟨rfl,HB2.out⟩
theorem b2D (r o:Wp.Rq)(x y:Sl)(w:World)(bs:List ByteArray)(hop:r.op.toNat=66)(hxn:x.n=bs.length)(hb:bs.length<=8796093022208)(hbs:∀s∈bs,s.size<=maxLen)(hS:Strs w x.a bs)(ho:ROk r o x y)
  (hs:RSk r o x y w):
  Cp 102 #[.agg (ja r x.v)] w fun e w'=>e=.returned (.bool (Wp.short bs&&(decide (1<=bs.length)&&decide (bs.length<=10))))/\Below w.heap.size w w':=by
 have HOP:Hid (r.op.toNat=66):=hop;have HBT:Hid (∀W,Below w.heap.size w W->Cp 137 #[.slice x.a x.n x.c] W fun e w'=>e=.returned (.bool (Wp.short bs&&(decide (1<=bs.length)&&decide (bs.length<=10))))/\w'=W):=fun W hW=>by
  have h:=a3m x.a x.c bs W hb hbs (hS.below hW);rw[<-hxn]at h ⊢;exact h
 clear hop hxn hb hbs hS;have hinf:=jS;have HO:Hid (ROk r o x y):=ho;have HS:Hid (RSk r o x y w):=hs;clear ho hs;go_enter Tryz.func102,Tryz.ntmps102;go_wp2_with (refine wpList_load_row rfl 27 _ rfl w.heap.size rfl 27 (ja r x.v) (0,0) _ (heap_alloc_new _ _) Tryz.underlying27 rfl hinf ?_);refine(HO.out _).mono ?_;rintro e w1 ⟨rfl,hb1⟩;have HB1:Hid (Below w.heap.size w w1):=((Below.refl _ _).alloc (Nat.le_refl _) _).trans (hb1.mono (by simp));have HK1:Hid ((ke w1 (ja o y.v)).heap[w.heap.size]?=some (.cells (ja r x.v) 27 (0,0))/\w.heap.size<w1.heap.size):=by
  have h1:w1.heap[w.heap.size]?=some (.cells (ja r x.v) 27 (0,0)):=by rw[hb1.block _ (by simp)];exact heap_alloc_new _ _
  have h2:w.heap.size<w1.heap.size:=(Array.getElem?_eq_some_iff.1 h1).1;exact⟨((jz w1 _).block _ h2).trans h1,h2⟩
 clear hb1;go_wp2_with (first|(refine wpList_store_row rfl 27 _ _ rfl w1.heap.size (ja o y.v) rfl rfl 27 _ (heap_alloc_new _ _) hinf rfl (jC _ _) ?_)|(refine wpList_load_row rfl 27 (.tmp 3) rfl w1.heap.size rfl 27 (ja o y.v) (0,0) _ (jT _ _) Tryz.underlying27 rfl hinf ?_)|(refine wpList_load_row rfl 27 (.tmp 1) rfl w.heap.size rfl 27 (ja r x.v) (0,0) _ HK1.out.1 Tryz.underlying27 rfl hinf ?_));refine(HS.out (ke w1 (ja o y.v)) (HB1.out.trans ((jz _ _).mono HB1.out.size))).mono ?_;rintro e w2 ⟨rfl,hb2⟩;rw[qI]at hb2;have HB2:Hid (Below w.heap.size w w2):=(HB1.out.trans ((jz w1 (ja o y.v)).mono HB1.out.size)).trans (hb2.mono (by have:=HB1.out.size;omega));have HK2:Hid (Blk w2 w.heap.size r x):=(hb2.block _ (by have:=HK1.out.2;omega)).trans HK1.out.1;clear hb2;have hq:w2.cell? ⟨w.heap.size,1,none⟩=some (.int .u8 (r.q.toNat:Int)):=HK2.out.box 1 _ rfl;have hp:w2.cell? ⟨w.heap.size,0,none⟩=some (.int .u8 66):=by
  have h:w2.cell? ⟨w.heap.size,0,none⟩=some (.int .u8 (r.op.toNat:Int)):=HK2.out.box 0 _ rfl;rw[h,HOP.out];rfl
 have c14:w2.cell? ⟨w.heap.size,14,none⟩=some (.slice x.a x.n x.c):=HK2.out.box 14 _ rfl;have HBT2:Hid (Cp 137 #[.slice x.a x.n x.c] w2 fun e w'=>e=.returned (.bool (Wp.short bs&&(decide (1<=bs.length)&&decide (bs.length<=10))))/\w'=w2):=HBT.out w2 HB2.out
 clear HBT;go_wp2_with (first|(go_at_call 134;refine(zk r _).mono ?_;rintro e w' ⟨rfl,rfl⟩)|(go_at_call 137;refine(HBT2.out).mono ?_;rintro e w' ⟨rfl,rfl⟩));go_ret;exact⟨rfl,HB2.out⟩
theorem b2I (r o:Wp.Rq)(x y:Sl)(w:World)(hop:r.op.toNat=83)(ho:ROk r o x y)
  (hs:RSk r o x y w):
  Cp 102 #[.agg (ja r x.v)] w fun e w'=>e=.returned (.bool (ltq r&&(decide (1<=(r.grp.size:Int))&&decide ((r.grp.size:Int)<=8))&&(decide (r.ded.size<=8)&&Wp.dedOk r.ded)&&decide ((r.bod.size:Int)<=255)))/\Below w.heap.size w w':=by
 have HOP:Hid (r.op.toNat=83):=hop;clear hop;have hinf:=jS;have HO:Hid (ROk r o x y):=ho;have HS:Hid (RSk r o x y w):=hs;clear ho hs;go_enter Tryz.func102,Tryz.ntmps102;go_wp2_with (refine wpList_load_row rfl 27 _ rfl w.heap.size rfl 27 (ja r x.v) (0,0) _ (heap_alloc_new _ _) Tryz.underlying27 rfl hinf ?_);refine(HO.out _).mono ?_;rintro e w1 ⟨rfl,hb1⟩;have HB1:Hid (Below w.heap.size w w1):=((Below.refl _ _).alloc (Nat.le_refl _) _).trans (hb1.mono (by simp));have HK1:Hid ((ke w1 (ja o y.v)).heap[w.heap.size]?=some (.cells (ja r x.v) 27 (0,0))/\w.heap.size<w1.heap.size):=by
  have h1:w1.heap[w.heap.size]?=some (.cells (ja r x.v) 27 (0,0)):=by rw[hb1.block _ (by simp)];exact heap_alloc_new _ _
  have h2:w.heap.size<w1.heap.size:=(Array.getElem?_eq_some_iff.1 h1).1;exact⟨((jz w1 _).block _ h2).trans h1,h2⟩
 clear hb1;go_wp2_with (first|(refine wpList_store_row rfl 27 _ _ rfl w1.heap.size (ja o y.v) rfl rfl 27 _ (heap_alloc_new _ _) hinf rfl (jC _ _) ?_)|(refine wpList_load_row rfl 27 (.tmp 3) rfl w1.heap.size rfl 27 (ja o y.v) (0,0) _ (jT _ _) Tryz.underlying27 rfl hinf ?_)|(refine wpList_load_row rfl 27 (.tmp 1) rfl w.heap.size rfl 27 (ja r x.v) (0,0) _ HK1.out.1 Tryz.underlying27 rfl hinf ?_));refine(HS.out (ke w1 (ja o y.v)) (HB1.out.trans ((jz _ _).mono HB1.out.size))).mono ?_;rintro e w2 ⟨rfl,hb2⟩;rw[qI]at hb2;have HB2:Hid (Below w.heap.size w w2):=(HB1.out.trans ((jz w1 (ja o y.v)).mono HB1.out.size)).trans (hb2.mono (by have:=HB1.out.size;omega));have HK2:Hid (Blk w2 w.heap.size r x):=(hb2.block _ (by have:=HK1.out.2;omega)).trans HK1.out.1;clear hb2;have hq:w2.cell? ⟨w.heap.size,1,none⟩=some (.int .u8 (r.q.toNat:Int)):=HK2.out.box 1 _ rfl;have hp:w2.cell? ⟨w.heap.size,0,none⟩=some (.int .u8 83):=by
  have h:w2.cell? ⟨w.heap.size,0,none⟩=some (.int .u8 (r.op.toNat:Int)):=HK2.out.box 0 _ rfl;rw[h,HOP.out];rfl
 have c9:w2.cell? ⟨w.heap.size,9,none⟩=some (.string r.grp):=HK2.out.box 9 _ rfl;have c10:w2.cell? ⟨w.heap.size,10,none⟩=some (.string r.ded):=HK2.out.box 10 _ rfl;have c11:w2.cell? ⟨w.heap.size,11,none⟩=some (.string r.bod):=HK2.out.box 11 _ rfl
 by_cases h0:r.ded.size=0
 ·have e0:(((r.ded.size:Nat):Int) == 0)=true:=by rw[h0];rfl
  have HD:Hid ((decide (r.ded.size<=8)&&Wp.dedOk r.ded)=true):=by
   show _=_
   rw[h0,Wp.dedOk,dif_neg (by omega)];rfl
  go_wp2_with (first|(go_at_call 134;refine(zk r _).mono ?_;rintro e w' ⟨rfl,rfl⟩)|(go_at_call 136;refine(a2S _ _ _ _).mono ?_;rintro e w' ⟨rfl,rfl⟩))
  all_goals
   go_ret;exact⟨js (by first|rfl|(rw[HD.out];simp_all<;>(intros;omega))|(simp_all<;>(intros;omega))),HB2.out⟩
 ·have e0:(((r.ded.size:Nat):Int) == 0)=false:=beq_eq_false_iff_ne.2 (by omega)
  by_cases h8:r.ded.size<=8
  ·have hz:0<r.ded.size:=by omega
   have HD:Hid ((decide (r.ded.size<=8)&&Wp.dedOk r.ded)=(((r.ded[0].toNat:Nat):Int) != 0)):=by
    show _=_
    rw[Wp.dedOk,dif_pos hz,decide_eq_true h8,Bool.true_and,Bool.eq_iff_iff];simp only[bne_iff_ne,ne_eq];exact not_congr ⟨fun h=>by rw[h];rfl,fun h=>UInt8.toNat_inj.1 (by
     have:r.ded[0].toNat=0:=by omega
     exact this)⟩
   go_wp2_with (first|(go_at_call 134;refine(zk r _).mono ?_;rintro e w' ⟨rfl,rfl⟩)|(go_at_call 136;refine(a2S _ _ _ _).mono ?_;rintro e w' ⟨rfl,rfl⟩))
   all_goals
    go_ret;exact⟨js (by first|rfl|(rw[HD.out];simp_all<;>(intros;omega))|(simp_all<;>(intros;omega))),HB2.out⟩
  ·have HD:Hid ((decide (r.ded.size<=8)&&Wp.dedOk r.ded)=false):=by
    show _=_
    rw[decide_eq_false h8];rfl
   go_wp2_with (first|(go_at_call 134;refine(zk r _).mono ?_;rintro e w' ⟨rfl,rfl⟩)|(go_at_call 136;refine(a2S _ _ _ _).mono ?_;rintro e w' ⟨rfl,rfl⟩))
   all_goals
    go_ret;exact⟨js (by first|rfl|(rw[HD.out];simp_all<;>(intros;omega))|(simp_all<;>(intros;omega))),HB2.out⟩
end Go.Proofs.YtbdobaapadlcjaaGreatDoor.Ref
