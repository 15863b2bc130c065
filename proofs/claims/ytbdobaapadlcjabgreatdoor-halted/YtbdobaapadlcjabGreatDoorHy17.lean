import Derived.Test.YtbdobaapadlcjabGreatDoorHy16
set_option maxHeartbeats 400000
set_option linter.unusedVariables false
set_option linter.unusedSimpArgs false
namespace Go.Proofs.YtbdobaapadlcjabGreatDoor
open Go.RowKit
variable {w w':World}{S:List Nat}
theorem flyAll_snoc (til:Int)(ms:List Ms)(zs:List Int)(z:Int):flyAll til ms (zs++[z])=flyAt til (flyAll til ms zs) z:=by
 simp[flyAll,List.foldl_append]
abbrev okL (l:List UInt8):ByteArray:=⟨(0::l).toArray⟩
theorem eg158:∀args w,(callFunc 171 args).run Tryz.prog w=.ok (.enter 171 args) w:=enters_of Tryz.func171 (by kernel_rfl) rfl
theorem Tab.tch (h:Tab w){S:List Nat}(ht:Tch S w w')(hS:∀k∈S,3<=k)(h3:3<=w.heap.size):Tab w':=h.below (B:=3) (ht.below hS h3) (by decide)
theorem Lays.tch {B:Nat}(h:Lays B w){S:List Nat}(ht:Tch S w w')(hS:∀k∈S,B<=k)(hB:B<=w.heap.size):Lays B w':=h.below (ht.below hS hB)
end Go.Proofs.YtbdobaapadlcjabGreatDoor
namespace Go.Proofs.YtbdobaapadlcjabGreatDoor
open Go.Shelf Go.RowKit Go.Lib
end Go.Proofs.YtbdobaapadlcjabGreatDoor
namespace Go.Proofs.YtbdobaapadlcjabGreatDoor
open Go.RowKit
theorem went_walk (K:World->Prop)(gs gl st:Nat)(now:Int)(w:World)(hgs:w.heap[gs]?=some (.cells #[.pointer (some ⟨st,0,none⟩)] 57 (0,0)))(hgl:w.heap[gl]?=some (.cells #[.int .i64 now] 3 (0,0)))
  (hS:Calls Tryz.prog 174 #[.pointer (some ⟨st,0,none⟩),.int .i64 now] w fun e w'=>e=.returned (.tuple #[])/\K w'):
  Calls Tryz.prog 173 #[.pointer (some ⟨gs,0,none⟩),.pointer (some ⟨gl,0,none⟩)] w fun e w'=>e=.returned (.tuple #[])/\K w':=by
 have c1:=cell_of_one hgs;have c2:=cell_of_one hgl;have HS:=zH hS;clear hS hgs hgl;go_enter Tryz.func173,Tryz.ntmps173;go_wp2_with (go_at_call 174;refine HS.out.mono ?_;rintro e w' ⟨rfl,hk⟩);go_end0;exact⟨rfl,by assumption⟩
theorem eg212:∀args w,(callFunc 165 args).run Tryz.prog w=.ok (.enter 165 args) w:=enters_of Tryz.func165 (by kernel_rfl) rfl
theorem ansL_pos (Q:QM)(cnt k:Nat):0<(ansL Q cnt k).length:=by
 unfold ansL;rw[List.length_append,lowB_length];omega
end Go.Proofs.YtbdobaapadlcjabGreatDoor
namespace Go.Proofs.YtbdobaapadlcjabGreatDoor.Keep
open Go.RowKit
def sh (s:ByteArray)(n:Nat):ByteArray:=if n<s.size then s.extract 0 n else s
theorem sh_size (s:ByteArray)(n:Nat):(sh s n).size<=n:=by
 unfold sh
 split
 ·simp;omega
 ·omega
theorem sh_pos (s:ByteArray)(n:Nat)(h:0<s.size)(hn:0<n):0<(sh s n).size:=by
 unfold sh
 split
 ·simp;omega
 ·exact h
theorem short_any (s:ByteArray)(n:Nat)(w:World)(hs:s.size<=maxLen)(hn:n<=1000):
  zE 41 #[.string s,.int .i64 (n:Int)] w (.string (sh s n)):=by
 unfold maxLen at hs
 by_cases h:n<s.size
 ·have hv:Hid (sh s n=s.extract 0 n):=by show _=_;rw[sh,if_pos h]
  go_enter Tryz.func41,Tryz.ntmps41
  go_wp2
  go_ret;exact⟨ret_str hv.out.symm,rfl⟩
 ·have hv:Hid (sh s n=s):=by show _=_;rw[sh,if_neg h]
  go_enter Tryz.func41,Tryz.ntmps41
  go_wp2
  go_ret;exact⟨ret_str hv.out.symm,rfl⟩
theorem letter_eq (c:UInt8)(w:World):Calls Tryz.prog 38 #[.int .u8 (c.toNat:Int)] w fun e w'=>(∃d:UInt8,e=.returned (.int .u8 (d.toNat:Int))/\d.toNat=97+c.toNat % 8)/\w'=w:=by
 have hc:=c.toNat_lt;generalize c.toNat=n at hc;go_enter Tryz.func38,Tryz.ntmps38
 go_wp2
 go_ret;have h:(UInt8.ofNat (97+n % 8)).toNat=97+n % 8:=UInt8.toNat_ofNat_of_lt' (by show _<256;omega);refine⟨⟨UInt8.ofNat (97+n % 8),?_,h⟩,rfl⟩;rw[h];exact ret_int (by omega)
theorem letter_any (c:UInt8)(w:World):Calls Tryz.prog 38 #[.int .u8 (c.toNat:Int)] w fun e w'=>(∃d:UInt8,e=.returned (.int .u8 (d.toNat:Int))/\97<=d.toNat/\d.toNat<=104)/\w'=w:=by
 have hc:=c.toNat_lt;generalize c.toNat=n at hc;go_enter Tryz.func38,Tryz.ntmps38
 go_wp2
 go_ret;refine⟨⟨UInt8.ofNat (97+n % 8),?_,?_,?_⟩,rfl⟩
 ·have h:(UInt8.ofNat (97+n % 8)).toNat=97+n % 8:=UInt8.toNat_ofNat_of_lt' (by show _<256;omega);rw[h];exact ret_int (by omega)
 ·have h:(UInt8.ofNat (97+n % 8)).toNat=97+n % 8:=UInt8.toNat_ofNat_of_lt' (by show _<256;omega);omega
 ·have h:(UInt8.ofNat (97+n % 8)).toNat=97+n % 8:=UInt8.toNat_ofNat_of_lt' (by show _<256;omega);omega
theorem named_any (s:ByteArray)(w:World)(hs:s.size<=maxLen):
  Calls Tryz.prog 39 #[.string s] w fun e w'=>(∃t:ByteArray,e=.returned (.string t)/\1<=t.size/\t.size<=8)/\w'=w:=by
 by_cases h:0<s.size
 ·have he:=str_ne h;have hsh:Hid (zE 41 #[.string s,.int .i64 8] w (.string (sh s 8))):=short_any s 8 w hs (by decide);go_enter Tryz.func39,Tryz.ntmps39;go_wp2_with (go_at_call 41;refine(hsh.out).mono ?_;rintro e w' ⟨rfl,rfl⟩);go_ret;exact⟨⟨_,rfl,sh_pos s 8 h (by decide),sh_size s 8⟩,rfl⟩
 ·have he:=str_em h;go_enter Tryz.func39,Tryz.ntmps39
  go_wp2
  go_ret;exact⟨⟨_,rfl,by decide,by decide⟩,rfl⟩
theorem dedOk_head (s:ByteArray)(c:UInt8)(l:List UInt8)(h:s.data.toList=c::l)(hc:c≠0):Wp.dedOk s=true:=by
 unfold Wp.dedOk
 by_cases hs:0<s.size
 ·rw[dif_pos hs];have e:s[0]=s.data.toList[0]'(by rw[h];simp):=rfl;have e2:s.data.toList[0]'(by rw[h];simp)=c:=by simp[h]
  rw[e,e2];simpa using hc
 ·rw[dif_neg hs]
theorem dedup_any (s:ByteArray)(w:World)(hs:s.size<=maxLen):
  Calls Tryz.prog 40 #[.string s] w fun e w'=>(∃t:ByteArray,e=.returned (.string t)/\t.size<=8/\Wp.dedOk t=true)/\w'=w:=by
 have hsh:Hid (zE 41 #[.string s,.int .i64 8] w (.string (sh s 8))):=short_any s 8 w hs (by decide);have hz:=sh_size s 8;generalize sh s 8=t at hsh hz
 by_cases h:0<t.size
 ·have he:=str_ne h
  by_cases h0:t[0]=0
  ·have hb:(((t[0].toNat:Nat):Int) == 0)=true:=by rw[h0];rfl
   go_enter Tryz.func40,Tryz.ntmps40;go_wp2_with (go_at_call 41;refine(hsh.out).mono ?_;rintro e w' ⟨rfl,rfl⟩);go_ret;refine⟨⟨_,rfl,?_,?_⟩,rfl⟩
   ·simp[ByteArray.size_append]
    show 1+_<=8
    omega
   ·exact dedOk_head _ 48 (t.extract 1 t.size).data.toList (by simp[ByteArray.data_append]) (by decide)
  ·have hb:(((t[0].toNat:Nat):Int) == 0)=false:=by
    rw[beq_eq_false_iff_ne];intro e;exact h0 (UInt8.toNat_inj.1 (by simpa using e))
   go_enter Tryz.func40,Tryz.ntmps40;go_wp2_with (go_at_call 41;refine(hsh.out).mono ?_;rintro e w' ⟨rfl,rfl⟩);go_ret;exact⟨⟨_,rfl,hz,by rw[Wp.dedOk,dif_pos h];simpa using h0⟩,rfl⟩
 ·have he:=str_em h;go_enter Tryz.func40,Tryz.ntmps40;go_wp2_with (go_at_call 41;refine(hsh.out).mono ?_;rintro e w' ⟨rfl,rfl⟩);go_ret;exact⟨⟨_,rfl,hz,by rw[Wp.dedOk,dif_neg h]⟩,rfl⟩
structure Szs (r:Wp.Rq):Prop where
 grp:r.grp.size<=maxLen
 ded:r.ded.size<=maxLen
 bod:r.bod.size<=maxLen
 att:r.att.size<=maxLen
 han:r.han.size<=maxLen
def Shaped (w:World)(e:Ending)(w':World):Prop:=
 ∃(r:Wp.Rq) (x:Sl) (bs:List ByteArray),e=.returned (.agg (cellsOf r x.v))/\rightW r x (Wp.short bs)=true/\Wf r/\x.n=bs.length/\bs.length<=10/\FStrs w.heap.size w' x.a bs
theorem fits_of (r:Wp.Rq)(n:Nat)(b:Bool)(f:Nat)(h1:f≠1)(h10:f≠10)(h14:f≠14)(ha:Wp.least f<=r.measure n f)(hb:r.measure n f<=Wp.most f):r.fits n b f=true:=by
 unfold Wp.Rq.fits;rw[if_neg (fun e=>h1 e.1),if_neg (by omega),if_neg (by omega),if_neg h1,if_neg h10,if_neg h14]
theorem fits_dead (r:Wp.Rq)(n:Nat)(b:Bool)(h:r.d=45\/97<=r.d.toNat/\r.d.toNat<=104/\r.d≠r.q):r.fits n b 1=true:=by
 unfold Wp.Rq.fits
 by_cases h0:r.d=45
 ·rw[if_pos ⟨rfl,h0⟩]
 ·rw[if_neg (fun e=>h0 e.2)];obtain⟨h1,h2,h3⟩:=h.resolve_left h0;have e1:r.measure n 1=(r.d.toNat:Int):=rfl;have e2:Wp.least 1=97:=rfl;have e3:Wp.most 1=104:=rfl;rw[e1,e2,e3,if_neg (by omega),if_neg (by omega),if_pos rfl];simpa using h3
theorem fits_dedup (r:Wp.Rq)(n:Nat)(b:Bool)(h:r.ded.size<=8)(hd:Wp.dedOk r.ded=true):r.fits n b 10=true:=by
 unfold Wp.Rq.fits;have e1:r.measure n 10=(r.ded.size:Int):=rfl;have e2:Wp.least 10=0:=rfl;have e3:Wp.most 10=8:=rfl;rw[if_neg (fun e=>by cases e.1),e1,e2,e3,if_neg (by omega),if_neg (by omega),if_neg (by decide),if_pos rfl];exact hd
theorem wf_small (r:Wp.Rq)(h1:0<=r.vis/\r.vis<=1001)(h2:0<=r.win/\r.win<=1001)(h3:0<=r.rcv/\r.rcv<=1001)(h4:0<=r.quo/\r.quo<=1001)(h5:0<=r.mx/\r.mx<=1001)(h6:0<=r.tic/\r.tic<=1001):Wf r:=by
 constructor<;>unfold i64<;>omega
theorem zz:(0:Int)<=0/\(0:Int)<=1001:=by decide
theorem heap3 (w:World)(A B C:Obj):(((w.alloc A).alloc B).alloc C).heap[w.heap.size+1]?=some B:=by
 rw[Below.heap_alloc _ _ _ (by simp),heap_alloc2_new]
theorem below3 (w:World)(A B C:Obj):Below w.heap.size w (((w.alloc A).alloc B).alloc C):=
 (((Below.refl _ _).alloc (Nat.le_refl _) _).alloc (by simp) _).alloc (by simp;omega) _
theorem shaped_end {w w':World}(r:Wp.Rq)(hr:rightW r ⟨none,0,0⟩ (Wp.short [])=true)(hw:Wf r):Shaped w (.returned (.agg (cellsOf r (Sl.v ⟨none,0,0⟩)))) w':=
 ⟨r,⟨none,0,0⟩,[],rfl,hr,hw,rfl,by decide,fun j hj=>absurd hj (by simp)⟩
end Go.Proofs.YtbdobaapadlcjabGreatDoor.Keep
namespace Go.Proofs.YtbdobaapadlcjabGreatDoor
open Go.RowKit
variable {B:Nat}{w w':World}
structure Env (B:Nat)(w:World):Prop where
 lays:Lays B w
 tab:Tab w
 size:B<=w.heap.size
 three:3<=B
theorem Env.tch (h:Env B w){S:List Nat}(ht:Tch S w w')(hS:∀k∈S,B<=k):Env B w':=⟨Lays.tch h.lays ht hS h.size,h.tab.tch ht (fun k hk=>Nat.le_trans h.three (hS k hk)) (Nat.le_trans h.three h.size),Nat.le_trans h.size ht.size,h.three⟩
theorem Env.fr {T:List TypeId}(h:Env B w)(hf:Fr B T w w'):Env B w':=⟨h.lays.fr hf,h.tab.fr hf h.three,Nat.le_trans h.size hf.size,h.three⟩
end Go.Proofs.YtbdobaapadlcjabGreatDoor
namespace Go.Proofs.YtbdobaapadlcjabGreatDoor
open Go.RowKit Keep
theorem idxL_ex {α:Type}(p:α->Bool)(l:List α):0<=idxL p l↔∃x∈l,p x=true:=by
 constructor
 ·intro h
  by_cases hc:∃x∈l,p x=true
  ·exact hc
  ·have:idxL p l<0:=(idxL_neg p l).2 (fun x hx=>by
    cases hp:p x with
    | false=>rfl
    | true=>exact absurd ⟨x,hx,hp⟩ hc)
   omega
 ·rintro ⟨x,hx,hp⟩
  by_cases hc:idxL p l<0
  ·have:=(idxL_neg p l).1 hc x hx;rw[hp]at this
   cases this
  ·omega
theorem str_inj {a b:ByteArray}(h:a.toList=b.toList):a=b:=ByteArray.ext (Array.toList_inj.1 (by rw[<-ByteArray.toList_eq,<-ByteArray.toList_eq];exact h))
theorem isG_iff (g:ByteArray)(m:Ms):isG g m=true↔m.grp=g:=by
 unfold isG;rw[beq_iff_eq];exact⟨str_inj,fun h=>by rw[h]⟩
end Go.Proofs.YtbdobaapadlcjabGreatDoor
namespace Go.Proofs.YtbdobaapadlcjabGreatDoor
open Go.RowKit
variable {l:List Ms}{m a:Ms}{i:Nat}{Q:QM}{num:Int}{c:Nat->Option QM}
theorem isN_iff (n:Int)(m:Ms):isN n m=true↔m.num=n:=by
 show (m.num == n)=true↔_
 rw[beq_iff_eq]
abbrev Ups (l:List Ms):Prop:=l.Pairwise (fun a b=>a.num<b.num)
theorem find_num:∀(l:List Ms),Ups l->∀m∈l,l.find? (isN m.num)=some m
 | [],_,m,hm=>by simp at hm
 | a::r,hp,m,hm=>by
  rcases List.mem_cons.1 hm with rfl|hm
  ·simp[List.find?_cons]
  ·have h1:=(List.pairwise_cons.1 hp).1 m hm;have h2:isN m.num a=false:=by
    show (a.num == m.num)=false
    exact beq_eq_false_iff_ne.2 (by omega)
   rw[List.find?_cons,h2];exact find_num r (List.pairwise_cons.1 hp).2 m hm
theorem find_mem {n:Int}(h:l.find? (isN n)=some m):m∈l/\m.num=n:=⟨List.mem_of_find?_eq_some h,(isN_iff n m).1 (List.find?_some h)⟩
theorem num_inj (hp:Ups l){a b:Ms}(ha:a∈l)(hb:b∈l)(e:a.num=b.num):a=b:=by
 have h1:=find_num l hp a ha;have h2:=find_num l hp b hb;rw[e,h2]at h1;exact(Option.some.inj h1).symm
def tilM (num til:Int)(a:Ms):Ms:=if isN num a=true then {a with til:=til} else a
theorem tilM_num (num til:Int)(a:Ms):(tilM num til a).num=a.num:=by unfold tilM;split<;>rfl
theorem tilM_grp (num til:Int)(a:Ms):(tilM num til a).grp=a.grp:=by unfold tilM;split<;>rfl
theorem tilM_bod (num til:Int)(a:Ms):(tilM num til a).bod=a.bod:=by unfold tilM;split<;>rfl
theorem tilM_rcv (num til:Int)(a:Ms):(tilM num til a).rcv=a.rcv:=by unfold tilM;split<;>rfl
theorem tilM_til (num til:Int)(a:Ms):(tilM num til a).til=if a.num=num then til else a.til:=by
 unfold tilM
 by_cases h:a.num=num
 ·rw[if_pos ((isN_iff num a).2 h),if_pos h]
 ·rw[if_neg (fun e=>h ((isN_iff num a).1 e)),if_neg h]
theorem set_map (num til:Int):∀(l:List Ms) (m:Ms),Ups l->l.find? (isN num)=some m->l.set (idxL (isN num) l).toNat {m with til:=til}=l.map (tilM num til)
 | [],m,_,hf=>by simp at hf
 | a::r,m,hp,hf=>by
  obtain⟨h1,h2⟩:=List.pairwise_cons.1 hp
  by_cases ha:isN num a=true
  ·rw[List.find?_cons,ha]at hf;injection hf with hf;subst hf;have e:idxL (isN num) (a::r)=0:=by unfold idxL;rw[if_pos ha]
   rw[e,List.map_cons];have e2:r.map (tilM num til)=r:=by
    rw[List.map_congr_left (g:=id) (fun x hx=>?_),List.map_id];have:=h1 x hx;have:=(isN_iff num a).1 ha;exact if_neg (fun e=>by have:=(isN_iff num x).1 e;omega)
   rw[e2]
   show {a with til:=til}::r=_
   unfold tilM;rw[if_pos ha]
  ·have ha':isN num a=false:=by simpa using ha
   rw[List.find?_cons,ha']at hf;have ih:=set_map num til r m h2 hf;obtain⟨p,hp1,hp2,_⟩:=find_idx hf;have e:idxL (isN num) (a::r)=((p+1:Nat):Int):=by
    unfold idxL;rw[if_neg ha,hp1,if_neg (by omega)];omega
   rw[e,List.map_cons];rw[hp1]at ih
   show (a::r).set (p+1) _=_
   rw[List.set_cons_succ];have e3:tilM num til a=a:=by unfold tilM;rw[if_neg ha]
   rw[e3];congr 1
theorem til_map (Q:QM)(h:Ups Q.ms)(num til:Int):(tilQ Q num til).ms=Q.ms.map (tilM num til):=by
 unfold tilQ
 cases hf:Q.ms.find? (isN num) with
 | none=>
  have h1:=List.find?_eq_none.1 hf
  show Q.ms=_
  rw[List.map_congr_left (g:=id) (fun x hx=>?_),List.map_id];exact if_neg (h1 x hx)
 | some m=>exact set_map num til Q.ms m h hf
theorem erase_filter (num:Int):∀(l:List Ms) (m:Ms),Ups l->l.find? (isN num)=some m->l.eraseIdx (idxL (isN num) l).toNat=l.filter (fun a=>!isN num a)
 | [],m,_,hf=>by simp at hf
 | a::r,m,hp,hf=>by
  obtain⟨h1,h2⟩:=List.pairwise_cons.1 hp
  by_cases ha:isN num a=true
  ·have e:idxL (isN num) (a::r)=0:=by unfold idxL;rw[if_pos ha]
   have e2:r.filter (fun a=>!isN num a)=r:=by
    rw[List.filter_eq_self];intro x hx;have:=h1 x hx;have:=(isN_iff num a).1 ha;have h3:isN num x=false:=by
     show (x.num == num)=false
     exact beq_eq_false_iff_ne.2 (by omega)
    rw[h3];rfl
   rw[e,List.filter_cons,ha,e2];rfl
  ·have ha':isN num a=false:=by simpa using ha
   rw[List.find?_cons,ha']at hf;have ih:=erase_filter num r m h2 hf;obtain⟨p,hp1,hp2,_⟩:=find_idx hf;have e:idxL (isN num) (a::r)=((p+1:Nat):Int):=by
    unfold idxL;rw[if_neg ha,hp1,if_neg (by omega)];omega
   rw[hp1]at ih;rw[e,List.filter_cons,ha',<-ih];rfl
theorem ups_map (h:Ups l)(f:Ms->Ms)(hf:∀a,(f a).num=a.num):Ups (l.map f):=by
 rw[Ups,List.pairwise_map];exact h.imp (fun {a b} hab=>by rw[hf,hf];exact hab)
theorem ups_filter (h:Ups l)(p:Ms->Bool):Ups (l.filter p):=List.Pairwise.sublist List.filter_sublist h
structure MsG (nx:Nat)(m:Ms):Prop where
 num:1<=m.num/\m.num<(nx:Int)
 grp:1<=m.grp.size/\m.grp.size<=8
 bod:m.bod.size<=40
 rcv:0<=m.rcv/\m.rcv<=65535
 til:0<=m.til/\m.til<=61000
theorem MsG.mono {nx nx':Nat}(h:MsG nx m)(hn:nx<=nx'):MsG nx' m:=⟨⟨h.num.1,by have:=h.num.2;omega⟩,h.grp,h.bod,h.rcv,h.til⟩
structure CfW (i:Nat)(c:Wp.Rq):Prop where
 q:c.q.toNat=97+i
 d:DeadOk i c
 vis:1<=c.vis/\c.vis<=1000
 win:0<=c.win/\c.win<=1000
 rcv:0<=c.rcv/\c.rcv<=9
 quo:1<=c.quo/\c.quo<=50
structure QW (i:Nat)(Q:QM):Prop where
 c:CfW i Q.c
 nx:1<=Q.next/\Q.next<=201
 mq:(Q.ms.length:Int)<=Q.c.quo
 nums:Ups Q.ms
 mok:∀m∈Q.ms,MsG Q.next m
 hd:∀m∈Q.ms,0<m.til->∀m'∈Q.ms,m'.grp=m.grp->m.num<=m'.num
 rn:Q.rs.Nodup
 rr:∀g,g∈Q.rs↔(∃m∈Q.ms,m.grp=g)/\∀m∈Q.ms,m.grp=g->m.til=0
 dn:Q.ds.Pairwise (fun a b=>a.num<b.num)
 dok:∀d∈Q.ds,d.id.size<=8/\(1<=d.num/\d.num<(Q.next:Int))/\0<=d.til/\d.til<=62000
 al:Q.ats.length<=20
 aok:∀a∈Q.ats,(1<=a.id.size/\a.id.size<=8)/\(0<a.ans.size/\a.ans.size<=600)/\0<=a.til/\a.til<=62000
theorem QW.ml (h:QW i Q):Q.ms.length<=50:=by have:=h.mq;have:=h.c.quo;omega
theorem nodup_len {α β:Type} [DecidableEq β] (f:α->β):∀(r:List β) (l:List α),r.Nodup->(∀g∈r,∃m∈l,f m=g)->r.length<=l.length
 | [],l,_,_=>by simp
 | g::r,l,hn,h=>by
  obtain⟨m,hm,hg⟩:=h g List.mem_cons_self;obtain⟨h1,h2⟩:=List.nodup_cons.1 hn;have h3:=nodup_len f r (l.filter (fun x=>decide (f x≠g))) h2 (fun g' hg'=>by
   obtain⟨m',hm',he⟩:=h g' (List.mem_cons_of_mem _ hg');refine⟨m',List.mem_filter.2 ⟨hm',?_⟩,he⟩;rw[he];simp;intro e;rw[e]at hg';exact h1 hg')
  have h4:(l.filter (fun x=>decide (f x≠g))).length<l.length:=by
   have h5:=List.length_filter_lt_length_iff_exists (p:=fun x=>decide (f x≠g)) (l:=l);exact h5.2 ⟨m,hm,by simp[hg]⟩
  rw[List.length_cons];omega
theorem QW.rl (h:QW i Q):Q.rs.length<=Q.ms.length:=nodup_len Ms.grp Q.rs Q.ms h.rn (fun g hg=>((h.rr g).1 hg).1)
theorem ups_len:∀(l:List Dd) (a b:Int),l.Pairwise (fun x y=>x.num<y.num)->(∀d∈l,a<=d.num/\d.num<b)->a<=b->(l.length:Int)<=b-a
 | [],a,b,_,_,h=>by simp;omega
 | d::r,a,b,hp,h,hab=>by
  obtain⟨h1,h2⟩:=List.pairwise_cons.1 hp;have h3:=h d List.mem_cons_self;have h4:=ups_len r (d.num+1) b h2 (fun x hx=>⟨by have:=h1 x hx;omega,(h x (List.mem_cons_of_mem _ hx)).2⟩) (by omega);rw[List.length_cons];omega
theorem QW.dl (h:QW i Q):Q.ds.length<=200:=by
 have h1:=ups_len Q.ds 1 (Q.next:Int) h.dn (fun d hd=>(h.dok d hd).2.1) (by have:=h.nx.1;omega);have:=h.nx;omega
theorem QW.rsz (h:QW i Q):∀g∈Q.rs,g.size<=8:=fun g hg=>by
 obtain⟨m,hm,he⟩:=((h.rr g).1 hg).1;rw[<-he];exact(h.mok m hm).grp.2
theorem QW.ok (h:QW i Q):QOk Q where
 c:=⟨⟨by have:=h.c.vis;omega,by have:=h.c.vis;omega⟩,⟨by have:=h.c.win;omega,by have:=h.c.win;omega⟩,⟨by have:=h.c.rcv;omega,by have:=h.c.rcv;omega⟩,⟨by have:=h.c.quo;omega,by have:=h.c.quo;omega⟩⟩
 nx:=by have:=h.nx;omega
 ml:=h.ml
 ms:=fun m hm=>by
  have h1:=h.mok m hm;have h2:=h1.num;have h3:=h1.rcv;have h4:=h1.til;have h5:=h.nx;exact⟨⟨by omega,by omega⟩,⟨by omega,by omega⟩,⟨by omega,by omega⟩,h1.grp.2,h1.bod⟩
 rl:=Nat.le_trans h.rl h.ml
 rs:=h.rsz
 dl:=h.dl
 ds:=fun d hd=>by
  have h1:=h.dok d hd;have h5:=h.nx;exact⟨h1.1,⟨by omega,by omega⟩,⟨by omega,by omega⟩⟩
 al:=h.al
 ats:=fun a ha=>by
  have h1:=h.aok a ha;exact⟨h1.1.2,⟨by omega,by omega⟩,h1.2.1.2⟩
theorem QW.one (h:QW i Q){a b:Ms}(ha:a∈Q.ms)(hb:b∈Q.ms)(ta:0<a.til)(tb:0<b.til)(e:a.grp=b.grp):a=b:=
 num_inj h.nums ha hb (by have h1:=h.hd a ha ta b hb e.symm;have h2:=h.hd b hb tb a ha e;omega)
theorem tilQ_eq (Q:QM)(h:Ups Q.ms)(num til:Int):tilQ Q num til={Q with ms:=Q.ms.map (tilM num til)}:=by
 have h1:=til_map Q h num til;unfold tilQ at h1 ⊢
 cases hf:Q.ms.find? (isN num) with
 | none=>
  simp only[hf]at h1 ⊢;rw[<-h1]
 | some m=>
  simp only[hf]at h1 ⊢;rw[<-h1]
theorem QW.msT (h:QW i Q){num til:Int}(ht:0<=til/\til<=61000):∀x∈Q.ms.map (tilM num til),MsG Q.next x:=fun x hx=>by
 obtain⟨a,ha,rfl⟩:=List.mem_map.1 hx;have h1:=h.mok a ha;refine⟨by rw[tilM_num];exact h1.num,by rw[tilM_grp];exact h1.grp,by rw[tilM_bod];exact h1.bod,by rw[tilM_rcv];exact h1.rcv,?_⟩;rw[tilM_til]
 split
 ·exact ht
 ·exact h1.til
theorem QW.nr (h:QW i Q){m:Ms}(hm:m∈Q.ms)(ht:0<m.til):m.grp∉Q.rs:=fun hg=>by
 have:=((h.rr _).1 hg).2 m hm rfl;omega
theorem QW.zero (h:QW i Q){m:Ms}(hm:m∈Q.ms)(ht:0<m.til){b:Ms}(hb:b∈Q.ms)(hg:b.grp=m.grp):(tilM m.num 0 b).til=0:=by
 rw[tilM_til]
 split
 ·rfl
 ·rename_i hne
  have h1:=(h.mok b hb).til
  by_cases h2:0<b.til
  ·exact absurd (congrArg Ms.num (h.one hb hm h2 ht hg)) hne
  ·omega
theorem QW.hdT (h:QW i Q)(num:Int):∀x∈Q.ms.map (tilM num 0),0<x.til->∀y∈Q.ms.map (tilM num 0),y.grp=x.grp->x.num<=y.num:=fun x hx ht y hy he=>by
 obtain⟨a,ha,rfl⟩:=List.mem_map.1 hx;obtain⟨b,hb,rfl⟩:=List.mem_map.1 hy;rw[tilM_grp,tilM_grp]at he;rw[tilM_num,tilM_num];rw[tilM_til]at ht
 split at ht
 ·omega
 ·exact h.hd a ha ht b hb he
theorem QW.ready (h:QW i Q){num:Int}{m:Ms}(hf:Q.ms.find? (isN num)=some m)(ht:0<m.til):QW i (readyQ (tilQ Q num 0) m.grp):=by
 obtain⟨hm,hn⟩:=find_mem hf;subst hn;rw[tilQ_eq Q h.nums];refine {c:=h.c,nx:=h.nx,mq:=by simpa [readyQ]using h.mq,nums:=ups_map h.nums _ (tilM_num _ _),mok:=h.msT ⟨by omega,by omega⟩,hd:=h.hdT m.num,rn:=?_,rr:=?_,dn:=h.dn,dok:=h.dok,al:=h.al,aok:=h.aok}
 ·show (Q.rs++[m.grp]).Nodup
  rw[List.nodup_append];refine⟨h.rn,by simp,fun a ha b hb=>?_⟩
  simp at hb;subst hb;exact fun e=>h.nr hm ht (e▸ha)
 ·intro g
  show g∈Q.rs++[m.grp]↔(∃x∈Q.ms.map (tilM m.num 0),x.grp=g)/\∀x∈Q.ms.map (tilM m.num 0),x.grp=g->x.til=0
  constructor
  ·intro hg;rcases List.mem_append.1 hg with hg|hg
   ·obtain⟨⟨a,ha,he⟩,hz⟩:=(h.rr g).1 hg;refine⟨⟨tilM m.num 0 a,List.mem_map_of_mem ha,by rw[tilM_grp];exact he⟩,fun x hx he=>?_⟩
    obtain⟨b,hb,rfl⟩:=List.mem_map.1 hx;rw[tilM_grp]at he;rw[tilM_til]
    split
    ·rfl
    ·exact hz b hb he
   ·simp at hg;subst hg;refine⟨⟨tilM m.num 0 m,List.mem_map_of_mem hm,tilM_grp _ _ _⟩,fun x hx he=>?_⟩
    obtain⟨b,hb,rfl⟩:=List.mem_map.1 hx;rw[tilM_grp]at he;exact h.zero hm ht hb he
  ·rintro ⟨⟨x,hx,hxg⟩,hz⟩
   by_cases e:g=m.grp
   ·exact List.mem_append.2 (.inr (by simp[e]))
   ·refine List.mem_append.2 (.inl ((h.rr g).2 ⟨?_,fun b hb he=>?_⟩))
    ·obtain⟨a,ha,rfl⟩:=List.mem_map.1 hx;rw[tilM_grp]at hxg;exact⟨a,ha,hxg⟩
    ·have h1:=hz _ (List.mem_map_of_mem hb) (by rw[tilM_grp];exact he);rw[tilM_til]at h1
     split at h1
     ·rename_i hn
      have:=num_inj h.nums hb hm hn;subst this;exact absurd he.symm e
     ·exact h1
theorem QW.out (h:QW i Q){num:Int}{m:Ms}(hf:Q.ms.find? (isN num)=some m)(ht:0<m.til):QW i {tilQ Q num 0 with ms:=(tilQ Q num 0).ms.filter (fun x=>!isG m.grp x)}:=by
 obtain⟨hm,hn⟩:=find_mem hf;subst hn;rw[tilQ_eq Q h.nums];have hmem:∀x,x∈(Q.ms.map (tilM m.num 0)).filter (fun x=>!isG m.grp x)↔x∈Q.ms.map (tilM m.num 0)/\x.grp≠m.grp:=fun x=>by
  rw[List.mem_filter];refine and_congr_right (fun _=>?_);rw[Bool.not_eq_true',<-Bool.not_eq_true,isG_iff]
 refine {c:=h.c,nx:=h.nx,mq:=?_,nums:=ups_filter (ups_map h.nums _ (tilM_num _ _)) _,mok:=fun x hx=>h.msT ⟨by omega,by omega⟩ x ((hmem x).1 hx).1,hd:=fun x hx ht y hy he=>h.hdT m.num x ((hmem x).1 hx).1 ht y ((hmem y).1 hy).1 he,rn:=h.rn,rr:=?_,dn:=h.dn,dok:=h.dok,al:=h.al,aok:=h.aok}
 ·have h1:=List.length_filter_le (fun x=>!isG m.grp x) (Q.ms.map (tilM m.num 0));have h2:=h.mq;rw[List.length_map]at h1
  show (((Q.ms.map (tilM m.num 0)).filter (fun x=>!isG m.grp x)).length:Int)<=Q.c.quo
  omega
 ·intro g
  show g∈Q.rs↔(∃x∈(Q.ms.map (tilM m.num 0)).filter (fun x=>!isG m.grp x),x.grp=g)/\∀x∈(Q.ms.map (tilM m.num 0)).filter (fun x=>!isG m.grp x),x.grp=g->x.til=0
  constructor
  ·intro hg;obtain⟨⟨a,ha,he⟩,hz⟩:=(h.rr g).1 hg;have hne:g≠m.grp:=fun e=>h.nr hm ht (e▸hg)
   refine⟨⟨tilM m.num 0 a,(hmem _).2 ⟨List.mem_map_of_mem ha,by rw[tilM_grp,he];exact hne⟩,by rw[tilM_grp];exact he⟩,fun x hx he=>?_⟩
   obtain⟨b,hb,rfl⟩:=List.mem_map.1 ((hmem x).1 hx).1;rw[tilM_grp]at he;rw[tilM_til]
   split
   ·rfl
   ·exact hz b hb he
  ·rintro ⟨⟨x,hx,hxg⟩,hz⟩;obtain⟨h1,h2⟩:=(hmem x).1 hx;obtain⟨a,ha,rfl⟩:=List.mem_map.1 h1;rw[tilM_grp]at hxg h2;refine(h.rr g).2 ⟨⟨a,ha,hxg⟩,fun b hb he=>?_⟩
   have h3:=hz (tilM m.num 0 b) ((hmem _).2 ⟨List.mem_map_of_mem hb,by rw[tilM_grp,he,<-hxg];exact h2⟩) (by rw[tilM_grp];exact he);rw[tilM_til]at h3
   split at h3
   ·rename_i hn
    have:=num_inj h.nums hb hm hn;subst this;rw[hxg]at h2;exact absurd he.symm h2
   ·exact h3
theorem QW.put (h:QW i Q){g b:ByteArray}(hq:(Q.ms.length:Int)+1<=Q.c.quo)(hn:Q.next<=200)(hg:1<=g.size/\g.size<=8)(hb:b.size<=40):QW i (putQ Q g b):=by
 have hmem:∀x,x∈Q.ms++[⟨(Q.next:Nat),g,b,0,0⟩]↔x∈Q.ms\/x=⟨(Q.next:Nat),g,b,0,0⟩:=fun x=>by simp
 have hnx:=h.nx;refine {c:=h.c,nx:=⟨by show 1<=Q.next+1;omega,by show Q.next+1<=201;omega⟩,mq:=by show ((Q.ms++[_]).length:Int)<=Q.c.quo;simpa using hq,nums:=?_,mok:=fun x hx=>?_,hd:=fun x hx ht y hy he=>?_,rn:=?_,rr:=?_,dn:=h.dn,dok:=fun d hd=>⟨(h.dok d hd).1,⟨(h.dok d hd).2.1.1,by have:=(h.dok d hd).2.1.2;show d.num<((Q.next+1:Nat):Int);omega⟩,(h.dok d hd).2.2⟩,al:=h.al,aok:=h.aok}
 ·show Ups (Q.ms++[_])
  rw[Ups,List.pairwise_append];refine⟨h.nums,by simp,fun a ha c hc=>?_⟩
  simp at hc;subst hc;exact(h.mok a ha).num.2
 ·rcases(hmem x).1 hx with hx|rfl
  ·exact(h.mok x hx).mono (by show Q.next<=Q.next+1;omega)
  ·exact⟨⟨by show (1:Int)<=(Q.next:Nat);omega,by show ((Q.next:Nat):Int)<((Q.next+1:Nat):Int);omega⟩,hg,hb,⟨by show (0:Int)<=0;omega,by show (0:Int)<=65535;omega⟩,⟨by show (0:Int)<=0;omega,by show (0:Int)<=61000;omega⟩⟩
 ·rcases(hmem x).1 hx with hx|rfl
  ·rcases(hmem y).1 hy with hy|rfl
   ·exact h.hd x hx ht y hy he
   ·have:=(h.mok x hx).num.2
    show x.num<=((Q.next:Nat):Int)
    omega
  ·exact absurd ht (by show ¬(0:Int)<0;omega)
 ·show (if idxL (isG g) Q.ms<0 then Q.rs++[g] else Q.rs).Nodup
  split
  ·rename_i hneg
   rw[List.nodup_append];refine⟨h.rn,by simp,fun a ha c hc=>?_⟩
   simp at hc;subst hc;intro e;subst e;obtain⟨⟨m,hm,he⟩,_⟩:=(h.rr a).1 ha;have:=(idxL_neg _ _).1 hneg m hm;rw[(isG_iff a m).2 he]at this;simp at this
  ·exact h.rn
 ·intro g'
  show g'∈(if idxL (isG g) Q.ms<0 then Q.rs++[g] else Q.rs)↔(∃x∈Q.ms++[⟨(Q.next:Nat),g,b,0,0⟩],x.grp=g')/\∀x∈Q.ms++[⟨(Q.next:Nat),g,b,0,0⟩],x.grp=g'->x.til=0
  have hall:(∀x∈Q.ms++[(⟨(Q.next:Nat),g,b,0,0⟩:Ms)],x.grp=g'->x.til=0)↔∀x∈Q.ms,x.grp=g'->x.til=0:=by
   constructor
   ·intro h1 x hx;exact h1 x ((hmem x).2 (.inl hx))
   ·intro h1 x hx he;rcases(hmem x).1 hx with hx|rfl
    ·exact h1 x hx he
    ·rfl
  rw[hall]
  by_cases hneg:idxL (isG g) Q.ms<0
  ·rw[if_pos hneg];have hno:∀m∈Q.ms,m.grp≠g:=fun m hm he=>by
    have:=(idxL_neg _ _).1 hneg m hm;rw[(isG_iff g m).2 he]at this;simp at this
   constructor
   ·intro hg';rcases List.mem_append.1 hg' with hg'|hg'
    ·obtain⟨⟨m,hm,he⟩,hz⟩:=(h.rr g').1 hg';exact⟨⟨m,(hmem m).2 (.inl hm),he⟩,hz⟩
    ·simp at hg';subst hg';exact⟨⟨_,(hmem _).2 (.inr rfl),rfl⟩,fun x hx he=>absurd he (hno x hx)⟩
   ·rintro ⟨⟨x,hx,he⟩,hz⟩;rcases(hmem x).1 hx with hx|rfl
    ·exact List.mem_append.2 (.inl ((h.rr g').2 ⟨⟨x,hx,he⟩,hz⟩))
    ·exact List.mem_append.2 (.inr (by simp[<-he]))
  ·rw[if_neg hneg];obtain⟨m0,hm0,he0⟩:=(idxL_ex (isG g) Q.ms).1 (by omega);rw[isG_iff]at he0;constructor
   ·intro hg';obtain⟨⟨m,hm,he⟩,hz⟩:=(h.rr g').1 hg';exact⟨⟨m,(hmem m).2 (.inl hm),he⟩,hz⟩
   ·rintro ⟨⟨x,hx,he⟩,hz⟩;refine(h.rr g').2 ⟨?_,hz⟩;rcases(hmem x).1 hx with hx|rfl
    ·exact⟨x,hx,he⟩
    ·exact⟨m0,hm0,he0.trans he⟩
theorem QW.putL {j:Nat}:∀(l:List Ms) {T:QM},QW j T->(T.ms.length:Int)+l.length<=T.c.quo->T.next+l.length<=201->(∀m∈l,(1<=m.grp.size/\m.grp.size<=8)/\m.bod.size<=40)->QW j (putL T l)
 | [],T,h,_,_,_=>h
 | m::l,T,h,h1,h2,h3=>by
  rw[List.length_cons]at h1 h2;have h4:=h3 m List.mem_cons_self;have hp:=h.put (g:=m.grp) (b:=m.bod) (by omega) (by omega) h4.1 h4.2;refine QW.putL l (T:=putQ T m.grp m.bod) hp ?_ ?_ (fun x hx=>h3 x (List.mem_cons_of_mem _ hx))
  ·show ((T.ms++[_]).length:Int)+l.length<=T.c.quo
   rw[List.length_append];simp;omega
  ·show T.next+1+l.length<=201
   omega
def WFc (c:Nat->Option QM):Prop:=∀i Q,i<8->c i=some Q->QW i Q
theorem WFc.set (h:WFc c){i:Nat}{Q:QM}(hQ:QW i Q):WFc (setC c i (some Q)):=fun j T hj hT=>by
 by_cases e:j=i
 ·subst e;rw[setC_same]at hT;injection hT with hT;exact hT▸hQ
 ·rw[setC_ne _ _ e]at hT;exact h j T hj hT
theorem find_til (h:Ups l){num num':Int}(hne:num'≠num){m:Ms}(hf:l.find? (isN num')=some m):(l.map (tilM num 0)).find? (isN num')=some m:=by
 obtain⟨hm,hn⟩:=find_mem hf;have e:tilM num 0 m=m:=by
  unfold tilM;rw[if_neg];intro e;have:=(isN_iff num m).1 e;omega
 have h1:=find_num _ (ups_map h (tilM num 0) (tilM_num _ _)) m (by rw[<-e];exact List.mem_map_of_mem hm);rw[<-hn];exact h1
theorem back_wf (hW:WFc c)(hi:i<8)(hQ:c i=some Q)(hf:Q.ms.find? (isN num)=some m)(ht:0<m.til):
  WFc (backC c i num)/\(∃Q',backC c i num i=some Q'/\Q'.c=Q.c/\∀num',num'≠num->∀m',Q.ms.find? (isN num')=some m'->0<m'.til->Q'.ms.find? (isN num')=some m'):=by
 have h:=hW i Q hi hQ;obtain⟨hm,hn⟩:=find_mem hf;have hb:backC c i num=match deadC c Q.c with
   | none=>setC c i (some (readyQ (tilQ Q num 0) m.grp))
   | some (j,T)=>if upQ Q.c m.rcv=true/\roomQ T (cntG m.grp (tilQ Q num 0).ms)=true then
     setC (setC c i (some {tilQ Q num 0 with ms:=(tilQ Q num 0).ms.filter (fun x=>!isG m.grp x)})) j (some (putL T ((tilQ Q num 0).ms.filter (isG m.grp))))
    else setC c i (some (readyQ (tilQ Q num 0) m.grp)):=by
  unfold backC;rw[hQ];simp only[hf];rfl
 have hR:WFc (setC c i (some (readyQ (tilQ Q num 0) m.grp)))/\(∃Q',setC c i (some (readyQ (tilQ Q num 0) m.grp)) i=some Q'/\Q'.c=Q.c/\∀num',num'≠num->∀m',Q.ms.find? (isN num')=some m'->0<m'.til->Q'.ms.find? (isN num')=some m'):=by
  refine⟨hW.set (h.ready hf ht),_,setC_same _ _ _,tilQ_c _ _ _,fun num' hne m' hf' _=>?_⟩
  show (tilQ Q num 0).ms.find? (isN num')=some m'
  rw[til_map Q h.nums];exact find_til h.nums hne hf'
 rw[hb]
 cases hd:deadC c Q.c with
 | none=>exact hR
 | some p=>
  obtain⟨j,T⟩:=p
  show WFc (if _ then _ else _)/\_
  by_cases hc:upQ Q.c m.rcv=true/\roomQ T (cntG m.grp (tilQ Q num 0).ms)=true
  ·simp only[hc,and_self,if_true];have hjT:deadJ Q.c=some j/\c j=some T:=by
    unfold deadC at hd;obtain⟨j',h1,h2⟩:=Option.bind_eq_some_iff.1 hd;obtain⟨T',h3,h4⟩:=Option.map_eq_some_iff.1 h2;injection h4 with h5 h6;subst h5;subst h6;exact⟨h1,h3⟩
   have hj:j<8/\j≠i:=by
    have h1:=hjT.1;rcases h.c.d with h2|⟨j',h2,h3,h4⟩
    ·unfold deadJ at h1;rw[if_pos h2]at h1;simp at h1
    ·unfold deadJ at h1
     split at h1
     ·simp at h1
     ·injection h1 with h1;constructor<;>omega
   have hT:=hW j T hj.1 hjT.2;have hroom:=hc.2;unfold roomQ at hroom;simp only[Bool.and_eq_true,decide_eq_true_eq]at hroom;refine⟨(hW.set (h.out hf ht)).set (QW.putL _ hT ?_ ?_ (fun x hx=>?_)),{tilQ Q num 0 with ms:=(tilQ Q num 0).ms.filter (fun x=>!isG m.grp x)},by rw[setC_ne _ _ (Ne.symm hj.2),setC_same],tilQ_c _ _ _,fun num' hne m' hf' ht'=>?_⟩
   ·show (T.ms.length:Int)+(cntG m.grp (tilQ Q num 0).ms:Nat)<=T.c.quo
    omega
   ·exact hroom.2
   ·rw[til_map Q h.nums]at hx;have h1:=h.msT (num:=num) (til:=0) ⟨by omega,by omega⟩ x (List.mem_filter.1 hx).1;exact⟨h1.grp,h1.bod⟩
   ·show ((tilQ Q num 0).ms.filter (fun x=>!isG m.grp x)).find? (isN num')=some m'
    rw[til_map Q h.nums];have h1:=find_til h.nums hne hf';obtain⟨h2,h3⟩:=find_mem h1;have h4:=find_num _ (ups_filter (ups_map h.nums (tilM num 0) (tilM_num _ _)) (fun x=>!isG m.grp x)) m' (List.mem_filter.2 ⟨h2,by
     rw[Bool.not_eq_true',<-Bool.not_eq_true,isG_iff];intro he;have h5:=h.one (find_mem hf').1 hm ht' ht he;rw[h5]at h3;omega⟩)
    rw[h3]at h4;exact h4
  ·simp only[hc,if_false];exact hR
end Go.Proofs.YtbdobaapadlcjabGreatDoor
