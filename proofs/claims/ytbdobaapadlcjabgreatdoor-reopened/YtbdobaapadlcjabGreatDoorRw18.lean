import Derived.Test.YtbdobaapadlcjabGreatDoorRw17
set_option maxHeartbeats 400000
set_option linter.unusedVariables false
set_option linter.unusedSimpArgs false
namespace Go.Proofs.YtbdobaapadlcjabGreatDoor
open Go.RowKit
variable {w w':World}{S:List Nat}
theorem flyAll_snoc (til:Int)(ms:List Ms)(zs:List Int)(z:Int):flyAll til ms (zs++[z])=flyAt til (flyAll til ms zs) z:=by
 simp[flyAll,List.foldl_append]
abbrev okL (l:List UInt8):ByteArray:=⟨(0::l).toArray⟩
theorem eg158:∀args w,(callFunc 171 args).run Tryz.prog w=.ok (.enter 171 args) w:=enters_of Tryz.func171 (by kernel_rfl) rfl
theorem Tab.tch (h:Tab w){S:List Nat}(ht:Tch S w w')(hS:∀k∈S,3<=k)(h3:3<=w.heap.size):Tab w':=h.below (B:=3) (ht.below hS h3) (by decide)
theorem Lays.tch {B:Nat}(h:Lays B w){S:List Nat}(ht:Tch S w w')(hS:∀k∈S,B<=k)(hB:B<=w.heap.size):Lays B w':=h.below (ht.below hS hB)
end Go.Proofs.YtbdobaapadlcjabGreatDoor
namespace Go.Proofs.YtbdobaapadlcjabGreatDoor
open Go.Shelf Go.RowKit Go.Lib
end Go.Proofs.YtbdobaapadlcjabGreatDoor
namespace Go.Proofs.YtbdobaapadlcjabGreatDoor
open Go.RowKit
theorem went_walk (K:World->Prop)(gs gl st:Nat)(now:Int)(w:World)(hgs:w.heap[gs]?=some (.cells #[.pointer (some ⟨st,0,none⟩)] 57 (0,0)))(hgl:w.heap[gl]?=some (.cells #[.int .i64 now] 3 (0,0)))
  (hS:Calls Tryz.prog 174 #[.pointer (some ⟨st,0,none⟩),.int .i64 now] w fun e w'=>e=.returned (.tuple #[])/\K w'):
  Calls Tryz.prog 173 #[.pointer (some ⟨gs,0,none⟩),.pointer (some ⟨gl,0,none⟩)] w fun e w'=>e=.returned (.tuple #[])/\K w':=by
 have c1:=cell_of_one hgs;have c2:=cell_of_one hgl;have HS:=zH hS;clear hS hgs hgl;go_enter Tryz.func173,Tryz.ntmps173;go_wp2_with (go_at_call 174;refine HS.out.mono ?_;rintro e w' ⟨rfl,hk⟩);go_end0;exact⟨rfl,by assumption⟩
theorem eg212:∀args w,(callFunc 165 args).run Tryz.prog w=.ok (.enter 165 args) w:=enters_of Tryz.func165 (by kernel_rfl) rfl
theorem ansL_pos (Q:QM)(cnt k:Nat):0<(ansL Q cnt k).length:=by
 unfold ansL;rw[List.length_append,lowB_length];omega
end Go.Proofs.YtbdobaapadlcjabGreatDoor
namespace Go.Proofs.YtbdobaapadlcjabGreatDoor.Keep
open Go.RowKit
def sh (s:ByteArray)(n:Nat):ByteArray:=if n<s.size then s.extract 0 n else s
theorem sh_size (s:ByteArray)(n:Nat):(sh s n).size<=n:=by
 unfold sh
 split
 ·simp;omega
 ·omega
theorem sh_pos (s:ByteArray)(n:Nat)(h:0<s.size)(hn:0<n):0<(sh s n).size:=by
 unfold sh
 split
 ·simp;omega
 ·exact h
theorem short_any (s:ByteArray)(n:Nat)(w:World)(hs:s.size<=maxLen)(hn:n<=1000):
  zE 41 #[.string s,.int .i64 (n:Int)] w (.string (sh s n)):=by
 unfold maxLen at hs
 by_cases h:n<s.size
 ·have hv:Hid (sh s n=s.extract 0 n):=by show _=_;rw[sh,if_pos h]
  go_enter Tryz.func41,Tryz.ntmps41
  go_wp2
  go_ret;exact⟨ret_str hv.out.symm,rfl⟩
 ·have hv:Hid (sh s n=s):=by show _=_;rw[sh,if_neg h]
  go_enter Tryz.func41,Tryz.ntmps41
  go_wp2
  go_ret;exact⟨ret_str hv.out.symm,rfl⟩
theorem letter_eq (c:UInt8)(w:World):Calls Tryz.prog 38 #[.int .u8 (c.toNat:Int)] w fun e w'=>(∃d:UInt8,e=.returned (.int .u8 (d.toNat:Int))/\d.toNat=97+c.toNat % 8)/\w'=w:=by
 have hc:=c.toNat_lt;generalize c.toNat=n at hc;go_enter Tryz.func38,Tryz.ntmps38
 go_wp2
 go_ret;have h:(UInt8.ofNat (97+n % 8)).toNat=97+n % 8:=UInt8.toNat_ofNat_of_lt' (by show _<256;omega);refine⟨⟨UInt8.ofNat (97+n % 8),?_,h⟩,rfl⟩;rw[h];exact ret_int (by omega)
theorem letter_any (c:UInt8)(w:World):Calls Tryz.prog 38 #[.int .u8 (c.toNat:Int)] w fun e w'=>(∃d:UInt8,e=.returned (.int .u8 (d.toNat:Int))/\97<=d.toNat/\d.toNat<=104)/\w'=w:=by
 have hc:=c.toNat_lt;generalize c.toNat=n at hc;go_enter Tryz.func38,Tryz.ntmps38
 go_wp2
 go_ret;refine⟨⟨UInt8.ofNat (97+n % 8),?_,?_,?_⟩,rfl⟩
 ·have h:(UInt8.ofNat (97+n % 8)).toNat=97+n % 8:=UInt8.toNat_ofNat_of_lt' (by show _<256;omega);rw[h];exact ret_int (by omega)
 ·have h:(UInt8.ofNat (97+n % 8)).toNat=97+n % 8:=UInt8.toNat_ofNat_of_lt' (by show _<256;omega);omega
 ·have h:(UInt8.ofNat (97+n % 8)).toNat=97+n % 8:=UInt8.toNat_ofNat_of_lt' (by show _<256;omega);omega
theorem named_any (s:ByteArray)(w:World)(hs:s.size<=maxLen):
  Calls Tryz.prog 39 #[.string s] w fun e w'=>(∃t:ByteArray,e=.returned (.string t)/\1<=t.size/\t.size<=8)/\w'=w:=by
 by_cases h:0<s.size
 ·have he:=str_ne h;have hsh:Hid (zE 41 #[.string s,.int .i64 8] w (.string (sh s 8))):=short_any s 8 w hs (by decide);go_enter Tryz.func39,Tryz.ntmps39;go_wp2_with (go_at_call 41;refine(hsh.out).mono ?_;rintro e w' ⟨rfl,rfl⟩);go_ret;exact⟨⟨_,rfl,sh_pos s 8 h (by decide),sh_size s 8⟩,rfl⟩
 ·have he:=str_em h;go_enter Tryz.func39,Tryz.ntmps39
  go_wp2
  go_ret;exact⟨⟨_,rfl,by decide,by decide⟩,rfl⟩
theorem dedOk_head (s:ByteArray)(c:UInt8)(l:List UInt8)(h:s.data.toList=c::l)(hc:c≠0):Wp.dedOk s=true:=by
 unfold Wp.dedOk
 by_cases hs:0<s.size
 ·rw[dif_pos hs];have e:s[0]=s.data.toList[0]'(by rw[h];simp):=rfl;have e2:s.data.toList[0]'(by rw[h];simp)=c:=by simp[h]
  rw[e,e2];simpa using hc
 ·rw[dif_neg hs]
theorem dedup_any (s:ByteArray)(w:World)(hs:s.size<=maxLen):
  Calls Tryz.prog 40 #[.string s] w fun e w'=>(∃t:ByteArray,e=.returned (.string t)/\t.size<=8/\Wp.dedOk t=true)/\w'=w:=by
 have hsh:Hid (zE 41 #[.string s,.int .i64 8] w (.string (sh s 8))):=short_any s 8 w hs (by decide);have hz:=sh_size s 8;generalize sh s 8=t at hsh hz
 by_cases h:0<t.size
 ·have he:=str_ne h
  by_cases h0:t[0]=0
  ·have hb:(((t[0].toNat:Nat):Int) == 0)=true:=by rw[h0];rfl
   go_enter Tryz.func40,Tryz.ntmps40;go_wp2_with (go_at_call 41;refine(hsh.out).mono ?_;rintro e w' ⟨rfl,rfl⟩);go_ret;refine⟨⟨_,rfl,?_,?_⟩,rfl⟩
   ·simp[ByteArray.size_append]
    show 1+_<=8
    omega
   ·exact dedOk_head _ 48 (t.extract 1 t.size).data.toList (by simp[ByteArray.data_append]) (by decide)
  ·have hb:(((t[0].toNat:Nat):Int) == 0)=false:=by
    rw[beq_eq_false_iff_ne];intro e;exact h0 (UInt8.toNat_inj.1 (by simpa using e))
   go_enter Tryz.func40,Tryz.ntmps40;go_wp2_with (go_at_call 41;refine(hsh.out).mono ?_;rintro e w' ⟨rfl,rfl⟩);go_ret;exact⟨⟨_,rfl,hz,by rw[Wp.dedOk,dif_pos h];simpa using h0⟩,rfl⟩
 ·have he:=str_em h;go_enter Tryz.func40,Tryz.ntmps40;go_wp2_with (go_at_call 41;refine(hsh.out).mono ?_;rintro e w' ⟨rfl,rfl⟩);go_ret;exact⟨⟨_,rfl,hz,by rw[Wp.dedOk,dif_neg h]⟩,rfl⟩
structure Szs (r:Wp.Rq):Prop where
 grp:r.grp.size<=maxLen
 ded:r.ded.size<=maxLen
 bod:r.bod.size<=maxLen
 att:r.att.size<=maxLen
 han:r.han.size<=maxLen
def Shaped (w:World)(e:Ending)(w':World):Prop:=
 ∃(r:Wp.Rq) (x:Sl) (bs:List ByteArray),e=.returned (.agg (cellsOf r x.v))/\rightW r x (Wp.short bs)=true/\Wf r/\x.n=bs.length/\bs.length<=10/\FStrs w.heap.size w' x.a bs
theorem fits_of (r:Wp.Rq)(n:Nat)(b:Bool)(f:Nat)(h1:f≠1)(h10:f≠10)(h14:f≠14)(ha:Wp.least f<=r.measure n f)(hb:r.measure n f<=Wp.most f):r.fits n b f=true:=by
 unfold Wp.Rq.fits;rw[if_neg (fun e=>h1 e.1),if_neg (by omega),if_neg (by omega),if_neg h1,if_neg h10,if_neg h14]
theorem fits_dead (r:Wp.Rq)(n:Nat)(b:Bool)(h:r.d=45\/97<=r.d.toNat/\r.d.toNat<=104/\r.d≠r.q):r.fits n b 1=true:=by
 unfold Wp.Rq.fits
 by_cases h0:r.d=45
 ·rw[if_pos ⟨rfl,h0⟩]
 ·rw[if_neg (fun e=>h0 e.2)];obtain⟨h1,h2,h3⟩:=h.resolve_left h0;have e1:r.measure n 1=(r.d.toNat:Int):=rfl;have e2:Wp.least 1=97:=rfl;have e3:Wp.most 1=104:=rfl;rw[e1,e2,e3,if_neg (by omega),if_neg (by omega),if_pos rfl];simpa using h3
theorem fits_dedup (r:Wp.Rq)(n:Nat)(b:Bool)(h:r.ded.size<=8)(hd:Wp.dedOk r.ded=true):r.fits n b 10=true:=by
 unfold Wp.Rq.fits;have e1:r.measure n 10=(r.ded.size:Int):=rfl;have e2:Wp.least 10=0:=rfl;have e3:Wp.most 10=8:=rfl;rw[if_neg (fun e=>by cases e.1),e1,e2,e3,if_neg (by omega),if_neg (by omega),if_neg (by decide),if_pos rfl];exact hd
theorem wf_small (r:Wp.Rq)(h1:0<=r.vis/\r.vis<=1001)(h2:0<=r.win/\r.win<=1001)(h3:0<=r.rcv/\r.rcv<=1001)(h4:0<=r.quo/\r.quo<=1001)(h5:0<=r.mx/\r.mx<=1001)(h6:0<=r.tic/\r.tic<=1001):Wf r:=by
 constructor<;>unfold i64<;>omega
theorem zz:(0:Int)<=0/\(0:Int)<=1001:=by decide
theorem heap3 (w:World)(A B C:Obj):(((w.alloc A).alloc B).alloc C).heap[w.heap.size+1]?=some B:=by
 rw[Below.heap_alloc _ _ _ (by simp),heap_alloc2_new]
theorem below3 (w:World)(A B C:Obj):Below w.heap.size w (((w.alloc A).alloc B).alloc C):=
 (((Below.refl _ _).alloc (Nat.le_refl _) _).alloc (by simp) _).alloc (by simp;omega) _
theorem shaped_end {w w':World}(r:Wp.Rq)(hr:rightW r ⟨none,0,0⟩ (Wp.short [])=true)(hw:Wf r):Shaped w (.returned (.agg (cellsOf r (Sl.v ⟨none,0,0⟩)))) w':=
 ⟨r,⟨none,0,0⟩,[],rfl,hr,hw,rfl,by decide,fun j hj=>absurd hj (by simp)⟩
end Go.Proofs.YtbdobaapadlcjabGreatDoor.Keep
namespace Go.Proofs.YtbdobaapadlcjabGreatDoor
open Go.RowKit
variable {B:Nat}{w w':World}
structure Env (B:Nat)(w:World):Prop where
 lays:Lays B w
 tab:Tab w
 size:B<=w.heap.size
 three:3<=B
theorem Env.tch (h:Env B w){S:List Nat}(ht:Tch S w w')(hS:∀k∈S,B<=k):Env B w':=⟨Lays.tch h.lays ht hS h.size,h.tab.tch ht (fun k hk=>Nat.le_trans h.three (hS k hk)) (Nat.le_trans h.three h.size),Nat.le_trans h.size ht.size,h.three⟩
theorem Env.fr {T:List TypeId}(h:Env B w)(hf:Fr B T w w'):Env B w':=⟨h.lays.fr hf,h.tab.fr hf h.three,Nat.le_trans h.size hf.size,h.three⟩
end Go.Proofs.YtbdobaapadlcjabGreatDoor
namespace Go.Proofs.YtbdobaapadlcjabGreatDoor
open Go.RowKit Keep
theorem idxL_ex {α:Type}(p:α->Bool)(l:List α):0<=idxL p l↔∃x∈l,p x=true:=by
 constructor
 ·intro h
  by_cases hc:∃x∈l,p x=true
  ·exact hc
  ·have:idxL p l<0:=(idxL_neg p l).2 (fun x hx=>by
    cases hp:p x with
    | false=>rfl
    | true=>exact absurd ⟨x,hx,hp⟩ hc)
   omega
 ·rintro ⟨x,hx,hp⟩
  by_cases hc:idxL p l<0
  ·have:=(idxL_neg p l).1 hc x hx;rw[hp]at this
   cases this
  ·omega
theorem str_inj {a b:ByteArray}(h:a.toList=b.toList):a=b:=ByteArray.ext (Array.toList_inj.1 (by rw[<-ByteArray.toList_eq,<-ByteArray.toList_eq];exact h))
theorem isG_iff (g:ByteArray)(m:Ms):isG g m=true↔m.grp=g:=by
 unfold isG;rw[beq_iff_eq];exact⟨str_inj,fun h=>by rw[h]⟩
end Go.Proofs.YtbdobaapadlcjabGreatDoor
namespace Go.Proofs.YtbdobaapadlcjabGreatDoor
open Go.RowKit
variable {l:List Ms}{m a b:Ms}{i:Nat}{Q:QM}
theorem isN_iff (n:Int)(m:Ms):isN n m=true↔m.num=n:=by
 show (m.num == n)=true↔_
 rw[beq_iff_eq]
abbrev Ups (l:List Ms):Prop:=l.Pairwise (fun a b=>a.num<b.num)
theorem find_num:∀(l:List Ms),Ups l->∀m∈l,l.find? (isN m.num)=some m
 | [],_,m,hm=>by simp at hm
 | a::r,hp,m,hm=>by
  rcases List.mem_cons.1 hm with rfl|hm
  ·simp[List.find?_cons]
  ·have h1:=(List.pairwise_cons.1 hp).1 m hm;have h2:isN m.num a=false:=by
    show (a.num == m.num)=false
    exact beq_eq_false_iff_ne.2 (by omega)
   rw[List.find?_cons,h2];exact find_num r (List.pairwise_cons.1 hp).2 m hm
theorem find_mem {n:Int}(h:l.find? (isN n)=some m):m∈l/\m.num=n:=⟨List.mem_of_find?_eq_some h,(isN_iff n m).1 (List.find?_some h)⟩
theorem num_inj (hp:Ups l){a b:Ms}(ha:a∈l)(hb:b∈l)(e:a.num=b.num):a=b:=by
 have h1:=find_num l hp a ha;have h2:=find_num l hp b hb;rw[e,h2]at h1;exact(Option.some.inj h1).symm
def tilM (num til:Int)(a:Ms):Ms:=if isN num a=true then {a with til:=til} else a
theorem tilM_num (num til:Int)(a:Ms):(tilM num til a).num=a.num:=by unfold tilM;split<;>rfl
theorem tilM_grp (num til:Int)(a:Ms):(tilM num til a).grp=a.grp:=by unfold tilM;split<;>rfl
theorem tilM_bod (num til:Int)(a:Ms):(tilM num til a).bod=a.bod:=by unfold tilM;split<;>rfl
theorem tilM_rcv (num til:Int)(a:Ms):(tilM num til a).rcv=a.rcv:=by unfold tilM;split<;>rfl
theorem tilM_til (num til:Int)(a:Ms):(tilM num til a).til=if a.num=num then til else a.til:=by
 unfold tilM
 by_cases h:a.num=num
 ·rw[if_pos ((isN_iff num a).2 h),if_pos h]
 ·rw[if_neg (fun e=>h ((isN_iff num a).1 e)),if_neg h]
theorem set_map (num til:Int):∀(l:List Ms) (m:Ms),Ups l->l.find? (isN num)=some m->l.set (idxL (isN num) l).toNat {m with til:=til}=l.map (tilM num til)
 | [],m,_,hf=>by simp at hf
 | a::r,m,hp,hf=>by
  obtain⟨h1,h2⟩:=List.pairwise_cons.1 hp
  by_cases ha:isN num a=true
  ·rw[List.find?_cons,ha]at hf;injection hf with hf;subst hf;have e:idxL (isN num) (a::r)=0:=by unfold idxL;rw[if_pos ha]
   rw[e,List.map_cons];have e2:r.map (tilM num til)=r:=by
    rw[List.map_congr_left (g:=id) (fun x hx=>?_),List.map_id];have:=h1 x hx;have:=(isN_iff num a).1 ha;exact if_neg (fun e=>by have:=(isN_iff num x).1 e;omega)
   rw[e2]
   show {a with til:=til}::r=_
   unfold tilM;rw[if_pos ha]
  ·have ha':isN num a=false:=by simpa using ha
   rw[List.find?_cons,ha']at hf;have ih:=set_map num til r m h2 hf;obtain⟨p,hp1,hp2,_⟩:=find_idx hf;have e:idxL (isN num) (a::r)=((p+1:Nat):Int):=by
    unfold idxL;rw[if_neg ha,hp1,if_neg (by omega)];omega
   rw[e,List.map_cons];rw[hp1]at ih
   show (a::r).set (p+1) _=_
   rw[List.set_cons_succ];have e3:tilM num til a=a:=by unfold tilM;rw[if_neg ha]
   rw[e3];congr 1
theorem til_map (Q:QM)(h:Ups Q.ms)(num til:Int):(tilQ Q num til).ms=Q.ms.map (tilM num til):=by
 unfold tilQ
 cases hf:Q.ms.find? (isN num) with
 | none=>
  have h1:=List.find?_eq_none.1 hf
  show Q.ms=_
  rw[List.map_congr_left (g:=id) (fun x hx=>?_),List.map_id];exact if_neg (h1 x hx)
 | some m=>exact set_map num til Q.ms m h hf
theorem erase_filter (num:Int):∀(l:List Ms) (m:Ms),Ups l->l.find? (isN num)=some m->l.eraseIdx (idxL (isN num) l).toNat=l.filter (fun a=>!isN num a)
 | [],m,_,hf=>by simp at hf
 | a::r,m,hp,hf=>by
  obtain⟨h1,h2⟩:=List.pairwise_cons.1 hp
  by_cases ha:isN num a=true
  ·have e:idxL (isN num) (a::r)=0:=by unfold idxL;rw[if_pos ha]
   have e2:r.filter (fun a=>!isN num a)=r:=by
    rw[List.filter_eq_self];intro x hx;have:=h1 x hx;have:=(isN_iff num a).1 ha;have h3:isN num x=false:=by
     show (x.num == num)=false
     exact beq_eq_false_iff_ne.2 (by omega)
    rw[h3];rfl
   rw[e,List.filter_cons,ha,e2];rfl
  ·have ha':isN num a=false:=by simpa using ha
   rw[List.find?_cons,ha']at hf;have ih:=erase_filter num r m h2 hf;obtain⟨p,hp1,hp2,_⟩:=find_idx hf;have e:idxL (isN num) (a::r)=((p+1:Nat):Int):=by
    unfold idxL;rw[if_neg ha,hp1,if_neg (by omega)];omega
   rw[hp1]at ih;rw[e,List.filter_cons,ha',<-ih];rfl
theorem ups_map (h:Ups l)(f:Ms->Ms)(hf:∀a,(f a).num=a.num):Ups (l.map f):=by
 rw[Ups,List.pairwise_map];exact h.imp (fun {a b} hab=>by rw[hf,hf];exact hab)
theorem ups_filter (h:Ups l)(p:Ms->Bool):Ups (l.filter p):=List.Pairwise.sublist List.filter_sublist h
structure MsG (nx:Nat)(m:Ms):Prop where
 num:1<=m.num/\m.num<(nx:Int)
 grp:1<=m.grp.size/\m.grp.size<=8
 bod:m.bod.size<=40
 rcv:0<=m.rcv/\m.rcv<=65535
 til:0<=m.til/\m.til<=61000
theorem MsG.mono {nx nx':Nat}(h:MsG nx m)(hn:nx<=nx'):MsG nx' m:=⟨⟨h.num.1,by have:=h.num.2;omega⟩,h.grp,h.bod,h.rcv,h.til⟩
structure CfW (i:Nat)(c:Wp.Rq):Prop where
 q:c.q.toNat=97+i
 d:DeadOk i c
 vis:1<=c.vis/\c.vis<=1000
 win:0<=c.win/\c.win<=1000
 rcv:0<=c.rcv/\c.rcv<=9
 quo:1<=c.quo/\c.quo<=50
structure QW (i:Nat)(Q:QM):Prop where
 c:CfW i Q.c
 nx:1<=Q.next/\Q.next<=201
 mq:(Q.ms.length:Int)<=Q.c.quo
 nums:Ups Q.ms
 mok:∀m∈Q.ms,MsG Q.next m
 hd:∀m∈Q.ms,0<m.til->∀m'∈Q.ms,m'.grp=m.grp->m.num<=m'.num
 rn:Q.rs.Nodup
 rr:∀g,g∈Q.rs↔(∃m∈Q.ms,m.grp=g)/\∀m∈Q.ms,m.grp=g->m.til=0
 dn:Q.ds.Pairwise (fun a b=>a.num<b.num)
 dok:∀d∈Q.ds,d.id.size<=8/\(1<=d.num/\d.num<(Q.next:Int))/\0<=d.til/\d.til<=62000
 al:Q.ats.length<=20
 aok:∀a∈Q.ats,(1<=a.id.size/\a.id.size<=8)/\(0<a.ans.size/\a.ans.size<=600)/\0<=a.til/\a.til<=62000
theorem QW.ml (h:QW i Q):Q.ms.length<=50:=by have:=h.mq;have:=h.c.quo;omega
theorem nodup_len {α β:Type} [DecidableEq β] (f:α->β):∀(r:List β) (l:List α),r.Nodup->(∀g∈r,∃m∈l,f m=g)->r.length<=l.length
 | [],l,_,_=>by simp
 | g::r,l,hn,h=>by
  obtain⟨m,hm,hg⟩:=h g List.mem_cons_self;obtain⟨h1,h2⟩:=List.nodup_cons.1 hn;have h3:=nodup_len f r (l.filter (fun x=>decide (f x≠g))) h2 (fun g' hg'=>by
   obtain⟨m',hm',he⟩:=h g' (List.mem_cons_of_mem _ hg');refine⟨m',List.mem_filter.2 ⟨hm',?_⟩,he⟩;rw[he];simp;intro e;rw[e]at hg';exact h1 hg')
  have h4:(l.filter (fun x=>decide (f x≠g))).length<l.length:=by
   have h5:=List.length_filter_lt_length_iff_exists (p:=fun x=>decide (f x≠g)) (l:=l);exact h5.2 ⟨m,hm,by simp[hg]⟩
  rw[List.length_cons];omega
theorem QW.rl (h:QW i Q):Q.rs.length<=Q.ms.length:=nodup_len Ms.grp Q.rs Q.ms h.rn (fun g hg=>((h.rr g).1 hg).1)
theorem ups_len:∀(l:List Dd) (a b:Int),l.Pairwise (fun x y=>x.num<y.num)->(∀d∈l,a<=d.num/\d.num<b)->a<=b->(l.length:Int)<=b-a
 | [],a,b,_,_,h=>by simp;omega
 | d::r,a,b,hp,h,hab=>by
  obtain⟨h1,h2⟩:=List.pairwise_cons.1 hp;have h3:=h d List.mem_cons_self;have h4:=ups_len r (d.num+1) b h2 (fun x hx=>⟨by have:=h1 x hx;omega,(h x (List.mem_cons_of_mem _ hx)).2⟩) (by omega);rw[List.length_cons];omega
theorem QW.dl (h:QW i Q):Q.ds.length<=200:=by
 have h1:=ups_len Q.ds 1 (Q.next:Int) h.dn (fun d hd=>(h.dok d hd).2.1) (by have:=h.nx.1;omega);have:=h.nx;omega
theorem QW.rsz (h:QW i Q):∀g∈Q.rs,g.size<=8:=fun g hg=>by
 obtain⟨m,hm,he⟩:=((h.rr g).1 hg).1;rw[<-he];exact(h.mok m hm).grp.2
theorem QW.ok (h:QW i Q):QOk Q where
 c:=⟨⟨by have:=h.c.vis;omega,by have:=h.c.vis;omega⟩,⟨by have:=h.c.win;omega,by have:=h.c.win;omega⟩,⟨by have:=h.c.rcv;omega,by have:=h.c.rcv;omega⟩,⟨by have:=h.c.quo;omega,by have:=h.c.quo;omega⟩⟩
 nx:=by have:=h.nx;omega
 ml:=h.ml
 ms:=fun m hm=>by
  have h1:=h.mok m hm;have h2:=h1.num;have h3:=h1.rcv;have h4:=h1.til;have h5:=h.nx;exact⟨⟨by omega,by omega⟩,⟨by omega,by omega⟩,⟨by omega,by omega⟩,h1.grp.2,h1.bod⟩
 rl:=Nat.le_trans h.rl h.ml
 rs:=h.rsz
 dl:=h.dl
 ds:=fun d hd=>by
  have h1:=h.dok d hd;have h5:=h.nx;exact⟨h1.1,⟨by omega,by omega⟩,⟨by omega,by omega⟩⟩
 al:=h.al
 ats:=fun a ha=>by
  have h1:=h.aok a ha;exact⟨h1.1.2,⟨by omega,by omega⟩,h1.2.1.2⟩
theorem QW.one (h:QW i Q){a b:Ms}(ha:a∈Q.ms)(hb:b∈Q.ms)(ta:0<a.til)(tb:0<b.til)(e:a.grp=b.grp):a=b:=
 num_inj h.nums ha hb (by have h1:=h.hd a ha ta b hb e.symm;have h2:=h.hd b hb tb a ha e;omega)
end Go.Proofs.YtbdobaapadlcjabGreatDoor
