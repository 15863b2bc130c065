import Derived.Test.YtbdobaapadlcjabGreatDoorRw09
import Derived.Lib.ConvBytes
set_option maxRecDepth 8000
set_option maxHeartbeats 4000000
set_option linter.unusedVariables false
set_option linter.unusedSimpArgs false
namespace Go.Proofs.YtbdobaapadlcjabGreatDoor
open Go.RowKit
theorem conv_bytes (s:ByteArray)(W:World):(convert 9 54 (.string s)).run Tryz.prog W=.ok (.slice (some ⟨W.heap.size,0,none⟩) s.size (grownCap W s.size 0 5)) (Lib.bytesWorld W 5 s):=
 Lib.run_convert_string_bytes W 9 54 5 s Tryz.underlying9 Tryz.underlying54 Tryz.underlying5
def Rdb (w:World)(v:Value)(l:List UInt8):Prop:=∃g cap,v=.slice (some ⟨g,0,none⟩) l.length cap/\∀j u,(bytesV l)[j]?=some u->w.cell? ((⟨g,0,none⟩:Addr).add j)=some u
theorem Rdb.of_own {w:World}{base:Nat}{v:Value}{l:List UInt8}(h:OwnB w base v l)(hl:0<l.length):Rdb w v l:=by
 have hc:=fun g (hg:v.ownBlock=some g)=>World.ownsRow.cells h hg
 rcases h.2 with ⟨_,h0⟩|⟨g,cap,cur,rfl,_⟩
 ·omega
 ·exact⟨g,cap,rfl,hc g rfl⟩
theorem receive_found (Q:QM)(V:QV)(r:Wp.Rq)(y:Sl)(qb i:Nat)(now:Int)(w:World)(h:QR w qb V Q)(hna:Q.ats.length<=1000)(hid:idxL (isA r.att) Q.ats=(i:Int))(a:At)(ha:Q.ats[i]?=some a)(has:0<a.ans.size):
  Calls Tryz.prog 123 #[.pointer (some ⟨qb,0,none⟩),.int .i64 now,.agg (cellsOf r y.v)] w fun e w'=>∃av,e=.returned (.tuple #[av,.nilFunc,.int .i64 0])/\Rdb w' av a.ans.data.toList/\Tch [] w w':=by
 have hcv:=conv_bytes a.ans;have hil:i<Q.ats.length:=(List.getElem?_eq_some_iff.1 ha).1;have HQ:=zH h;obtain⟨ga,ca,hva⟩:∃g c,V.a=.slice (some ⟨g,0,none⟩) Q.ats.length c:=by
  rcases h.a.2 with ⟨h0,h1⟩|⟨g,cap,cur,h0,_⟩
  ·omega
  ·exact⟨_,_,h0⟩
 rw[zM r y];generalize hCC:(#[.int .u8 (r.op.toNat:Int),.int .u8 (r.q.toNat:Int),.int .u8 (r.d.toNat:Int),.int .i64 r.vis,.int .i64 r.win,.int .i64 r.rcv,.int .i64 r.quo,.int .i64 r.mx,.int .i64 r.tic,.string r.grp,.string r.ded,.string r.bod,.string r.att,.string r.han,.slice y.a y.n y.c]:Array Value)=CC;have HA:Hid (zB 162 #[.pointer (some ⟨qb,0,none⟩),.string r.att] (rbox w qb CC) (.int .i64 (i:Int))):=by
  have h1:=h.tch (rbox_tch w qb CC) (by simp);have h2:=findAttempt_gen r.att qb V.a Q.ats (rbox w qb CC) (cell_qC h1.blk 10 _ rfl) h1.a (by omega);rw[hid]at h2;exact h2
 have HW0:=zH (rbox_0 w qb CC);have HW1:=zH (rbox_1 w qb CC);have HWT:=zH (rbox_tch w qb CC);have ca12:CC[12]?=some (.string r.att):=by rw[<-hCC];rfl
 clear hCC;have zz:=rbox_size w qb CC;generalize hwb:rbox w qb CC=wb at*
 clear h;go_enter Tryz.func123,Tryz.ntmps123;go_wp2_with fail;rw[show (w.alloc (.cells #[.pointer (some ⟨qb,0,none⟩)] 88)).alloc (.cells CC 24)=wb from hwb]
 refine HA.out.mono ?_;rintro e w1 ⟨rfl,hb1⟩;have t1:=HWT.out.trans (Tch.of_below hb1) (by simp);have hq1:=HQ.out.tch t1 (by simp);have B0:=(hb1.block _ (by omega)).trans HW0.out;have a0:w1.cell? ⟨w.heap.size,0,none⟩=some (.pointer (some ⟨qb,0,none⟩)):=cell_qC B0 0 _ rfl;have a10:w1.cell? ⟨qb,10,none⟩=some (.slice (some ⟨ga,0,none⟩) Q.ats.length ca):=by rw[<-hva];exact cell_qC hq1.blk 10 _ rfl
 have a2:w1.cell? ⟨ga,i*3+2,none⟩=some (.string a.ans):=by
  have h0:=hq1.a;rw[hva]at h0;have inh:Inhabited At:=⟨⟨⟨#[]⟩,0,⟨#[]⟩⟩⟩;have h1:=own_cells At.row 3 (fun _=>rfl) h0 i hil 2 (.string a.ans) (by
   rw[List.getElem!_eq_getElem?_getD,ha];rfl)
  simpa using h1
 have HT1:=zH t1;clear hb1 hwb t1 hq1 B0 HA HW0 HW1 HWT zz;go_wp2_with fail;go_ret3;have tb:Tch [] w1 (Lib.bytesWorld w1 5 a.ans):=⟨rfl,rfl,rfl,by rw[Lib.bytesWorld_size];omega,fun k hk _=>Lib.bytesWorld_at_old w1 5 a.ans k hk⟩
 refine⟨_,rfl,⟨w1.heap.size,_,rfl,fun j u hj=>?_⟩,HT1.out.trans tb (by simp)⟩
 have hjl:j<a.ans.size:=by
  have:=(List.getElem?_eq_some_iff.1 hj).1;simpa [bytesV]using this
 have e2:(⟨w1.heap.size,0,none⟩:Addr).add j=⟨w1.heap.size,j,none⟩:=by unfold Addr.add;split<;>simp_all
 rw[e2,Lib.bytesWorld_cell w1 5 a.ans j hjl];have hj':=hj;simp only[bytesV,List.getElem?_map]at hj';have hjl':=hjl;rw[List.getElem?_eq_getElem hjl']at hj';simp only[Option.map_some,Option.some.injEq]at hj';rw[<-hj'];simp[List.getD,hjl]
end Go.Proofs.YtbdobaapadlcjabGreatDoor
namespace Go.Proofs.YtbdobaapadlcjabGreatDoor
variable {s:ByteArray}
def BA (l:List UInt8):ByteArray:=⟨l.toArray⟩
theorem BA_list (l:List UInt8):(BA l).data.toList=l:=rfl
theorem BA_size (l:List UInt8):(BA l).size=l.length:=by simp[BA,ByteArray.size]
theorem ext_list {t:ByteArray}(h:s.data.toList=t.data.toList):s=t:=ByteArray.ext (Array.toList_inj.1 h)
theorem tk_list (s:ByteArray)(n:Nat)(h:n<=s.size):(tk s n).data.toList=s.data.toList.take n:=by
 rw[tk,if_pos h,Lib.extract_data];simp
theorem lf_list (s:ByteArray)(n:Nat)(h:n<=s.size):(lf s n).data.toList=s.data.toList.drop n:=by
 rw[lf,if_pos h,Lib.extract_data];have:s.size=s.data.toList.length:=rfl;rw[this,List.take_of_length_le (by simp)]
theorem tk_app (p q:List UInt8):tk (BA (p++q)) p.length=BA p:=by
 apply ext_list;rw[tk_list _ _ (by rw[BA_size];simp),BA_list,BA_list,List.take_left]
theorem lf_app (p q:List UInt8):lf (BA (p++q)) p.length=BA q:=by
 apply ext_list;rw[lf_list _ _ (by rw[BA_size];simp),BA_list,BA_list,List.drop_left]
theorem bad_app (p q:List UInt8)(f:Bool):bad (BA (p++q)) f p.length=f:=by
 rw[bad,if_pos (by rw[BA_size];simp)]
theorem leN_low1 (n:Nat):leN (lowB n 1)=n % 256:=by
 have h:(UInt8.ofNat (n % 256)).toNat=n % 256:=UInt8.toNat_ofNat_of_lt' (by have:=Nat.mod_lt n (show 0<256 by decide);simpa using this);have e:lowB n 1=[UInt8.ofNat (n % 256)]:=by simp[lowB]
 rw[e]
 show (UInt8.ofNat (n % 256)).toNat+256*0=_
 omega
theorem leN_low2 (n:Nat):leN (lowB n 2)=n % 65536:=by
 have h:∀m:Nat,(UInt8.ofNat (m % 256)).toNat=m % 256:=fun m=>UInt8.toNat_ofNat_of_lt' (by have:=Nat.mod_lt m (show 0<256 by decide);simpa using this)
 have e:lowB n 2=[UInt8.ofNat (n % 256),UInt8.ofNat (n / 256 % 256)]:=by simp[lowB,List.range_succ]
 rw[e]
 show (UInt8.ofNat (n % 256)).toNat+256*((UInt8.ofNat (n / 256 % 256)).toNat+256*0)=_
 rw[h,h];omega
theorem nm_low1 (n:Nat)(q:List UInt8)(h:n<256):nmN (BA (lowB n 1++q)) 1=n:=by
 have e:=tk_app (lowB n 1) q;rw[lowB_length]at e;rw[nmN,e,BA_list,leN_low1];omega
theorem nm_low2 (n:Nat)(q:List UInt8)(h:n<65536):nmN (BA (lowB n 2++q)) 2=n:=by
 have e:=tk_app (lowB n 2) q;rw[lowB_length]at e;rw[nmN,e,BA_list,leN_low2];omega
theorem nm_byte (c:UInt8)(q:List UInt8):UInt8.ofNat (nmN (BA ([c]++q)) 1 % 256)=c:=by
 have e:=tk_app [c] q;rw[show [c].length=1 from rfl]at e
 have h:nmN (BA ([c]++q)) 1=c.toNat:=by
  rw[nmN,e,BA_list];simp[leN]
 have hc:=c.toNat_lt;rw[h,Nat.mod_eq_of_lt hc];simp
theorem tx_app (t:ByteArray)(q:List UInt8)(fl:Bool)(h:t.size<256):txS (BA (txtB t++q))=t/\txL (BA (txtB t++q))=BA q/\txF (BA (txtB t++q)) fl=fl:=by
 have hl:=lowB_length t.size 1;have e:txtB t++q=lowB t.size 1++(t.data.toList++q):=by rw[txtB,List.append_assoc]
 have h1:=lf_app (lowB t.size 1) (t.data.toList++q);have h2:=bad_app (lowB t.size 1) (t.data.toList++q) fl;rw[hl]at h1 h2;have h3:=nm_low1 t.size (t.data.toList++q) h;have h4:=tk_app t.data.toList q;have h5:=lf_app t.data.toList q;have h6:=bad_app t.data.toList q fl;have hs:t.data.toList.length=t.size:=rfl;rw[hs]at h4 h5 h6;rw[e];refine⟨?_,?_,?_⟩
 ·rw[txS,h3,h1,h4];rfl
 ·rw[txL,h3,h1,h5]
 ·rw[txF,h3,h1,h2,h6]
theorem rdS_cons (k:Nat)(s:ByteArray):rdS (k+1) s=rdS k (txL s):=by
 induction k with
 | zero=>rfl
 | succ k ih=>rw[rdS,ih];rfl
theorem rdF_cons (k:Nat)(s:ByteArray)(f:Bool):rdF (k+1) s f=rdF k (txL s) (txF s f):=by
 induction k with
 | zero=>rfl
 | succ k ih=>rw[rdF,ih,rdS_cons];rfl
theorem rdT_cons (k:Nat)(s:ByteArray):rdT (k+1) s=txS s::rdT k (txL s):=by
 induction k with
 | zero=>rfl
 | succ k ih=>rw[rdT,ih,rdS_cons];rfl
theorem rd_app (bs:List ByteArray)(q:List UInt8)(fl:Bool)(h:∀s∈bs,s.size<256):rdT bs.length (BA (txtsB bs++q))=bs/\rdS bs.length (BA (txtsB bs++q))=BA q/\rdF bs.length (BA (txtsB bs++q)) fl=fl:=by
 induction bs with
 | nil=>exact⟨rfl,rfl,rfl⟩
 | cons b bs ih=>
  have e:txtsB (b::bs)++q=txtB b++(txtsB bs++q):=by simp[txtsB]
  have h1:=tx_app b (txtsB bs++q) fl (h b List.mem_cons_self);have h2:=ih (fun s hs=>h s (List.mem_cons_of_mem _ hs));rw[e,List.length_cons,rdT_cons,rdS_cons,rdF_cons,h1.1,h1.2.1,h1.2.2,h2.1];exact⟨rfl,h2.2.1,h2.2.2⟩
def cp (r0 r:Wp.Rq)(f:Nat):Wp.Rq:=
 if f=0 then {r0 with q:=r.q}
 else if f=1 then {r0 with d:=r.d}
 else if f=2 then {r0 with vis:=r.vis}
 else if f=3 then {r0 with win:=r.win}
 else if f=4 then {r0 with rcv:=r.rcv}
 else if f=5 then {r0 with quo:=r.quo}
 else if f=6 then {r0 with mx:=r.mx}
 else if f=7 then {r0 with tic:=r.tic}
 else if f=8 then {r0 with tic:=r.tic}
 else if f=9 then {r0 with grp:=r.grp}
 else if f=10 then {r0 with ded:=r.ded}
 else if f=11 then {r0 with bod:=r.bod}
 else if f=12 then {r0 with att:=r.att}
 else if f=13 then {r0 with han:=r.han}
 else r0
theorem read_enc (r0 r:Wp.Rq)(bs:List ByteArray)(f:Nat)(q:List UInt8)(fl:Bool)(hf:f<15)(h:r.fits bs.length (Wp.short bs) f=true):
  setR r0 (BA (encF r bs f++q)) f=cp r0 r f/\stS (BA (encF r bs f++q)) f=BA q/\stF (BA (encF r bs f++q)) fl f=fl/\(f=14->rdT (nmN (BA (encF r bs f++q)) 1) (lf (BA (encF r bs f++q)) 1)=bs):=by
 have hx:f=0\/f=1\/f=2\/f=3\/f=4\/f=5\/f=6\/f=7\/f=8\/f=9\/f=10\/f=11\/f=12\/f=13\/f=14:=by omega
 rcases hx with rfl|rfl|rfl|rfl|rfl|rfl|rfl|rfl|rfl|rfl|rfl|rfl|rfl|rfl|rfl
 ·have e:encF r bs 0=[r.q]:=rfl;rw[e];refine⟨?_,lf_app [r.q] q,bad_app [r.q] q fl,fun h=>by cases h⟩
  show {r0 with q:=UInt8.ofNat (nmN (BA ([r.q]++q)) 1 % 256)}={r0 with q:=r.q}
  rw[nm_byte]
 ·have e:encF r bs 1=[r.d]:=rfl;rw[e];refine⟨?_,lf_app [r.d] q,bad_app [r.d] q fl,fun h=>by cases h⟩
  show {r0 with d:=UInt8.ofNat (nmN (BA ([r.d]++q)) 1 % 256)}={r0 with d:=r.d}
  rw[nm_byte]
 ·have hb1:1<=r.vis:=(fits_bounds r bs 2 (by decide) h).1;have hb2:r.vis<=1000:=(fits_bounds r bs 2 (by decide) h).2;have e:encF r bs 2=lowB r.vis.toNat 2:=rfl;have hl:=lowB_length r.vis.toNat 2;have h1:=lf_app (lowB r.vis.toNat 2) q;have h2:=bad_app (lowB r.vis.toNat 2) q fl;rw[hl]at h1 h2;rw[e];refine⟨?_,h1,h2,fun h=>by cases h⟩
  show {r0 with vis:=((nmN (BA (lowB r.vis.toNat 2++q)) 2:Nat):Int)}={r0 with vis:=r.vis}
  rw[nm_low2 _ _ (by omega),show ((r.vis.toNat:Nat):Int)=r.vis by omega]
 ·have hb1:0<=r.win:=(fits_bounds r bs 3 (by decide) h).1;have hb2:r.win<=1000:=(fits_bounds r bs 3 (by decide) h).2;have e:encF r bs 3=lowB r.win.toNat 2:=rfl;have hl:=lowB_length r.win.toNat 2;have h1:=lf_app (lowB r.win.toNat 2) q;have h2:=bad_app (lowB r.win.toNat 2) q fl;rw[hl]at h1 h2;rw[e];refine⟨?_,h1,h2,fun h=>by cases h⟩
  show {r0 with win:=((nmN (BA (lowB r.win.toNat 2++q)) 2:Nat):Int)}={r0 with win:=r.win}
  rw[nm_low2 _ _ (by omega),show ((r.win.toNat:Nat):Int)=r.win by omega]
 ·have hb1:0<=r.rcv:=(fits_bounds r bs 4 (by decide) h).1;have hb2:r.rcv<=9:=(fits_bounds r bs 4 (by decide) h).2;have e:encF r bs 4=lowB r.rcv.toNat 1:=rfl;have hl:=lowB_length r.rcv.toNat 1;have h1:=lf_app (lowB r.rcv.toNat 1) q;have h2:=bad_app (lowB r.rcv.toNat 1) q fl;rw[hl]at h1 h2;rw[e];refine⟨?_,h1,h2,fun h=>by cases h⟩
  show {r0 with rcv:=((nmN (BA (lowB r.rcv.toNat 1++q)) 1:Nat):Int)}={r0 with rcv:=r.rcv}
  rw[nm_low1 _ _ (by omega),show ((r.rcv.toNat:Nat):Int)=r.rcv by omega]
 ·have hb1:1<=r.quo:=(fits_bounds r bs 5 (by decide) h).1;have hb2:r.quo<=50:=(fits_bounds r bs 5 (by decide) h).2;have e:encF r bs 5=lowB r.quo.toNat 1:=rfl;have hl:=lowB_length r.quo.toNat 1;have h1:=lf_app (lowB r.quo.toNat 1) q;have h2:=bad_app (lowB r.quo.toNat 1) q fl;rw[hl]at h1 h2;rw[e];refine⟨?_,h1,h2,fun h=>by cases h⟩
  show {r0 with quo:=((nmN (BA (lowB r.quo.toNat 1++q)) 1:Nat):Int)}={r0 with quo:=r.quo}
  rw[nm_low1 _ _ (by omega),show ((r.quo.toNat:Nat):Int)=r.quo by omega]
 ·have hb1:1<=r.mx:=(fits_bounds r bs 6 (by decide) h).1;have hb2:r.mx<=10:=(fits_bounds r bs 6 (by decide) h).2;have e:encF r bs 6=lowB r.mx.toNat 1:=rfl;have hl:=lowB_length r.mx.toNat 1;have h1:=lf_app (lowB r.mx.toNat 1) q;have h2:=bad_app (lowB r.mx.toNat 1) q fl;rw[hl]at h1 h2;rw[e];refine⟨?_,h1,h2,fun h=>by cases h⟩
  show {r0 with mx:=((nmN (BA (lowB r.mx.toNat 1++q)) 1:Nat):Int)}={r0 with mx:=r.mx}
  rw[nm_low1 _ _ (by omega),show ((r.mx.toNat:Nat):Int)=r.mx by omega]
 ·have hb1:0<=r.tic:=(fits_bounds r bs 7 (by decide) h).1;have hb2:r.tic<=1000:=(fits_bounds r bs 7 (by decide) h).2;have e:encF r bs 7=lowB r.tic.toNat 2:=rfl;have hl:=lowB_length r.tic.toNat 2;have h1:=lf_app (lowB r.tic.toNat 2) q;have h2:=bad_app (lowB r.tic.toNat 2) q fl;rw[hl]at h1 h2;rw[e];refine⟨?_,h1,h2,fun h=>by cases h⟩
  show {r0 with tic:=((nmN (BA (lowB r.tic.toNat 2++q)) 2:Nat):Int)}={r0 with tic:=r.tic}
  rw[nm_low2 _ _ (by omega),show ((r.tic.toNat:Nat):Int)=r.tic by omega]
 ·have hb1:1<=r.tic:=(fits_bounds r bs 8 (by decide) h).1;have hb2:r.tic<=1000:=(fits_bounds r bs 8 (by decide) h).2;have e:encF r bs 8=lowB r.tic.toNat 2:=rfl;have hl:=lowB_length r.tic.toNat 2;have h1:=lf_app (lowB r.tic.toNat 2) q;have h2:=bad_app (lowB r.tic.toNat 2) q fl;rw[hl]at h1 h2;rw[e];refine⟨?_,h1,h2,fun h=>by cases h⟩
  show {r0 with tic:=((nmN (BA (lowB r.tic.toNat 2++q)) 2:Nat):Int)}={r0 with tic:=r.tic}
  rw[nm_low2 _ _ (by omega),show ((r.tic.toNat:Nat):Int)=r.tic by omega]
 ·have hb2:((r.grp.size:Nat):Int)<=8:=(fits_bounds r bs 9 (by decide) h).2;have e:encF r bs 9=txtB r.grp:=rfl;rw[e];have ht:=tx_app r.grp q fl (by omega);refine⟨?_,ht.2.1,ht.2.2,fun h=>by cases h⟩
  show {r0 with grp:=txS (BA (txtB r.grp++q))}={r0 with grp:=r.grp}
  rw[ht.1]
 ·have hb2:((r.ded.size:Nat):Int)<=8:=(fits_bounds r bs 10 (by decide) h).2;have e:encF r bs 10=txtB r.ded:=rfl;rw[e];have ht:=tx_app r.ded q fl (by omega);refine⟨?_,ht.2.1,ht.2.2,fun h=>by cases h⟩
  show {r0 with ded:=txS (BA (txtB r.ded++q))}={r0 with ded:=r.ded}
  rw[ht.1]
 ·have hb2:((r.bod.size:Nat):Int)<=255:=(fits_bounds r bs 11 (by decide) h).2;have e:encF r bs 11=txtB r.bod:=rfl;rw[e];have ht:=tx_app r.bod q fl (by omega);refine⟨?_,ht.2.1,ht.2.2,fun h=>by cases h⟩
  show {r0 with bod:=txS (BA (txtB r.bod++q))}={r0 with bod:=r.bod}
  rw[ht.1]
 ·have hb2:((r.att.size:Nat):Int)<=8:=(fits_bounds r bs 12 (by decide) h).2;have e:encF r bs 12=txtB r.att:=rfl;rw[e];have ht:=tx_app r.att q fl (by omega);refine⟨?_,ht.2.1,ht.2.2,fun h=>by cases h⟩
  show {r0 with att:=txS (BA (txtB r.att++q))}={r0 with att:=r.att}
  rw[ht.1]
 ·have hb2:((r.han.size:Nat):Int)<=255:=(fits_bounds r bs 13 (by decide) h).2;have e:encF r bs 13=txtB r.han:=rfl;rw[e];have ht:=tx_app r.han q fl (by omega);refine⟨?_,ht.2.1,ht.2.2,fun h=>by cases h⟩
  show {r0 with han:=txS (BA (txtB r.han++q))}={r0 with han:=r.han}
  rw[ht.1]
 ·have hb2:((bs.length:Nat):Int)<=10:=(fits_bounds r bs 14 (by decide) h).2;have hsh:=fits_short r bs h;have e:encF r bs 14=lowB bs.length 1++txtsB bs:=rfl;rw[e,List.append_assoc];have hl:=lowB_length bs.length 1;have h1:=lf_app (lowB bs.length 1) (txtsB bs++q);have h2:=bad_app (lowB bs.length 1) (txtsB bs++q) fl;rw[hl]at h1 h2;have h3:=nm_low1 bs.length (txtsB bs++q) (by omega);have h4:=rd_app bs q fl (fun s hs=>by have:=hsh s hs;omega);refine⟨rfl,?_,?_,fun _=>?_⟩
  ·show rdS (nmN _ 1) (lf _ 1)=_
   rw[h3,h1];exact h4.2.1
  ·show rdF (nmN _ 1) (lf _ 1) (bad _ fl 1)=_
   rw[h3,h1,h2];exact h4.2.2
  ·rw[h3,h1];exact h4.1
def i64 (n:Int):Prop:=-9223372036854775808<=n/\n<=9223372036854775807
structure Wf (r:Wp.Rq):Prop where
 vis:i64 r.vis
 win:i64 r.win
 rcv:i64 r.rcv
 quo:i64 r.quo
 mx:i64 r.mx
 tic:i64 r.tic
theorem wrap_i64 (n:Int):i64 (IntKind.i64.wrap n):=by
 unfold i64;simp[IntKind.wrap,IntKind.bits,IntKind.signed]
 split<;>omega
theorem ofInt_zero (a:Int)(ha:i64 a)(h:BitVec.ofInt 64 a=0#64):a=0:=by
 have h1:=congrArg BitVec.toInt h;rw[BitVec.toInt_ofInt,BitVec.toInt_zero]at h1;unfold i64 at ha;unfold Int.bmod at h1;dsimp only at h1
 split at h1<;>omega
theorem or_zero_iff (a b:Int)(ha:i64 a)(hb:i64 b):bits .or .i64 a b=0↔a=0/\b=0:=by
 constructor
 ·intro h;have h0:IntKind.i64.wrap ((BitVec.ofInt 64 a ||| BitVec.ofInt 64 b).toNat:Int)=0:=h;have hz:(BitVec.ofInt 64 a ||| BitVec.ofInt 64 b).toNat=0:=by
   have hlt:=(BitVec.ofInt 64 a ||| BitVec.ofInt 64 b).isLt;generalize (BitVec.ofInt 64 a ||| BitVec.ofInt 64 b).toNat=n at h0 hlt;simp[IntKind.wrap,IntKind.bits,IntKind.signed]at h0
   split at h0<;>omega
  have hv:BitVec.ofInt 64 a ||| BitVec.ofInt 64 b=0#64:=BitVec.eq_of_toNat_eq (by rw[hz];rfl);have hab:=BitVec.or_eq_zero_iff.1 hv;exact⟨ofInt_zero a ha hab.1,ofInt_zero b hb hab.2⟩
 ·rintro ⟨rfl,rfl⟩;decide
theorem or_i64_range (a b:Int):i64 (bits .or .i64 a b):=wrap_i64 _
theorem or_byte (a b:Nat)(ha:a<256)(hb:b<256):bits .or .u8 (a:Int) (b:Int)=0↔a=0/\b=0:=by
 rw[u8_or_nat a b ha hb];constructor
 ·intro h;have h1:a ||| b=0:=by omega
  exact Nat.or_eq_zero_iff.1 h1
 ·rintro ⟨rfl,rfl⟩;rfl
theorem or_byte_lt (a b:Nat)(ha:a<256)(hb:b<256):∃c:Nat,bits .or .u8 (a:Int) (b:Int)=(c:Int)/\c<256/\(c=0↔a=0/\b=0):=
 ⟨a ||| b,u8_or_nat a b ha hb,by have:=Nat.or_lt_two_pow (n:=8) (x:=a) (y:=b) (by omega) (by omega);omega,Nat.or_eq_zero_iff⟩
theorem empty_iff (s:ByteArray):s.toList.isEmpty=true↔s=⟨#[]⟩:=by
 constructor
 ·intro h;apply ByteArray.ext;apply Array.eq_empty_of_size_eq_zero;have:¬0<s.size:=fun hs=>by rw[str_ne hs]at h;cases h
  have e:s.size=s.data.size:=rfl;omega
 ·rintro rfl;exact str_em (s:=⟨#[]⟩) (by show ¬0<0;omega)
theorem byte_zero (c:UInt8):c.toNat=0↔c=0:=⟨fun h=>UInt8.toNat_inj.1 h,fun h=>by rw[h];rfl⟩
theorem blank_iff (r:Wp.Rq)(n:Nat)(h:Wf r):blankW r n=true↔r=opR 0/\n=0:=by
 obtain⟨c,hc,hc2,hc3⟩:=or_byte_lt r.op.toNat r.q.toNat r.op.toNat_lt r.q.toNat_lt;unfold blankW;rw[hc];simp only[Bool.and_eq_true,beq_iff_eq,or_byte c r.d.toNat hc2 r.d.toNat_lt,hc3,or_zero_iff _ _ (or_i64_range _ _) h.tic,or_zero_iff _ _ (or_i64_range _ _) h.mx,or_zero_iff _ _ (or_i64_range _ _) h.quo,or_zero_iff _ _ (or_i64_range _ _) h.rcv,or_zero_iff _ _ h.vis h.win,empty_iff,byte_zero];constructor
 ·rintro ⟨⟨⟨⟨⟨h1,h2⟩,h3⟩,⟨⟨⟨⟨h4,h5⟩,h6⟩,h7⟩,h8⟩,h9⟩,⟨⟨⟨h10,h11⟩,h12⟩,h13⟩,h14⟩,h15⟩;refine⟨?_,by omega⟩
  cases r
  simp only at*
  subst h1 h2 h3 h4 h5 h6 h7 h8 h9 h10 h11 h12 h13 h14;rfl
 ·rintro ⟨rfl,rfl⟩;exact⟨⟨⟨⟨⟨rfl,rfl⟩,rfl⟩,⟨⟨⟨⟨rfl,rfl⟩,rfl⟩,rfl⟩,rfl⟩,rfl⟩,⟨⟨⟨rfl,rfl⟩,rfl⟩,rfl⟩,rfl⟩,rfl⟩
theorem ite_wf {c:Prop} [Decidable c] {a b:Wp.Rq}(ha:Wf a)(hb:Wf b):Wf (if c then a else b):=by
 by_cases h:c
 ·rw[if_pos h];exact ha
 ·rw[if_neg h];exact hb
theorem er_wf (r:Wp.Rq)(f:Nat)(h:Wf r):Wf (er r f):=by
 have hz:i64 0:=by unfold i64;omega
 obtain⟨h1,h2,h3,h4,h5,h6⟩:=h;unfold er
 repeat' (refine ite_wf ?_ ?_)
 all_goals exact⟨by first|exact h1|exact hz,by first|exact h2|exact hz,by first|exact h3|exact hz,by first|exact h4|exact hz,by first|exact h5|exact hz,by first|exact h6|exact hz⟩
theorem erAll_wf (r:Wp.Rq)(L:List Nat)(h:Wf r):Wf (erAll r L):=by
 unfold erAll
 induction L generalizing r with
 | nil=>exact h
 | cons f L ih=>exact ih _ (er_wf r f h)
def opsAt:List Nat:=[0,1,2,4,15,17,18,19,21,23]
theorem isOp_at (op:UInt8):Wp.isOp op=true↔∃i∈opsAt,op.toNat=65+i:=by
 have h1:∀a:Fin 26,0<(Wp.lay a.val).length↔a.val∈opsAt:=by decide
 have h2:∀i∈opsAt,i<26:=by decide
 simp only[Wp.isOp,Bool.and_eq_true,decide_eq_true_eq];constructor
 ·rintro ⟨⟨a,b⟩,c⟩;exact⟨op.toNat-65,(h1 ⟨op.toNat-65,by omega⟩).1 c,by omega⟩
 ·rintro ⟨i,hi,he⟩;have:=h2 i hi;refine⟨⟨by omega,by omega⟩,?_⟩;rw[he,Nat.add_sub_cancel_left];exact(h1 ⟨i,this⟩).2 hi
theorem right_iff (r:Wp.Rq)(x:Sl)(b:Bool)(h:Wf r):rightW r x b=true↔∃i∈opsAt,r.op.toNat=65+i/\(Wp.lay i).all (r.fits x.n b)=true/\erAll {r with op:=0} (Wp.lay i)=opR 0/\(ebAll x (Wp.lay i)).n=0:=by
 have hw:Wf {r with op:=0}:=⟨h.vis,h.win,h.rcv,h.quo,h.mx,h.tic⟩;unfold rightW;rw[Bool.and_eq_true,Bool.and_eq_true,isOp_at,blank_iff _ _ (erAll_wf _ _ hw)];constructor
 ·rintro ⟨⟨i,hi,he⟩,h1,h2,h3⟩;rw[he,Nat.add_sub_cancel_left]at h1 h2 h3;exact⟨i,hi,he,h1,h2,h3⟩
 ·rintro ⟨i,hi,he,h1,h2,h3⟩;rw[he,Nat.add_sub_cancel_left];exact⟨⟨i,hi,rfl⟩,h1,h2,h3⟩
theorem cp_right (r:Wp.Rq)(i:Nat)(hi:i∈opsAt)(he:erAll {r with op:=0} (Wp.lay i)=opR 0):(Wp.lay i).foldl (fun a f=>cp a r f) (opR r.op)=r:=by
 simp only[opsAt,List.mem_cons,List.not_mem_nil,or_false]at hi;obtain⟨op,q,d,vis,win,rcv,quo,mx,tic,grp,ded,bod,att,han⟩:=r;rcases hi with rfl|rfl|rfl|rfl|rfl|rfl|rfl|rfl|rfl|rfl<;>
  (simp[Wp.lay,Wp.layTab,erAll,er,opR]at he;simp[Wp.lay,Wp.layTab,cp,opR,he])
theorem eb_right (x:Sl)(i:Nat)(hi:i∈opsAt)(h:(ebAll x (Wp.lay i)).n=0):i=1\/x.n=0:=by
 simp only[opsAt,List.mem_cons,List.not_mem_nil,or_false]at hi;rcases hi with rfl|rfl|rfl|rfl|rfl|rfl|rfl|rfl|rfl|rfl<;>
  (simp[Wp.lay,Wp.layTab,ebAll,eb]at h ⊢;try exact h)
theorem run_enc (r:Wp.Rq)(bs:List ByteArray)(q:List UInt8)(L:List Nat)(hL:∀f∈L,f<15)(hall:L.all (r.fits bs.length (Wp.short bs))=true)(t:St)(ht:t.s=BA (encL r bs L++q))(hf:t.fl=false):
  L.foldl stepSt t=⟨L.foldl (fun a f=>cp a r f) t.r,BA q,false,if 14∈L then bs else t.bs⟩:=by
 induction L generalizing t with
 | nil=>
  obtain⟨tr,ts,tf,tb⟩:=t;simp only at ht hf;subst ht hf;rfl
 | cons f L ih=>
  rw[List.all_cons,Bool.and_eq_true]at hall;have e:encL r bs (f::L)++q=encF r bs f++(encL r bs L++q):=by
   have e1:encL r bs (f::L)=encF r bs f++encL r bs L:=by simp[encL]
   rw[e1,List.append_assoc]
  rw[e]at ht;obtain⟨h1,h2,h3,h4⟩:=read_enc t.r r bs f (encL r bs L++q) t.fl (hL f List.mem_cons_self) hall.1;rw[<-ht]at h1 h2 h3 h4;rw[List.foldl_cons,ih (fun g hg=>hL g (List.mem_cons_of_mem _ hg)) hall.2 (stepSt t f) h2 (h3.trans hf)];have e2:(stepSt t f).r=cp t.r r f:=h1;have e3:(stepSt t f).bs=if f=14 then bs else t.bs:=by
   show (if f=14 then rdT (nmN t.s 1) (lf t.s 1) else t.bs)=_
   by_cases h14:f=14
   ·rw[if_pos h14,if_pos h14];exact h4 h14
   ·rw[if_neg h14,if_neg h14]
  rw[e2,e3,List.foldl_cons];congr 1
  by_cases h14:f=14
  ·subst h14;simp
  ·have:(14∈f::L)=(14∈L):=by simp[Ne.symm h14]
   rw[if_neg h14]
   by_cases hm:14∈L
   ·rw[if_pos hm,if_pos (by rw[this];exact hm)]
   ·rw[if_neg hm,if_neg (by rw[this];exact hm)]
theorem lay_fields (i:Nat)(hi:i∈opsAt):∀f∈Wp.lay i,f<15:=by
 have h2:∀i∈opsAt,∀f∈Wp.lay i,f<15:=by decide
 exact h2 i hi
theorem end_enc (r:Wp.Rq)(x:Sl)(bs:List ByteArray)(q:List UInt8)(hw:Wf r)(hxn:x.n=bs.length)(h:rightW r x (Wp.short bs)=true):
  endSt (BA (r.op::encL r bs (Wp.lay (r.op.toNat-65))++q))=⟨r,BA q,false,bs⟩/\opOf (BA (r.op::encL r bs (Wp.lay (r.op.toNat-65))++q))=r.op:=by
 obtain⟨i,hi,hop,hall,her,heb⟩:=(right_iff r x _ hw).1 h;rw[hop,Nat.add_sub_cancel_left];have ho:opOf (BA (r.op::encL r bs (Wp.lay i)++q))=r.op:=nm_byte r.op (encL r bs (Wp.lay i)++q);have h1:lf (BA (r.op::encL r bs (Wp.lay i)++q)) 1=BA (encL r bs (Wp.lay i)++q):=lf_app [r.op] (encL r bs (Wp.lay i)++q);have h2:bad (BA (r.op::encL r bs (Wp.lay i)++q)) false 1=false:=bad_app [r.op] (encL r bs (Wp.lay i)++q) false;refine⟨?_,ho⟩;unfold endSt runSt;rw[ho,hop,Nat.add_sub_cancel_left,h1,h2];rw[hxn]at hall;rw[run_enc r bs q (Wp.lay i) (lay_fields i hi) hall _ rfl rfl,cp_right r i hi her];congr 1
 by_cases h14:14∈Wp.lay i
 ·rw[if_pos h14]
 ·rw[if_neg h14];rcases eb_right x i hi heb with rfl|hn
  ·exact absurd (by decide) h14
  ·rw[hxn]at hn;exact(List.length_eq_zero_iff.1 hn).symm
theorem good_enc (r:Wp.Rq)(x:Sl)(bs:List ByteArray)(q:List UInt8)(hw:Wf r)(hxn:x.n=bs.length)(h:rightW r x (Wp.short bs)=true):
  parseGood (BA (r.op::encL r bs (Wp.lay (r.op.toNat-65))++q))=q.isEmpty:=by
 obtain⟨h1,h2⟩:=end_enc r x bs q hw hxn h;have hop:Wp.isOp r.op=true:=by
  unfold rightW at h;rw[Bool.and_eq_true]at h;exact h.1
 unfold parseGood;rw[h1,h2,hop,<-rightW_n r x ⟨none,bs.length,0⟩ (Wp.short bs) hxn,h]
 show (true&&(!false&&((BA q).toList.isEmpty&&true)))=_
 rw[ByteArray.toList_eq,BA_list];simp
theorem bad_false {fl:Bool}{n:Nat}(h:bad s fl n=false):fl=false/\n<=s.size:=by
 unfold bad at h
 by_cases hn:n<=s.size
 ·rw[if_pos hn]at h;exact⟨h,hn⟩
 ·rw[if_neg hn]at h;cases h
theorem take_lf (s:ByteArray)(n:Nat)(h:n<=s.size):s.data.toList=(tk s n).data.toList++(lf s n).data.toList:=by
 rw[tk_list s n h,lf_list s n h,List.take_append_drop]
theorem tk_length (s:ByteArray)(n:Nat)(h:n<=s.size):(tk s n).data.toList.length=n:=by
 rw[tk_list s n h,List.length_take];have:s.data.toList.length=s.size:=rfl;omega
theorem lowB_cons (n k:Nat):lowB n (k+1)=UInt8.ofNat (n % 256)::lowB (n / 256) k:=by
 unfold lowB;rw[List.range_succ_eq_map,List.map_cons,List.map_map];congr 1
 ·simp
 ·apply List.map_congr_left;intro j _
  show UInt8.ofNat (n / 256^(j+1) % 256)=UInt8.ofNat (n / 256 / 256^j % 256)
  rw[Nat.div_div_eq_div_mul,Nat.pow_succ,Nat.mul_comm]
theorem lowB_le (l:List UInt8):lowB (leN l) l.length=l:=by
 induction l with
 | nil=>rfl
 | cons c r ih=>
  have hc:=c.toNat_lt;have h1:leN (c::r) % 256=c.toNat:=by show (c.toNat+256*leN r) % 256=_;omega
  have h2:leN (c::r) / 256=leN r:=by show (c.toNat+256*leN r) / 256=_;omega
  rw[List.length_cons,lowB_cons,h1,h2,ih];congr 1;simp
theorem num_taken (s:ByteArray)(n:Nat)(h:n<=s.size):lowB (nmN s n) n=(tk s n).data.toList:=by
 have h1:=lowB_le (tk s n).data.toList;rw[tk_length s n h]at h1;exact h1
theorem byte_taken (s:ByteArray)(h:1<=s.size):[UInt8.ofNat (nmN s 1 % 256)]=(tk s 1).data.toList:=by
 have h1:=num_taken s 1 h;rw[lowB_cons]at h1;exact h1
theorem txt_taken (s:ByteArray)(fl:Bool)(h:txF s fl=false):fl=false/\s.data.toList=txtB (txS s)++(txL s).data.toList:=by
 have h1:=bad_false h;have h2:=bad_false h1.1;refine⟨h2.1,?_⟩;have e1:=take_lf s 1 h2.2;have e2:=take_lf (lf s 1) (nmN s 1) h1.2;have e3:(txS s).size=nmN s 1:=tk_length (lf s 1) (nmN s 1) h1.2;rw[txtB,e3,num_taken s 1 h2.2,List.append_assoc];exact e1.trans (congrArg _ e2)
theorem rd_taken (k:Nat)(s:ByteArray)(fl:Bool)(h:rdF k s fl=false):fl=false/\s.data.toList=txtsB (rdT k s)++(rdS k s).data.toList:=by
 induction k generalizing s fl with
 | zero=>exact⟨h,rfl⟩
 | succ k ih=>
  rw[rdF_cons]at h;obtain⟨h1,h2⟩:=ih _ _ h;obtain⟨h3,h4⟩:=txt_taken s fl h1;refine⟨h3,?_⟩;rw[rdT_cons,rdS_cons];have e:txtsB (txS s::rdT k (txL s))=txtB (txS s)++txtsB (rdT k (txL s)):=by simp[txtsB]
  rw[e,List.append_assoc,<-h2];exact h4
theorem write_0 (s:ByteArray)(fl:Bool)(r:Wp.Rq)(bs:List ByteArray)(h:stF s fl 0=false):fl=false/\s.data.toList=encF (setR r s 0) (if 0=14 then rdT (nmN s 1) (lf s 1) else bs) 0++(stS s 0).data.toList:=by
 have h':=h;have hb:=bad_false h';have e:encF (setR r s 0) (if 0=14 then rdT (nmN s 1) (lf s 1) else bs) 0=[UInt8.ofNat (nmN s 1 % 256)]:=rfl;have e2:stS s 0=lf s 1:=rfl;rw[e,e2,byte_taken s hb.2];exact⟨hb.1,take_lf s 1 hb.2⟩
theorem write_1 (s:ByteArray)(fl:Bool)(r:Wp.Rq)(bs:List ByteArray)(h:stF s fl 1=false):fl=false/\s.data.toList=encF (setR r s 1) (if 1=14 then rdT (nmN s 1) (lf s 1) else bs) 1++(stS s 1).data.toList:=by
 have h':=h;have hb:=bad_false h';have e:encF (setR r s 1) (if 1=14 then rdT (nmN s 1) (lf s 1) else bs) 1=[UInt8.ofNat (nmN s 1 % 256)]:=rfl;have e2:stS s 1=lf s 1:=rfl;rw[e,e2,byte_taken s hb.2];exact⟨hb.1,take_lf s 1 hb.2⟩
theorem write_2 (s:ByteArray)(fl:Bool)(r:Wp.Rq)(bs:List ByteArray)(h:stF s fl 2=false):fl=false/\s.data.toList=encF (setR r s 2) (if 2=14 then rdT (nmN s 1) (lf s 1) else bs) 2++(stS s 2).data.toList:=by
 have h':=h;have hb:=bad_false h';have e:encF (setR r s 2) (if 2=14 then rdT (nmN s 1) (lf s 1) else bs) 2=lowB ((nmN s 2:Nat):Int).toNat 2:=rfl;have e2:stS s 2=lf s 2:=rfl;rw[e,e2,Int.toNat_natCast,num_taken s 2 hb.2];exact⟨hb.1,take_lf s 2 hb.2⟩
theorem write_3 (s:ByteArray)(fl:Bool)(r:Wp.Rq)(bs:List ByteArray)(h:stF s fl 3=false):fl=false/\s.data.toList=encF (setR r s 3) (if 3=14 then rdT (nmN s 1) (lf s 1) else bs) 3++(stS s 3).data.toList:=by
 have h':=h;have hb:=bad_false h';have e:encF (setR r s 3) (if 3=14 then rdT (nmN s 1) (lf s 1) else bs) 3=lowB ((nmN s 2:Nat):Int).toNat 2:=rfl;have e2:stS s 3=lf s 2:=rfl;rw[e,e2,Int.toNat_natCast,num_taken s 2 hb.2];exact⟨hb.1,take_lf s 2 hb.2⟩
theorem write_4 (s:ByteArray)(fl:Bool)(r:Wp.Rq)(bs:List ByteArray)(h:stF s fl 4=false):fl=false/\s.data.toList=encF (setR r s 4) (if 4=14 then rdT (nmN s 1) (lf s 1) else bs) 4++(stS s 4).data.toList:=by
 have h':=h;have hb:=bad_false h';have e:encF (setR r s 4) (if 4=14 then rdT (nmN s 1) (lf s 1) else bs) 4=lowB ((nmN s 1:Nat):Int).toNat 1:=rfl;have e2:stS s 4=lf s 1:=rfl;rw[e,e2,Int.toNat_natCast,num_taken s 1 hb.2];exact⟨hb.1,take_lf s 1 hb.2⟩
theorem write_5 (s:ByteArray)(fl:Bool)(r:Wp.Rq)(bs:List ByteArray)(h:stF s fl 5=false):fl=false/\s.data.toList=encF (setR r s 5) (if 5=14 then rdT (nmN s 1) (lf s 1) else bs) 5++(stS s 5).data.toList:=by
 have h':=h;have hb:=bad_false h';have e:encF (setR r s 5) (if 5=14 then rdT (nmN s 1) (lf s 1) else bs) 5=lowB ((nmN s 1:Nat):Int).toNat 1:=rfl;have e2:stS s 5=lf s 1:=rfl;rw[e,e2,Int.toNat_natCast,num_taken s 1 hb.2];exact⟨hb.1,take_lf s 1 hb.2⟩
theorem write_6 (s:ByteArray)(fl:Bool)(r:Wp.Rq)(bs:List ByteArray)(h:stF s fl 6=false):fl=false/\s.data.toList=encF (setR r s 6) (if 6=14 then rdT (nmN s 1) (lf s 1) else bs) 6++(stS s 6).data.toList:=by
 have h':=h;have hb:=bad_false h';have e:encF (setR r s 6) (if 6=14 then rdT (nmN s 1) (lf s 1) else bs) 6=lowB ((nmN s 1:Nat):Int).toNat 1:=rfl;have e2:stS s 6=lf s 1:=rfl;rw[e,e2,Int.toNat_natCast,num_taken s 1 hb.2];exact⟨hb.1,take_lf s 1 hb.2⟩
theorem write_7 (s:ByteArray)(fl:Bool)(r:Wp.Rq)(bs:List ByteArray)(h:stF s fl 7=false):fl=false/\s.data.toList=encF (setR r s 7) (if 7=14 then rdT (nmN s 1) (lf s 1) else bs) 7++(stS s 7).data.toList:=by
 have h':=h;have hb:=bad_false h';have e:encF (setR r s 7) (if 7=14 then rdT (nmN s 1) (lf s 1) else bs) 7=lowB ((nmN s 2:Nat):Int).toNat 2:=rfl;have e2:stS s 7=lf s 2:=rfl;rw[e,e2,Int.toNat_natCast,num_taken s 2 hb.2];exact⟨hb.1,take_lf s 2 hb.2⟩
theorem write_8 (s:ByteArray)(fl:Bool)(r:Wp.Rq)(bs:List ByteArray)(h:stF s fl 8=false):fl=false/\s.data.toList=encF (setR r s 8) (if 8=14 then rdT (nmN s 1) (lf s 1) else bs) 8++(stS s 8).data.toList:=by
 have h':=h;have hb:=bad_false h';have e:encF (setR r s 8) (if 8=14 then rdT (nmN s 1) (lf s 1) else bs) 8=lowB ((nmN s 2:Nat):Int).toNat 2:=rfl;have e2:stS s 8=lf s 2:=rfl;rw[e,e2,Int.toNat_natCast,num_taken s 2 hb.2];exact⟨hb.1,take_lf s 2 hb.2⟩
theorem write_9 (s:ByteArray)(fl:Bool)(r:Wp.Rq)(bs:List ByteArray)(h:stF s fl 9=false):fl=false/\s.data.toList=encF (setR r s 9) (if 9=14 then rdT (nmN s 1) (lf s 1) else bs) 9++(stS s 9).data.toList:=by
 have h':=h;have e:encF (setR r s 9) (if 9=14 then rdT (nmN s 1) (lf s 1) else bs) 9=txtB (txS s):=rfl;have e2:stS s 9=txL s:=rfl;rw[e,e2];exact txt_taken s fl h'
theorem write_10 (s:ByteArray)(fl:Bool)(r:Wp.Rq)(bs:List ByteArray)(h:stF s fl 10=false):fl=false/\s.data.toList=encF (setR r s 10) (if 10=14 then rdT (nmN s 1) (lf s 1) else bs) 10++(stS s 10).data.toList:=by
 have h':=h;have e:encF (setR r s 10) (if 10=14 then rdT (nmN s 1) (lf s 1) else bs) 10=txtB (txS s):=rfl;have e2:stS s 10=txL s:=rfl;rw[e,e2];exact txt_taken s fl h'
theorem write_11 (s:ByteArray)(fl:Bool)(r:Wp.Rq)(bs:List ByteArray)(h:stF s fl 11=false):fl=false/\s.data.toList=encF (setR r s 11) (if 11=14 then rdT (nmN s 1) (lf s 1) else bs) 11++(stS s 11).data.toList:=by
 have h':=h;have e:encF (setR r s 11) (if 11=14 then rdT (nmN s 1) (lf s 1) else bs) 11=txtB (txS s):=rfl;have e2:stS s 11=txL s:=rfl;rw[e,e2];exact txt_taken s fl h'
theorem write_12 (s:ByteArray)(fl:Bool)(r:Wp.Rq)(bs:List ByteArray)(h:stF s fl 12=false):fl=false/\s.data.toList=encF (setR r s 12) (if 12=14 then rdT (nmN s 1) (lf s 1) else bs) 12++(stS s 12).data.toList:=by
 have h':=h;have e:encF (setR r s 12) (if 12=14 then rdT (nmN s 1) (lf s 1) else bs) 12=txtB (txS s):=rfl;have e2:stS s 12=txL s:=rfl;rw[e,e2];exact txt_taken s fl h'
theorem write_13 (s:ByteArray)(fl:Bool)(r:Wp.Rq)(bs:List ByteArray)(h:stF s fl 13=false):fl=false/\s.data.toList=encF (setR r s 13) (if 13=14 then rdT (nmN s 1) (lf s 1) else bs) 13++(stS s 13).data.toList:=by
 have h':=h;have e:encF (setR r s 13) (if 13=14 then rdT (nmN s 1) (lf s 1) else bs) 13=txtB (txS s):=rfl;have e2:stS s 13=txL s:=rfl;rw[e,e2];exact txt_taken s fl h'
theorem write_14 (s:ByteArray)(fl:Bool)(r:Wp.Rq)(bs:List ByteArray)(h:stF s fl 14=false):fl=false/\s.data.toList=encF (setR r s 14) (if 14=14 then rdT (nmN s 1) (lf s 1) else bs) 14++(stS s 14).data.toList:=by
 have h':=h;have e:encF (setR r s 14) (if 14=14 then rdT (nmN s 1) (lf s 1) else bs) 14=lowB (rdT (nmN s 1) (lf s 1)).length 1++txtsB (rdT (nmN s 1) (lf s 1)):=rfl;have e2:stS s 14=rdS (nmN s 1) (lf s 1):=rfl;have ht:=rd_taken (nmN s 1) (lf s 1) (bad s fl 1) h';have hb:=bad_false ht.1;rw[e,e2,rdT_length,num_taken s 1 hb.2,List.append_assoc,<-ht.2];exact⟨hb.1,take_lf s 1 hb.2⟩
theorem write_read (s:ByteArray)(fl:Bool)(r:Wp.Rq)(bs:List ByteArray)(f:Nat)(hf:f<15)(h:stF s fl f=false):fl=false/\s.data.toList=encF (setR r s f) (if f=14 then rdT (nmN s 1) (lf s 1) else bs) f++(stS s f).data.toList:=by
 have hx:f=0\/f=1\/f=2\/f=3\/f=4\/f=5\/f=6\/f=7\/f=8\/f=9\/f=10\/f=11\/f=12\/f=13\/f=14:=by omega
 rcases hx with rfl|rfl|rfl|rfl|rfl|rfl|rfl|rfl|rfl|rfl|rfl|rfl|rfl|rfl|rfl
 ·exact write_0 s fl r bs h
 ·exact write_1 s fl r bs h
 ·exact write_2 s fl r bs h
 ·exact write_3 s fl r bs h
 ·exact write_4 s fl r bs h
 ·exact write_5 s fl r bs h
 ·exact write_6 s fl r bs h
 ·exact write_7 s fl r bs h
 ·exact write_8 s fl r bs h
 ·exact write_9 s fl r bs h
 ·exact write_10 s fl r bs h
 ·exact write_11 s fl r bs h
 ·exact write_12 s fl r bs h
 ·exact write_13 s fl r bs h
 ·exact write_14 s fl r bs h
end Go.Proofs.YtbdobaapadlcjabGreatDoor
