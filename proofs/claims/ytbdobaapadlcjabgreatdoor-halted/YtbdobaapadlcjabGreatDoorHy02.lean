import Derived.Test.YtbdobaapadlcjabGreatDoorHy01
set_option maxHeartbeats 12000000
set_option linter.unusedVariables false
set_option linter.unusedSimpArgs false
namespace Go.Proofs.YtbdobaapadlcjabGreatDoor
open Go.RowKit
variable {w w1:World}{s:ByteArray}{c:Nat}{fl:Bool}{r:Wp.Rq}{x:Sl}
def encF (r:Wp.Rq)(bs:List ByteArray)(f:Nat):List UInt8:=
 if Wp.shape f=0 then [r.let f] else if Wp.shape f=1 then lowB (r.num f).toNat 1 else if Wp.shape f=2 then lowB (r.num f).toNat 2 else if Wp.shape f=3 then txtB (r.txt f) else lowB bs.length 1++txtsB bs
theorem fits_bounds (r:Wp.Rq)(bs:List ByteArray)(f:Nat)(h1:f≠1)(h:r.fits bs.length (Wp.short bs) f=true):Wp.least f<=r.measure bs.length f/\r.measure bs.length f<=Wp.most f:=by
 unfold Wp.Rq.fits at h;rw[if_neg (fun e=>h1 e.1)]at h
 by_cases a:r.measure bs.length f<Wp.least f
 ·rw[if_pos a]at h;cases h
 ·rw[if_neg a]at h
  by_cases b:Wp.most f<r.measure bs.length f
  ·rw[if_pos b]at h;cases h
  ·omega
theorem fits_short (r:Wp.Rq)(bs:List ByteArray)(h:r.fits bs.length (Wp.short bs) 14=true):∀s∈bs,s.size<=255:=by
 unfold Wp.Rq.fits at h;rw[if_neg (fun e=>by cases e.1)]at h
 by_cases a:r.measure bs.length 14<Wp.least 14
 ·rw[if_pos a]at h;cases h
 ·rw[if_neg a]at h
  by_cases b:Wp.most 14<r.measure bs.length 14
  ·rw[if_pos b]at h;cases h
  ·rw[if_neg b,if_neg (by decide),if_neg (by decide),if_pos rfl]at h;intro s hs;have:=List.all_eq_true.1 h s hs;simpa using this
theorem appendField_0 (B base b:Nat)(v:Value)(l:List UInt8)(r:Wp.Rq)(a:Option Addr)(cap:Nat)(bs:List ByteArray)(w:World)(hfit:r.fits bs.length (Wp.short bs) 0=true)(hl:l.length<=1048576)(hb:base<=w.heap.size)(hbb:b<base)(hL:Lays B w)(hB:Box w b r (.slice a bs.length cap))(hown:OwnB w base v l)
  (hS:∀j (h:j<bs.length),∃b o,a=some ⟨b,o,none⟩/\b<base/\w.cell? ⟨b,o+j,none⟩=some (.string bs[j])):
  Calls Tryz.prog 66 #[v,.pointer (some ⟨b,0,none⟩),.int .i64 0] w fun e w'=>∃v',e=.returned v'/\OwnB w' base v' (l++encF r bs 0)/\Below base w w':=by
 have hr:=hL.2.1;have t0:w.cell? ⟨1,0,none⟩=some (.int .i64 0):=hr 0 (by decide);have c1:w.cell? ⟨b,1,none⟩=some (.int .u8 (r.q.toNat:Int)):=hB 1 _ rfl;have hbd:=fits_bounds r bs 0 (by decide) hfit;obtain⟨i0,hi,hz0,hz1,hz2⟩:=info_parts info5;have hen:Hid (encF r bs 0=[r.q]):=by show _=_;rfl
 have HO:=zH hown;clear hr hL hB hown hS hfit;go_enter Tryz.func66,Tryz.ntmps66;go_wp2_with (first|(at_builtin;refine wpList_append_own _ rfl _ _ 54 rfl base 5 i0 (.int .u8 0) 1 1 Tryz.underlying54 hi hz0 hz1 hz2 rfl (by decide) _ _ _ rfl (World.ownsRow.alloc HO.out _) ⟨w.heap.size,0,none⟩ 1 1 [.int .u8 (r.q.toNat:Int)] rfl rfl ?c1 ?c2 ?c3 ?c4 ?c5 ?_)|go_in)
 case c1=>exact cell_one_new _ _ _
 case c2=>intro u hu;simp at hu;subst hu;rfl
 case c3=>unfold maxLen;omega
 case c4=>omega
 case c5=>simp;omega
 intro v' w1 hown' hgrow _;have hr1:OwnB w1 base v' (l++encF r bs 0):=by rw[hen.out];exact OwnB.snoc rfl hown'
 have hr2:Below base w w1:=by
  refine Below.grown ((Below.refl _ _).alloc (by omega) _) hgrow (by simp;omega) ?_;intro k hk;exact(World.ownsRow.lt HO.out k hk).1
 clear hown' hgrow
 go_wp2
 go_ret;exact⟨_,rfl,hr1,hr2⟩
theorem appendField_1 (B base b:Nat)(v:Value)(l:List UInt8)(r:Wp.Rq)(a:Option Addr)(cap:Nat)(bs:List ByteArray)(w:World)(hfit:r.fits bs.length (Wp.short bs) 1=true)(hl:l.length<=1048576)(hb:base<=w.heap.size)(hbb:b<base)(hL:Lays B w)(hB:Box w b r (.slice a bs.length cap))(hown:OwnB w base v l)
  (hS:∀j (h:j<bs.length),∃b o,a=some ⟨b,o,none⟩/\b<base/\w.cell? ⟨b,o+j,none⟩=some (.string bs[j])):
  Calls Tryz.prog 66 #[v,.pointer (some ⟨b,0,none⟩),.int .i64 1] w fun e w'=>∃v',e=.returned v'/\OwnB w' base v' (l++encF r bs 1)/\Below base w w':=by
 have hr:=hL.2.1;have t3:w.cell? ⟨1,3,none⟩=some (.int .i64 0):=hr 3 (by decide);have c2:w.cell? ⟨b,2,none⟩=some (.int .u8 (r.d.toNat:Int)):=hB 2 _ rfl;obtain⟨i0,hi,hz0,hz1,hz2⟩:=info_parts info5;have hen:Hid (encF r bs 1=[r.d]):=by show _=_;rfl
 have HO:=zH hown;clear hr hL hB hown hS hfit;go_enter Tryz.func66,Tryz.ntmps66;go_wp2_with (first|(at_builtin;refine wpList_append_own _ rfl _ _ 54 rfl base 5 i0 (.int .u8 0) 1 1 Tryz.underlying54 hi hz0 hz1 hz2 rfl (by decide) _ _ _ rfl (World.ownsRow.alloc HO.out _) ⟨w.heap.size,0,none⟩ 1 1 [.int .u8 (r.d.toNat:Int)] rfl rfl ?c1 ?c2 ?c3 ?c4 ?c5 ?_)|go_in)
 case c1=>exact cell_one_new _ _ _
 case c2=>intro u hu;simp at hu;subst hu;rfl
 case c3=>unfold maxLen;omega
 case c4=>omega
 case c5=>simp;omega
 intro v' w1 hown' hgrow _;have hr1:OwnB w1 base v' (l++encF r bs 1):=by rw[hen.out];exact OwnB.snoc rfl hown'
 have hr2:Below base w w1:=by
  refine Below.grown ((Below.refl _ _).alloc (by omega) _) hgrow (by simp;omega) ?_;intro k hk;exact(World.ownsRow.lt HO.out k hk).1
 clear hown' hgrow
 go_wp2
 go_ret;exact⟨_,rfl,hr1,hr2⟩
theorem appendField_2 (B base b:Nat)(v:Value)(l:List UInt8)(r:Wp.Rq)(a:Option Addr)(cap:Nat)(bs:List ByteArray)(w:World)(hfit:r.fits bs.length (Wp.short bs) 2=true)(hl:l.length<=1048576)(hb:base<=w.heap.size)(hbb:b<base)(hL:Lays B w)(hB:Box w b r (.slice a bs.length cap))(hown:OwnB w base v l)
  (hS:∀j (h:j<bs.length),∃b o,a=some ⟨b,o,none⟩/\b<base/\w.cell? ⟨b,o+j,none⟩=some (.string bs[j])):
  Calls Tryz.prog 66 #[v,.pointer (some ⟨b,0,none⟩),.int .i64 2] w fun e w'=>∃v',e=.returned v'/\OwnB w' base v' (l++encF r bs 2)/\Below base w w':=by
 have hr:=hL.2.1;have t6:w.cell? ⟨1,6,none⟩=some (.int .i64 2):=hr 6 (by decide);have c3:w.cell? ⟨b,3,none⟩=some (.int .i64 r.vis):=hB 3 _ rfl;have hbd:=fits_bounds r bs 2 (by decide) hfit;have hlo:=hbd.1;have hhi:=hbd.2;have hlo':1<=r.vis:=hlo;have hhi':r.vis<=1000:=hhi;have hnn:((r.vis.toNat:Nat):Int)=r.vis:=by omega
 have hnum:Hid (Calls Tryz.prog 46 #[v,.int .i64 r.vis,.int .i64 2] w fun e w'=>∃v',e=.returned v'/\OwnB w' base v' (l++encF r bs 2)/\Below base w w'):=by
  have h:=appendNumber_any base v l r.vis.toNat 2 w (by omega) (by decide) (by omega) hb hown;rw[hnn]at h;exact h
 clear hr hL hB hown hS hfit hnn hlo hhi hbd;go_enter Tryz.func66,Tryz.ntmps66;go_wp2_with (first|(go_at_call 46;refine(hnum.out).mono ?_;rintro e w1 ⟨v1,rfl,ho1,hb1⟩)|go_in);go_ret;exact⟨_,rfl,ho1,hb1⟩
theorem appendField_3 (B base b:Nat)(v:Value)(l:List UInt8)(r:Wp.Rq)(a:Option Addr)(cap:Nat)(bs:List ByteArray)(w:World)(hfit:r.fits bs.length (Wp.short bs) 3=true)(hl:l.length<=1048576)(hb:base<=w.heap.size)(hbb:b<base)(hL:Lays B w)(hB:Box w b r (.slice a bs.length cap))(hown:OwnB w base v l)
  (hS:∀j (h:j<bs.length),∃b o,a=some ⟨b,o,none⟩/\b<base/\w.cell? ⟨b,o+j,none⟩=some (.string bs[j])):
  Calls Tryz.prog 66 #[v,.pointer (some ⟨b,0,none⟩),.int .i64 3] w fun e w'=>∃v',e=.returned v'/\OwnB w' base v' (l++encF r bs 3)/\Below base w w':=by
 have hr:=hL.2.1;have t9:w.cell? ⟨1,9,none⟩=some (.int .i64 2):=hr 9 (by decide);have c4:w.cell? ⟨b,4,none⟩=some (.int .i64 r.win):=hB 4 _ rfl;have hbd:=fits_bounds r bs 3 (by decide) hfit;have hlo:=hbd.1;have hhi:=hbd.2;have hlo':0<=r.win:=hlo;have hhi':r.win<=1000:=hhi;have hnn:((r.win.toNat:Nat):Int)=r.win:=by omega
 have hnum:Hid (Calls Tryz.prog 46 #[v,.int .i64 r.win,.int .i64 2] w fun e w'=>∃v',e=.returned v'/\OwnB w' base v' (l++encF r bs 3)/\Below base w w'):=by
  have h:=appendNumber_any base v l r.win.toNat 2 w (by omega) (by decide) (by omega) hb hown;rw[hnn]at h;exact h
 clear hr hL hB hown hS hfit hnn hlo hhi hbd;go_enter Tryz.func66,Tryz.ntmps66;go_wp2_with (first|(go_at_call 46;refine(hnum.out).mono ?_;rintro e w1 ⟨v1,rfl,ho1,hb1⟩)|go_in);go_ret;exact⟨_,rfl,ho1,hb1⟩
theorem appendField_4 (B base b:Nat)(v:Value)(l:List UInt8)(r:Wp.Rq)(a:Option Addr)(cap:Nat)(bs:List ByteArray)(w:World)(hfit:r.fits bs.length (Wp.short bs) 4=true)(hl:l.length<=1048576)(hb:base<=w.heap.size)(hbb:b<base)(hL:Lays B w)(hB:Box w b r (.slice a bs.length cap))(hown:OwnB w base v l)
  (hS:∀j (h:j<bs.length),∃b o,a=some ⟨b,o,none⟩/\b<base/\w.cell? ⟨b,o+j,none⟩=some (.string bs[j])):
  Calls Tryz.prog 66 #[v,.pointer (some ⟨b,0,none⟩),.int .i64 4] w fun e w'=>∃v',e=.returned v'/\OwnB w' base v' (l++encF r bs 4)/\Below base w w':=by
 have hr:=hL.2.1;have t12:w.cell? ⟨1,12,none⟩=some (.int .i64 1):=hr 12 (by decide);have c5:w.cell? ⟨b,5,none⟩=some (.int .i64 r.rcv):=hB 5 _ rfl;have hbd:=fits_bounds r bs 4 (by decide) hfit;have hlo:=hbd.1;have hhi:=hbd.2;have hlo':0<=r.rcv:=hlo;have hhi':r.rcv<=9:=hhi;have hnn:((r.rcv.toNat:Nat):Int)=r.rcv:=by omega
 have hnum:Hid (Calls Tryz.prog 46 #[v,.int .i64 r.rcv,.int .i64 1] w fun e w'=>∃v',e=.returned v'/\OwnB w' base v' (l++encF r bs 4)/\Below base w w'):=by
  have h:=appendNumber_any base v l r.rcv.toNat 1 w (by omega) (by decide) (by omega) hb hown;rw[hnn]at h;exact h
 clear hr hL hB hown hS hfit hnn hlo hhi hbd;go_enter Tryz.func66,Tryz.ntmps66;go_wp2_with (first|(go_at_call 46;refine(hnum.out).mono ?_;rintro e w1 ⟨v1,rfl,ho1,hb1⟩)|go_in);go_ret;exact⟨_,rfl,ho1,hb1⟩
theorem appendField_5 (B base b:Nat)(v:Value)(l:List UInt8)(r:Wp.Rq)(a:Option Addr)(cap:Nat)(bs:List ByteArray)(w:World)(hfit:r.fits bs.length (Wp.short bs) 5=true)(hl:l.length<=1048576)(hb:base<=w.heap.size)(hbb:b<base)(hL:Lays B w)(hB:Box w b r (.slice a bs.length cap))(hown:OwnB w base v l)
  (hS:∀j (h:j<bs.length),∃b o,a=some ⟨b,o,none⟩/\b<base/\w.cell? ⟨b,o+j,none⟩=some (.string bs[j])):
  Calls Tryz.prog 66 #[v,.pointer (some ⟨b,0,none⟩),.int .i64 5] w fun e w'=>∃v',e=.returned v'/\OwnB w' base v' (l++encF r bs 5)/\Below base w w':=by
 have hr:=hL.2.1;have t15:w.cell? ⟨1,15,none⟩=some (.int .i64 1):=hr 15 (by decide);have c6:w.cell? ⟨b,6,none⟩=some (.int .i64 r.quo):=hB 6 _ rfl;have hbd:=fits_bounds r bs 5 (by decide) hfit;have hlo:=hbd.1;have hhi:=hbd.2;have hlo':1<=r.quo:=hlo;have hhi':r.quo<=50:=hhi;have hnn:((r.quo.toNat:Nat):Int)=r.quo:=by omega
 have hnum:Hid (Calls Tryz.prog 46 #[v,.int .i64 r.quo,.int .i64 1] w fun e w'=>∃v',e=.returned v'/\OwnB w' base v' (l++encF r bs 5)/\Below base w w'):=by
  have h:=appendNumber_any base v l r.quo.toNat 1 w (by omega) (by decide) (by omega) hb hown;rw[hnn]at h;exact h
 clear hr hL hB hown hS hfit hnn hlo hhi hbd;go_enter Tryz.func66,Tryz.ntmps66;go_wp2_with (first|(go_at_call 46;refine(hnum.out).mono ?_;rintro e w1 ⟨v1,rfl,ho1,hb1⟩)|go_in);go_ret;exact⟨_,rfl,ho1,hb1⟩
theorem appendField_6 (B base b:Nat)(v:Value)(l:List UInt8)(r:Wp.Rq)(a:Option Addr)(cap:Nat)(bs:List ByteArray)(w:World)(hfit:r.fits bs.length (Wp.short bs) 6=true)(hl:l.length<=1048576)(hb:base<=w.heap.size)(hbb:b<base)(hL:Lays B w)(hB:Box w b r (.slice a bs.length cap))(hown:OwnB w base v l)
  (hS:∀j (h:j<bs.length),∃b o,a=some ⟨b,o,none⟩/\b<base/\w.cell? ⟨b,o+j,none⟩=some (.string bs[j])):
  Calls Tryz.prog 66 #[v,.pointer (some ⟨b,0,none⟩),.int .i64 6] w fun e w'=>∃v',e=.returned v'/\OwnB w' base v' (l++encF r bs 6)/\Below base w w':=by
 have hr:=hL.2.1;have t18:w.cell? ⟨1,18,none⟩=some (.int .i64 1):=hr 18 (by decide);have c7:w.cell? ⟨b,7,none⟩=some (.int .i64 r.mx):=hB 7 _ rfl;have hbd:=fits_bounds r bs 6 (by decide) hfit;have hlo:=hbd.1;have hhi:=hbd.2;have hlo':1<=r.mx:=hlo;have hhi':r.mx<=10:=hhi;have hnn:((r.mx.toNat:Nat):Int)=r.mx:=by omega
 have hnum:Hid (Calls Tryz.prog 46 #[v,.int .i64 r.mx,.int .i64 1] w fun e w'=>∃v',e=.returned v'/\OwnB w' base v' (l++encF r bs 6)/\Below base w w'):=by
  have h:=appendNumber_any base v l r.mx.toNat 1 w (by omega) (by decide) (by omega) hb hown;rw[hnn]at h;exact h
 clear hr hL hB hown hS hfit hnn hlo hhi hbd;go_enter Tryz.func66,Tryz.ntmps66;go_wp2_with (first|(go_at_call 46;refine(hnum.out).mono ?_;rintro e w1 ⟨v1,rfl,ho1,hb1⟩)|go_in);go_ret;exact⟨_,rfl,ho1,hb1⟩
theorem appendField_7 (B base b:Nat)(v:Value)(l:List UInt8)(r:Wp.Rq)(a:Option Addr)(cap:Nat)(bs:List ByteArray)(w:World)(hfit:r.fits bs.length (Wp.short bs) 7=true)(hl:l.length<=1048576)(hb:base<=w.heap.size)(hbb:b<base)(hL:Lays B w)(hB:Box w b r (.slice a bs.length cap))(hown:OwnB w base v l)
  (hS:∀j (h:j<bs.length),∃b o,a=some ⟨b,o,none⟩/\b<base/\w.cell? ⟨b,o+j,none⟩=some (.string bs[j])):
  Calls Tryz.prog 66 #[v,.pointer (some ⟨b,0,none⟩),.int .i64 7] w fun e w'=>∃v',e=.returned v'/\OwnB w' base v' (l++encF r bs 7)/\Below base w w':=by
 have hr:=hL.2.1;have t21:w.cell? ⟨1,21,none⟩=some (.int .i64 2):=hr 21 (by decide);have c8:w.cell? ⟨b,8,none⟩=some (.int .i64 r.tic):=hB 8 _ rfl;have hbd:=fits_bounds r bs 7 (by decide) hfit;have hlo:=hbd.1;have hhi:=hbd.2;have hlo':0<=r.tic:=hlo;have hhi':r.tic<=1000:=hhi;have hnn:((r.tic.toNat:Nat):Int)=r.tic:=by omega
 have hnum:Hid (Calls Tryz.prog 46 #[v,.int .i64 r.tic,.int .i64 2] w fun e w'=>∃v',e=.returned v'/\OwnB w' base v' (l++encF r bs 7)/\Below base w w'):=by
  have h:=appendNumber_any base v l r.tic.toNat 2 w (by omega) (by decide) (by omega) hb hown;rw[hnn]at h;exact h
 clear hr hL hB hown hS hfit hnn hlo hhi hbd;go_enter Tryz.func66,Tryz.ntmps66;go_wp2_with (first|(go_at_call 46;refine(hnum.out).mono ?_;rintro e w1 ⟨v1,rfl,ho1,hb1⟩)|go_in);go_ret;exact⟨_,rfl,ho1,hb1⟩
theorem appendField_8 (B base b:Nat)(v:Value)(l:List UInt8)(r:Wp.Rq)(a:Option Addr)(cap:Nat)(bs:List ByteArray)(w:World)(hfit:r.fits bs.length (Wp.short bs) 8=true)(hl:l.length<=1048576)(hb:base<=w.heap.size)(hbb:b<base)(hL:Lays B w)(hB:Box w b r (.slice a bs.length cap))(hown:OwnB w base v l)
  (hS:∀j (h:j<bs.length),∃b o,a=some ⟨b,o,none⟩/\b<base/\w.cell? ⟨b,o+j,none⟩=some (.string bs[j])):
  Calls Tryz.prog 66 #[v,.pointer (some ⟨b,0,none⟩),.int .i64 8] w fun e w'=>∃v',e=.returned v'/\OwnB w' base v' (l++encF r bs 8)/\Below base w w':=by
 have hr:=hL.2.1;have t24:w.cell? ⟨1,24,none⟩=some (.int .i64 2):=hr 24 (by decide);have c8:w.cell? ⟨b,8,none⟩=some (.int .i64 r.tic):=hB 8 _ rfl;have hbd:=fits_bounds r bs 8 (by decide) hfit;have hlo:=hbd.1;have hhi:=hbd.2;have hlo':1<=r.tic:=hlo;have hhi':r.tic<=1000:=hhi;have hnn:((r.tic.toNat:Nat):Int)=r.tic:=by omega
 have hnum:Hid (Calls Tryz.prog 46 #[v,.int .i64 r.tic,.int .i64 2] w fun e w'=>∃v',e=.returned v'/\OwnB w' base v' (l++encF r bs 8)/\Below base w w'):=by
  have h:=appendNumber_any base v l r.tic.toNat 2 w (by omega) (by decide) (by omega) hb hown;rw[hnn]at h;exact h
 clear hr hL hB hown hS hfit hnn hlo hhi hbd;go_enter Tryz.func66,Tryz.ntmps66;go_wp2_with (first|(go_at_call 46;refine(hnum.out).mono ?_;rintro e w1 ⟨v1,rfl,ho1,hb1⟩)|go_in);go_ret;exact⟨_,rfl,ho1,hb1⟩
theorem appendField_9 (B base b:Nat)(v:Value)(l:List UInt8)(r:Wp.Rq)(a:Option Addr)(cap:Nat)(bs:List ByteArray)(w:World)(hfit:r.fits bs.length (Wp.short bs) 9=true)(hl:l.length<=1048576)(hb:base<=w.heap.size)(hbb:b<base)(hL:Lays B w)(hB:Box w b r (.slice a bs.length cap))(hown:OwnB w base v l)
  (hS:∀j (h:j<bs.length),∃b o,a=some ⟨b,o,none⟩/\b<base/\w.cell? ⟨b,o+j,none⟩=some (.string bs[j])):
  Calls Tryz.prog 66 #[v,.pointer (some ⟨b,0,none⟩),.int .i64 9] w fun e w'=>∃v',e=.returned v'/\OwnB w' base v' (l++encF r bs 9)/\Below base w w':=by
 have hr:=hL.2.1;have t27:w.cell? ⟨1,27,none⟩=some (.int .i64 3):=hr 27 (by decide);have c9:w.cell? ⟨b,9,none⟩=some (.string r.grp):=hB 9 _ rfl;have hbd:=fits_bounds r bs 9 (by decide) hfit;have hhi:r.measure bs.length 9<=8:=hbd.2;have hhi':((r.grp.size:Nat):Int)<=8:=hhi;have hnum:Hid (Calls Tryz.prog 90 #[v,.string r.grp] w fun e w'=>∃v',e=.returned v'/\OwnB w' base v' (l++encF r bs 9)/\Below base w w'):=
  appendText_any base v l r.grp w (by omega) (by omega) hb hown
 clear hr hL hB hown hS hfit hhi hbd;go_enter Tryz.func66,Tryz.ntmps66;go_wp2_with (first|(go_at_call 90;refine(hnum.out).mono ?_;rintro e w1 ⟨v1,rfl,ho1,hb1⟩)|go_in);go_ret;exact⟨_,rfl,ho1,hb1⟩
theorem appendField_10 (B base b:Nat)(v:Value)(l:List UInt8)(r:Wp.Rq)(a:Option Addr)(cap:Nat)(bs:List ByteArray)(w:World)(hfit:r.fits bs.length (Wp.short bs) 10=true)(hl:l.length<=1048576)(hb:base<=w.heap.size)(hbb:b<base)(hL:Lays B w)(hB:Box w b r (.slice a bs.length cap))(hown:OwnB w base v l)
  (hS:∀j (h:j<bs.length),∃b o,a=some ⟨b,o,none⟩/\b<base/\w.cell? ⟨b,o+j,none⟩=some (.string bs[j])):
  Calls Tryz.prog 66 #[v,.pointer (some ⟨b,0,none⟩),.int .i64 10] w fun e w'=>∃v',e=.returned v'/\OwnB w' base v' (l++encF r bs 10)/\Below base w w':=by
 have hr:=hL.2.1;have t30:w.cell? ⟨1,30,none⟩=some (.int .i64 3):=hr 30 (by decide);have c10:w.cell? ⟨b,10,none⟩=some (.string r.ded):=hB 10 _ rfl;have hbd:=fits_bounds r bs 10 (by decide) hfit;have hhi:r.measure bs.length 10<=8:=hbd.2;have hhi':((r.ded.size:Nat):Int)<=8:=hhi;have hnum:Hid (Calls Tryz.prog 90 #[v,.string r.ded] w fun e w'=>∃v',e=.returned v'/\OwnB w' base v' (l++encF r bs 10)/\Below base w w'):=
  appendText_any base v l r.ded w (by omega) (by omega) hb hown
 clear hr hL hB hown hS hfit hhi hbd;go_enter Tryz.func66,Tryz.ntmps66;go_wp2_with (first|(go_at_call 90;refine(hnum.out).mono ?_;rintro e w1 ⟨v1,rfl,ho1,hb1⟩)|go_in);go_ret;exact⟨_,rfl,ho1,hb1⟩
theorem appendField_11 (B base b:Nat)(v:Value)(l:List UInt8)(r:Wp.Rq)(a:Option Addr)(cap:Nat)(bs:List ByteArray)(w:World)(hfit:r.fits bs.length (Wp.short bs) 11=true)(hl:l.length<=1048576)(hb:base<=w.heap.size)(hbb:b<base)(hL:Lays B w)(hB:Box w b r (.slice a bs.length cap))(hown:OwnB w base v l)
  (hS:∀j (h:j<bs.length),∃b o,a=some ⟨b,o,none⟩/\b<base/\w.cell? ⟨b,o+j,none⟩=some (.string bs[j])):
  Calls Tryz.prog 66 #[v,.pointer (some ⟨b,0,none⟩),.int .i64 11] w fun e w'=>∃v',e=.returned v'/\OwnB w' base v' (l++encF r bs 11)/\Below base w w':=by
 have hr:=hL.2.1;have t33:w.cell? ⟨1,33,none⟩=some (.int .i64 3):=hr 33 (by decide);have c11:w.cell? ⟨b,11,none⟩=some (.string r.bod):=hB 11 _ rfl;have hbd:=fits_bounds r bs 11 (by decide) hfit;have hhi:r.measure bs.length 11<=255:=hbd.2;have hhi':((r.bod.size:Nat):Int)<=255:=hhi;have hnum:Hid (Calls Tryz.prog 90 #[v,.string r.bod] w fun e w'=>∃v',e=.returned v'/\OwnB w' base v' (l++encF r bs 11)/\Below base w w'):=
  appendText_any base v l r.bod w (by omega) (by omega) hb hown
 clear hr hL hB hown hS hfit hhi hbd;go_enter Tryz.func66,Tryz.ntmps66;go_wp2_with (first|(go_at_call 90;refine(hnum.out).mono ?_;rintro e w1 ⟨v1,rfl,ho1,hb1⟩)|go_in);go_ret;exact⟨_,rfl,ho1,hb1⟩
theorem appendField_12 (B base b:Nat)(v:Value)(l:List UInt8)(r:Wp.Rq)(a:Option Addr)(cap:Nat)(bs:List ByteArray)(w:World)(hfit:r.fits bs.length (Wp.short bs) 12=true)(hl:l.length<=1048576)(hb:base<=w.heap.size)(hbb:b<base)(hL:Lays B w)(hB:Box w b r (.slice a bs.length cap))(hown:OwnB w base v l)
  (hS:∀j (h:j<bs.length),∃b o,a=some ⟨b,o,none⟩/\b<base/\w.cell? ⟨b,o+j,none⟩=some (.string bs[j])):
  Calls Tryz.prog 66 #[v,.pointer (some ⟨b,0,none⟩),.int .i64 12] w fun e w'=>∃v',e=.returned v'/\OwnB w' base v' (l++encF r bs 12)/\Below base w w':=by
 have hr:=hL.2.1;have t36:w.cell? ⟨1,36,none⟩=some (.int .i64 3):=hr 36 (by decide);have c12:w.cell? ⟨b,12,none⟩=some (.string r.att):=hB 12 _ rfl;have hbd:=fits_bounds r bs 12 (by decide) hfit;have hhi:r.measure bs.length 12<=8:=hbd.2;have hhi':((r.att.size:Nat):Int)<=8:=hhi;have hnum:Hid (Calls Tryz.prog 90 #[v,.string r.att] w fun e w'=>∃v',e=.returned v'/\OwnB w' base v' (l++encF r bs 12)/\Below base w w'):=
  appendText_any base v l r.att w (by omega) (by omega) hb hown
 clear hr hL hB hown hS hfit hhi hbd;go_enter Tryz.func66,Tryz.ntmps66;go_wp2_with (first|(go_at_call 90;refine(hnum.out).mono ?_;rintro e w1 ⟨v1,rfl,ho1,hb1⟩)|go_in);go_ret;exact⟨_,rfl,ho1,hb1⟩
theorem appendField_13 (B base b:Nat)(v:Value)(l:List UInt8)(r:Wp.Rq)(a:Option Addr)(cap:Nat)(bs:List ByteArray)(w:World)(hfit:r.fits bs.length (Wp.short bs) 13=true)(hl:l.length<=1048576)(hb:base<=w.heap.size)(hbb:b<base)(hL:Lays B w)(hB:Box w b r (.slice a bs.length cap))(hown:OwnB w base v l)
  (hS:∀j (h:j<bs.length),∃b o,a=some ⟨b,o,none⟩/\b<base/\w.cell? ⟨b,o+j,none⟩=some (.string bs[j])):
  Calls Tryz.prog 66 #[v,.pointer (some ⟨b,0,none⟩),.int .i64 13] w fun e w'=>∃v',e=.returned v'/\OwnB w' base v' (l++encF r bs 13)/\Below base w w':=by
 have hr:=hL.2.1;have t39:w.cell? ⟨1,39,none⟩=some (.int .i64 3):=hr 39 (by decide);have c13:w.cell? ⟨b,13,none⟩=some (.string r.han):=hB 13 _ rfl;have hbd:=fits_bounds r bs 13 (by decide) hfit;have hhi:r.measure bs.length 13<=255:=hbd.2;have hhi':((r.han.size:Nat):Int)<=255:=hhi;have hnum:Hid (Calls Tryz.prog 90 #[v,.string r.han] w fun e w'=>∃v',e=.returned v'/\OwnB w' base v' (l++encF r bs 13)/\Below base w w'):=
  appendText_any base v l r.han w (by omega) (by omega) hb hown
 clear hr hL hB hown hS hfit hhi hbd;go_enter Tryz.func66,Tryz.ntmps66;go_wp2_with (first|(go_at_call 90;refine(hnum.out).mono ?_;rintro e w1 ⟨v1,rfl,ho1,hb1⟩)|go_in);go_ret;exact⟨_,rfl,ho1,hb1⟩
theorem appendField_14 (B base b:Nat)(v:Value)(l:List UInt8)(r:Wp.Rq)(a:Option Addr)(cap:Nat)(bs:List ByteArray)(w:World)(hfit:r.fits bs.length (Wp.short bs) 14=true)(hl:l.length<=1048576)(hb:base<=w.heap.size)(hbb:b<base)(hL:Lays B w)(hB:Box w b r (.slice a bs.length cap))(hown:OwnB w base v l)
  (hS:∀j (h:j<bs.length),∃b o,a=some ⟨b,o,none⟩/\b<base/\w.cell? ⟨b,o+j,none⟩=some (.string bs[j])):
  Calls Tryz.prog 66 #[v,.pointer (some ⟨b,0,none⟩),.int .i64 14] w fun e w'=>∃v',e=.returned v'/\OwnB w' base v' (l++encF r bs 14)/\Below base w w':=by
 have hr:=hL.2.1;have t42:w.cell? ⟨1,42,none⟩=some (.int .i64 4):=hr 42 (by decide);have c14:w.cell? ⟨b,14,none⟩=some (.slice a bs.length cap):=hB 14 _ rfl;have hbd:=fits_bounds r bs 14 (by decide) hfit;have hhi:r.measure bs.length 14<=10:=hbd.2;have hhi':((bs.length:Nat):Int)<=10:=hhi;have hsh:∀s∈bs,s.size<=65535:=fun s hs=>by have:=fits_short r bs hfit s hs;omega
 have hnum:Hid (Calls Tryz.prog 91 #[v,.slice a bs.length cap] w fun e w'=>∃v',e=.returned v'/\OwnB w' base v' (l++encF r bs 14)/\Below base w w'):=
  appendTexts_any base v l a cap bs w hsh (by omega) hl hb hown hS
 clear hr hL hB hown hS hfit hhi hbd hsh;go_enter Tryz.func66,Tryz.ntmps66;go_wp2_with (first|(go_at_call 91;refine(hnum.out).mono ?_;rintro e w1 ⟨v1,rfl,ho1,hb1⟩)|go_in);go_ret;exact⟨_,rfl,ho1,hb1⟩
theorem appendField_any (B base b f:Nat)(v:Value)(l:List UInt8)(r:Wp.Rq)(a:Option Addr)(cap:Nat)(bs:List ByteArray)(w:World)(hf:f<15)(hfit:r.fits bs.length (Wp.short bs) f=true)(hl:l.length<=1048576)(hb:base<=w.heap.size)(hbb:b<base)(hL:Lays B w)(hB:Box w b r (.slice a bs.length cap))(hown:OwnB w base v l)
  (hS:∀j (h:j<bs.length),∃b o,a=some ⟨b,o,none⟩/\b<base/\w.cell? ⟨b,o+j,none⟩=some (.string bs[j])):
  Calls Tryz.prog 66 #[v,.pointer (some ⟨b,0,none⟩),.int .i64 (f:Int)] w fun e w'=>∃v',e=.returned v'/\OwnB w' base v' (l++encF r bs f)/\Below base w w':=by
 have hx:f=0\/f=1\/f=2\/f=3\/f=4\/f=5\/f=6\/f=7\/f=8\/f=9\/f=10\/f=11\/f=12\/f=13\/f=14:=by omega
 rcases hx with rfl|rfl|rfl|rfl|rfl|rfl|rfl|rfl|rfl|rfl|rfl|rfl|rfl|rfl|rfl
 ·exact appendField_0 B base b v l r a cap bs w hfit hl hb hbb hL hB hown hS
 ·exact appendField_1 B base b v l r a cap bs w hfit hl hb hbb hL hB hown hS
 ·exact appendField_2 B base b v l r a cap bs w hfit hl hb hbb hL hB hown hS
 ·exact appendField_3 B base b v l r a cap bs w hfit hl hb hbb hL hB hown hS
 ·exact appendField_4 B base b v l r a cap bs w hfit hl hb hbb hL hB hown hS
 ·exact appendField_5 B base b v l r a cap bs w hfit hl hb hbb hL hB hown hS
 ·exact appendField_6 B base b v l r a cap bs w hfit hl hb hbb hL hB hown hS
 ·exact appendField_7 B base b v l r a cap bs w hfit hl hb hbb hL hB hown hS
 ·exact appendField_8 B base b v l r a cap bs w hfit hl hb hbb hL hB hown hS
 ·exact appendField_9 B base b v l r a cap bs w hfit hl hb hbb hL hB hown hS
 ·exact appendField_10 B base b v l r a cap bs w hfit hl hb hbb hL hB hown hS
 ·exact appendField_11 B base b v l r a cap bs w hfit hl hb hbb hL hB hown hS
 ·exact appendField_12 B base b v l r a cap bs w hfit hl hb hbb hL hB hown hS
 ·exact appendField_13 B base b v l r a cap bs w hfit hl hb hbb hL hB hown hS
 ·exact appendField_14 B base b v l r a cap bs w hfit hl hb hbb hL hB hown hS
def encL (r:Wp.Rq)(bs:List ByteArray)(fs:List Nat):List UInt8:=fs.flatMap (encF r bs)
theorem encL_snoc (r:Wp.Rq)(bs:List ByteArray)(fs:List Nat)(f:Nat):encL r bs (fs++[f])=encL r bs fs++encF r bs f:=by
 rw[encL,List.flatMap_append,List.flatMap_singleton];rfl
theorem txtsB_short (bs:List ByteArray)(h:∀s∈bs,s.size<=255):(txtsB bs).length<=256*bs.length:=by
 induction bs with
 | nil=>simp[txtsB]
 | cons x r ih=>
  have h1:=ih (fun s hs=>h s (List.mem_cons_of_mem _ hs));have h2:=h x List.mem_cons_self;have e:txtsB (x::r)=txtB x++txtsB r:=by simp[txtsB]
  rw[e,List.length_append,txtB_length,List.length_cons];omega
theorem encF_length (r:Wp.Rq)(bs:List ByteArray)(f:Nat)(hf:f<15)(h:r.fits bs.length (Wp.short bs) f=true):(encF r bs f).length<=2600:=by
 have hx:f=0\/f=1\/f=2\/f=3\/f=4\/f=5\/f=6\/f=7\/f=8\/f=9\/f=10\/f=11\/f=12\/f=13\/f=14:=by omega
 rcases hx with rfl|rfl|rfl|rfl|rfl|rfl|rfl|rfl|rfl|rfl|rfl|rfl|rfl|rfl|rfl
 ·show [_].length<=2600;simp
 ·show [_].length<=2600;simp
 ·show (lowB _ _).length<=2600;rw[lowB_length];omega
 ·show (lowB _ _).length<=2600;rw[lowB_length];omega
 ·show (lowB _ _).length<=2600;rw[lowB_length];omega
 ·show (lowB _ _).length<=2600;rw[lowB_length];omega
 ·show (lowB _ _).length<=2600;rw[lowB_length];omega
 ·show (lowB _ _).length<=2600;rw[lowB_length];omega
 ·show (lowB _ _).length<=2600;rw[lowB_length];omega
 ·have hb:((r.grp.size:Nat):Int)<=8:=(fits_bounds r bs 9 (by decide) h).2
  show (txtB r.grp).length<=2600;rw[txtB_length];omega
 ·have hb:((r.ded.size:Nat):Int)<=8:=(fits_bounds r bs 10 (by decide) h).2
  show (txtB r.ded).length<=2600;rw[txtB_length];omega
 ·have hb:((r.bod.size:Nat):Int)<=255:=(fits_bounds r bs 11 (by decide) h).2
  show (txtB r.bod).length<=2600;rw[txtB_length];omega
 ·have hb:((r.att.size:Nat):Int)<=8:=(fits_bounds r bs 12 (by decide) h).2
  show (txtB r.att).length<=2600;rw[txtB_length];omega
 ·have hb:((r.han.size:Nat):Int)<=255:=(fits_bounds r bs 13 (by decide) h).2
  show (txtB r.han).length<=2600;rw[txtB_length];omega
 ·have hb:((bs.length:Nat):Int)<=10:=(fits_bounds r bs 14 (by decide) h).2;have hs:=txtsB_short bs (fits_short r bs h)
  show (lowB _ _++txtsB bs).length<=2600
  rw[List.length_append,lowB_length];omega
theorem encL_length (r:Wp.Rq)(bs:List ByteArray)(fs:List Nat)(hf:∀f∈fs,f<15)(h:fs.all (r.fits bs.length (Wp.short bs))=true):(encL r bs fs).length<=2600*fs.length:=by
 induction fs with
 | nil=>simp[encL]
 | cons f fs ih=>
  rw[List.all_cons,Bool.and_eq_true]at h;have h1:=ih (fun g hg=>hf g (List.mem_cons_of_mem _ hg)) h.2;have h2:=encF_length r bs f (hf f List.mem_cons_self) h.1;have e:encL r bs (f::fs)=encF r bs f++encL r bs fs:=by simp[encL]
  rw[e,List.length_append,List.length_cons];omega
def printS (r:Wp.Rq)(x:Sl)(bs:List ByteArray):ByteArray:=if rightW r x (Wp.short bs)=true then ⟨(r.op::encL r bs (Wp.lay (r.op.toNat-65))).toArray⟩ else ⟨#[]⟩
def printE (r:Wp.Rq)(x:Sl)(bs:List ByteArray):Int:=if rightW r x (Wp.short bs)=true then 0 else 1
theorem OwnB.str {base:Nat}{v:Value}{l:List UInt8}(h:OwnB w base v l)(hl:0<l.length):(convert 54 9 v).run Tryz.prog w=.ok (.string ⟨l.toArray⟩) w:=by
 have h':=h;obtain⟨h1,h2⟩:=h;rcases h2 with ⟨_,h2⟩|⟨g,cap,cur,rfl,hg,hh,r⟩
 ·omega
 ·refine run_convert_bytes_back (P:=Tryz.prog) w 54 9 5 ⟨g,0,none⟩ cap l Tryz.underlying54 Tryz.underlying5 Tryz.underlying9 ?_;intro j hj;exact World.ownsRow.cells h' (g:=g) rfl j _ (by simp[bytesV,hj])
theorem ret_print {t:ByteArray}{a b:Int}(h1:s=t)(h2:a=b):Ending.returned (.tuple #[.string s,.int .i64 a])=.returned (.tuple #[.string t,.int .i64 b]):=by rw[h1,h2]
theorem print_no (B:Nat)(r:Wp.Rq)(x:Sl)(bs:List ByteArray)(w:World)(hno:rightW r x (Wp.short bs)=false)(hxn:x.n=bs.length)(hn:bs.length<=maxLen)(hL:Lays B w)(hBw:B<=w.heap.size)(hS:Strs w x.a bs):
  zB 42 #[.agg (cellsOf r x.v)] w (.tuple #[.string (printS r x bs),.int .i64 (printE r x bs)]):=by
 have hp1:Hid (printS r x bs=⟨#[]⟩):=by show _=_;rw[printS,hno];rfl
 have hp2:Hid (printE r x bs=1):=by show _=_;rw[printE,hno];rfl
 have HR:Hid (∀W,Below w.heap.size w W->zB 58 #[.agg (cellsOf r x.v)] W (.bool false)):=by
  intro W hW;have h:=right_any B r x bs W hxn hn (hL.below (hW.mono hBw)) (by have:=hW.size;omega) (hS.below hW)
  rwa [hno]at h
 clear hno hxn hL hS;generalize hc:cellsOf r x.v=C at HR ⊢;have HCS:Hid (C.size=15):=by show _=_;rw[<-hc];rfl
 clear hc;go_enter Tryz.func42,Tryz.ntmps42;go_wp2_with (refine wpList_load_row rfl 24 _ rfl w.heap.size rfl 24 C (0,0) _ (heap_alloc_new _ _) Tryz.underlying24 rfl (by rw[HCS.out];kernel_rfl) ?_);refine(HR.out _ ((Below.refl _ _).alloc (Nat.le_refl _) _)).mono ?_;rintro e w1 ⟨rfl,hb1⟩;go_wp2_with fail;go_ret2;exact⟨ret_print hp1.out.symm hp2.out.symm,((Below.refl _ _).alloc (Nat.le_refl _) _).trans (hb1.mono (by simp))⟩
theorem print_yes (B:Nat)(r:Wp.Rq)(x:Sl)(bs:List ByteArray)(w:World)(i:Nat)(hop:r.op.toNat=65+i)(hi:i<26)(hyes:rightW r x (Wp.short bs)=true)(hxn:x.n=bs.length)(hn:bs.length<=maxLen)(hL:Lays B w)(hBw:B<=w.heap.size)(hS:Strs w x.a bs):
  zB 42 #[.agg (cellsOf r x.v)] w (.tuple #[.string (printS r x bs),.int .i64 (printE r x bs)]):=by
 have hp1:Hid (printS r x bs=⟨(r.op::encL r bs (Wp.lay i)).toArray⟩):=by show _=_;rw[printS,hyes,hop,Nat.add_sub_cancel_left];rfl
 have hp2:Hid (printE r x bs=0):=by show _=_;rw[printE,hyes];rfl
 have HR:Hid (∀W,Below w.heap.size w W->zB 58 #[.agg (cellsOf r x.v)] W (.bool true)):=by
  intro W hW;have h:=right_any B r x bs W hxn hn (hL.below (hW.mono hBw)) (by have:=hW.size;omega) (hS.below hW)
  rwa [hyes]at h
 have hall:Hid ((Wp.lay i).all (r.fits bs.length (Wp.short bs))=true):=by
  have h:=hyes;unfold rightW at h;rw[hop,Nat.add_sub_cancel_left,Bool.and_eq_true,Bool.and_eq_true,hxn]at h;exact h.2.1
 have hlen:(Wp.lay i).length<100:=by
  have h1:∀a:Fin 26,(Wp.lay a.val).length<100:=by decide
  exact h1 ⟨i,hi⟩
 have HLT:=zH (lay_lt i);have HLM:Hid (∀f∈Wp.lay i,f<15):=by
  have h1:∀a:Fin 26,∀x∈Wp.lay a.val,x<15:=by decide
  exact h1 ⟨i,hi⟩
 obtain⟨la,lcap,hlc,hlj⟩:=hL.2.2 i hi;have HLJ:=zH hlj;have HLC:=zH hlc;have HL:=zH hL;have HS:=zH hS;have HXN:=zH hxn;have hsz:2<w.heap.size:=by have:=hL.1;omega
 clear hyes hxn hL hS hlj hlc;generalize hLL:Wp.lay i=L at*
 clear hLL;have hopi:((r.op.toNat:Nat):Int)=65+(i:Int):=by omega
 have HOPI:=zH hopi;clear hopi;generalize hc:cellsOf r x.v=C at HR ⊢;have HCS:Hid (C.size=15):=by show _=_;rw[<-hc];rfl
 have HCC:=zH hc;have HC0:Hid (C[0]?=some (.int .u8 (65+(i:Int)))):=by show _=_;rw[<-hc,<-HOPI.out];rfl
 clear hc;go_enter Tryz.func42,Tryz.ntmps42;go_wp2_with (refine wpList_load_row rfl 24 _ rfl w.heap.size rfl 24 C (0,0) _ (heap_alloc_new _ _) Tryz.underlying24 rfl (by rw[HCS.out];kernel_rfl) ?_);refine(HR.out _ ((Below.refl _ _).alloc (Nat.le_refl _) _)).mono ?_;rintro e w1 ⟨rfl,hb1⟩;have hblk:w1.heap[w.heap.size]?=some (.cells C 24 (0,0)):=(hb1.block w.heap.size (by simp)).trans (heap_alloc_new _ _);have HBK:=zH hblk;have hc0:w1.cell? ⟨w.heap.size,0,none⟩=some (.int .u8 (65+(i:Int))):=(cell_of_row w1 w.heap.size 0 C 24 (0,0) hblk).trans HC0.out;have hbw:Below w.heap.size w w1:=((Below.refl _ _).alloc (Nat.le_refl _) _).trans (hb1.mono (by simp));have HBW:Hid (Below w.heap.size w w1):=hbw;have hlc1:w1.cell? ⟨0,i,none⟩=some (.slice la L.length lcap):=(hbw.cell (p:=⟨0,i,none⟩) (show 0<w.heap.size by omega)).trans HLC.out;have hs1:w.heap.size<w1.heap.size:=by have:=hb1.size;simp at this;omega
 have hs2:0<w1.heap.size:=by omega
 clear hblk hbw hb1;go_wp2_with fail;rw[Nat.add_sub_cancel_left]
 go_loopw [4,19] (fun o v wr=>∃k:Nat,k<=L.length/\v=.int .i64 k/\OwnB wr w1.heap.size o (r.op::encL r bs (L.take k))/\Below w1.heap.size w1 wr) (fun _ v _=>L.length-(intOf v).toNat)
 case atStart=>
  refine⟨0,Nat.zero_le _,rfl,?_,(Below.refl _ _).alloc (Nat.le_refl _) _⟩;have hb:bytesV [r.op]=[.int .u8 (65+(i:Int))]:=by rw[<-HOPI.out];rfl
  show World.ownsRow _ _ 5 1 _ 1 (bytesV [r.op])
  rw[hb];exact⟨rfl,.inr ⟨w1.heap.size,1,#[.int .u8 (65+(i:Int))],rfl,Nat.le_refl _,heap_alloc_new _ _,Nat.le_refl _,by decide,rfl,rfl⟩⟩
 case round=>
  obtain⟨k,hk,rfl,ho,hbr⟩:=hrel;have HBR:Hid (Below w1.heap.size w1 wr):=hbr;have hszr:=hbr.size;have HO:Hid (OwnB wr w1.heap.size u4 (r.op::encL r bs (L.take k))):=ho;clear ho
  by_cases hlt:k<L.length
  ·obtain⟨lb,lo,rfl,hlb,hck⟩:=HLJ.out k hlt;have hck':=(hbr.cell (p:=⟨lb,lo+k,none⟩) (show lb<w1.heap.size by omega)).trans ((HBW.out.cell (p:=⟨lb,lo+k,none⟩) (show lb<w.heap.size by omega)).trans hck);have hf:=HLT.out k;have htk:Hid (L.take (k+1)=L.take k++[L.getD k 0]):=by
    show L.take (k+1)=_
    rw[List.take_succ_eq_append_getElem hlt,List.getD_eq_getElem?_getD,List.getElem?_eq_getElem hlt,Option.getD_some]
   have hfit:r.fits bs.length (Wp.short bs) (L.getD k 0)=true:=by
    rw[List.getD_eq_getElem?_getD,List.getElem?_eq_getElem hlt,Option.getD_some];exact List.all_eq_true.1 hall.out _ (List.getElem_mem hlt)
   have hll:(r.op::encL r bs (L.take k)).length<=1048576:=by
    have h1:=encL_length r bs (L.take k) (fun f hf=>HLM.out f (List.mem_of_mem_take hf)) (List.all_eq_true.2 fun f hf=>List.all_eq_true.1 hall.out f (List.mem_of_mem_take hf));rw[List.length_take]at h1;rw[List.length_cons];omega
   generalize L.getD k 0=f at hck' hf htk hfit hck;have hbox:Box wr w.heap.size r (.slice x.a bs.length x.c):=by
    rw[<-HXN.out];intro j v hv;have hb2:wr.heap[w.heap.size]?=some (.cells (cellsOf r x.v) 24 (0,0)):=by
     rw[HCC.out];exact(hbr.block w.heap.size (by omega)).trans HBK.out
    exact(cell_of_row wr w.heap.size j _ 24 (0,0) hb2).trans hv
   have hstr:∀j (h:j<bs.length),∃b o,x.a=some ⟨b,o,none⟩/\b<w1.heap.size/\wr.cell? ⟨b,o+j,none⟩=some (.string bs[j]):=by
    intro j hj;obtain⟨b,o,ha,hc⟩:=HS.out j hj;have hlt2:=World.block_lt_of_cell? _ _ hc;have hlt3:b<w.heap.size:=hlt2;exact⟨b,o,ha,by omega,(hbr.cell (p:=⟨b,o+j,none⟩) (show b<w1.heap.size by omega)).trans ((HBW.out.cell (p:=⟨b,o+j,none⟩) hlt3).trans hc)⟩
   have hap:Hid (Calls Tryz.prog 66 #[u4,.pointer (some ⟨w.heap.size,0,none⟩),.int .i64 (f:Int)] wr fun e w'=>∃v',e=.returned v'/\OwnB w' w1.heap.size v' (r.op::encL r bs (L.take (k+1)))/\Below w1.heap.size wr w'):=by
    have h:=appendField_any B w1.heap.size w.heap.size f u4 _ r x.a x.c bs wr hf hfit hll hszr hs1 (HL.out.below ((HBW.out.mono hBw).trans (hbr.mono (by omega)))) hbox HO.out hstr;rw[htk.out,encL_snoc];exact h
   clear hbox hstr hfit hll hck htk hbr;go_wp2_with fail;refine(hap.out).mono ?_;rintro e w2 ⟨v2,rfl,ho2,hb2⟩;have HO2:=zH ho2;have HB2:=zH (HBR.out.trans hb2);clear ho2 hb2;go_wp2_with fail;go_roundw
   case rel=>exact⟨k+1,by omega,by go_num,HO2.out,HB2.out⟩
   case measure=>simp[intOf];omega
  ·have he:L.take k=L:=List.take_of_length_le (by omega);have ho:=HO.out;rw[he]at ho;have hcv:=OwnB.str ho (by simp);have hbf:=zH (HBW.out.trans (hbr.mono (by omega)));clear he ho hbr;go_wp2_with fail;go_ret2;exact⟨ret_print hp1.out.symm hp2.out.symm,hbf.out⟩
theorem print_any (B:Nat)(r:Wp.Rq)(x:Sl)(bs:List ByteArray)(w:World)(hxn:x.n=bs.length)(hn:bs.length<=maxLen)(hL:Lays B w)(hBw:B<=w.heap.size)(hS:Strs w x.a bs):
  zB 42 #[.agg (cellsOf r x.v)] w (.tuple #[.string (printS r x bs),.int .i64 (printE r x bs)]):=by
 cases h:rightW r x (Wp.short bs)
 ·exact print_no B r x bs w h hxn hn hL hBw hS
 ·have h1:=h;unfold rightW at h1;rw[Bool.and_eq_true]at h1;have h2:=h1.1;simp only[Wp.isOp,Bool.and_eq_true,decide_eq_true_eq]at h2;exact print_yes B r x bs w (r.op.toNat-65) (by omega) (by omega) h hxn hn hL hBw hS
theorem wharf_print (B:Nat)(r:Wp.Rq)(x:Sl)(bs:List ByteArray)(w:World)(hxn:x.n=bs.length)(hn:bs.length<=maxLen)(hL:Lays B w)(hBw:B<=w.heap.size)(hS:Strs w x.a bs):
  zB 22 #[.agg (cellsOf r x.v)] w (.tuple #[.string (printS r x bs),.int .i64 (printE r x bs)]):=by
 have HP:Hid (∀W,Below w.heap.size w W->zB 42 #[.agg (cellsOf r x.v)] W (.tuple #[.string (printS r x bs),.int .i64 (printE r x bs)])):=by
  intro W hW;exact print_any B r x bs W hxn hn (hL.below (hW.mono hBw)) (by have:=hW.size;omega) (hS.below hW)
 clear hxn hL hS;generalize hc:cellsOf r x.v=C at HP ⊢;have HCS:Hid (C.size=15):=by show _=_;rw[<-hc];rfl
 clear hc;generalize printS r x bs=S at HP ⊢;generalize printE r x bs=E at HP ⊢;go_enter Tryz.func22,Tryz.ntmps22;go_wp2_with (refine wpList_load_row rfl 24 _ rfl w.heap.size rfl 24 C (0,0) _ (heap_alloc_new _ _) Tryz.underlying24 rfl (by rw[HCS.out];kernel_rfl) ?_);refine(HP.out _ ((Below.refl _ _).alloc (Nat.le_refl _) _)).mono ?_;rintro e w1 ⟨rfl,hb1⟩;go_wp2_with fail;go_ret2;exact⟨rfl,((Below.refl _ _).alloc (Nat.le_refl _) _).trans (hb1.mono (by simp))⟩
def stS (s:ByteArray)(f:Nat):ByteArray:=if Wp.shape f=0 then lf s 1 else if Wp.shape f=1 then lf s 1 else if Wp.shape f=2 then lf s 2 else if Wp.shape f=3 then txL s else rdS (nmN s 1) (lf s 1)
def stF (s:ByteArray)(fl:Bool)(f:Nat):Bool:=if Wp.shape f=0 then bad s fl 1 else if Wp.shape f=1 then bad s fl 1 else if Wp.shape f=2 then bad s fl 2 else if Wp.shape f=3 then txF s fl else rdF (nmN s 1) (lf s 1) (bad s fl 1)
def setR (r:Wp.Rq)(s:ByteArray)(f:Nat):Wp.Rq:=
 if f=0 then {r with q:=UInt8.ofNat (nmN s 1 % 256)} else if f=1 then {r with d:=UInt8.ofNat (nmN s 1 % 256)} else if f=2 then {r with vis:=(nmN s 2:Nat)} else if f=3 then {r with win:=(nmN s 2:Nat)} else if f=4 then {r with rcv:=(nmN s 1:Nat)} else if f=5 then {r with quo:=(nmN s 1:Nat)} else if f=6 then {r with mx:=(nmN s 1:Nat)} else if f=7 then {r with tic:=(nmN s 2:Nat)} else if f=8 then {r with tic:=(nmN s 2:Nat)} else if f=9 then {r with grp:=txS s} else if f=10 then {r with ded:=txS s} else if f=11 then {r with bod:=txS s} else if f=12 then {r with att:=txS s} else if f=13 then {r with han:=txS s} else r
def setV (s:ByteArray)(f:Nat):Value:=if f<=1 then .int .u8 ((UInt8.ofNat (nmN s 1 % 256)).toNat:Int) else if Wp.shape f=1 then .int .i64 (nmN s 1:Nat) else if Wp.shape f=2 then .int .i64 (nmN s 2:Nat) else .string (txS s)
theorem cells_set (r:Wp.Rq)(x:Sl)(s:ByteArray)(f:Nat)(hf:f<14):(cellsOf r x.v).setIfInBounds (offOf f) (setV s f)=cellsOf (setR r s f) x.v:=by
 have hx:f=0\/f=1\/f=2\/f=3\/f=4\/f=5\/f=6\/f=7\/f=8\/f=9\/f=10\/f=11\/f=12\/f=13:=by omega
 rcases hx with rfl|rfl|rfl|rfl|rfl|rfl|rfl|rfl|rfl|rfl|rfl|rfl|rfl|rfl<;>rfl
theorem byte_val (n:Nat)(h:n<256):Value.int .u8 (n:Int)=.int .u8 ((UInt8.ofNat (n % 256)).toNat:Int):=by
 rw[<-byte_cell,show ((n:Int) % 256)=n by omega]
structure G2 (b c:Nat)(w w':World):Prop where
 os:w'.os=w.os
 tape:w'.tape=w.tape
 output:w'.output=w.output
 size:w.heap.size<=w'.heap.size
 block:∀k,k<w.heap.size->k≠b->k≠c->w'.heap[k]?=w.heap[k]?
structure RF (w w':World)(b c:Nat)(s:ByteArray)(fl:Bool)(r:Wp.Rq)(x:Sl)(f:Nat):Prop where
 rd:Rd w' b (stS s f) (stF s fl f)
 blk:∃x',Blk w' c (setR r s f) x'/\(f≠14->x'=x)/\(f=14->∃g,w.heap.size<=g/\x'=⟨some ⟨g,0,none⟩,nmN s 1,nmN s 1⟩/\w'.heap[g]?=some (.cells (strRow (rdT (nmN s 1) (lf s 1)) (nmN s 1)) 9 (0,0)))
 g2:G2 b c w w'
theorem rf_of_set {b:Nat}(f o:Nat)(v:Value)(ho:o=offOf f)(hbc:b≠c)(h1:Rd w1 b (stS s f) (stF s fl f))(h2:Blk w1 c r x)(h3:w.grownBy w1 (some b))(hf:f<14)(hv:v=setV s f):
  RF w (w1.setCell ⟨c,o,none⟩ v) b c s fl r x f:=by
 subst ho hv;refine⟨?_,⟨x,?_,fun _=>rfl,fun e=>by omega⟩,⟨h3.os,h3.tape,h3.output,by simp;exact h3.size,fun k hk hkb hkc=>?_⟩⟩
 ·unfold Rd;rw[heap_setCell_other _ _ _ _ (show b≠c from hbc)];exact h1
 ·unfold Blk;rw[<-cells_set r x s f hf];exact heap_setCell_same w1 c (offOf f) _ 24 _ h2
 ·rw[heap_setCell_other _ _ _ _ (show k≠c from hkc)];exact h3.block k hk (by intro e;exact hkb (Option.some.inj e))
theorem rf_of_batch {b:Nat}(g:Nat)(hbc:b≠c)(hb:b<w.heap.size)(hc:c<w.heap.size)(h1:Rd w1 b (stS s 14) (stF s fl 14))(h2:Blk w1 c r x)(h3:w.grownBy w1 (some b))(hg:w.heap.size<=g)
  (hrow:w1.heap[g]?=some (.cells (strRow (rdT (nmN s 1) (lf s 1)) (nmN s 1)) 9 (0,0))):
  RF w (w1.setCell ⟨c,14,none⟩ (.slice (some ⟨g,0,none⟩) (nmN s 1) (nmN s 1))) b c s fl r x 14:=by
 refine⟨?_,⟨⟨some ⟨g,0,none⟩,nmN s 1,nmN s 1⟩,?_,fun e=>absurd rfl e,fun _=>⟨g,hg,rfl,?_⟩⟩,⟨h3.os,h3.tape,h3.output,by simp;exact h3.size,fun k hk hkb hkc=>?_⟩⟩
 ·unfold Rd;rw[heap_setCell_other _ _ _ _ (show b≠c from hbc)];exact h1
 ·unfold Blk;exact heap_setCell_same w1 c 14 _ 24 _ h2
 ·rw[heap_setCell_other _ _ _ _ (show g≠c by omega)];exact hrow
 ·rw[heap_setCell_other _ _ _ _ (show k≠c from hkc)];exact h3.block k hk (by intro e;exact hkb (Option.some.inj e))
theorem blk_kept {b:Nat}(hK:Blk w c r x)(hbc:b≠c)(hc:c<w.heap.size)(h2:w.grownBy w1 (some b)):Blk w1 c r x:=by
 unfold Blk;rw[h2.block c hc (by intro e;exact hbc (Option.some.inj e).symm)];exact hK
theorem readField_N (B b c:Nat)(s:ByteArray)(fl:Bool)(r:Wp.Rq)(x:Sl)(w:World)(f t n o:Nat)(F k N:Int)
  (hx:f=0/\t=0/\n=1/\o=1/\F=0/\k=0/\N=1\/f=1/\t=3/\n=1/\o=2/\F=1/\k=0/\N=1\/f=2/\t=6/\n=2/\o=3/\F=2/\k=2/\N=2\/f=3/\t=9/\n=2/\o=4/\F=3/\k=2/\N=2\/f=4/\t=12/\n=1/\o=5/\F=4/\k=1/\N=1\/f=5/\t=15/\n=1/\o=6/\F=5/\k=1/\N=1\/f=6/\t=18/\n=1/\o=7/\F=6/\k=1/\N=1\/f=7/\t=21/\n=2/\o=8/\F=7/\k=2/\N=2\/f=8/\t=24/\n=2/\o=8/\F=8/\k=2/\N=2)
  (hs:s.size<=maxLen)(hbc:b≠c)(hb:b<w.heap.size)(hc:c<w.heap.size)(hL:Lays B w)(hR:Rd w b s fl)(hK:Blk w c r x):
  Calls Tryz.prog 55 #[.pointer (some ⟨b,0,none⟩),.pointer (some ⟨c,0,none⟩),.int .i64 F] w fun e w'=>e=.returned (.tuple #[])/\RF w w' b c s fl r x f:=by
 have hr:=hL.2.1;have ⟨t0,hnum,ho⟩:w.cell? ⟨1,t,none⟩=some (.int .i64 k)/\Hid (Calls Tryz.prog 53 #[.pointer (some ⟨b,0,none⟩),.int .i64 N] w fun e w'=>e=.returned (.int .i64 (nmN s n:Nat))/\Rd w' b (stS s f) (stF s fl f)/\w.grownBy w' (some b)/\w'.heap.size=w.heap.size)/\o<15:=by
  rcases hx with ⟨rfl,rfl,rfl,rfl,rfl,rfl,rfl⟩|⟨rfl,rfl,rfl,rfl,rfl,rfl,rfl⟩|⟨rfl,rfl,rfl,rfl,rfl,rfl,rfl⟩|⟨rfl,rfl,rfl,rfl,rfl,rfl,rfl⟩|⟨rfl,rfl,rfl,rfl,rfl,rfl,rfl⟩|⟨rfl,rfl,rfl,rfl,rfl,rfl,rfl⟩|⟨rfl,rfl,rfl,rfl,rfl,rfl,rfl⟩|⟨rfl,rfl,rfl,rfl,rfl,rfl,rfl⟩|⟨rfl,rfl,rfl,rfl,rfl,rfl,rfl⟩<;>
   exact⟨hr _ (by decide),number_any b s fl _ w (by decide) hs hR,by decide⟩
 have HC:Hid (∀w1,Blk w1 c r x->(∃v,w1.cell? ⟨c,o,none⟩=some v)/\w1.frozen? ⟨c,o,none⟩=false):=fun w1 h=>⟨h.cell o ho,h.frozen o⟩
 have hnb:=nm1 s;have HK:=zH hK;clear hr hL hR hK ho;rcases hx with ⟨rfl,rfl,rfl,rfl,rfl,rfl,rfl⟩|⟨rfl,rfl,rfl,rfl,rfl,rfl,rfl⟩|⟨rfl,rfl,rfl,rfl,rfl,rfl,rfl⟩|⟨rfl,rfl,rfl,rfl,rfl,rfl,rfl⟩|⟨rfl,rfl,rfl,rfl,rfl,rfl,rfl⟩|⟨rfl,rfl,rfl,rfl,rfl,rfl,rfl⟩|⟨rfl,rfl,rfl,rfl,rfl,rfl,rfl⟩|⟨rfl,rfl,rfl,rfl,rfl,rfl,rfl⟩|⟨rfl,rfl,rfl,rfl,rfl,rfl,rfl⟩
 all_goals
  go_enter Tryz.func55,Tryz.ntmps55;go_wp2_with (first|(go_at_call 78;go_in)|(go_at_call 79;go_in)|(go_at_call 81;go_in));refine(hnum.out).mono ?_;rintro e w1 ⟨rfl,h1,h2,h3⟩;have hk1:=blk_kept HK.out hbc hc h2;obtain⟨⟨ov,hov⟩,hfz⟩:=HC.out w1 hk1;have H1:=zH (And.intro h1 (And.intro hk1 h2));clear h1 h2 h3 hk1
  go_wp2
  go_end0;exact⟨rfl,rf_of_set _ _ _ rfl hbc H1.out.1 H1.out.2.1 H1.out.2.2 (by decide) (by first|exact byte_val _ hnb|rfl)⟩
theorem readField_T (B b c:Nat)(s:ByteArray)(fl:Bool)(r:Wp.Rq)(x:Sl)(w:World)(f t:Nat)(F:Int)
  (hx:f=9/\t=27/\F=9\/f=10/\t=30/\F=10\/f=11/\t=33/\F=11\/f=12/\t=36/\F=12\/f=13/\t=39/\F=13)
  (hs:s.size<=maxLen)(hbc:b≠c)(hb:b<w.heap.size)(hc:c<w.heap.size)(hL:Lays B w)(hR:Rd w b s fl)(hK:Blk w c r x):
  Calls Tryz.prog 55 #[.pointer (some ⟨b,0,none⟩),.pointer (some ⟨c,0,none⟩),.int .i64 F] w fun e w'=>e=.returned (.tuple #[])/\RF w w' b c s fl r x f:=by
 have hr:=hL.2.1;have ⟨t0,hnum,ho⟩:w.cell? ⟨1,t,none⟩=some (.int .i64 3)/\Hid (Calls Tryz.prog 80 #[.pointer (some ⟨b,0,none⟩)] w fun e w'=>e=.returned (.string (txS s))/\Rd w' b (stS s f) (stF s fl f)/\w.grownBy w' (some b))/\f<15:=by
  rcases hx with ⟨rfl,rfl,rfl⟩|⟨rfl,rfl,rfl⟩|⟨rfl,rfl,rfl⟩|⟨rfl,rfl,rfl⟩|⟨rfl,rfl,rfl⟩<;>
   exact⟨hr _ (by decide),text_any b s fl w hs hb hR,by decide⟩
 have HC:Hid (∀w1,Blk w1 c r x->(∃v,w1.cell? ⟨c,f,none⟩=some v)/\w1.frozen? ⟨c,f,none⟩=false):=fun w1 h=>⟨h.cell f ho,h.frozen f⟩
 have HK:=zH hK;clear hr hL hR hK ho;rcases hx with ⟨rfl,rfl,rfl⟩|⟨rfl,rfl,rfl⟩|⟨rfl,rfl,rfl⟩|⟨rfl,rfl,rfl⟩|⟨rfl,rfl,rfl⟩
 all_goals
  go_enter Tryz.func55,Tryz.ntmps55;go_wp2_with (first|(go_at_call 78;go_in)|(go_at_call 79;go_in)|(go_at_call 81;go_in));refine(hnum.out).mono ?_;rintro e w1 ⟨rfl,h1,h2⟩;have hk1:=blk_kept HK.out hbc hc h2;obtain⟨⟨ov,hov⟩,hfz⟩:=HC.out w1 hk1;have H1:=zH (And.intro h1 (And.intro hk1 h2));clear h1 h2 hk1
  go_wp2
  go_end0;exact⟨rfl,rf_of_set _ _ _ rfl hbc H1.out.1 H1.out.2.1 H1.out.2.2 (by decide) rfl⟩
theorem readField_14 (B b c:Nat)(s:ByteArray)(fl:Bool)(r:Wp.Rq)(x:Sl)(w:World)(hs:s.size<=maxLen)(hbc:b≠c)(hb:b<w.heap.size)(hc:c<w.heap.size)(hL:Lays B w)(hR:Rd w b s fl)(hK:Blk w c r x):
  Calls Tryz.prog 55 #[.pointer (some ⟨b,0,none⟩),.pointer (some ⟨c,0,none⟩),.int .i64 14] w fun e w'=>e=.returned (.tuple #[])/\RF w w' b c s fl r x 14:=by
 have hr:=hL.2.1;have t42:w.cell? ⟨1,42,none⟩=some (.int .i64 4):=hr 42 (by decide);have hnum:=zH (texts_any b s fl w hs hb hR);have HK:=zH hK;clear hr hL hR hK;go_enter Tryz.func55,Tryz.ntmps55;go_wp2_with (first|(go_at_call 78;go_in)|(go_at_call 79;go_in)|(go_at_call 81;go_in));refine(hnum.out).mono ?_;rintro e w1 ⟨g,hg,rfl,hrow,h1,h2⟩;have hk1:Blk w1 c r x:=by
  unfold Blk;rw[h2.block c hc (by intro e;exact hbc (Option.some.inj e).symm)];exact HK.out
 obtain⟨ov,hov⟩:=hk1.cell 14 (by decide);have hfz:=hk1.frozen 14;have H1:Hid (Rd w1 b (stS s 14) (stF s fl 14)/\Blk w1 c r x/\w.grownBy w1 (some b)):=⟨h1,hk1,h2⟩;have HG:Hid (w.heap.size<=g/\w1.heap[g]?=some (.cells (strRow (rdT (nmN s 1) (lf s 1)) (nmN s 1)) 9 (0,0))):=⟨hg,hrow⟩;clear hg hrow;clear h1 h2 hk1
 go_wp2
 go_end0;exact⟨rfl,rf_of_batch g hbc hb hc H1.out.1 H1.out.2.1 H1.out.2.2 HG.out.1 HG.out.2⟩
theorem readField_any (B b c f:Nat)(s:ByteArray)(fl:Bool)(r:Wp.Rq)(x:Sl)(w:World)(hf:f<15)(hs:s.size<=maxLen)(hbc:b≠c)(hb:b<w.heap.size)(hc:c<w.heap.size)(hL:Lays B w)(hR:Rd w b s fl)(hK:Blk w c r x):
  Calls Tryz.prog 55 #[.pointer (some ⟨b,0,none⟩),.pointer (some ⟨c,0,none⟩),.int .i64 (f:Int)] w fun e w'=>e=.returned (.tuple #[])/\RF w w' b c s fl r x f:=by
 have hx:f=0\/f=1\/f=2\/f=3\/f=4\/f=5\/f=6\/f=7\/f=8\/f=9\/f=10\/f=11\/f=12\/f=13\/f=14:=by omega
 rcases hx with rfl|rfl|rfl|rfl|rfl|rfl|rfl|rfl|rfl|rfl|rfl|rfl|rfl|rfl|rfl
 ·exact readField_N B b c s fl r x w _ 0 1 1 _ 0 1 (by simp) hs hbc hb hc hL hR hK
 ·exact readField_N B b c s fl r x w _ 3 1 2 _ 0 1 (by simp) hs hbc hb hc hL hR hK
 ·exact readField_N B b c s fl r x w _ 6 2 3 _ 2 2 (by simp) hs hbc hb hc hL hR hK
 ·exact readField_N B b c s fl r x w _ 9 2 4 _ 2 2 (by simp) hs hbc hb hc hL hR hK
 ·exact readField_N B b c s fl r x w _ 12 1 5 _ 1 1 (by simp) hs hbc hb hc hL hR hK
 ·exact readField_N B b c s fl r x w _ 15 1 6 _ 1 1 (by simp) hs hbc hb hc hL hR hK
 ·exact readField_N B b c s fl r x w _ 18 1 7 _ 1 1 (by simp) hs hbc hb hc hL hR hK
 ·exact readField_N B b c s fl r x w _ 21 2 8 _ 2 2 (by simp) hs hbc hb hc hL hR hK
 ·exact readField_N B b c s fl r x w _ 24 2 8 _ 2 2 (by simp) hs hbc hb hc hL hR hK
 ·exact readField_T B b c s fl r x w _ 27 _ (by simp) hs hbc hb hc hL hR hK
 ·exact readField_T B b c s fl r x w _ 30 _ (by simp) hs hbc hb hc hL hR hK
 ·exact readField_T B b c s fl r x w _ 33 _ (by simp) hs hbc hb hc hL hR hK
 ·exact readField_T B b c s fl r x w _ 36 _ (by simp) hs hbc hb hc hL hR hK
 ·exact readField_T B b c s fl r x w _ 39 _ (by simp) hs hbc hb hc hL hR hK
 ·exact readField_14 B b c s fl r x w hs hbc hb hc hL hR hK
end Go.Proofs.YtbdobaapadlcjabGreatDoor
