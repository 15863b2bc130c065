import Derived.Test.YtbdobaapadlcjabGreatDoorRw01
set_option maxHeartbeats 1000000
set_option linter.unusedVariables false
set_option linter.unusedSimpArgs false
namespace Go.Proofs.YtbdobaapadlcjabGreatDoor
open Go.RowKit
def encF (r:Wp.Rq)(bs:List ByteArray)(f:Nat):List UInt8:=
 if Wp.shape f=0 then [r.let f] else if Wp.shape f=1 then lowB (r.num f).toNat 1 else if Wp.shape f=2 then lowB (r.num f).toNat 2 else if Wp.shape f=3 then txtB (r.txt f) else lowB bs.length 1++txtsB bs
theorem fits_bounds (r:Wp.Rq)(bs:List ByteArray)(f:Nat)(h1:f≠1)(h:r.fits bs.length (Wp.short bs) f=true):Wp.least f<=r.measure bs.length f/\r.measure bs.length f<=Wp.most f:=by
 unfold Wp.Rq.fits at h;rw[if_neg (fun e=>h1 e.1)]at h
 by_cases a:r.measure bs.length f<Wp.least f
 ·rw[if_pos a]at h;cases h
 ·rw[if_neg a]at h
  by_cases b:Wp.most f<r.measure bs.length f
  ·rw[if_pos b]at h;cases h
  ·omega
theorem fits_short (r:Wp.Rq)(bs:List ByteArray)(h:r.fits bs.length (Wp.short bs) 14=true):∀s∈bs,s.size<=255:=by
 unfold Wp.Rq.fits at h;rw[if_neg (fun e=>by cases e.1)]at h
 by_cases a:r.measure bs.length 14<Wp.least 14
 ·rw[if_pos a]at h;cases h
 ·rw[if_neg a]at h
  by_cases b:Wp.most 14<r.measure bs.length 14
  ·rw[if_pos b]at h;cases h
  ·rw[if_neg b,if_neg (by decide),if_neg (by decide),if_pos rfl]at h;intro s hs;have:=List.all_eq_true.1 h s hs;simpa using this
theorem appendField_0 (B base b:Nat)(v:Value)(l:List UInt8)(r:Wp.Rq)(a:Option Addr)(cap:Nat)(bs:List ByteArray)(w:World)(hfit:r.fits bs.length (Wp.short bs) 0=true)(hl:l.length<=1048576)(hb:base<=w.heap.size)(hbb:b<base)(hL:Lays B w)(hB:Box w b r (.slice a bs.length cap))(hown:OwnB w base v l)
  (hS:∀j (h:j<bs.length),∃b o,a=some ⟨b,o,none⟩/\b<base/\w.cell? ⟨b,o+j,none⟩=some (.string bs[j])):
  Calls Tryz.prog 66 #[v,.pointer (some ⟨b,0,none⟩),.int .i64 0] w fun e w'=>∃v',e=.returned v'/\OwnB w' base v' (l++encF r bs 0)/\Below base w w':=by
 have hr:=hL.2.1;have t0:w.cell? ⟨1,0,none⟩=some (.int .i64 0):=hr 0 (by decide);have c1:w.cell? ⟨b,1,none⟩=some (.int .u8 (r.q.toNat:Int)):=hB 1 _ rfl;have hbd:=fits_bounds r bs 0 (by decide) hfit;obtain⟨i0,hi,hz0,hz1,hz2⟩:=info_parts info5;have hen:Hid (encF r bs 0=[r.q]):=by show _=_;rfl
 have HO:=zH hown;clear hr hL hB hown hS hfit;go_enter Tryz.func66,Tryz.ntmps66;go_wp2_with (first|(at_builtin;refine wpList_append_own _ rfl _ _ 54 rfl base 5 i0 (.int .u8 0) 1 1 Tryz.underlying54 hi hz0 hz1 hz2 rfl (by decide) _ _ _ rfl (World.ownsRow.alloc HO.out _) ⟨w.heap.size,0,none⟩ 1 1 [.int .u8 (r.q.toNat:Int)] rfl rfl ?c1 ?c2 ?c3 ?c4 ?c5 ?_)|go_in)
 case c1=>exact cell_one_new _ _ _
 case c2=>intro u hu;simp at hu;subst hu;rfl
 case c3=>unfold maxLen;omega
 case c4=>omega
 case c5=>simp;omega
 intro v' w1 hown' hgrow _;have hr1:OwnB w1 base v' (l++encF r bs 0):=by rw[hen.out];exact OwnB.snoc rfl hown'
 have hr2:Below base w w1:=by
  refine Below.grown ((Below.refl _ _).alloc (by omega) _) hgrow (by simp;omega) ?_;intro k hk;exact(World.ownsRow.lt HO.out k hk).1
 clear hown' hgrow
 go_wp2
 go_ret;exact⟨_,rfl,hr1,hr2⟩
theorem appendField_1 (B base b:Nat)(v:Value)(l:List UInt8)(r:Wp.Rq)(a:Option Addr)(cap:Nat)(bs:List ByteArray)(w:World)(hfit:r.fits bs.length (Wp.short bs) 1=true)(hl:l.length<=1048576)(hb:base<=w.heap.size)(hbb:b<base)(hL:Lays B w)(hB:Box w b r (.slice a bs.length cap))(hown:OwnB w base v l)
  (hS:∀j (h:j<bs.length),∃b o,a=some ⟨b,o,none⟩/\b<base/\w.cell? ⟨b,o+j,none⟩=some (.string bs[j])):
  Calls Tryz.prog 66 #[v,.pointer (some ⟨b,0,none⟩),.int .i64 1] w fun e w'=>∃v',e=.returned v'/\OwnB w' base v' (l++encF r bs 1)/\Below base w w':=by
 have hr:=hL.2.1;have t3:w.cell? ⟨1,3,none⟩=some (.int .i64 0):=hr 3 (by decide);have c2:w.cell? ⟨b,2,none⟩=some (.int .u8 (r.d.toNat:Int)):=hB 2 _ rfl;obtain⟨i0,hi,hz0,hz1,hz2⟩:=info_parts info5;have hen:Hid (encF r bs 1=[r.d]):=by show _=_;rfl
 have HO:=zH hown;clear hr hL hB hown hS hfit;go_enter Tryz.func66,Tryz.ntmps66;go_wp2_with (first|(at_builtin;refine wpList_append_own _ rfl _ _ 54 rfl base 5 i0 (.int .u8 0) 1 1 Tryz.underlying54 hi hz0 hz1 hz2 rfl (by decide) _ _ _ rfl (World.ownsRow.alloc HO.out _) ⟨w.heap.size,0,none⟩ 1 1 [.int .u8 (r.d.toNat:Int)] rfl rfl ?c1 ?c2 ?c3 ?c4 ?c5 ?_)|go_in)
 case c1=>exact cell_one_new _ _ _
 case c2=>intro u hu;simp at hu;subst hu;rfl
 case c3=>unfold maxLen;omega
 case c4=>omega
 case c5=>simp;omega
 intro v' w1 hown' hgrow _;have hr1:OwnB w1 base v' (l++encF r bs 1):=by rw[hen.out];exact OwnB.snoc rfl hown'
 have hr2:Below base w w1:=by
  refine Below.grown ((Below.refl _ _).alloc (by omega) _) hgrow (by simp;omega) ?_;intro k hk;exact(World.ownsRow.lt HO.out k hk).1
 clear hown' hgrow
 go_wp2
 go_ret;exact⟨_,rfl,hr1,hr2⟩
theorem appendField_2 (B base b:Nat)(v:Value)(l:List UInt8)(r:Wp.Rq)(a:Option Addr)(cap:Nat)(bs:List ByteArray)(w:World)(hfit:r.fits bs.length (Wp.short bs) 2=true)(hl:l.length<=1048576)(hb:base<=w.heap.size)(hbb:b<base)(hL:Lays B w)(hB:Box w b r (.slice a bs.length cap))(hown:OwnB w base v l)
  (hS:∀j (h:j<bs.length),∃b o,a=some ⟨b,o,none⟩/\b<base/\w.cell? ⟨b,o+j,none⟩=some (.string bs[j])):
  Calls Tryz.prog 66 #[v,.pointer (some ⟨b,0,none⟩),.int .i64 2] w fun e w'=>∃v',e=.returned v'/\OwnB w' base v' (l++encF r bs 2)/\Below base w w':=by
 have hr:=hL.2.1;have t6:w.cell? ⟨1,6,none⟩=some (.int .i64 2):=hr 6 (by decide);have c3:w.cell? ⟨b,3,none⟩=some (.int .i64 r.vis):=hB 3 _ rfl;have hbd:=fits_bounds r bs 2 (by decide) hfit;have hlo:=hbd.1;have hhi:=hbd.2;have hlo':1<=r.vis:=hlo;have hhi':r.vis<=1000:=hhi;have hnn:((r.vis.toNat:Nat):Int)=r.vis:=by omega
 have hnum:Hid (Calls Tryz.prog 46 #[v,.int .i64 r.vis,.int .i64 2] w fun e w'=>∃v',e=.returned v'/\OwnB w' base v' (l++encF r bs 2)/\Below base w w'):=by
  have h:=appendNumber_any base v l r.vis.toNat 2 w (by omega) (by decide) (by omega) hb hown;rw[hnn]at h;exact h
 clear hr hL hB hown hS hfit hnn hlo hhi hbd;go_enter Tryz.func66,Tryz.ntmps66;go_wp2_with (first|(go_at_call 46;refine(hnum.out).mono ?_;rintro e w1 ⟨v1,rfl,ho1,hb1⟩)|go_in);go_ret;exact⟨_,rfl,ho1,hb1⟩
theorem appendField_3 (B base b:Nat)(v:Value)(l:List UInt8)(r:Wp.Rq)(a:Option Addr)(cap:Nat)(bs:List ByteArray)(w:World)(hfit:r.fits bs.length (Wp.short bs) 3=true)(hl:l.length<=1048576)(hb:base<=w.heap.size)(hbb:b<base)(hL:Lays B w)(hB:Box w b r (.slice a bs.length cap))(hown:OwnB w base v l)
  (hS:∀j (h:j<bs.length),∃b o,a=some ⟨b,o,none⟩/\b<base/\w.cell? ⟨b,o+j,none⟩=some (.string bs[j])):
  Calls Tryz.prog 66 #[v,.pointer (some ⟨b,0,none⟩),.int .i64 3] w fun e w'=>∃v',e=.returned v'/\OwnB w' base v' (l++encF r bs 3)/\Below base w w':=by
 have hr:=hL.2.1;have t9:w.cell? ⟨1,9,none⟩=some (.int .i64 2):=hr 9 (by decide);have c4:w.cell? ⟨b,4,none⟩=some (.int .i64 r.win):=hB 4 _ rfl;have hbd:=fits_bounds r bs 3 (by decide) hfit;have hlo:=hbd.1;have hhi:=hbd.2;have hlo':0<=r.win:=hlo;have hhi':r.win<=1000:=hhi;have hnn:((r.win.toNat:Nat):Int)=r.win:=by omega
 have hnum:Hid (Calls Tryz.prog 46 #[v,.int .i64 r.win,.int .i64 2] w fun e w'=>∃v',e=.returned v'/\OwnB w' base v' (l++encF r bs 3)/\Below base w w'):=by
  have h:=appendNumber_any base v l r.win.toNat 2 w (by omega) (by decide) (by omega) hb hown;rw[hnn]at h;exact h
 clear hr hL hB hown hS hfit hnn hlo hhi hbd;go_enter Tryz.func66,Tryz.ntmps66;go_wp2_with (first|(go_at_call 46;refine(hnum.out).mono ?_;rintro e w1 ⟨v1,rfl,ho1,hb1⟩)|go_in);go_ret;exact⟨_,rfl,ho1,hb1⟩
theorem appendField_4 (B base b:Nat)(v:Value)(l:List UInt8)(r:Wp.Rq)(a:Option Addr)(cap:Nat)(bs:List ByteArray)(w:World)(hfit:r.fits bs.length (Wp.short bs) 4=true)(hl:l.length<=1048576)(hb:base<=w.heap.size)(hbb:b<base)(hL:Lays B w)(hB:Box w b r (.slice a bs.length cap))(hown:OwnB w base v l)
  (hS:∀j (h:j<bs.length),∃b o,a=some ⟨b,o,none⟩/\b<base/\w.cell? ⟨b,o+j,none⟩=some (.string bs[j])):
  Calls Tryz.prog 66 #[v,.pointer (some ⟨b,0,none⟩),.int .i64 4] w fun e w'=>∃v',e=.returned v'/\OwnB w' base v' (l++encF r bs 4)/\Below base w w':=by
 have hr:=hL.2.1;have t12:w.cell? ⟨1,12,none⟩=some (.int .i64 1):=hr 12 (by decide);have c5:w.cell? ⟨b,5,none⟩=some (.int .i64 r.rcv):=hB 5 _ rfl;have hbd:=fits_bounds r bs 4 (by decide) hfit;have hlo:=hbd.1;have hhi:=hbd.2;have hlo':0<=r.rcv:=hlo;have hhi':r.rcv<=9:=hhi;have hnn:((r.rcv.toNat:Nat):Int)=r.rcv:=by omega
 have hnum:Hid (Calls Tryz.prog 46 #[v,.int .i64 r.rcv,.int .i64 1] w fun e w'=>∃v',e=.returned v'/\OwnB w' base v' (l++encF r bs 4)/\Below base w w'):=by
  have h:=appendNumber_any base v l r.rcv.toNat 1 w (by omega) (by decide) (by omega) hb hown;rw[hnn]at h;exact h
 clear hr hL hB hown hS hfit hnn hlo hhi hbd;go_enter Tryz.func66,Tryz.ntmps66;go_wp2_with (first|(go_at_call 46;refine(hnum.out).mono ?_;rintro e w1 ⟨v1,rfl,ho1,hb1⟩)|go_in);go_ret;exact⟨_,rfl,ho1,hb1⟩
theorem appendField_5 (B base b:Nat)(v:Value)(l:List UInt8)(r:Wp.Rq)(a:Option Addr)(cap:Nat)(bs:List ByteArray)(w:World)(hfit:r.fits bs.length (Wp.short bs) 5=true)(hl:l.length<=1048576)(hb:base<=w.heap.size)(hbb:b<base)(hL:Lays B w)(hB:Box w b r (.slice a bs.length cap))(hown:OwnB w base v l)
  (hS:∀j (h:j<bs.length),∃b o,a=some ⟨b,o,none⟩/\b<base/\w.cell? ⟨b,o+j,none⟩=some (.string bs[j])):
  Calls Tryz.prog 66 #[v,.pointer (some ⟨b,0,none⟩),.int .i64 5] w fun e w'=>∃v',e=.returned v'/\OwnB w' base v' (l++encF r bs 5)/\Below base w w':=by
 have hr:=hL.2.1;have t15:w.cell? ⟨1,15,none⟩=some (.int .i64 1):=hr 15 (by decide);have c6:w.cell? ⟨b,6,none⟩=some (.int .i64 r.quo):=hB 6 _ rfl;have hbd:=fits_bounds r bs 5 (by decide) hfit;have hlo:=hbd.1;have hhi:=hbd.2;have hlo':1<=r.quo:=hlo;have hhi':r.quo<=50:=hhi;have hnn:((r.quo.toNat:Nat):Int)=r.quo:=by omega
 have hnum:Hid (Calls Tryz.prog 46 #[v,.int .i64 r.quo,.int .i64 1] w fun e w'=>∃v',e=.returned v'/\OwnB w' base v' (l++encF r bs 5)/\Below base w w'):=by
  have h:=appendNumber_any base v l r.quo.toNat 1 w (by omega) (by decide) (by omega) hb hown;rw[hnn]at h;exact h
 clear hr hL hB hown hS hfit hnn hlo hhi hbd;go_enter Tryz.func66,Tryz.ntmps66;go_wp2_with (first|(go_at_call 46;refine(hnum.out).mono ?_;rintro e w1 ⟨v1,rfl,ho1,hb1⟩)|go_in);go_ret;exact⟨_,rfl,ho1,hb1⟩
theorem appendField_6 (B base b:Nat)(v:Value)(l:List UInt8)(r:Wp.Rq)(a:Option Addr)(cap:Nat)(bs:List ByteArray)(w:World)(hfit:r.fits bs.length (Wp.short bs) 6=true)(hl:l.length<=1048576)(hb:base<=w.heap.size)(hbb:b<base)(hL:Lays B w)(hB:Box w b r (.slice a bs.length cap))(hown:OwnB w base v l)
  (hS:∀j (h:j<bs.length),∃b o,a=some ⟨b,o,none⟩/\b<base/\w.cell? ⟨b,o+j,none⟩=some (.string bs[j])):
  Calls Tryz.prog 66 #[v,.pointer (some ⟨b,0,none⟩),.int .i64 6] w fun e w'=>∃v',e=.returned v'/\OwnB w' base v' (l++encF r bs 6)/\Below base w w':=by
 have hr:=hL.2.1;have t18:w.cell? ⟨1,18,none⟩=some (.int .i64 1):=hr 18 (by decide);have c7:w.cell? ⟨b,7,none⟩=some (.int .i64 r.mx):=hB 7 _ rfl;have hbd:=fits_bounds r bs 6 (by decide) hfit;have hlo:=hbd.1;have hhi:=hbd.2;have hlo':1<=r.mx:=hlo;have hhi':r.mx<=10:=hhi;have hnn:((r.mx.toNat:Nat):Int)=r.mx:=by omega
 have hnum:Hid (Calls Tryz.prog 46 #[v,.int .i64 r.mx,.int .i64 1] w fun e w'=>∃v',e=.returned v'/\OwnB w' base v' (l++encF r bs 6)/\Below base w w'):=by
  have h:=appendNumber_any base v l r.mx.toNat 1 w (by omega) (by decide) (by omega) hb hown;rw[hnn]at h;exact h
 clear hr hL hB hown hS hfit hnn hlo hhi hbd;go_enter Tryz.func66,Tryz.ntmps66;go_wp2_with (first|(go_at_call 46;refine(hnum.out).mono ?_;rintro e w1 ⟨v1,rfl,ho1,hb1⟩)|go_in);go_ret;exact⟨_,rfl,ho1,hb1⟩
theorem appendField_7 (B base b:Nat)(v:Value)(l:List UInt8)(r:Wp.Rq)(a:Option Addr)(cap:Nat)(bs:List ByteArray)(w:World)(hfit:r.fits bs.length (Wp.short bs) 7=true)(hl:l.length<=1048576)(hb:base<=w.heap.size)(hbb:b<base)(hL:Lays B w)(hB:Box w b r (.slice a bs.length cap))(hown:OwnB w base v l)
  (hS:∀j (h:j<bs.length),∃b o,a=some ⟨b,o,none⟩/\b<base/\w.cell? ⟨b,o+j,none⟩=some (.string bs[j])):
  Calls Tryz.prog 66 #[v,.pointer (some ⟨b,0,none⟩),.int .i64 7] w fun e w'=>∃v',e=.returned v'/\OwnB w' base v' (l++encF r bs 7)/\Below base w w':=by
 have hr:=hL.2.1;have t21:w.cell? ⟨1,21,none⟩=some (.int .i64 2):=hr 21 (by decide);have c8:w.cell? ⟨b,8,none⟩=some (.int .i64 r.tic):=hB 8 _ rfl;have hbd:=fits_bounds r bs 7 (by decide) hfit;have hlo:=hbd.1;have hhi:=hbd.2;have hlo':0<=r.tic:=hlo;have hhi':r.tic<=1000:=hhi;have hnn:((r.tic.toNat:Nat):Int)=r.tic:=by omega
 have hnum:Hid (Calls Tryz.prog 46 #[v,.int .i64 r.tic,.int .i64 2] w fun e w'=>∃v',e=.returned v'/\OwnB w' base v' (l++encF r bs 7)/\Below base w w'):=by
  have h:=appendNumber_any base v l r.tic.toNat 2 w (by omega) (by decide) (by omega) hb hown;rw[hnn]at h;exact h
 clear hr hL hB hown hS hfit hnn hlo hhi hbd;go_enter Tryz.func66,Tryz.ntmps66;go_wp2_with (first|(go_at_call 46;refine(hnum.out).mono ?_;rintro e w1 ⟨v1,rfl,ho1,hb1⟩)|go_in);go_ret;exact⟨_,rfl,ho1,hb1⟩
theorem appendField_8 (B base b:Nat)(v:Value)(l:List UInt8)(r:Wp.Rq)(a:Option Addr)(cap:Nat)(bs:List ByteArray)(w:World)(hfit:r.fits bs.length (Wp.short bs) 8=true)(hl:l.length<=1048576)(hb:base<=w.heap.size)(hbb:b<base)(hL:Lays B w)(hB:Box w b r (.slice a bs.length cap))(hown:OwnB w base v l)
  (hS:∀j (h:j<bs.length),∃b o,a=some ⟨b,o,none⟩/\b<base/\w.cell? ⟨b,o+j,none⟩=some (.string bs[j])):
  Calls Tryz.prog 66 #[v,.pointer (some ⟨b,0,none⟩),.int .i64 8] w fun e w'=>∃v',e=.returned v'/\OwnB w' base v' (l++encF r bs 8)/\Below base w w':=by
 have hr:=hL.2.1;have t24:w.cell? ⟨1,24,none⟩=some (.int .i64 2):=hr 24 (by decide);have c8:w.cell? ⟨b,8,none⟩=some (.int .i64 r.tic):=hB 8 _ rfl;have hbd:=fits_bounds r bs 8 (by decide) hfit;have hlo:=hbd.1;have hhi:=hbd.2;have hlo':1<=r.tic:=hlo;have hhi':r.tic<=1000:=hhi;have hnn:((r.tic.toNat:Nat):Int)=r.tic:=by omega
 have hnum:Hid (Calls Tryz.prog 46 #[v,.int .i64 r.tic,.int .i64 2] w fun e w'=>∃v',e=.returned v'/\OwnB w' base v' (l++encF r bs 8)/\Below base w w'):=by
  have h:=appendNumber_any base v l r.tic.toNat 2 w (by omega) (by decide) (by omega) hb hown;rw[hnn]at h;exact h
 clear hr hL hB hown hS hfit hnn hlo hhi hbd;go_enter Tryz.func66,Tryz.ntmps66;go_wp2_with (first|(go_at_call 46;refine(hnum.out).mono ?_;rintro e w1 ⟨v1,rfl,ho1,hb1⟩)|go_in);go_ret;exact⟨_,rfl,ho1,hb1⟩
theorem appendField_9 (B base b:Nat)(v:Value)(l:List UInt8)(r:Wp.Rq)(a:Option Addr)(cap:Nat)(bs:List ByteArray)(w:World)(hfit:r.fits bs.length (Wp.short bs) 9=true)(hl:l.length<=1048576)(hb:base<=w.heap.size)(hbb:b<base)(hL:Lays B w)(hB:Box w b r (.slice a bs.length cap))(hown:OwnB w base v l)
  (hS:∀j (h:j<bs.length),∃b o,a=some ⟨b,o,none⟩/\b<base/\w.cell? ⟨b,o+j,none⟩=some (.string bs[j])):
  Calls Tryz.prog 66 #[v,.pointer (some ⟨b,0,none⟩),.int .i64 9] w fun e w'=>∃v',e=.returned v'/\OwnB w' base v' (l++encF r bs 9)/\Below base w w':=by
 have hr:=hL.2.1;have t27:w.cell? ⟨1,27,none⟩=some (.int .i64 3):=hr 27 (by decide);have c9:w.cell? ⟨b,9,none⟩=some (.string r.grp):=hB 9 _ rfl;have hbd:=fits_bounds r bs 9 (by decide) hfit;have hhi:r.measure bs.length 9<=8:=hbd.2;have hhi':((r.grp.size:Nat):Int)<=8:=hhi;have hnum:Hid (Calls Tryz.prog 90 #[v,.string r.grp] w fun e w'=>∃v',e=.returned v'/\OwnB w' base v' (l++encF r bs 9)/\Below base w w'):=
  appendText_any base v l r.grp w (by omega) (by omega) hb hown
 clear hr hL hB hown hS hfit hhi hbd;go_enter Tryz.func66,Tryz.ntmps66;go_wp2_with (first|(go_at_call 90;refine(hnum.out).mono ?_;rintro e w1 ⟨v1,rfl,ho1,hb1⟩)|go_in);go_ret;exact⟨_,rfl,ho1,hb1⟩
theorem appendField_10 (B base b:Nat)(v:Value)(l:List UInt8)(r:Wp.Rq)(a:Option Addr)(cap:Nat)(bs:List ByteArray)(w:World)(hfit:r.fits bs.length (Wp.short bs) 10=true)(hl:l.length<=1048576)(hb:base<=w.heap.size)(hbb:b<base)(hL:Lays B w)(hB:Box w b r (.slice a bs.length cap))(hown:OwnB w base v l)
  (hS:∀j (h:j<bs.length),∃b o,a=some ⟨b,o,none⟩/\b<base/\w.cell? ⟨b,o+j,none⟩=some (.string bs[j])):
  Calls Tryz.prog 66 #[v,.pointer (some ⟨b,0,none⟩),.int .i64 10] w fun e w'=>∃v',e=.returned v'/\OwnB w' base v' (l++encF r bs 10)/\Below base w w':=by
 have hr:=hL.2.1;have t30:w.cell? ⟨1,30,none⟩=some (.int .i64 3):=hr 30 (by decide);have c10:w.cell? ⟨b,10,none⟩=some (.string r.ded):=hB 10 _ rfl;have hbd:=fits_bounds r bs 10 (by decide) hfit;have hhi:r.measure bs.length 10<=8:=hbd.2;have hhi':((r.ded.size:Nat):Int)<=8:=hhi;have hnum:Hid (Calls Tryz.prog 90 #[v,.string r.ded] w fun e w'=>∃v',e=.returned v'/\OwnB w' base v' (l++encF r bs 10)/\Below base w w'):=
  appendText_any base v l r.ded w (by omega) (by omega) hb hown
 clear hr hL hB hown hS hfit hhi hbd;go_enter Tryz.func66,Tryz.ntmps66;go_wp2_with (first|(go_at_call 90;refine(hnum.out).mono ?_;rintro e w1 ⟨v1,rfl,ho1,hb1⟩)|go_in);go_ret;exact⟨_,rfl,ho1,hb1⟩
theorem appendField_11 (B base b:Nat)(v:Value)(l:List UInt8)(r:Wp.Rq)(a:Option Addr)(cap:Nat)(bs:List ByteArray)(w:World)(hfit:r.fits bs.length (Wp.short bs) 11=true)(hl:l.length<=1048576)(hb:base<=w.heap.size)(hbb:b<base)(hL:Lays B w)(hB:Box w b r (.slice a bs.length cap))(hown:OwnB w base v l)
  (hS:∀j (h:j<bs.length),∃b o,a=some ⟨b,o,none⟩/\b<base/\w.cell? ⟨b,o+j,none⟩=some (.string bs[j])):
  Calls Tryz.prog 66 #[v,.pointer (some ⟨b,0,none⟩),.int .i64 11] w fun e w'=>∃v',e=.returned v'/\OwnB w' base v' (l++encF r bs 11)/\Below base w w':=by
 have hr:=hL.2.1;have t33:w.cell? ⟨1,33,none⟩=some (.int .i64 3):=hr 33 (by decide);have c11:w.cell? ⟨b,11,none⟩=some (.string r.bod):=hB 11 _ rfl;have hbd:=fits_bounds r bs 11 (by decide) hfit;have hhi:r.measure bs.length 11<=255:=hbd.2;have hhi':((r.bod.size:Nat):Int)<=255:=hhi;have hnum:Hid (Calls Tryz.prog 90 #[v,.string r.bod] w fun e w'=>∃v',e=.returned v'/\OwnB w' base v' (l++encF r bs 11)/\Below base w w'):=
  appendText_any base v l r.bod w (by omega) (by omega) hb hown
 clear hr hL hB hown hS hfit hhi hbd;go_enter Tryz.func66,Tryz.ntmps66;go_wp2_with (first|(go_at_call 90;refine(hnum.out).mono ?_;rintro e w1 ⟨v1,rfl,ho1,hb1⟩)|go_in);go_ret;exact⟨_,rfl,ho1,hb1⟩
theorem appendField_12 (B base b:Nat)(v:Value)(l:List UInt8)(r:Wp.Rq)(a:Option Addr)(cap:Nat)(bs:List ByteArray)(w:World)(hfit:r.fits bs.length (Wp.short bs) 12=true)(hl:l.length<=1048576)(hb:base<=w.heap.size)(hbb:b<base)(hL:Lays B w)(hB:Box w b r (.slice a bs.length cap))(hown:OwnB w base v l)
  (hS:∀j (h:j<bs.length),∃b o,a=some ⟨b,o,none⟩/\b<base/\w.cell? ⟨b,o+j,none⟩=some (.string bs[j])):
  Calls Tryz.prog 66 #[v,.pointer (some ⟨b,0,none⟩),.int .i64 12] w fun e w'=>∃v',e=.returned v'/\OwnB w' base v' (l++encF r bs 12)/\Below base w w':=by
 have hr:=hL.2.1;have t36:w.cell? ⟨1,36,none⟩=some (.int .i64 3):=hr 36 (by decide);have c12:w.cell? ⟨b,12,none⟩=some (.string r.att):=hB 12 _ rfl;have hbd:=fits_bounds r bs 12 (by decide) hfit;have hhi:r.measure bs.length 12<=8:=hbd.2;have hhi':((r.att.size:Nat):Int)<=8:=hhi;have hnum:Hid (Calls Tryz.prog 90 #[v,.string r.att] w fun e w'=>∃v',e=.returned v'/\OwnB w' base v' (l++encF r bs 12)/\Below base w w'):=
  appendText_any base v l r.att w (by omega) (by omega) hb hown
 clear hr hL hB hown hS hfit hhi hbd;go_enter Tryz.func66,Tryz.ntmps66;go_wp2_with (first|(go_at_call 90;refine(hnum.out).mono ?_;rintro e w1 ⟨v1,rfl,ho1,hb1⟩)|go_in);go_ret;exact⟨_,rfl,ho1,hb1⟩
theorem appendField_13 (B base b:Nat)(v:Value)(l:List UInt8)(r:Wp.Rq)(a:Option Addr)(cap:Nat)(bs:List ByteArray)(w:World)(hfit:r.fits bs.length (Wp.short bs) 13=true)(hl:l.length<=1048576)(hb:base<=w.heap.size)(hbb:b<base)(hL:Lays B w)(hB:Box w b r (.slice a bs.length cap))(hown:OwnB w base v l)
  (hS:∀j (h:j<bs.length),∃b o,a=some ⟨b,o,none⟩/\b<base/\w.cell? ⟨b,o+j,none⟩=some (.string bs[j])):
  Calls Tryz.prog 66 #[v,.pointer (some ⟨b,0,none⟩),.int .i64 13] w fun e w'=>∃v',e=.returned v'/\OwnB w' base v' (l++encF r bs 13)/\Below base w w':=by
 have hr:=hL.2.1;have t39:w.cell? ⟨1,39,none⟩=some (.int .i64 3):=hr 39 (by decide);have c13:w.cell? ⟨b,13,none⟩=some (.string r.han):=hB 13 _ rfl;have hbd:=fits_bounds r bs 13 (by decide) hfit;have hhi:r.measure bs.length 13<=255:=hbd.2;have hhi':((r.han.size:Nat):Int)<=255:=hhi;have hnum:Hid (Calls Tryz.prog 90 #[v,.string r.han] w fun e w'=>∃v',e=.returned v'/\OwnB w' base v' (l++encF r bs 13)/\Below base w w'):=
  appendText_any base v l r.han w (by omega) (by omega) hb hown
 clear hr hL hB hown hS hfit hhi hbd;go_enter Tryz.func66,Tryz.ntmps66;go_wp2_with (first|(go_at_call 90;refine(hnum.out).mono ?_;rintro e w1 ⟨v1,rfl,ho1,hb1⟩)|go_in);go_ret;exact⟨_,rfl,ho1,hb1⟩
theorem appendField_14 (B base b:Nat)(v:Value)(l:List UInt8)(r:Wp.Rq)(a:Option Addr)(cap:Nat)(bs:List ByteArray)(w:World)(hfit:r.fits bs.length (Wp.short bs) 14=true)(hl:l.length<=1048576)(hb:base<=w.heap.size)(hbb:b<base)(hL:Lays B w)(hB:Box w b r (.slice a bs.length cap))(hown:OwnB w base v l)
  (hS:∀j (h:j<bs.length),∃b o,a=some ⟨b,o,none⟩/\b<base/\w.cell? ⟨b,o+j,none⟩=some (.string bs[j])):
  Calls Tryz.prog 66 #[v,.pointer (some ⟨b,0,none⟩),.int .i64 14] w fun e w'=>∃v',e=.returned v'/\OwnB w' base v' (l++encF r bs 14)/\Below base w w':=by
 have hr:=hL.2.1;have t42:w.cell? ⟨1,42,none⟩=some (.int .i64 4):=hr 42 (by decide);have c14:w.cell? ⟨b,14,none⟩=some (.slice a bs.length cap):=hB 14 _ rfl;have hbd:=fits_bounds r bs 14 (by decide) hfit;have hhi:r.measure bs.length 14<=10:=hbd.2;have hhi':((bs.length:Nat):Int)<=10:=hhi;have hsh:∀s∈bs,s.size<=65535:=fun s hs=>by have:=fits_short r bs hfit s hs;omega
 have hnum:Hid (Calls Tryz.prog 91 #[v,.slice a bs.length cap] w fun e w'=>∃v',e=.returned v'/\OwnB w' base v' (l++encF r bs 14)/\Below base w w'):=
  appendTexts_any base v l a cap bs w hsh (by omega) hl hb hown hS
 clear hr hL hB hown hS hfit hhi hbd hsh;go_enter Tryz.func66,Tryz.ntmps66;go_wp2_with (first|(go_at_call 91;refine(hnum.out).mono ?_;rintro e w1 ⟨v1,rfl,ho1,hb1⟩)|go_in);go_ret;exact⟨_,rfl,ho1,hb1⟩
theorem appendField_any (B base b f:Nat)(v:Value)(l:List UInt8)(r:Wp.Rq)(a:Option Addr)(cap:Nat)(bs:List ByteArray)(w:World)(hf:f<15)(hfit:r.fits bs.length (Wp.short bs) f=true)(hl:l.length<=1048576)(hb:base<=w.heap.size)(hbb:b<base)(hL:Lays B w)(hB:Box w b r (.slice a bs.length cap))(hown:OwnB w base v l)
  (hS:∀j (h:j<bs.length),∃b o,a=some ⟨b,o,none⟩/\b<base/\w.cell? ⟨b,o+j,none⟩=some (.string bs[j])):
  Calls Tryz.prog 66 #[v,.pointer (some ⟨b,0,none⟩),.int .i64 (f:Int)] w fun e w'=>∃v',e=.returned v'/\OwnB w' base v' (l++encF r bs f)/\Below base w w':=by
 have hx:f=0\/f=1\/f=2\/f=3\/f=4\/f=5\/f=6\/f=7\/f=8\/f=9\/f=10\/f=11\/f=12\/f=13\/f=14:=by omega
 rcases hx with rfl|rfl|rfl|rfl|rfl|rfl|rfl|rfl|rfl|rfl|rfl|rfl|rfl|rfl|rfl
 ·exact appendField_0 B base b v l r a cap bs w hfit hl hb hbb hL hB hown hS
 ·exact appendField_1 B base b v l r a cap bs w hfit hl hb hbb hL hB hown hS
 ·exact appendField_2 B base b v l r a cap bs w hfit hl hb hbb hL hB hown hS
 ·exact appendField_3 B base b v l r a cap bs w hfit hl hb hbb hL hB hown hS
 ·exact appendField_4 B base b v l r a cap bs w hfit hl hb hbb hL hB hown hS
 ·exact appendField_5 B base b v l r a cap bs w hfit hl hb hbb hL hB hown hS
 ·exact appendField_6 B base b v l r a cap bs w hfit hl hb hbb hL hB hown hS
 ·exact appendField_7 B base b v l r a cap bs w hfit hl hb hbb hL hB hown hS
 ·exact appendField_8 B base b v l r a cap bs w hfit hl hb hbb hL hB hown hS
 ·exact appendField_9 B base b v l r a cap bs w hfit hl hb hbb hL hB hown hS
 ·exact appendField_10 B base b v l r a cap bs w hfit hl hb hbb hL hB hown hS
 ·exact appendField_11 B base b v l r a cap bs w hfit hl hb hbb hL hB hown hS
 ·exact appendField_12 B base b v l r a cap bs w hfit hl hb hbb hL hB hown hS
 ·exact appendField_13 B base b v l r a cap bs w hfit hl hb hbb hL hB hown hS
 ·exact appendField_14 B base b v l r a cap bs w hfit hl hb hbb hL hB hown hS
end Go.Proofs.YtbdobaapadlcjabGreatDoor
