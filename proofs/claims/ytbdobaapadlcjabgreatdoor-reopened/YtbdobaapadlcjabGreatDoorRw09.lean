import Derived.Test.YtbdobaapadlcjabGreatDoorRw08
import Derived.Deep.DeepCutAuto
set_option maxRecDepth 8000
set_option maxHeartbeats 2000000
set_option linter.unusedVariables false
set_option linter.unusedSimpArgs false
namespace Go.Proofs.YtbdobaapadlcjabGreatDoor
open Go.RowKit
variable {w w1 wr:World}{base qb cnt gc ga kh ka:Nat}{v av:Value}{l:List UInt8}{V:QV}{Q:QM}{CC:Array Value}{til:Int}
def oft (n:Nat):Nat:=if n+1<=65535 then n+1 else 65535
theorem oft_le (n:Nat):oft n<=65535:=by unfold oft;split<;>omega
theorem ret_i64 {a b:Int}(h:a=b):Ending.returned (.int .i64 a)=.returned (.int .i64 b):=by rw[h]
theorem oftener_any (n:Nat)(w:World)(hn:n<=65535):zE 166 #[.int .i64 (n:Int)] w (.int .i64 (oft n:Nat)):=by
 by_cases h:n+1<=65535
 ·have ho:Hid (oft n=n+1):=by show _=_;unfold oft;rw[if_pos h]
  go_enter Tryz.func166,Tryz.ntmps166
  go_wp2
  go_ret;exact⟨ret_i64 (by rw[ho.out];omega),rfl⟩
 ·have ho:Hid (oft n=65535):=by show _=_;unfold oft;rw[if_neg h]
  go_enter Tryz.func166,Tryz.ntmps166
  go_wp2
  go_ret;exact⟨ret_i64 (by rw[ho.out];omega),rfl⟩
theorem Fr.grown5' {B:Nat}{a:World}(h:Fr B [5] a w){base:Nat}{v:Value}{l:List UInt8}(ho:OwnB w base v l)(hg:w.grownBy w1 v.ownBlock)(hB:∀k,v.ownBlock=some k->B<=k:=by intro k _;exact Nat.zero_le _)(hB2:B<=w.heap.size:=by exact Nat.zero_le _):Fr B [5] a w1:=
 ⟨hg.os.trans h.os,hg.tape.trans h.tape,hg.output.trans h.output,Nat.le_trans h.size hg.size,fun k hk=>(hg.block k (by omega) (fun e=>by have:=hB k e.symm;omega)).trans (h.low k hk),fun k C t hk ht=>by
  have h1:=h.keep k C t hk ht;exact(hg.block k (lt_of_block h1) (fun e=>own_ne ho h1 (fun e5=>ht (by rw[<-e5];simp)) e.symm)).trans h1⟩
theorem Fr.grown5 {a:World}(h:Fr 0 [5] a w){base:Nat}{v:Value}{l:List UInt8}(ho:OwnB w base v l){o:Obj}(hg:(w.alloc o).grownBy w1 v.ownBlock):Fr 0 [5] a w1:=
 (h.trans (Fr.of_nil [5] ((Tch.refl [] w).alloc o) (Nat.zero_le _))).grown5' (World.ownsRow.alloc ho o) hg
theorem appendNumber_f (base:Nat)(v:Value)(l:List UInt8)(n size:Nat)(w:World)(hn:n<4294967296)(hs:size<=8)(hl:l.length<=1099511627776)(hb:base<=w.heap.size)(hown:OwnB w base v l):
  Calls Tryz.prog 46 #[v,.int .i64 (n:Int),.int .i64 (size:Int)] w fun e w'=>∃v',e=.returned v'/\OwnB w' base v' (l++lowB n size)/\Below base w w'/\Fr 0 [5] w w':=by
 obtain⟨i0,hi,hz0,hz1,hz2⟩:=info_parts info5;go_enter Tryz.func46,Tryz.ntmps46
 go_wp2
 go_loopw [0,1,8] (fun o m i wr=>∃k:Nat,k<=size/\i=.int .i64 k/\m=.int .i64 ((n / 256^k:Nat):Int)/\OwnB wr base o (l++lowB n k)/\Below base w wr/\Fr 0 [5] w wr) (fun _ _ i _=>size-(intOf i).toNat)
 case atStart=>exact⟨0,Nat.zero_le _,rfl,by simp,by simpa [lowB]using hown,Below.refl _ _,Fr.refl _ _ _⟩
 case round=>
  obtain⟨k,hk,rfl,rfl,ho,hbr,hfr⟩:=hrel
  by_cases hlt:k<size
  ·have hle:(l++lowB n k).length<=1099511627800:=by rw[List.length_append,lowB_length];omega
   have hm:n / 256^k<4294967296:=Nat.lt_of_le_of_lt (Nat.div_le_self _ _) hn;have hdiv:Hid (n / 256^(k+1)=n / 256^k / 256):=by
    show _=_
    rw[Nat.pow_succ,Nat.div_div_eq_div_mul]
   have hsn:=byte_cell (n / 256^k);have HSN:=zH hsn;have hls:Hid (l++lowB n (k+1)=(l++lowB n k)++[UInt8.ofNat (n / 256^k % 256)]):=by
    show _=_
    rw[lowB_succ,List.append_assoc]
   have HBR:=zH hbr;have hsz:=hbr.size;have HFR:=zH hfr;clear hsn hbr hown hfr;generalize n / 256^k=m at hm hdiv HSN hls;generalize l++lowB n k=L at ho hle hls;have HO:=zH ho;clear ho;go_wp2_with (at_builtin;refine wpList_append_own _ rfl _ _ 54 rfl base 5 i0 (.int .u8 0) 1 1 Tryz.underlying54 hi hz0 hz1 hz2 rfl (by decide) _ _ _ rfl (World.ownsRow.alloc HO.out _) ⟨wr.heap.size,0,none⟩ 1 1 [.int .u8 ((m:Int) % 256)] rfl rfl ?c1 ?c2 ?c3 ?c4 ?c5 ?_)
   case c1=>exact cell_one_new _ _ _
   case c2=>intro u hu;simp at hu;subst hu;rfl
   case c3=>unfold maxLen;omega
   case c4=>omega
   case c5=>simp;omega
   intro v' w1 hown' hgrow _;have hr1:OwnB w1 base v' (l++lowB n (k+1)):=by rw[hls.out];exact OwnB.snoc HSN.out hown'
   have hr2:Below base w w1:=by
    refine Below.grown ((HBR.out).alloc (by omega) _) hgrow (by simp;omega) ?_;intro k hk;exact(World.ownsRow.lt HO.out k hk).1
   have hr3:=HFR.out.grown5 HO.out hgrow;clear hown' hgrow
   go_wp2
   go_roundw
   case rel=>exact⟨k+1,by omega,by go_num,by rw[hdiv.out];go_num,hr1,hr2,hr3⟩
   case measure=>simp[intOf];omega
  ·have he:k=size:=by omega
   subst he
   go_wp2
   go_ret;exact⟨_,rfl,ho,hbr,hfr⟩
theorem appendText_f (base:Nat)(v:Value)(l:List UInt8)(s:ByteArray)(w:World)(hs:s.size<=65535)(hl:l.length<=1099511627776)(hb:base<=w.heap.size)(hown:OwnB w base v l):
  Calls Tryz.prog 90 #[v,.string s] w fun e w'=>∃v',e=.returned v'/\OwnB w' base v' (l++txtB s)/\Below base w w'/\Fr 0 [5] w w':=by
 obtain⟨i0,hi,hz0,hz1,hz2⟩:=info_parts info5;have hnum:Hid (Calls Tryz.prog 46 #[v,.int .i64 (s.size:Int),.int .i64 1] w fun e w'=>∃v',e=.returned v'/\OwnB w' base v' (l++lowB s.size 1)/\Below base w w'/\Fr 0 [5] w w'):=
  appendNumber_f base v l s.size 1 w (by omega) (by decide) hl hb hown
 go_enter Tryz.func90,Tryz.ntmps90;go_wp2_with fail;refine(hnum.out).mono ?_;rintro e w1 ⟨v1,rfl,ho1,hb1,hf1⟩;have hle:(l++lowB s.size 1).length<=1099511627800:=by rw[List.length_append,lowB_length];omega
 have hls:Hid (l++txtB s=(l++lowB s.size 1)++s.data.toList):=by
  show _=_
  rw[txtB,List.append_assoc]
 generalize l++lowB s.size 1=L at ho1 hle hls;have hsz:=hb1.size;have HO:=zH ho1;have HB:=zH hb1;have HF1:=zH hf1;clear ho1 hb1 hown hf1;go_wp2_with (at_builtin;refine Lib.wpList_append_own_string _ rfl _ _ 54 9 rfl base 5 i0 Tryz.underlying54 Tryz.underlying9 hi hz0 hz1 hz2 _ _ _ rfl HO.out s rfl ?c1 ?c2 ?c3 ?_)
 case c1=>unfold maxLen;omega
 case c2=>omega
 case c3=>omega
 intro v' w2 hown' hgrow _;have hr1:OwnB w2 base v' (l++txtB s):=by
  rw[hls.out];unfold OwnB;have e1:bytesV (L++s.data.toList)=bytesV L++Lib.strCells s:=by rw[<-bytesV_str];simp[bytesV]
  have e2:(L++s.data.toList).length=L.length+s.size:=by rw[List.length_append];rfl
  rw[e1,e2];exact hown'
 have hr2:Below base w w2:=by
  refine Below.grown HB.out hgrow (by omega) ?_;intro k hk;exact(World.ownsRow.lt HO.out k hk).1
 have hr3:=HF1.out.grown5' HO.out hgrow;clear hown' hgrow
 go_wp2
 go_ret;exact⟨_,rfl,hr1,hr2,hr3⟩
def hanB (q:UInt8)(num rcv:Nat):List UInt8:=[72,q]++(lowB num 4++lowB rcv 2)
theorem two_new (w:World)(a b:Value):∀j u,[a,b][j]?=some u->(w.alloc (.cells #[a,b] 5)).cell? ((⟨w.heap.size,0,none⟩:Addr).add j)=some u:=fun j u hj=>by
 have e2:(⟨w.heap.size,0,none⟩:Addr).add j=⟨w.heap.size,j,none⟩:=by unfold Addr.add;split<;>simp_all
 rw[e2,cell_of_row _ w.heap.size j #[a,b] 5 (0,0) (heap_alloc_new _ _)];simpa using hj
theorem appendHandle_any (base:Nat)(v:Value)(l:List UInt8)(q:UInt8)(num rcv:Nat)(w:World)(hn:num<4294967296)(hr:rcv<4294967296)(hl:l.length<=1048576)(hb:base<=w.heap.size)(hown:OwnB w base v l):
  Calls Tryz.prog 195 #[v,.agg #[.int .u8 (q.toNat:Int),.int .i64 (num:Int),.int .i64 (rcv:Int)]] w fun e w'=>∃v',e=.returned v'/\OwnB w' base v' (l++hanB q num rcv)/\Below base w w'/\Fr 0 [5] w w':=by
 obtain⟨i0,hi,hz0,hz1,hz2⟩:=info_parts info5;have HO:=zH hown;clear hown;go_enter Tryz.func195,Tryz.ntmps195;go_wp2_with (at_builtin;refine wpList_append_own _ rfl _ _ 54 rfl base 5 i0 (.int .u8 0) 1 1 Tryz.underlying54 hi hz0 hz1 hz2 rfl (by decide) v l.length (bytesV l) ?c0 (World.ownsRow.alloc (World.ownsRow.alloc HO.out _) _) ⟨w.heap.size+1,0,none⟩ 2 2 [.int .u8 72,.int .u8 (q.toNat:Int)] ?cx rfl ?c1 ?c2 ?c3 ?c4 ?c5 ?_)
 case c0=>simp[Act.eval]
 case cx=>simp[Act.eval]
 case c1=>
  have h:=two_new (w.alloc (.cells #[.int .u8 (q.toNat:Int),.int .i64 (num:Int),.int .i64 (rcv:Int)] 139)) (.int .u8 72) (.int .u8 (q.toNat:Int));rw[World.size_alloc]at h;exact h
 case c2=>intro u hu;simp at hu;rcases hu with rfl|rfl<;>rfl
 case c3=>unfold maxLen;omega
 case c4=>omega
 case c5=>simp;omega
 intro v1 w1 hown1 hgrow _;have ho1:OwnB w1 base v1 (l++[72,q]):=by
  unfold OwnB;have e1:bytesV (l++[72,q])=bytesV l++[.int .u8 72,.int .u8 (q.toNat:Int)]:=by simp[bytesV]
  rw[e1,List.length_append];exact hown1
 have hb1:Below base w w1:=by
  refine Below.grown (((Below.refl _ _).alloc (by omega) _).alloc (by simp;omega) _) hgrow (by simp;omega) ?_;intro k hk;exact(World.ownsRow.lt HO.out k hk).1
 have hbx:w1.heap[w.heap.size]?=some (.cells #[.int .u8 (q.toNat:Int),.int .i64 (num:Int),.int .i64 (rcv:Int)] 139 (0,0)):=by
  have h1:=hgrow.block w.heap.size (by simp;omega) (fun e=>by have:=(World.ownsRow.lt HO.out w.heap.size e.symm).2;omega);rw[h1,Below.heap_alloc _ _ _ (by simp)];exact heap_alloc_new _ _
 have hz1':w.heap.size+2<=w1.heap.size:=by have:=hgrow.size;simpa using this
 have hf1:Fr 0 [5] w w1:=((Fr.refl 0 [5] w).trans (Fr.of_nil [5] (((Tch.refl [] w).alloc _).alloc _) (Nat.zero_le _))).grown5' (World.ownsRow.alloc (World.ownsRow.alloc HO.out _) _) hgrow;have HN1:Hid (Calls Tryz.prog 46 #[v1,.int .i64 (num:Int),.int .i64 4] w1 fun e w'=>∃v',e=.returned v'/\OwnB w' base v' ((l++[72,q])++lowB num 4)/\Below base w1 w'/\Fr 0 [5] w1 w'):=appendNumber_f base v1 _ num 4 w1 hn (by decide) (by rw[List.length_append];simp;omega) (by omega) ho1;have HX:=zH hbx;have HB1:Hid (Below base w w1/\Fr 0 [5] w w1):=⟨hb1,hf1⟩;have f1:w1.cell? ⟨w.heap.size,1,none⟩=some (.int .i64 (num:Int)):=cell_qC hbx 1 _ rfl;clear hown1 hgrow ho1 hb1 hbx hf1;go_wp2_with fail;refine HN1.out.mono ?_;rintro e w2 ⟨v2,rfl,ho2,hb2,hf2⟩;have hbx2:=hf2.keep _ _ _ HX.out (by decide);have f2:w2.cell? ⟨w.heap.size,2,none⟩=some (.int .i64 (rcv:Int)):=cell_qC hbx2 2 _ rfl;have hnl2:=lt_of_block hbx2;have HN2:Hid (Calls Tryz.prog 46 #[v2,.int .i64 (rcv:Int),.int .i64 2] w2 fun e w'=>∃v',e=.returned v'/\OwnB w' base v' (((l++[72,q])++lowB num 4)++lowB rcv 2)/\Below base w2 w'/\Fr 0 [5] w2 w'):=appendNumber_f base v2 _ rcv 2 w2 hr (by decide) (by simp[lowB_length];omega) (by omega) ho2;have HB2:Hid (Below base w w2/\Fr 0 [5] w w2):=⟨HB1.out.1.trans hb2,HB1.out.2.trans hf2⟩;clear ho2 hb2 hf2 hbx2 f1;go_wp2_with fail;refine HN2.out.mono ?_;rintro e w3 ⟨v3,rfl,ho3,hb3,hf3⟩;have H3:Hid (OwnB w3 base v3 (l++hanB q num rcv)/\Below base w w3/\Fr 0 [5] w w3):=by
  refine⟨?_,HB2.out.1.trans hb3,HB2.out.2.trans hf3⟩;have e:l++hanB q num rcv=((l++[72,q])++lowB num 4)++lowB rcv 2:=by simp[hanB]
  rw[e];exact ho3
 clear ho3 hb3 hf3;go_wp2_with fail;go_ret;exact⟨v3,rfl,H3.out.1,H3.out.2.1,H3.out.2.2⟩
def givB (q:UInt8)(num rcv:Nat)(g b:ByteArray):List UInt8:=hanB q num (oft rcv)++(txtB g++txtB b)
theorem appendGiven_any (base:Nat)(v:Value)(l:List UInt8)(q:UInt8)(num rcv qb:Nat)(til:Int)(g b:ByteArray)(C:Array Value)(w:World)(hqb:w.heap[qb]?=some (.cells C 137 (0,0)))(hC:C[0]?=some (.int .u8 (q.toNat:Int)))(hn:num<4294967296)(hr:rcv<=65535)(hg:g.size<=255)(hbd:b.size<=255)(hl:l.length<=65536)(hb:base<=w.heap.size)(hown:OwnB w base v l):
  Calls Tryz.prog 164 #[.pointer (some ⟨qb,0,none⟩),v,.agg #[.int .i64 (num:Int),.string g,.string b,.int .i64 (rcv:Int),.int .i64 til]] w fun e w'=>∃v',e=.returned v'/\OwnB w' base v' (l++givB q num rcv g b)/\Below base w w'/\Fr 0 [5] w w':=by
 have hoft:=oft_le rcv;obtain⟨wa,hwa⟩:∃wa,wa=w.alloc (.cells #[.int .i64 (num:Int),.string g,.string b,.int .i64 (rcv:Int),.int .i64 til] 191):=⟨_,rfl⟩;have HBX:Hid (wa.heap[w.heap.size]?=some (.cells #[.int .i64 (num:Int),.string g,.string b,.int .i64 (rcv:Int),.int .i64 til] 191 (0,0))):=by rw[hwa];exact heap_alloc_new _ _
 have HQB:Hid (wa.heap[qb]?=some (.cells C 137 (0,0))):=by rw[hwa];exact(Below.heap_alloc _ _ _ (lt_of_block hqb)).trans hqb
 have HT:Hid (Tch [] w wa):=by rw[hwa];exact(Tch.refl _ _).alloc _
 have HOA:Hid (OwnB wa base v l):=by rw[hwa];exact World.ownsRow.alloc hown _
 have za:=HT.out.size;have HOF:Hid (∀W,zE 166 #[.int .i64 (rcv:Int)] W (.int .i64 (oft rcv:Nat))):=fun W=>oftener_any rcv W hr
 have HAH:Hid (Calls Tryz.prog 195 #[v,.agg #[.int .u8 (q.toNat:Int),.int .i64 (num:Int),.int .i64 (oft rcv:Nat)]] wa.drew fun e w'=>∃v',e=.returned v'/\OwnB w' base v' (l++hanB q num (oft rcv))/\Below base wa.drew w'/\Fr 0 [5] wa.drew w'):=appendHandle_any base v l q num (oft rcv) wa.drew hn (by omega) (by omega) (by show base<=wa.heap.size;omega) HOA.out;have a0:wa.cell? ⟨qb,0,none⟩=some (.int .u8 (q.toNat:Int)):=cell_qC HQB.out 0 _ hC;have b0:wa.cell? ⟨w.heap.size,0,none⟩=some (.int .i64 (num:Int)):=cell_qC HBX.out 0 _ rfl;have b3:wa.cell? ⟨w.heap.size,3,none⟩=some (.int .i64 (rcv:Int)):=cell_qC HBX.out 3 _ rfl;have l2:=lt_of_block HBX.out;have HHL:Hid ((l++hanB q num (oft rcv)).length<=65600):=by show _<=_;simp[hanB,lowB_length];omega
 clear hown hqb;go_enter Tryz.func164,Tryz.ntmps164;go_wp2_with fail;rw[<-hwa];clear hwa
 go_region_held3 (fun w'=>w'.cell? ⟨qb,0,none⟩=some (.int .u8 (q.toNat:Int))/\w'.cell? ⟨w.heap.size,0,none⟩=some (.int .i64 (num:Int))/\w'.cell? ⟨w.heap.size,3,none⟩=some (.int .i64 (rcv:Int))) (go_keep) (first|(go_at_call 166;refine(HOF.out _).mono ?_;rintro e w' ⟨rfl,h'⟩;have h'':=h'.symm;subst h'')|(go_at_call 195;refine HAH.out.mono ?_;rintro e w2 ⟨v2,rfl,ho2,hb2,hf2⟩;have hbx2:=hf2.keep w.heap.size _ 191 HBX.out (by decide);have hqb2:=hf2.keep qb _ 137 HQB.out (by decide);have k0:w2.cell? ⟨qb,0,none⟩=some (.int .u8 (q.toNat:Int)):=cell_qC hqb2 0 _ hC;have k1:w2.cell? ⟨w.heap.size,0,none⟩=some (.int .i64 (num:Int)):=cell_qC hbx2 0 _ rfl;have k2:w2.cell? ⟨w.heap.size,3,none⟩=some (.int .i64 (rcv:Int)):=cell_qC hbx2 3 _ rfl))
 have HB2:=zH hbx2;have z2:base<=w2.heap.size:=by have:=hf2.size;have e:wa.drew.heap.size=wa.heap.size:=rfl;omega
 have HT1:Hid (Calls Tryz.prog 90 #[v2,.string g] w2 fun e w'=>∃v',e=.returned v'/\OwnB w' base v' ((l++hanB q num (oft rcv))++txtB g)/\Below base w2 w'/\Fr 0 [5] w2 w'):=appendText_f base v2 _ g w2 (by omega) (by have:=HHL.out;omega) z2 ho2;have HF2:Hid (Below base w w2/\Fr 0 [5] w w2):=⟨(HT.out.below (by simp) hb).trans ((below_drewN (Below.refl base wa) 1).trans hb2),((Fr.of_nil [5] HT.out (Nat.zero_le _)).trans (Fr.of_nil [5] (Tch.refl [] wa).drew (Nat.zero_le _))).trans hf2⟩;have c1:w2.cell? ⟨w.heap.size,1,none⟩=some (.string g):=cell_qC hbx2 1 _ rfl;clear ho2 hb2 hf2 hbx2 hqb2 a0 b0 b3 k0 k1 k2 l2;go_wp2_with fail;refine HT1.out.mono ?_;rintro e w3 ⟨v3,rfl,ho3,hb3,hf3⟩;have hbx3:=hf3.keep _ _ _ HB2.out (by decide);have c2:w3.cell? ⟨w.heap.size,2,none⟩=some (.string b):=cell_qC hbx3 2 _ rfl;have z3:=hf3.size;have HT2:Hid (Calls Tryz.prog 90 #[v3,.string b] w3 fun e w'=>∃v',e=.returned v'/\OwnB w' base v' (((l++hanB q num (oft rcv))++txtB g)++txtB b)/\Below base w3 w'/\Fr 0 [5] w3 w'):=appendText_f base v3 _ b w3 (by omega) (by have:=HHL.out;rw[List.length_append,txtB_length];omega) (by omega) ho3
 have HF3:Hid (Below base w w3/\Fr 0 [5] w w3):=⟨HF2.out.1.trans hb3,HF2.out.2.trans hf3⟩;clear ho3 hb3 hf3 hbx3 c1;go_wp2_with fail;refine HT2.out.mono ?_;rintro e w4 ⟨v4,rfl,ho4,hb4,hf4⟩;have H4:Hid (OwnB w4 base v4 (l++givB q num rcv g b)/\Below base w w4/\Fr 0 [5] w w4):=by
  refine⟨?_,HF3.out.1.trans hb4,HF3.out.2.trans hf4⟩;have e:l++givB q num rcv g b=((l++hanB q num (oft rcv))++txtB g)++txtB b:=by simp[givB]
  rw[e];exact ho4
 clear ho4 hb4 hf4;go_wp2_with fail;go_ret;exact⟨v4,rfl,H4.out.1,H4.out.2.1,H4.out.2.2⟩
def rbox (w:World)(qb:Nat)(C:Array Value):World:=(w.alloc (.cells #[.pointer (some ⟨qb,0,none⟩)] 88)).alloc (.cells C 24)
theorem rbox_tch (w:World)(qb:Nat)(C:Array Value):Tch [] w (rbox w qb C):=((Tch.refl _ _).alloc _).alloc _
theorem rbox_size (w:World)(qb:Nat)(C:Array Value):(rbox w qb C).heap.size=w.heap.size+2:=by simp[rbox]
theorem rbox_0 (w:World)(qb:Nat)(C:Array Value):(rbox w qb C).heap[w.heap.size]?=some (.cells #[.pointer (some ⟨qb,0,none⟩)] 88 (0,0)):=by
 unfold rbox;rw[heap_alloc2_old]
theorem rbox_1 (w:World)(qb:Nat)(C:Array Value):(rbox w qb C).heap[w.heap.size+1]?=some (.cells C 24 (0,0)):=by
 unfold rbox;rw[heap_alloc2_new]
def intRow (l:List Int)(n:Nat):Array Value:=(l.map (Value.int .i64)++List.replicate (n-l.length) (Value.int .i64 0)).toArray
theorem intRow_size (l:List Int)(n:Nat)(h:l.length<=n):(intRow l n).size=n:=by simp[intRow];omega
theorem intRow_set (l:List Int)(n:Nat)(x:Int)(h:l.length<n):(intRow l n).setIfInBounds l.length (.int .i64 x)=intRow (l++[x]) n:=by
 unfold intRow;apply Array.toList_inj.1;rw[Array.toList_setIfInBounds,List.toList_toArray,List.toList_toArray];obtain⟨m,hm⟩:∃m,n-l.length=m+1:=⟨n-l.length-1,by omega⟩;have hm':n-(l++[x]).length=m:=by rw[List.length_append,List.length_singleton];omega
 rw[hm,hm',List.replicate_succ,List.set_append_right _ _ (by simp),List.map_append];simp
theorem intRow_get (l:List Int)(n j:Nat)(h:j<l.length):(intRow l n)[j]?=some (.int .i64 l[j]):=by
 unfold intRow;rw[List.getElem?_toArray,List.getElem?_append_left (by simpa using h)];simp[h]
theorem info3:(Tryz.prog.info? 3).map (fun i=>(i.zero,i.size,i.bytes))=some (some (Value.int .i64 0),1,8):=by kernel_rfl
theorem make_ints (n:Nat)(hn:n<=1000)(W:World):(Instr.makeSlice 26 (.int .i64 (n:Int)) (.int .i64 (n:Int))).run Tryz.prog W=.ok (.slice (some ⟨W.heap.size,0,none⟩) n n) (W.alloc (.cells (intRow [] n) 3)):=by
 obtain⟨i0,hi,hz0,hz1,hz2⟩:=info_parts info3;have h:=run_make (P:=Tryz.prog) W 26 3 i0 (.int .i64 0) Tryz.underlying26 hi hz0 .i64 .i64 (n:Int) (n:Int) (by omega) (by omega) (by rw[hz2];omega) (by omega);have hm:madeCells (Value.int .i64 0).cells ((n:Int).toNat*i0.size)=intRow [] n:=by
  apply Array.toList_inj.1;rw[hz1,Nat.mul_one,Int.toNat_natCast]
  show (madeCells #[Value.int .i64 0] n).toList=_
  rw[toList_madeCells_one];simp[intRow]
 rw[hm]at h;simpa using h
theorem alloc4 (w:World)(A B C D:Obj):Tch [] w ((((w.alloc A).alloc B).alloc C).alloc D)/\((((w.alloc A).alloc B).alloc C).alloc D).heap.size=w.heap.size+4/\((((w.alloc A).alloc B).alloc C).alloc D).heap[w.heap.size]?=some A/\((((w.alloc A).alloc B).alloc C).alloc D).heap[w.heap.size+1]?=some B/\((((w.alloc A).alloc B).alloc C).alloc D).heap[w.heap.size+1+1]?=some C/\((((w.alloc A).alloc B).alloc C).alloc D).heap[w.heap.size+1+1+1]?=some D:=by
 refine⟨((((Tch.refl [] w).alloc _).alloc _).alloc _).alloc _,by simp,?_,?_,?_,?_⟩
 ·rw[Below.heap_alloc _ _ _ (by simp;omega),Below.heap_alloc _ _ _ (by simp;omega),heap_alloc2_old]
 ·rw[Below.heap_alloc _ _ _ (by simp),Below.heap_alloc _ _ _ (by simp),heap_alloc2_new]
 ·have h:=heap_alloc_new ((w.alloc A).alloc B) C;rw[World.size_alloc,World.size_alloc]at h;rw[Below.heap_alloc _ _ _ (by simp)];exact h
 ·have h:=heap_alloc_new (((w.alloc A).alloc B).alloc C) D;rw[World.size_alloc,World.size_alloc,World.size_alloc]at h;exact h
structure MsOk (m:Ms):Prop where
 num:0<=m.num/\m.num<4294967296
 rcv:0<=m.rcv/\m.rcv<=65535
 grp:m.grp.size<=255
 bod:m.bod.size<=255
def givM (Q:QM)(g:ByteArray):List UInt8:=match Q.ms[(idxL (isG g) Q.ms).toNat]? with
 | some m=>givB Q.c.q m.num.toNat m.rcv.toNat m.grp m.bod
 | none=>[]
def hdsL (Q:QM)(k:Nat):List Int:=(Q.rs.take k).map (fun g=>idxL (isG g) Q.ms)
def ansL (Q:QM)(cnt k:Nat):List UInt8:=lowB cnt 1++(Q.rs.take k).flatMap (givM Q)
theorem givB_len (q:UInt8)(num rcv:Nat)(g b:ByteArray):(givB q num rcv g b).length=10+g.size+b.size:=by
 simp[givB,hanB,lowB_length,txtB_length];omega
theorem givM_len (Q:QM)(g:ByteArray)(h:∀m∈Q.ms,MsOk m):(givM Q g).length<=520:=by
 unfold givM
 split
 ·rename_i m hm
  have h1:=h m (List.mem_of_getElem? hm);have h2:=h1.grp;have h3:=h1.bod;rw[givB_len];omega
 ·simp
theorem flat_le (Q:QM)(l:List ByteArray)(h:∀m∈Q.ms,MsOk m):(l.flatMap (givM Q)).length<=520*l.length:=by
 induction l with
 | nil=>simp
 | cons x l ih=>
  have:=givM_len Q x h;rw[List.flatMap_cons,List.length_append,List.length_cons];omega
theorem ansL_len (Q:QM)(cnt k:Nat)(h:∀m∈Q.ms,MsOk m):(ansL Q cnt k).length<=1+520*k:=by
 have h1:=flat_le Q (Q.rs.take k) h;have h2:(Q.rs.take k).length<=k:=by simp;omega
 unfold ansL;rw[List.length_append,lowB_length];have:520*(Q.rs.take k).length<=520*k:=Nat.mul_le_mul_left _ h2;omega
structure RcI (w wr:World)(qb:Nat)(V:QV)(Q:QM)(CC:Array Value)(cnt gc ga base:Nat)(til:Int)(kh ka:Nat)(av:Value):Prop where
 hgq:wr.heap[w.heap.size]?=some (.cells #[.pointer (some ⟨qb,0,none⟩)] 88 (0,0))
 hgr:wr.heap[w.heap.size+1]?=some (.cells CC 24 (0,0))
 hgc:wr.heap[gc]?=some (.cells #[.int .i64 (cnt:Int)] 3 (0,0))
 hga:wr.heap[ga]?=some (.cells #[av] 54 (0,0))
 hgu:wr.heap[ga+1]?=some (.cells #[.int .i64 til] 3 (0,0))
 hhb:wr.heap[ga+1+1]?=some (.cells (intRow (hdsL Q kh) cnt) 3 (0,0))
 hgh:wr.heap[ga+1+1+1]?=some (.cells #[.slice (some ⟨ga+1+1,0,none⟩) cnt cnt] 26 (0,0))
 own:OwnB wr base av (ansL Q cnt ka)
 tch:Tch [] w wr
 qr:QR wr qb V Q
theorem RcI.tch0 {w5:World}(h:RcI w wr qb V Q CC cnt gc ga base til kh ka av)(t5:Tch [] wr w5):RcI w w5 qb V Q CC cnt gc ga base til kh ka av:=
 ⟨(t5.block _ (lt_of_block h.hgq) (by simp)).trans h.hgq,(t5.block _ (lt_of_block h.hgr) (by simp)).trans h.hgr,(t5.block _ (lt_of_block h.hgc) (by simp)).trans h.hgc,(t5.block _ (lt_of_block h.hga) (by simp)).trans h.hga,(t5.block _ (lt_of_block h.hgu) (by simp)).trans h.hgu,(t5.block _ (lt_of_block h.hhb) (by simp)).trans h.hhb,(t5.block _ (lt_of_block h.hgh) (by simp)).trans h.hgh,own_tch h.own t5 (fun _ _=>by simp),h.tch.trans t5 (by simp),h.qr.tch t5 (by simp)⟩
theorem RcI.heads {kh':Nat}(h:RcI w wr qb V Q CC cnt gc ga base til kh ka av)(hd:w.heap.size+2<=gc/\gc<ga)(hq0:∀b∈qbl qb V,b<w.heap.size)(k:Nat)(x:Int)(hset:(intRow (hdsL Q kh) cnt).setIfInBounds k (.int .i64 x)=intRow (hdsL Q kh') cnt):
  RcI w (wr.setCell ⟨ga+1+1,k,none⟩ (.int .i64 x)) qb V Q CC cnt gc ga base til kh' ka av:=by
 have t1:Tch [ga+1+1] wr (wr.setCell ⟨ga+1+1,k,none⟩ (.int .i64 x)):=(Tch.refl _ _).setCell (fun _=>by simp) _;have kp:∀(b:Nat) (o:Obj),wr.heap[b]?=some o->b≠ga+1+1->(wr.setCell ⟨ga+1+1,k,none⟩ (.int .i64 x)).heap[b]?=some o:=fun b o hb hne=>(heap_setCell_other _ _ _ _ (show b≠ga+1+1 from hne)).trans hb
 refine⟨kp _ _ h.hgq (by omega),kp _ _ h.hgr (by omega),kp _ _ h.hgc (by omega),kp _ _ h.hga (by omega),kp _ _ h.hgu (by omega),?_,kp _ _ h.hgh (by omega),own_tch h.own t1 (fun b hb hm=>?_),h.tch.setCell (fun hlt=>?_) _,h.qr.tch t1 (fun b hb hm=>?_)⟩
 ·rw[<-hset];exact heap_setCell_same wr (ga+1+1) k _ 3 _ h.hhb
 ·simp at hm;subst hm;exact own_ne h.own h.hhb (by decide) hb
 ·have hlt':ga+1+1<w.heap.size:=hlt;omega
 ·have:=hq0 b hb;simp at hm;omega
theorem RcI.told {w7:World}{ka':Nat}{v7:Value}(h:RcI w wr qb V Q CC cnt gc ga base til kh ka av)(hd:w.heap.size+2<=gc/\gc<ga)(hq0:∀b∈qbl qb V,b<w.heap.size)(hb:w.heap.size<=base)(hb7:Below base wr w7)(hf7:Fr 0 [5] wr w7)(ho7:OwnB w7 base v7 (ansL Q cnt ka')):
  RcI w (w7.setCell ⟨ga,0,none⟩ v7) qb V Q CC cnt gc ga base til kh ka' v7:=by
 have t1:Tch [ga] w7 (w7.setCell ⟨ga,0,none⟩ v7):=(Tch.refl _ _).setCell (fun _=>by simp) _;have hga7:=hf7.keep _ _ _ h.hga (by decide);have kp:∀(b:Nat) (C:Array Value) (t:TypeId),wr.heap[b]?=some (.cells C t (0,0))->t∉[5]->b≠ga->(w7.setCell ⟨ga,0,none⟩ v7).heap[b]?=some (.cells C t (0,0)):=fun b C t hb ht hne=>(heap_setCell_other _ _ _ _ (show b≠ga from hne)).trans (hf7.keep b C t hb ht)
 refine⟨kp _ _ _ h.hgq (by decide) (by omega),kp _ _ _ h.hgr (by decide) (by omega),kp _ _ _ h.hgc (by decide) (by omega),?_,kp _ _ _ h.hgu (by decide) (by omega),kp _ _ _ h.hhb (by decide) (by omega),kp _ _ _ h.hgh (by decide) (by omega),own_tch ho7 t1 (fun b hb' hm=>?_),?_,?_⟩
 ·exact heap_setCell_same w7 ga 0 _ 54 _ hga7
 ·simp at hm;subst hm;exact own_ne ho7 hga7 (by decide) hb'
 ·have t0:Tch [] w w7:=⟨hb7.os.trans h.tch.os,hb7.tape.trans h.tch.tape,hb7.output.trans h.tch.output,Nat.le_trans h.tch.size hb7.size,fun k hk _=>(hb7.block k (by omega)).trans (h.tch.block k hk (by simp))⟩
  exact t0.setCell (fun hlt=>by have hlt':ga<w.heap.size:=hlt;omega) _
 ·exact(h.qr.keep hf7 (by decide)).tch t1 (fun b hb hm=>by
   have:=hq0 b hb;simp at hm;omega)
theorem receive_some (Q:QM)(V:QV)(r:Wp.Rq)(y:Sl)(qb:Nat)(now:Int)(w:World)(h:QR w qb V Q)(hna:Q.ats.length<=1000)(hnr:Q.rs.length<=1000)(hid:idxL (isA r.att) Q.ats<0)(mx cnt:Nat)(hmx:r.mx=(mx:Nat))(hm1:1<=mx/\mx<=10)(hcnt:cnt=if mx<=Q.rs.length then mx else Q.rs.length)(hnow:0<=now/\now<=60000)(hvis:0<=Q.c.vis/\Q.c.vis<=1001)(hnm:Q.ms.length<=1000)(hrd:∀g∈Q.rs,0<=idxL (isG g) Q.ms)(hms:∀m∈Q.ms,MsOk m):
  Calls Tryz.prog 123 #[.pointer (some ⟨qb,0,none⟩),.int .i64 now,.agg (cellsOf r y.v)] w fun e w'=>∃gc ga base av,
   (cnt=0/\e=.returned (.tuple #[av,.nilFunc,.int .i64 0])/\OwnB w' base av (ansL Q cnt cnt)/\Tch [] w w')\/
   (0<cnt/\e=.returned (.tuple #[av,.func (.func 165) #[] #[.pointer (some ⟨ga+1+1+1,0,none⟩),.pointer (some ⟨w.heap.size,0,none⟩),.pointer (some ⟨ga+1,0,none⟩),.pointer (some ⟨gc,0,none⟩),.pointer (some ⟨w.heap.size+1,0,none⟩),.pointer (some ⟨ga,0,none⟩)],.int .i64 0])/\
    RcI w w' qb V Q (cellsOf r y.v) cnt gc ga base (now+Q.c.vis) cnt cnt av/\w.heap.size+2<=gc/\gc<ga/\w.heap.size<=base):=by
 have hge:=idxL_ge (isA r.att) Q.ats;have HII:Hid (idxL (isA r.att) Q.ats=-1):=by show _=_;omega
 have HQ:=zH h;have HQ0:=zH h.lt;obtain⟨ar,cr,hvr⟩:∃a c,V.r=.slice a Q.rs.length c:=by
  rcases h.r.2 with ⟨h0,h1⟩|⟨g,cap,cur,h0,_⟩
  ·exact⟨none,0,by rw[h0,h1]⟩
  ·exact⟨_,_,h0⟩
 rw[zM r y];generalize hCC:(#[.int .u8 (r.op.toNat:Int),.int .u8 (r.q.toNat:Int),.int .u8 (r.d.toNat:Int),.int .i64 r.vis,.int .i64 r.win,.int .i64 r.rcv,.int .i64 r.quo,.int .i64 r.mx,.int .i64 r.tic,.string r.grp,.string r.ded,.string r.bod,.string r.att,.string r.han,.slice y.a y.n y.c]:Array Value)=CC;have HA:Hid (zB 162 #[.pointer (some ⟨qb,0,none⟩),.string r.att] (rbox w qb CC) (.int .i64 (-1))):=by
  have h1:=h.tch (rbox_tch w qb CC) (by simp);have h2:=findAttempt_gen r.att qb V.a Q.ats (rbox w qb CC) (cell_qC h1.blk 10 _ rfl) h1.a (by omega);rw[HII.out]at h2;exact h2
 have HW0:=zH (rbox_0 w qb CC);have HW1:=zH (rbox_1 w qb CC);have HWT:=zH (rbox_tch w qb CC);have HWZ:=zH (rbox_size w qb CC);have ca:CC[12]?=some (.string r.att):=by rw[<-hCC];rfl
 have cm:CC[7]?=some (.int .i64 (mx:Nat)):=by rw[<-hCC,<-hmx];rfl
 clear hCC;have zz:=HWZ.out;generalize hwb:rbox w qb CC=wb at*
 clear h;go_enter Tryz.func123,Tryz.ntmps123;go_wp2_with fail;rw[show (w.alloc (.cells #[.pointer (some ⟨qb,0,none⟩)] 88)).alloc (.cells CC 24)=wb from hwb]
 refine HA.out.mono ?_;rintro e w1 ⟨rfl,hb1⟩;have t1:=HWT.out.trans (Tch.of_below hb1) (by simp);have z1:w.heap.size+2<=w1.heap.size:=by have:=hb1.size;omega
 have hq1:=HQ.out.tch t1 (by simp);have B0:=(hb1.block _ (by omega)).trans HW0.out;have B1:=(hb1.block _ (by omega)).trans HW1.out;have a0:w1.cell? ⟨w.heap.size,0,none⟩=some (.pointer (some ⟨qb,0,none⟩)):=cell_qC B0 0 _ rfl;have a1:w1.cell? ⟨w.heap.size+1,7,none⟩=some (.int .i64 (mx:Nat)):=cell_qC B1 7 _ cm;have a2:w1.cell? ⟨qb,8,none⟩=some (.slice ar Q.rs.length cr):=by rw[<-hvr];exact cell_qC hq1.blk 8 _ rfl
 have HB0:Hid (w1.heap[w.heap.size]?=some (.cells #[.pointer (some ⟨qb,0,none⟩)] 88 (0,0))/\w1.heap[w.heap.size+1]?=some (.cells CC 24 (0,0))):=⟨B0,B1⟩;have HQ1:=zH hq1;have HT1:=zH t1;clear hb1 hwb t1 hq1 B0 B1 HA HW0 HW1 HWT HWZ zz;go_wp2_with fail;have hmin:min (mx:Int) (Q.rs.length:Int)=(cnt:Int):=by rw[hcnt];split<;>omega
 have hcl:cnt<=mx/\cnt<=Q.rs.length:=by rw[hcnt];split<;>omega
 clear hcnt
 go_cut [10] (fun s10 wx=>s10=.pointer (some ⟨w1.heap.size,0,none⟩)/\Tch [] w1 wx/\wx.heap.size=w1.heap.size+1/\wx.heap[w1.heap.size]?=some (.cells #[.int .i64 (cnt:Int)] 3 (0,0)))
 case first=>
  go_region_held3 (fun w'=>w'.cell? ⟨w.heap.size,0,none⟩=some (.pointer (some ⟨qb,0,none⟩))/\w'.cell? ⟨w.heap.size+1,7,none⟩=some (.int .i64 (mx:Nat))/\w'.cell? ⟨qb,8,none⟩=some (.slice ar Q.rs.length cr)) (go_keep) (fail)
  all_goals (go_wp2_with fail;go_meet)
  all_goals exact⟨rfl,((Tch.refl [] w1).alloc _).drew,by show (w1.alloc _).heap.size=_;simp,heap_alloc_new _ _⟩
 case rest=>
  obtain⟨rfl,ht2,hz2,hc2⟩:=hcut;generalize wc=w2 at*
  have T2:=zH (HT1.out.trans ht2 (by simp));have HC2:=zH hc2;have HB2:Hid (w2.heap[w.heap.size]?=some (.cells #[.pointer (some ⟨qb,0,none⟩)] 88 (0,0))/\w2.heap[w.heap.size+1]?=some (.cells CC 24 (0,0))):=⟨(ht2.block _ (by omega) (by simp)).trans HB0.out.1,(ht2.block _ (by omega) (by simp)).trans HB0.out.2⟩;have HA1:Hid (Calls Tryz.prog 46 #[.slice none 0 0,.int .i64 (cnt:Int),.int .i64 1] w2 fun e w'=>∃v',e=.returned v'/\OwnB w' w2.heap.size v' ([]++lowB cnt 1)/\Below w2.heap.size w2 w'/\Fr 0 [5] w2 w'):=appendNumber_f w2.heap.size _ [] cnt 1 w2 (by omega) (by decide) (by decide) (Nat.le_refl _) (World.ownsRow_nil _ _ _ _);have c2:=cell_of_one hc2;have l2:=lt_of_block hc2;have HQ2:=zH (HQ1.out.tch ht2 (by simp));clear ht2 hc2 a0 a1 a2;go_wp2_with fail;refine HA1.out.mono ?_;rintro e w3 ⟨v3,rfl,ho3,hb3,hf3⟩;have z3:=hb3.size;have T3:=zH (T2.out.trans (Tch.of_below hb3) (by simp));have HC3:Hid (w3.heap[w1.heap.size]?=some (.cells #[.int .i64 (cnt:Int)] 3 (0,0))/\w3.heap[w.heap.size]?=some (.cells #[.pointer (some ⟨qb,0,none⟩)] 88 (0,0))/\w3.heap[w.heap.size+1]?=some (.cells CC 24 (0,0))):=⟨(hb3.block _ l2).trans HC2.out,(hb3.block _ (by omega)).trans HB2.out.1,(hb3.block _ (by omega)).trans HB2.out.2⟩;have HO3:=zH ho3;have c3:=cell_of_one HC3.out.1;have l3:=lt_of_block HC3.out.1;have HQ3:=zH (HQ2.out.tch (Tch.of_below hb3) (by simp));obtain⟨g3,cap3,hv3⟩:∃g cap,v3=.slice (some ⟨g,0,none⟩) 1 cap:=by
   obtain⟨g,cap,e⟩:=OwnB.slc ho3 (by simp[lowB_length]);exact⟨g,cap,by simpa [lowB_length]using e⟩
  subst hv3;clear ho3 hb3 hf3 c2
  by_cases hc0:cnt=0
  ·have hcb:((cnt:Int) == 0)=true:=by simp[hc0]
   go_wp2_with fail;go_ret3;refine⟨0,0,w2.heap.size,_,.inl ⟨hc0,rfl,?_,?_⟩⟩
   ·have h:=own_tch HO3.out ((Tch.refl [] w3).alloc (.cells #[.slice (some ⟨g3,0,none⟩) 1 cap3] 54)) (fun _ _=>by simp);have e:ansL Q cnt cnt=lowB cnt 1:=by rw[hc0];simp[ansL]
    rw[e];exact h
   ·exact T3.out.alloc _
  ·have hcb:((cnt:Int) == 0)=false:=by simp;omega
   have hmk:=make_ints cnt (by omega);have hwr:IntKind.i64.wrap (now+Q.c.vis)=now+Q.c.vis:=by rw[IntKind.wrap_i64];omega
   obtain⟨gr0,hgr0,hcr⟩:∃g,ar=some ⟨g,0,none⟩/\Q.rs.length<=cr:=by
    rcases HQ.out.r.2 with ⟨h0,h1⟩|⟨g,cap,cur,h0,_,_,hnc,_⟩
    ·omega
    ·rw[hvr]at h0;simp at h0;exact⟨g,h0.1,by omega⟩
   subst hgr0;have d0:w3.cell? ⟨w.heap.size,0,none⟩=some (.pointer (some ⟨qb,0,none⟩)):=cell_of_one HC3.out.2.1;have d2:w3.cell? ⟨qb,2,none⟩=some (.int .i64 Q.c.vis):=cell_qC HQ3.out.blk 2 _ rfl;have l4:=lt_of_block HC3.out.2.1;have l5:=HQ3.out.blk.lt;go_wp2_with fail;obtain⟨p1,p2,p3,p4,p5,p6⟩:=alloc4 w3 (.cells #[.slice (some ⟨g3,0,none⟩) 1 cap3] 54) (.cells #[.int .i64 (now+Q.c.vis)] 3) (.cells (intRow [] cnt) 3) (.cells #[.slice (some ⟨w3.heap.size+1+1,0,none⟩) cnt cnt] 26);generalize ((((w3.alloc (.cells #[.slice (some ⟨g3,0,none⟩) 1 cap3] 54)).alloc (.cells #[.int .i64 (now+Q.c.vis)] 3)).alloc (.cells (intRow [] cnt) 3)).alloc (.cells #[.slice (some ⟨w3.heap.size+1+1,0,none⟩) cnt cnt] 26))=w4 at*
   have HI:Hid (RcI w w4 qb V Q CC cnt w1.heap.size w3.heap.size w2.heap.size (now+Q.c.vis) 0 0 (.slice (some ⟨g3,0,none⟩) 1 cap3)):=⟨(p1.block _ (by omega) (by simp)).trans HC3.out.2.1,(p1.block _ (by omega) (by simp)).trans HC3.out.2.2,(p1.block _ l3 (by simp)).trans HC3.out.1,p3,p4,p5,p6,by
    have h:=own_tch HO3.out p1 (fun _ _=>by simp);simpa [ansL,OwnB]using h,T3.out.trans p1 (by simp),HQ3.out.tch p1 (by simp)⟩
   have e0:w4.cell? ⟨w.heap.size,0,none⟩=some (.pointer (some ⟨qb,0,none⟩)):=cell_of_one HI.out.hgq;have e8:w4.cell? ⟨qb,8,none⟩=some (.slice (some ⟨gr0,0,none⟩) Q.rs.length cr):=by rw[<-hvr];exact cell_qC HI.out.qr.blk 8 _ rfl
   have ec:w4.cell? ⟨w1.heap.size,0,none⟩=some (.int .i64 (cnt:Int)):=cell_of_one HI.out.hgc;have HZ4:Hid (w3.heap.size+4=w4.heap.size/\w2.heap.size<=w3.heap.size/\w1.heap.size+1<=w2.heap.size/\w.heap.size+2<=w1.heap.size):=⟨p2.symm,z3,by omega,z1⟩;clear p1 p2 p3 p4 p5 p6 d0 d2 c3 l2 l3 l4 l5;go_quiet (fail);go_wp2_with fail
   go_loopw [60] (fun v wr=>∃k av,k<=cnt/\v=.int .i64 (k:Int)/\RcI w wr qb V Q CC cnt w1.heap.size w3.heap.size w2.heap.size (now+Q.c.vis) k k av) (fun v _=>cnt-(intOf v).toNat)
   case atStart=>
    have h:=HI.out;have td:Tch [] w4 (w4.drewN nq):=(Tch.refl [] w4).drewN nq;exact⟨0,_,Nat.zero_le _,rfl,h.hgq,h.hgr,h.hgc,h.hga,h.hgu,h.hhb,h.hgh,own_tch h.own td (fun _ _=>by simp),h.tch.drewN nq,h.qr.tch td (by simp)⟩
   case round=>
    obtain⟨k,av,hk,rfl,hI⟩:=hrel;have HIR:=zH hI
    by_cases hlt:k<cnt
    ·have hkl:k<Q.rs.length:=by omega
     have ck:wr.cell? ⟨gr0,k,none⟩=some (.string Q.rs[k]):=by
      have h0:=hI.qr.r;rw[hvr]at h0;have h1:=World.ownsRow.cells h0 (g:=gr0) rfl k (.string Q.rs[k]) (by simp[hkl]);have e2:(⟨gr0,0,none⟩:Addr).add k=⟨gr0,k,none⟩:=by unfold Addr.add;split<;>simp_all
      rw[e2]at h1;exact h1
     have hmem:Q.rs[k]∈Q.rs:=List.getElem_mem _;have HRD:Hid (0<=idxL (isG Q.rs[k]) Q.ms):=hrd _ hmem;have HH:Hid (Calls Tryz.prog 163 #[.pointer (some ⟨qb,0,none⟩),.string Q.rs[k]] wr.drew fun e w'=>e=.returned (.int .i64 (idxL (isG Q.rs[k]) Q.ms))/\Below wr.heap.size wr w'):=by
      have h0:QR wr.drew qb V Q:=hI.qr.tch (Tch.refl [] wr).drew (by simp);refine(head_gen Q.rs[k] qb V.m Q.ms wr.drew (cell_qC h0.blk 7 _ rfl) h0.m (by omega)).mono ?_;rintro e w' ⟨rfl,hb'⟩;exact⟨rfl,(below_drewN (Below.refl _ wr) 1).trans hb'⟩
     have cq:wr.cell? ⟨w.heap.size,0,none⟩=some (.pointer (some ⟨qb,0,none⟩)):=cell_of_one hI.hgq;have ch:wr.cell? ⟨w3.heap.size+1+1+1,0,none⟩=some (.slice (some ⟨w3.heap.size+1+1,0,none⟩) cnt cnt):=cell_of_one hI.hgh;have hsz:(hdsL Q k).length=k:=by simp[hdsL];omega
     have hf0:wr.frozen? ⟨w3.heap.size+1+1,k,none⟩=false:=frozen_of_row _ _ _ _ 3 hI.hhb;obtain⟨ov,hov⟩:∃ov,wr.cell? ⟨w3.heap.size+1+1,k,none⟩=some ov:=by
      have h1:=cell_of_row wr (w3.heap.size+1+1) k _ 3 (0,0) hI.hhb;have h2:k<(intRow (hdsL Q k) cnt).size:=by rw[intRow_size _ _ (by omega)];exact hlt
      exact⟨_,h1.trans (Array.getElem?_eq_getElem h2)⟩
     have lb1:=lt_of_block hI.hgq;have lb2:=lt_of_block hI.hgh;have lb3:=lt_of_block hI.hhb;have hset:Hid ((intRow (hdsL Q k) cnt).setIfInBounds k (.int .i64 (idxL (isG Q.rs[k]) Q.ms))=intRow (hdsL Q (k+1)) cnt):=by
      show _=_
      have h1:=intRow_set (hdsL Q k) cnt (idxL (isG Q.rs[k]) Q.ms) (by omega);rw[hsz]at h1;rw[h1];have e1:hdsL Q (k+1)=hdsL Q k++[idxL (isG Q.rs[k]) Q.ms]:=by
       rw[hdsL,hdsL,List.take_succ_eq_append_getElem hkl,List.map_append];rfl
      rw[e1]
     have hne2:w3.heap.size+1+1≠w.heap.size:=by have:=HZ4.out;omega
     clear hI;go_wp2_with fail
     go_cut [] (fun wx=>RcI w wx qb V Q CC cnt w1.heap.size w3.heap.size w2.heap.size (now+Q.c.vis) (k+1) k av)
     case first=>
      go_region_held3 (fun w'=>w'.cell? ⟨w.heap.size,0,none⟩=some (.pointer (some ⟨qb,0,none⟩))/\w'.cell? ⟨w3.heap.size+1+1+1,0,none⟩=some (.slice (some ⟨w3.heap.size+1+1,0,none⟩) cnt cnt)/\w'.frozen? ⟨w3.heap.size+1+1,k,none⟩=false) (go_keep) (first|(go_at_call 163;refine HH.out.mono ?_;rintro e w5 ⟨rfl,hb5⟩;have m0:=(hb5.cell (p:=⟨w.heap.size,0,none⟩) lb1).trans cq;have m1:=(hb5.cell (p:=⟨w3.heap.size+1+1+1,0,none⟩) lb2).trans ch;have m2:w5.frozen? ⟨w3.heap.size+1+1,k,none⟩=false:=frozen_of_row _ _ _ _ 3 ((hb5.block _ lb3).trans HIR.out.hhb);have m3:=(hb5.cell (p:=⟨w3.heap.size+1+1,k,none⟩) lb3).trans hov))
      all_goals (go_wp2_with fail;go_meet)
      all_goals exact(HIR.out.tch0 (Tch.of_below hb5)).heads (by have:=HZ4.out;omega) HQ0.out k _ hset.out
     case rest=>
      have HJ:=zH hcut;have hzl:=idxL_lt (isG Q.rs[k]) Q.ms;have hz0:=HRD.out;obtain⟨i,hi⟩:∃i:Nat,idxL (isG Q.rs[k]) Q.ms=(i:Int):=⟨_,(Int.toNat_of_nonneg hz0).symm⟩;have hil:i<Q.ms.length:=by omega
      obtain⟨m,hm⟩:∃m,Q.ms[i]?=some m:=⟨_,List.getElem?_eq_getElem hil⟩;have hmk:=hms m (List.mem_of_getElem? hm);obtain⟨num,hnum⟩:∃n:Nat,m.num=(n:Int):=⟨_,(Int.toNat_of_nonneg hmk.num.1).symm⟩;obtain⟨rcv,hrcv⟩:∃n:Nat,m.rcv=(n:Int):=⟨_,(Int.toNat_of_nonneg hmk.rcv.1).symm⟩;have hgm:givM Q Q.rs[k]=givB Q.c.q num rcv m.grp m.bod:=by
       unfold givM;rw[hi,Int.toNat_natCast,hm];simp[hnum,hrcv]
      have hans:Hid (ansL Q cnt (k+1)=ansL Q cnt k++givB Q.c.q num rcv m.grp m.bod):=by
       show _=_
       rw[ansL,ansL,List.take_succ_eq_append_getElem hkl,List.flatMap_append,<-hgm];simp
      obtain⟨gm,cm,hvm⟩:∃g c,V.m=.slice (some ⟨g,0,none⟩) Q.ms.length c:=by
       rcases hcut.qr.m.2 with ⟨h0,h1⟩|⟨g,cap,cur,h0,_⟩
       ·omega
       ·exact⟨g,cap,h0⟩
      have fm:∀j v,m.row[j]?=some v->wc.cell? ⟨gm,i*5+j,none⟩=some v:=fun j v hj=>by
       have h0:=hcut.qr.m;rw[hvm]at h0;have inh:Inhabited Ms:=⟨⟨0,⟨#[]⟩,⟨#[]⟩,0,0⟩⟩;have h1:=own_cells Ms.row 5 (fun _=>rfl) h0 i hil j v (by
        rw[List.getElem!_eq_getElem?_getD,hm];exact hj)
       simpa using h1
      have g0:wc.cell? ⟨gm,i*5,none⟩=some (.int .i64 (num:Int)):=by have:=fm 0 _ rfl;rw[hnum]at this;exact this
      have g1:wc.cell? ⟨gm,i*5+1,none⟩=some (.string m.grp):=fm 1 _ rfl;have g2:wc.cell? ⟨gm,i*5+2,none⟩=some (.string m.bod):=fm 2 _ rfl;have g3':wc.cell? ⟨gm,i*5+3,none⟩=some (.int .i64 (rcv:Int)):=by have:=fm 3 _ rfl;rw[hrcv]at this;exact this
      have g4:wc.cell? ⟨gm,i*5+4,none⟩=some (.int .i64 m.til):=fm 4 _ rfl;have f0:wc.cell? ⟨w.heap.size,0,none⟩=some (.pointer (some ⟨qb,0,none⟩)):=cell_of_one hcut.hgq;have f7:wc.cell? ⟨qb,7,none⟩=some (.slice (some ⟨gm,0,none⟩) Q.ms.length cm):=by rw[<-hvm];exact cell_qC hcut.qr.blk 7 _ rfl
      have fh:wc.cell? ⟨w3.heap.size+1+1+1,0,none⟩=some (.slice (some ⟨w3.heap.size+1+1,0,none⟩) cnt cnt):=cell_of_one hcut.hgh;have fk:wc.cell? ⟨w3.heap.size+1+1,k,none⟩=some (.int .i64 (i:Int)):=by
       refine cell_qC hcut.hhb k _ ?_;have hs1:(hdsL Q (k+1)).length=k+1:=by simp[hdsL];omega
       rw[intRow_get _ _ k (by omega)];simp[hdsL,hi]
      have fa:wc.cell? ⟨w3.heap.size,0,none⟩=some av:=cell_of_one hcut.hga;have hal:=ansL_len Q cnt k hms;have HG:Hid (Calls Tryz.prog 164 #[.pointer (some ⟨qb,0,none⟩),av,.agg #[.int .i64 (num:Int),.string m.grp,.string m.bod,.int .i64 (rcv:Int),.int .i64 m.til]] wc.drew fun e w'=>∃g7 n7 c7,e=.returned (.slice (some ⟨g7,0,none⟩) n7 c7)/\OwnB w' w2.heap.size (.slice (some ⟨g7,0,none⟩) n7 c7) (ansL Q cnt (k+1))/\Below w2.heap.size wc w'/\Fr 0 [5] wc w'):=by
       rw[hans.out];refine(appendGiven_any w2.heap.size av (ansL Q cnt k) Q.c.q num rcv qb m.til m.grp m.bod _ wc.drew hcut.qr.blk rfl (by have:=hmk.num;omega) (by have:=hmk.rcv;omega) hmk.grp hmk.bod (by omega) (by have h1:=HZ4.out;have h2:=lt_of_block hcut.hgh;show w2.heap.size<=wc.heap.size;omega) hcut.own).mono ?_;rintro e w' ⟨v',rfl,h1,h2,h3⟩;obtain⟨g7,c7,e7⟩:=OwnB.slc h1 (by rw[List.length_append,givB_len];omega);subst e7;exact⟨g7,_,c7,rfl,h1,(below_drewN (Below.refl _ wc) 1).trans h2,(Fr.of_nil [5] (Tch.refl [] wc).drew (Nat.zero_le _)).trans h3⟩
      have y1:w.heap.size≠w3.heap.size:=by have:=HZ4.out;omega
      have y2:qb≠w3.heap.size:=by have h1:=HQ0.out qb (by simp[qbl]);have:=HZ4.out;omega
      have y3:gm≠w3.heap.size:=by have h1:=HQ0.out gm (mem_qbl.2 (.inr (.inl (by rw[hvm];rfl))));have:=HZ4.out;omega
      clear hcut fm hms hrd HH ch cq hov hf0 hi;go_wp2_with fail;refine wp_region_noPanic ?_;refine wp_region_held_drew (S:=(fun w'=>w'.cell? ⟨w.heap.size,0,none⟩=some (.pointer (some ⟨qb,0,none⟩))/\w'.cell? ⟨qb,7,none⟩=some (.slice (some ⟨gm,0,none⟩) Q.ms.length cm)/\w'.cell? ⟨w3.heap.size+1+1+1,0,none⟩=some (.slice (some ⟨w3.heap.size+1+1,0,none⟩) cnt cnt)/\w'.cell? ⟨w3.heap.size+1+1,k,none⟩=some (.int .i64 (i:Int))/\w'.cell? ⟨gm,i*5,none⟩=some (.int .i64 (num:Int))/\w'.cell? ⟨gm,i*5+1,none⟩=some (.string m.grp)/\w'.cell? ⟨gm,i*5+2,none⟩=some (.string m.bod)/\w'.cell? ⟨gm,i*5+3,none⟩=some (.int .i64 (rcv:Int))/\w'.cell? ⟨gm,i*5+4,none⟩=some (.int .i64 m.til))) (by kernel_rfl) (by go_keep) (fun hHeld=>?_);refine zK 0 (h:=?_);refine zK 2 (h:=?_);refine zK 3 (h:=?_);refine zK 4 (h:=?_);refine zK 5 (h:=?_);refine zK 6 (h:=?_);refine zK 7 (h:=?_);refine zK 8 (h:=?_);refine zK 9 (h:=?_);refine zK 10 (h:=?_);refine zK 11 (h:=?_)
      try simp only[Act.put,List.setIfInBounds_toArray,List.set_cons_zero,List.set_cons_succ]
      refine wpAnyH_ready (rs:=[1]) (by kernel_rfl) (by simp) ?_;refine AllReadyH.cons rfl (fun K' hK'=>?_) AllReadyH.nil;go_simp;refine hK'.out _ _ (by go_keep) (fun hHeld=>?_);clear hK' K'
      try simp only[Act.put,List.setIfInBounds_toArray,List.set_cons_zero,List.set_cons_succ]
      refine wpAnyH_ready (rs:=[12]) (by kernel_rfl) (by simp) ?_;refine AllReadyH.cons rfl (fun K' hK'=>?_) AllReadyH.nil;go_simp;refine HG.out.mono ?_;rintro e w7 ⟨g7,n7,c7,rfl,ho7,hb7,hf7⟩;have HR7:=zH (HJ.out.told (by have:=HZ4.out;omega) HQ0.out (by have:=HZ4.out;omega) hb7 hf7 ho7);have ff7:w7.frozen? ⟨w3.heap.size,0,none⟩=false:=frozen_of_row _ _ _ _ 54 (hf7.keep _ _ _ HJ.out.hga (by decide));have fa7:w7.cell? ⟨w3.heap.size,0,none⟩=some av:=cell_of_one (hf7.keep _ _ _ HJ.out.hga (by decide));have qr7:=HJ.out.qr.keep hf7 (by decide);have s0:w7.cell? ⟨w.heap.size,0,none⟩=some (.pointer (some ⟨qb,0,none⟩)):=cell_of_one (hf7.keep _ _ _ HJ.out.hgq (by decide));have s1:w7.cell? ⟨qb,7,none⟩=some (.slice (some ⟨gm,0,none⟩) Q.ms.length cm):=by rw[<-hvm];exact cell_qC qr7.blk 7 _ rfl
      have s2:w7.cell? ⟨w3.heap.size+1+1+1,0,none⟩=some (.slice (some ⟨w3.heap.size+1+1,0,none⟩) cnt cnt):=cell_of_one (hf7.keep _ _ _ HJ.out.hgh (by decide));have s3:w7.cell? ⟨w3.heap.size+1+1,k,none⟩=some (.int .i64 (i:Int)):=(World.cell?_of_block (a:=⟨w3.heap.size+1+1,k,none⟩) ((hf7.keep _ _ _ HJ.out.hhb (by decide)).trans HJ.out.hhb.symm)).trans fk;have smb:∀j,w7.cell? ⟨gm,j,none⟩=wc.cell? ⟨gm,j,none⟩:=fun j=>World.cell?_of_block (a:=⟨gm,j,none⟩) (by
       have h0:=HJ.out.qr.m;rw[hvm]at h0;rcases h0.2 with ⟨e',_⟩|⟨g',cap',cur,e',_,hr',_⟩
       ·simp at e'
       ·simp at e';have e1:=e'.1;subst e1;exact(hf7.keep _ _ _ hr' (by decide)).trans hr'.symm)
      have s4:=(smb (i*5)).trans g0;have s5:=(smb (i*5+1)).trans g1;have s6:=(smb (i*5+2)).trans g2;have s7:=(smb (i*5+3)).trans g3';have s8:=(smb (i*5+4)).trans g4;clear smb qr7 ho7 hb7 hf7;go_wp2_with fail;refine hK'.out _ _ (by go_keep) (fun hHeld=>?_);clear hK' K'
      try simp only[Act.put,List.setIfInBounds_toArray,List.set_cons_zero,List.set_cons_succ]
      refine wpAnyH_ready (rs:=[13]) (by kernel_rfl) (by simp) ?_;refine AllReadyH.cons rfl (fun K' hK'=>?_) AllReadyH.nil;go_simp;have co:∀b o,b≠w3.heap.size->(w7.setCell ⟨w3.heap.size,0,none⟩ (.slice (some ⟨g7,0,none⟩) n7 c7)).cell? ⟨b,o,none⟩=w7.cell? ⟨b,o,none⟩:=fun b o hne=>World.cell?_of_block (a:=⟨b,o,none⟩) (heap_setCell_other _ _ _ _ (show b≠w3.heap.size from hne))
      refine hK'.out _ _ ⟨(co _ _ y1).trans s0,(co _ _ y2).trans s1,(co _ _ (by omega)).trans s2,(co _ _ (by omega)).trans s3,(co _ _ y3).trans s4,(co _ _ y3).trans s5,(co _ _ y3).trans s6,(co _ _ y3).trans s7,(co _ _ y3).trans s8⟩ (fun hHeld=>?_);clear hK' K'
      try simp only[Act.put,List.setIfInBounds_toArray,List.set_cons_zero,List.set_cons_succ]
      refine wpAnyH_done (by kernel_rfl) ?_ _;refine NoPanic.normal ?_;clear co s0 s1 s2 s3 s4 s5 s6 s7 s8 g0 g1 g2 g3' g4 f0 f7 fh fk fa;go_wp2_with fail;go_roundw
      case rel=>exact⟨k+1,_,by omega,by go_num,HR7.out⟩
      case measure=>simp[intOf];omega
    ·have hke:k=cnt:=by omega
     subst hke;have cA:wr.cell? ⟨w3.heap.size,0,none⟩=some av:=cell_of_one hI.hga;clear hI;go_wp2_with fail;go_ret3;have h4:=HZ4.out;exact⟨w1.heap.size,w3.heap.size,w2.heap.size,av,.inr ⟨by omega,rfl,HIR.out,by omega,by omega,by omega⟩⟩
end Go.Proofs.YtbdobaapadlcjabGreatDoor
