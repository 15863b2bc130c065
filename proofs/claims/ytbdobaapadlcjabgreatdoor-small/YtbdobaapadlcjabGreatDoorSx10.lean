import Derived.Test.YtbdobaapadlcjabGreatDoorSx09
set_option maxRecDepth 8000
set_option maxHeartbeats 2000000
set_option linter.unusedVariables false
set_option linter.unusedSimpArgs false
namespace Go.Proofs.YtbdobaapadlcjabGreatDoor
open Go.RowKit
variable {w w1:World}{base:Nat}{v:Value}{l:List UInt8}
def oft (n:Nat):Nat:=if n+1<=65535 then n+1 else 65535
theorem oft_le (n:Nat):oft n<=65535:=by unfold oft;split<;>omega
theorem ret_i64 {a b:Int}(h:a=b):Ending.returned (.int .i64 a)=.returned (.int .i64 b):=by rw[h]
theorem oftener_any (n:Nat)(w:World)(hn:n<=65535):zE 166 #[.int .i64 (n:Int)] w (.int .i64 (oft n:Nat)):=by
 by_cases h:n+1<=65535
 ·have ho:Hid (oft n=n+1):=by show _=_;unfold oft;rw[if_pos h]
  go_enter Tryz.func166,Tryz.ntmps166
  go_wp2
  go_ret;exact⟨ret_i64 (by rw[ho.out];omega),rfl⟩
 ·have ho:Hid (oft n=65535):=by show _=_;unfold oft;rw[if_neg h]
  go_enter Tryz.func166,Tryz.ntmps166
  go_wp2
  go_ret;exact⟨ret_i64 (by rw[ho.out];omega),rfl⟩
theorem Fr.grown5' {B:Nat}{a:World}(h:Fr B [5] a w){base:Nat}{v:Value}{l:List UInt8}(ho:OwnB w base v l)(hg:w.grownBy w1 v.ownBlock)(hB:∀k,v.ownBlock=some k->B<=k:=by intro k _;exact Nat.zero_le _)(hB2:B<=w.heap.size:=by exact Nat.zero_le _):Fr B [5] a w1:=
 ⟨hg.os.trans h.os,hg.tape.trans h.tape,hg.output.trans h.output,Nat.le_trans h.size hg.size,fun k hk=>(hg.block k (by omega) (fun e=>by have:=hB k e.symm;omega)).trans (h.low k hk),fun k C t hk ht=>by
  have h1:=h.keep k C t hk ht;exact(hg.block k (lt_of_block h1) (fun e=>own_ne ho h1 (fun e5=>ht (by rw[<-e5];simp)) e.symm)).trans h1⟩
theorem Fr.grown5 {a:World}(h:Fr 0 [5] a w){base:Nat}{v:Value}{l:List UInt8}(ho:OwnB w base v l){o:Obj}(hg:(w.alloc o).grownBy w1 v.ownBlock):Fr 0 [5] a w1:=
 (h.trans (Fr.of_nil [5] ((Tch.refl [] w).alloc o) (Nat.zero_le _))).grown5' (World.ownsRow.alloc ho o) hg
theorem appendNumber_f (base:Nat)(v:Value)(l:List UInt8)(n size:Nat)(w:World)(hn:n<4294967296)(hs:size<=8)(hl:l.length<=1099511627776)(hb:base<=w.heap.size)(hown:OwnB w base v l):
  Calls Tryz.prog 46 #[v,.int .i64 (n:Int),.int .i64 (size:Int)] w fun e w'=>∃v',e=.returned v'/\OwnB w' base v' (l++lowB n size)/\Below base w w'/\Fr 0 [5] w w':=by
 obtain⟨i0,hi,hz0,hz1,hz2⟩:=info_parts info5;go_enter Tryz.func46,Tryz.ntmps46
 go_wp2
 go_loopw [0,1,8] (fun o m i wr=>∃k:Nat,k<=size/\i=.int .i64 k/\m=.int .i64 ((n / 256^k:Nat):Int)/\OwnB wr base o (l++lowB n k)/\Below base w wr/\Fr 0 [5] w wr) (fun _ _ i _=>size-(intOf i).toNat)
 case atStart=>exact⟨0,Nat.zero_le _,rfl,by simp,by simpa [lowB]using hown,Below.refl _ _,Fr.refl _ _ _⟩
 case round=>
  obtain⟨k,hk,rfl,rfl,ho,hbr,hfr⟩:=hrel
  by_cases hlt:k<size
  ·have hle:(l++lowB n k).length<=1099511627800:=by rw[List.length_append,lowB_length];omega
   have hm:n / 256^k<4294967296:=Nat.lt_of_le_of_lt (Nat.div_le_self _ _) hn;have hdiv:Hid (n / 256^(k+1)=n / 256^k / 256):=by
    show _=_
    rw[Nat.pow_succ,Nat.div_div_eq_div_mul]
   have hsn:=byte_cell (n / 256^k);have HSN:=zH hsn;have hls:Hid (l++lowB n (k+1)=(l++lowB n k)++[UInt8.ofNat (n / 256^k % 256)]):=by
    show _=_
    rw[lowB_succ,List.append_assoc]
   have HBR:=zH hbr;have hsz:=hbr.size;have HFR:=zH hfr;clear hsn hbr hown hfr;generalize n / 256^k=m at hm hdiv HSN hls;generalize l++lowB n k=L at ho hle hls;have HO:=zH ho;clear ho;go_wp2_with (at_builtin;refine wpList_append_own _ rfl _ _ 54 rfl base 5 i0 (.int .u8 0) 1 1 Tryz.underlying54 hi hz0 hz1 hz2 rfl (by decide) _ _ _ rfl (World.ownsRow.alloc HO.out _) ⟨wr.heap.size,0,none⟩ 1 1 [.int .u8 ((m:Int) % 256)] rfl rfl ?c1 ?c2 ?c3 ?c4 ?c5 ?_)
   case c1=>exact cell_one_new _ _ _
   case c2=>intro u hu;simp at hu;subst hu;rfl
   case c3=>unfold maxLen;omega
   case c4=>omega
   case c5=>simp;omega
   intro v' w1 hown' hgrow _;have hr1:OwnB w1 base v' (l++lowB n (k+1)):=by rw[hls.out];exact OwnB.snoc HSN.out hown'
   have hr2:Below base w w1:=by
    refine Below.grown ((HBR.out).alloc (by omega) _) hgrow (by simp;omega) ?_;intro k hk;exact(World.ownsRow.lt HO.out k hk).1
   have hr3:=HFR.out.grown5 HO.out hgrow;clear hown' hgrow
   go_wp2
   go_roundw
   case rel=>exact⟨k+1,by omega,by go_num,by rw[hdiv.out];go_num,hr1,hr2,hr3⟩
   case measure=>simp[intOf];omega
  ·have he:k=size:=by omega
   subst he
   go_wp2
   go_ret;exact⟨_,rfl,ho,hbr,hfr⟩
theorem appendText_f (base:Nat)(v:Value)(l:List UInt8)(s:ByteArray)(w:World)(hs:s.size<=65535)(hl:l.length<=1099511627776)(hb:base<=w.heap.size)(hown:OwnB w base v l):
  Calls Tryz.prog 90 #[v,.string s] w fun e w'=>∃v',e=.returned v'/\OwnB w' base v' (l++txtB s)/\Below base w w'/\Fr 0 [5] w w':=by
 obtain⟨i0,hi,hz0,hz1,hz2⟩:=info_parts info5;have hnum:Hid (Calls Tryz.prog 46 #[v,.int .i64 (s.size:Int),.int .i64 1] w fun e w'=>∃v',e=.returned v'/\OwnB w' base v' (l++lowB s.size 1)/\Below base w w'/\Fr 0 [5] w w'):=
  appendNumber_f base v l s.size 1 w (by omega) (by decide) hl hb hown
 go_enter Tryz.func90,Tryz.ntmps90;go_wp2_with fail;refine(hnum.out).mono ?_;rintro e w1 ⟨v1,rfl,ho1,hb1,hf1⟩;have hle:(l++lowB s.size 1).length<=1099511627800:=by rw[List.length_append,lowB_length];omega
 have hls:Hid (l++txtB s=(l++lowB s.size 1)++s.data.toList):=by
  show _=_
  rw[txtB,List.append_assoc]
 generalize l++lowB s.size 1=L at ho1 hle hls;have hsz:=hb1.size;have HO:=zH ho1;have HB:=zH hb1;have HF1:=zH hf1;clear ho1 hb1 hown hf1;go_wp2_with (at_builtin;refine Lib.wpList_append_own_string _ rfl _ _ 54 9 rfl base 5 i0 Tryz.underlying54 Tryz.underlying9 hi hz0 hz1 hz2 _ _ _ rfl HO.out s rfl ?c1 ?c2 ?c3 ?_)
 case c1=>unfold maxLen;omega
 case c2=>omega
 case c3=>omega
 intro v' w2 hown' hgrow _;have hr1:OwnB w2 base v' (l++txtB s):=by
  rw[hls.out];unfold OwnB;have e1:bytesV (L++s.data.toList)=bytesV L++Lib.strCells s:=by rw[<-bytesV_str];simp[bytesV]
  have e2:(L++s.data.toList).length=L.length+s.size:=by rw[List.length_append];rfl
  rw[e1,e2];exact hown'
 have hr2:Below base w w2:=by
  refine Below.grown HB.out hgrow (by omega) ?_;intro k hk;exact(World.ownsRow.lt HO.out k hk).1
 have hr3:=HF1.out.grown5' HO.out hgrow;clear hown' hgrow
 go_wp2
 go_ret;exact⟨_,rfl,hr1,hr2,hr3⟩
def hanB (q:UInt8)(num rcv:Nat):List UInt8:=[72,q]++(lowB num 4++lowB rcv 2)
theorem two_new (w:World)(a b:Value):∀j u,[a,b][j]?=some u->(w.alloc (.cells #[a,b] 5)).cell? ((⟨w.heap.size,0,none⟩:Addr).add j)=some u:=fun j u hj=>by
 have e2:(⟨w.heap.size,0,none⟩:Addr).add j=⟨w.heap.size,j,none⟩:=by unfold Addr.add;split<;>simp_all
 rw[e2,cell_of_row _ w.heap.size j #[a,b] 5 (0,0) (heap_alloc_new _ _)];simpa using hj
theorem appendHandle_any (base:Nat)(v:Value)(l:List UInt8)(q:UInt8)(num rcv:Nat)(w:World)(hn:num<4294967296)(hr:rcv<4294967296)(hl:l.length<=1048576)(hb:base<=w.heap.size)(hown:OwnB w base v l):
  Calls Tryz.prog 195 #[v,.agg #[.int .u8 (q.toNat:Int),.int .i64 (num:Int),.int .i64 (rcv:Int)]] w fun e w'=>∃v',e=.returned v'/\OwnB w' base v' (l++hanB q num rcv)/\Below base w w'/\Fr 0 [5] w w':=by
 obtain⟨i0,hi,hz0,hz1,hz2⟩:=info_parts info5;have HO:=zH hown;clear hown;go_enter Tryz.func195,Tryz.ntmps195;go_wp2_with (at_builtin;refine wpList_append_own _ rfl _ _ 54 rfl base 5 i0 (.int .u8 0) 1 1 Tryz.underlying54 hi hz0 hz1 hz2 rfl (by decide) v l.length (bytesV l) ?c0 (World.ownsRow.alloc (World.ownsRow.alloc HO.out _) _) ⟨w.heap.size+1,0,none⟩ 2 2 [.int .u8 72,.int .u8 (q.toNat:Int)] ?cx rfl ?c1 ?c2 ?c3 ?c4 ?c5 ?_)
 case c0=>simp[Act.eval]
 case cx=>simp[Act.eval]
 case c1=>
  have h:=two_new (w.alloc (.cells #[.int .u8 (q.toNat:Int),.int .i64 (num:Int),.int .i64 (rcv:Int)] 139)) (.int .u8 72) (.int .u8 (q.toNat:Int));rw[World.size_alloc]at h;exact h
 case c2=>intro u hu;simp at hu;rcases hu with rfl|rfl<;>rfl
 case c3=>unfold maxLen;omega
 case c4=>omega
 case c5=>simp;omega
 intro v1 w1 hown1 hgrow _;have ho1:OwnB w1 base v1 (l++[72,q]):=by
  unfold OwnB;have e1:bytesV (l++[72,q])=bytesV l++[.int .u8 72,.int .u8 (q.toNat:Int)]:=by simp[bytesV]
  rw[e1,List.length_append];exact hown1
 have hb1:Below base w w1:=by
  refine Below.grown (((Below.refl _ _).alloc (by omega) _).alloc (by simp;omega) _) hgrow (by simp;omega) ?_;intro k hk;exact(World.ownsRow.lt HO.out k hk).1
 have hbx:w1.heap[w.heap.size]?=some (.cells #[.int .u8 (q.toNat:Int),.int .i64 (num:Int),.int .i64 (rcv:Int)] 139 (0,0)):=by
  have h1:=hgrow.block w.heap.size (by simp;omega) (fun e=>by have:=(World.ownsRow.lt HO.out w.heap.size e.symm).2;omega);rw[h1,Below.heap_alloc _ _ _ (by simp)];exact heap_alloc_new _ _
 have hz1':w.heap.size+2<=w1.heap.size:=by have:=hgrow.size;simpa using this
 have hf1:Fr 0 [5] w w1:=((Fr.refl 0 [5] w).trans (Fr.of_nil [5] (((Tch.refl [] w).alloc _).alloc _) (Nat.zero_le _))).grown5' (World.ownsRow.alloc (World.ownsRow.alloc HO.out _) _) hgrow;have HN1:Hid (Calls Tryz.prog 46 #[v1,.int .i64 (num:Int),.int .i64 4] w1 fun e w'=>∃v',e=.returned v'/\OwnB w' base v' ((l++[72,q])++lowB num 4)/\Below base w1 w'/\Fr 0 [5] w1 w'):=appendNumber_f base v1 _ num 4 w1 hn (by decide) (by rw[List.length_append];simp;omega) (by omega) ho1;have HX:=zH hbx;have HB1:Hid (Below base w w1/\Fr 0 [5] w w1):=⟨hb1,hf1⟩;have f1:w1.cell? ⟨w.heap.size,1,none⟩=some (.int .i64 (num:Int)):=cell_qC hbx 1 _ rfl;clear hown1 hgrow ho1 hb1 hbx hf1;go_wp2_with fail;refine HN1.out.mono ?_;rintro e w2 ⟨v2,rfl,ho2,hb2,hf2⟩;have hbx2:=hf2.keep _ _ _ HX.out (by decide);have f2:w2.cell? ⟨w.heap.size,2,none⟩=some (.int .i64 (rcv:Int)):=cell_qC hbx2 2 _ rfl;have hnl2:=lt_of_block hbx2;have HN2:Hid (Calls Tryz.prog 46 #[v2,.int .i64 (rcv:Int),.int .i64 2] w2 fun e w'=>∃v',e=.returned v'/\OwnB w' base v' (((l++[72,q])++lowB num 4)++lowB rcv 2)/\Below base w2 w'/\Fr 0 [5] w2 w'):=appendNumber_f base v2 _ rcv 2 w2 hr (by decide) (by simp[lowB_length];omega) (by omega) ho2;have HB2:Hid (Below base w w2/\Fr 0 [5] w w2):=⟨HB1.out.1.trans hb2,HB1.out.2.trans hf2⟩;clear ho2 hb2 hf2 hbx2 f1;go_wp2_with fail;refine HN2.out.mono ?_;rintro e w3 ⟨v3,rfl,ho3,hb3,hf3⟩;have H3:Hid (OwnB w3 base v3 (l++hanB q num rcv)/\Below base w w3/\Fr 0 [5] w w3):=by
  refine⟨?_,HB2.out.1.trans hb3,HB2.out.2.trans hf3⟩;have e:l++hanB q num rcv=((l++[72,q])++lowB num 4)++lowB rcv 2:=by simp[hanB]
  rw[e];exact ho3
 clear ho3 hb3 hf3;go_wp2_with fail;go_ret;exact⟨v3,rfl,H3.out.1,H3.out.2.1,H3.out.2.2⟩
def givB (q:UInt8)(num rcv:Nat)(g b:ByteArray):List UInt8:=hanB q num (oft rcv)++(txtB g++txtB b)
theorem appendGiven_any (base:Nat)(v:Value)(l:List UInt8)(q:UInt8)(num rcv qb:Nat)(til:Int)(g b:ByteArray)(C:Array Value)(w:World)(hqb:w.heap[qb]?=some (.cells C 137 (0,0)))(hC:C[0]?=some (.int .u8 (q.toNat:Int)))(hn:num<4294967296)(hr:rcv<=65535)(hg:g.size<=255)(hbd:b.size<=255)(hl:l.length<=65536)(hb:base<=w.heap.size)(hown:OwnB w base v l):
  Calls Tryz.prog 164 #[.pointer (some ⟨qb,0,none⟩),v,.agg #[.int .i64 (num:Int),.string g,.string b,.int .i64 (rcv:Int),.int .i64 til]] w fun e w'=>∃v',e=.returned v'/\OwnB w' base v' (l++givB q num rcv g b)/\Below base w w'/\Fr 0 [5] w w':=by
 have hoft:=oft_le rcv;obtain⟨wa,hwa⟩:∃wa,wa=w.alloc (.cells #[.int .i64 (num:Int),.string g,.string b,.int .i64 (rcv:Int),.int .i64 til] 191):=⟨_,rfl⟩;have HBX:Hid (wa.heap[w.heap.size]?=some (.cells #[.int .i64 (num:Int),.string g,.string b,.int .i64 (rcv:Int),.int .i64 til] 191 (0,0))):=by rw[hwa];exact heap_alloc_new _ _
 have HQB:Hid (wa.heap[qb]?=some (.cells C 137 (0,0))):=by rw[hwa];exact(Below.heap_alloc _ _ _ (lt_of_block hqb)).trans hqb
 have HT:Hid (Tch [] w wa):=by rw[hwa];exact(Tch.refl _ _).alloc _
 have HOA:Hid (OwnB wa base v l):=by rw[hwa];exact World.ownsRow.alloc hown _
 have za:=HT.out.size;have HOF:Hid (∀W,zE 166 #[.int .i64 (rcv:Int)] W (.int .i64 (oft rcv:Nat))):=fun W=>oftener_any rcv W hr
 have HAH:Hid (Calls Tryz.prog 195 #[v,.agg #[.int .u8 (q.toNat:Int),.int .i64 (num:Int),.int .i64 (oft rcv:Nat)]] wa.drew fun e w'=>∃v',e=.returned v'/\OwnB w' base v' (l++hanB q num (oft rcv))/\Below base wa.drew w'/\Fr 0 [5] wa.drew w'):=appendHandle_any base v l q num (oft rcv) wa.drew hn (by omega) (by omega) (by show base<=wa.heap.size;omega) HOA.out;have a0:wa.cell? ⟨qb,0,none⟩=some (.int .u8 (q.toNat:Int)):=cell_qC HQB.out 0 _ hC;have b0:wa.cell? ⟨w.heap.size,0,none⟩=some (.int .i64 (num:Int)):=cell_qC HBX.out 0 _ rfl;have b3:wa.cell? ⟨w.heap.size,3,none⟩=some (.int .i64 (rcv:Int)):=cell_qC HBX.out 3 _ rfl;have l2:=lt_of_block HBX.out;have HHL:Hid ((l++hanB q num (oft rcv)).length<=65600):=by show _<=_;simp[hanB,lowB_length];omega
 clear hown hqb;go_enter Tryz.func164,Tryz.ntmps164;go_wp2_with fail;rw[<-hwa];clear hwa
 go_region_held3 (fun w'=>w'.cell? ⟨qb,0,none⟩=some (.int .u8 (q.toNat:Int))/\w'.cell? ⟨w.heap.size,0,none⟩=some (.int .i64 (num:Int))/\w'.cell? ⟨w.heap.size,3,none⟩=some (.int .i64 (rcv:Int))) (go_keep) (first|(go_at_call 166;refine(HOF.out _).mono ?_;rintro e w' ⟨rfl,h'⟩;have h'':=h'.symm;subst h'')|(go_at_call 195;refine HAH.out.mono ?_;rintro e w2 ⟨v2,rfl,ho2,hb2,hf2⟩;have hbx2:=hf2.keep w.heap.size _ 191 HBX.out (by decide);have hqb2:=hf2.keep qb _ 137 HQB.out (by decide);have k0:w2.cell? ⟨qb,0,none⟩=some (.int .u8 (q.toNat:Int)):=cell_qC hqb2 0 _ hC;have k1:w2.cell? ⟨w.heap.size,0,none⟩=some (.int .i64 (num:Int)):=cell_qC hbx2 0 _ rfl;have k2:w2.cell? ⟨w.heap.size,3,none⟩=some (.int .i64 (rcv:Int)):=cell_qC hbx2 3 _ rfl))
 have HB2:=zH hbx2;have z2:base<=w2.heap.size:=by have:=hf2.size;have e:wa.drew.heap.size=wa.heap.size:=rfl;omega
 have HT1:Hid (Calls Tryz.prog 90 #[v2,.string g] w2 fun e w'=>∃v',e=.returned v'/\OwnB w' base v' ((l++hanB q num (oft rcv))++txtB g)/\Below base w2 w'/\Fr 0 [5] w2 w'):=appendText_f base v2 _ g w2 (by omega) (by have:=HHL.out;omega) z2 ho2;have HF2:Hid (Below base w w2/\Fr 0 [5] w w2):=⟨(HT.out.below (by simp) hb).trans ((below_drewN (Below.refl base wa) 1).trans hb2),((Fr.of_nil [5] HT.out (Nat.zero_le _)).trans (Fr.of_nil [5] (Tch.refl [] wa).drew (Nat.zero_le _))).trans hf2⟩;have c1:w2.cell? ⟨w.heap.size,1,none⟩=some (.string g):=cell_qC hbx2 1 _ rfl;clear ho2 hb2 hf2 hbx2 hqb2 a0 b0 b3 k0 k1 k2 l2;go_wp2_with fail;refine HT1.out.mono ?_;rintro e w3 ⟨v3,rfl,ho3,hb3,hf3⟩;have hbx3:=hf3.keep _ _ _ HB2.out (by decide);have c2:w3.cell? ⟨w.heap.size,2,none⟩=some (.string b):=cell_qC hbx3 2 _ rfl;have z3:=hf3.size;have HT2:Hid (Calls Tryz.prog 90 #[v3,.string b] w3 fun e w'=>∃v',e=.returned v'/\OwnB w' base v' (((l++hanB q num (oft rcv))++txtB g)++txtB b)/\Below base w3 w'/\Fr 0 [5] w3 w'):=appendText_f base v3 _ b w3 (by omega) (by have:=HHL.out;rw[List.length_append,txtB_length];omega) (by omega) ho3
 have HF3:Hid (Below base w w3/\Fr 0 [5] w w3):=⟨HF2.out.1.trans hb3,HF2.out.2.trans hf3⟩;clear ho3 hb3 hf3 hbx3 c1;go_wp2_with fail;refine HT2.out.mono ?_;rintro e w4 ⟨v4,rfl,ho4,hb4,hf4⟩;have H4:Hid (OwnB w4 base v4 (l++givB q num rcv g b)/\Below base w w4/\Fr 0 [5] w w4):=by
  refine⟨?_,HF3.out.1.trans hb4,HF3.out.2.trans hf4⟩;have e:l++givB q num rcv g b=((l++hanB q num (oft rcv))++txtB g)++txtB b:=by simp[givB]
  rw[e];exact ho4
 clear ho4 hb4 hf4;go_wp2_with fail;go_ret;exact⟨v4,rfl,H4.out.1,H4.out.2.1,H4.out.2.2⟩
end Go.Proofs.YtbdobaapadlcjabGreatDoor
