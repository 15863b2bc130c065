import Derived.Test.YtbdobaapadlcjaaGreatDoorBy24
import Derived.Test.YtbdobaapadlcjaaGreatDoorBy17
set_option maxRecDepth 8000
set_option maxHeartbeats 8000000
set_option linter.unusedVariables false
set_option linter.unusedSimpArgs false
namespace Go.Proofs.YtbdobaapadlcjaaGreatDoor.Ref
open Go.RowKit Go.Proofs.YtbdobaapadlcjaaGreatDoor
variable {w w' W:World}{S:List Nat}{s g:ByteArray}{i rcv n j k cnt' qb cnt:Nat}{Q Q':QM}{V' V:RV}{ts' ts:List Tn}{sl:Value}
def Rst (w:World)(rb:Nat)(now:Int)(P:Nat->Value):Prop:=w.heap[rb]?=some (.cells (stH now P) 120 (0,0))
theorem Rst.cell {rb:Nat}{now:Int}{P:Nat->Value}(h:Rst w rb now P)(i:Nat)(hi:i<8):w.cell? ⟨rb,1+i,none⟩=some (P i):=by
 rw[cell_of_row w rb (1+i) _ 120 (0,0) h];rcases lt8 hi with rfl|rfl|rfl|rfl|rfl|rfl|rfl|rfl<;>rfl
theorem Rst.now {rb:Nat}{now:Int}{P:Nat->Value}(h:Rst w rb now P):w.cell? ⟨rb,0,none⟩=some (.int .i64 now):=by
 rw[cell_of_row w rb 0 _ 120 (0,0) h];rfl
theorem Rst.lt {rb:Nat}{now:Int}{P:Nat->Value}(h:Rst w rb now P):rb<w.heap.size:=lt_of_block h
theorem Rst.tch {rb:Nat}{now:Int}{P:Nat->Value}(h:Rst w rb now P){S:List Nat}(ht:Tch S w w')(hS:rb∉S):Rst w' rb now P:=(ht.block _ h.lt hS).trans h
theorem Rst.set {rb:Nat}{now:Int}{P:Nat->Value}(h:Rst w rb now P)(i:Nat)(hi:i<8)(v:Value):Rst (w.setCell ⟨rb,1+i,none⟩ v) rb now (vE P i v):=by
 have h1:=heap_setCell_same w rb (1+i) _ 120 v h;rw[a8D now P i hi v]at h1;exact h1
theorem Rst.set0 {rb:Nat}{now:Int}{P:Nat->Value}(h:Rst w rb now P)(n:Int):Rst (w.setCell ⟨rb,0,none⟩ (.int .i64 n)) rb n P:=heap_setCell_same w rb 0 _ 120 (.int .i64 n) h
def qOf (P:Nat->Value)(c:UInt8):Value:=if 97<=c.toNat/\c.toNat<=104 then P (c.toNat-97) else .pointer none
theorem kL (rb:Nat)(now:Int)(P:Nat->Value)(c:UInt8)(w:World)(h:Rst w rb now P):
  zE 224 #[zp rb,.int .u8 (c.toNat:Int)] w (qOf P c):=by
 have HL:=zH (vK c w)
 by_cases hc:97<=c.toNat/\c.toNat<=104
 ·obtain⟨i,hi8,hci⟩:∃i:Nat,i<8/\c.toNat=97+i:=⟨c.toNat-97,by omega,by omega⟩;have HQ:Hid (qOf P c=P i):=by
   show _=_
   unfold qOf;rw[if_pos hc,hci,Nat.add_sub_cancel_left]
  have hcl:=h.cell i hi8;have hl:=h.lt;have HL2:Hid (zE 134 #[.int .u8 (c.toNat:Int)] w (.bool true)):=by
   have:=HL.out
   rwa [decide_eq_true hc.1,decide_eq_true hc.2]at this
  have hw0:IntKind.u8.wrap ((c.toNat:Int)-97)=(i:Int):=by
   have e:((c.toNat:Int)-97)=(i:Int):=by omega
   rw[e,IntKind.wrap_u8];omega
  clear h HL hc;generalize P i=v at*
  generalize (c.toNat:Int)=ci at*
  go_enter Tryz.func224,Tryz.ntmps224;go_wp2_with fail;refine HL2.out.mono ?_;rintro e w' ⟨rfl,h'⟩;subst h';go_wp2_with fail;go_ret;exact⟨by rw[HQ.out];rfl,rfl⟩
 ·have HQ:Hid (qOf P c=.pointer none):=by
   show _=_
   unfold qOf;rw[if_neg hc]
  have HL2:Hid (zE 134 #[.int .u8 (c.toNat:Int)] w (.bool false)):=by
   have h1:=HL.out;have h2:(decide (97<=c.toNat)&&decide (c.toNat<=104))=false:=by
    rw[<-Bool.decide_and];exact decide_eq_false hc
   rwa [h2]at h1
  clear h HL hc;generalize (c.toNat:Int)=ci at*
  go_enter Tryz.func224,Tryz.ntmps224;go_wp2_with fail;refine HL2.out.mono ?_;rintro e w' ⟨rfl,h'⟩;subst h';go_wp2_with fail;go_ret;exact⟨by rw[HQ.out];rfl,rfl⟩
theorem a6k (qb:Nat)(V:RV)(sl:Value)(Q:QM)(ts:List Tn)(cnt:Nat)(n:Nat)(w:World)(h:RR w qb V sl Q ts cnt)(hml:Q.ms.length<=1000)(hnx:Q.next<=1000)(hn:n<=1000):
  zT 275 #[zp qb,.int .i64 (n:Int)] w (.bool (decide ((Q.ms.length:Int)+n<=Q.c.quo)&&decide ((Q.next:Int)+n<=201))):=by
 obtain⟨sa,sc,hvm⟩:=jl h.m;have c16:w.cell? ⟨qb,16,none⟩=some (.slice sa Q.ms.length sc):=by rw[<-hvm];exact jb h.blk 16 _ rfl
 have c15:w.cell? ⟨qb,15,none⟩=some (.int .i64 (Q.next:Int)):=jb h.blk 15 _ rfl;have c6:w.cell? ⟨qb,6,none⟩=some (.int .i64 Q.c.quo):=jb h.blk 6 _ rfl;clear h hvm;generalize Q.c.quo=quo at*
 generalize Q.ms.length=ml at*
 generalize Q.next=nx at*
 have w1:IntKind.i64.wrap ((ml:Int)+(n:Int))=(ml:Int)+(n:Int):=by rw[IntKind.wrap_i64];omega
 have w2:IntKind.i64.wrap ((nx:Int)+(n:Int))=(nx:Int)+(n:Int):=by rw[IntKind.wrap_i64];omega
 by_cases h1:(ml:Int)+(n:Int)<=quo
 ·have d1:decide ((ml:Int)+(n:Int)<=quo)=true:=decide_eq_true h1
  by_cases h2:(nx:Int)+(n:Int)<=201
  ·have d2:decide ((nx:Int)+(n:Int)<=201)=true:=decide_eq_true h2;go_enter Tryz.func275,Tryz.ntmps275;go_wp2_with fail;go_quiet (fail);go_wp2_with fail;go_ret;exact⟨by rw[d1,d2];rfl,(Tch.refl [] _).drewN _⟩
  ·have d2:decide ((nx:Int)+(n:Int)<=201)=false:=decide_eq_false h2;go_enter Tryz.func275,Tryz.ntmps275;go_wp2_with fail;go_quiet (fail);go_wp2_with fail;go_ret;exact⟨by rw[d1,d2];rfl,(Tch.refl [] _).drewN _⟩
 ·have d1:decide ((ml:Int)+(n:Int)<=quo)=false:=decide_eq_false h1;go_enter Tryz.func275,Tryz.ntmps275;go_wp2_with fail;go_quiet (fail);go_wp2_with fail;go_ret;exact⟨by rw[d1];rfl,(Tch.refl [] _).drewN _⟩
theorem a2O (q:UInt8)(m:Ms)(num rcv:Nat)(hn:m.num=(num:Int))(hr:m.rcv=(rcv:Int))(hnl:num<4294967296)(hrl:rcv<4294967296)(w:World):
  zT 227 #[.int .u8 (q.toNat:Int),.agg m.row.toArray] w (.string ⟨(qG q num rcv).toArray⟩):=by
 obtain⟨m0,m1,m2,m3,m4⟩:=m;simp only at hn hr;subst hn hr;have e:(Ms.row ⟨(num:Int),m1,m2,(rcv:Int),m4⟩).toArray=#[.int .i64 (num:Int),.string m1,.string m2,.int .i64 (rcv:Int),.int .i64 m4]:=rfl;rw[e];clear e;have HA:Hid (∀W,zB 138 #[.int .i64 (num:Int),.int .i64 4] W (.string ⟨(je num 4).toArray⟩)):=fun W=>qe num 4 W hnl (by decide) (by decide)
 have HB:Hid (∀W,zB 138 #[.int .i64 (rcv:Int),.int .i64 2] W (.string ⟨(je rcv 2).toArray⟩)):=fun W=>qe rcv 2 W hrl (by decide) (by decide)
 have HV:Hid ((⟨#[72]⟩:ByteArray)++⟨#[q]⟩++⟨(je num 4).toArray⟩++⟨(je rcv 2).toArray⟩=⟨(qG q num rcv).toArray⟩):=by
  show _=_
  have e1:(⟨#[72]⟩:ByteArray)++⟨#[q]⟩=⟨([72,q]:List UInt8).toArray⟩:=a0n [72] [q];rw[e1,a0n,a0n];unfold qG;rw[List.append_assoc]
 have hza:(⟨(je num 4).toArray⟩:ByteArray).size=4:=by show (je num 4).toArray.size=4;simp[jc]
 have hzb:(⟨(je rcv 2).toArray⟩:ByteArray).size=2:=by show (je rcv 2).toArray.size=2;simp[jc]
 have hs:=a4T q;have HN1:Hid (∀W:World,(W.alloc (.cells #[.int .u8 (q.toNat:Int)] 5)).cell? ⟨W.heap.size,0,none⟩=some (.int .u8 (q.toNat:Int))):=fun W=>cell_of_one (heap_alloc_new _ _)
 generalize (⟨(je num 4).toArray⟩:ByteArray)=LA at*
 generalize (⟨(je rcv 2).toArray⟩:ByteArray)=LB at*
 have HBX:Hid (Tch [] w (w.alloc (.cells #[.int .i64 (num:Int),.string m1,.string m2,.int .i64 (rcv:Int),.int .i64 m4] 271))):=(Tch.refl _ _).alloc _;have hbl:(w.alloc (.cells #[.int .i64 (num:Int),.string m1,.string m2,.int .i64 (rcv:Int),.int .i64 m4] 271)).heap[w.heap.size]?=some (.cells #[.int .i64 (num:Int),.string m1,.string m2,.int .i64 (rcv:Int),.int .i64 m4] 271 (0,0)):=heap_alloc_new _ _;have c0:=cell_of_row _ w.heap.size 0 _ 271 (0,0) hbl;have HBL:Hid _:=hbl;have lb:w.heap.size<(w.alloc (.cells #[.int .i64 (num:Int),.string m1,.string m2,.int .i64 (rcv:Int),.int .i64 m4] 271)).heap.size:=by simp
 clear hbl;generalize hwx:(w.alloc (.cells #[.int .i64 (num:Int),.string m1,.string m2,.int .i64 (rcv:Int),.int .i64 m4] 271))=wx at*
 have hc0:wx.cell? ⟨w.heap.size,0,none⟩=some (.int .i64 (num:Int)):=c0;clear c0;generalize hqn:(q.toNat:Int)=qn at*
 go_enter Tryz.func227,Tryz.ntmps227;go_wp2_with fail;refine(HA.out wx).mono ?_;rintro e w1 ⟨rfl,hb1⟩;have HT1:Hid (Tch [] wx w1):=Tch.of_below hb1;have hc3:w1.cell? ⟨w.heap.size,3,none⟩=some (.int .i64 (rcv:Int)):=(HT1.out.cell (a:=⟨w.heap.size,3,none⟩) lb (by simp)).trans ((cell_of_row _ w.heap.size 3 _ 271 (0,0) HBL.out).trans rfl);clear hc0 hb1 HA;go_wp2_with fail;refine(HB.out w1).mono ?_;rintro e w2 ⟨rfl,hb2⟩;have HT2:Hid (Tch [] w w2):=(HBX.out.trans HT1.out (fun x h _=>h)).trans (Tch.of_below hb2) (fun x h _=>h);have hn1:=HN1.out w2;clear hc3 hb2 HB lb HN1 HT1 HBX;go_wp2_with fail;go_ret;exact⟨qQ HV.out,HT2.out.alloc _⟩
theorem b1k (rb:Nat)(s:ByteArray)(w:World)(hs:a2N s=none):
  zE 228 #[zp rb,.string s] w (.tuple #[.pointer none,.int .i64 0,.int .i64 7]):=by
 by_cases h8:s.size=8
 ·have hz:(s.size:Int)=8:=by omega
  have i0:0<s.size:=by omega
  have i1:1<s.size:=by omega
  by_cases h0:s[0]=72
  ·have HL:Hid (zE 134 #[.int .u8 (s[1].toNat:Int)] w (.bool false)):=by
    have h1:=vK s[1] w;have h2:(decide (97<=s[1].toNat)&&decide (s[1].toNat<=104))=false:=by
     cases hx:(decide (97<=s[1].toNat)&&decide (s[1].toNat<=104)) with
     | false=>rfl
     | true=>
      exfalso;unfold a2N at hs;rw[dif_pos h8,if_pos ⟨h0,by unfold zj;exact hx⟩]at hs;exact absurd hs (by simp)
    rw[h2]at h1;exact h1
   have h0':s[0].toNat=72:=by rw[h0];rfl
   clear hs h0;go_enter Tryz.func228,Tryz.ntmps228;go_wp2_with fail;refine HL.out.mono ?_;rintro e w' ⟨rfl,h'⟩;subst h';go_wp2_with fail;go_ret3;exact⟨rfl,rfl⟩
  ·have h0':s[0].toNat≠72:=fun e=>h0 (UInt8.toNat_inj.1 e)
   clear hs h0;go_enter Tryz.func228,Tryz.ntmps228;go_wp2_with fail;go_ret3;exact⟨rfl,rfl⟩
 ·have hz:¬(s.size:Int)=8:=by omega
  clear hs;go_enter Tryz.func228,Tryz.ntmps228;go_wp2_with fail;go_ret3;exact⟨rfl,rfl⟩
theorem b8O (a:List UInt8)(h:a.length=8):∃a0 a1 a2 a3 a4 a5 a6 a7,a=[a0,a1]++([a2,a3,a4,a5]++[a6,a7]):=by
 match a,h with
 | [a0,a1,a2,a3,a4,a5,a6,a7],_=>exact⟨a0,a1,a2,a3,a4,a5,a6,a7,rfl⟩
theorem b8E (a:List UInt8)(h8:(BA a).size=8)(h0:(BA a)[0]=72)(num rcv:Nat)(h3:leN (tk ((BA a).extract 2 8) 4).data.toList=num)(h4:leN (tk (lf ((BA a).extract 2 8) 4) 2).data.toList=rcv):a=qG (BA a)[1] num rcv/\num<4294967296/\rcv<65536:=by
 have hl:a.length=8:=by rw[<-jH];exact h8
 obtain⟨a0,a1,a2,a3,a4,a5,a6,a7,ha⟩:=b8O a hl;have e0:a0=72:=by
  have:(BA a)[0]=a[0]:=rfl;rw[this]at h0;simpa [ha]using h0
 have e6:(BA a)[1]=a1:=by
  have:(BA a)[1]=a[1]:=rfl;rw[this];simp[ha]
 have e2:(BA a).extract 2 8=BA ([a2,a3,a4,a5]++[a6,a7]):=by
  have e1:lf (BA a) 2=BA ([a2,a3,a4,a5]++[a6,a7]):=by rw[ha];exact qU [a0,a1] _
  rw[<-e1];unfold lf;rw[h8,if_pos (by omega)]
 have e3:tk (BA ([a2,a3,a4,a5]++[a6,a7])) 4=BA [a2,a3,a4,a5]:=a1P [a2,a3,a4,a5] [a6,a7];have e4:lf (BA ([a2,a3,a4,a5]++[a6,a7])) 4=BA [a6,a7]:=qU [a2,a3,a4,a5] [a6,a7];have e5:tk (BA [a6,a7]) 2=BA [a6,a7]:=a1P [a6,a7] [];rw[e2,e3,vq]at h3;rw[e2,e4,e5,vq]at h4;have l4:je (leN [a2,a3,a4,a5]) 4=[a2,a3,a4,a5]:=a4O [a2,a3,a4,a5];have l2:je (leN [a6,a7]) 2=[a6,a7]:=a4O [a6,a7];rw[h3]at l4;rw[h4]at l2;have b2:=a2.toNat_lt;have b3:=a3.toNat_lt;have b4:=a4.toNat_lt;have b5:=a5.toNat_lt;have b6:=a6.toNat_lt;have b7:=a7.toNat_lt;have h5:leN [a2,a3,a4,a5]=a2.toNat+256*(a3.toNat+256*(a4.toNat+256*(a5.toNat+256*0))):=rfl;have h6:leN [a6,a7]=a6.toNat+256*(a7.toNat+256*0):=rfl;refine⟨?_,by omega,by omega⟩;rw[e6];unfold qG;rw[l4,l2,<-e0];exact ha
theorem b8F {num:Nat}(h:vU s i num rcv)(hz:1<s.size):s[1].toNat=97+i/\s=BA (qG s[1] num rcv)/\num<4294967296/\rcv<65536:=by
 obtain⟨a,ha⟩:∃a:List UInt8,s=BA a:=⟨_,(a2j s).symm⟩;subst ha;obtain⟨h8,h0,h1,h2,h3,h4⟩:=h;obtain⟨h5,h6,h7⟩:=b8E a h8 h0 num rcv h3 h4;exact⟨h2,congrArg BA h5,h6,h7⟩
theorem a3R (n:Nat)(hn:n<4294967296):leN (je n 4)=n:=by
 have h:∀m:Nat,(UInt8.ofNat (m % 256)).toNat=m % 256:=fun m=>UInt8.toNat_ofNat_of_lt' (by have:=Nat.mod_lt m (show 0<256 by decide);simpa using this)
 have e:je n 4=[UInt8.ofNat (n % 256),UInt8.ofNat (n / 256 % 256),UInt8.ofNat (n / 65536 % 256),UInt8.ofNat (n / 16777216 % 256)]:=by simp[je,List.range_succ]
 rw[e]
 show (UInt8.ofNat (n % 256)).toNat+256*((UInt8.ofNat (n / 256 % 256)).toNat+256*((UInt8.ofNat (n / 65536 % 256)).toNat+256*((UInt8.ofNat (n / 16777216 % 256)).toNat+256*0)))=_
 rw[h,h,h,h];omega
theorem b3W {q:UInt8}{r n' r':Nat}(hn:n<4294967296)(hr:r<65536)(hn':n'<4294967296)(hr':r'<65536):qG q n r=qG q n' r'↔n=n'/\r=r':=by
 constructor
 ·intro h;unfold qG at h;have h1:=List.append_cancel_left h;have h2:=List.append_inj h1 (by rw[jc,jc]);have h3:=congrArg leN h2.1;have h4:=congrArg leN h2.2;rw[a3R n hn,a3R n' hn']at h3;rw[a2Z,a2Z]at h4;exact⟨h3,by omega⟩
 ·rintro ⟨rfl,rfl⟩;rfl
def a0G (num rcv:Nat)(m:Ms):Bool:=decide (0<m.til)&&(m.num == (num:Int)&&m.rcv == (rcv:Int))
theorem b1n {num:Nat}(h:vU s i num rcv){nx:Nat}{m:Ms}(hm:MsG nx m)(hnx:nx<=201)(hz:1<s.size):((BA (qG s[1] m.num.toNat m.rcv.toNat)).toList == s.toList)=(m.num == (num:Int)&&m.rcv == (rcv:Int)):=by
 obtain⟨h1,h2,h3,h4⟩:=b8F h hz;have hn:=hm.num;have hr:=hm.rcv;generalize s[1]=q at*
 rw[Bool.eq_iff_iff,beq_iff_eq,Bool.and_eq_true,beq_iff_eq,beq_iff_eq];have e1:(BA (qG q m.num.toNat m.rcv.toNat)).toList=s.toList↔BA (qG q m.num.toNat m.rcv.toNat)=s:=⟨fun e=>a2v e,fun e=>by rw[e]⟩
 rw[e1,h2];have e2:BA (qG q m.num.toNat m.rcv.toNat)=BA (qG q num rcv)↔qG q m.num.toNat m.rcv.toNat=qG q num rcv:=⟨fun e=>by
  have e3:=congrArg (fun b:ByteArray=>b.data.toList) e;exact e3,fun e=>by rw[e]⟩
 rw[e2,b3W (by omega) (by omega) h3 h4];omega
theorem a3S {num:Nat}(h:vU s i num rcv)(hz:1<s.size)(w:World):zE 134 #[.int .u8 (s[1].toNat:Int)] w (.bool true):=by
 obtain⟨h8,h0,h1,h2,h3,h4⟩:=h;have h5:=vK s[1] w;unfold zj at h1;rw[h1]at h5;exact h5
theorem vz {P:Nat->Value}{c:UInt8}(hi:i<8)(hc:c.toNat=97+i):qOf P c=P i:=by
 unfold qOf;rw[if_pos (by omega),hc,Nat.add_sub_cancel_left]
theorem b1m (rb:Nat)(now:Int)(P:Nat->Value)(s:ByteArray)(i num rcv:Nat)(w:World)(hR:Rst w rb now P)(hh:vU s i num rcv)(hi:i<8)(hP:P i=.pointer none):
  zE 228 #[zp rb,.string s] w (.tuple #[.pointer none,.int .i64 0,.int .i64 8]):=by
 obtain⟨h8,h0,h1,h2,h3,h4⟩:=id hh;have i0:0<s.size:=by omega
 have i1:1<s.size:=by omega
 have HL:=zH (a3S hh i1 w);have HQ:Hid (zE 224 #[zp rb,.int .u8 (s[1].toNat:Int)] w (.pointer none)):=by
  have h5:=kL rb now P s[1] w hR;rw[vz hi h2,hP]at h5;exact h5
 have h0':s[0].toNat=72:=by rw[h0];rfl
 clear hh h0 h1 h2 h3 h4 hR;go_enter Tryz.func228,Tryz.ntmps228;go_wp2_with fail;refine HL.out.mono ?_;rintro e w' ⟨rfl,h'⟩;have h'':=h'.symm;subst h'';clear HL;go_wp2_with fail;refine HQ.out.mono ?_;rintro e w'' ⟨rfl,h'⟩;have h'':=h'.symm;subst h'';clear HQ;go_wp2_with fail;go_ret3;exact⟨rfl,rfl⟩
def a0H (qb:Nat)(Q:QM)(num rcv:Nat):Value:=if kr Q num rcv=true then .tuple #[zp qb,.int .i64 (jj (isN num) Q.ms),.int .i64 0] else .tuple #[.pointer none,.int .i64 0,.int .i64 8]
theorem b1l (hW:QW n Q){num rcv j:Nat}(hj:j<Q.ms.length)(hh:a0G num rcv Q.ms[j]=true):kr Q num rcv=true/\jj (isN num) Q.ms=(j:Int):=by
 unfold a0G at hh;rw[Bool.and_eq_true,Bool.and_eq_true,decide_eq_true_eq]at hh;obtain⟨h1,h2,h3⟩:=hh;have hN:=h2;have hix:jj (isN (num:Int)) Q.ms=(j:Int):=vY _ _ j hj hN (fun i hi=>by
  cases hx:isN (num:Int) (Q.ms[i]'(by omega)) with
  | false=>rfl
  | true=>
   have h4:=List.pairwise_iff_getElem.1 hW.nums i j (by omega) hj hi;have h5:(Q.ms[i]'(by omega)).num=(num:Int):=by simpa [isN]using hx
   have h6:Q.ms[j].num=(num:Int):=by simpa [isN]using hN
   omega)
 refine⟨?_,hix⟩;obtain⟨_,_,hf⟩:=qA _ _ j hix;unfold kr;rw[hf];simp only[Bool.and_eq_true,decide_eq_true_eq];exact⟨h1,h3⟩
theorem a9u {num:Nat}(hno:∀q (hl:q<Q.ms.length),a0G num rcv Q.ms[q]=false):kr Q num rcv=false:=by
 unfold kr
 cases hf:Q.ms.find? (isN (num:Int)) with
 | none=>rfl
 | some m=>
  have hm:=List.mem_of_find?_eq_some hf;have hp:=List.find?_some hf;obtain⟨q,hq,rfl⟩:=List.mem_iff_getElem.1 hm;have h1:=hno q hq;unfold a0G at h1;have h2:(Q.ms[q].num == (num:Int))=true:=hp;rw[h2,Bool.true_and]at h1;exact h1
theorem a4G (rb:Nat)(now:Int)(P:Nat->Value)(s:ByteArray)(i num rcv:Nat)(qb:Nat)(V:RV)(sl:Value)(Q:QM)(ts:List Tn)(cnt:Nat)(w:World)(hR:Rst w rb now P)(hh:vU s i num rcv)(hi:i<8)(hP:P i=zp qb)(h:RR w qb V sl Q ts cnt)(hW:QW i Q):
  zT 228 #[zp rb,.string s] w (a0H qb Q num rcv):=by
 obtain⟨h8,h0,h1,h2,h3,h4⟩:=id hh;have hml:=hW.ml;have i0:0<s.size:=by omega
 have i1:1<s.size:=by omega
 have HL:=zH (a3S hh i1 w);have HQ:Hid (zE 224 #[zp rb,.int .u8 (s[1].toNat:Int)] w (zp qb)):=by
  have h5:=kL rb now P s[1] w hR;rw[vz hi h2,hP]at h5;exact h5
 have HST:Hid (∀j (hj:j<Q.ms.length),((BA (qG s[1] Q.ms[j].num.toNat Q.ms[j].rcv.toNat)).toList == s.toList)=(Q.ms[j].num == (num:Int)&&Q.ms[j].rcv == (rcv:Int))):=fun j hj=>b1n hh (hW.mok _ (List.getElem_mem hj)) hW.nx.2 i1
 have HHN:Hid (∀j (hj:j<Q.ms.length) W,zT 227 #[.int .u8 (s[1].toNat:Int),.agg Q.ms[j].row.toArray] W (.string (BA (qG s[1] Q.ms[j].num.toNat Q.ms[j].rcv.toNat)))):=fun j hj W=>by
  have hm:=hW.mok _ (List.getElem_mem hj);have a1:=hm.num;have a2:=hm.rcv;have a3:=hW.nx;exact a2O s[1] Q.ms[j] _ _ (Int.toNat_of_nonneg (by omega)).symm (Int.toNat_of_nonneg (by omega)).symm (by omega) (by omega) W
 have HIT:Hid (∀j (hj:j<Q.ms.length),a0G num rcv Q.ms[j]=true->a0H qb Q num rcv=.tuple #[zp qb,.int .i64 (j:Int),.int .i64 0]):=fun j hj hx=>by
  obtain⟨e1,e2⟩:=b1l hW hj hx;unfold a0H;rw[if_pos e1,e2]
 have HMS:Hid ((∀q (hl:q<Q.ms.length),a0G num rcv Q.ms[q]=false)->a0H qb Q num rcv=.tuple #[.pointer none,.int .i64 0,.int .i64 8]):=fun hx=>by
  unfold a0H;rw[a9u hx];rfl
 obtain⟨sa,sc,hvm⟩:=jl h.m;have HRR:Hid (∀W,Tch [] w W->W.cell? ⟨qb,16,none⟩=some (.slice sa Q.ms.length sc)/\qb<W.heap.size/\W.ownsRow 0 271 5 (.slice sa Q.ms.length sc) Q.ms.length (Q.ms.flatMap Ms.row)):=fun W ht=>by
  have h6:=h.tch ht (by simp);rw[<-hvm];exact⟨jb h6.blk 16 _ rfl,lt_of_block h6.blk,h6.m⟩
 have h0':s[0].toNat=72:=by rw[h0];rfl
 clear hh h0 h1 h2 h3 h4 hR hW h hvm;go_enter Tryz.func228,Tryz.ntmps228;go_wp2_with fail;refine HL.out.mono ?_;rintro e w' ⟨rfl,h'⟩;have h'':=h'.symm;subst h'';clear HL;go_wp2_with fail;refine HQ.out.mono ?_;rintro e w'' ⟨rfl,h'⟩;have h'':=h'.symm;subst h'';clear HQ;go_wp2_with fail
 go_loopw [9] (fun v wr=>∃k:Nat,k<=Q.ms.length/\v=.int .i64 (k:Int)/\(∀q (hq:q<k) (hl:q<Q.ms.length),a0G num rcv Q.ms[q]=false)/\Tch [] w wr) (fun v _=>Q.ms.length-(intOf v).toNat)
 case atStart=>exact⟨0,Nat.zero_le _,rfl,fun i hi=>by omega,Tch.refl _ _⟩
 case round=>
  obtain⟨k,hk,rfl,hno,htr⟩:=hrel;have HNO:=zH hno;have HTR:=zH htr;obtain⟨c16,lq,how⟩:=HRR.out wr htr;clear hno htr
  by_cases hlt:k<Q.ms.length
  ·obtain⟨gb,cap,hv,lg,hcs⟩:=kA Ms.row 5 (fun _=>rfl) how k hlt;simp only[Value.slice.injEq,true_and]at hv;obtain⟨rfl,rfl⟩:=hv;have d0:wr.cell? ⟨gb,k*5,none⟩=some (.int .i64 Q.ms[k].num):=hcs 0 _ rfl;have d1:wr.cell? ⟨gb,k*5+1,none⟩=some (.string Q.ms[k].grp):=hcs 1 _ rfl;have d2:wr.cell? ⟨gb,k*5+2,none⟩=some (.string Q.ms[k].bod):=hcs 2 _ rfl;have d3:wr.cell? ⟨gb,k*5+3,none⟩=some (.int .i64 Q.ms[k].rcv):=hcs 3 _ rfl;have d4:wr.cell? ⟨gb,k*5+4,none⟩=some (.int .i64 Q.ms[k].til):=hcs 4 _ rfl;have HN2:=zH (HHN.out k hlt);have HSK:Hid _:=HST.out k hlt;have HIK:Hid _:=HIT.out k hlt;have HWO:Hid (a0G num rcv Q.ms[k]=(decide (0<Q.ms[k].til)&&(Q.ms[k].num == (num:Int)&&Q.ms[k].rcv == (rcv:Int)))):=rfl;have hkl:(k:Int)<(Q.ms.length:Int):=by omega
   clear hcs how;generalize BA (qG s[1] Q.ms[k].num.toNat Q.ms[k].rcv.toNat)=hs at*
   have HKP:Hid (∀W w5,Tch [] wr W->Tch [] W w5->(w5.cell? ⟨qb,16,none⟩=some (.slice (some ⟨gb,0,none⟩) Q.ms.length sc)/\qb<w5.heap.size/\gb<w5.heap.size)/\(w5.cell? ⟨gb,k*5,none⟩=some (.int .i64 Q.ms[k].num)/\w5.cell? ⟨gb,k*5+1,none⟩=some (.string Q.ms[k].grp)/\w5.cell? ⟨gb,k*5+2,none⟩=some (.string Q.ms[k].bod)/\w5.cell? ⟨gb,k*5+3,none⟩=some (.int .i64 Q.ms[k].rcv)/\w5.cell? ⟨gb,k*5+4,none⟩=some (.int .i64 Q.ms[k].til))/\Hid (Tch [] w w5)):=fun W w5 ha hb=>by
    have ht:=ha.trans hb (fun _ h _=>h);refine⟨⟨(ht.cell (a:=⟨qb,16,none⟩) lq (by simp)).trans c16,Nat.lt_of_lt_of_le lq ht.size,Nat.lt_of_lt_of_le lg ht.size⟩,⟨(ht.cell (a:=⟨gb,_,none⟩) lg (by simp)).trans d0,(ht.cell (a:=⟨gb,_,none⟩) lg (by simp)).trans d1,(ht.cell (a:=⟨gb,_,none⟩) lg (by simp)).trans d2,(ht.cell (a:=⟨gb,_,none⟩) lg (by simp)).trans d3,(ht.cell (a:=⟨gb,_,none⟩) lg (by simp)).trans d4⟩,HTR.out.trans ht (fun _ h _=>h)⟩
   go_wp2_with fail
   go_region_held3 (fun w'=>w'.cell? ⟨qb,16,none⟩=some (.slice (some ⟨gb,0,none⟩) Q.ms.length sc)/\w'.cell? ⟨gb,k*5,none⟩=some (.int .i64 Q.ms[k].num)/\w'.cell? ⟨gb,k*5+1,none⟩=some (.string Q.ms[k].grp)/\w'.cell? ⟨gb,k*5+2,none⟩=some (.string Q.ms[k].bod)/\w'.cell? ⟨gb,k*5+3,none⟩=some (.int .i64 Q.ms[k].rcv)/\w'.cell? ⟨gb,k*5+4,none⟩=some (.int .i64 Q.ms[k].til)) (go_keep) (first|(go_at_call 227;refine(HN2.out _).mono ?_;rintro e w5 ⟨rfl,h5⟩;obtain⟨⟨k16,kq,kg⟩,⟨k0,k1,k2,k3,k4⟩,kt⟩:=HKP.out _ w5 (by first|exact Tch.refl _ _|exact(Tch.refl [] _).drew|exact(Tch.refl [] _).drewN _) h5;clear h5))
   all_goals
    clear c16 d0 d1 d2 d3 d4 lq lg k0 k1 k2 k3 HKP HN2
    by_cases h1:0<Q.ms[k].til
    ·cases he:(hs.toList == s.toList) with
     | true=>
      have HR:Hid (a0H qb Q num rcv=.tuple #[zp qb,.int .i64 (k:Int),.int .i64 0]):=HIK.out (by rw[HWO.out,<-HSK.out,he,decide_eq_true h1];rfl);generalize Q.ms[k].til=tl at*
      go_wp2_with fail;go_ret3;exact⟨by rw[HR.out];rfl,kt.out⟩
     | false=>
      have HKK:Hid (∀q (hq:q<k+1) (hl:q<Q.ms.length),a0G num rcv Q.ms[q]=false):=fun q hq hl=>by
       by_cases e:q=k
       ·subst e;rw[HWO.out,<-HSK.out,he,Bool.and_false]
       ·exact HNO.out q (by omega) hl
      generalize Q.ms[k].til=tl at*
      go_wp2_with fail;go_roundw
      case rel=>exact⟨k+1,by omega,by go_num,HKK.out,kt.out⟩
      case measure=>simp[intOf];omega
    ·have HKK:Hid (∀q (hq:q<k+1) (hl:q<Q.ms.length),a0G num rcv Q.ms[q]=false):=fun q hq hl=>by
      by_cases e:q=k
      ·subst e;rw[HWO.out,decide_eq_false h1,Bool.false_and]
      ·exact HNO.out q (by omega) hl
     generalize Q.ms[k].til=tl at*
     go_wp2_with fail;go_roundw
     case rel=>exact⟨k+1,by omega,by go_num,HKK.out,kt.out⟩
     case measure=>simp[intOf];omega
  ·have HR:=zH (HMS.out (fun q hl=>HNO.out q (by omega) hl));have hke:k=Q.ms.length:=by omega
   subst hke;clear how;go_wp2_with fail;go_ret3;exact⟨by rw[HR.out];rfl,HTR.out⟩
structure RQ where
 qb:Nat
 V:RV
 sl:Sl
 Q:QM
 ts:List Tn
 cnt:Nat
abbrev RZ:=Nat->Option RQ
def ptR (Z:RZ):Nat->Value:=fun i=>match Z i with
 | some x=>zp x.qb
 | none=>.pointer none
def qa (Z:RZ)(i:Nat)(v:Option RQ):RZ:=fun j=>if j=i then v else Z j
def ctR (Z:RZ):Nat->Option QM:=fun i=>(Z i).map RQ.Q
theorem kS {Z:RZ}{x:RQ}(h:Z i=some x):ptR Z i=zp x.qb:=by unfold ptR;rw[h]
theorem zl {Z:RZ}(h:Z i=none):ptR Z i=.pointer none:=by unfold ptR;rw[h]
theorem a4X (Z:RZ)(i:Nat)(v:Option RQ):ptR (qa Z i v)=vE (ptR Z) i (match v with|some x=>zp x.qb|none=>.pointer none):=by
 funext j;unfold qa vE ptR
 by_cases e:j=i
 ·simp[e]
 ·simp[e]
theorem qM (Z:RZ)(i:Nat)(v:Option RQ):ctR (qa Z i v)=jI (ctR Z) i (v.map RQ.Q):=by
 funext j;unfold qa ctR jI
 by_cases e:j=i
 ·simp[e]
 ·simp[e]
theorem kM (Z:RZ)(i:Nat)(v:Option RQ):qa Z i v i=v:=by unfold qa;rw[if_pos rfl]
theorem jM (Z:RZ){i j:Nat}(v:Option RQ)(h:j≠i):qa Z i v j=Z j:=by unfold qa;rw[if_neg h]
def rgl (rb:Nat)(Z:RZ):List Nat:=rb::(List.range 8).flatMap (fun i=>match Z i with|some x=>rbl x.qb x.V|none=>[])
theorem kY {rb:Nat}{Z:RZ}:k∈rgl rb Z↔k=rb\/∃i x,i<8/\Z i=some x/\k∈rbl x.qb x.V:=by
 unfold rgl;rw[List.mem_cons,List.mem_flatMap];constructor
 ·rintro (h|⟨i,hi,h⟩)
  ·exact .inl h
  ·cases hz:Z i with
   | none=>rw[hz]at h;simp at h
   | some x=>rw[hz]at h;exact .inr ⟨i,x,List.mem_range.1 hi,hz,h⟩
 ·rintro (h|⟨i,x,hi,hz,h⟩)
  ·exact .inl h
  ·exact .inr ⟨i,List.mem_range.2 hi,by rw[hz];exact h⟩
structure RG (w:World)(rb:Nat)(now:Int)(Z:RZ):Prop where
 st:Rst w rb now (ptR Z)
 rr:∀i x,i<8->Z i=some x->RR w x.qb x.V x.sl.v x.Q x.ts x.cnt
 ap:∀i j x y,i<8->j<8->i≠j->Z i=some x->Z j=some y->∀k∈rbl x.qb x.V,k∉rbl y.qb y.V
theorem RG.lt {rb:Nat}{now:Int}{Z:RZ}(h:RG w rb now Z):∀k∈rgl rb Z,k<w.heap.size:=fun k hk=>by
 rcases kY.1 hk with rfl|⟨i,x,hi,hz,hx⟩
 ·exact h.st.lt
 ·exact(h.rr i x hi hz).lt k hx
theorem RG.rb {rb:Nat}{now:Int}{Z:RZ}(h:RG w rb now Z){i:Nat}{x:RQ}(hi:i<8)(hz:Z i=some x):rb∉rbl x.qb x.V:=fun hk=>by
 obtain⟨C,t,ht,hC⟩:=(h.rr i x hi hz).ty hk;have:=qF h.st hC;subst this;exact absurd ht (by decide)
theorem RG.keep {rb:Nat}{now:Int}{Z:RZ}(h:RG w rb now Z)(hk:∀k∈rgl rb Z,w'.heap[k]?=w.heap[k]?):RG w' rb now Z:=
 ⟨(hk rb (kY.2 (.inl rfl))).trans h.st,fun i x hi hz=>(h.rr i x hi hz).keep (fun k hx=>hk k (kY.2 (.inr ⟨i,x,hi,hz,hx⟩))),h.ap⟩
theorem RG.tch {rb:Nat}{now:Int}{Z:RZ}(h:RG w rb now Z){S:List Nat}(ht:Tch S w w')(hS:∀k∈rgl rb Z,k∉S):RG w' rb now Z:=h.keep (fun k hk=>ht.block k (h.lt k hk) (hS k hk))
theorem RG.ty {rb:Nat}{now:Int}{Z:RZ}(h:RG w rb now Z){k:Nat}(hk:k∈rgl rb Z):∃C t,t∈([120,216,271,306,267]:List TypeId)/\w.heap[k]?=some (.cells C t (0,0)):=by
 rcases kY.1 hk with rfl|⟨i,x,hi,hz,hx⟩
 ·exact⟨_,_,by decide,h.st⟩
 ·obtain⟨C,t,ht,hC⟩:=(h.rr i x hi hz).ty hx;exact⟨C,t,List.mem_cons_of_mem _ ht,hC⟩
structure RGS (w w':World)(rb:Nat)(Z:RZ)(now':Int)(Z':RZ):Prop where
 rg:RG w' rb now' Z'
 tch:Tch (rgl rb Z) w w'
 new:∀b∈rgl rb Z',b∈rgl rb Z\/w.heap.size<=b
theorem RGS.trans {a b c:World}{rb:Nat}{Z Z1 Z2:RZ}{n1 n2:Int}(h1:RGS a b rb Z n1 Z1)(h2:RGS b c rb Z1 n2 Z2):RGS a c rb Z n2 Z2:=
 ⟨h2.rg,h1.tch.trans h2.tch (fun x hx hlt=>by
  rcases h1.new x hx with h|h
  ·exact h
  ·omega),fun k hk=>by
  rcases h2.new k hk with h|h
  ·exact h1.new k h
  ·exact .inr (Nat.le_trans h1.tch.size h)⟩
theorem RG.rgs {rb:Nat}{now:Int}{Z:RZ}(h:RG w rb now Z)(ht:Tch [] w w'):RGS w w' rb Z now Z:=⟨h.tch ht (by simp),ht.sub (by simp),fun _ h=>.inl h⟩
theorem RG.one {rb:Nat}{now:Int}{Z:RZ}(h:RG w rb now Z){i:Nat}{x:RQ}(hi:i<8)(hz:Z i=some x){V':RV}{Q':QM}{ts':List Tn}{cnt':Nat}(hs:RS w w' x.qb x.V V' x.sl.v Q' ts' cnt'):RGS w w' rb Z now (qa Z i (some ⟨x.qb,V',x.sl,Q',ts',cnt'⟩)):=by
 have hsub:∀k∈rbl x.qb x.V,k∈rgl rb Z:=fun k hk=>kY.2 (.inr ⟨i,x,hi,hz,hk⟩)
 have hpt:ptR (qa Z i (some ⟨x.qb,V',x.sl,Q',ts',cnt'⟩))=ptR Z:=by
  rw[a4X];funext j;unfold vE
  by_cases e:j=i
  ·rw[if_pos e,e,kS hz]
  ·rw[if_neg e]
 have hot:∀j y,j<8->j≠i->Z j=some y->(∀k∈rbl y.qb y.V,k∉rbl x.qb x.V)/\RR w' y.qb y.V y.sl.v y.Q y.ts y.cnt:=fun j y hj hne hzj=>by
  have h1:=h.ap j i y x hj hi hne hzj hz;exact⟨h1,(h.rr j y hj hzj).tch hs.tch h1⟩
 have hnw:∀j y,j<8->j≠i->Z j=some y->∀k∈rbl y.qb y.V,k∉rbl x.qb V':=fun j y hj hne hzj k hk hk'=>by
  rcases hs.new k hk' with h1|h1
  ·exact(hot j y hj hne hzj).1 k hk h1
  ·have:=(h.rr j y hj hzj).lt k hk;omega
 refine⟨⟨?_,fun j y hj hy=>?_,fun j j' y y' hj hj' hne hy hy' k hk hk'=>?_⟩,hs.tch.sub (fun k hk _=>hsub k hk),fun k hk=>?_⟩
 ·rw[hpt];exact h.st.tch hs.tch (h.rb hi hz)
 ·by_cases e:j=i
  ·subst e;rw[kM]at hy;obtain rfl:=Option.some.inj hy;exact hs.rr
  ·rw[jM _ _ e]at hy;exact(hot j y hj e hy).2
 ·by_cases e:j=i
  ·subst e;rw[kM]at hy;obtain rfl:=Option.some.inj hy;rw[jM _ _ (Ne.symm hne)]at hy';exact hnw j' y' hj' (Ne.symm hne) hy' k hk' hk
  ·rw[jM _ _ e]at hy
   by_cases e':j'=i
   ·subst e';rw[kM]at hy';obtain rfl:=Option.some.inj hy';exact hnw j y hj e hy k hk hk'
   ·rw[jM _ _ e']at hy';exact h.ap j j' y y' hj hj' hne hy hy' k hk hk'
 ·rcases kY.1 hk with rfl|⟨j,y,hj,hy,hx⟩
  ·exact .inl (kY.2 (.inl rfl))
  ·by_cases e:j=i
   ·subst e;rw[kM]at hy;obtain rfl:=Option.some.inj hy;rcases hs.new k hx with h1|h1
    ·exact .inl (hsub k h1)
    ·exact .inr h1
   ·rw[jM _ _ e]at hy;exact .inl (kY.2 (.inr ⟨j,y,hj,hy,hx⟩))
theorem RG.gone {rb:Nat}{now:Int}{Z:RZ}(h:RG w rb now Z){i:Nat}(hi:i<8)(hR:Rst w' rb now (vE (ptR Z) i (.pointer none)))(ht:Tch [rb] w w'):RGS w w' rb Z now (qa Z i none):=by
 have hsub:∀j y,qa Z i none j=some y->j≠i/\Z j=some y:=fun j y hy=>by
  by_cases e:j=i
  ·subst e;rw[kM]at hy;exact absurd hy (by simp)
  ·rw[jM _ _ e]at hy;exact⟨e,hy⟩
 refine⟨⟨?_,fun j y hj hy=>?_,fun j j' y y' hj hj' hne hy hy'=>h.ap j j' y y' hj hj' hne (hsub j y hy).2 (hsub j' y' hy').2⟩,ht.sub (by intro k hk _;simp at hk;exact kY.2 (.inl hk)),fun k hk=>?_⟩
 ·rw[a4X];exact hR
 ·have h1:=(hsub j y hy).2;exact(h.rr j y hj h1).tch ht (fun k hk e=>by
   simp at e;subst e;exact h.rb hj h1 hk)
 ·rcases kY.1 hk with rfl|⟨j,y,hj,hy,hx⟩
  ·exact .inl (kY.2 (.inl rfl))
  ·exact .inl (kY.2 (.inr ⟨j,y,hj,(hsub j y hy).2,hx⟩))
theorem RG.made {rb:Nat}{now:Int}{Z:RZ}(h:RG w rb now Z){i:Nat}(hi:i<8)(x:RQ)(hR:Rst w' rb now (vE (ptR Z) i (zp x.qb)))(hr:RR w' x.qb x.V x.sl.v x.Q x.ts x.cnt)(hnw:∀k∈rbl x.qb x.V,w.heap.size<=k)(ht:Tch [rb] w w'):RGS w w' rb Z now (qa Z i (some x)):=by
 have hlt:∀j y,j<8->Z j=some y->∀k∈rbl y.qb y.V,k∉rbl x.qb x.V:=fun j y hj hy k hk hk'=>by
  have:=(h.rr j y hj hy).lt k hk;have:=hnw k hk';omega
 refine⟨⟨?_,fun j y hj hy=>?_,fun j j' y y' hj hj' hne hy hy' k hk hk'=>?_⟩,ht.sub (by intro k hk _;simp at hk;exact kY.2 (.inl hk)),fun k hk=>?_⟩
 ·rw[a4X];exact hR
 ·by_cases e:j=i
  ·subst e;rw[kM]at hy;obtain rfl:=Option.some.inj hy;exact hr
  ·rw[jM _ _ e]at hy;exact(h.rr j y hj hy).tch ht (fun k hk e=>by
    simp at e;subst e;exact h.rb hj hy hk)
 ·by_cases e:j=i
  ·subst e;rw[kM]at hy;obtain rfl:=Option.some.inj hy;rw[jM _ _ (Ne.symm hne)]at hy';exact hlt j' y' hj' hy' k hk' hk
  ·rw[jM _ _ e]at hy
   by_cases e':j'=i
   ·subst e';rw[kM]at hy';obtain rfl:=Option.some.inj hy';exact hlt j y hj hy k hk hk'
   ·rw[jM _ _ e']at hy';exact h.ap j j' y y' hj hj' hne hy hy' k hk hk'
 ·rcases kY.1 hk with rfl|⟨j,y,hj,hy,hx⟩
  ·exact .inl (kY.2 (.inl rfl))
  ·by_cases e:j=i
   ·subst e;rw[kM]at hy;obtain rfl:=Option.some.inj hy;exact .inr (hnw k hx)
   ·rw[jM _ _ e]at hy;exact .inl (kY.2 (.inr ⟨j,y,hj,hy,hx⟩))
abbrev b4k:RV:=⟨.slice none 0 0,.slice none 0 0,.slice none 0 0,.slice none 0 0⟩
abbrev bxR (w:World)(r:Wp.Rq)(x:Sl):World:=w.alloc (.cells (ja r x.v) 27)
theorem jG (w:World)(r:Wp.Rq)(x:Sl):Tch [] w (bxR w r x):=(Tch.refl _ _).alloc _
theorem b0u (w:World)(r:Wp.Rq)(x:Sl):(bxR w r x).heap[w.heap.size]?=some (.cells (ja r x.v) 27 (0,0)):=heap_alloc_new _ _
theorem jN {r:Wp.Rq}{x:Sl}(ht:Tch [] (bxR w r x) W)(j:Nat)(v:Value)(hv:(ja r x.v)[j]?=some v):W.cell? ⟨w.heap.size,j,none⟩=some v:=by
 have hl:w.heap.size<(bxR w r x).heap.size:=by simp
 exact(ht.cell (a:=⟨w.heap.size,j,none⟩) hl (by simp)).trans ((cell_of_row _ w.heap.size j _ 27 (0,0) (b0u w r x)).trans hv)
theorem a5t {r:Wp.Rq}{x:Sl}(ht:Tch [] (bxR w r x) W):w.heap.size<W.heap.size:=Nat.lt_of_lt_of_le (by simp) ht.size
theorem a9d (rb i:Nat)(now:Int)(Z:RZ)(r:Wp.Rq)(x:Sl)(y:RQ)(w:World)(h:RG w rb now Z)(hi:i<8)(hq:r.q.toNat=97+i)(hz:Z i=some y):
  Cp 178 #[zp rb,.agg (ja r x.v)] w fun e w'=>e=.returned (.string ⟨#[3]⟩)/\RGS w w' rb Z now Z:=by
 have HQ:Hid (Cp 224 #[zp rb,.int .u8 (r.q.toNat:Int)] (bxR w r x) fun e w'=>e=.returned (zp y.qb)/\w'=bxR w r x):=by
  have h5:=kL rb now (ptR Z) r.q (bxR w r x) (h.st.tch (jG w r x) (by simp));rw[vz hi hq,kS hz]at h5;exact h5
 have HA:Hid (∀W,Cp 140 #[.int .i64 3] W fun e w'=>e=.returned (.string ⟨#[3]⟩)/\Tch [] W w'):=fun W=>jL 3 W
 have HG:Hid (∀w',Tch [] (bxR w r x) w'->RGS w w' rb Z now Z):=fun w' ht=>h.rgs ((jG w r x).trans ht (fun _ h _=>h))
 have e0:ja r x.v=#[.int .u8 (r.op.toNat:Int),.int .u8 (r.q.toNat:Int),.int .u8 (r.d.toNat:Int),.int .i64 r.vis,.int .i64 r.win,.int .i64 r.rcv,.int .i64 r.quo,.int .i64 r.mx,.int .i64 r.tic,.string r.grp,.string r.ded,.string r.bod,.string r.att,.string r.han,x.v]:=rfl;clear h hq;unfold bxR at*
 rw[e0] at*
 go_enter Tryz.func178,Tryz.ntmps178;go_wp2_with fail;refine HQ.out.mono ?_;rintro e w1 ⟨rfl,h'⟩;subst h';clear HQ;go_wp2_with fail;refine(HA.out _).mono ?_;rintro e w2 ⟨rfl,h2⟩;have HG2:Hid _:=HG.out w2 h2;clear HG h2 HA;go_wp2_with fail;go_ret;exact⟨rfl,HG2.out⟩
theorem b1S (f:Nat)(hf:f=179\/f=180\/f=181\/f=182\/f=186)(rb i:Nat)(now:Int)(Z:RZ)(r:Wp.Rq)(x:Sl)(w:World)(h:RG w rb now Z)(hi:i<8)(hq:r.q.toNat=97+i)(hz:Z i=none):
  Cp f #[zp rb,.agg (ja r x.v)] w fun e w'=>e=.returned (.string ⟨#[2]⟩)/\RGS w w' rb Z now Z:=by
 have HQ:Hid (Cp 224 #[zp rb,.int .u8 (r.q.toNat:Int)] (bxR w r x) fun e w'=>e=.returned (.pointer none)/\w'=bxR w r x):=by
  have h5:=kL rb now (ptR Z) r.q (bxR w r x) (h.st.tch (jG w r x) (by simp));rw[vz hi hq,zl hz]at h5;exact h5
 have HA:Hid (∀W,Cp 140 #[.int .i64 2] W fun e w'=>e=.returned (.string ⟨#[2]⟩)/\Tch [] W w'):=fun W=>jL 2 W
 have HG:Hid (∀w',Tch [] (bxR w r x) w'->RGS w w' rb Z now Z):=fun w' ht=>h.rgs ((jG w r x).trans ht (fun _ h _=>h))
 have c1:=jN (w:=w) (r:=r) (x:=x) (Tch.refl [] _) 1 (.int .u8 (r.q.toNat:Int)) rfl;have lb:=a5t (w:=w) (r:=r) (x:=x) (Tch.refl [] _);have e0:ja r x.v=#[.int .u8 (r.op.toNat:Int),.int .u8 (r.q.toNat:Int),.int .u8 (r.d.toNat:Int),.int .i64 r.vis,.int .i64 r.win,.int .i64 r.rcv,.int .i64 r.quo,.int .i64 r.mx,.int .i64 r.tic,.string r.grp,.string r.ded,.string r.bod,.string r.att,.string r.han,x.v]:=rfl;clear h hq;unfold bxR at*
 rw[e0] at*
 rcases hf with rfl|rfl|rfl|rfl|rfl
 all_goals
  first|go_enter Tryz.func179,Tryz.ntmps179|go_enter Tryz.func180,Tryz.ntmps180|go_enter Tryz.func181,Tryz.ntmps181|go_enter Tryz.func182,Tryz.ntmps182|go_enter Tryz.func186,Tryz.ntmps186
  go_wp2_with fail;refine HQ.out.mono ?_;rintro e w1 ⟨rfl,h'⟩;subst h';clear HQ;go_wp2_with fail;refine(HA.out _).mono ?_;rintro e w2 ⟨rfl,h2⟩;have HG2:Hid _:=HG.out w2 h2;clear HG h2 HA;go_wp2_with fail;go_ret;exact⟨rfl,HG2.out⟩
theorem Rst.fz {rb:Nat}{now:Int}{P:Nat->Value}(h:Rst w rb now P)(j:Nat):w.frozen? ⟨rb,j,none⟩=false:=frozen_of_row w rb j _ 120 h
theorem b3I (rb i:Nat)(now:Int)(Z:RZ)(r:Wp.Rq)(x:Sl)(y:RQ)(w:World)(h:RG w rb now Z)(hi:i<8)(hq:r.q.toNat=97+i)(hz:Z i=some y):
  Cp 179 #[zp rb,.agg (ja r x.v)] w fun e w'=>e=.returned (.string ⟨#[0]⟩)/\RGS w w' rb Z now (qa Z i none):=by
 have HS:Hid (Rst (bxR w r x) rb now (ptR Z)):=h.st.tch (jG w r x) (by simp);have HQ:Hid (Cp 224 #[zp rb,.int .u8 (r.q.toNat:Int)] (bxR w r x) fun e w'=>e=.returned (zp y.qb)/\w'=bxR w r x):=by
  have h5:=kL rb now (ptR Z) r.q (bxR w r x) HS.out;rw[vz hi hq,kS hz]at h5;exact h5
 have HA:Hid (∀W,Cp 140 #[.int .i64 0] W fun e w'=>e=.returned (.string ⟨#[0]⟩)/\Tch [] W w'):=fun W=>jL 0 W
 have HG:Hid (∀W w',Tch [] (bxR w r x) W->Tch [] (W.setCell ⟨rb,1+i,none⟩ (.pointer none)) w'->RGS w w' rb Z now (qa Z i none)):=fun W w' ht ht'=>by
  have t1:Tch [] w W:=(jG w r x).trans ht (fun _ h _=>h);have r1:Rst W rb now (ptR Z):=h.st.tch t1 (by simp);have r2:=r1.set i hi (.pointer none);exact h.gone hi (r2.tch ht' (by simp)) (((t1.sub (by simp)).setCell (by simp) _).trans (ht'.sub (by simp)) (fun _ h _=>h))
 have c1:=jN (w:=w) (r:=r) (x:=x) (Tch.refl [] _) 1 (.int .u8 (r.q.toNat:Int)) rfl;have cq:=HS.out.cell i hi;have fq:=HS.out.fz (1+i);have hw0:IntKind.u8.wrap ((r.q.toNat:Int)-97)=(i:Int):=by
  have e:((r.q.toNat:Int)-97)=(i:Int):=by omega
  rw[e,IntKind.wrap_u8];omega
 have hi0:(0:Int)<=(i:Int):=by omega
 have hi1:(i:Int)<8:=by omega
 have e0:ja r x.v=#[.int .u8 (r.op.toNat:Int),.int .u8 (r.q.toNat:Int),.int .u8 (r.d.toNat:Int),.int .i64 r.vis,.int .i64 r.win,.int .i64 r.rcv,.int .i64 r.quo,.int .i64 r.mx,.int .i64 r.tic,.string r.grp,.string r.ded,.string r.bod,.string r.att,.string r.han,x.v]:=rfl;clear h hq HS;unfold bxR at*
 rw[e0] at*
 clear e0;go_enter Tryz.func179,Tryz.ntmps179;go_wp2_with fail;refine HQ.out.mono ?_;rintro e w1 ⟨rfl,h'⟩;have h'':=h'.symm;subst h'';clear HQ;go_wp2_with fail
 go_region
 all_goals
  go_wp2_with fail;refine(HA.out _).mono ?_;rintro e w2 ⟨rfl,h2⟩;have HG2:Hid (RGS w w2 rb Z now (qa Z i none)):=HG.out _ w2 (Tch.refl _ _) ((Tch.refl [] _).drew.trans h2 (fun _ h _=>h));clear HG h2 HA;go_wp2_with fail;go_ret;exact⟨rfl,HG2.out⟩
theorem a9e (rb i:Nat)(now:Int)(Z:RZ)(r:Wp.Rq)(x:Sl)(w:World)(h:RG w rb now Z)(hi:i<8)(hq:r.q.toNat=97+i)(hz:Z i=none):
  Cp 178 #[zp rb,.agg (ja r x.v)] w fun e w'=>e=.returned (.string ⟨#[0]⟩)/\∃qb,RGS w w' rb Z now (qa Z i (some ⟨qb,b4k,x,newM r,[],0⟩)):=by
 have HS:Hid (Rst (bxR w r x) rb now (ptR Z)):=h.st.tch (jG w r x) (by simp);have HQ:Hid (Cp 224 #[zp rb,.int .u8 (r.q.toNat:Int)] (bxR w r x) fun e w'=>e=.returned (.pointer none)/\w'=bxR w r x):=by
  have h5:=kL rb now (ptR Z) r.q (bxR w r x) HS.out;rw[vz hi hq,zl hz]at h5;exact h5
 have HA:Hid (∀W,Cp 140 #[.int .i64 0] W fun e w'=>e=.returned (.string ⟨#[0]⟩)/\Tch [] W w'):=fun W=>jL 0 W
 have c1:=jN (w:=w) (r:=r) (x:=x) (Tch.refl [] _) 1 (.int .u8 (r.q.toNat:Int)) rfl;have c0:=jN (w:=w) (r:=r) (x:=x) (Tch.refl [] _) 0 (.int .u8 (r.op.toNat:Int)) rfl;have c2:=jN (w:=w) (r:=r) (x:=x) (Tch.refl [] _) 2 (.int .u8 (r.d.toNat:Int)) rfl;have c3:=jN (w:=w) (r:=r) (x:=x) (Tch.refl [] _) 3 (.int .i64 r.vis) rfl;have c4:=jN (w:=w) (r:=r) (x:=x) (Tch.refl [] _) 4 (.int .i64 r.win) rfl;have c5:=jN (w:=w) (r:=r) (x:=x) (Tch.refl [] _) 5 (.int .i64 r.rcv) rfl;have c6:=jN (w:=w) (r:=r) (x:=x) (Tch.refl [] _) 6 (.int .i64 r.quo) rfl;have c7:=jN (w:=w) (r:=r) (x:=x) (Tch.refl [] _) 7 (.int .i64 r.mx) rfl;have c8:=jN (w:=w) (r:=r) (x:=x) (Tch.refl [] _) 8 (.int .i64 r.tic) rfl;have c9:=jN (w:=w) (r:=r) (x:=x) (Tch.refl [] _) 9 (.string r.grp) rfl;have c10:=jN (w:=w) (r:=r) (x:=x) (Tch.refl [] _) 10 (.string r.ded) rfl;have c11:=jN (w:=w) (r:=r) (x:=x) (Tch.refl [] _) 11 (.string r.bod) rfl;have c12:=jN (w:=w) (r:=r) (x:=x) (Tch.refl [] _) 12 (.string r.att) rfl;have c13:=jN (w:=w) (r:=r) (x:=x) (Tch.refl [] _) 13 (.string r.han) rfl;have c14:=jN (w:=w) (r:=r) (x:=x) (Tch.refl [] _) 14 x.v rfl;have hwi:IntKind.i64.wrap (i:Int)=(i:Int):=by rw[IntKind.wrap_i64];omega
 have n1:((bxR w r x).alloc (.cells #[.int .u8 (r.op.toNat:Int),.int .u8 (r.q.toNat:Int),.int .u8 (r.d.toNat:Int),.int .i64 r.vis,.int .i64 r.win,.int .i64 r.rcv,.int .i64 r.quo,.int .i64 r.mx,.int .i64 r.tic,.string r.grp,.string r.ded,.string r.bod,.string r.att,.string r.han,x.v,.int .i64 1,.slice none 0 0,.slice none 0 0,.int .i64 0,.slice none 0 0,.slice none 0 0] 216)).cell? ⟨w.heap.size,1,none⟩=some (.int .u8 (r.q.toNat:Int)):=jN ((Tch.refl [] _).alloc _) 1 _ rfl;have RX:Rst ((bxR w r x).alloc (.cells #[.int .u8 (r.op.toNat:Int),.int .u8 (r.q.toNat:Int),.int .u8 (r.d.toNat:Int),.int .i64 r.vis,.int .i64 r.win,.int .i64 r.rcv,.int .i64 r.quo,.int .i64 r.mx,.int .i64 r.tic,.string r.grp,.string r.ded,.string r.bod,.string r.att,.string r.han,x.v,.int .i64 1,.slice none 0 0,.slice none 0 0,.int .i64 0,.slice none 0 0,.slice none 0 0] 216)) rb now (ptR Z):=HS.out.tch ((Tch.refl [] _).alloc _) (by simp);have nq:=RX.cell i hi;have nf:=RX.fz (1+i);clear RX;have hw0:IntKind.u8.wrap ((r.q.toNat:Int)-97)=(i:Int):=by
  have e:((r.q.toNat:Int)-97)=(i:Int):=by omega
  rw[e,IntKind.wrap_u8];omega
 have hi0:(0:Int)<=(i:Int):=by omega
 have hi1:(i:Int)<8:=by omega
 have HG:Hid (∀w',Tch [] (((bxR w r x).alloc (.cells (rqC r x.v 1 (.slice none 0 0) (.slice none 0 0) 0 (.slice none 0 0) (.slice none 0 0)) 216)).setCell ⟨rb,1+i,none⟩ (zp (w.heap.size+1))) w'->RGS w w' rb Z now (qa Z i (some ⟨w.heap.size+1,b4k,x,newM r,[],0⟩))):=fun w' ht=>by
  have t1:Tch [] w ((bxR w r x).alloc (.cells (rqC r x.v 1 (.slice none 0 0) (.slice none 0 0) 0 (.slice none 0 0) (.slice none 0 0)) 216)):=(jG w r x).alloc _;have r1:Rst _ rb now (ptR Z):=h.st.tch t1 (by simp);have r2:=r1.set i hi (zp (w.heap.size+1));have hsz:(bxR w r x).heap.size=w.heap.size+1:=by simp
  have hlr:=h.st.lt;have b1:((bxR w r x).alloc (.cells (rqC r x.v 1 (.slice none 0 0) (.slice none 0 0) 0 (.slice none 0 0) (.slice none 0 0)) 216)).heap[w.heap.size+1]?=some (.cells (rqC r x.v 1 (.slice none 0 0) (.slice none 0 0) 0 (.slice none 0 0) (.slice none 0 0)) 216 (0,0)):=by
   have:=heap_alloc_new (bxR w r x) (.cells (rqC r x.v 1 (.slice none 0 0) (.slice none 0 0) 0 (.slice none 0 0) (.slice none 0 0)) 216);rw[hsz]at this;exact this
  have b2:=(heap_setCell_other _ ⟨rb,1+i,none⟩ _ (zp (w.heap.size+1)) (show w.heap.size+1≠rb by omega)).trans b1;have b3:=(ht.block (w.heap.size+1) (lt_of_block b2) (by simp)).trans b2;refine h.made hi ⟨w.heap.size+1,b4k,x,newM r,[],0⟩ (r2.tch ht (by simp)) ⟨b3,World.ownsRow_nil _ _ _ _,World.ownsRow_nil _ _ _ _,World.ownsRow_nil _ _ _ _,.inl ⟨rfl,rfl,rfl⟩,fun k hk=>by simp[Value.ownBlock]at hk⟩ (fun k hk=>?_) (((t1.sub (by simp)).setCell (by simp) _).trans (ht.sub (by simp)) (fun _ h _=>h))
  rcases ju.1 hk with rfl|e|e|e|e
  ·exact Nat.le_succ _
  all_goals simp[Value.ownBlock]at e
 have e0:ja r x.v=#[.int .u8 (r.op.toNat:Int),.int .u8 (r.q.toNat:Int),.int .u8 (r.d.toNat:Int),.int .i64 r.vis,.int .i64 r.win,.int .i64 r.rcv,.int .i64 r.quo,.int .i64 r.mx,.int .i64 r.tic,.string r.grp,.string r.ded,.string r.bod,.string r.att,.string r.han,x.v]:=rfl;clear h hq HS;unfold bxR at*
 rw[e0] at*
 clear e0;go_enter Tryz.func178,Tryz.ntmps178;go_wp2_with fail;refine HQ.out.mono ?_;rintro e w1 ⟨rfl,h'⟩;have h'':=h'.symm;subst h'';clear HQ;go_wp2_with fail
 go_region
 all_goals
  go_wp2_with fail;refine(HA.out _).mono ?_;rintro e w2 ⟨rfl,h2⟩;have hq2:Hid (∃qb,RGS w w2 rb Z now (qa Z i (some ⟨qb,b4k,x,newM r,[],0⟩))):=⟨_,HG.out w2 (by first|exact h2|exact(Tch.refl [] _).drew.trans h2 (fun _ h _=>h))⟩;clear HG h2 HA;go_wp2_with fail;go_ret;exact⟨rfl,hq2.out⟩
theorem RS.rdy (h:RS w w' qb V V' sl Q ts cnt)(rs:List ByteArray):RS w w' qb V V' sl {Q with rs:=rs} ts cnt:=⟨⟨h.rr.blk,h.rr.m,h.rr.t,h.rr.d,h.rr.a,h.rr.sep⟩,h.tch,h.new⟩
theorem RG.fin {w1 w2:World}{rb:Nat}{now:Int}{Z:RZ}(h:RG w rb now Z){i:Nat}{x:RQ}(hi:i<8)(hz:Z i=some x){V':RV}{Q':QM}{ts':List Tn}{cnt':Nat}(hs:RS w w1 x.qb x.V V' x.sl.v Q' ts' cnt')(ht:Tch [] w1 w2):RGS w w2 rb Z now (qa Z i (some ⟨x.qb,V',x.sl,Q',ts',cnt'⟩)):=
 (h.one hi hz hs).trans ((h.one hi hz hs).rg.rgs ht)
theorem b2i (rb i:Nat)(now:Int)(Z:RZ)(r:Wp.Rq)(x:Sl)(y:RQ)(w:World)(h:RG w rb now Z)(hi:i<8)(hq:r.q.toNat=97+i)(hz:Z i=some y):
  Cp 180 #[zp rb,.agg (ja r x.v)] w fun e w'=>e=.returned (.string ⟨#[0]⟩)/\∃V',RGS w w' rb Z now (qa Z i (some ⟨y.qb,V',y.sl,xI y.Q,y.ts,y.cnt⟩)):=by
 have HS:=zH (h.st.tch (jG w r x) (by simp));have HQ:Hid (Cp 224 #[zp rb,.int .u8 (r.q.toNat:Int)] (bxR w r x) fun e w'=>e=.returned (zp y.qb)/\w'=bxR w r x):=by
  have h5:=kL rb now (ptR Z) r.q (bxR w r x) HS.out;rw[vz hi hq,kS hz]at h5;exact h5
 have HA:Hid (∀W,zT 140 #[.int .i64 0] W (.string ⟨#[0]⟩)):=fun W=>jL 0 W
 have HRR:=zH ((h.rr i y hi hz).tch (jG w r x) (by simp));obtain⟨m1,m2,m3,m4⟩:=HRR.out.newM (v':=.slice none 0 0) (l':=[]) ((Tch.refl [] _).sub (by simp)) (World.ownsRow_nil _ _ _ _) (fun k hk=>by simp[Value.ownBlock]at hk);obtain⟨a1,a2,a3,a4⟩:=m4.rr.newA (v':=.slice none 0 0) (l':=[]) ((Tch.refl [] _).sub (by simp)) (.inl ⟨rfl,rfl,rfl⟩) (fun k hk=>by simp[Value.ownBlock]at hk) (fun k hk=>by simp[Value.ownBlock]at hk);have HG:Hid (∀w',Tch [] (((bxR w r x).setCell ⟨y.qb,16,none⟩ (.slice none 0 0)).setCell ⟨y.qb,20,none⟩ (.slice none 0 0)) w'->∃V',RGS w w' rb Z now (qa Z i (some ⟨y.qb,V',y.sl,xI y.Q,y.ts,y.cnt⟩))):=fun w' ht=>⟨_,h.fin hi hz ((((h.rr i y hi hz).rs (jG w r x)).trans (m4.trans a4)).rdy []) ht⟩
 clear m4 a4;have e0:=zL r x.v;clear h hq HS;unfold bxR at*
 rw[e0] at*
 clear e0;go_enter Tryz.func180,Tryz.ntmps180;go_wp2_with fail;refine HQ.out.mono ?_;rintro e w1 ⟨rfl,h'⟩;have h'':=h'.symm;subst h'';clear HQ;go_wp2_with fail;refine(HA.out _).mono ?_;rintro e w2 ⟨rfl,h2⟩;have hq2:=HG.out w2 h2;have HQ2:Hid _:=hq2;clear HG h2 HA hq2;go_wp2_with fail;go_ret;exact⟨rfl,HQ2.out⟩
theorem zD (g:ByteArray)(t:Tn):isT g t=true↔t.g=g:=by
 unfold isT;rw[beq_iff_eq];exact⟨a2v,fun h=>by rw[h]⟩
theorem a1U {α:Type}(q:α->Bool)(x:α)(hx:q x=false):∀(l:List α) (j:Nat) (hj:j<l.length),q l[j]=false->(l.set j x).find? q=l.find? q
 | [],j,hj,_=>by simp at hj
 | a::r,0,hj,h=>by
  have h0:q a=false:=h;rw[List.set_cons_zero,List.find?_cons,List.find?_cons,hx,h0]
 | a::r,j+1,hj,h=>by
  rw[List.set_cons_succ,List.find?_cons,List.find?_cons];rw[a1U q x hx r j (by simpa using hj) (by simpa using h)]
theorem a4B {α:Type}(q:α->Bool)(x:α)(hx:q x=true)(l:List α)(j:Nat)(hj:j<l.length)(hno:∀i (hi:i<j) (hl:i<l.length),q l[i]=false):(l.set j x).find? q=some x:=by
 have h1:=a4A q (l.set j x) j (by rw[List.length_set];exact hj) (by rw[List.getElem_set_self];exact hx) (fun i hi hl=>by
  rw[List.getElem_set_ne (by omega)];exact hno i hi (by rw[List.length_set]at hl;exact hl))
 rw[h1,List.getElem_set_self]
theorem a6Y {α:Type}(p:α->Bool):∀(l:List α) (j:Nat),jj p l=(j:Int)->∀i (hi:i<j) (hl:i<l.length),p l[i]=false:=fun l j hj i hi hl=>by
 cases hx:p l[i] with
 | false=>rfl
 | true=>
  exfalso;have h1:jj p l<=(i:Int):=by
   clear hj hi
   induction l generalizing i with
   | nil=>simp at hl
   | cons a r ih=>
    cases i with
    | zero=>
     have h0:p a=true:=hx;simp[jj,h0]
    | succ i=>
     have h2:=ih i (by simpa using hl) (by simpa using hx);simp only[jj]
     split
     ·omega
     ·split<;>omega
  omega
theorem xA (ts:List Tn)(cnt:Nat)(g:ByteArray):(xy ts cnt g=ts++[⟨g,((cnt+1:Nat):Int)⟩]/\∀t∈ts,t.g≠g)\/∃j,∃hj:j<ts.length,ts[j].g=g/\xy ts cnt g=ts.set j ⟨g,((cnt+1:Nat):Int)⟩/\∀i (hi:i<j) (hl:i<ts.length),isT g ts[i]=false:=by
 unfold xy
 by_cases h:jj (isT g) ts<0
 ·rw[if_pos h];refine .inl ⟨rfl,fun t ht e=>?_⟩
  have h1:=(qq (isT g) ts).1 h t ht;rw[(zD g t).2 e]at h1;exact absurd h1 (by decide)
 ·rw[if_neg h];obtain⟨j,hj⟩:∃j:Nat,jj (isT g) ts=(j:Int):=⟨_,(Int.toNat_of_nonneg (by omega)).symm⟩;obtain⟨hl,hp⟩:=a4I _ _ _ hj;refine .inr ⟨j,hl,(zD g _).1 hp,by rw[hj];rfl,a6Y _ _ _ hj⟩
theorem a0K (ts:List Tn)(cnt:Nat)(g:ByteArray):qj (xy ts cnt g) g=((cnt+1:Nat):Int):=by
 unfold qj;rcases xA ts cnt g with ⟨e,hn⟩|⟨j,hj,h1,e,h2⟩
 ·rw[e,List.find?_append];have h3:ts.find? (isT g)=none:=List.find?_eq_none.2 (fun t ht=>by
   rw[zD];exact hn t ht)
  have h4:isT g ⟨g,((cnt+1:Nat):Int)⟩=true:=(zD _ _).2 rfl;rw[h3,Option.none_or,List.find?_cons,h4]
 ·rw[e,a4B (isT g) ⟨g,((cnt+1:Nat):Int)⟩ ((zD _ _).2 rfl) ts j hj h2]
theorem vD (ts:List Tn)(cnt:Nat)(g g':ByteArray)(hne:g'≠g):qj (xy ts cnt g) g'=qj ts g':=by
 have hx:isT g' ⟨g,((cnt+1:Nat):Int)⟩=false:=by
  cases hx:isT g' ⟨g,((cnt+1:Nat):Int)⟩ with
  | false=>rfl
  | true=>exact absurd ((zD _ _).1 hx).symm hne
 unfold qj;rcases xA ts cnt g with ⟨e,hn⟩|⟨j,hj,h1,e,h2⟩
 ·rw[e,List.find?_append,List.find?_cons,hx,List.find?_nil,Option.or_none]
 ·rw[e,a1U (isT g') _ hx ts j hj (by
   cases hy:isT g' ts[j] with
   | false=>rfl
   | true=>exact absurd (((zD _ _).1 hy).symm.trans h1) hne)]
theorem b4E {t:Tn}(h:t∈xy ts cnt g):t∈ts\/t=⟨g,((cnt+1:Nat):Int)⟩:=by
 rcases xA ts cnt g with ⟨e,_⟩|⟨j,hj,h1,e,h2⟩
 ·rw[e,List.mem_append,List.mem_singleton]at h;exact h
 ·rw[e]at h;exact List.mem_or_eq_of_mem_set h
theorem b4C {g':ByteArray}(h:(∃t∈ts,t.g=g')\/g'=g):∃t∈xy ts cnt g,t.g=g':=by
 by_cases hg:g'=g
 ·subst hg;rcases xA ts cnt g' with ⟨e,_⟩|⟨j,hj,h1,e,h2⟩
  ·exact⟨_,by rw[e];exact List.mem_append_right _ List.mem_cons_self,rfl⟩
  ·exact⟨_,by rw[e];exact List.mem_set hj _,rfl⟩
 ·obtain⟨t,ht,he⟩:=h.resolve_right hg;rcases xA ts cnt g with ⟨e,_⟩|⟨j,hj,h1,e,h2⟩
  ·exact⟨t,by rw[e];exact List.mem_append_left _ ht,he⟩
  ·obtain⟨i,hi,rfl⟩:=List.mem_iff_getElem.1 ht;have hij:i≠j:=fun e=>by
    subst e;exact hg (he.symm.trans h1)
   refine⟨ts[i],?_,he⟩;rw[e];exact List.mem_iff_getElem.2 ⟨i,by rw[List.length_set];exact hi,by rw[List.getElem_set_ne (Ne.symm hij)]⟩
theorem b4D (ts:List Tn)(cnt:Nat)(g:ByteArray):(xy ts cnt g).length<=ts.length+1/\((∃t∈ts,t.g=g)->(xy ts cnt g).length=ts.length):=by
 rcases xA ts cnt g with ⟨e,hn⟩|⟨j,hj,h1,e,h2⟩
 ·rw[e,List.length_append];exact⟨Nat.le_refl _,fun ⟨t,ht,he⟩=>absurd he (hn t ht)⟩
 ·rw[e,List.length_set];exact⟨Nat.le_succ _,fun _=>rfl⟩
theorem TR.tle (h:TR Q ts cnt)(g:ByteArray):qj ts g<=(cnt:Int):=by
 unfold qj
 cases hf:ts.find? (isT g) with
 | none=>exact Int.natCast_nonneg _
 | some t=>exact h.le t (List.mem_of_find?_eq_some hf)
theorem TR.sub (h:TR Q ts cnt)(hs:Q'.rs.Sublist Q.rs)(hn:Q.next<=Q'.next)(hm:∀m∈Q'.ms,∃m'∈Q.ms,m'.grp=m.grp):TR Q' ts cnt:=
 ⟨h.up.sublist hs,fun g hg=>h.pos g (hs.subset hg),h.le,Nat.lt_of_lt_of_le h.len hn,fun m hm'=>by
  obtain⟨m',h1,h2⟩:=hm m hm';obtain⟨t,h3,h4⟩:=h.has m' h1;exact⟨t,h3,h4.trans h2⟩⟩
theorem TR.rdy (h:TR Q ts cnt){g:ByteArray}(rs0:List ByteArray)(hs:rs0.Sublist Q.rs)(hg:g∉rs0)(hr:Q'.rs=rs0++[g])(hl:(∃t∈ts,t.g=g)/\Q.next<=Q'.next\/Q.next+1<=Q'.next)(hm:∀m∈Q'.ms,(∃m'∈Q.ms,m'.grp=m.grp)\/m.grp=g):TR Q' (xy ts cnt g) (cnt+1):=by
 have hne:∀a∈rs0,a≠g:=fun a ha e=>hg (e▸ha)
 refine⟨?_,fun a ha=>?_,fun t ht=>?_,?_,fun m hm'=>?_⟩
 ·rw[hr,List.pairwise_append];refine⟨(h.up.sublist hs).imp_of_mem (fun {a b} ha hb hlt=>?_),List.pairwise_singleton _ _,fun a ha b hb=>?_⟩
  ·rw[vD _ _ _ _ (hne a ha),vD _ _ _ _ (hne b hb)];exact hlt
  ·rw[List.mem_singleton]at hb;subst hb;rw[vD _ _ _ _ (hne a ha),a0K];have:=h.tle a;omega
 ·rw[hr,List.mem_append,List.mem_singleton]at ha;rcases ha with ha|rfl
  ·rw[vD _ _ _ _ (hne a ha)];exact h.pos a (hs.subset ha)
  ·rw[a0K];omega
 ·rcases b4E ht with h1|rfl
  ·have:=h.le t h1;omega
  ·exact Int.le_refl _
 ·have h1:=b4D ts cnt g;have h2:=h.len;rcases hl with ⟨h3,h4⟩|h3
  ·have:=h1.2 h3;omega
  ·have:=h1.1;omega
 ·refine b4C ?_;rcases hm m hm' with ⟨m',h1,h2⟩|h1
  ·obtain⟨t,h3,h4⟩:=h.has m' h1;exact .inl ⟨t,h3,h4.trans h2⟩
  ·exact .inr h1
theorem a0X (g:ByteArray)(l:List Ms):jZ g l=0↔jj (isG g) l<0:=by
 rw[qq];unfold jZ;rw[List.length_eq_zero_iff,List.filter_eq_nil_iff];exact⟨fun h x hx=>by simpa using h x hx,fun h x hx=>by rw[h x hx];decide⟩
theorem a4D (hW:QW n Q){num rcv:Nat}(hf:kr Q num rcv=true):∃j,∃hj:j<Q.ms.length,jj (isN (num:Int)) Q.ms=(j:Int)/\Q.ms.find? (isN (num:Int))=some Q.ms[j]/\Q.ms[j].num=(num:Int)/\0<Q.ms[j].til/\1<=num:=by
 unfold kr at hf
 cases hx:Q.ms.find? (isN (num:Int)) with
 | none=>rw[hx]at hf;exact absurd hf (by simp)
 | some m=>
  rw[hx]at hf;simp only[Bool.and_eq_true,decide_eq_true_eq]at hf;have hge:0<=jj (isN (num:Int)) Q.ms:=by
   by_cases e:jj (isN (num:Int)) Q.ms<0
   ·rw[a4J _ _ e]at hx;exact absurd hx (by simp)
   ·omega
  obtain⟨j,hj⟩:∃j:Nat,jj (isN (num:Int)) Q.ms=(j:Int):=⟨_,(Int.toNat_of_nonneg hge).symm⟩;obtain⟨hl,hp,hfj⟩:=qA _ _ j hj;have he:m=Q.ms[j]:=Option.some.inj (hx.symm.trans hfj);have hn:Q.ms[j].num=(num:Int):=by simpa [isN]using hp
  have hm:=hW.mok _ (List.getElem_mem hl);have h1:=hm.num;exact⟨j,hl,hj,by rw[he],hn,by rw[<-he];exact hf.1,by omega⟩
def vH (Q:QM)(num:Int):List Ms:=Q.ms.filter (woF num ⟨#[]⟩)
theorem b5Q (hW:QW n Q){num rcv:Nat}(hf:kr Q num rcv=true){j:Nat}(hj:j<Q.ms.length)(hi:jj (isN (num:Int)) Q.ms=(j:Int)):qw Q num={Q with ms:=vH Q num,rs:=if jZ Q.ms[j].grp (vH Q num)=0 then Q.rs else Q.rs++[Q.ms[j].grp]}:=by
 obtain⟨j',hj',h1,h2,h3,h4,h5⟩:=a4D hW hf;have e:j'=j:=by omega
 subst e;have h6:=zu (num:Int) Q.ms Q.ms[j'] hW.nums h2;have h7:Q.ms.filter (fun a=>!isN (num:Int) a)=vH Q num:=by
  unfold vH;congr 1;funext a;unfold woF isN;have:((num:Int) == 0)=false:=by rw[beq_eq_false_iff_ne];omega
  rw[this,Bool.false_and,Bool.or_false]
 unfold qw;rw[h2];simp only;rw[h6,h7];congr 1
 by_cases hc:jZ Q.ms[j'].grp (vH Q num)=0
 ·rw[if_pos hc,if_pos ((a0X _ _).1 hc)]
 ·rw[if_neg hc,if_neg (fun e=>hc ((a0X _ _).2 e))]
theorem b1d (hW:QW n Q){j:Nat}(hj:j<Q.ms.length)(h:0<Q.ms[j].til):Q.ms[j].grp∉Q.rs:=fun hg=>by
 have:=((hW.rr _).1 hg).2 _ (List.getElem_mem hj) rfl;omega
theorem a6v (rb i num rcv:Nat)(now:Int)(Z:RZ)(r:Wp.Rq)(x:Sl)(y:RQ)(w:World)(h:RG w rb now Z)(hi:i<8)(hz:Z i=some y)(hh:vU r.han i num rcv)(hW:QW i y.Q)(hT:TR y.Q y.ts y.cnt)(hcn:y.cnt<=4611686018427387000)(hf:kr y.Q num rcv=true):
  Cp 183 #[zp rb,.agg (ja r x.v)] w fun e w'=>e=.returned (.string ⟨#[0]⟩)/\∃V' ts' cnt',RGS w w' rb Z now (qa Z i (some ⟨y.qb,V',y.sl,qw y.Q num,ts',cnt'⟩))/\TR (qw y.Q num) ts' cnt'/\cnt'<=y.cnt+1:=by
 obtain⟨j,hj,hix,hfj,hnum,htil,hn1⟩:=a4D hW hf;have hml:=hW.ml;have HRX:=zH ((h.rr i y hi hz).tch (jG w r x) (by simp));have HH:Hid (zT 228 #[zp rb,.string r.han] (bxR w r x) (.tuple #[zp y.qb,.int .i64 (j:Int),.int .i64 0])):=by
  have h5:=a4G rb now (ptR Z) r.han i num rcv y.qb y.V y.sl.v y.Q y.ts y.cnt (bxR w r x) (h.st.tch (jG w r x) (by simp)) hh hi (kS hz) HRX.out hW;unfold a0H at h5;rw[if_pos hf,hix]at h5;exact h5
 have HA:Hid (∀W,zT 140 #[.int .i64 0] W (.string ⟨#[0]⟩)):=fun W=>jL 0 W
 have HG:=zH h;have HEQ:=zH (b5Q hW hf hj hix);have hsubm:∀m∈vH y.Q num,∃m'∈y.Q.ms,m'.grp=m.grp:=fun m hm=>⟨m,(List.mem_filter.1 hm).1,rfl⟩
 have HT1:Hid (jZ y.Q.ms[j].grp (vH y.Q num)=0->TR (qw y.Q num) y.ts y.cnt):=fun hc=>by
  rw[HEQ.out,if_pos hc];exact hT.sub (List.Sublist.refl _) (Nat.le_refl _) hsubm
 have HT2:Hid (¬jZ y.Q.ms[j].grp (vH y.Q num)=0->TR (qw y.Q num) (xy y.ts y.cnt y.Q.ms[j].grp) (y.cnt+1)):=fun hc=>by
  rw[HEQ.out,if_neg hc];exact hT.rdy y.Q.rs (List.Sublist.refl _) (b1d hW hj htil) rfl (.inl ⟨hT.has _ (List.getElem_mem hj),Nat.le_refl _⟩) (fun m hm=>.inl (hsubm m hm))
 have htl:y.ts.length<=1000:=by have:=hT.len;have:=hW.nx;omega
 have hal:(vH y.Q num).length<=1000:=Nat.le_trans (List.length_filter_le _ _) (by omega);have HW4:Hid (∀W v w3,Tch [] (bxR w r x) W->w3.ownsRow W.heap.size 271 5 v (vH y.Q num).length ((vH y.Q num).flatMap Ms.row)->Tch [] W w3->w3.cell? ⟨y.qb,16,none⟩=some y.V.m/\w3.frozen? ⟨y.qb,16,none⟩=false/\y.qb<w3.heap.size/\Hid (RS w (w3.setCell ⟨y.qb,16,none⟩ v) y.qb y.V {y.V with m:=v} y.sl.v {y.Q with ms:=vH y.Q num} y.ts y.cnt)):=fun W v w3 ht ho ht3=>by
  have hr:=HG.out.rr i y hi hz;have t1:Tch [] w W:=(jG w r x).trans ht (fun _ h _=>h);have t2:Tch [] w w3:=t1.trans ht3 (fun _ h _=>h);obtain⟨k1,k2,k3,k4⟩:=hr.newM (v':=v) (l':=vH y.Q num) (t2.sub (by simp)) (a1F ho (Nat.zero_le _)) (fun k hk=>.inr (by
   have:=xk ho k hk;have:=t1.size;omega))
  exact⟨k1,k2,k3,k4⟩
 obtain⟨sa,sc,hvm⟩:=jl HRX.out.m;have HVM:Hid (y.V.m=.slice sa y.Q.ms.length sc):=hvm;have HMR:Hid (∀W,Tch [] (bxR w r x) W->W.cell? ⟨y.qb,16,none⟩=some (.slice sa y.Q.ms.length sc)/\y.qb<W.heap.size/\W.ownsRow 0 271 5 (.slice sa y.Q.ms.length sc) y.Q.ms.length (y.Q.ms.flatMap Ms.row)):=fun W ht=>by
  have h6:=HRX.out.tch ht (by simp);rw[<-hvm];exact⟨jb h6.blk 16 _ rfl,lt_of_block h6.blk,h6.m⟩
 have hjI:(j:Int)<(y.Q.ms.length:Int):=by omega
 have HNUM:Hid (y.Q.ms[j].num=(num:Int)):=hnum;have e0:=zL r x.v;clear h hW hT hh hf hfj hix hsubm hvm HRX;unfold bxR at*
 rw[e0] at*
 clear e0;go_enter Tryz.func183,Tryz.ntmps183;go_wp2_with fail;refine HH.out.mono ?_;rintro e w1 ⟨rfl,ht1⟩;have HTA:Hid _:=ht1;obtain⟨c16,lq,how⟩:=HMR.out w1 ht1;obtain⟨gb,cap,hv,lg,hcs⟩:=kA Ms.row 5 (fun _=>rfl) how j hj;simp only[Value.slice.injEq,true_and]at hv;obtain⟨rfl,rfl⟩:=hv;have d0:w1.cell? ⟨gb,j*5,none⟩=some (.int .i64 y.Q.ms[j].num):=hcs 0 _ rfl;have d1:w1.cell? ⟨gb,j*5+1,none⟩=some (.string y.Q.ms[j].grp):=hcs 1 _ rfl;have d2:w1.cell? ⟨gb,j*5+2,none⟩=some (.string y.Q.ms[j].bod):=hcs 2 _ rfl;have d3:w1.cell? ⟨gb,j*5+3,none⟩=some (.int .i64 y.Q.ms[j].rcv):=hcs 3 _ rfl;have d4:w1.cell? ⟨gb,j*5+4,none⟩=some (.int .i64 y.Q.ms[j].til):=hcs 4 _ rfl;clear hcs how HH ht1;have HBX:Hid ((w1.alloc (.cells #[.int .i64 (num:Int),.string y.Q.ms[j].grp,.string y.Q.ms[j].bod,.int .i64 y.Q.ms[j].rcv,.int .i64 y.Q.ms[j].til] 271)).heap[w1.heap.size]?=some (.cells #[.int .i64 (num:Int),.string y.Q.ms[j].grp,.string y.Q.ms[j].bod,.int .i64 y.Q.ms[j].rcv,.int .i64 y.Q.ms[j].til] 271 (0,0))):=heap_alloc_new _ _;have hbc:(w1.alloc (.cells #[.int .i64 (num:Int),.string y.Q.ms[j].grp,.string y.Q.ms[j].bod,.int .i64 y.Q.ms[j].rcv,.int .i64 y.Q.ms[j].til] 271)).cell? ⟨w1.heap.size,0,none⟩=some (.int .i64 (num:Int)):=(cell_of_row _ _ 0 _ 271 (0,0) HBX.out).trans rfl;have hbl:w1.heap.size<(w1.alloc (.cells #[.int .i64 (num:Int),.string y.Q.ms[j].grp,.string y.Q.ms[j].bod,.int .i64 y.Q.ms[j].rcv,.int .i64 y.Q.ms[j].til] 271)).heap.size:=by simp
 have HTB:Hid (Tch [] (w.alloc (.cells (ja r x.v) 27)) (w1.alloc (.cells #[.int .i64 (num:Int),.string y.Q.ms[j].grp,.string y.Q.ms[j].bod,.int .i64 y.Q.ms[j].rcv,.int .i64 y.Q.ms[j].til] 271))):=HTA.out.alloc _;have HWO:Hid (Cp 229 #[zp y.qb,.int .i64 (num:Int),.string ⟨#[]⟩] (w1.alloc (.cells #[.int .i64 (num:Int),.string y.Q.ms[j].grp,.string y.Q.ms[j].bod,.int .i64 y.Q.ms[j].rcv,.int .i64 y.Q.ms[j].til] 271)) fun e w'=>∃v,e=.returned v/\w'.ownsRow (w1.alloc (.cells #[.int .i64 (num:Int),.string y.Q.ms[j].grp,.string y.Q.ms[j].bod,.int .i64 y.Q.ms[j].rcv,.int .i64 y.Q.ms[j].til] 271)).heap.size 271 5 v (vH y.Q num).length ((vH y.Q num).flatMap Ms.row)/\Tch [] (w1.alloc (.cells #[.int .i64 (num:Int),.string y.Q.ms[j].grp,.string y.Q.ms[j].bod,.int .i64 y.Q.ms[j].rcv,.int .i64 y.Q.ms[j].til] 271)) w'):=by
  obtain⟨k1,k2,k3⟩:=HMR.out _ HTB.out;exact a2d y.Q.ms y.qb _ (num:Int) ⟨#[]⟩ _ k1 k3 (by omega)
 rw[HNUM.out]at d0;go_wp2_with fail;generalize hwb:(w1.alloc (.cells #[.int .i64 (num:Int),.string y.Q.ms[j].grp,.string y.Q.ms[j].bod,.int .i64 y.Q.ms[j].rcv,.int .i64 y.Q.ms[j].til] 271))=wb at*
 refine HWO.out.mono ?_;rintro e w3 ⟨v,rfl,ho3,ht3⟩;obtain⟨k1,k2,k3,KRS⟩:=HW4.out wb v w3 HTB.out ho3 ht3;obtain⟨va,vc,hv3⟩:=jl ho3;subst hv3;have HB3:Hid (∀W,Tch [] (w3.setCell ⟨y.qb,16,none⟩ (.slice va (vH y.Q num).length vc)) W->W.cell? ⟨w1.heap.size,1,none⟩=some (.string y.Q.ms[j].grp)/\w1.heap.size<W.heap.size):=fun W ht=>by
  have b1:=(ht3.block w1.heap.size hbl (by simp)).trans HBX.out;have b2:=(heap_setCell_other w3 ⟨y.qb,16,none⟩ _ (.slice va (vH y.Q num).length vc) (show w1.heap.size≠y.qb by omega)).trans b1;have b3:=(ht.block w1.heap.size (lt_of_block b2) (by simp)).trans b2;exact⟨(cell_of_row _ _ 1 _ 271 (0,0) b3).trans rfl,lt_of_block b3⟩
 clear ho3 ht3 HWO d0 d1 d2 d3 d4 c16 lg HMR HW4 hbc;rw[HVM.out]at k1;obtain⟨b1,b2⟩:=HB3.out _ (Tch.refl _ _);go_wp2_with fail;generalize hw4:w3.setCell ⟨y.qb,16,none⟩ (.slice va (vH y.Q num).length vc)=w4 at*
 have HOF:Hid (zE 230 #[zp y.qb,.string y.Q.ms[j].grp] w4 (.tuple #[.int .i64 (jZ y.Q.ms[j].grp (vH y.Q num):Int),.bool (xN y.Q.ms[j].grp (vH y.Q num))])):=a1E _ y.qb _ _ w4 (jb KRS.out.rr.blk 16 _ rfl) KRS.out.rr.m hal;have HRD:Hid (Cp 231 #[zp y.qb,.string y.Q.ms[j].grp] w4 fun e w'=>e=.returned (.tuple #[])/\∃V',RS w4 w' y.qb {y.V with m:=.slice va (vH y.Q num).length vc} V' y.sl.v {y.Q with ms:=vH y.Q num} (xy y.ts y.cnt y.Q.ms[j].grp) (y.cnt+1)):=a0z _ _ _ _ _ y.qb _ w4 KRS.out.rr htl (by omega);have hcl:jZ y.Q.ms[j].grp (vH y.Q num)<=1000:=Nat.le_trans (zq _ _) hal;clear k1 k2 k3 lq;generalize hcg:jZ y.Q.ms[j].grp (vH y.Q num)=cg at*
 generalize hgg:y.Q.ms[j].grp=gg at*
 go_wp2_with fail;refine HOF.out.mono ?_;rintro e w' ⟨rfl,h'⟩;have h'':=h'.symm;subst h'';clear HOF
 by_cases hc0:cg=0
 ·have HTQ:=HT1.out hc0;have HE2:Hid (qw y.Q num={y.Q with ms:=vH y.Q num,rs:=y.Q.rs}):=by
   have:=HEQ.out;rw[if_pos hc0]at this;exact this
  subst hc0;go_wp2_with fail;refine(HA.out _).mono ?_;rintro e w5 ⟨rfl,h5⟩;have HF:Hid (∃V' ts' cnt',RGS w w5 rb Z now (qa Z i (some ⟨y.qb,V',y.sl,qw y.Q num,ts',cnt'⟩))/\TR (qw y.Q num) ts' cnt'/\cnt'<=y.cnt+1):=by
   refine⟨{y.V with m:=.slice va (vH y.Q num).length vc},y.ts,y.cnt,?_,HTQ,Nat.le_succ _⟩;rw[HE2.out];exact HG.out.fin hi hz (KRS.out.rdy y.Q.rs) h5
  clear h5;go_wp2_with fail;go_ret;exact⟨rfl,HF.out⟩
 ·have HTQ:=HT2.out hc0;have HE2:Hid (qw y.Q num={y.Q with ms:=vH y.Q num,rs:=y.Q.rs++[gg]}):=by
   have:=HEQ.out;rw[if_neg hc0]at this;exact this
  have hc1:(0:Int)<(cg:Int):=by omega
  go_wp2_with fail;refine HRD.out.mono ?_;rintro e w5 ⟨rfl,V',hrs⟩;have HRS:Hid _:=hrs;clear hrs HRD;go_wp2_with fail;refine(HA.out _).mono ?_;rintro e w6 ⟨rfl,h6⟩;have HF:Hid (∃V' ts' cnt',RGS w w6 rb Z now (qa Z i (some ⟨y.qb,V',y.sl,qw y.Q num,ts',cnt'⟩))/\TR (qw y.Q num) ts' cnt'/\cnt'<=y.cnt+1):=by
   refine⟨V',_,_,?_,HTQ,Nat.le_refl _⟩;rw[HE2.out];exact HG.out.fin hi hz ((KRS.out.trans HRS.out).rdy (y.Q.rs++[gg])) h6
  clear h6;go_wp2_with fail;go_ret;exact⟨rfl,HF.out⟩
def a0L (rb:Nat)(s:ByteArray)(c:Nat)(w:World):Prop:=∀W,Tch [] w W->zT 228 #[zp rb,.string s] W (.tuple #[.pointer none,.int .i64 0,.int .i64 (c:Int)])
theorem a5O {rb:Nat}(hs:a2N s=none):a0L rb s 7 w:=fun W ht=>(b1k rb s W hs).mono (by rintro e w' ⟨h,rfl⟩;exact⟨h,Tch.refl _ _⟩)
theorem a5P {rb:Nat}{now:Int}{Z:RZ}{num:Nat}(h:RG w rb now Z)(hh:vU s i num rcv)(hi:i<8)(hz:Z i=none):a0L rb s 8 w:=fun W ht=>(b1m rb now (ptR Z) s i num rcv W (h.st.tch ht (by simp)) hh hi (zl hz)).mono (by rintro e w' ⟨h,rfl⟩;exact⟨h,Tch.refl _ _⟩)
theorem a3P {rb:Nat}{now:Int}{Z:RZ}{num:Nat}{y:RQ}(h:RG w rb now Z)(hh:vU s i num rcv)(hi:i<8)(hz:Z i=some y)(hW:QW i y.Q)(hf:kr y.Q num rcv=false):a0L rb s 8 w:=fun W ht=>(a4G rb now (ptR Z) s i num rcv y.qb y.V y.sl.v y.Q y.ts y.cnt W (h.st.tch ht (by simp)) hh hi (kS hz) ((h.rr i y hi hz).tch ht (by simp)) hW).mono (by
 rintro e w' ⟨h1,h2⟩;unfold a0H at h1;rw[hf]at h1;exact⟨h1,h2⟩)
theorem a4n (rb:Nat)(now:Int)(Z:RZ)(r:Wp.Rq)(x:Sl)(c:UInt8)(hc:c.toNat≠0)(w:World)(h:RG w rb now Z)(hH:a0L rb r.han c.toNat w):
  Cp 183 #[zp rb,.agg (ja r x.v)] w fun e w'=>e=.returned (.string ⟨#[c]⟩)/\RGS w w' rb Z now Z:=by
 have HH:Hid (zT 228 #[zp rb,.string r.han] (bxR w r x) (.tuple #[.pointer none,.int .i64 0,.int .i64 (c.toNat:Int)])):=hH _ (jG w r x);have HA:Hid (∀W,zT 140 #[.int .i64 (c.toNat:Int)] W (.string ⟨#[c]⟩)):=fun W=>jL c W
 have HG:Hid (∀W w',Tch [] (bxR w r x) W->Tch [] W w'->RGS w w' rb Z now Z):=fun W w' ht ht'=>h.rgs (((jG w r x).trans ht (fun _ h _=>h)).trans ht' (fun _ h _=>h))
 have e0:=zL r x.v;have hc':¬(c.toNat:Int)=0:=by omega
 clear h hH hc;unfold bxR at*
 rw[e0] at*
 clear e0;generalize (c.toNat:Int)=cn at*
 go_enter Tryz.func183,Tryz.ntmps183;go_wp2_with fail;refine HH.out.mono ?_;rintro e w1 ⟨rfl,h1⟩;have H1:Hid _:=h1;clear HH h1;go_wp2_with fail;refine(HA.out _).mono ?_;rintro e w2 ⟨rfl,h2⟩;have HG2:Hid _:=HG.out w1 w2 H1.out h2;clear HG h2 HA;go_wp2_with fail;go_ret;exact⟨rfl,HG2.out⟩
theorem a4z (rb:Nat)(now:Int)(Z:RZ)(r:Wp.Rq)(x:Sl)(c:UInt8)(hc:c.toNat≠0)(w:World)(h:RG w rb now Z)(hH:a0L rb r.han c.toNat w):
  Cp 184 #[zp rb,.agg (ja r x.v)] w fun e w'=>e=.returned (.string ⟨#[c]⟩)/\RGS w w' rb Z now Z:=by
 have HH:Hid (zT 228 #[zp rb,.string r.han] (bxR w r x) (.tuple #[.pointer none,.int .i64 0,.int .i64 (c.toNat:Int)])):=hH _ (jG w r x);have HA:Hid (∀W,zT 140 #[.int .i64 (c.toNat:Int)] W (.string ⟨#[c]⟩)):=fun W=>jL c W
 have HG:Hid (∀W w',Tch [] (bxR w r x) W->Tch [] W w'->RGS w w' rb Z now Z):=fun W w' ht ht'=>h.rgs (((jG w r x).trans ht (fun _ h _=>h)).trans ht' (fun _ h _=>h))
 have e0:=zL r x.v;have hc':¬(c.toNat:Int)=0:=by omega
 clear h hH hc;unfold bxR at*
 rw[e0] at*
 clear e0;generalize (c.toNat:Int)=cn at*
 go_enter Tryz.func184,Tryz.ntmps184;go_wp2_with fail;refine HH.out.mono ?_;rintro e w1 ⟨rfl,h1⟩;have H1:Hid _:=h1;clear HH h1;go_wp2_with fail;refine(HA.out _).mono ?_;rintro e w2 ⟨rfl,h2⟩;have HG2:Hid _:=HG.out w1 w2 H1.out h2;clear HG h2 HA;go_wp2_with fail;go_ret;exact⟨rfl,HG2.out⟩
theorem RR.setMs (h:RR w qb V sl Q ts cnt){gm cm:Nat}(hv:V.m=.slice (some ⟨gm,0,none⟩) Q.ms.length cm)(j:Nat)(hj:j<Q.ms.length)(o:Nat)(ho:o<5)(u:Value)(m':Ms)(hm:m'.row=Q.ms[j].row.set o u):
  w.frozen? ⟨gm,j*5+o,none⟩=false/\gm<w.heap.size/\(∃v,w.cell? ⟨gm,j*5+o,none⟩=some v)/\RS w (w.setCell ⟨gm,j*5+o,none⟩ u) qb V V sl {Q with ms:=Q.ms.set j m'} ts cnt:=by
 have hmm:=h.m;obtain⟨gb,cap,hvv,lg,hcs⟩:=kA Ms.row 5 (fun _=>rfl) h.m j hj;rw[hv]at hmm hvv;simp only[Value.slice.injEq,Option.some.injEq,Addr.mk.injEq,and_true,true_and]at hvv;obtain⟨rfl,rfl⟩:=hvv;have hgb:V.m.ownBlock=some gm:=by rw[hv];rfl
 have t3:Tch [gm] w (w.setCell ⟨gm,j*5+o,none⟩ u):=(Tch.refl _ _).setCell (fun _=>by simp) _;obtain⟨C,hC⟩:=jV h.m hgb;have ne:∀k C' t,w.heap[k]?=some (.cells C' t (0,0))->t≠271->k≠gm:=fun k C' t hk hne e=>by
  subst e;exact hne (qF hk hC)
 have hrl:=ho;refine⟨World.ownsRow.frozenAt hmm _,lg,⟨_,hcs o _ (List.getElem?_eq_getElem hrl)⟩,⟨jJ (ne _ _ _ h.blk (by decide)) rfl |>.trans h.blk,?_,jO h.t (fun k e=>?_),jO h.d (fun k e=>?_),h.a.keep (fun k e=>?_),h.sep⟩,t3.sub (fun k hk _=>?_),fun b hb=>.inl hb⟩
 ·have h2:=(World.ownsRow.stored hmm (j*5+o) u).1;rw[hv,List.length_set,<-a2L Ms.row 5 (fun _=>rfl) Q.ms j o u m' hj ho hm];exact h2
 ·obtain⟨C',hC'⟩:=jV h.t e;exact jJ (ne _ _ _ hC' (by decide)) rfl
 ·obtain⟨C',hC'⟩:=jV h.d e;exact jJ (ne _ _ _ hC' (by decide)) rfl
 ·obtain⟨C',hC'⟩:=h.a.ty e;exact jJ (ne _ _ _ hC' (by decide)) rfl
 ·simp at hk;subst hk;exact ju.2 (.inr (.inl hgb))
theorem qi {num:Int}(hj:j<Q.ms.length)(hi:jj (isN num) Q.ms=(j:Int))(til:Int):jm Q num til={Q with ms:=Q.ms.set j {Q.ms[j] with til:=til}}:=by
 obtain⟨_,_,hf⟩:=qA _ _ j hi;unfold jm;rw[hf,hi];rfl
def RM (Q:QM):Prop:=∀g∈Q.rs,∃m∈Q.ms,m.grp=g
theorem QW.rm (h:QW n Q):RM Q:=fun g hg=>((h.rr g).1 hg).1
theorem RM.put (h:RM Q)(g b:ByteArray):RM (xx Q g b):=fun a ha=>by
 unfold xx at ha ⊢;simp only at ha ⊢;have h0:a∈Q.rs\/a=g:=by
  split at ha
  ·rw[List.mem_append,List.mem_singleton]at ha;exact ha
  ·exact .inl ha
 rcases h0 with h1|rfl
 ·obtain⟨m,hm,he⟩:=h a h1;exact⟨m,List.mem_append_left _ hm,he⟩
 ·exact⟨_,List.mem_append_right _ List.mem_cons_self,rfl⟩
theorem TR.put (h:TR Q ts cnt)(hr:RM Q)(g b:ByteArray):TR (xx Q g b) (a0J Q ts cnt g) (xU Q cnt g):=by
 have hmem:∀m∈(xx Q g b).ms,(∃m'∈Q.ms,m'.grp=m.grp)\/m.grp=g:=fun m hm=>by
  unfold xx at hm;simp only[List.mem_append,List.mem_singleton]at hm;rcases hm with hm|rfl
  ·exact .inl ⟨m,hm,rfl⟩
  ·exact .inr rfl
 unfold a0J xU
 by_cases hc:jZ g Q.ms=0
 ·have hi:=(a0X g Q.ms).1 hc;rw[if_pos hc,if_pos hc];refine h.rdy Q.rs (List.Sublist.refl _) (fun hg=>?_) ?_ (.inr (Nat.le_refl _)) hmem
  ·obtain⟨m,hm,he⟩:=hr g hg;have:=(qq (isG g) Q.ms).1 hi m hm;rw[(jY g m).2 he]at this;exact absurd this (by decide)
  ·unfold xx;simp only;rw[if_pos hi]
 ·have hi:¬jj (isG g) Q.ms<0:=fun e=>hc ((a0X g Q.ms).2 e)
  rw[if_neg hc,if_neg hc];refine h.sub ?_ (Nat.le_succ _) (fun m hm=>?_)
  ·unfold xx;simp only;rw[if_neg hi];exact List.Sublist.refl _
  ·rcases hmem m hm with h1|h1
   ·exact h1
   ·obtain⟨m',hm',he⟩:=(a2n (isG g) Q.ms).1 (by omega);exact⟨m',hm',((jY g m').1 he).trans h1.symm⟩
theorem b2k (Q:QM)(cnt:Nat)(g:ByteArray):xU Q cnt g<=cnt+1:=by
 unfold xU
 split<;>omega
end Go.Proofs.YtbdobaapadlcjaaGreatDoor.Ref
