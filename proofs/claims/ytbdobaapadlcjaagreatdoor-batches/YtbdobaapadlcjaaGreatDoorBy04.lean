import Derived.Test.YtbdobaapadlcjaaGreatDoorBy03
set_option maxRecDepth 100000
set_option maxHeartbeats 2000000
set_option linter.unusedVariables false
set_option linter.unusedSimpArgs false
namespace Go.Proofs.YtbdobaapadlcjaaGreatDoor.Crc
variable {h:Nat}
def bst (h:Nat):Nat:=if h % 2=1 then (h / 2) ^^^ 3988292384 else h / 2
theorem mod2 (h:Nat):h % 2=0\/h % 2=1:=by omega
theorem b3p (a b:Nat):(a ^^^ b) % 2=(a % 2) ^^^ (b % 2):=Nat.xor_mod_two_pow (n:=1)
theorem b3o (a b:Nat):(a ^^^ b) / 2=(a / 2) ^^^ (b / 2):=Nat.xor_div_two_pow (n:=1)
theorem b3w (a b:Nat):bst (a ^^^ b)=bst a ^^^ bst b:=by
 unfold bst;rw[b3p,b3o];rcases mod2 a with ha|ha<;>rcases mod2 b with hb|hb<;>rw[ha,hb]
 ·rfl
 ·show (a / 2 ^^^ b / 2) ^^^ 3988292384=(a / 2) ^^^ (b / 2 ^^^ 3988292384)
  rw[Nat.xor_assoc]
 ·show (a / 2 ^^^ b / 2) ^^^ 3988292384=(a / 2 ^^^ 3988292384) ^^^ (b / 2)
  rw[Nat.xor_assoc,Nat.xor_assoc,Nat.xor_comm (b / 2)]
 ·show a / 2 ^^^ b / 2=(a / 2 ^^^ 3988292384) ^^^ (b / 2 ^^^ 3988292384)
  rw[Nat.xor_assoc,Nat.xor_comm 3988292384,Nat.xor_assoc,Nat.xor_self,Nat.xor_zero]
theorem bst_even (h:Nat)(e:h % 2=0):bst h=h / 2:=by rw[bst,if_neg (by omega)]
theorem bst_odd (h:Nat)(e:h % 2=1):bst h=(h / 2) ^^^ 3988292384:=by rw[bst,if_pos e]
theorem b6e (hh:h<4294967296):bst h<4294967296:=by
 unfold bst
 split
 ·exact xor_lt (by omega) (by decide)
 ·omega
def bstN:Nat->Nat->Nat
 | 0,h=>h
 | k+1,h=>bst (bstN k h)
theorem bstN_lt (k:Nat){h:Nat}(hh:h<4294967296):bstN k h<4294967296:=by
 induction k with
 | zero=>exact hh
 | succ k ih=>exact b6e ih
theorem b0s (k a b:Nat):bstN k (a ^^^ b)=bstN k a ^^^ bstN k b:=by
 induction k with
 | zero=>rfl
 | succ k ih=>show bst _=bst _ ^^^ bst _;rw[ih,b3w]
theorem b0q (j:Nat)(h:j<16):bstN 4 j=tab.getD j 0:=by
 have:∀j:Fin 16,bstN 4 j.val=tab.getD j.val 0:=by decide
 exact this ⟨j,h⟩
theorem a8X (y:Nat)(h:y % 16=0):bstN 4 y=y / 16:=by
 show bst (bst (bst (bst y)))=_
 rw[bst_even y (by omega),bst_even (y / 2) (by omega),bst_even (y / 2 / 2) (by omega),bst_even (y / 2 / 2 / 2) (by omega)];omega
theorem b7W (x:Nat):bstN 4 x=half x:=by
 have e:x=(x ^^^ (x % 16)) ^^^ (x % 16):=by rw[Nat.xor_assoc,Nat.xor_self,Nat.xor_zero]
 have hm:(x ^^^ (x % 16)) % 16=0:=by
  have:=Nat.xor_mod_two_pow (a:=x) (b:=x % 16) (n:=4);have e4:(2:Nat)^4=16:=rfl;rw[e4]at this;rw[this,Nat.mod_mod,Nat.xor_self]
 have hd:(x ^^^ (x % 16)) / 16=x / 16:=by
  have:=Nat.xor_div_two_pow (a:=x) (b:=x % 16) (n:=4);have e4:(2:Nat)^4=16:=rfl;rw[e4]at this;rw[this,Nat.div_eq_of_lt (Nat.mod_lt x (by decide)),Nat.xor_zero]
 have h1:=b0s 4 (x ^^^ (x % 16)) (x % 16);rw[<-e,a8X _ hm,hd,b0q _ (Nat.mod_lt _ (by decide))]at h1;exact h1
theorem b0r (a b h:Nat):bstN (a+b) h=bstN a (bstN b h):=by
 induction a with
 | zero=>rw[Nat.zero_add];rfl
 | succ a ih=>rw[Nat.succ_add];show bst _=bst _;rw[ih]
theorem b9u (x:Nat):bstN 8 x=half (half x):=by
 rw[show 8=4+4 from rfl,b0r,b7W,b7W]
theorem step_bits (h:Nat)(b:UInt8):step h b=bstN 8 (h ^^^ b.toNat):=(b9u _).symm
theorem xor_i64 (a b:Nat)(ha:a<4294967296)(hb:b<4294967296):bits .xor .i64 (a:Int) (b:Int)=((a ^^^ b:Nat):Int):=by
 have hx:=xor_lt ha hb
 show IntKind.i64.wrap ((BitVec.ofInt 64 (a:Int) ^^^ BitVec.ofInt 64 (b:Int)).toNat:Int)=_
 rw[BitVec.toNat_xor,ofInt_u64 a (by omega),ofInt_u64 b (by omega)];simp[IntKind.wrap,IntKind.bits,IntKind.signed];omega
end Go.Proofs.YtbdobaapadlcjaaGreatDoor.Crc
namespace Go.Proofs.YtbdobaapadlcjaaGreatDoor
open Go.RowKit
theorem Crc.wrap_byte (b:UInt8):wrap64 (b.toNat:Int)=(b.toNat:Int):=by
 have:=b.toNat_lt;simp[wrap64];omega
theorem a9L (s:ByteArray)(w:World)(hs:s.size<=maxLen):
  zE 69 #[.string s] w (.int .i64 (Crc.crc s.data.toList:Nat)):=by
 unfold maxLen at hs;go_enter Tryz.func69,Tryz.ntmps69
 go_wp2
 go_loop [3,4] (fun h i=>∃k:Nat,k<=s.size/\i=.int .i64 k/\h=.int .i64 (Crc.run 4294967295 (s.data.toList.take k):Nat)) (fun _ i=>s.size-(intOf i).toNat)
 case atStart=>exact⟨0,Nat.zero_le _,rfl,rfl⟩
 case round=>
  obtain⟨k,hk,rfl,rfl⟩:=hrel;have hHl:=Crc.run_lt (h:=4294967295) (s.data.toList.take k) (by decide)
  by_cases hlt:k<s.size
  ·have hsn:Crc.run 4294967295 (s.data.toList.take (k+1))=Crc.step (Crc.run 4294967295 (s.data.toList.take k)) s[k]:=by
    rw[<-Crc.run_snoc,List.take_succ_eq_append_getElem (by simpa using hlt)];rfl
   generalize Crc.run 4294967295 (s.data.toList.take k)=H at hHl hsn;rw[Crc.step_bits]at hsn;have e1:bits .xor .i64 (H:Int) (wrap64 (s[k].toNat:Int))=((H ^^^ s[k].toNat:Nat):Int):=by
    rw[Crc.wrap_byte];exact Crc.xor_i64 _ _ hHl (Crc.byte_lt _)
   have l1:=Crc.xor_lt hHl (Crc.byte_lt s[k]);generalize H ^^^ s[k].toNat=X at e1 hsn l1;have HS:=zH hsn;clear hsn
   go_wp2
   go_loop [3,5] (fun h i=>∃j:Nat,j<=8/\i=.int .i64 j/\h=.int .i64 (Crc.bstN j X:Nat)) (fun _ i=>8-(intOf i).toNat)
   case atStart=>exact⟨0,Nat.zero_le _,rfl,rfl⟩
   case round=>
    obtain⟨j,hj,rfl,rfl⟩:=hrel;have hBl:=Crc.bstN_lt j l1
    by_cases hjt:j<8
    ·have HB:Hid (Crc.bstN (j+1) X=Crc.bst (Crc.bstN j X)):=rfl;generalize Crc.bstN j X=Y at hBl HB;rcases Crc.mod2 Y with ho|ho
     ·rw[Crc.bst_even Y ho]at HB
      go_wp2
      go_round
      case rel=>exact⟨j+1,by omega,by go_num,by rw[HB.out];go_num⟩
      case measure=>simp[intOf];omega
     ·rw[Crc.bst_odd Y ho]at HB;have e2:bits .xor .i64 ((Y:Int) / 2) 3988292384=((Y / 2 ^^^ 3988292384:Nat):Int):=Crc.xor_i64 (Y / 2) 3988292384 (by omega) (by decide)
      go_wp2
      go_round
      case rel=>exact⟨j+1,by omega,by go_num,by rw[HB.out]⟩
      case measure=>simp[intOf];omega
    ·have hj8:j=8:=by omega
     subst hj8
     go_wp2
     go_round
     case rel=>exact⟨k+1,by omega,by go_num,by rw[HS.out]⟩
     case measure=>simp[intOf];omega
  ·generalize hH:Crc.run 4294967295 (s.data.toList.take k)=H at hHl;have HH:=zH hH;clear hH;have n1:bits .xor .i64 (H:Int) 4294967295=((H ^^^ 4294967295:Nat):Int):=Crc.xor_i64 H 4294967295 hHl (by decide)
   go_wp2
   go_ret;exact⟨a5f (by first|rw[n1,Nat.xor_comm,Crc.not_sub H hHl,Crc.crc,<-HH.out,List.take_of_length_le (by simp;omega)]|rw[Nat.xor_comm,Crc.not_sub H hHl,Crc.crc,<-HH.out,List.take_of_length_le (by simp;omega)]),rfl⟩
end Go.Proofs.YtbdobaapadlcjaaGreatDoor
namespace Go.Proofs.YtbdobaapadlcjaaGreatDoor.Ref
open Go.RowKit
theorem b4V (w:World):(convert 74 9 (.slice none 0 0)).run Tryz.prog w=.ok (.string ⟨#[]⟩) w:=by
 rw[run_convert_bytes_string w 74 9 5 _ 0 0 Tryz.underlying74 Tryz.underlying5 Tryz.underlying9];simp[Conv.bytesToString];rfl
theorem a8v {w:World}{base:Nat}{v:Value}{l:List UInt8}(h:OwnB w base v l):(convert 74 9 v).run Tryz.prog w=.ok (.string ⟨l.toArray⟩) w:=by
 by_cases hl:0<l.length
 ·exact h.str hl
 ·obtain rfl:l=[]:=List.length_eq_zero_iff.1 (by omega);have h':=h;obtain⟨h1,h2⟩:=h;rcases h2 with ⟨rfl,_⟩|⟨g,cap,cur,rfl,hg,hh,r⟩
  ·exact b4V w
  ·refine run_convert_bytes_back (P:=Tryz.prog) w 74 9 5 ⟨g,0,none⟩ cap [] Tryz.underlying74 Tryz.underlying5 Tryz.underlying9 ?_;intro j hj;exact absurd hj (by simp)
theorem qe (n size:Nat)(w:World)(hn:n<4294967296)(hs:0<size)(hs8:size<=8):
  zB 138 #[.int .i64 (n:Int),.int .i64 (size:Int)] w (.string ⟨(je n size).toArray⟩):=by
 obtain⟨i0,hi,hz0,hz1,hz2⟩:=info_parts zh;go_enter Tryz.func138,Tryz.ntmps138
 go_wp2
 go_loopw [0,5,6] (fun m o i wr=>∃k:Nat,k<=size/\i=.int .i64 k/\m=.int .i64 ((n / 256^k:Nat):Int)/\OwnB wr w.heap.size o (je n k)/\Below w.heap.size w wr) (fun _ _ i _=>size-(intOf i).toNat)
 case atStart=>exact⟨0,Nat.zero_le _,rfl,by simp,World.ownsRow_nil _ _ _ _,Below.refl _ _⟩
 case round=>
  obtain⟨k,hk,rfl,rfl,ho,hbr⟩:=hrel
  by_cases hlt:k<size
  ·have hle:(je n k).length<=8:=by rw[jc];omega
   have hm:n / 256^k<4294967296:=Nat.lt_of_le_of_lt (Nat.div_le_self _ _) hn;have hdiv:Hid (n / 256^(k+1)=n / 256^k / 256):=by
    show _=_
    rw[Nat.pow_succ,Nat.div_div_eq_div_mul]
   have hsn:=a0o (n / 256^k);have HSN:=zH hsn;have hls:=zH (a1D n k);have HBR:=zH hbr;have hsz:=hbr.size;clear hsn hbr;generalize n / 256^k=m at hm hdiv HSN hls;generalize je n k=L at ho hle hls;have HO:=zH ho;clear ho;go_wp2_with (at_builtin;refine wpList_append_own _ rfl _ _ 74 rfl w.heap.size 5 i0 (.int .u8 0) 1 1 Tryz.underlying74 hi hz0 hz1 hz2 rfl (by decide) _ _ _ rfl (World.ownsRow.alloc HO.out _) ⟨wr.heap.size,0,none⟩ 1 1 [.int .u8 ((m:Int) % 256)] rfl rfl ?c1 ?c2 ?c3 ?c4 ?c5 ?_)
   case c1=>exact cell_one_new _ _ _
   case c2=>intro u hu;simp at hu;subst hu;rfl
   case c3=>unfold maxLen;omega
   case c4=>omega
   case c5=>simp;omega
   intro v' w1 hown' hgrow _;have hr1:OwnB w1 w.heap.size v' (je n (k+1)):=by rw[hls.out];exact OwnB.snoc HSN.out hown'
   have hr2:Below w.heap.size w w1:=by
    refine Below.grown ((HBR.out).alloc (by omega) _) hgrow (by simp;omega) ?_;intro k hk;exact(World.ownsRow.lt HO.out k hk).1
   clear hown' hgrow
   go_wp2
   go_roundw
   case rel=>exact⟨k+1,by omega,by go_num,by rw[hdiv.out];go_num,hr1,hr2⟩
   case measure=>simp[intOf];omega
  ·have he:k=size:=by omega
   subst he;have hcv:=a8v ho
   go_wp2
   go_ret;exact⟨rfl,hbr⟩
theorem a7O (l:List UInt8)(s:ByteArray):(⟨l.toArray⟩:ByteArray)++s=⟨(l++s.data.toList).toArray⟩:=by
 apply ByteArray.ext;apply Array.toList_inj.1;simp[ByteArray.data_append]
theorem a0n (l m:List UInt8):(⟨l.toArray⟩:ByteArray)++⟨m.toArray⟩=⟨(l++m).toArray⟩:=a7O l ⟨m.toArray⟩
theorem qh (s:ByteArray)(w:World)(hs:s.size<=255):
  zB 139 #[.string s] w (.string ⟨(jx s).toArray⟩):=by
 have hlow:Hid (zB 138 #[.int .i64 (s.size:Int),.int .i64 1] w (.string ⟨(je s.size 1).toArray⟩)):=qe s.size 1 w (by omega) (by decide) (by decide);have hv:Hid ((⟨(je s.size 1).toArray⟩:ByteArray)++s=⟨(jx s).toArray⟩):=a7O _ _;have hsz:(⟨(je s.size 1).toArray⟩:ByteArray).size=1:=by show (je s.size 1).toArray.size=1;simp[jc]
 generalize (⟨(je s.size 1).toArray⟩:ByteArray)=L at hlow hv hsz;go_enter Tryz.func139,Tryz.ntmps139;go_wp2_with (go_at_call 138;refine(hlow.out).mono ?_;rintro e w' ⟨rfl,hb⟩);go_ret;exact⟨qQ hv.out,hb⟩
theorem b1H (s:ByteArray)(k:Nat)(h:k<s.size):leN (s.data.toList.drop k)=s[k].toNat+256*leN (s.data.toList.drop (k+1)):=by
 rw[List.drop_eq_getElem_cons (by simpa using h)];rfl
theorem qJ (s:ByteArray)(w:World)(hs:s.size<=2):
  zE 177 #[.string s] w (.int .i64 (leN s.data.toList:Nat)):=by
 go_enter Tryz.func177,Tryz.ntmps177
 go_wp2
 go_loop [3,4] (fun n i=>∃k:Nat,k<=s.size/\i=.int .i64 ((k:Int)-1)/\n=.int .i64 (leN (s.data.toList.drop k):Nat)) (fun _ i=>(intOf i+1).toNat)
 case atStart=>exact⟨s.size,Nat.le_refl _,rfl,by rw[List.drop_of_length_le (by simp)];rfl⟩
 case round=>
  obtain⟨k,hk,rfl,rfl⟩:=hrel
  by_cases hlt:0<k
  ·obtain⟨m,rfl⟩:∃m,k=m+1:=⟨k-1,by omega⟩;have hr:=a3a (s.data.toList.drop (m+1));have hl:(s.data.toList.drop (m+1)).length<=1:=by simp;omega
   have hr2:leN (s.data.toList.drop (m+1))<256:=Nat.lt_of_lt_of_le hr (Nat.pow_le_pow_right (by decide) hl);have hv:=zH (b1H s m (by omega));have hbl:=s[m].toNat_lt;generalize leN (s.data.toList.drop (m+1))=N at hr2 hv;clear hr hl;have hix:((m+1:Nat):Int)-1=(m:Int):=by omega
   rw[hix]
   go_wp2
   go_round
   case rel=>exact⟨m,by omega,by go_num,by rw[hv.out];go_num⟩
   case measure=>simp[intOf]
  ·obtain rfl:k=0:=by omega
   go_wp2
   go_ret;exact⟨rfl,rfl⟩
theorem a2S (n lo hi:Int)(w:World):
  zE 136 #[.int .i64 n,.int .i64 lo,.int .i64 hi] w (.bool (decide (lo<=n)&&decide (n<=hi))):=by
 by_cases h:lo<=n
 ·have hv:Hid ((decide (lo<=n)&&decide (n<=hi))=decide (n<=hi)):=by show _=_;simp[h]
  go_enter Tryz.func136,Tryz.ntmps136
  go_wp2
  go_ret;exact⟨js (by rw[hv.out]),rfl⟩
 ·have hv:Hid ((decide (lo<=n)&&decide (n<=hi))=false):=by show _=_;simp[h]
  go_enter Tryz.func136,Tryz.ntmps136
  go_wp2
  go_ret;exact⟨js (by rw[hv.out]),rfl⟩
theorem vK (c:UInt8)(w:World):
  zE 134 #[.int .u8 (c.toNat:Int)] w (.bool (decide (97<=c.toNat)&&decide (c.toNat<=104))):=by
 have hc:=c.toNat_lt;generalize c.toNat=n at hc
 by_cases h:97<=n
 ·have hv:Hid ((decide (97<=n)&&decide (n<=104))=decide (n<=104)):=by show _=_;simp[h]
  go_enter Tryz.func134,Tryz.ntmps134
  go_wp2
  go_ret;exact⟨js (by rw[hv.out];simp;omega),rfl⟩
 ·have hv:Hid ((decide (97<=n)&&decide (n<=104))=false):=by show _=_;simp[h]
  go_enter Tryz.func134,Tryz.ntmps134
  go_wp2
  go_ret;exact⟨rfl,rfl⟩
def b1 (c:UInt8):ByteArray:=⟨#[c]⟩
theorem kB (W:World)(g:Nat)(c:UInt8)(hg:g=W.heap.size):(convert 74 9 (.slice (some ⟨g,0,none⟩) 1 1)).run Tryz.prog (W.alloc (.cells #[.int .u8 (c.toNat:Int)] 5))=.ok (.string (b1 c)) (W.alloc (.cells #[.int .u8 (c.toNat:Int)] 5)):=by
 subst hg;refine run_convert_bytes_back (P:=Tryz.prog) _ 74 9 5 ⟨W.heap.size,0,none⟩ 1 [c] Tryz.underlying74 Tryz.underlying5 Tryz.underlying9 ?_;intro j hj;obtain rfl:j=0:=by simp at hj;omega
 exact cell_one_new _ _ _ 0 _ rfl
theorem vh (n k:Nat):(⟨(je n k).toArray⟩:ByteArray).size=k:=by show (je n k).toArray.size=k;simp[jc]
theorem xP (w:World)(A B C:Obj):Below w.heap.size w (((w.alloc A).alloc B).alloc C):=
 (((Below.refl _ _).alloc (Nat.le_refl _) _).alloc (by simp) _).alloc (by simp;omega) _
theorem a2Q (w:World)(A B C:Obj):(((w.alloc A).alloc B).alloc C).heap[w.heap.size]?=some A:=by
 rw[Below.heap_alloc _ _ _ (by simp;omega),heap_alloc2_old]
theorem a3u (r:Wp.Rq)(x:Sl)(bs:List ByteArray)(w:World)(h:r.op.toNat=67)(h_vis:0<=r.vis/\r.vis<=1000)(h_win:0<=r.win/\r.win<=1000)(h_rcv:0<=r.rcv/\r.rcv<=1000)(h_quo:0<=r.quo/\r.quo<=1000):
  zB 103 #[.agg (ja r x.v)] w (.string ⟨(r.op::kW r bs (Wp.lay 2)).toArray⟩):=by
 have hI:((r.op.toNat:Nat):Int)=67:=by omega
 have HOP:Hid (r.op=67):=UInt8.toNat_inj.1 h;obtain⟨n_vis,e_vis⟩:∃v:Nat,r.vis=(v:Int):=⟨r.vis.toNat,by omega⟩;obtain⟨n_win,e_win⟩:∃v:Nat,r.win=(v:Int):=⟨r.win.toNat,by omega⟩;obtain⟨n_rcv,e_rcv⟩:∃v:Nat,r.rcv=(v:Int):=⟨r.rcv.toNat,by omega⟩;obtain⟨n_quo,e_quo⟩:∃v:Nat,r.quo=(v:Int):=⟨r.quo.toNat,by omega⟩;obtain⟨A0,HA0⟩:∃A,Hid (A=(⟨(je n_vis 2).toArray⟩:ByteArray)):=⟨_,rfl⟩;have z0:A0.size=2:=by rw[HA0.out];exact vh _ _
 have HC0:Hid (∀W:World,zB 138 #[.int .i64 (n_vis:Int),.int .i64 2] W (.string A0)):=fun W=>by rw[HA0.out];exact qe n_vis 2 W (by omega) (by decide) (by decide)
 obtain⟨A1,HA1⟩:∃A,Hid (A=(⟨(je n_win 2).toArray⟩:ByteArray)):=⟨_,rfl⟩;have z1:A1.size=2:=by rw[HA1.out];exact vh _ _
 have HC1:Hid (∀W:World,zB 138 #[.int .i64 (n_win:Int),.int .i64 2] W (.string A1)):=fun W=>by rw[HA1.out];exact qe n_win 2 W (by omega) (by decide) (by decide)
 obtain⟨A2,HA2⟩:∃A,Hid (A=(⟨(je n_rcv 1).toArray⟩:ByteArray)):=⟨_,rfl⟩;have z2:A2.size=1:=by rw[HA2.out];exact vh _ _
 have HC2:Hid (∀W:World,zB 138 #[.int .i64 (n_rcv:Int),.int .i64 1] W (.string A2)):=fun W=>by rw[HA2.out];exact qe n_rcv 1 W (by omega) (by decide) (by decide)
 obtain⟨A3,HA3⟩:∃A,Hid (A=(⟨(je n_quo 1).toArray⟩:ByteArray)):=⟨_,rfl⟩;have z3:A3.size=1:=by rw[HA3.out];exact vh _ _
 have HC3:Hid (∀W:World,zB 138 #[.int .i64 (n_quo:Int),.int .i64 1] W (.string A3)):=fun W=>by rw[HA3.out];exact qe n_quo 1 W (by omega) (by decide) (by decide)
 have E_vis:=zH e_vis;have E_win:=zH e_win;have E_rcv:=zH e_rcv;have E_quo:=zH e_quo;have hcone:=kB;have hcop:∀(W:World) (g:Nat),g=W.heap.size->(convert 74 9 (.slice (some ⟨g,0,none⟩) 1 1)).run Tryz.prog (W.alloc (.cells #[.int .u8 67] 5))=.ok (.string (b1 67)) (W.alloc (.cells #[.int .u8 67] 5)):=fun W g hg=>kB W g 67 hg
 have hz1:∀c,(b1 c).size=1:=fun _=>rfl
 have HCL:Hid (ja r x.v=#[.int .u8 67,.int .u8 (r.q.toNat:Int),.int .u8 (r.d.toNat:Int),.int .i64 (n_vis:Int),.int .i64 (n_win:Int),.int .i64 (n_rcv:Int),.int .i64 (n_quo:Int),.int .i64 r.mx,.int .i64 r.tic,.string r.grp,.string r.ded,.string r.bod,.string r.att,.string r.han,.slice x.a x.n x.c]):=by
  show _=_
  unfold ja Sl.v;rw[hI,e_vis,e_win,e_rcv,e_quo]
 rw[HCL.out];clear h hI e_vis e_win e_rcv e_quo;go_enter Tryz.func103,Tryz.ntmps103;go_wp2_with fail;refine(HC0.out _).mono ?_;rintro e w1 ⟨rfl,hb⟩;have HB1:Hid (Below w.heap.size w w1):=(xP _ _ _ _).trans (hb.mono (by simp;omega));have HK1:Hid (Blk w1 w.heap.size r x):=by
  show Blk _ _ _ _
  unfold Blk;rw[hb.block w.heap.size (by simp;omega),a2Q,HCL.out]
 clear hb;have c0_win:w1.cell? ⟨w.heap.size,4,none⟩=some (.int .i64 (n_win:Int)):=by rw[<-E_win.out];exact HK1.out.box 4 _ rfl
 go_wp2_with fail;refine(HC1.out _).mono ?_;rintro e w2 ⟨rfl,hb⟩;have HB2:=zH (HB1.out.trans (hb.mono HB1.out.size));have HK2:Hid (Blk w2 w.heap.size r x):=(hb.block w.heap.size (Array.getElem?_eq_some_iff.1 HK1.out).1).trans HK1.out;clear hb;have c1_rcv:w2.cell? ⟨w.heap.size,5,none⟩=some (.int .i64 (n_rcv:Int)):=by rw[<-E_rcv.out];exact HK2.out.box 5 _ rfl
 go_wp2_with fail;refine(HC2.out _).mono ?_;rintro e w3 ⟨rfl,hb⟩;have HB3:=zH (HB2.out.trans (hb.mono HB2.out.size));have HK3:Hid (Blk w3 w.heap.size r x):=(hb.block w.heap.size (Array.getElem?_eq_some_iff.1 HK2.out).1).trans HK2.out;clear hb;have c2_quo:w3.cell? ⟨w.heap.size,6,none⟩=some (.int .i64 (n_quo:Int)):=by rw[<-E_quo.out];exact HK3.out.box 6 _ rfl
 go_wp2_with fail;refine(HC3.out _).mono ?_;rintro e w4 ⟨rfl,hb⟩;have HB4:=zH (HB3.out.trans (hb.mono HB3.out.size));have HK4:Hid (Blk w4 w.heap.size r x):=(hb.block w.heap.size (Array.getElem?_eq_some_iff.1 HK3.out).1).trans HK3.out;clear hb;have cd:w4.cell? ⟨w.heap.size,2,none⟩=some (.int .u8 (r.d.toNat:Int)):=HK4.out.box 2 _ rfl;go_wp2_with fail;go_ret;refine⟨qQ (kI ?_),HB4.out.alloc HB4.out.size _⟩;rw[HA0.out,HA1.out,HA2.out,HA3.out,HOP.out];simp[ByteArray.data_append,b1,kW,jU,Wp.lay,Wp.layTab,Wp.shape,Wp.rowTab,Wp.Rq.let,Wp.Rq.num,Wp.Rq.txt,E_vis.out,E_win.out,E_rcv.out,E_quo.out,Int.toNat_natCast]
theorem a7K (r:Wp.Rq)(x:Sl)(bs:List ByteArray)(w:World)(h:r.op.toNat=83)(h_grp:r.grp.size<=255)(h_ded:r.ded.size<=255)(h_bod:r.bod.size<=255):
  zB 103 #[.agg (ja r x.v)] w (.string ⟨(r.op::kW r bs (Wp.lay 18)).toArray⟩):=by
 have hI:((r.op.toNat:Nat):Int)=83:=by omega
 have HOP:Hid (r.op=83):=UInt8.toNat_inj.1 h;obtain⟨A0,HA0⟩:∃A,Hid (A=(⟨(jx r.grp).toArray⟩:ByteArray)):=⟨_,rfl⟩;have z0:A0.size=1+r.grp.size:=by rw[HA0.out];show (jx r.grp).toArray.size=_;simp[jp]
 have HC0:Hid (∀W:World,zB 139 #[.string r.grp] W (.string A0)):=fun W=>by rw[HA0.out];exact qh r.grp W h_grp
 obtain⟨A1,HA1⟩:∃A,Hid (A=(⟨(jx r.ded).toArray⟩:ByteArray)):=⟨_,rfl⟩;have z1:A1.size=1+r.ded.size:=by rw[HA1.out];show (jx r.ded).toArray.size=_;simp[jp]
 have HC1:Hid (∀W:World,zB 139 #[.string r.ded] W (.string A1)):=fun W=>by rw[HA1.out];exact qh r.ded W h_ded
 obtain⟨A2,HA2⟩:∃A,Hid (A=(⟨(jx r.bod).toArray⟩:ByteArray)):=⟨_,rfl⟩;have z2:A2.size=1+r.bod.size:=by rw[HA2.out];show (jx r.bod).toArray.size=_;simp[jp]
 have HC2:Hid (∀W:World,zB 139 #[.string r.bod] W (.string A2)):=fun W=>by rw[HA2.out];exact qh r.bod W h_bod
 have hcone:=kB;have hcop:∀(W:World) (g:Nat),g=W.heap.size->(convert 74 9 (.slice (some ⟨g,0,none⟩) 1 1)).run Tryz.prog (W.alloc (.cells #[.int .u8 83] 5))=.ok (.string (b1 83)) (W.alloc (.cells #[.int .u8 83] 5)):=fun W g hg=>kB W g 83 hg
 have hz1:∀c,(b1 c).size=1:=fun _=>rfl
 have HCL:Hid (ja r x.v=#[.int .u8 83,.int .u8 (r.q.toNat:Int),.int .u8 (r.d.toNat:Int),.int .i64 r.vis,.int .i64 r.win,.int .i64 r.rcv,.int .i64 r.quo,.int .i64 r.mx,.int .i64 r.tic,.string r.grp,.string r.ded,.string r.bod,.string r.att,.string r.han,.slice x.a x.n x.c]):=by
  show _=_
  unfold ja Sl.v;rw[hI]
 rw[HCL.out];clear h hI;go_enter Tryz.func103,Tryz.ntmps103;go_wp2_with fail;refine(HC0.out _).mono ?_;rintro e w1 ⟨rfl,hb⟩;have HB1:Hid (Below w.heap.size w w1):=(xP _ _ _ _).trans (hb.mono (by simp;omega));have HK1:Hid (Blk w1 w.heap.size r x):=by
  show Blk _ _ _ _
  unfold Blk;rw[hb.block w.heap.size (by simp;omega),a2Q,HCL.out]
 clear hb;have c0_ded:w1.cell? ⟨w.heap.size,10,none⟩=some (.string r.ded):=HK1.out.box 10 _ rfl;go_wp2_with fail;refine(HC1.out _).mono ?_;rintro e w2 ⟨rfl,hb⟩;have HB2:=zH (HB1.out.trans (hb.mono HB1.out.size));have HK2:Hid (Blk w2 w.heap.size r x):=(hb.block w.heap.size (Array.getElem?_eq_some_iff.1 HK1.out).1).trans HK1.out;clear hb;have c1_bod:w2.cell? ⟨w.heap.size,11,none⟩=some (.string r.bod):=HK2.out.box 11 _ rfl;go_wp2_with fail;refine(HC2.out _).mono ?_;rintro e w3 ⟨rfl,hb⟩;have HB3:=zH (HB2.out.trans (hb.mono HB2.out.size));clear hb;go_wp2_with fail;go_ret;refine⟨qQ (kI ?_),HB3.out⟩;rw[HA0.out,HA1.out,HA2.out,HOP.out];simp[ByteArray.data_append,b1,kW,jU,Wp.lay,Wp.layTab,Wp.shape,Wp.rowTab,Wp.Rq.let,Wp.Rq.num,Wp.Rq.txt,Int.toNat_natCast]
theorem a7J (r:Wp.Rq)(x:Sl)(bs:List ByteArray)(w:World)(h:r.op.toNat=82)(h_mx:0<=r.mx/\r.mx<=1000)(h_att:r.att.size<=255):
  zB 103 #[.agg (ja r x.v)] w (.string ⟨(r.op::kW r bs (Wp.lay 17)).toArray⟩):=by
 have hI:((r.op.toNat:Nat):Int)=82:=by omega
 have HOP:Hid (r.op=82):=UInt8.toNat_inj.1 h;obtain⟨n_mx,e_mx⟩:∃v:Nat,r.mx=(v:Int):=⟨r.mx.toNat,by omega⟩;obtain⟨A0,HA0⟩:∃A,Hid (A=(⟨(jx r.att).toArray⟩:ByteArray)):=⟨_,rfl⟩;have z0:A0.size=1+r.att.size:=by rw[HA0.out];show (jx r.att).toArray.size=_;simp[jp]
 have HC0:Hid (∀W:World,zB 139 #[.string r.att] W (.string A0)):=fun W=>by rw[HA0.out];exact qh r.att W h_att
 obtain⟨A1,HA1⟩:∃A,Hid (A=(⟨(je n_mx 1).toArray⟩:ByteArray)):=⟨_,rfl⟩;have z1:A1.size=1:=by rw[HA1.out];exact vh _ _
 have HC1:Hid (∀W:World,zB 138 #[.int .i64 (n_mx:Int),.int .i64 1] W (.string A1)):=fun W=>by rw[HA1.out];exact qe n_mx 1 W (by omega) (by decide) (by decide)
 have E_mx:=zH e_mx;have hcone:=kB;have hcop:∀(W:World) (g:Nat),g=W.heap.size->(convert 74 9 (.slice (some ⟨g,0,none⟩) 1 1)).run Tryz.prog (W.alloc (.cells #[.int .u8 82] 5))=.ok (.string (b1 82)) (W.alloc (.cells #[.int .u8 82] 5)):=fun W g hg=>kB W g 82 hg
 have hz1:∀c,(b1 c).size=1:=fun _=>rfl
 have HCL:Hid (ja r x.v=#[.int .u8 82,.int .u8 (r.q.toNat:Int),.int .u8 (r.d.toNat:Int),.int .i64 r.vis,.int .i64 r.win,.int .i64 r.rcv,.int .i64 r.quo,.int .i64 (n_mx:Int),.int .i64 r.tic,.string r.grp,.string r.ded,.string r.bod,.string r.att,.string r.han,.slice x.a x.n x.c]):=by
  show _=_
  unfold ja Sl.v;rw[hI,e_mx]
 rw[HCL.out];clear h hI e_mx;go_enter Tryz.func103,Tryz.ntmps103;go_wp2_with fail;refine(HC0.out _).mono ?_;rintro e w1 ⟨rfl,hb⟩;have HB1:Hid (Below w.heap.size w w1):=(xP _ _ _ _).trans (hb.mono (by simp;omega));have HK1:Hid (Blk w1 w.heap.size r x):=by
  show Blk _ _ _ _
  unfold Blk;rw[hb.block w.heap.size (by simp;omega),a2Q,HCL.out]
 clear hb;have c0_mx:w1.cell? ⟨w.heap.size,7,none⟩=some (.int .i64 (n_mx:Int)):=by rw[<-E_mx.out];exact HK1.out.box 7 _ rfl
 go_wp2_with fail;refine(HC1.out _).mono ?_;rintro e w2 ⟨rfl,hb⟩;have HB2:=zH (HB1.out.trans (hb.mono HB1.out.size));clear hb;go_wp2_with fail;go_ret;refine⟨qQ (kI ?_),HB2.out⟩;rw[HA0.out,HA1.out,HOP.out];simp[ByteArray.data_append,b1,kW,jU,Wp.lay,Wp.layTab,Wp.shape,Wp.rowTab,Wp.Rq.let,Wp.Rq.num,Wp.Rq.txt,E_mx.out,Int.toNat_natCast]
theorem a7F (r:Wp.Rq)(x:Sl)(bs:List ByteArray)(w:World)(h:r.op.toNat=65)(h_han:r.han.size<=255):
  zB 103 #[.agg (ja r x.v)] w (.string ⟨(r.op::kW r bs (Wp.lay 0)).toArray⟩):=by
 have hI:((r.op.toNat:Nat):Int)=65:=by omega
 have HOP:Hid (r.op=65):=UInt8.toNat_inj.1 h;obtain⟨A0,HA0⟩:∃A,Hid (A=(⟨(jx r.han).toArray⟩:ByteArray)):=⟨_,rfl⟩;have z0:A0.size=1+r.han.size:=by rw[HA0.out];show (jx r.han).toArray.size=_;simp[jp]
 have HC0:Hid (∀W:World,zB 139 #[.string r.han] W (.string A0)):=fun W=>by rw[HA0.out];exact qh r.han W h_han
 have hcone:=kB;have hcop:∀(W:World) (g:Nat),g=W.heap.size->(convert 74 9 (.slice (some ⟨g,0,none⟩) 1 1)).run Tryz.prog (W.alloc (.cells #[.int .u8 65] 5))=.ok (.string (b1 65)) (W.alloc (.cells #[.int .u8 65] 5)):=fun W g hg=>kB W g 65 hg
 have hz1:∀c,(b1 c).size=1:=fun _=>rfl
 have HCL:Hid (ja r x.v=#[.int .u8 65,.int .u8 (r.q.toNat:Int),.int .u8 (r.d.toNat:Int),.int .i64 r.vis,.int .i64 r.win,.int .i64 r.rcv,.int .i64 r.quo,.int .i64 r.mx,.int .i64 r.tic,.string r.grp,.string r.ded,.string r.bod,.string r.att,.string r.han,.slice x.a x.n x.c]):=by
  show _=_
  unfold ja Sl.v;rw[hI]
 rw[HCL.out];clear h hI;go_enter Tryz.func103,Tryz.ntmps103;go_wp2_with fail;refine(HC0.out _).mono ?_;rintro e w1 ⟨rfl,hb⟩;have HB1:Hid (Below w.heap.size w w1):=(xP _ _ _ _).trans (hb.mono (by simp;omega));clear hb;go_wp2_with fail;go_ret;refine⟨qQ (kI ?_),HB1.out⟩;rw[HA0.out,HOP.out];simp[ByteArray.data_append,b1,kW,jU,Wp.lay,Wp.layTab,Wp.shape,Wp.rowTab,Wp.Rq.let,Wp.Rq.num,Wp.Rq.txt,Int.toNat_natCast]
theorem a7H (r:Wp.Rq)(x:Sl)(bs:List ByteArray)(w:World)(h:r.op.toNat=69)(h_tic:0<=r.tic/\r.tic<=1000)(h_han:r.han.size<=255):
  zB 103 #[.agg (ja r x.v)] w (.string ⟨(r.op::kW r bs (Wp.lay 4)).toArray⟩):=by
 have hI:((r.op.toNat:Nat):Int)=69:=by omega
 have HOP:Hid (r.op=69):=UInt8.toNat_inj.1 h;obtain⟨n_tic,e_tic⟩:∃v:Nat,r.tic=(v:Int):=⟨r.tic.toNat,by omega⟩;obtain⟨A0,HA0⟩:∃A,Hid (A=(⟨(jx r.han).toArray⟩:ByteArray)):=⟨_,rfl⟩;have z0:A0.size=1+r.han.size:=by rw[HA0.out];show (jx r.han).toArray.size=_;simp[jp]
 have HC0:Hid (∀W:World,zB 139 #[.string r.han] W (.string A0)):=fun W=>by rw[HA0.out];exact qh r.han W h_han
 obtain⟨A1,HA1⟩:∃A,Hid (A=(⟨(je n_tic 2).toArray⟩:ByteArray)):=⟨_,rfl⟩;have z1:A1.size=2:=by rw[HA1.out];exact vh _ _
 have HC1:Hid (∀W:World,zB 138 #[.int .i64 (n_tic:Int),.int .i64 2] W (.string A1)):=fun W=>by rw[HA1.out];exact qe n_tic 2 W (by omega) (by decide) (by decide)
 have E_tic:=zH e_tic;have hcone:=kB;have hcop:∀(W:World) (g:Nat),g=W.heap.size->(convert 74 9 (.slice (some ⟨g,0,none⟩) 1 1)).run Tryz.prog (W.alloc (.cells #[.int .u8 69] 5))=.ok (.string (b1 69)) (W.alloc (.cells #[.int .u8 69] 5)):=fun W g hg=>kB W g 69 hg
 have hz1:∀c,(b1 c).size=1:=fun _=>rfl
 have HCL:Hid (ja r x.v=#[.int .u8 69,.int .u8 (r.q.toNat:Int),.int .u8 (r.d.toNat:Int),.int .i64 r.vis,.int .i64 r.win,.int .i64 r.rcv,.int .i64 r.quo,.int .i64 r.mx,.int .i64 (n_tic:Int),.string r.grp,.string r.ded,.string r.bod,.string r.att,.string r.han,.slice x.a x.n x.c]):=by
  show _=_
  unfold ja Sl.v;rw[hI,e_tic]
 rw[HCL.out];clear h hI e_tic;go_enter Tryz.func103,Tryz.ntmps103;go_wp2_with fail;refine(HC0.out _).mono ?_;rintro e w1 ⟨rfl,hb⟩;have HB1:Hid (Below w.heap.size w w1):=(xP _ _ _ _).trans (hb.mono (by simp;omega));have HK1:Hid (Blk w1 w.heap.size r x):=by
  show Blk _ _ _ _
  unfold Blk;rw[hb.block w.heap.size (by simp;omega),a2Q,HCL.out]
 clear hb;have c0_tic:w1.cell? ⟨w.heap.size,8,none⟩=some (.int .i64 (n_tic:Int)):=by rw[<-E_tic.out];exact HK1.out.box 8 _ rfl
 go_wp2_with fail;refine(HC1.out _).mono ?_;rintro e w2 ⟨rfl,hb⟩;have HB2:=zH (HB1.out.trans (hb.mono HB1.out.size));clear hb;go_wp2_with fail;go_ret;refine⟨qQ (kI ?_),HB2.out⟩;rw[HA0.out,HA1.out,HOP.out];simp[ByteArray.data_append,b1,kW,jU,Wp.lay,Wp.layTab,Wp.shape,Wp.rowTab,Wp.Rq.let,Wp.Rq.num,Wp.Rq.txt,E_tic.out,Int.toNat_natCast]
theorem a7L (r:Wp.Rq)(x:Sl)(bs:List ByteArray)(w:World)(h:r.op.toNat=84)(h_tic:0<=r.tic/\r.tic<=1000):
  zB 103 #[.agg (ja r x.v)] w (.string ⟨(r.op::kW r bs (Wp.lay 19)).toArray⟩):=by
 have hI:((r.op.toNat:Nat):Int)=84:=by omega
 have HOP:Hid (r.op=84):=UInt8.toNat_inj.1 h;obtain⟨n_tic,e_tic⟩:∃v:Nat,r.tic=(v:Int):=⟨r.tic.toNat,by omega⟩;obtain⟨A0,HA0⟩:∃A,Hid (A=(⟨(je n_tic 2).toArray⟩:ByteArray)):=⟨_,rfl⟩;have z0:A0.size=2:=by rw[HA0.out];exact vh _ _
 have HC0:Hid (∀W:World,zB 138 #[.int .i64 (n_tic:Int),.int .i64 2] W (.string A0)):=fun W=>by rw[HA0.out];exact qe n_tic 2 W (by omega) (by decide) (by decide)
 have E_tic:=zH e_tic;have hcone:=kB;have hcop:∀(W:World) (g:Nat),g=W.heap.size->(convert 74 9 (.slice (some ⟨g,0,none⟩) 1 1)).run Tryz.prog (W.alloc (.cells #[.int .u8 84] 5))=.ok (.string (b1 84)) (W.alloc (.cells #[.int .u8 84] 5)):=fun W g hg=>kB W g 84 hg
 have hz1:∀c,(b1 c).size=1:=fun _=>rfl
 have HCL:Hid (ja r x.v=#[.int .u8 84,.int .u8 (r.q.toNat:Int),.int .u8 (r.d.toNat:Int),.int .i64 r.vis,.int .i64 r.win,.int .i64 r.rcv,.int .i64 r.quo,.int .i64 r.mx,.int .i64 (n_tic:Int),.string r.grp,.string r.ded,.string r.bod,.string r.att,.string r.han,.slice x.a x.n x.c]):=by
  show _=_
  unfold ja Sl.v;rw[hI,e_tic]
 rw[HCL.out];clear h hI e_tic;go_enter Tryz.func103,Tryz.ntmps103;go_wp2_with fail;refine(HC0.out _).mono ?_;rintro e w1 ⟨rfl,hb⟩;have HB1:Hid (Below w.heap.size w w1):=(xP _ _ _ _).trans (hb.mono (by simp;omega));clear hb;go_wp2_with fail;go_ret;refine⟨qQ (kI ?_),HB1.out⟩;rw[HA0.out,HOP.out];simp[ByteArray.data_append,b1,kW,jU,Wp.lay,Wp.layTab,Wp.shape,Wp.rowTab,Wp.Rq.let,Wp.Rq.num,Wp.Rq.txt,E_tic.out,Int.toNat_natCast]
theorem a1S (r:Wp.Rq)(x:Sl)(bs:List ByteArray)(w:World)(n l:Nat)(N:Int)(u:UInt8)(hx:n=88/\l=23/\N=88/\u=88\/n=80/\l=15/\N=80/\u=80\/n=86/\l=21/\N=86/\u=86)(h:r.op.toNat=n):
  zB 103 #[.agg (ja r x.v)] w (.string ⟨(r.op::kW r bs (Wp.lay l)).toArray⟩):=by
 have ⟨hI,HOP,hcop⟩:((r.op.toNat:Nat):Int)=N/\Hid (r.op=u)/\∀(W:World) (g:Nat),g=W.heap.size->(convert 74 9 (.slice (some ⟨g,0,none⟩) 1 1)).run Tryz.prog (W.alloc (.cells #[.int .u8 N] 5))=.ok (.string (b1 u)) (W.alloc (.cells #[.int .u8 N] 5)):=by
  rcases hx with ⟨rfl,rfl,rfl,rfl⟩|⟨rfl,rfl,rfl,rfl⟩|⟨rfl,rfl,rfl,rfl⟩<;>exact⟨by omega,UInt8.toNat_inj.1 h,fun W g hg=>by first|exact kB W g 88 hg|exact kB W g 80 hg|exact kB W g 86 hg⟩
 have hcone:=kB;have hz1:∀c,(b1 c).size=1:=fun _=>rfl
 have HCL:Hid (ja r x.v=#[.int .u8 N,.int .u8 (r.q.toNat:Int),.int .u8 (r.d.toNat:Int),.int .i64 r.vis,.int .i64 r.win,.int .i64 r.rcv,.int .i64 r.quo,.int .i64 r.mx,.int .i64 r.tic,.string r.grp,.string r.ded,.string r.bod,.string r.att,.string r.han,.slice x.a x.n x.c]):=by
  show _=_
  unfold ja Sl.v;rw[hI]
 rw[HCL.out];clear h hI;rcases hx with ⟨rfl,rfl,rfl,rfl⟩|⟨rfl,rfl,rfl,rfl⟩|⟨rfl,rfl,rfl,rfl⟩
 all_goals
  go_enter Tryz.func103,Tryz.ntmps103;go_wp2_with fail;go_ret;refine⟨qQ (kI ?_),xP _ _ _ _⟩;rw[HOP.out];simp[ByteArray.data_append,b1,kW,jU,Wp.lay,Wp.layTab,Wp.shape,Wp.rowTab,Wp.Rq.let,Wp.Rq.num,Wp.Rq.txt,Int.toNat_natCast]
theorem a7N (r:Wp.Rq)(x:Sl)(bs:List ByteArray)(w:World)(h:r.op.toNat=88):
  zB 103 #[.agg (ja r x.v)] w (.string ⟨(r.op::kW r bs (Wp.lay 23)).toArray⟩):=
 a1S r x bs w 88 23 88 88 (by simp) h
theorem a7I (r:Wp.Rq)(x:Sl)(bs:List ByteArray)(w:World)(h:r.op.toNat=80):
  zB 103 #[.agg (ja r x.v)] w (.string ⟨(r.op::kW r bs (Wp.lay 15)).toArray⟩):=
 a1S r x bs w 80 15 80 80 (by simp) h
theorem a7M (r:Wp.Rq)(x:Sl)(bs:List ByteArray)(w:World)(h:r.op.toNat=86):
  zB 103 #[.agg (ja r x.v)] w (.string ⟨(r.op::kW r bs (Wp.lay 21)).toArray⟩):=
 a1S r x bs w 86 21 86 86 (by simp) h
theorem a7G (r:Wp.Rq)(xa:Option Addr)(xc:Nat)(bs:List ByteArray)(w:World)(h:r.op.toNat=66)(hn:bs.length<=10)(hbs:∀s∈bs,s.size<=255)(hS:Strs w xa bs):
  zB 103 #[.agg (ja r (.slice xa bs.length xc))] w (.string ⟨(r.op::kW r bs (Wp.lay 1)).toArray⟩):=by
 have hI:((r.op.toNat:Nat):Int)=66:=by omega
 have HOP:Hid (r.op=66):=UInt8.toNat_inj.1 h;have HS:=zH hS;have HBS:=zH hbs;obtain⟨A,HA⟩:∃A,Hid (A=(⟨(je bs.length 1).toArray⟩:ByteArray)):=⟨_,rfl⟩;have zA:A.size=1:=by rw[HA.out];exact vh _ _
 have HC:Hid (∀W:World,zB 138 #[.int .i64 (bs.length:Int),.int .i64 1] W (.string A)):=fun W=>by rw[HA.out];exact qe bs.length 1 W (by omega) (by decide) (by decide)
 have hcone:=kB;have hcop:∀(W:World) (g:Nat),g=W.heap.size->(convert 74 9 (.slice (some ⟨g,0,none⟩) 1 1)).run Tryz.prog (W.alloc (.cells #[.int .u8 66] 5))=.ok (.string (b1 66)) (W.alloc (.cells #[.int .u8 66] 5)):=fun W g hg=>kB W g 66 hg
 have hz1:∀c,(b1 c).size=1:=fun _=>rfl
 have HCL:Hid (ja r (Sl.v ⟨xa,bs.length,xc⟩)=#[.int .u8 66,.int .u8 (r.q.toNat:Int),.int .u8 (r.d.toNat:Int),.int .i64 r.vis,.int .i64 r.win,.int .i64 r.rcv,.int .i64 r.quo,.int .i64 r.mx,.int .i64 r.tic,.string r.grp,.string r.ded,.string r.bod,.string r.att,.string r.han,.slice xa bs.length xc]):=by
  show _=_
  unfold ja Sl.v;rw[hI]
 rw[show ja r (.slice xa bs.length xc)=ja r (Sl.v ⟨xa,bs.length,xc⟩) from rfl,HCL.out]
 clear h hI hS hbs;go_enter Tryz.func103,Tryz.ntmps103;go_wp2_with fail;refine(HC.out _).mono ?_;rintro e w1 ⟨rfl,hb⟩;have HB1:Hid (Below w.heap.size w w1):=(xP _ _ _ _).trans (hb.mono (by simp;omega));have HK1:Hid (Blk w1 w.heap.size r ⟨xa,bs.length,xc⟩):=by
  show Blk _ _ _ _
  unfold Blk;rw[hb.block w.heap.size (by simp;omega),a2Q,HCL.out]
 clear hb;go_wp2_with fail
 go_loopw [18,19] (fun v i wr=>∃k:Nat,k<=bs.length/\i=.int .i64 k/\v=.string ⟨(66::(je bs.length 1++jK (bs.take k))).toArray⟩/\Below w.heap.size w wr/\Blk wr w.heap.size r ⟨xa,bs.length,xc⟩) (fun _ i _=>bs.length-(intOf i).toNat)
 case atStart=>
  refine⟨0,Nat.zero_le _,rfl,congrArg Value.string (kI ?_),HB1.out,HK1.out⟩;rw[HA.out];simp[ByteArray.data_append,b1,jK]
 case round=>
  obtain⟨k,hk,rfl,rfl,hbw,hkb⟩:=hrel;have HBW:=zH hbw;have HK:=zH hkb;have c14:wr.cell? ⟨w.heap.size,14,none⟩=some (.slice xa bs.length xc):=hkb.box 14 _ rfl;obtain⟨T,HT⟩:∃T,Hid (T=(⟨(66::(je bs.length 1++jK (bs.take k))).toArray⟩:ByteArray)):=⟨_,rfl⟩;have hTs:T.size<=3000:=by
   rw[HT.out]
   show (66::(je bs.length 1++jK (bs.take k))).toArray.size<=3000
   have h1:=a2c (bs.take k) (fun s hs=>HBS.out s (List.mem_of_mem_take hs));have h2:(bs.take k).length<=10:=by rw[List.length_take];omega
   simp[jc];omega
  rw[<-HT.out]
  by_cases hlt:k<bs.length
  ·obtain⟨g,o,rfl,hc⟩:=HS.out k hlt;have hg:g<w.heap.size:=World.block_lt_of_cell? _ _ hc;have hd:=(hbw.cell (p:=⟨g,o+k,none⟩) hg).trans hc;have htk:Hid (jK (bs.take (k+1))=jK (bs.take k)++jx bs[k]):=by
    show _=_
    rw[List.take_succ_eq_append_getElem hlt,jK,List.flatMap_append,List.flatMap_singleton];rfl
   have hx:=HBS.out bs[k] (List.getElem_mem hlt);have hltI:(k:Int)<(bs.length:Int):=by omega
   generalize bs[k]=X at hc hd htk hx;obtain⟨A2,HA2⟩:∃A,Hid (A=(⟨(jx X).toArray⟩:ByteArray)):=⟨_,rfl⟩;have z2:A2.size=1+X.size:=by rw[HA2.out];show (jx X).toArray.size=_;simp[jp]
   have HC2:Hid (∀W:World,zB 139 #[.string X] W (.string A2)):=fun W=>by rw[HA2.out];exact qh X W hx
   clear hbw hkb hc;go_wp2_with fail;refine(HC2.out _).mono ?_;rintro e w2 ⟨rfl,hb⟩;have HB2:=zH (HBW.out.trans (hb.mono HBW.out.size));have HK2:Hid (Blk w2 w.heap.size r ⟨some ⟨g,o,none⟩,bs.length,xc⟩):=(hb.block w.heap.size (Array.getElem?_eq_some_iff.1 HK.out).1).trans HK.out;clear hb;go_wp2_with fail;go_roundw
   case rel=>
    refine⟨k+1,by omega,by go_num,congrArg Value.string (kI ?_),HB2.out,HK2.out⟩;rw[HT.out,HA2.out,htk.out];simp[ByteArray.data_append]
   case measure=>simp[intOf];omega
  ·have he:bs.take k=bs:=List.take_of_length_le (by omega);rw[he]at HT;have hltI:¬(k:Int)<(bs.length:Int):=by omega
   clear hbw hkb;go_wp2_with fail;go_ret;refine⟨qQ (kI ?_),HBW.out⟩;rw[HT.out,HOP.out];simp[kW,jU,Wp.lay,Wp.layTab,Wp.shape,Wp.rowTab]
end Go.Proofs.YtbdobaapadlcjaaGreatDoor.Ref
