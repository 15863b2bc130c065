import Derived.Test.YtbdobaapadlcjaaGreatDoorBy23
import Derived.Test.YtbdobaapadlcjaaGreatDoorBy04
import Derived.Test.YtbdobaapadlcjaaGreatDoorBy15
set_option maxRecDepth 8000
set_option maxHeartbeats 8000000
set_option linter.unusedVariables false
set_option linter.unusedSimpArgs false
namespace Go.Proofs.YtbdobaapadlcjaaGreatDoor.Ref
open Go.RowKit Go.Proofs.YtbdobaapadlcjaaGreatDoor
variable {w:World}{Q:QM}{ts:List Tn}{cnt size n i k p q:Nat}{v:Value}{xs:List Value}{g:ByteArray}{b:Int}
theorem b4b:(Tryz.prog.info? 306).map (fun i=>(i.zero,i.size,i.bytes))=some (some (.agg #[.string ⟨#[]⟩,.int .i64 0]),2,24):=by kernel_rfl
def xy (ts:List Tn)(cnt:Nat)(g:ByteArray):List Tn:=if jj (isT g) ts<0 then ts++[⟨g,((cnt+1:Nat):Int)⟩] else ts.set (jj (isT g) ts).toNat ⟨g,((cnt+1:Nat):Int)⟩
theorem RR.setT {qb:Nat}{V:RV}{sl:Value}(h:RR w qb V sl Q ts cnt){gt ct:Nat}(hv:V.t=.slice (some ⟨gt,0,none⟩) ts.length ct)(j:Nat)(hj:j<ts.length)(n:Int):
  w.frozen? ⟨gt,j*2+1,none⟩=false/\RS w (w.setCell ⟨gt,j*2+1,none⟩ (.int .i64 n)) qb V V sl Q (ts.set j ⟨ts[j].g,n⟩) cnt:=by
 have ht:=h.t;rw[hv]at ht;have hgb:V.t.ownBlock=some gt:=by rw[hv];rfl
 have t3:Tch [gt] w (w.setCell ⟨gt,j*2+1,none⟩ (.int .i64 n)):=(Tch.refl _ _).setCell (fun _=>by simp) _;obtain⟨C,hC⟩:=jV h.t hgb;have ne:∀k C' t,w.heap[k]?=some (.cells C' t (0,0))->t≠306->k≠gt:=fun k C' t hk hne e=>by
  subst e;exact hne (qF hk hC)
 refine⟨World.ownsRow.frozenAt ht _,⟨jJ (ne _ _ _ h.blk (by decide)) rfl |>.trans h.blk,jO h.m (fun k e=>?_),?_,jO h.d (fun k e=>?_),h.a.keep (fun k e=>?_),h.sep⟩,t3.sub (fun k hk _=>?_),fun b hb=>.inl hb⟩
 ·obtain⟨C',hC'⟩:=jV h.m e;exact jJ (ne _ _ _ hC' (by decide)) rfl
 ·have h2:=(World.ownsRow.stored ht (j*2+1) (.int .i64 n)).1;rw[hv,List.length_set,<-a2L Tn.row 2 (fun _=>rfl) ts j 1 (.int .i64 n) ⟨ts[j].g,n⟩ hj (by decide) rfl];exact h2
 ·obtain⟨C',hC'⟩:=jV h.d e;exact jJ (ne _ _ _ hC' (by decide)) rfl
 ·obtain⟨C',hC'⟩:=h.a.ty e;exact jJ (ne _ _ _ hC' (by decide)) rfl
 ·simp at hk;subst hk;exact ju.2 (.inr (.inr (.inl hgb)))
theorem a0z (Q:QM)(ts:List Tn)(cnt:Nat)(V:RV)(sl:Value)(qb:Nat)(g:ByteArray)(w:World)(h:RR w qb V sl Q ts cnt)(hl:ts.length<=1000)(hc:cnt<=4611686018427387904):
  Cp 231 #[zp qb,.string g] w fun e w'=>e=.returned (.tuple #[])/\∃V',RS w w' qb V V' sl Q (xy ts cnt g) (cnt+1):=by
 obtain⟨c18,z18,hs1⟩:=h.setCnt (cnt+1);obtain⟨nn,HNN⟩:∃nn:Int,Hid (nn=((cnt+1:Nat):Int)):=⟨_,rfl⟩;have hwc:IntKind.i64.wrap ((cnt:Int)+1)=nn:=by rw[HNN.out,IntKind.wrap_i64];omega
 rw[<-HNN.out]at hs1;have HS1:=zH hs1;clear h hs1;go_enter Tryz.func231,Tryz.ntmps231;go_wp2_with fail;generalize w.setCell ⟨qb,18,none⟩ (.int .i64 nn)=w1 at*
 obtain⟨sa,sc,hvt⟩:=jl HS1.out.rr.t;have HVT:=zH hvt;have q17:w1.cell? ⟨qb,17,none⟩=some (.slice sa ts.length sc):=by rw[<-hvt];exact jb HS1.out.rr.blk 17 _ rfl
 have q18:w1.cell? ⟨qb,18,none⟩=some (.int .i64 nn):=by rw[HNN.out];exact jb HS1.out.rr.blk 18 _ rfl
 have l1:=lt_of_block HS1.out.rr.blk;clear c18 z18 hwc hvt
 go_loopw [4] (fun v wr=>∃j:Nat,j<=ts.length/\v=.int .i64 (j:Int)/\(∀i (hi:i<j) (hl:i<ts.length),isT g ts[i]=false)/\wr=w1) (fun v _=>ts.length-(intOf v).toNat)
 case atStart=>exact⟨0,Nat.zero_le _,rfl,fun i hi=>by omega,rfl⟩
 case round=>
  obtain⟨j,hj,rfl,hno,rfl⟩:=hrel;have HNO:=zH hno;clear hno
  by_cases hlt:j<ts.length
  ·have hot:=HS1.out.rr.t;obtain⟨gb,cap,hv,lg,hcs⟩:=kA Tn.row 2 (fun _=>rfl) hot j hlt;have hva:=HVT.out;rw[hv]at hva;simp only[Value.slice.injEq,true_and]at hva;obtain⟨rfl,rfl⟩:=hva;have d0:wr.cell? ⟨gb,j*2,none⟩=some (.string ts[j].g):=hcs 0 _ rfl;have d1:wr.cell? ⟨gb,j*2+1,none⟩=some (.int .i64 ts[j].tm):=hcs 1 _ rfl;obtain⟨z1,hst⟩:=HS1.out.rr.setT hv j hlt nn;have HST:Hid (RS w (wr.setCell ⟨gb,j*2+1,none⟩ (.int .i64 nn)).drew qb V V sl Q (ts.set j ⟨ts[j].g,nn⟩) (cnt+1)):=(HS1.out.trans hst).trans (hst.rr.rs (Tch.refl [] _).drew);have n17:(wr.setCell ⟨gb,j*2+1,none⟩ (.int .i64 nn)).drew.cell? ⟨qb,17,none⟩=some (.slice (some ⟨gb,0,none⟩) ts.length cap):=by rw[<-hv];exact jb HST.out.rr.blk 17 _ rfl
   have n18:(wr.setCell ⟨gb,j*2+1,none⟩ (.int .i64 nn)).drew.cell? ⟨qb,18,none⟩=some (.int .i64 nn):=by rw[HNN.out];rw[HNN.out]at HST;exact jb HST.out.rr.blk 18 _ rfl
   clear hcs hot hst hv
   cases he:(ts[j].g.toList == g.toList) with
   | true=>
    have hgg:=a2v (by simpa using he);have HE:Hid (xy ts cnt g=ts.set j ⟨ts[j].g,nn⟩):=by
     show _=_
     have h1:=vY (isT g) ts j hlt he (fun i hi=>HNO.out i hi (by omega));unfold xy;rw[h1,if_neg (by omega),Int.toNat_natCast,hgg,HNN.out]
    have hj0:(0:Int)<=(j:Int):=by omega
    have hjl:(j:Int)<(ts.length:Int):=by omega
    go_wp2_with fail
    go_region_held3 (fun w'=>w'.cell? ⟨qb,17,none⟩=some (.slice (some ⟨gb,0,none⟩) ts.length cap)/\w'.cell? ⟨qb,18,none⟩=some (.int .i64 nn)) (go_keep) (fail)
    all_goals go_wp2_with fail
    all_goals refine bodyPost_ret (results_none rfl _ _ _) rfl ⟨rfl,V,?_⟩
    all_goals (rw[HE.out];exact HST.out)
   | false=>
    have HE:=zH he;clear HST z1 d1 n17 n18;go_wp2_with fail;go_roundw
    case rel=>exact⟨j+1,by omega,by go_num,fun i hi hl=>by
     by_cases hij:i=j
     ·subst hij;exact HE.out
     ·exact HNO.out i (by omega) hl,by trivial⟩
    case measure=>simp[intOf];omega
  ·have HE:Hid (xy ts cnt g=ts++[⟨g,nn⟩]):=by
    show _=_
    have h1:jj (isT g) ts<0:=(qq _ _).2 (fun m hm=>by
     obtain⟨i,hi,rfl⟩:=List.mem_iff_getElem.1 hm;exact HNO.out i (by omega) hi)
    unfold xy;rw[if_pos h1,HNN.out]
   have HG:Hid (∀v' w9,w9.ownsRow 0 306 2 v' (ts.length+1) (ts.flatMap Tn.row++[.string g,.int .i64 nn])->(wr.drew.alloc (.cells #[.string g,.int .i64 nn] 306)).grownBy w9 (Value.slice sa ts.length sc).ownBlock->(v'.ownBlock=(Value.slice sa ts.length sc).ownBlock\/v'.ownBlock=some (wr.drew.alloc (.cells #[.string g,.int .i64 nn] 306)).heap.size)->∃g4 cap4,v'=.slice (some ⟨g4,0,none⟩) (ts.length+1) cap4/\w9.cell? ⟨qb,17,none⟩=some (.slice sa ts.length sc)/\w9.frozen? ⟨qb,17,none⟩=false/\qb<w9.heap.size/\RS w (w9.setCell ⟨qb,17,none⟩ v') qb V {V with t:=v'} sl Q (ts++[⟨g,nn⟩]) (cnt+1)):=fun v' w9 ho hg hb=>by
    obtain⟨g4,cap4,hv4⟩:=qB ho;rw[<-HVT.out]at hg hb;have t1:Tch [] wr (wr.drew.alloc (.cells #[.string g,.int .i64 nn] 306)):=(Tch.refl _ _).drew.alloc _;have t2:Tch (bl V.t) wr w9:=(t1.sub (by simp)).trans (kK hg) (fun x hx _=>hx);obtain⟨k1,k2,k3,k4⟩:=HS1.out.rr.newT (v':=v') (l':=ts++[⟨g,nn⟩]) t2 (by simpa [Tn.row]using ho) (fun k hk=>by
     rcases hb with e|e
     ·exact .inl (e▸hk)
     ·rw[hk]at e;injection e with e;have:=t1.size;omega)
    rw[HVT.out]at k1;exact⟨g4,cap4,hv4,k1,k2,k3,HS1.out.trans k4⟩
   have HOW:Hid (wr.ownsRow 0 306 2 (.slice sa ts.length sc) ts.length (ts.flatMap Tn.row)):=by
    have:=HS1.out.rr.t;rw[HVT.out]at this;exact this
   have q17a:(wr.alloc (.cells #[.string g,.int .i64 nn] 306)).cell? ⟨qb,17,none⟩=some (.slice sa ts.length sc):=Lib.cell?_alloc_some _ q17;go_wp2_with fail
   go_region_law (refine qu rfl (.tmp 46) (.tmp 53) 213 306 rfl Tryz.underlying213 (.agg #[.string ⟨#[]⟩,.int .i64 0]) 2 24 b4b rfl (by decide) (by decide) (.slice sa ts.length sc) ts.length (ts.flatMap Tn.row) (by simp[Act.eval,Act.put]) (jf HOW.out ((Tch.refl [] _).drew.alloc _) (fun _ _=>by simp)) wr.heap.size [.string g,.int .i64 nn] 1 (by simp[Act.eval,Act.put]) rfl (by decide) (heap_alloc_new _ _) (by intro u hu;simp at hu;rcases hu with rfl|rfl<;>rfl) (by omega) ?_;intro v' w9 ho3 hg3 hb3;obtain⟨g4,cap4,hv4,c9,z9,l9,hfin⟩:=HG.out v' w9 ho3 hg3 hb3;subst hv4;clear ho3 hg3 hb3;have HFIN:Hid (RS _ _ _ _ _ _ _ _ _):=hfin;clear hfin)
   all_goals (go_wp2_with fail;go_end0;exact⟨rfl,_,by rw[HE.out];exact HFIN.out⟩)
theorem a4L:(Tryz.prog.info? 271).map (fun i=>(i.zero,i.size,i.bytes))=some (some (.agg #[.int .i64 0,.string ⟨#[]⟩,.string ⟨#[]⟩,.int .i64 0,.int .i64 0]),5,56):=by kernel_rfl
theorem a1g:(Tryz.prog.info? 267).map (fun i=>(i.zero,i.size,i.bytes))=some (some (.agg #[.string ⟨#[]⟩,.int .i64 0,.string ⟨#[]⟩,.int .i64 0]),4,48):=by kernel_rfl
def a5X (Q:QM)(g b:ByteArray):QM:={Q with next:=Q.next+1,ms:=Q.ms++[⟨(Q.next:Nat),g,b,0,0⟩]}
def a0J (Q:QM)(ts:List Tn)(cnt:Nat)(g:ByteArray):List Tn:=if jZ g Q.ms=0 then xy ts cnt g else ts
def xU (Q:QM)(cnt:Nat)(g:ByteArray):Nat:=if jZ g Q.ms=0 then cnt+1 else cnt
theorem a8y (Q:QM)(ts:List Tn)(cnt:Nat)(V:RV)(sl:Value)(qb:Nat)(g b:ByteArray)(w:World)(h:RR w qb V sl Q ts cnt)(hm:Q.ms.length<=1000)(hn:Q.next<=1000)(hl:ts.length<=1000)(hc:cnt<=4611686018427387904):
  Cp 225 #[zp qb,.string g,.string b] w fun e w'=>e=.returned (.tuple #[])/\∃V',RS w w' qb V V' sl (a5X Q g b) (a0J Q ts cnt g) (xU Q cnt g):=by
 have HOF:Hid (zE 230 #[zp qb,.string g] w (.tuple #[.int .i64 (jZ g Q.ms:Int),.bool (xN g Q.ms)])):=a1E Q.ms qb V.m g w (jb h.blk 16 _ rfl) h.m hm;obtain⟨sa,sc,hvm⟩:=jl h.m;have HVM:=zH hvm;have q16:w.cell? ⟨qb,16,none⟩=some (.slice sa Q.ms.length sc):=by rw[<-hvm];exact jb h.blk 16 _ rfl
 have q15:w.cell? ⟨qb,15,none⟩=some (.int .i64 (Q.next:Int)):=jb h.blk 15 _ rfl;have HR:=zH h;obtain⟨nx,hnx⟩:∃nx:Int,nx=(Q.next:Int):=⟨_,rfl⟩;have HNX:=zH hnx;rw[<-hnx]at q15;have hw1:IntKind.i64.wrap (nx+1)=nx+1:=by rw[IntKind.wrap_i64];omega
 have HG:Hid (∀v' w9,w9.ownsRow 0 271 5 v' (Q.ms.length+1) (Q.ms.flatMap Ms.row++[.int .i64 nx,.string g,.string b,.int .i64 0,.int .i64 0])->(w.drew.alloc (.cells #[.int .i64 nx,.string g,.string b,.int .i64 0,.int .i64 0] 271)).grownBy w9 (Value.slice sa Q.ms.length sc).ownBlock->(v'.ownBlock=(Value.slice sa Q.ms.length sc).ownBlock\/v'.ownBlock=some (w.drew.alloc (.cells #[.int .i64 nx,.string g,.string b,.int .i64 0,.int .i64 0] 271)).heap.size)->∃g4 cap4,v'=.slice (some ⟨g4,0,none⟩) (Q.ms.length+1) cap4/\w9.cell? ⟨qb,16,none⟩=some (.slice sa Q.ms.length sc)/\w9.frozen? ⟨qb,16,none⟩=false/\qb<w9.heap.size/\RS w (w9.setCell ⟨qb,16,none⟩ v') qb V {V with m:=v'} sl {Q with ms:=Q.ms++[⟨nx,g,b,0,0⟩]} ts cnt):=fun v' w9 ho hg hb=>by
  obtain⟨g4,cap4,hv4⟩:=qB ho;rw[<-HVM.out]at hg hb;have t1:Tch [] w (w.drew.alloc (.cells #[.int .i64 nx,.string g,.string b,.int .i64 0,.int .i64 0] 271)):=(Tch.refl _ _).drew.alloc _;have t2:Tch (bl V.m) w w9:=(t1.sub (by simp)).trans (kK hg) (fun x hx _=>hx);obtain⟨k1,k2,k3,k4⟩:=HR.out.newM (v':=v') (l':=Q.ms++[⟨nx,g,b,0,0⟩]) t2 (by simpa [Ms.row]using ho) (fun k hk=>by
   rcases hb with e|e
   ·exact .inl (e▸hk)
   ·rw[hk]at e;injection e with e;have:=t1.size;omega)
  rw[HVM.out]at k1;exact⟨g4,cap4,hv4,k1,k2,k3,k4⟩
 have HOW:Hid (w.ownsRow 0 271 5 (.slice sa Q.ms.length sc) Q.ms.length (Q.ms.flatMap Ms.row)):=by
  have:=h.m;rw[hvm]at this;exact this
 have q16a:(w.alloc (.cells #[.int .i64 nx,.string g,.string b,.int .i64 0,.int .i64 0] 271)).cell? ⟨qb,16,none⟩=some (.slice sa Q.ms.length sc):=Lib.cell?_alloc_some _ q16;have hcn:jZ g Q.ms<=1000:=Nat.le_trans (zq _ _) hm;clear h hvm hnx;obtain⟨cn,HCN⟩:∃cn,Hid (cn=jZ g Q.ms):=⟨_,rfl⟩;rw[<-HCN.out]at HOF hcn;go_enter Tryz.func225,Tryz.ntmps225;go_wp2_with fail;refine HOF.out.mono ?_;rintro e w' ⟨rfl,h'⟩;have h'':=h'.symm;subst h'';clear HOF;go_wp2_with fail
 go_region_law (refine qu rfl (.tmp 18) (.tmp 26) 212 271 rfl Tryz.underlying212 (.agg #[.int .i64 0,.string ⟨#[]⟩,.string ⟨#[]⟩,.int .i64 0,.int .i64 0]) 5 56 a4L rfl (by decide) (by decide) (.slice sa Q.ms.length sc) Q.ms.length (Q.ms.flatMap Ms.row) (by simp[Act.eval,Act.put]) (jf HOW.out ((Tch.refl [] _).drew.alloc _) (fun _ _=>by simp)) w.heap.size [.int .i64 nx,.string g,.string b,.int .i64 0,.int .i64 0] 1 (by simp[Act.eval,Act.put]) rfl (by decide) (heap_alloc_new _ _) (by intro u hu;simp at hu;rcases hu with rfl|rfl|rfl|rfl|rfl<;>rfl) (by omega) ?_;intro v' w9 ho3 hg3 hb3;obtain⟨g4,cap4,hv4,c9,z9,l9,hfin⟩:=HG.out v' w9 ho3 hg3 hb3;subst hv4;clear ho3 hg3 hb3;have HFIN:Hid (RS _ _ _ _ _ _ _ _ _):=hfin;clear hfin)
 all_goals
  generalize hW:w9.setCell ⟨qb,16,none⟩ (.slice (some ⟨g4,0,none⟩) (Q.ms.length+1) cap4)=w10 at*
  obtain⟨c15,z15,hs15⟩:=HFIN.out.rr.setNext (Q.next+1);have e15:(((Q.next+1:Nat)):Int)=nx+1:=by rw[HNX.out];omega
  rw[e15]at hs15;rw[<-HNX.out]at c15;have HS2:Hid (RS w (w10.setCell ⟨qb,15,none⟩ (.int .i64 (nx+1))) qb V {V with m:=.slice (some ⟨g4,0,none⟩) (Q.ms.length+1) cap4} sl (a5X Q g b) ts cnt):=by
   have h1:=HFIN.out.trans hs15;rw[HNX.out]at h1 ⊢;exact h1
  clear hs15 e15 HG HFIN HOW q16 q15 q16a
  by_cases hz:cn=0
  ·have HRD:Hid (Cp 231 #[zp qb,.string g] (w10.setCell ⟨qb,15,none⟩ (.int .i64 (nx+1))) fun e w'=>e=.returned (.tuple #[])/\∃V',RS w w' qb V V' sl (a5X Q g b) (a0J Q ts cnt g) (xU Q cnt g)):=by
    refine(a0z (a5X Q g b) ts cnt _ sl qb g _ HS2.out.rr hl hc).mono ?_;rintro e w' ⟨rfl,V',hrs⟩;have hz':jZ g Q.ms=0:=by rw[<-HCN.out];exact hz
    refine⟨rfl,V',?_⟩;unfold a0J xU;rw[if_pos hz',if_pos hz'];exact HS2.out.trans hrs
   subst hz;clear HS2;go_wp2_with fail;refine HRD.out.mono ?_;rintro e w11 ⟨rfl,hx⟩;have HX:=zH hx;clear hx HRD;go_wp2_with fail;go_end0;exact⟨rfl,HX.out⟩
  ·have hz2:=beq_eq_false_iff_ne.2 (by omega);have HX:Hid (∃V',RS w (w10.setCell ⟨qb,15,none⟩ (.int .i64 (nx+1))) qb V V' sl (a5X Q g b) (a0J Q ts cnt g) (xU Q cnt g)):=by
    have hz':¬jZ g Q.ms=0:=by rw[<-HCN.out];exact hz
    refine⟨{V with m:=.slice (some ⟨g4,0,none⟩) (Q.ms.length+1) cap4},?_⟩;unfold a0J xU;rw[if_neg hz',if_neg hz'];exact HS2.out
   clear HS2;go_wp2_with fail;go_end0;exact⟨rfl,HX.out⟩
def woF (n:Int)(g:ByteArray)(m:Ms):Bool:=!((m.num == n)||((n == 0)&&(m.grp.toList == g.toList)))
theorem zc {α:Type}(p:α->Bool)(l:List α)(j:Nat)(h:j<l.length):(l.take (j+1)).filter p=(l.take j).filter p++(if p l[j]=true then [l[j]] else []):=by
 rw[List.take_succ_eq_append_getElem h,List.filter_append,List.filter_cons];rfl
theorem a2d (ms:List Ms)(qb:Nat)(vm:Value)(n:Int)(g:ByteArray)(w:World)(hc:w.cell? ⟨qb,16,none⟩=some vm)(ho:w.ownsRow 0 271 5 vm ms.length (ms.flatMap Ms.row))(hl:ms.length<=1000):
  Cp 229 #[zp qb,.int .i64 n,.string g] w fun e w'=>∃v,e=.returned v/\w'.ownsRow w.heap.size 271 5 v (ms.filter (woF n g)).length ((ms.filter (woF n g)).flatMap Ms.row)/\Tch [] w w':=by
 obtain⟨sa,sc,rfl⟩:=jl ho;have HO:=zH ho;have HC:=zH hc;have HQL:Hid (qb<w.heap.size):=World.block_lt_of_cell? _ _ hc;clear ho hc;go_enter Tryz.func229,Tryz.ntmps229;go_wp2_with fail
 go_loopw [7,8] (fun ov v wr=>∃(j:Nat) (oa:Option Addr) (oc:Nat),j<=ms.length/\v=.int .i64 (j:Int)/\ov=.slice oa ((ms.take j).filter (woF n g)).length oc/\wr.ownsRow w.heap.size 271 5 ov ((ms.take j).filter (woF n g)).length (((ms.take j).filter (woF n g)).flatMap Ms.row)/\Tch [] w wr) (fun _ v _=>ms.length-(intOf v).toNat)
 case atStart=>exact⟨0,none,0,Nat.zero_le _,rfl,rfl,by simpa using World.ownsRow_nil w _ _ _,Tch.refl _ _⟩
 case round=>
  obtain⟨j,oa,oc,hj,rfl,rfl,how,htr⟩:=hrel;have HOW:=zH how;have HTR:=zH htr;have c16:=(htr.cell (a:=⟨qb,16,none⟩) HQL.out (by simp)).trans HC.out;have hfl:((ms.take j).filter (woF n g)).length<=1000:=Nat.le_trans (List.length_filter_le _ _) (by rw[List.length_take];omega)
  by_cases hlt:j<ms.length
  ·obtain⟨gb,cap,hv,lg,hcs⟩:=kA Ms.row 5 (fun _=>rfl) (jf HO.out htr (by simp)) j hlt;simp only[Value.slice.injEq,true_and]at hv;obtain⟨rfl,rfl⟩:=hv;have d0:wr.cell? ⟨gb,j*5,none⟩=some (.int .i64 ms[j].num):=hcs 0 _ rfl;have d1:wr.cell? ⟨gb,j*5+1,none⟩=some (.string ms[j].grp):=hcs 1 _ rfl;have d2:wr.cell? ⟨gb,j*5+2,none⟩=some (.string ms[j].bod):=hcs 2 _ rfl;have d3:wr.cell? ⟨gb,j*5+3,none⟩=some (.int .i64 ms[j].rcv):=hcs 3 _ rfl;have d4:wr.cell? ⟨gb,j*5+4,none⟩=some (.int .i64 ms[j].til):=hcs 4 _ rfl;have hfs:=zc (woF n g) ms j hlt;have HFS:=zH hfs;have HWO:Hid (woF n g ms[j]=!((ms[j].num == n)||((n == 0)&&(ms[j].grp.toList == g.toList)))):=rfl;have hrow:Hid (ms[j].row=[.int .i64 ms[j].num,.string ms[j].grp,.string ms[j].bod,.int .i64 ms[j].rcv,.int .i64 ms[j].til]):=rfl;generalize (ms.take j).filter (woF n g)=fl at*
   generalize ms[j]=mj at*
   obtain⟨m0,m1,m2,m3,m4⟩:=mj;clear hcs hfs how htr;simp only at d0 d1 d2 d3 d4 HWO;have HSKIP:Hid (woF n g ⟨m0,m1,m2,m3,m4⟩=false->((ms.take (j+1)).filter (woF n g))=fl):=fun hx=>by rw[HFS.out,hx];simp
   have HTAKE:Hid (woF n g ⟨m0,m1,m2,m3,m4⟩=true->((ms.take (j+1)).filter (woF n g))=fl++[⟨m0,m1,m2,m3,m4⟩]):=fun hx=>by rw[HFS.out,hx];simp
   have HBOX:Hid (∀o,Tch [] w (wr.alloc o)):=fun o=>HTR.out.alloc o
   have zr:=HTR.out.size;have HNEW:Hid (∀W:World,(W.alloc (.cells #[.int .i64 m0,.string m1,.string m2,.int .i64 m3,.int .i64 m4] 271)).heap[W.heap.size]?=some (.cells #[.int .i64 m0,.string m1,.string m2,.int .i64 m3,.int .i64 m4] 271 (0,0))):=fun W=>heap_alloc_new _ _
   have HNEW2:Hid (((wr.alloc (.cells #[.int .i64 m0,.string m1,.string m2,.int .i64 m3,.int .i64 m4] 271)).alloc (.cells #[.int .i64 m0,.string m1,.string m2,.int .i64 m3,.int .i64 m4] 271)).heap[wr.heap.size+1]?=some (.cells #[.int .i64 m0,.string m1,.string m2,.int .i64 m3,.int .i64 m4] 271 (0,0))):=by
    have h:=HNEW.out (wr.alloc (.cells #[.int .i64 m0,.string m1,.string m2,.int .i64 m3,.int .i64 m4] 271));rw[World.size_alloc]at h;exact h
   cases ha:(m0 == n) with
   | true=>
    have HSK:Hid ((ms.take (j+1)).filter (woF n g)=fl):=HSKIP.out (by rw[HWO.out,ha];rfl);go_wp2_with fail;go_roundw
    case rel=>exact⟨j+1,oa,oc,by omega,by go_num,by rw[HSK.out],by rw[HSK.out];exact jf HOW.out ((Tch.refl [] _).alloc _) (fun _ _=>by simp),HBOX.out _⟩
    case measure=>simp[intOf];omega
   | false=>
    cases hb:(n == 0) with
    | false=>
     have HTK:Hid ((ms.take (j+1)).filter (woF n g)=fl++[⟨m0,m1,m2,m3,m4⟩]):=HTAKE.out (by rw[HWO.out,ha,hb];rfl);go_wp2_with (at_builtin;refine xz w.heap.size _ rfl _ _ 212 271 rfl Tryz.underlying212 (.agg #[.int .i64 0,.string ⟨#[]⟩,.string ⟨#[]⟩,.int .i64 0,.int .i64 0]) 5 56 a4L rfl (by decide) (by decide) (.slice oa fl.length oc) fl.length (fl.flatMap Ms.row) ?hvs ?hvo ?hvb (wr.heap.size+1) [.int .i64 m0,.string m1,.string m2,.int .i64 m3,.int .i64 m4] 1 ?hvx rfl (by decide) ?hvg ?hv1 (by omega) ?hvk)
     (try case hvs=>simp[Act.eval,Act.put])
     case hvo=>exact jf HOW.out (((Tch.refl [] _).alloc _).alloc _) (fun _ _=>by simp)
     case hvb=>first|omega|(simp;omega)
     (try case hvx=>simp[Act.eval,Act.put])
     case hvg=>first|exact HNEW2.out|(have h:=HNEW2.out;rw[Array.getElem?_eq_getElem (by simp)]at h;exact Option.some.inj h)
     case hv1=>first|exact⟨rfl,rfl,rfl,rfl,rfl⟩|(intro u hu;simp at hu;rcases hu with rfl|rfl|rfl|rfl|rfl<;>rfl)
     intro v2 w2 ho2 hg2 hb2;have hsh:=jl ho2;obtain⟨a2,c2,hv2⟩:=hsh;subst hv2;have HO2:Hid (w2.ownsRow w.heap.size 271 5 (.slice a2 (fl.length+1) c2) (fl.length+1) ((fl++[(⟨m0,m1,m2,m3,m4⟩:Ms)]).flatMap Ms.row)/\Tch [] w w2):=by
      refine⟨by simpa [Ms.row]using ho2,((HBOX.out _).alloc _).grown hg2 (fun k hk hlt=>?_)⟩;have:=xk HOW.out k hk;omega
     clear ho2 hg2 hb2;go_wp2_with fail;go_roundw
     case rel=>exact⟨j+1,a2,c2,by omega,by go_num,by rw[HTK.out];simp,by rw[HTK.out];simpa using HO2.out.1,HO2.out.2⟩
     case measure=>simp[intOf];omega
    | true=>
     obtain rfl:n=0:=by simpa using hb
     cases hd:(m1.toList == g.toList) with
     | true=>
      have HSK:Hid ((ms.take (j+1)).filter (woF 0 g)=fl):=HSKIP.out (by rw[HWO.out,ha,hb,hd];rfl);clear hb;go_wp2_with fail;go_roundw
      case rel=>exact⟨j+1,oa,oc,by omega,by go_num,by rw[HSK.out],by rw[HSK.out];exact jf HOW.out ((Tch.refl [] _).alloc _) (fun _ _=>by simp),HBOX.out _⟩
      case measure=>simp[intOf];omega
     | false=>
      have HTK:Hid ((ms.take (j+1)).filter (woF 0 g)=fl++[⟨m0,m1,m2,m3,m4⟩]):=HTAKE.out (by rw[HWO.out,ha,hb,hd];rfl);clear hb;go_wp2_with (at_builtin;refine xz w.heap.size _ rfl _ _ 212 271 rfl Tryz.underlying212 (.agg #[.int .i64 0,.string ⟨#[]⟩,.string ⟨#[]⟩,.int .i64 0,.int .i64 0]) 5 56 a4L rfl (by decide) (by decide) (.slice oa fl.length oc) fl.length (fl.flatMap Ms.row) ?hws ?hwo ?hwb (wr.heap.size+1) [.int .i64 m0,.string m1,.string m2,.int .i64 m3,.int .i64 m4] 1 ?hwx rfl (by decide) ?hwg ?hw1 (by omega) ?hwk)
      (try case hws=>simp[Act.eval,Act.put])
      case hwo=>exact jf HOW.out (((Tch.refl [] _).alloc _).alloc _) (fun _ _=>by simp)
      case hwb=>first|omega|(simp;omega)
      (try case hwx=>simp[Act.eval,Act.put])
      case hwg=>first|exact HNEW2.out|(have h:=HNEW2.out;rw[Array.getElem?_eq_getElem (by simp)]at h;exact Option.some.inj h)
      case hw1=>first|exact⟨rfl,rfl,rfl,rfl,rfl⟩|(intro u hu;simp at hu;rcases hu with rfl|rfl|rfl|rfl|rfl<;>rfl)
      intro v2 w2 ho2 hg2 hb2;have hsh:=jl ho2;obtain⟨a2,c2,hv2⟩:=hsh;subst hv2;have HO2:Hid (w2.ownsRow w.heap.size 271 5 (.slice a2 (fl.length+1) c2) (fl.length+1) ((fl++[(⟨m0,m1,m2,m3,m4⟩:Ms)]).flatMap Ms.row)/\Tch [] w w2):=by
       refine⟨by simpa [Ms.row]using ho2,((HBOX.out _).alloc _).grown hg2 (fun k hk hlt=>?_)⟩;have:=xk HOW.out k hk;omega
      clear ho2 hg2 hb2;go_wp2_with fail;go_roundw
      case rel=>exact⟨j+1,a2,c2,by omega,by go_num,by rw[HTK.out];simp,by rw[HTK.out];simpa using HO2.out.1,HO2.out.2⟩
      case measure=>simp[intOf];omega
  ·have hje:j=ms.length:=by omega
   subst hje;rw[List.take_length]at HOW hfl ⊢;go_wp2_with fail;go_ret;exact⟨_,rfl,HOW.out,HTR.out⟩
structure Mk where
 id:ByteArray
 num:Int
 ans:ByteArray
 til:Int
def Mk.row (m:Mk):List Value:=[.string m.id,.int .i64 m.num,.string m.ans,.int .i64 m.til]
def mkD (d:Dd):Mk:=⟨d.id,d.num,⟨#[]⟩,d.til⟩
def mkA (a:At):Mk:=⟨a.id,0,a.ans,a.til⟩
theorem a2I (l:List Dd):l.flatMap ddK=(l.map mkD).flatMap Mk.row:=by rw[List.flatMap_map];rfl
theorem a2H (l:List At):l.flatMap atK=(l.map mkA).flatMap Mk.row:=by rw[List.flatMap_map];rfl
theorem zZ {α:Type}(row:α->List Value)(k:Nat)(hk:∀x,(row x).length=k):∀(l:List α) (j:Nat) (hj:j<l.length) (i:Nat) (u:Value),(row l[j])[i]?=some u->(l.flatMap row)[j*k+i]?=some u
 | [],j,hj,_,_,_=>by simp at hj
 | a::r,0,hj,i,u,hu=>by
  have hi:i<(row a).length:=(List.getElem?_eq_some_iff.1 hu).1;rw[List.flatMap_cons,Nat.zero_mul,Nat.zero_add,List.getElem?_append_left hi];exact hu
 | a::r,j+1,hj,i,u,hu=>by
  have hl:=hk a;have e:(j+1)*k+i=(row a).length+(j*k+i):=by rw[hl,Nat.add_mul];omega
  rw[List.flatMap_cons,e,List.getElem?_append_right (by omega),Nat.add_sub_cancel_left];exact zZ row k hk r j (by simpa using hj) i u (by simpa using hu)
theorem a2t {α:Type}(row:α->List Value)(size:Nat)(hr:∀x,(row x).length=size){w:World}{t:TypeId}{v:Value}{l:List α}(ho:rowO w t size v l.length (l.flatMap row))(j:Nat)(hj:j<l.length):∃g o cap,v=.slice (some ⟨g,o,none⟩) l.length cap/\g<w.heap.size/\∀i u,(row l[j])[i]?=some u->w.cell? ⟨g,o+j*size+i,none⟩=some u:=by
 rcases ho with ⟨_,h1,_⟩|⟨g,o,cap,cur,hv,hg,h1,h2,h3,h4,h5⟩
 ·omega
 ·refine⟨g,o,cap,hv,lt_of_block hg,fun i u hu=>?_⟩
  have h6:=zZ row size hr l j hj i u hu;rw[<-h4]at h6;have hlt:j*size+i<l.length*size:=by
   have:=(List.getElem?_eq_some_iff.1 h6).1;rw[List.length_take]at this;omega
  rw[List.getElem?_take_of_lt hlt,List.getElem?_drop]at h6;rw[cell_of_row w g (o+j*size+i) cur t (0,0) hg,<-h6];rw[Nat.add_assoc];simp
theorem xL {t:TypeId}(h:rowO w t size v n xs):∃a c,v=.slice a n c:=by
 rcases h with ⟨rfl,rfl,_⟩|⟨g,o,cap,cur,rfl,_⟩
 ·exact⟨_,_,rfl⟩
 ·exact⟨_,_,rfl⟩
theorem rowO.tch {w':World}{t:TypeId}(h:rowO w t size v n xs)(ht:Tch [] w w'):rowO w' t size v n xs:=h.keep (fun k hk=>by
 obtain⟨C,hC⟩:=h.ty hk;exact ht.block k (lt_of_block hC) (by simp))
def alF (now:Int)(m:Mk):Bool:=decide (now<m.til)
theorem a3C (l:List Mk)(v:Value)(now:Int)(w:World)(ho:rowO w 267 4 v l.length (l.flatMap Mk.row))(hl:l.length<=1000):
  Cp 233 #[v,.int .i64 now] w fun e w'=>∃v',e=.returned v'/\w'.ownsRow w.heap.size 267 4 v' (l.filter (alF now)).length ((l.filter (alF now)).flatMap Mk.row)/\Tch [] w w':=by
 obtain⟨sa,sc,rfl⟩:=xL ho;have HO:=zH ho;clear ho;go_enter Tryz.func233,Tryz.ntmps233;go_wp2_with fail
 go_loopw [5,6] (fun ov v wr=>∃(j:Nat) (oa:Option Addr) (oc:Nat),j<=l.length/\v=.int .i64 (j:Int)/\ov=.slice oa ((l.take j).filter (alF now)).length oc/\wr.ownsRow w.heap.size 267 4 ov ((l.take j).filter (alF now)).length (((l.take j).filter (alF now)).flatMap Mk.row)/\Tch [] w wr) (fun _ v _=>l.length-(intOf v).toNat)
 case atStart=>exact⟨0,none,0,Nat.zero_le _,rfl,rfl,by simpa using World.ownsRow_nil w _ _ _,Tch.refl _ _⟩
 case round=>
  obtain⟨j,oa,oc,hj,rfl,rfl,how,htr⟩:=hrel;have HOW:=zH how;have HTR:=zH htr;have hfl:((l.take j).filter (alF now)).length<=1000:=Nat.le_trans (List.length_filter_le _ _) (by rw[List.length_take];omega)
  by_cases hlt:j<l.length
  ·obtain⟨gb,o,cap,hv,lg,hcs⟩:=a2t Mk.row 4 (fun _=>rfl) (HO.out.tch htr) j hlt;simp only[Value.slice.injEq,true_and]at hv;obtain⟨rfl,rfl⟩:=hv;have d0:wr.cell? ⟨gb,o+j*4,none⟩=some (.string l[j].id):=hcs 0 _ rfl;have d1:wr.cell? ⟨gb,o+j*4+1,none⟩=some (.int .i64 l[j].num):=hcs 1 _ rfl;have d2:wr.cell? ⟨gb,o+j*4+2,none⟩=some (.string l[j].ans):=hcs 2 _ rfl;have d3:wr.cell? ⟨gb,o+j*4+3,none⟩=some (.int .i64 l[j].til):=hcs 3 _ rfl;have HFS:=zH (zc (alF now) l j hlt);have HWO:Hid (alF now l[j]=decide (now<l[j].til)):=rfl;generalize (l.take j).filter (alF now)=fl at*
   generalize l[j]=mj at*
   obtain⟨m0,m1,m2,m3⟩:=mj;clear hcs how htr;simp only at d0 d1 d2 d3 HWO;have HSKIP:Hid (alF now ⟨m0,m1,m2,m3⟩=false->((l.take (j+1)).filter (alF now))=fl):=fun hx=>by rw[HFS.out,hx];simp
   have HTAKE:Hid (alF now ⟨m0,m1,m2,m3⟩=true->((l.take (j+1)).filter (alF now))=fl++[⟨m0,m1,m2,m3⟩]):=fun hx=>by rw[HFS.out,hx];simp
   have zr:=HTR.out.size
   by_cases hlt2:now<m3
   ·have HTK:Hid ((l.take (j+1)).filter (alF now)=fl++[⟨m0,m1,m2,m3⟩]):=HTAKE.out (by rw[HWO.out];exact decide_eq_true hlt2);have HNEW:Hid ((wr.alloc (.cells #[.string m0,.int .i64 m1,.string m2,.int .i64 m3] 267)).heap[wr.heap.size]?=some (.cells #[.string m0,.int .i64 m1,.string m2,.int .i64 m3] 267 (0,0))):=heap_alloc_new _ _;go_wp2_with (at_builtin;refine xz w.heap.size _ rfl _ _ 214 267 rfl Tryz.underlying214 (.agg #[.string ⟨#[]⟩,.int .i64 0,.string ⟨#[]⟩,.int .i64 0]) 4 48 a1g rfl (by decide) (by decide) (.slice oa fl.length oc) fl.length (fl.flatMap Mk.row) ?hvs ?hvo ?hvb wr.heap.size [.string m0,.int .i64 m1,.string m2,.int .i64 m3] 1 ?hvx rfl (by decide) ?hvg ?hv1 (by omega) ?hvk)
    (try case hvs=>simp[Act.eval,Act.put])
    case hvo=>exact jf HOW.out ((Tch.refl [] _).alloc _) (fun _ _=>by simp)
    case hvb=>first|omega|(simp;omega)
    (try case hvx=>simp[Act.eval,Act.put])
    case hvg=>first|exact HNEW.out|(have h:=HNEW.out;rw[Array.getElem?_eq_getElem (by simp)]at h;exact Option.some.inj h)
    case hv1=>first|exact⟨rfl,rfl,rfl,rfl⟩|(intro u hu;simp at hu;rcases hu with rfl|rfl|rfl|rfl<;>rfl)
    intro v2 w2 ho2 hg2 hb2;obtain⟨a2,c2,hv2⟩:∃a2 c2,v2=.slice a2 (fl.length+1) c2:=jl ho2;subst hv2;have HO2:Hid (w2.ownsRow w.heap.size 267 4 (.slice a2 (fl.length+1) c2) (fl.length+1) ((fl++[(⟨m0,m1,m2,m3⟩:Mk)]).flatMap Mk.row)/\Tch [] w w2):=by
     refine⟨by simpa [Mk.row]using ho2,(HTR.out.alloc _).grown hg2 (fun k hk hlt=>?_)⟩;have:=xk HOW.out k hk;omega
    clear ho2 hg2 hb2;go_wp2_with fail;go_roundw
    case rel=>exact⟨j+1,a2,c2,by omega,by go_num,by rw[HTK.out];simp,by rw[HTK.out];simpa using HO2.out.1,HO2.out.2⟩
    case measure=>simp[intOf];omega
   ·have HSK:Hid ((l.take (j+1)).filter (alF now)=fl):=HSKIP.out (by rw[HWO.out];exact decide_eq_false hlt2);go_wp2_with fail;go_roundw
    case rel=>exact⟨j+1,oa,oc,by omega,by go_num,by rw[HSK.out],by rw[HSK.out];exact HOW.out,HTR.out⟩
    case measure=>simp[intOf];omega
  ·have hje:j=l.length:=by omega
   subst hje;rw[List.take_length]at HOW hfl ⊢;go_wp2_with fail;go_ret;exact⟨_,rfl,HOW.out,HTR.out⟩
def a2a (ms:List Ms)(b:Int):Int:=((ms[b.toNat]?).map Ms.til).getD 0
def ovB (now:Int)(ms:List Ms):Nat->Int
 | 0=>-1
 | i+1=>match ms[i]? with
  | some m=>if (0<m.til/\m.til<=now)/\(ovB now ms i<0\/m.til<a2a ms (ovB now ms i)) then (i:Int) else ovB now ms i
  | none=>ovB now ms i
theorem b1Y (now:Int)(ms:List Ms):∀i,-1<=ovB now ms i/\ovB now ms i<(i:Int)/\ovB now ms i<(ms.length:Int)
 | 0=>by
  show -1<=(-1:Int)/\(-1:Int)<0/\(-1:Int)<(ms.length:Int)
  omega
 | i+1=>by
  have h:=b1Y now ms i;unfold ovB
  cases hm:ms[i]? with
  | none=>
   simp only;omega
  | some m=>
   have hi:i<ms.length:=(List.getElem?_eq_some_iff.1 hm).1;simp only
   split
   ·omega
   ·omega
theorem a5U (now:Int)(ms:List Ms)(i:Nat)(hi:i<ms.length):ovB now ms (i+1)=if (0<ms[i].til/\ms[i].til<=now)/\(ovB now ms i<0\/ms[i].til<a2a ms (ovB now ms i)) then (i:Int) else ovB now ms i:=by
 show (match ms[i]? with
  | some m=>if (0<m.til/\m.til<=now)/\(ovB now ms i<0\/m.til<a2a ms (ovB now ms i)) then (i:Int) else ovB now ms i
  | none=>ovB now ms i)=_
 rw[List.getElem?_eq_getElem hi]
theorem b2a (ms:List Ms)(qb:Nat)(vm:Value)(now:Int)(w:World)(hc:w.cell? ⟨qb,16,none⟩=some vm)(ho:w.ownsRow 0 271 5 vm ms.length (ms.flatMap Ms.row))(hl:ms.length<=1000):
  zE 234 #[zp qb,.int .i64 now] w (.int .i64 (ovB now ms ms.length)):=by
 obtain⟨sa,sc,rfl⟩:=jl ho;have HO:=zH ho;have lq:=World.block_lt_of_cell? _ _ hc;clear ho;go_enter Tryz.func234,Tryz.ntmps234;go_wp2_with fail
 go_loopw [5,6] (fun bv v wr=>∃(j:Nat),j<=ms.length/\bv=.int .i64 (ovB now ms j)/\v=.int .i64 (j:Int)/\wr=w) (fun _ v _=>ms.length-(intOf v).toNat)
 case atStart=>exact⟨0,Nat.zero_le _,rfl,rfl,rfl⟩
 case round=>
  obtain⟨j,hj,rfl,rfl,rfl⟩:=hrel
  by_cases hlt:j<ms.length
  ·obtain⟨gb,cap,hv,lg,hcs⟩:=kA Ms.row 5 (fun _=>rfl) HO.out j hlt;simp only[Value.slice.injEq,true_and]at hv;obtain⟨rfl,rfl⟩:=hv;have d4:wr.cell? ⟨gb,j*5+4,none⟩=some (.int .i64 ms[j].til):=hcs 4 _ rfl;have hb:=b1Y now ms j;have HS:=zH (a5U now ms j hlt);have HB:Hid (0<=ovB now ms j->∃bn:Nat,ovB now ms j=(bn:Int)/\bn<ms.length/\wr.cell? ⟨gb,bn*5+4,none⟩=some (.int .i64 (a2a ms (ovB now ms j)))):=fun h0=>by
    obtain⟨bn,hbn⟩:∃bn:Nat,ovB now ms j=(bn:Int):=⟨_,(Int.toNat_of_nonneg h0).symm⟩;have hbl:bn<ms.length:=by omega
    obtain⟨gb',cap',hv',_,hcs'⟩:=kA Ms.row 5 (fun _=>rfl) HO.out bn hbl;simp only[Value.slice.injEq,Option.some.injEq,Addr.mk.injEq,true_and,and_true]at hv';obtain⟨rfl,rfl⟩:=hv';refine⟨bn,hbn,hbl,?_⟩;unfold a2a;rw[hbn,Int.toNat_natCast,List.getElem?_eq_getElem hbl];exact hcs' 4 _ rfl
   clear hcs;generalize ms[j].til=u at*
   generalize a2a ms (ovB now ms j)=tb at*
   generalize ovB now ms j=b at*
   by_cases h1:0<u
   ·by_cases h2:u<=now
    ·by_cases h3:b<0
     ·have HN:Hid (ovB now ms (j+1)=(j:Int)):=by show _=_;rw[HS.out,if_pos ⟨⟨h1,h2⟩,.inl h3⟩]
      go_wp2_with fail;go_roundw
      case rel=>exact⟨j+1,by omega,by rw[HN.out],by go_num,by trivial⟩
      case measure=>simp[intOf];omega
     ·obtain⟨bn,rfl,hbl,db⟩:=HB.out (by omega)
      by_cases h4:u<tb
      ·have HN:Hid (ovB now ms (j+1)=(j:Int)):=by show _=_;rw[HS.out,if_pos ⟨⟨h1,h2⟩,.inr h4⟩]
       go_wp2_with fail;go_roundw
       case rel=>exact⟨j+1,by omega,by rw[HN.out],by go_num,by trivial⟩
       case measure=>simp[intOf];omega
      ·have HN:Hid (ovB now ms (j+1)=(bn:Int)):=by
        show _=_
        rw[HS.out,if_neg];rintro ⟨_,h|h⟩
        ·exact h3 h
        ·exact h4 h
       go_wp2_with fail;go_roundw
       case rel=>exact⟨j+1,by omega,by rw[HN.out],by go_num,by trivial⟩
       case measure=>simp[intOf];omega
    ·have HN:Hid (ovB now ms (j+1)=b):=by show _=_;rw[HS.out,if_neg (fun h=>h2 h.1.2)]
     go_wp2_with fail;go_roundw
     case rel=>exact⟨j+1,by omega,by rw[HN.out],by go_num,by trivial⟩
     case measure=>simp[intOf];omega
   ·have HN:Hid (ovB now ms (j+1)=b):=by show _=_;rw[HS.out,if_neg (fun h=>h1 h.1.1)]
    go_wp2_with fail;go_roundw
    case rel=>exact⟨j+1,by omega,by rw[HN.out],by go_num,by trivial⟩
    case measure=>simp[intOf];omega
  ·have hje:j=ms.length:=by omega
   subst hje;go_wp2_with fail;go_ret;exact⟨rfl,rfl⟩
def zg (ms:List Ms)(i:Nat)(g:ByteArray):Bool:=decide (jj (isG g) ms=(i:Int))&&!xN g ms
theorem b1j (ms:List Ms)(qb:Nat)(vm:Value)(i:Nat)(hi:i<ms.length)(w:World)(hc:w.cell? ⟨qb,16,none⟩=some vm)(ho:w.ownsRow 0 271 5 vm ms.length (ms.flatMap Ms.row))(hl:ms.length<=1000):
  zT 273 #[zp qb,.int .i64 (i:Int)] w (.bool (zg ms i ms[i].grp)):=by
 have HOF:Hid (∀W,Tch [] w W->zE 230 #[zp qb,.string ms[i].grp] W (.tuple #[.int .i64 (jZ ms[i].grp ms:Int),.bool (xN ms[i].grp ms)])):=fun W ht=>a1E ms qb vm ms[i].grp W ((ht.cell (a:=⟨qb,16,none⟩) (World.block_lt_of_cell? _ _ hc) (by simp)).trans hc) (jf ho ht (by simp)) hl
 obtain⟨sa,sc,rfl⟩:=jl ho;have HO:=zH ho;have HC:=zH hc;have HQL:Hid (qb<w.heap.size):=World.block_lt_of_cell? _ _ hc;clear ho hc;go_enter Tryz.func273,Tryz.ntmps273;go_wp2_with fail
 go_loopw [5] (fun v wr=>∃k:Nat,k<=i/\v=.int .i64 (k:Int)/\(∀q (hq:q<k) (hl:q<ms.length),isG ms[i].grp ms[q]=false)/\Tch [] w wr) (fun v _=>i-(intOf v).toNat)
 case atStart=>exact⟨0,Nat.zero_le _,rfl,fun i hi=>by omega,Tch.refl _ _⟩
 case round=>
  obtain⟨k,hk,rfl,hno,htr⟩:=hrel;have HNO:=zH hno;have HTR:=zH htr;have c16:=(htr.cell (a:=⟨qb,16,none⟩) HQL.out (by simp)).trans HC.out;obtain⟨gb,cap,hv,lg,hcs⟩:=kA Ms.row 5 (fun _=>rfl) (jf HO.out htr (by simp)) i hi;simp only[Value.slice.injEq,true_and]at hv;obtain⟨rfl,rfl⟩:=hv;have di:wr.cell? ⟨gb,i*5+1,none⟩=some (.string ms[i].grp):=hcs 1 _ rfl;clear hcs hno
  by_cases hlt:k<i
  ·have hkl:k<ms.length:=by omega
   obtain⟨gb',cap',hv',_,hcs'⟩:=kA Ms.row 5 (fun _=>rfl) (jf HO.out htr (by simp)) k hkl;simp only[Value.slice.injEq,Option.some.injEq,Addr.mk.injEq,true_and,and_true]at hv';obtain⟨rfl,rfl⟩:=hv';have dk:wr.cell? ⟨gb,k*5+1,none⟩=some (.string ms[k].grp):=hcs' 1 _ rfl;have hil:(i:Int)<(ms.length:Int):=by omega
   have hkl2:(k:Int)<(ms.length:Int):=by omega
   clear hcs' htr
   cases he:(ms[k].grp.toList == ms[i].grp.toList) with
   | true=>
    have HR:Hid (zg ms i ms[i].grp=false):=by
     show _=_
     have h1:=vY (isG ms[i].grp) ms k hkl he (fun q hq=>HNO.out q hq (by omega));unfold zg;rw[h1,decide_eq_false (by omega)];rfl
    generalize ms[k].grp=s1 at*
    generalize hgi:ms[i].grp=s2 at*
    go_wp2_with fail;go_quiet (fail);go_wp2_with fail;go_ret;subst hgi;exact⟨by rw[HR.out];rfl,HTR.out.drewN _⟩
   | false=>
    have HE:=zH he;have HKK:Hid (∀q (hq:q<k+1) (hl:q<ms.length),isG ms[i].grp ms[q]=false):=fun q hq hl=>by
     by_cases e:q=k
     ·subst e;exact HE.out
     ·exact HNO.out q (by omega) hl
    generalize ms[k].grp=s1 at*
    generalize hgi:ms[i].grp=s2 at*
    go_wp2_with fail;go_quiet (fail);go_wp2_with fail;go_roundw
    case rel=>exact⟨k+1,by omega,by go_num,HKK.out,HTR.out.drewN _⟩
    case measure=>simp[intOf];omega
  ·have hke:k=i:=by omega
   subst hke;have HOF2:=zH (HOF.out wr HTR.out);have HR:Hid (zg ms k ms[k].grp=!xN ms[k].grp ms):=by
    show _=_
    have h1:=vY (isG ms[k].grp) ms k hi ((jY _ _).2 rfl) (fun q hq=>HNO.out q hq (by omega));unfold zg;rw[h1,decide_eq_true rfl];rfl
   clear htr HOF;generalize hgi:ms[k].grp=s2 at*
   go_wp2_with fail;refine HOF2.out.mono ?_;rintro e w' ⟨rfl,h'⟩;have h'':=h'.symm;subst h'';clear HOF2;go_wp2_with fail;go_ret;subst hgi;exact⟨by rw[HR.out];rfl,HTR.out⟩
structure TR (Q:QM)(ts:List Tn)(cnt:Nat):Prop where
 up:Q.rs.Pairwise (fun a b=>qj ts a<qj ts b)
 pos:∀g∈Q.rs,1<=qj ts g
 le:∀t∈ts,t.tm<=(cnt:Int)
 len:ts.length<Q.next
 has:∀m∈Q.ms,∃t∈ts,t.g=m.grp
abbrev ixG (Q:QM)(g:ByteArray):Int:=jj (isG g) Q.ms
theorem a3Q (h:QW i Q){g:ByteArray}(hg:g∈Q.rs):0<=ixG Q g/\ixG Q g<(Q.ms.length:Int):=⟨h.hidx hg,a0t _ _⟩
theorem a5R (hk:ixG Q g=(k:Int)):∃hl:k<Q.ms.length,Q.ms[k].grp=g:=by
 obtain⟨hl,hp⟩:=a4I _ _ _ hk;exact⟨hl,(jY g _).1 hp⟩
theorem b6F (h:QW i Q){g:ByteArray}(hg:g∈Q.rs):xN g Q.ms=false:=by
 unfold xN;rw[List.any_eq_false];intro m hm;have h1:=((h.rr g).1 hg).2 m hm
 by_cases e:m.grp=g
 ·have:=h1 e;simp[this]
 ·have:isG g m=false:=by
   cases hx:isG g m with
   | false=>rfl
   | true=>exact absurd ((jY g m).1 hx) e
  simp[this]
theorem b3X (h:QW i Q){k:Nat}(hk:k<Q.ms.length)(hh:zg Q.ms k Q.ms[k].grp=true):Q.ms[k].grp∈Q.rs/\ixG Q Q.ms[k].grp=(k:Int):=by
 unfold zg at hh;rw[Bool.and_eq_true,decide_eq_true_eq]at hh;refine⟨(h.rr _).2 ⟨⟨_,List.getElem_mem hk,rfl⟩,fun m hm he=>?_⟩,hh.1⟩
 have h2:=hh.2;rw[Bool.not_eq_true']at h2;unfold xN at h2;rw[List.any_eq_false]at h2;have h3:=h2 m hm;rw[(jY _ m).2 he,Bool.true_and,decide_eq_true_eq]at h3;have:=(h.mok m hm).til;omega
theorem a5N (h:QW i Q){k:Nat}(hk:k<Q.ms.length){g:ByteArray}(hg:g∈Q.rs)(hi:ixG Q g=(k:Int)):zg Q.ms k Q.ms[k].grp=true:=by
 obtain⟨_,he⟩:=a5R hi;unfold zg;rw[he,decide_eq_true hi,b6F h hg];rfl
def a2w (Q:QM)(ts:List Tn)(k i:Nat)(b t:Int):Prop:=
 (b=-1/\∀j (hj:j<Q.rs.length),k<=j->(i:Int)<=ixG Q Q.rs[j])\/
 (∃(j:Nat) (hj:j<Q.rs.length),k<=j/\b=ixG Q Q.rs[j]/\b<(i:Int)/\t=qj ts Q.rs[j]/\∀j' (hj':j'<Q.rs.length),k<=j'->j'<j->(i:Int)<=ixG Q Q.rs[j'])
def a2W (Q:QM)(ts:List Tn)(k:Nat):Int:=if k=0 then 0 else ((Q.rs[k-1]?).map (qj ts)).getD 0
theorem a2X (Q:QM)(ts:List Tn)(k:Nat)(hk:k<Q.rs.length):a2W Q ts (k+1)=qj ts Q.rs[k]:=by
 unfold a2W;rw[if_neg (by omega),Nat.add_sub_cancel,List.getElem?_eq_getElem hk];rfl
theorem a2Y (h:TR Q ts cnt)(k:Nat)(hk:k<=Q.rs.length)(q:Nat)(hq:q<Q.rs.length):a2W Q ts k<qj ts Q.rs[q]↔k<=q:=by
 have hp:=List.pairwise_iff_getElem.1 h.up
 cases k with
 | zero=>
  have:=h.pos _ (List.getElem_mem hq)
  show (0:Int)<_↔0<=q
  omega
 | succ k=>
  rw[a2X Q ts k (by omega)];constructor
  ·intro hlt
   by_cases e:k<q
   ·omega
   ·exfalso
    by_cases e2:q=k
    ·subst e2;omega
    ·have:=hp q k hq (by omega) (by omega);omega
  ·intro hle;exact hp k q (by omega) hq (by omega)
theorem a2b (h:TR Q ts cnt){p q:Nat}(hp:p<Q.rs.length)(hq:q<Q.rs.length):qj ts Q.rs[p]<qj ts Q.rs[q]↔p<q:=by
 have hpw:=List.pairwise_iff_getElem.1 h.up;constructor
 ·intro hlt
  by_cases e:p<q
  ·exact e
  ·exfalso
   by_cases e2:p=q
   ·subst e2;omega
   ·have:=hpw q p hq hp (by omega);omega
 ·exact fun hlt=>hpw p q hp hq hlt
theorem a9R (h:QW i Q){p q:Nat}(hp:p<Q.rs.length)(hq:q<Q.rs.length)(he:ixG Q Q.rs[p]=ixG Q Q.rs[q]):p=q:=by
 obtain⟨k,hk⟩:∃k:Nat,ixG Q Q.rs[p]=(k:Int):=⟨_,(Int.toNat_of_nonneg (a3Q h (List.getElem_mem hp)).1).symm⟩;obtain⟨_,h1⟩:=a5R hk;obtain⟨_,h2⟩:=a5R (he▸hk);have h3:Q.rs[p]=Q.rs[q]:=h1.symm.trans h2
 by_cases hlt:p<q
 ·exact absurd h3 (List.pairwise_iff_getElem.1 h.rn p q hp hq hlt)
 ·by_cases hgt:q<p
  ·exact absurd h3.symm (List.pairwise_iff_getElem.1 h.rn q p hq hp hgt)
  ·omega
theorem b2U (hW:QW n Q){ts:List Tn}{cnt:Nat}(hT:TR Q ts cnt){k i:Nat}(hk:k<=Q.rs.length)(hi:i<Q.ms.length){b t:Int}(h:a2w Q ts k i b t):
  ((zg Q.ms i Q.ms[i].grp=true/\a2W Q ts k<qj ts Q.ms[i].grp)/\(b<0\/qj ts Q.ms[i].grp<t)->a2w Q ts k (i+1) (i:Int) (qj ts Q.ms[i].grp))/\
  (¬((zg Q.ms i Q.ms[i].grp=true/\a2W Q ts k<qj ts Q.ms[i].grp)/\(b<0\/qj ts Q.ms[i].grp<t))->a2w Q ts k (i+1) b t):=by
 have hb0:∀j (hj:j<Q.rs.length),0<=ixG Q Q.rs[j]:=fun j hj=>(a3Q hW (List.getElem_mem hj)).1
 have hne:∀q (hq:q<Q.rs.length),ixG Q Q.rs[q]=(i:Int)->Q.ms[i].grp=Q.rs[q]:=fun q hq e=>(a5R e).2
 constructor
 ·rintro ⟨⟨hh,hl⟩,hor⟩;obtain⟨hg,hix⟩:=b3X hW hi hh;obtain⟨q,hq,hqe⟩:=List.mem_iff_getElem.1 hg;rw[<-hqe]at hl hor hix ⊢;have hkq:=(a2Y hT k hk q hq).1 hl;refine .inr ⟨q,hq,hkq,hix.symm,by omega,rfl,fun j' hj' hk' hlt=>?_⟩
  have hne2:ixG Q Q.rs[j']≠(i:Int):=fun e=>by
   have:=a9R hW hj' hq (e.trans hix.symm);omega
  rcases h with ⟨_,h2⟩|⟨j,hj,h1,h2,h3,h4,h5⟩
  ·have:=h2 j' hj' hk';omega
  ·have hqj:q<j:=by
    rcases hor with e|e
    ·have:=hb0 j hj;omega
    ·rw[h4]at e;exact(a2b hT hq hj).1 e
   have:=h5 j' hj' hk' (by omega);omega
 ·intro hno;rcases h with ⟨h1,h2⟩|⟨j,hj,h1,h2,h3,h4,h5⟩
  ·refine .inl ⟨h1,fun j hj hkj=>?_⟩
   have h6:=h2 j hj hkj;have hne2:ixG Q Q.rs[j]≠(i:Int):=fun e=>by
    refine hno ⟨⟨a5N hW hi (List.getElem_mem hj) e,?_⟩,.inl (by omega)⟩;rw[hne j hj e];exact(a2Y hT k hk j hj).2 hkj
   omega
  ·refine .inr ⟨j,hj,h1,h2,by omega,h4,fun j' hj' hk' hlt=>?_⟩
   have h6:=h5 j' hj' hk' hlt;have hne2:ixG Q Q.rs[j']≠(i:Int):=fun e=>by
    refine hno ⟨⟨a5N hW hi (List.getElem_mem hj') e,?_⟩,.inr ?_⟩
    ·rw[hne j' hj' e];exact(a2Y hT k hk j' hj').2 hk'
    ·rw[hne j' hj' e,h4];exact(a2b hT hj' hj).2 hlt
   omega
theorem b4O (hW:QW n Q){ts:List Tn}{cnt:Nat}(hT:TR Q ts cnt){k:Nat}(hk:k<=Q.rs.length){b t:Int}(h:a2w Q ts k Q.ms.length b t):
  (b=-1/\k=Q.rs.length)\/(∃hl:k<Q.rs.length,b=ixG Q Q.rs[k]/\0<=b/\t=qj ts Q.rs[k]):=by
 rcases h with ⟨h1,h2⟩|⟨j,hj,h1,h2,h3,h4,h5⟩
 ·refine .inl ⟨h1,?_⟩
  by_cases e:k<Q.rs.length
  ·have h6:=h2 k e (Nat.le_refl _);have:=(a3Q hW (List.getElem_mem e)).2;omega
  ·omega
 ·have hjk:j=k:=by
   by_cases e:k<j
   ·have h6:=h5 k (by omega) (Nat.le_refl _) e;have:=(a3Q hW (List.getElem_mem (show k<Q.rs.length by omega))).2;omega
   ·omega
  subst hjk;exact .inr ⟨hj,h2,by rw[h2];exact(a3Q hW (List.getElem_mem hj)).1,h4⟩
theorem a9T (Q:QM)(ts:List Tn)(k:Nat)(hb:∀j (hj:j<Q.rs.length),0<=ixG Q Q.rs[j]):a2w Q ts k 0 (-1) 0:=.inl ⟨rfl,fun j hj _=>hb j hj⟩
theorem b6U:(Tryz.prog.info? 3).map (fun i=>(i.zero,i.size,i.bytes))=some (some (.int .i64 0),1,8):=by kernel_rfl
def ixV (Q:QM)(g:ByteArray):Value:=.int .i64 (ixG Q g)
theorem a3O (n:Nat)(Q:QM)(ts:List Tn)(cnt:Nat)(V:RV)(sl:Value)(qb:Nat)(w:World)(h:RR w qb V sl Q ts cnt)(hW:QW n Q)(hT:TR Q ts cnt):
  Cp 226 #[zp qb] w fun e w'=>∃v,e=.returned v/\w'.ownsRow w.heap.size 3 1 v Q.rs.length (Q.rs.map (ixV Q))/\Tch [] w w':=by
 have hml:=hW.ml;have hnx:=hW.nx;have htl:ts.length<=1000:=by have:=hT.len;omega
 have hrl:Q.rs.length<=1000:=by have:=hW.rl;omega
 have HR:Hid (∀W,Tch [] w W->RR W qb V sl Q ts cnt):=fun W ht=>h.tch ht (by simp)
 have HHD:Hid (∀W (i:Nat) (hi:i<Q.ms.length),Tch [] w W->zT 273 #[zp qb,.int .i64 (i:Int)] W (.bool (zg Q.ms i Q.ms[i].grp))):=fun W i hi ht=>b1j Q.ms qb V.m i hi W (jb (HR.out W ht).blk 16 _ rfl) (HR.out W ht).m (by omega)
 have HTN:Hid (∀W g,Tch [] w W->zE 274 #[zp qb,.string g] W (.int .i64 (qj ts g))):=fun W g ht=>b3h ts qb V.t g W (jb (HR.out W ht).blk 17 _ rfl) (HR.out W ht).t htl
 obtain⟨sa,sc,hvm⟩:=jl h.m;have HVM:=zH hvm;have HC:Hid (∀W,Tch [] w W->W.cell? ⟨qb,16,none⟩=some (.slice sa Q.ms.length sc)/\qb<W.heap.size):=fun W ht=>⟨by rw[<-hvm];exact jb (HR.out W ht).blk 16 _ rfl,lt_of_block (HR.out W ht).blk⟩
 have HB0:Hid (∀j (hj:j<Q.rs.length),0<=ixG Q Q.rs[j]):=fun j hj=>(a3Q hW (List.getElem_mem hj)).1
 have HST:Hid (∀k i b t,k<=Q.rs.length->∀(hi:i<Q.ms.length),a2w Q ts k i b t->_):=fun k i b t hk hi hs=>b2U hW hT hk hi hs
 have HEN:Hid (∀k b t,k<=Q.rs.length->a2w Q ts k Q.ms.length b t->_):=fun k b t hk hs=>b4O hW hT hk hs
 clear h hvm hT hW;go_enter Tryz.func226,Tryz.ntmps226;go_wp2_with fail
 go_loopw [3,4] (fun ov lv wr=>∃(k:Nat) (oa:Option Addr) (oc:Nat),k<=Q.rs.length/\ov=.slice oa k oc/\lv=.int .i64 (a2W Q ts k)/\wr.ownsRow w.heap.size 3 1 ov k ((Q.rs.take k).map (ixV Q))/\Tch [] w wr) (fun ov _ _=>match ov with|.slice _ k _=>Q.rs.length-k|_=>0)
 case atStart=>exact⟨0,none,0,Nat.zero_le _,rfl,rfl,by simpa using World.ownsRow_nil w _ _ _,Tch.refl _ _⟩
 case round=>
  obtain⟨k,oa,oc,hk,rfl,rfl,how,htr⟩:=hrel;obtain⟨wo,hwo⟩:∃wo,wo=wr:=⟨_,rfl⟩;subst hwo;have HOW:=zH how;have HTR:=zH htr;clear how htr;obtain⟨lt,HLT⟩:∃lt,Hid (lt=a2W Q ts k):=⟨_,rfl⟩;rw[<-HLT.out];go_wp2_with fail
  go_loopw [5,6,7] (fun bv tv v wq=>∃(i:Nat) (b t:Int),i<=Q.ms.length/\bv=.int .i64 b/\tv=.int .i64 t/\v=.int .i64 (i:Int)/\a2w Q ts k i b t/\Tch [] wo wq) (fun _ _ v _=>Q.ms.length-(intOf v).toNat)
  case atStart=>exact⟨0,-1,0,Nat.zero_le _,rfl,rfl,rfl,a9T Q ts k HB0.out,Tch.refl _ _⟩
  case round=>
   obtain⟨i,b,t,hi,rfl,rfl,rfl,hsel,htq⟩:=hrel;have HTQ:=zH htq;have HSEL:=zH hsel;have htw:=HTR.out.trans htq (fun x hx _=>hx);have HTW:=zH htw;obtain⟨c16,lq⟩:=HC.out wr htw;clear hsel htq htw
   by_cases hlt:i<Q.ms.length
   ·obtain⟨S1,S2⟩:=HST.out k i b t hk hlt HSEL.out;have HS1:Hid _:=S1;have HS2:Hid _:=S2;have HHD2:=zH (HHD.out wr i hlt HTW.out);clear S1 S2;go_wp2_with fail;refine HHD2.out.mono ?_;rintro e w1 ⟨rfl,ht1⟩;clear HHD2;have htw1:=HTW.out.trans ht1 (fun x hx _=>hx);have HT1:=zH (HTQ.out.trans ht1 (fun x hx _=>hx));have HTN2:=zH (HTN.out w1 Q.ms[i].grp htw1);obtain⟨c16',lq'⟩:=HC.out w1 htw1;obtain⟨gb,cap,hv,lg,hcs⟩:=kA Ms.row 5 (fun _=>rfl) (HVM.out▸(HR.out w1 htw1).m) i hlt;simp only[Value.slice.injEq,true_and]at hv;obtain⟨rfl,rfl⟩:=hv;have d1:w1.cell? ⟨gb,i*5+1,none⟩=some (.string Q.ms[i].grp):=hcs 1 _ rfl;clear hcs c16 lq ht1 htw1;generalize zg Q.ms i Q.ms[i].grp=hb at*
    generalize qj ts Q.ms[i].grp=tn at*
    generalize Q.ms[i].grp=gg at*
    go_wp2_with fail;refine HTN2.out.mono ?_;rintro e w2 ⟨rfl,h2⟩;subst h2;clear HTN2
    cases hb with
    | false=>
     have HN:Hid (a2w Q ts k (i+1) b t):=HS2.out (by rintro ⟨⟨h,_⟩,_⟩;exact absurd h (by decide));go_wp2_with fail;go_roundw
     case rel=>exact⟨i+1,b,t,by omega,rfl,rfl,by go_num,HN.out,HT1.out⟩
     case measure=>simp[intOf];omega
    | true=>
     by_cases h1:lt<tn
     ·by_cases h2:b<0
      ·have HN:Hid (a2w Q ts k (i+1) (i:Int) tn):=HS1.out ⟨⟨rfl,by rw[<-HLT.out];exact h1⟩,.inl h2⟩;go_wp2_with fail;go_roundw
       case rel=>exact⟨i+1,_,_,by omega,rfl,rfl,by go_num,HN.out,HT1.out⟩
       case measure=>simp[intOf];omega
      ·by_cases h3:tn<t
       ·have HN:Hid (a2w Q ts k (i+1) (i:Int) tn):=HS1.out ⟨⟨rfl,by rw[<-HLT.out];exact h1⟩,.inr h3⟩;go_wp2_with fail;go_roundw
        case rel=>exact⟨i+1,_,_,by omega,rfl,rfl,by go_num,HN.out,HT1.out⟩
        case measure=>simp[intOf];omega
       ·have HN:=zH (HS2.out (by rintro ⟨_,h|h⟩<;>omega));go_wp2_with fail;go_roundw
        case rel=>exact⟨i+1,b,t,by omega,rfl,rfl,by go_num,HN.out,HT1.out⟩
        case measure=>simp[intOf];omega
     ·have HN:=zH (HS2.out (by rintro ⟨⟨_,h⟩,_⟩;rw[<-HLT.out]at h;omega));go_wp2_with fail;go_roundw
      case rel=>exact⟨i+1,b,t,by omega,rfl,rfl,by go_num,HN.out,HT1.out⟩
      case measure=>simp[intOf];omega
   ·obtain rfl:i=Q.ms.length:=by omega
    have hE:=HEN.out k b t hk HSEL.out;have zo:=HTR.out.size;have zr:=HTQ.out.size;rcases hE with ⟨hb1,hke⟩|⟨hl,hbe,hb0,hte⟩
    ·subst hb1;have HOU:Hid (wr.ownsRow w.heap.size 3 1 (.slice oa k oc) Q.rs.length (Q.rs.map (ixV Q))):=by
      have h1:=jf HOW.out HTQ.out (fun _ _=>by simp);rw[hke,List.take_length]at h1
      show World.ownsRow _ _ _ _ _ _ _
      rw[hke];exact h1
     go_wp2_with fail;go_ret;exact⟨_,rfl,HOU.out,HTW.out⟩
    ·have HBE:=zH hbe;have HTE:=zH hte;have HNEW:Hid ((wr.alloc (.cells #[.int .i64 b] 3)).heap[wr.heap.size]?=some (.cells #[.int .i64 b] 3 (0,0))):=heap_alloc_new _ _;have HSN:=zH (a2X Q ts k hl);have HTK:Hid ((Q.rs.take (k+1)).map (ixV Q)=(Q.rs.take k).map (ixV Q)++[ixV Q Q.rs[k]]):=by
      show _=_
      rw[List.take_succ_eq_append_getElem hl,List.map_append];rfl
     clear hbe hte;go_wp2_with (at_builtin;refine xz w.heap.size _ rfl _ _ 258 3 rfl Tryz.underlying258 (.int .i64 0) 1 8 b6U rfl (by decide) (by decide) (.slice oa k oc) k ((Q.rs.take k).map (ixV Q)) ?hvs ?hvo ?hvb wr.heap.size [.int .i64 b] 1 ?hvx rfl (by decide) ?hvg ?hv1 (by omega) ?hvk)
     (try case hvs=>simp[Act.eval,Act.put])
     case hvo=>exact jf HOW.out (HTQ.out.alloc _) (fun _ _=>by simp)
     case hvb=>first|omega|(simp;omega)
     (try case hvx=>simp[Act.eval,Act.put])
     case hvg=>first|exact HNEW.out|(have h:=HNEW.out;rw[Array.getElem?_eq_getElem (by simp)]at h;exact Option.some.inj h)
     case hv1=>first|rfl|(intro u hu;simp at hu;rcases hu with rfl;rfl)
     intro v2 w2 ho2 hg2 hb2;obtain⟨a2,c2,hv2⟩:∃a2 c2,v2=.slice a2 (k+1) c2:=jl ho2;subst hv2;have HO2:Hid (w2.ownsRow w.heap.size 3 1 (.slice a2 (k+1) c2) (k+1) ((Q.rs.take (k+1)).map (ixV Q))/\Tch [] w w2):=by
      refine⟨?_,(HTW.out.alloc _).grown hg2 (fun k hk hlt=>?_)⟩
      ·have e:ixV Q Q.rs[k]=.int .i64 b:=by unfold ixV;rw[<-HBE.out]
       rw[HTK.out,e,List.map_take];exact ho2
      ·have:=xk HOW.out k hk;omega
     clear ho2 hg2 hb2;go_wp2_with fail;go_roundw
     case rel=>exact⟨k+1,a2,c2,by omega,rfl,by rw[HSN.out,HTE.out],HO2.out.1,HO2.out.2⟩
     case measure=>simp;omega
end Go.Proofs.YtbdobaapadlcjaaGreatDoor.Ref
