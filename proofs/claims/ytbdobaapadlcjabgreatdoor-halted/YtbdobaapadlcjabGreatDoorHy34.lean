import Derived.Test.YtbdobaapadlcjabGreatDoorHy33
set_option maxRecDepth 8000
set_option maxHeartbeats 4000000
set_option linter.unusedVariables false
set_option linter.unusedSimpArgs false
namespace Go.Proofs.YtbdobaapadlcjabGreatDoor
open Go.RowKit
variable {w w':World}{j d B x st:Nat}{dn:Bool}{room L n:Int}{v:Value}{fs:List Dk.DF}{F:ByteArray}{col:Nat->Nat}
theorem number_short (b:Nat)(s:ByteArray)(f:Bool)(w:World)(h4:s.size<4)(hR:Rd w b s f):
  Calls Tryz.prog 53 #[.pointer (some ⟨b,0,none⟩),.int .i64 4] w fun e w'=>e=.returned (.int .i64 0)/\Rd w' b ⟨#[]⟩ true/\Tch [b] w w':=by
 have htk:=take_any b s f 4 w (by omega) (by unfold maxLen;omega) hR;have e1:tk s 4=⟨#[]⟩:=if_neg (by omega);have e2:lf s 4=⟨#[]⟩:=if_neg (by omega);have e3:bad s f 4=true:=if_neg (by omega);rw[e1,e2,e3]at htk;have HT:=zH htk;clear htk hR e1 e2 e3;go_enter Tryz.func53,Tryz.ntmps53;go_wp2_with fail;refine(HT.out).mono ?_;rintro e w1 ⟨rfl,h1,h2,h3⟩;have H1:Hid (Rd w1 b ⟨#[]⟩ true/\Tch [b] w w1):=⟨h1,tch_grown h2⟩;clear h1 h2 h3
 go_wp2
 refine wp_loop_rounds 1 ?_;rw[rounds_succ]
 go_wp2
 go_ret;exact⟨rfl,H1.out⟩
theorem take_short (b:Nat)(s:ByteArray)(f:Bool)(n:Nat)(w:World)(hn:n<=1048576)(h4:s.size<n)(hs:s.size<=maxLen)(hR:Rd w b s f):
  Calls Tryz.prog 77 #[.pointer (some ⟨b,0,none⟩),.int .i64 (n:Int)] w fun e w'=>e=.returned (.string ⟨#[]⟩)/\Rd w' b ⟨#[]⟩ true/\Tch [b] w w':=by
 refine(take_any b s f n w hn hs hR).mono ?_;have e1:tk s n=⟨#[]⟩:=if_neg (by omega);have e2:lf s n=⟨#[]⟩:=if_neg (by omega);have e3:bad s f n=true:=if_neg (by omega);rw[e1,e2,e3];rintro e w' ⟨rfl,h1,h2,_⟩;exact⟨rfl,h1,tch_grown h2⟩
theorem take_gone (b:Nat)(n:Nat)(w:World)(hn:n<=1048576)(hR:Rd w b ⟨#[]⟩ true):
  Calls Tryz.prog 77 #[.pointer (some ⟨b,0,none⟩),.int .i64 (n:Int)] w fun e w'=>e=.returned (.string ⟨#[]⟩)/\Rd w' b ⟨#[]⟩ true/\Tch [b] w w':=by
 by_cases h0:n=0
 ·subst h0;refine(take_any b ⟨#[]⟩ true 0 w hn (by decide) hR).mono ?_;rintro e w' ⟨rfl,h1,h2,_⟩;exact⟨rfl,h1,tch_grown h2⟩
 ·exact take_short b ⟨#[]⟩ true n w hn (by show 0<n;omega) (by decide) hR
def Cut (s:ByteArray)(p:List UInt8):Prop:=0<p.length/\∃q,q≠[]/\recB s=p++q
theorem pre_split {a b p q:List UInt8}(h:a++b=p++q)(hl:a.length<=p.length):∃p',p=a++p'/\b=p'++q:=by
 refine⟨p.drop a.length,?_,?_⟩
 ·have h1:(a++b).take a.length=(p++q).take a.length:=by rw[h]
  rw[List.take_left',List.take_append_of_le_length hl]at h1
  ·rw[h1];simp[List.length_take,Nat.min_eq_left hl]
  ·rfl
 ·have h1:(a++b).drop a.length=(p++q).drop a.length:=by rw[h]
  rw[List.drop_left,List.drop_append_of_le_length hl]at h1;exact h1
theorem readRec_cut (b:Nat)(s:ByteArray)(p:List UInt8)(w:World)(hc:Cut s p)(hs:s.size<=1000000)(h:RdL w b p):
  Calls Tryz.prog 86 #[.pointer (some ⟨b,0,none⟩)] w fun e w'=>(∃t,e=.returned (.tuple #[.string t,.bool false]))/\Tch [b] w w':=by
 obtain⟨hp,q,hq,hr⟩:=hc;have hqp:0<q.length:=List.length_pos_iff.2 hq;have hlen:p.length+q.length=8+s.size:=by rw[<-List.length_append,<-hr,recB_length]
 have hr':=recB_app s [];rw[List.append_nil,hr,List.append_nil]at hr';have l4:=lowB_length s.size 4;have k4:=lowB_length (Crc.crc s.data.toList) 4;have hcc:Crc.crc s.data.toList<4294967296:=crc_lt s.data.toList;have HN1:Hid (Calls Tryz.prog 53 #[.pointer (some ⟨b,0,none⟩),.int .i64 4] w fun e w'=>∃n:Nat,e=.returned (.int .i64 (n:Int))/\n<=1000000/\Tch [b] w w'/\Calls Tryz.prog 53 #[.pointer (some ⟨b,0,none⟩),.int .i64 4] w' fun e w2=>∃m:Nat,e=.returned (.int .i64 (m:Int))/\Tch [b] w' w2/\Calls Tryz.prog 77 #[.pointer (some ⟨b,0,none⟩),.int .i64 (n:Int)] w2 fun e w3=>e=.returned (.string ⟨#[]⟩)/\Rd w3 b ⟨#[]⟩ true/\Tch [b] w2 w3):=by
  by_cases c1:p.length<4
  ·refine(number_short b (BA p) false w (by rw[BA_size];exact c1) h.1).mono ?_;rintro e w1 ⟨rfl,r1,t1⟩;refine⟨0,rfl,by omega,t1,?_⟩;refine(number_short b ⟨#[]⟩ true w1 (by decide) r1).mono ?_;rintro e w2 ⟨rfl,r2,t2⟩;exact⟨0,rfl,t2,take_gone b 0 w2 (by omega) r2⟩
  ·obtain⟨p1,rfl,hr1⟩:=pre_split hr'.symm (by omega);refine(num_l b s.size 4 p1 w (.inr (.inr ⟨rfl,by omega⟩)) h).mono ?_;rintro e w1 ⟨rfl,r1,t1⟩;refine⟨s.size,rfl,hs,t1,?_⟩;rw[List.length_append]at hlen
   by_cases c2:p1.length<4
   ·refine(number_short b (BA p1) false w1 (by rw[BA_size];exact c2) r1.1).mono ?_;rintro e w2 ⟨rfl,r2,t2⟩;exact⟨0,rfl,t2,take_gone b s.size w2 (by omega) r2⟩
   ·obtain⟨p2,rfl,hr2⟩:=pre_split hr1 (by omega);refine(num_l b (Crc.crc s.data.toList) 4 p2 w1 (.inr (.inr ⟨rfl,hcc⟩)) r1).mono ?_;rintro e w2 ⟨rfl,r2,t2⟩;rw[List.length_append]at hlen;exact⟨_,rfl,t2,take_short b (BA p2) false s.size w2 (by omega) (by rw[BA_size];omega) r2.sz r2.1⟩
 clear h hr hr' hcc;go_enter Tryz.func86,Tryz.ntmps86;go_wp2_with fail;refine HN1.out.mono ?_;rintro e w1 ⟨n,rfl,hn,t1,h1⟩;have H1:=zH h1;have T1:=zH t1;clear h1 t1 HN1;go_wp2_with fail;refine H1.out.mono ?_;rintro e w2 ⟨m,rfl,t2,h2⟩;have H2:=zH h2;have T2:=zH (T1.out.trans t2 (fun _ h _=>h));clear h2 t2 H1 T1;go_wp2_with fail;refine H2.out.mono ?_;rintro e w3 ⟨rfl,r3,t3⟩;have T3:=zH (T2.out.trans t3 (fun _ h _=>h));have f1:=r3.c1;clear r3 t3 H2 T2;go_wp2_with (go_at_call 56;go_in);go_ret2;exact⟨⟨_,rfl⟩,T3.out⟩
theorem readRecs_c (B:Nat)(ss:List ByteArray)(s0:ByteArray)(p:List UInt8)(hp:p=[]\/Cut s0 p)(hs0:s0.size<=1000000)(w:World)(hE:Env B w)(hl:(ss.flatMap recB++p).length<=1000000):
  Calls Tryz.prog 60 #[.string (BA (ss.flatMap recB++p))] w fun e w'=>∃v cl,e=.returned (.tuple #[v,.bool cl])/\Dk.OwnS w' v ss/\(∀k,v.ownBlock=some k->w.heap.size<k)/\Tch [] w w':=by
 have hsl:ss.length<=1000000:=by
  have:=recs_len ss;rw[List.length_append]at hl;omega
 have hBw:=hE.size;have H0:Hid (RdL (w.alloc (.cells #[.string (BA (ss.flatMap recB++p)),.bool false] 154)) w.heap.size (ss.flatMap recB++p)/\Tch [] w (w.alloc (.cells #[.string (BA (ss.flatMap recB++p)),.bool false] 154))):=⟨⟨heap_alloc_new _ _,hl⟩,(Tch.refl [] w).alloc _⟩;have HRD:Hid (∀W (k:Nat) (hk:k<ss.length),Tch [] w W->RdL W w.heap.size ((ss.drop k).flatMap recB++p)->Calls Tryz.prog 86 #[.pointer (some ⟨w.heap.size,0,none⟩)] W fun e w'=>e=.returned (.tuple #[.string ss[k],.bool true])/\RdL w' w.heap.size ((ss.drop (k+1)).flatMap recB++p)/\Tch [w.heap.size] W w'):=fun W k hk ht hR=>by
  rw[List.drop_eq_getElem_cons hk,List.flatMap_cons,List.append_assoc]at hR;exact readRec_l B w.heap.size ss[k] _ W (hE.tch ht (by simp)) hBw hR
 have HZ:Hid (∀k,k<ss.length->0<(BA ((ss.drop k).flatMap recB++p)).size):=fun k hk=>by
  show 0<_
  rw[BA_size,List.drop_eq_getElem_cons hk,List.flatMap_cons,List.length_append,List.length_append,recB_length];omega
 have HNR:=zH (newReader_any (BA (ss.flatMap recB++p)) w);clear hE hl;go_enter Tryz.func60,Tryz.ntmps60;go_wp2_with fail;refine HNR.out.mono ?_;rintro e w1 ⟨rfl,hw1⟩;have H1:Hid (RdL w1 w.heap.size (ss.flatMap recB++p)/\Tch [] w w1):=by rw[hw1];exact H0.out
 have hz1:w.heap.size<w1.heap.size:=H1.out.1.lt;clear hw1 H0 HNR;go_wp2_with fail
 go_loopw [4] (fun ov wr=>∃k:Nat,k<=ss.length/\lenV ov=k/\Dk.OwnS wr ov (ss.take k)/\(∀b,ov.ownBlock=some b->w.heap.size<b)/\RdL wr w.heap.size ((ss.drop k).flatMap recB++p)/\Tch [] w wr) (fun ov _=>ss.length-lenV ov)
 case atStart=>exact⟨0,Nat.zero_le _,rfl,Dk.OwnS.nil _,fun b hb=>by simp[Value.ownBlock]at hb,H1.out.1,H1.out.2⟩
 case round=>
  obtain⟨k,hk,hlv,hown,hnew,hr,ht⟩:=hrel;have HOW:=zH (⟨hown,hnew,ht⟩:Dk.OwnS wr u4 (ss.take k)/\(∀b,u4.ownBlock=some b->w.heap.size<b)/\Tch [] w wr);have r0:=hr.1.c0
  by_cases hlt:k<ss.length
  ·have hz:=HZ.out k hlt;have HR:=zH (HRD.out wr k hlt ht hr);have htk:ss.take (k+1)=ss.take k++[ss[k]]:=List.take_succ_eq_append_getElem hlt;have htl:(ss.take k).length=k:=by rw[List.length_take];omega
   clear hown hnew hr ht HRD HZ H1;generalize BA ((ss.drop k).flatMap recB++p)=R at*
   generalize ss[k]=s at*
   generalize ss.take k=L at*
   go_wp2_with (go_at_call 57;go_in);refine HR.out.mono ?_;rintro e w2 ⟨rfl,r2,t2⟩;have HT2:Hid (Tch [] w w2):=HOW.out.2.2.trans t2 (fun x hx hl=>by simp at hx;omega);have HO2:Hid (Dk.OwnS w2 u4 L):=HOW.out.1.tch t2 (fun b hb=>by have:=HOW.out.2.1 b hb;simp;omega);have HR2:=zH r2;have hz2:=r2.lt;clear r2 t2 HR r0;go_wp2_with (at_builtin;refine Dk.wpList_strs _ rfl _ _ rfl u4 L rfl (HO2.out.tch ((Tch.refl [] _).alloc _) (fun _ _=>by simp)) w2.heap.size [s] 1 rfl rfl (by decide) (heap_alloc_new _ _) (by omega) ?_);intro v' w3 ho3 hg3 hb3;have hlv3:lenV v'=k+1:=by
    obtain⟨a3,c3,e3,_⟩:=ho3.at
    rw[e3]
    show (L++[s]).length=k+1
    rw[List.length_append,htl];rfl
   have HF:Hid (Dk.OwnS w3 v' (L++[s])/\(∀b,v'.ownBlock=some b->w.heap.size<b)/\RdL w3 w.heap.size ((ss.drop (k+1)).flatMap recB++p)/\Tch [] w w3):=by
    have hal:(w2.alloc (.cells #[.string s] 9)).heap.size=w2.heap.size+1:=by simp
    refine⟨ho3,fun b hb=>?_,?_,?_⟩
    ·rcases hb3 with h|h
     ·exact HOW.out.2.1 b (h.symm.trans hb)
     ·rw[hb]at h;injection h with h;omega
    ·have tg:Tch u4.ownBlock.toList w2 w3:=((Tch.refl _ w2).alloc _).grown hg3 (fun b hb _=>by simp[hb]);exact HR2.out.tch tg (fun hm=>by
      have:=HOW.out.2.1 w.heap.size (by simpa [Option.mem_toList]using hm);omega)
    ·exact(HT2.out.alloc _).grown hg3 (fun b hb hl=>by have:=HOW.out.2.1 b hb;omega)
   clear ho3 hg3 hb3 HO2 HT2 HR2;go_wp2_with fail;go_roundw
   case rel=>exact⟨k+1,by omega,hlv3,by rw[htk];exact HF.out.1,HF.out.2.1,HF.out.2.2.1,HF.out.2.2.2⟩
   case measure=>simp[hlv,hlv3];omega
  ·have hke:k=ss.length:=by omega
   have HO:Hid (Dk.OwnS wr u4 ss):=by
    have h1:=HOW.out.1;rw[hke,List.take_length]at h1;exact h1
   rw[hke,List.drop_length]at hr r0;rcases hp with rfl|hcut
   ·have hz:¬0<(BA (([]:List ByteArray).flatMap recB++[])).size:=by decide
    clear hown hnew hr ht HRD HZ H1;generalize BA (([]:List ByteArray).flatMap recB++[])=R at*
    go_wp2_with (go_at_call 57;go_in);go_ret2;exact⟨_,_,rfl,HO.out,HOW.out.2.1,HOW.out.2.2⟩
   ·have hz:0<(BA (([]:List ByteArray).flatMap recB++p)).size:=by
     rw[BA_size];exact hcut.1
    have HR:=zH (readRec_cut w.heap.size s0 p wr hcut hs0 hr);clear hown hnew hr ht HRD HZ H1 hcut;generalize BA (([]:List ByteArray).flatMap recB++p)=R at*
    go_wp2_with (go_at_call 57;go_in);refine HR.out.mono ?_;rintro e w2 ⟨⟨t2,rfl⟩,t2'⟩;have HF:Hid (Dk.OwnS w2 u4 ss/\(∀b,u4.ownBlock=some b->w.heap.size<b)/\Tch [] w w2):=⟨HO.out.tch t2' (fun b hb=>by have:=HOW.out.2.1 b hb;simp;omega),HOW.out.2.1,HOW.out.2.2.trans t2' (fun x hx hl=>by simp at hx;omega)⟩;clear t2' HR r0 HOW HO;go_wp2_with fail;go_ret2;exact⟨_,_,rfl,HF.out.1,HF.out.2.1,HF.out.2.2⟩
def JOc (w:World)(d:Nat)(W0:ByteArray)(ss:List ByteArray)(e:Ending)(w':World):Prop:=∃ra rc room,e=.returned (.tuple #[.pointer (some ⟨w.heap.size,0,none⟩),.string W0,.slice ra ss.length rc])/\w'.heap[w.heap.size]?=some (.cells #[.pointer (some ⟨d,0,none⟩),.int .i64 room,.bool false] 85 (0,0))/\Strs w' ra ss/\Tch [] w w'
theorem jopen_cut (B d:Nat)(F W0:ByteArray)(ss:List ByteArray)(s0:ByteArray)(p:List UInt8)(hb:Bool)(hp:p=[]\/Cut s0 p)(hs0:s0.size<=1000000)(w:World)(hE:Env B w)(hF:F=BA ((W0::ss).flatMap recB++p))(hl:((W0::ss).flatMap recB++p).length<=1000000)
  (hrd:∀W,Tch [] w W->zE 37 #[.pointer (some ⟨d,0,none⟩),.string jn] W (.string F))(hhs:∀W,Tch [] w W->zE 61 #[.pointer (some ⟨d,0,none⟩),.string jw] W (.bool hb)):
  Calls Tryz.prog 33 #[.pointer (some ⟨d,0,none⟩)] w (JOc w d W0 ss):=by
 have hFs:F.size<=1000000:=by rw[hF,BA_size];exact hl
 have hWs:W0.size<=F.size:=by
  rw[hF,BA_size,List.length_append,List.flatMap_cons,List.length_append,recB_length];omega
 have hsl:ss.length<=1000000:=by
  have:=recs_len (W0::ss);rw[List.length_cons]at this;rw[List.length_append]at hl;omega
 have HRC:Hid (∀W,Tch [] w W->Calls Tryz.prog 60 #[.string F] W fun e w'=>∃v cl,e=.returned (.tuple #[v,.bool cl])/\Dk.OwnS w' v (W0::ss)/\(∀k,v.ownBlock=some k->W.heap.size<k)/\Tch [] W w'):=fun W ht=>by
  rw[hF];exact readRecs_c B (W0::ss) s0 p hp hs0 W (hE.tch ht (by simp)) hl
 have HRD:=zH hrd;have HHS:=zH hhs;have HTA:Hid (∀o,Tch [] w (w.alloc o)):=fun o=>(Tch.refl [] w).alloc o
 clear hE hl hF hrd hhs hp;go_enter Tryz.func33,Tryz.ntmps33;go_wp2_with fail;refine(HRD.out _ (HTA.out _)).mono ?_;rintro e w1 ⟨rfl,hw1⟩;have H1:Hid (Tch [] w w1/\w1.heap[w.heap.size]?=some (.cells #[.pointer (some ⟨d,0,none⟩),.int .i64 0,.bool false] 85 (0,0))):=by
  rw[hw1];exact⟨HTA.out _,heap_alloc_new _ _⟩
 clear hw1 HRD HTA;go_wp2_with fail;refine(HRC.out w1 H1.out.1).mono ?_;rintro e w2 ⟨rv,cl,rfl,ho2,hn2,t2⟩;have H2:Hid (Tch [] w w2/\w2.heap[w.heap.size]?=some (.cells #[.pointer (some ⟨d,0,none⟩),.int .i64 0,.bool false] 85 (0,0))):=⟨H1.out.1.trans t2 (by simp),(t2.block _ (lt_of_block H1.out.2) (by simp)).trans H1.out.2⟩;obtain⟨g,cap,hrv,hcs,hcap,hcm⟩:=strs_range (l:=W0::ss) ho2 rfl (by simp);subst hrv;have cj:w2.cell? ⟨w.heap.size,1,none⟩=some (.int .i64 0):=cell_qC H2.out.2 1 _ rfl;have zj:w2.frozen? ⟨w.heap.size,1,none⟩=false:=frozen_of_row w2 _ _ _ 85 H2.out.2;have c0:w2.cell? ⟨g,0,none⟩=some (.string W0):=hcs 0 (by simp);have HHH:=zH (HHS.out w2 H2.out.1);have HHD:=zH (HHS.out w2.drew H2.out.1.drew);have hln:(W0::ss).length=ss.length+1:=rfl;rw[hln]at hcap ⊢;have HSR:Hid (Strs w2 (some ⟨g,1,none⟩) ss):=fun j hj=>⟨g,1,rfl,by
  have:=hcs (j+1) (by simp;omega);rw[Nat.add_comm 1 j];simpa using this⟩
 have hgw:g≠w.heap.size:=fun e=>by
  have:=hn2 g rfl;have:=H1.out.1.size;omega
 have hne0:¬((ss.length+1:Nat):Int)=0:=by omega
 clear hcs ho2 hn2 t2 H1 HHS HRC;have hsr1:ss.length=(ss.length+1)-1:=by omega
 obtain⟨n,hnn⟩:∃n,n=ss.length+1:=⟨_,rfl⟩;rw[<-hnn]at hcap ⊢;have HN:=zH hnn;have h1n:1<=n:=by omega
 have h1nI:(1:Int)<=(n:Int):=by omega
 have h0nI:(0:Int)<(n:Int):=by omega
 have h0n:0<n:=by omega
 have hnc:(n:Int)<=(cap:Int):=by omega
 have hc1I:(1:Int)<=(cap:Int):=by omega
 have h1c:1<=cap:=by omega
 have hn0:¬((n:Int)=0):=by omega
 have hn0':((n:Int) == 0)=false:=by simp;omega
 have hnb:n<=1000001:=by omega
 clear hnn hne0 hsr1;have HFN:Hid (∀ra:Option Addr,Strs w2 ra ss->(w2.setCell ⟨w.heap.size,1,none⟩ (.int .i64 (roomF F W0))).drew.heap[w.heap.size]?=some (.cells #[.pointer (some ⟨d,0,none⟩),.int .i64 (roomF F W0),.bool false] 85 (0,0))/\Strs (w2.setCell ⟨w.heap.size,1,none⟩ (.int .i64 (roomF F W0))).drew ra ss/\Tch [] w (w2.setCell ⟨w.heap.size,1,none⟩ (.int .i64 (roomF F W0))).drew):=fun ra hra=>by
  have t1:=set_tch w2 w.heap.size 1 (.int .i64 (roomF F W0));refine⟨heap_setCell_same w2 w.heap.size 1 _ 85 _ H2.out.2,fun j hj=>?_,(H2.out.1.trans t1 (fun k hk hl=>by simp at hk;omega)).drew⟩
  obtain⟨b',o',e1,e2⟩:=hra j hj
  by_cases hbw:b'=w.heap.size
  ·subst hbw;have h3:=cell_of_row w2 w.heap.size (o'+j) _ 85 (0,0) H2.out.2;rw[e2]at h3;have h4:o'+j=0\/o'+j=1\/o'+j=2\/3<=o'+j:=by omega
   rcases h4 with h4|h4|h4|h4
   ·rw[h4]at h3
    cases h3
   ·rw[h4]at h3
    cases h3
   ·rw[h4]at h3
    cases h3
   ·rw[Array.getElem?_eq_none (by simpa using h4)]at h3
    cases h3
  ·exact⟨b',o',e1,(t1.cell (a:=⟨b',o'+j,none⟩) (World.block_lt_of_cell? _ _ e2) (by simpa using hbw)).trans e2⟩
 have HFN0:Hid (∀ra:Option Addr,Strs w2 ra ss->w2.drew.heap[w.heap.size]?=some (.cells #[.pointer (some ⟨d,0,none⟩),.int .i64 0,.bool false] 85 (0,0))/\Strs w2.drew ra ss/\Tch [] w w2.drew):=fun ra hra=>⟨H2.out.2,hra,H2.out.1.drew⟩
 have hn1:n-1=ss.length:=by have:=HN.out;omega
 obtain⟨ro,ao,co,HSO,hco⟩:∃(ro:Nat) (ao:Option Addr) (co:Nat),Hid (Strs w2 ao ss)/\((cap=1/\ao=some ⟨g,0,none⟩/\co=0)\/(1<cap/\ao=some ⟨g,1,none⟩/\co=cap-1)):=by
  by_cases hc1:cap=1
  ·exact⟨0,some ⟨g,0,none⟩,0,fun j hj=>absurd hj (by omega),.inl ⟨hc1,rfl,rfl⟩⟩
  ·exact⟨0,some ⟨g,1,none⟩,cap-1,HSR.out,.inr ⟨by omega,rfl,rfl⟩⟩
 have HY:=zH (HFN.out ao HSO.out);have HY0:=zH (HFN0.out ao HSO.out);clear HFN HFN0 HSR HSO;rcases hco with ⟨rfl,rfl,rfl⟩|⟨hc3,rfl,rfl⟩
 ·obtain rfl:n=1:=by omega
  have hs0':ss.length=0:=by omega
  cases cl with
  | false=>
   go_upto_region 6 with fail
   go_region_held3 (fun w'=>w'.cell? ⟨g,0,none⟩=some (.string W0)) (go_keep) (fail)
   go_wp2_with fail;go_ret3;refine⟨some ⟨g,0,none⟩,0,0,?_,HY0.out⟩;rw[hs0'];rfl
  | true=>
   cases hb with
   | false=>
    go_upto_region 6 with fail
    go_region_held3 (fun w'=>w'.cell? ⟨g,0,none⟩=some (.string W0)) (go_keep) (fail)
    go_wp2_with (first|(go_at_call 61;refine HHH.out.mono ?_;rintro e w3 ⟨rfl,rfl⟩)|(go_at_call 61;refine HHD.out.mono ?_;rintro e w3 ⟨rfl,rfl⟩));go_ret3;refine⟨some ⟨g,0,none⟩,0,_,?_,HY.out⟩;rw[hs0'];rfl
   | true=>
    go_upto_region 6 with fail
    go_region_held3 (fun w'=>w'.cell? ⟨g,0,none⟩=some (.string W0)) (go_keep) (fail)
    go_wp2_with (first|(go_at_call 61;refine HHH.out.mono ?_;rintro e w3 ⟨rfl,rfl⟩)|(go_at_call 61;refine HHD.out.mono ?_;rintro e w3 ⟨rfl,h3⟩;subst h3));go_ret3;refine⟨some ⟨g,0,none⟩,0,0,?_,HY0.out⟩;rw[hs0'];rfl
 ·have hc2:¬(1=cap):=by omega
  have hc3I:(1:Int)<(cap:Int):=by omega
  cases cl with
  | false=>
   go_upto_region 6 with fail
   go_region_held3 (fun w'=>w'.cell? ⟨g,0,none⟩=some (.string W0)) (go_keep) (fail)
   go_wp2_with fail;go_ret3;refine⟨some ⟨g,1,none⟩,cap-1,0,?_,HY0.out⟩;rw[<-hn1];rfl
  | true=>
   cases hb with
   | false=>
    go_upto_region 6 with fail
    go_region_held3 (fun w'=>w'.cell? ⟨g,0,none⟩=some (.string W0)) (go_keep) (fail)
    go_wp2_with (first|(go_at_call 61;refine HHH.out.mono ?_;rintro e w3 ⟨rfl,rfl⟩)|(go_at_call 61;refine HHD.out.mono ?_;rintro e w3 ⟨rfl,rfl⟩));go_ret3;refine⟨some ⟨g,1,none⟩,cap-1,_,?_,HY.out⟩;rw[<-hn1];rfl
   | true=>
    go_upto_region 6 with fail
    go_region_held3 (fun w'=>w'.cell? ⟨g,0,none⟩=some (.string W0)) (go_keep) (fail)
    go_wp2_with (first|(go_at_call 61;refine HHH.out.mono ?_;rintro e w3 ⟨rfl,rfl⟩)|(go_at_call 61;refine HHD.out.mono ?_;rintro e w3 ⟨rfl,h3⟩;subst h3));go_ret3;refine⟨some ⟨g,1,none⟩,cap-1,0,?_,HY0.out⟩;rw[<-hn1];rfl
structure JhP (B:Nat)(w:World)(x st j d:Nat)(v:Value)(F:ByteArray)(room L:Int)(col:Nat->Nat):Prop where
 hx:w.heap[x]?=some (.cells #[.pointer (some ⟨st,0,none⟩),.pointer (some ⟨j,0,none⟩)] 60 (0,0))
 jr:JL w j d false room v (fileO (some F)) L false
 lo:∀b∈jbl j d v,B<=b
 bd:(0<room->(F.size:Int)+room<=217000)/\F.size<=310000/\-100000<=room/\room<=16384
 cj:∀b∈jbl j d v,col b≠9
 dc:col 0=d+10
def Jh (B:Nat)(w:World)(x st:Nat)(F:ByteArray)(room:Int)(col:Nat->Nat):Prop:=∃j d v L,JhP B w x st j d v F room L col
theorem JL.lt {s:Bool}(h:JL w j d dn room v fs L s):∀b∈jbl j d v,b<w.heap.size:=fun b hb=>by
 rcases List.mem_cons.1 hb with e|e
 ·rw[e];exact lt_of_block h.hj
 ·rcases List.mem_cons.1 e with e|e
  ·rw[e];exact lt_of_block h.dsk.blk
  ·exact own_lt h.dsk.own (by simpa [Option.mem_toList]using e)
theorem JL.keep {s:Bool}(h:JL w j d dn room v fs L s)(hk:∀(k:Nat) (C:Array Value) (t:TypeId),w.heap[k]?=some (.cells C t (0,0))->(t=85\/t=77\/t=79)->w'.heap[k]?=some (.cells C t (0,0)))(hz:w.heap.size<=w'.heap.size):JL w' j d dn room v fs L s:=by
 refine⟨hk _ _ _ h.hj (.inl rfl),⟨hk _ _ _ h.dsk.blk (.inr (.inl rfl)),?_,h.dsk.sep⟩,h.lf,h.gd⟩;refine⟨h.dsk.own.1,?_⟩;rcases h.dsk.own.2 with h0|⟨g,cap,cur,e,hb,hg,h1,h2,h3,h4⟩
 ·exact .inl h0
 ·exact .inr ⟨g,cap,cur,e,hb,hk _ _ _ hg (.inr (.inr rfl)),h1,h2,h3,h4⟩
theorem Jh.recol {col':Nat->Nat}(h:Jh B w x st F room col)(ha:∀k,k<w.heap.size->col' k=9->col k=9)(h0:0<w.heap.size->col' 0=col 0):Jh B w x st F room col':=by
 obtain⟨j,d,v,L,h⟩:=h;exact⟨j,d,v,L,h.hx,h.jr,h.lo,h.bd,fun b hb e=>h.cj b hb (ha b (h.jr.lt b hb) e),(h0 (by have:=lt_of_block h.hx;omega)).trans h.dc⟩
theorem Jh.fr (h:Jh B w x st F room col){T:List TypeId}(ht:Fr B T w w')(h1:60∉T)(h2:85∉T)(h3:77∉T)(h4:79∉T):Jh B w' x st F room col:=by
 obtain⟨j,d,v,L,h⟩:=h;exact⟨j,d,v,L,ht.keep _ _ _ h.hx h1,h.jr.keep (fun k C t hk e=>ht.keep k C t hk (by rcases e with rfl|rfl|rfl<;>assumption)) ht.size,h.lo,h.bd,h.cj,h.dc⟩
theorem Jh.fq {c:Nat->Nat}(h:Jh B w x st F room col)(ht:Fq B c w w'):Jh B w' x st F room col:=by
 obtain⟨j,d,v,L,h⟩:=h;exact⟨j,d,v,L,ht.keep _ _ _ h.hx (by decide),h.jr.keep (fun k C t hk e=>ht.keep k C t hk (by rcases e with rfl|rfl|rfl<;>decide)) ht.size,h.lo,h.bd,h.cj,h.dc⟩
theorem Jh.tch (h:Jh B w x st F room col)(ht:Tch [] w w'):Jh B w' x st F room col:=by
 obtain⟨j,d,v,L,h⟩:=h;exact⟨j,d,v,L,(ht.block _ (lt_of_block h.hx) (by simp)).trans h.hx,h.jr.tch ht (by simp),h.lo,h.bd,h.cj,h.dc⟩
def Gh.oh (B x st:Nat)(o o':ByteArray)(room room':Int)(n:Int)(c:Nat->Option QM):Gh B:=⟨fun f w col=>Jh B w x st (cond f o' o) (cond f room' room) col,n,c,fun h ht=>h.tch ht,fun h h1 h2=>h.recol h1 h2,fun h hf=>h.fq hf,fun h hf h1 h2 h3 h4=>h.fr hf h1 h2 h3 h4⟩
structure Bh (B:Nat)(w:World)(x st b:Nat)(now:Int)(c:Nat->Option QM)(col:Nat->Nat):Prop where
 sg:∃Z,SG B w st b now Z col/\ctZ Z=c
 wf:WFc c
 nw:0<=now/\now<=60000
 jg:∃F room,Jh B w x st F room col/\Rep (some F) room now c
 fut:∀k:Nat,w.heap.size<=k->col k≠9
theorem Bh.tch {b:Nat}{now:Int}{c:Nat->Option QM}(h:Bh B w x st b now c col)(ht:Tch [] w w'):Bh B w' x st b now c col:=by
 obtain⟨⟨Z,h1,h2⟩,h3,h4,⟨o,room,h5,hR⟩,h6⟩:=h;exact⟨⟨Z,h1.tch ht,h2⟩,h3,h4,⟨o,room,h5.tch ht,hR⟩,fun k hk=>h6 k (Nat.le_trans ht.size hk)⟩
def Ht (n:Int)(c:Nat->Option QM)(s:ByteArray)(fs:List Dk.DF):Prop:=
 ∃n0 c0 ss tl rest,fs=⟨jn,(⟨(recB ⟨(wholeC n0 c0).toArray⟩++ss.flatMap recB).toArray⟩:ByteArray)++(⟨List.toArray tl⟩:ByteArray),(recB ⟨(wholeC n0 c0).toArray⟩++ss.flatMap recB).length⟩::rest/\WFc c0/\(0<=n0/\n0<=60000)/\(∀s∈ss,parseGood s=true)/\runS (n0,c0) ss=(n,c)/\(tl=[]\/tl=recB s)/\(rest=[]\/∃dt sf,rest=[⟨jw,dt,sf⟩])
structure Bd (B:Nat)(w:World)(x d:Nat)(n:Int)(c:Nat->Option QM)(s:ByteArray)(col:Nat->Nat):Prop where
 all:∃st j v room fs,w.heap[x]?=some (.cells #[.pointer (some ⟨st,0,none⟩),.pointer (some ⟨j,0,none⟩)] 60 (0,0))/\JL w j d true room v fs 0 true/\Ht n c s fs/\∀b∈jbl j d v,B<=b/\col b≠9
 dc:col 0=d+10
theorem tl_ht {t:ByteArray}{c:Nat->Option QM}{s:ByteArray}(h:Rep (some F) room n c)(hw:WFc c)(hn:0<=n/\n<=60000)(ht:t=⟨(wholeC n c).toArray⟩)(hT:Tl F (recB s) t fs):Ht n c s fs:=by
 have hnil:∀A:ByteArray,A++(⟨List.toArray []⟩:ByteArray)=A:=fun A=>by
  apply ByteArray.ext;rw[ByteArray.data_append];simp
 rcases h with ⟨h,_⟩|⟨n0,c0,ss,hF,h1,h2,h3,h4⟩
 ·cases h
 ·injection hF with hF;have hFz:F.size=(recB ⟨(wholeC n0 c0).toArray⟩++ss.flatMap recB).length:=by rw[hF,rec_sz]
  have hnew:(⟨(recB t).toArray⟩:ByteArray)=⟨(recB ⟨(wholeC n c).toArray⟩++([]:List ByteArray).flatMap recB).toArray⟩:=by rw[ht];simp
  have hnl:(recB t).length=(recB ⟨(wholeC n c).toArray⟩++([]:List ByteArray).flatMap recB).length:=by rw[ht];simp
  rcases hT with rfl|rfl|⟨sf,_,rfl⟩|rfl|rfl
  ·exact⟨n0,c0,ss,[],[],by rw[hnil,<-hF,<-hFz];rfl,h1,h2,h3,h4,.inl rfl,.inl rfl⟩
  ·exact⟨n0,c0,ss,recB s,[],by rw[<-hF,<-hFz],h1,h2,h3,h4,.inr rfl,.inl rfl⟩
  ·exact⟨n0,c0,ss,[],_,by rw[hnil,<-hF,<-hFz],h1,h2,h3,h4,.inl rfl,.inr ⟨_,_,rfl⟩⟩
  ·exact⟨n,c,[],[],[],by rw[hnil,<-hnew,<-hnl,<-rec_sz];rfl,hw,hn,by simp,rfl,.inl rfl,.inl rfl⟩
  ·exact⟨n,c,[],recB s,[],by rw[<-hnew,<-hnl],hw,hn,by simp,rfl,.inr rfl,.inl rfl⟩
theorem Jh.apart {s:Bool}(h:JL w j d dn room v fs L s){b:Nat}{C:Array Value}{t:TypeId}(hb:w.heap[b]?=some (.cells C t (0,0)))(h1:85≠t)(h2:77≠t)(h3:79≠t):b∉jbl j d v:=fun hm=>by
 rcases List.mem_cons.1 hm with e|e
 ·have h0:=h.hj;rw[<-e,hb]at h0;simp at h0;exact h1 h0.2.symm
 ·rcases List.mem_cons.1 e with e|e
  ·have h0:w.heap[d]?=_:=h.dsk.blk;rw[<-e,hb]at h0;simp at h0;exact h2 h0.2.symm
  ·exact own_ne h.dsk.own hb h3 (by simpa [Option.mem_toList]using e)
theorem JL.fr {s:Bool}(h:JL w j d dn room v fs L s)(hB:B<=w.heap.size)(hl:∀b∈jbl j d v,B<=b)(ht:Tch (jbl j d v) w w'):Fr B TJ w w':=by
 refine Fr.of_tch ht hB hl (fun k hk C t hC=>?_);apply Classical.byContradiction;intro hn;exact Jh.apart h hC (fun e=>hn (by rw[<-e];decide)) (fun e=>hn (by rw[<-e];decide)) (fun e=>hn (by rw[<-e];decide)) hk
theorem LY.own9 {w':World}{dn:Bool}{room:Int}{fs:List Dk.DF}{L:Int}{s:Bool}(hlo:∀b∈jbl j d v,B<=b)(hcj:∀b∈jbl j d v,col b≠9)(hfu:∀k:Nat,w.heap.size<=k->col k≠9)(hB:B<=w.heap.size){v':Value}(hb':∀b,v'.ownBlock=some b->v.ownBlock=some b\/w.heap.size<=b):∀b∈jbl j d v',B<=b/\col b≠9:=fun b hb=>by
 rcases List.mem_cons.1 hb with e|e
 ·rw[e];exact⟨hlo j (by simp[jbl]),hcj j (by simp[jbl])⟩
 ·rcases List.mem_cons.1 e with e|e
  ·rw[e];exact⟨hlo d (by simp[jbl,Dk.bl]),hcj d (by simp[jbl,Dk.bl])⟩
  ·rcases hb' b (by simpa [Option.mem_toList]using e) with h1|h1
   ·exact⟨hlo b (by simp[jbl,Dk.bl,h1]),hcj b (by simp[jbl,Dk.bl,h1])⟩
   ·exact⟨by omega,hfu b h1⟩
def Dih (B x d st b:Nat)(w:World)(col:Nat->Nat)(now:Int)(c:Nat->Option QM)(w':World):Prop:=∃col',Bh B w' x st b now c col'/\Agr w col col'/\FqT TA B col w w'
def Ded (B x d:Nat)(w:World)(col:Nat->Nat)(now:Int)(c:Nat->Option QM)(s:ByteArray)(w':World):Prop:=Bd B w' x d now c s col/\FqT TA B col w w'
theorem do_h (B:Nat)(s:ByteArray)(x d st b:Nat)(now:Int)(c:Nat->Option QM)(col:Nat->Nat)(w:World)(hE:Env B w)(hb:Bh B w x st b now c col)(hcd:col 0=d+10)(hs:s.size<=maxLen):
  Calls Tryz.prog 11 #[.pointer (some ⟨x,0,none⟩),.string s] w fun e w'=>(e=.returned (.string (doStr now c s).1)/\Dih B x d st b w col (doStr now c s).2.1 (doStr now c s).2.2 w')\/(e=.returned (.string ⟨#[]⟩)/\parseGood s=true/\Ded B x d w col now c s w'):=by
 obtain⟨⟨Z,hsg,hc⟩,hwf,hnw,⟨F,room,hJ,hR⟩,hfu⟩:=id hb
 cases hg:parseGood s with
 | false=>
  have e:doStr now c s=(⟨#[1]⟩,now,c):=by unfold doStr;rw[hg];rfl
  rw[e];obtain⟨j,d',v,L,hJ⟩:=hJ;refine(do_bad B x st j s w hs hE.lays hE.size hg hJ.hx hJ.jr.c2).mono ?_;rintro e w' ⟨rfl,ht⟩;exact .inl ⟨rfl,col,hb.tch ht,Agr.refl _ _,FqT.of_nil col ht hE.size⟩
 | true=>
  have hRn:=rep_lay hR s hg hwf hnw;have hgs:=good_size s hg;obtain⟨X,hX⟩:∃X:Gh B,X=Gh.oh B x st F (layO (some F) room (recB s) ⟨(wholeC now c).toArray⟩).1 room (layO (some F) room (recB s) ⟨(wholeC now c).toArray⟩).2 now c:=⟨_,rfl⟩;have hSk:Sk B w X st b now c col:=by
   rw[hX];exact⟨⟨Z,hsg,hc⟩,hwf,hnw,.inr ⟨hJ,rfl,rfl⟩,hfu⟩
  have hOk:∀i x,i<8->Z i=some x->QOk x.Q:=fun i x hi hx=>(hwf i x.Q hi (by rw[<-hc];exact ctZ_some hx)).ok
  have hwz:(⟨(wholeC now c).toArray⟩:ByteArray).size<=200000:=by
   rw[rec_sz,<-hc,<-wholeB_c];have:=wholeB_len (now:=now) hOk;omega
  have hWH:∀W,Fr B TJ w W->zT 25 #[.pointer (some ⟨st,0,none⟩)] W (.string ⟨(wholeC now c).toArray⟩):=fun W1 hf1=>by
   rw[<-hc,<-wholeB_c];exact whole_any B st b now Z col W1 (hsg.fr hf1 (by decide) (by decide) (by decide)) ⟨hnw.1,by have:=hnw.2;omega⟩ hOk
  obtain⟨j,d',v,L,hJp⟩:=id hJ;obtain rfl:d'=d:=by
   have:=hJp.dc;omega
  have hj143:=hJp.jr.hj;have HLAY:Hid (∀W rv,Tch [] w W->OwnB W w.heap.size rv (recB s)->Calls Tryz.prog 24 #[.pointer (some ⟨j,0,none⟩),rv,.func (.func 25) #[.pointer (some ⟨st,0,none⟩)] #[]] W fun e w'=>∃bb:Bool,e=.returned (.bool bb)/\Fr B TJ W w'/\(bb=true->X.JO w col w')/\(bb=false->Ded B x d' w col now c s w')):=fun W rv ht ho=>by
   have hzt:=ht.size;have hBw:=hE.size;have h3:=hE.three;refine(lay_h j d' st room v F L w.heap.size ⟨(wholeC now c).toArray⟩ rv (recB s) W (hJp.jr.tch ht (by simp)) ho (by rw[recB_length];omega) (by rw[recB_length];omega) (by have:=hJp.bd;omega) (by have:=hJp.bd;omega) hwz (hE.tab.below (B:=3) (ht.below (by simp) (by omega)) (by decide)) (by omega) (by have:=hJp.lo j (by simp[jbl]);omega) ?_).mono ?_
   ·intro W2 ht2;refine hWH W2 (Fr.of_tch ((ht.sub (by simp)).trans ht2 (fun _ h _=>h):Tch [j] w W2) hBw (fun k hk=>?_) (fun k hk C t hC=>?_))
    ·simp at hk;subst hk;exact hJp.lo k (by simp[jbl])
    ·simp at hk;subst hk;rw[hj143]at hC;simp at hC;rw[<-hC.2];decide
   ·have hold:∀w',Tch (jbl j d' v) W w'->∀k:Nat,k<w.heap.size->col k=9->w'.heap[k]?=w.heap[k]?:=fun w' ht' k hk h9=>(ht'.block k (by omega) (fun hm=>hJp.cj k hm h9)).trans (ht.block k hk (by simp))
    have hxn:∀w',Tch (jbl j d' v) W w'->w'.heap[x]?=some (.cells #[.pointer (some ⟨st,0,none⟩),.pointer (some ⟨j,0,none⟩)] 60 (0,0)):=fun w' ht'=>(ht'.block _ (by have:=lt_of_block hJp.hx;omega) (Jh.apart hJp.jr hJp.hx (by decide) (by decide) (by decide))).trans ((ht.block _ (lt_of_block hJp.hx) (by simp)).trans hJp.hx)
    rintro e w' (⟨rfl,L',v',hj',ht',hb'⟩|⟨rfl,r',fs',hq',v',hj',ht',hb'⟩)
    ·have hfr:=(hJp.jr.tch ht (by simp)).fr (B:=B) (by omega) hJp.lo ht';have h9:=LY.own9 (w:=W) (w':=w') (dn:=false) (room:=room) (fs:=[]) (L:=0) (s:=false) hJp.lo hJp.cj (fun k hk=>hfu k (by omega)) (by omega) hb';refine⟨true,rfl,hfr,fun _=>?_,fun h=>by cases h⟩
     rw[hX];refine⟨⟨j,d',v',L',hxn w' ht',hj',fun b hb=>(h9 b hb).1,?_,fun b hb=>(h9 b hb).2,hJp.dc⟩,hold w' ht'⟩
     exact layO_bd (some F) room (recB s) ⟨(wholeC now c).toArray⟩ hJp.bd (by rw[recB_length];omega) (by rw[recB_length];omega) hwz
    ·have hfr:=(hJp.jr.tch ht (by simp)).fr (B:=B) (by omega) hJp.lo ht';have h9:=LY.own9 (w:=W) (w':=w') (dn:=false) (room:=room) (fs:=[]) (L:=0) (s:=false) hJp.lo hJp.cj (fun k hk=>hfu k (by omega)) (by omega) hb';refine⟨false,rfl,hfr,fun h=>(by cases h),fun _=>⟨⟨⟨st,j,v',r',fs',hxn w' ht',hj',tl_ht hR hwf hnw rfl hq',h9⟩,hcd⟩,fr_fq col ht hfr hBw (hold w' ht')⟩⟩
  have hend:∀t n c',doStr now c s=(t,n,c')->(Calls Tryz.prog 11 #[.pointer (some ⟨x,0,none⟩),.string s] w fun e w'=>(∃t',e=.returned (.string t')/\t'=t/\Sd B X st b w col n c' w')\/(e=.returned (.string ⟨#[]⟩)/\Ded B x d' w col now c s w'))->Calls Tryz.prog 11 #[.pointer (some ⟨x,0,none⟩),.string s] w fun e w'=>(e=.returned (.string (doStr now c s).1)/\Dih B x d' st b w col (doStr now c s).2.1 (doStr now c s).2.2 w')\/(e=.returned (.string ⟨#[]⟩)/\true=true/\Ded B x d' w col now c s w'):=fun t n c' e h=>by
   rw[e]at hRn ⊢;refine h.mono ?_;rintro e w' (⟨t,rfl,rfl,col',hd,ha,hf⟩|⟨rfl,hd⟩)
   ·refine .inl ⟨rfl,col',⟨hd.sg,hd.wf,hd.nw,?_,hd.fut⟩,ha,hf⟩;have hj:=hd.jg;rw[hX]at hj;rcases hj with hj|⟨hj,rfl,rfl⟩
    ·exact⟨_,_,hj,hRn⟩
    ·exact⟨_,_,hj,hR⟩
   ·exact .inr ⟨rfl,rfl,hd⟩
  by_cases hop:(endSt s).r.op.toNat=66
  ·obtain⟨⟨l1,l2⟩,l3⟩:=batch_bs s hg hop;refine hend _ _ _ (by unfold doStr;rw[if_pos hg,if_pos hop]) (bdo_h (N:=(doL now c (endSt s).bs).2=c) (X.JO w col) (Ded B x d' w col now c s) _ B s (endSt s).r x st j w hgs hE.lays hE.tab hE.size hE.three hg rfl hJp.hx hJp.jr.c2 HLAY _ rfl (fun W y ht hy=>?_));refine(plan_p B _ _ (endSt s).r y st b 1 118 now _ W hop (by decide) (hsg.tch ht).stb rfl eg158b (fun W1 ht1=>?_)).mono (fun e w' he=>he);obtain⟨bb,ob,yc,rfl,_,h5,h6⟩:=(hy.tch ht1).at l1;exact batch_any B (endSt s).r X st b bb ob yc now c col (endSt s).bs w hE hSk Z (some F) room hsg hc W1 (ht.trans ht1 (by simp)) l2 l3 h5 h6
  ·have hrq:=rq_ok (end_wf s) (good_right s hg hop).1;exact hend _ _ _ (by unfold doStr;rw[if_pos hg,if_neg hop]) (bdo_h (X.JO w col) (Ded B x d' w col now c s) _ B s (endSt s).r x st j w hgs hE.lays hE.tab hE.size hE.three hg rfl hJp.hx hJp.jr.c2 HLAY _ rfl (fun W y ht _=>op_any B (endSt s).r X st b now c col w hE hSk hrq hop Z (some F) room hsg hc W y ht))
def Cf (n:Int)(c:Nat->Option QM)(fs:List Dk.DF):Prop:=
 ∃n0 c0 ss s0 p sf rest,fs=⟨jn,BA ((BA (wholeC n0 c0)::ss).flatMap recB++p),sf⟩::rest/\rest.length<=1/\((BA (wholeC n0 c0)::ss).flatMap recB++p).length<=1000000/\WFc c0/\(0<=n0/\n0<=60000)/\(∀s∈ss,parseGood s=true)/\runS (n0,c0) ss=(n,c)/\(p=[]\/Cut s0 p)/\s0.size<=1000000
theorem BA_take (l:List UInt8)(k:Nat):(BA l).extract 0 k=BA (l.take k):=by
 apply ByteArray.ext;rw[ByteArray.data_extract]
 show l.toArray.extract 0 k=(l.take k).toArray
 simp
theorem crF_BA (keep:Int)(L tl:List UInt8):∃m,m<=tl.length/\Dk.crF keep ⟨jn,BA L++BA tl,L.length⟩=⟨jn,BA (L++tl.take m),L.length+m⟩:=by
 have e:BA L++BA tl=BA (L++tl):=ba_app L tl;have hz:(BA L++BA tl).size=L.length+tl.length:=by rw[e,BA_size,List.length_append]
 have hm:=Dk.crN_le keep ⟨jn,BA L++BA tl,L.length⟩ (by show L.length<=(BA L++BA tl).size;omega);have hm':L.length+Dk.crN keep ⟨jn,BA L++BA tl,L.length⟩<=(BA L++BA tl).size:=hm;refine⟨Dk.crN keep ⟨jn,BA L++BA tl,L.length⟩,by omega,?_⟩;unfold Dk.crF;generalize Dk.crN keep ⟨jn,BA L++BA tl,L.length⟩=m at*
 show (⟨jn,(BA L++BA tl).extract 0 (L.length+m),L.length+m⟩:Dk.DF)=_
 rw[e,BA_take,List.take_append,List.take_of_length_le (by omega)];simp
theorem ht_cf {c:Nat->Option QM}{s:ByteArray}(h:Ht n c s fs)(hg:parseGood s=true)(hG:GdL fs)(keep:Int):Cf n c (fs.map (Dk.crF keep))\/Cf (doStr n c s).2.1 (doStr n c s).2.2 (fs.map (Dk.crF keep)):=by
 obtain⟨n0,c0,ss,tl,rest,rfl,h1,h2,h3,h4,h5,h6⟩:=h;have hLe:recB ⟨(wholeC n0 c0).toArray⟩++ss.flatMap recB=(BA (wholeC n0 c0)::ss).flatMap recB:=by
  rw[List.flatMap_cons];rfl
 rw[hLe]at hG ⊢;have hrl:(rest.map (Dk.crF keep)).length<=1:=by
  rw[List.length_map];rcases h6 with rfl|⟨dt,sf,rfl⟩<;>simp
 have hs:=good_size s hg;obtain⟨m,hm,hcr⟩:=crF_BA keep ((BA (wholeC n0 c0)::ss).flatMap recB) tl;have hbd:((BA (wholeC n0 c0)::ss).flatMap recB).length+tl.length<=1000000:=by
  have:=(hG.2 _ List.mem_cons_self).2;have e:(BA ((BA (wholeC n0 c0)::ss).flatMap recB)++BA tl).size=((BA (wholeC n0 c0)::ss).flatMap recB).length+tl.length:=by
   rw[show BA ((BA (wholeC n0 c0)::ss).flatMap recB)++BA tl=BA ((BA (wholeC n0 c0)::ss).flatMap recB++tl) from ba_app _ _,BA_size,List.length_append]
  have h7:(BA ((BA (wholeC n0 c0)::ss).flatMap recB)++BA tl).size<=1000000:=this;omega
 have hmap:(⟨jn,BA ((BA (wholeC n0 c0)::ss).flatMap recB)++BA tl,((BA (wholeC n0 c0)::ss).flatMap recB).length⟩::rest:List Dk.DF).map (Dk.crF keep)=⟨jn,BA ((BA (wholeC n0 c0)::ss).flatMap recB++tl.take m),((BA (wholeC n0 c0)::ss).flatMap recB).length+m⟩::rest.map (Dk.crF keep):=by
  rw[List.map_cons,hcr]
 have hmap2:(⟨jn,(⟨((BA (wholeC n0 c0)::ss).flatMap recB).toArray⟩:ByteArray)++(⟨tl.toArray⟩:ByteArray),((BA (wholeC n0 c0)::ss).flatMap recB).length⟩::rest:List Dk.DF).map (Dk.crF keep)=⟨jn,BA ((BA (wholeC n0 c0)::ss).flatMap recB++tl.take m),((BA (wholeC n0 c0)::ss).flatMap recB).length+m⟩::rest.map (Dk.crF keep):=hmap;rw[hmap2];have htk:(((BA (wholeC n0 c0)::ss).flatMap recB)++tl.take m).length<=1000000:=by
  rw[List.length_append,List.length_take];omega
 rcases h5 with rfl|rfl
 ·exact .inl ⟨n0,c0,ss,s,_,_,_,rfl,hrl,htk,h1,h2,h3,h4,.inl (by simp),by omega⟩
 ·by_cases e0:m=0
  ·exact .inl ⟨n0,c0,ss,s,_,_,_,rfl,hrl,htk,h1,h2,h3,h4,.inl (by rw[e0];simp),by omega⟩
  ·by_cases e1:m=(recB s).length
   ·right;have ew:(BA (wholeC n0 c0)::ss).flatMap recB++(recB s).take m=(BA (wholeC n0 c0)::(ss++[s])).flatMap recB++[]:=by
     rw[e1,List.take_length];simp
    refine⟨n0,c0,ss++[s],s,[],_,_,by rw[ew],hrl,by rw[<-ew];exact htk,h1,h2,fun x hx=>?_,?_,.inl rfl,by omega⟩
    ·rcases List.mem_append.1 hx with hx|hx
     ·exact h3 x hx
     ·rw[List.mem_singleton.1 hx];exact hg
    ·rw[runS_snoc,h4]
   ·refine .inl ⟨n0,c0,ss,s,_,_,_,rfl,hrl,htk,h1,h2,h3,h4,.inr ⟨?_,(recB s).drop m,?_,?_⟩,by omega⟩
    ·rw[List.length_take];omega
    ·intro e;have:=congrArg List.length e;rw[List.length_drop,List.length_nil]at this;omega
    ·rw[List.take_append_drop]
theorem rep_cf {c:Nat->Option QM}(h:Rep (some F) room n c)(hF:F.size<=310000)(keep:Int):Cf n c ((fileO (some F)).map (Dk.crF keep)):=by
 rw[crF_fileO];rcases h with ⟨h,_⟩|⟨n0,c0,ss,hF',h1,h2,h3,h4⟩
 ·cases h
 ·injection hF' with hF';have e:F=BA ((BA (wholeC n0 c0)::ss).flatMap recB++[]):=by
   rw[hF',List.append_nil,List.flatMap_cons];rfl
  have hl:((BA (wholeC n0 c0)::ss).flatMap recB++[]).length<=1000000:=by
   rw[<-BA_size,<-e];omega
  exact⟨n0,c0,ss,⟨#[]⟩,[],_,[],by rw[<-e];rfl,by simp,hl,h1,h2,h3,h4,.inl rfl,by decide⟩
def cfP (B d:Nat)(n:Int)(c:Nat->Option QM):Pty:=fun w col=>∃v fs,Dd0 w d v fs/\Cf n c fs/\(B<=d/\col d≠9)/\∀k,v.ownBlock=some k->B<=k/\col k≠9
theorem cfP_stb (B d:Nat)(n:Int)(c:Nat->Option QM):Stb9 B (cfP B d n c):=fun w w' col cl ⟨v,fs,h1,hC,h2,h3⟩ hB h0 hf hd=>by
 obtain⟨S,ht,hS⟩:=hf.chg;have hl:=lt_of_block h1.blk;have hv:∀k,v.ownBlock=some k->k<w.heap.size:=fun k hk=>own_lt h1.own hk
 refine⟨v,fs,h1.tch ht (fun k hk hm=>?_),hC,⟨h2.1,by rw[rec9_old hl];exact h2.2⟩,fun k hk=>⟨(h3 k hk).1,by rw[rec9_old (hv k hk)];exact(h3 k hk).2⟩⟩
 rcases List.mem_cons.1 hk with e|e
 ·subst e;exact(hS k hm).2 (hf.out k hl (hd k h2.1 hl h2.2))
 ·have e':v.ownBlock=some k:=by simpa [Option.mem_toList]using e
  exact(hS k hm).2 (hf.out k (hv k e') (hd k (h3 k e').1 (hv k e') (h3 k e').2))
theorem Rrs.bv {w1 w2 w3:World}{b z:Nat}{p:Int×(Nat->Option QM)}(h:Rrs B w1 st b p col w2)(ht:Tch [] w2 w3)(hj1:j<w1.heap.size)(hB:B<=j)(hj:∃dv room,w1.heap[j]?=some (.cells #[dv,.int .i64 room,.bool false] 85 (0,0)))(hz:w3.heap[z]?=some (.cells #[.pointer (some ⟨st,0,none⟩),.pointer (some ⟨j,0,none⟩)] 60 (0,0))):
  Bv B w3 z st b j p.1 p.2 (fun k=>if k=j then 0 else col k):=by
 obtain⟨⟨Z,hsg,hc⟩,hwf,hnw,_,hfu⟩:=h.sk.tch ht;have hj9:col j=9:=h.old j hj1;have hsp:∀k,col k≠9->(if k=j then 0 else col k)≠9:=fun k hk=>by
  split
  ·decide
  ·exact hk
 obtain⟨dv,room,hjb⟩:=hj;refine⟨⟨⟨Z,⟨hsg.stb,hsg.tb,hsg.qr,fun i y hi hy k hk=>?_,hsg.lo,hsg.ls,hsp _ hsg.cs⟩,hc⟩,hwf,hnw,.inl trivial,fun k hk=>hsp k (hfu k hk)⟩,hz,⟨dv,room,?_⟩,hB,by simp⟩
 ·have h1:=hsg.cl i y hi hy k hk;have hne:k≠j:=fun e=>by
   rw[e,hj9]at h1;omega
  simp only[if_neg hne];exact h1
 ·have t:=h.tch.trans ht (by simp);exact(t.block j hj1 (by simp)).trans hjb
theorem open_c (B d:Nat)(v:Value)(fs:List Dk.DF)(n:Int)(c:Nat->Option QM)(w:World)(hE:Env B w)(h:Dd0 w d v fs)(hcf:Cf n c fs):
  Calls Tryz.prog 14 #[.pointer (some ⟨d,0,none⟩)] w fun e w'=>∃z st b j col,e=.returned (.tuple #[.pointer (some ⟨z,0,none⟩),.int .i64 0])/\Bv B w' z st b j n c col/\(∀k,k<w.heap.size->col k=9)/\Tch [] w w':=by
 obtain⟨n0,c0,ss,s0,p,sf,rest,rfl,hrl,hl,hW,hn,hs,hrun,hp,hs0⟩:=hcf;have hBw:=hE.size;have hfl:(⟨jn,BA ((BA (wholeC n0 c0)::ss).flatMap recB++p),sf⟩::rest:List Dk.DF).length<=8388608:=by
  rw[List.length_cons];omega
 have hfd:Dk.fnd jn (⟨jn,BA ((BA (wholeC n0 c0)::ss).flatMap recB++p),sf⟩::rest)=((0:Nat):Int):=Dk.fnd_at _ _ 0 (by simp) (isN_jj _ _) (fun j hj=>absurd hj (by omega));have HST:=zH (Dk.stopped_d d v (-1) false w h.blk);have HJO:=zH (jopen_cut B d _ (BA (wholeC n0 c0)) ss s0 p _ hp hs0 w hE rfl hl (fun W ht=>by
  have h':=h.tch ht (by simp);have h1:=Dk.read_d d v (-1) false _ jn W h'.blk h'.own hfl;rw[Dk.rd_some (by simp) hfd]at h1;exact h1) (fun W ht=>by
  have h':=h.tch ht (by simp);exact Dk.has_d d v (-1) false _ jw W h'.blk h'.own hfl))
 have hl0:=hl;rw[List.length_append,List.flatMap_cons,List.length_append,recB_length,BA_size]at hl0;have hsl:ss.length<=1000000:=by
  have:=recs_len ss;omega
 have HRS:Hid (∀W ra rc,Tch [] w W->Strs W ra ss->Calls Tryz.prog 34 #[.string (BA (wholeC n0 c0)),.slice ra ss.length rc] W fun e w'=>∃st b col,e=.returned (.tuple #[.pointer (some ⟨st,0,none⟩),.bool true])/\Rrs B W st b (n,c) col w'):=fun W ra rc ht hS=>by
  rw[<-hrun];exact restore_l B n0 c0 ss ra rc W (hE.tch ht (by simp)) hW hn (by omega) hs hS hsl
 clear hE h hW hn hs hl hl0 hfd hfl hrun hp hs0;generalize BA (wholeC n0 c0)=W0 at*
 go_enter Tryz.func14,Tryz.ntmps14;go_wp2_with fail;refine HST.out.mono ?_;rintro e w0 ⟨rfl,h0⟩;subst h0;go_wp2_with fail;refine HJO.out.mono ?_;rintro e w1 ⟨ra,rc,room,rfl,hj1,hs1,t1⟩;have hz1:=lt_of_block hj1;have H1:=zH (⟨t1,hz1,hj1⟩:Tch [] w0 w1/\w0.heap.size<w1.heap.size/\_);have HR1:=zH (HRS.out w1 ra rc t1 hs1);clear hj1 hs1 t1 hz1 HJO HRS HST;go_wp2_with fail;refine HR1.out.mono ?_;rintro e w2 ⟨st,b,col,rfl,hr⟩;have H2:=zH hr;clear hr HR1;go_wp2_with fail;go_ret2;have ht3:Tch [] w2 (w2.alloc (.cells #[.pointer (some ⟨st,0,none⟩),.pointer (some ⟨w0.heap.size,0,none⟩)] 60)):=(Tch.refl [] w2).alloc _;have hz1:=H1.out.2.1;refine⟨_,st,b,w0.heap.size,_,rfl,H2.out.bv ht3 hz1 hBw ⟨_,_,H1.out.2.2⟩ (heap_alloc_new _ _),fun k hk=>?_,(H1.out.1.trans H2.out.tch (by simp)).trans ht3 (by simp)⟩
 simp only[if_neg (show ¬k=w0.heap.size by omega)];exact H2.out.old k (by omega)
theorem Gp.openc {w0:World}{l:List Pty}(h:Gp B w0 l w)(i:Nat){d:Nat}{n:Int}{c:Nat->Option QM}(hi:l[i]?=some (cfP B d n c)):
  Calls Tryz.prog 14 #[.pointer (some ⟨d,0,none⟩)] w fun e w'=>∃z,e=.returned (.tuple #[.pointer (some ⟨z,0,none⟩),.int .i64 0])/\Gp B w0 (l.set i (bvP B z n c)) w':=by
 obtain⟨ps,h,hl⟩:=h;obtain⟨ow,cs,h⟩:=h;have hb:=(h.all i).1;rw[hl i _ hi]at hb;obtain⟨v,fs,h1,hC,h2,h3⟩:=hb;refine(open_c B d v fs n c w h.env h1 hC).mono ?_;rintro e w' ⟨z,st,b,j,col,rfl,hbv,hcl,ht⟩;exact⟨z,rfl,_,h.act i _ (bvP_stb B z n c) ⟨st,b,j,hbv⟩ (fun k hk h9 _=>absurd (hcl k hk) h9) (FqT.of_nil _ ht h.env.size),up_list hl i _⟩
end Go.Proofs.YtbdobaapadlcjabGreatDoor
