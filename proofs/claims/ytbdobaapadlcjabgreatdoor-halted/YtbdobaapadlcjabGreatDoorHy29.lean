import Derived.Test.YtbdobaapadlcjabGreatDoorHy28
import Derived.Deep.CutBlock
set_option maxRecDepth 100000
set_option maxHeartbeats 8000000
set_option linter.unusedVariables false
set_option linter.unusedSimpArgs false
namespace Go.Proofs.YtbdobaapadlcjabGreatDoor
open Go.RowKit
variable {w:World}{n:Nat}{v:Value}
theorem str_neq {a b:ByteArray}(h:a≠b):(a.toList == b.toList)=false:=by
 rw[beq_eq_false_iff_ne];intro e;rw[Lib.toList_data,Lib.toList_data]at e;exact h (ext_list e)
theorem index_no (g c:Nat)(l:List ByteArray)(x:ByteArray)(w:World)(hl:l.length<=1000000)(hx:x∉l)(hc:∀j (hj:j<l.length),w.cell? ⟨g,j,none⟩=some (.string l[j])):
  zE 201 #[.slice (some ⟨g,0,none⟩) l.length c,.string x] w (.int .i64 (-1)):=by
 have HC:=zH hc;have HX:Hid (∀j (hj:j<l.length),(x.toList == l[j].toList)=false):=fun j hj=>str_neq (fun e=>hx (by rw[e];exact List.getElem_mem hj))
 clear hc hx;go_enter Tryz.func201,Tryz.ntmps201;go_wp2_with fail
 go_loopw [8] (fun v wr=>∃k:Nat,k<=l.length/\v=.int .i64 (k:Int)/\wr=w) (fun v _=>l.length-(intOf v).toNat)
 case atStart=>exact⟨0,Nat.zero_le _,rfl,rfl⟩
 case round=>
  obtain⟨k,hk,rfl,rfl⟩:=hrel
  by_cases hlt:k<l.length
  ·have hkI:(k:Int)<(l.length:Int):=by omega
   have h1:=HC.out k hlt;have h2:=HX.out k hlt;generalize l[k]=s at h1 h2;go_wp2_with fail;go_roundw
   case rel=>exact⟨k+1,by omega,by go_num,trivial⟩
   case measure=>simp[intOf];omega
  ·have hkI:¬((k:Int)<(l.length:Int)):=by omega
   go_wp2_with fail;go_ret;exact⟨rfl,rfl⟩
theorem contains_no (g c:Nat)(l:List ByteArray)(x:ByteArray)(w:World)(hl:l.length<=1000000)(hx:x∉l)(hc:∀j (hj:j<l.length),w.cell? ⟨g,j,none⟩=some (.string l[j])):
  zE 176 #[.slice (some ⟨g,0,none⟩) l.length c,.string x] w (.bool false):=by
 have HI:=zH (index_no g c l x w hl hx hc);go_enter Tryz.func176,Tryz.ntmps176;go_wp2_with fail;refine HI.out.mono ?_;rintro e w' ⟨rfl,rfl⟩;go_wp2_with fail;go_ret;exact⟨rfl,rfl⟩
theorem idxL_min {α:Type}(p:α->Bool):∀(l:List α) (i:Nat),idxL p l=(i:Int)->∀j (hj:j<l.length),j<i->p l[j]=false
 | [],i,h,j,hj,_=>absurd hj (by simp)
 | x::l,i,h,j,hj,hji=>by
  unfold idxL at h
  split at h
  ·omega
  ·rename_i hp
   split at h
   ·omega
   ·cases j with
    | zero=>simpa using hp
    | succ j=>
     obtain⟨i',rfl⟩:∃i',i=i'+1:=⟨i-1,by omega⟩;exact idxL_min p l i' (by omega) j (by simpa using hj) (by omega)
structure Snd (Q:QM):Prop where
 ml:Q.ms.length<=100
 rl:Q.rs.length<=100
 nx:Q.next<=201
 n1:∀k (h:k<Q.ms.length),1<=Q.ms[k].num/\Q.ms[k].num<(Q.next:Int)
 n2:∀k (h:k+1<Q.ms.length),Q.ms[k].num<Q.ms[k+1].num
 hd:∀k (h:k<Q.ms.length),0<Q.ms[k].til->idxL (isG Q.ms[k].grp) Q.ms=(k:Int)
 rd:∀k (h:k<Q.rs.length),∃i:Nat,∃h2:i<Q.ms.length,idxL (isG Q.rs[k]) Q.ms=(i:Int)/\Q.ms[i].til=0
 rn:∀k (h:k<Q.rs.length),Q.rs[k]∉Q.rs.take k
 p1:1<=Q.next
theorem QW.snd {i:Nat}{Q:QM}(h:QW i Q):Snd Q:=by
 have hml:=h.ml;have hu:=List.pairwise_iff_getElem.1 h.nums;refine⟨by omega,?_,by have:=h.nx;omega,fun k hk=>(h.mok _ (List.getElem_mem hk)).num,fun k hk=>hu k (k+1) (by omega) hk (by omega),fun k hk ht=>?_,fun k hk=>?_,fun k hk hm=>?_,h.nx.1⟩
 ·have:=h.ok.rl;omega
 ·have hp:isG Q.ms[k].grp Q.ms[k]=true:=(isG_iff _ _).2 rfl;have h0:=(idxL_ex (isG Q.ms[k].grp) Q.ms).2 ⟨_,List.getElem_mem hk,hp⟩;obtain⟨j,hj⟩:∃j:Nat,idxL (isG Q.ms[k].grp) Q.ms=(j:Int):=⟨(idxL (isG Q.ms[k].grp) Q.ms).toNat,by omega⟩;obtain⟨hjl,hpj,_⟩:=idxL_fnd _ _ j hj;have hmin:=idxL_min _ _ j hj k hk;rw[hp]at hmin;have hle:j<=k:=by
   rcases Nat.lt_or_ge k j with h1|h1
   ·exact absurd (hmin h1) (by decide)
   ·exact h1
  have hn:=h.hd _ (List.getElem_mem hk) ht _ (List.getElem_mem hjl) ((isG_iff _ _).1 hpj);rcases Nat.lt_or_ge j k with h1|h1
  ·have:=hu j k hjl hk h1;omega
  ·rw[hj];omega
 ·obtain⟨⟨m,hm,hg⟩,hall⟩:=(h.rr _).1 (List.getElem_mem hk);have h0:=(idxL_ex (isG Q.rs[k]) Q.ms).2 ⟨m,hm,(isG_iff _ _).2 hg⟩;obtain⟨j,hj⟩:∃j:Nat,idxL (isG Q.rs[k]) Q.ms=(j:Int):=⟨(idxL (isG Q.rs[k]) Q.ms).toNat,by omega⟩;obtain⟨hjl,hpj,_⟩:=idxL_fnd _ _ j hj;exact⟨j,hjl,hj,hall _ (List.getElem_mem hjl) ((isG_iff _ _).1 hpj)⟩
 ·obtain⟨j,hj,e⟩:=List.getElem_of_mem hm;rw[List.length_take]at hj;rw[List.getElem_take]at e;have:=(List.nodup_iff_pairwise_ne.1 h.rn);exact(List.pairwise_iff_getElem.1 this) j k (by omega) hk (by omega) e
theorem row_range {t:TypeId}{z:Nat}{α:Type}{l:List α}{f:α->List Value}(h:w.ownsRow 0 t z v n (l.flatMap f))(hn:n=l.length)(hz:∀x,(f x).length=z)(k:Nat)(hk:k<l.length):
  ∃g cap,v=.slice (some ⟨g,0,none⟩) n cap/\w.rangeAt g (k*z) (f l[k])/\n<=cap/\cap<=maxLen:=by
 rcases h.2 with ⟨_,h0⟩|⟨g,cap,cur,rfl,_,hg,h1,h2,h3,h4⟩
 ·omega
 refine⟨g,cap,rfl,fun j u hj=>?_,h1,h2⟩
 have hjz:j<z:=by
  have:=(List.getElem?_eq_some_iff.1 hj).1;rw[hz]at this;exact this
 rw[cell_of_row w g _ _ _ _ hg];have e1:(l.flatMap f)[k*z+j]?=some u:=by
  have e2:l=l.take k++(l[k]::l.drop (k+1)):=by rw[<-List.drop_eq_getElem_cons hk,List.take_append_drop]
  rw[e2,List.flatMap_append,List.flatMap_cons];have e3:((l.take k).flatMap f).length=k*z:=by rw[flat_lz f z hz,List.length_take,Nat.min_eq_left (by omega)]
  rw[List.getElem?_append_right (by omega),e3,Nat.add_sub_cancel_left,List.getElem?_append_left (by rw[hz];omega)];exact hj
 rw[<-h4,List.getElem?_take]at e1
 split at e1
 ·rw[<-e1];simp
 ·cases e1
theorem strs_range {l:List ByteArray}(h:w.ownsRow 0 9 1 v n (l.map Value.string))(hn:n=l.length)(hp:0<l.length):
  ∃g cap,v=.slice (some ⟨g,0,none⟩) n cap/\(∀j (hj:j<l.length),w.cell? ⟨g,j,none⟩=some (.string l[j]))/\n<=cap/\cap<=maxLen:=by
 rcases h.2 with ⟨_,h0⟩|⟨g,cap,cur,rfl,_,hg,h1,h2,h3,h4⟩
 ·omega
 refine⟨g,cap,rfl,fun j hj=>?_,h1,h2⟩
 have:=World.ownsRow.cells h rfl j (.string l[j]) (by simp[hj])
 rwa [Addr.add_mid,Nat.zero_add]at this
theorem sound_any (qb:Nat)(V:QV)(Q:QM)(w:World)(h:QR w qb V Q)(hs:Snd Q):zT 135 #[.pointer (some ⟨qb,0,none⟩)] w (.bool true):=by
 have HQ:Hid (∀W,Tch [] w W->QR W qb V Q):=fun W ht=>h.tch ht (by simp)
 have HS:=zH hs;have HH:Hid (∀W (g:ByteArray),Tch [] w W->zB 163 #[.pointer (some ⟨qb,0,none⟩),.string g] W (.int .i64 (idxL (isG g) Q.ms))):=fun W g ht=>by
  have h1:=HQ.out W ht;have:=hs.ml;exact head_gen g qb V.m Q.ms W (cell_qC h1.blk 7 _ rfl) h1.m (by omega)
 have hinf:(Tryz.prog.info? 191).map (fun i=>i.size)=some 5:=by kernel_rfl
 have hml:=hs.ml;have hrl:=hs.rl;have hp1:=hs.p1;obtain⟨am,cm,hVm⟩:∃a c,V.m=.slice a Q.ms.length c:=by
  rcases h.m.2 with ⟨e,h0⟩|⟨g,cap,_,e,_⟩
  ·exact⟨none,0,by rw[e,h0]⟩
  ·exact⟨_,_,e⟩
 obtain⟨ar,cr,hVr⟩:∃a c,V.r=.slice a Q.rs.length c:=by
  rcases h.r.2 with ⟨e,h0⟩|⟨g,cap,_,e,_⟩
  ·exact⟨none,0,by rw[e,h0]⟩
  ·exact⟨_,_,e⟩
 have HC:Hid (∀W,Tch [] w W->W.cell? ⟨qb,6,none⟩=some (.int .i64 (Q.next:Int))/\W.cell? ⟨qb,7,none⟩=some (.slice am Q.ms.length cm)/\W.cell? ⟨qb,8,none⟩=some (.slice ar Q.rs.length cr)):=fun W ht=>by
  have h1:=HQ.out W ht;exact⟨cell_qC h1.blk 6 _ rfl,by rw[<-hVm];exact cell_qC h1.blk 7 _ rfl,by rw[<-hVr];exact cell_qC h1.blk 8 _ rfl⟩
 have HRM:Hid (∀W,Tch [] w W->∀k (hk:k<Q.ms.length),∃g,am=some ⟨g,0,none⟩/\W.rangeAt g (k*5) Q.ms[k].row):=fun W ht k hk=>by
  obtain⟨g,cap,e,hr,_⟩:=row_range (HQ.out W ht).m rfl (fun _=>rfl) k hk;rw[hVm]at e;injection e with e;exact⟨g,e,hr⟩
 have HRR:Hid (∀W,Tch [] w W->0<Q.rs.length->∃g,ar=some ⟨g,0,none⟩/\(∀j (hj:j<Q.rs.length),W.cell? ⟨g,j,none⟩=some (.string Q.rs[j]))/\Q.rs.length<=cr):=fun W ht hp=>by
  obtain⟨g,cap,e,hr,hc,_⟩:=strs_range (HQ.out W ht).r rfl hp;rw[hVr]at e;injection e with e1 e2 e3;subst e3;exact⟨g,e1,hr,hc⟩
 clear h hs hVm hVr HQ;obtain⟨b6,b7,b8⟩:=HC.out w (Tch.refl _ _);go_enter Tryz.func135,Tryz.ntmps135;go_wp2_with fail
 go_loopw [3,14] (fun lv kv wr=>∃(k:Nat) (last:Int),k<=Q.ms.length/\kv=.int .i64 (k:Int)/\lv=.int .i64 last/\0<=last/\last<(Q.next:Int)/\(∀h:k<Q.ms.length,last<Q.ms[k].num)/\Tch [] w wr) (fun _ kv _=>Q.ms.length-(intOf kv).toNat)
 case atStart=>exact⟨0,0,Nat.zero_le _,rfl,rfl,by omega,by omega,fun h=>by have:=(HS.out.n1 0 h).1;omega,Tch.refl _ _⟩
 case round=>
  obtain⟨k,last,hk,rfl,rfl,hl1,hl2,hl3,ht⟩:=hrel
  by_cases hlt:k<Q.ms.length
  ·have hkI:(k:Int)<(Q.ms.length:Int):=by omega
   obtain⟨g,rfl,hrg⟩:=HRM.out wr ht k hlt;have HRG:=zH hrg;have HT:=zH ht;have h3:=hl3 hlt;have hn1:=HS.out.n1 k hlt;have hhd:=HS.out.hd k hlt;have hnx:∀h:k+1<Q.ms.length,Q.ms[k].num<Q.ms[k+1].num:=fun h=>HS.out.n2 k h
   clear hrg ht hl3 HRM HRR b6 b7 b8;generalize Q.ms[k]=m at*
   obtain⟨num,grp,bod,rcv,til⟩:=m;simp only at h3 hn1 hhd hnx
   go_upto_region 4 with fail
   go_cut [4,5] (fun s4 s5 wx=>s4=.int .i64 (k:Int)/\s5=.pointer (some ⟨wr.heap.size,0,none⟩)/\Tch [] wr wx/\wx.heap[wr.heap.size]?=some (.cells #[.int .i64 num,.string grp,.string bod,.int .i64 rcv,.int .i64 til] 191 (0,0)))
   case first=>
    go_wp2_with (first|(refine wpList_load_mid rfl 191 _ rfl g (k*5) rfl _ _ HRG.out Tryz.underlying191 rfl hinf ?_)|(refine wpList_store_row rfl 191 _ _ rfl wr.heap.size #[.int .i64 num,.string grp,.string bod,.int .i64 rcv,.int .i64 til] rfl rfl 191 _ (heap_alloc_new _ _) hinf rfl (by simp[Value.oneCell']) ?_));go_meet;exact⟨rfl,rfl,((Tch.refl [] _).alloc _).setRow (fun h=>absurd h (Nat.lt_irrefl _)) _,setRow_heap _ _ _ _ 191 (0,0) (heap_alloc_new _ _)⟩
   case rest=>
    obtain⟨rfl,rfl,ht1,hb1⟩:=hcut;generalize wc=wx at*
    have HTX:=zH (HT.out.trans ht1 (fun _ h _=>h):Tch [] w wx);have c0:wx.cell? ⟨wr.heap.size,0,none⟩=some (.int .i64 num):=cell_qC hb1 0 _ rfl;have c1:wx.cell? ⟨wr.heap.size,1,none⟩=some (.string grp):=cell_qC hb1 1 _ rfl;have c4:wx.cell? ⟨wr.heap.size,4,none⟩=some (.int .i64 til):=cell_qC hb1 4 _ rfl;have hlx:=lt_of_block hb1;have hnl:¬num<=last:=by omega
    clear ht1 hb1
    by_cases htil:0<til
    ·have HCALL:Hid (zB 163 #[.pointer (some ⟨qb,0,none⟩),.string grp] wx (.int .i64 (k:Int))):=by
      have h1:=HH.out wx grp HTX.out;rw[hhd htil]at h1;exact h1
     go_wp2_with fail;refine HCALL.out.mono ?_;rintro e w2 ⟨rfl,hb2⟩;have d0:=(hb2.cell (p:=⟨wr.heap.size,0,none⟩) hlx).trans c0;have HT2:=zH (HTX.out.trans (Tch.of_below hb2) (fun _ h _=>h):Tch [] w w2);clear hb2 c0 c1 c4 HCALL;go_wp2_with fail;go_roundw
     case rel=>exact⟨k+1,num,by omega,by go_num,rfl,by omega,by omega,fun h=>hnx h,HT2.out⟩
     case measure=>simp[intOf];omega
    ·go_wp2_with fail;go_roundw
     case rel=>exact⟨k+1,num,by omega,by go_num,rfl,by omega,by omega,fun h=>hnx h,HTX.out⟩
     case measure=>simp[intOf];omega
  ·have hkI:¬((k:Int)<(Q.ms.length:Int)):=by omega
   obtain⟨d6,d7,d8⟩:=HC.out wr ht;have HT:=zH ht;clear b6 b7 b8 ht;go_wp2_with fail
   go_loopw [44] (fun kv wq=>∃k2:Nat,k2<=Q.rs.length/\kv=.int .i64 (k2:Int)/\Tch [] w wq) (fun kv _=>Q.rs.length-(intOf kv).toNat)
   case atStart=>exact⟨0,Nat.zero_le _,rfl,HT.out⟩
   case round=>
    obtain⟨k2,hk2,rfl,ht2⟩:=hrel;clear d6 d7 d8 HT;have HT2:=zH ht2
    by_cases hlt2:k2<Q.rs.length
    ·have hk2I:(k2:Int)<(Q.rs.length:Int):=by omega
     obtain⟨gr,har,hcs,hcap⟩:=HRR.out _ ht2 (by omega);subst har;have hg:=hcs k2 hlt2;obtain⟨i,hi,hix,hiz⟩:=HS.out.rd k2 hlt2;have HHD:Hid (∀W,Tch [] w W->zB 163 #[.pointer (some ⟨qb,0,none⟩),.string Q.rs[k2]] W (.int .i64 (i:Int))):=fun W hW=>by
      have h1:=HH.out W Q.rs[k2] hW;rw[hix]at h1;exact h1
     have HCN:Hid (∀W,Tch [] w W->zE 176 #[.slice (some ⟨gr,0,none⟩) k2 cr,.string Q.rs[k2]] W (.bool false)):=fun W hW=>by
      obtain⟨gr',har',hcs',_⟩:=HRR.out W hW (by omega);injection har' with har';injection har' with har';subst har';have hl:(Q.rs.take k2).length=k2:=by rw[List.length_take];omega
      have h1:=contains_no gr cr (Q.rs.take k2) Q.rs[k2] W (by omega) (HS.out.rn k2 hlt2) (fun j hj=>by
       rw[List.getElem_take];exact hcs' j (by omega))
      rw[hl]at h1;exact h1
     have HTL:Hid (∀W,Tch [] w W->∃gm,am=some ⟨gm,0,none⟩/\W.cell? ⟨gm,i*5+4,none⟩=some (.int .i64 0)):=fun W hW=>by
      obtain⟨gm,e,hr⟩:=HRM.out W hW i hi;exact⟨gm,e,(hr 4 _ rfl).trans (by rw[hiz])⟩
     have hiI:(i:Int)<(Q.ms.length:Int):=by omega
     clear hcs ht2 HRM HRR HH HS hix hiz;generalize Q.rs[k2]=g at*
     go_upto_region 12 with fail
     go_wp2_with fail;refine(HHD.out _ HT2.out).mono ?_;rintro e w2 ⟨rfl,hb2⟩;have HT3:=zH (HT2.out.trans (Tch.of_below hb2) (fun _ h _=>h):Tch [] w w2);obtain⟨d6,d7,d8⟩:=HC.out _ HT3.out;obtain⟨gm,ham,dt⟩:=HTL.out _ HT3.out;subst ham;have HCC:=zH (HCN.out _ HT3.out);clear hb2 HHD HCN HTL;go_wp2_with fail;refine HCC.out.mono ?_;rintro e w3 ⟨rfl,rfl⟩;go_wp2_with fail;go_roundw
     case rel=>exact⟨k2+1,by omega,by go_num,HT3.out⟩
     case measure=>simp[intOf];omega
    ·have hk2I:¬((k2:Int)<(Q.rs.length:Int)):=by omega
     obtain⟨d6,d7,d8⟩:=HC.out _ ht2;clear ht2;go_wp2_with fail;go_ret;exact⟨ret_bool (by simp),HT2.out⟩
end Go.Proofs.YtbdobaapadlcjabGreatDoor
namespace Go.Proofs.YtbdobaapadlcjabGreatDoor.Keep
open Go.RowKit
theorem shaped_1 (r:Wp.Rq)(x:Sl)(w:World)(hm:r.op.toNat % 10=1)(hw:Wf r)(hz:Szs r):
  Calls Tryz.prog 20 #[.agg (cellsOf r x.v)] w fun e w'=>Shaped w e w'/\Below w.heap.size w w':=by
 have hmi:((r.op.toNat:Nat):Int) % 10=1:=by omega
 have hch:(ByteArray.mk #[67,88,80,83,82,65,69,84,86,66])[1].toNat=88:=rfl;have hinf:=info37;clear hw hz;unfold cellsOf Sl.v;go_enter Tryz.func20,Tryz.ntmps20;go_wp2_with fail;refine(letter_any r.q _).mono ?_;rintro e w' ⟨⟨d,rfl,hd1,hd2⟩,rfl⟩;go_wp2_with fail;have hrt:rightW (⟨88,d,0,0,0,0,0,0,0,⟨#[]⟩,⟨#[]⟩,⟨#[]⟩,⟨#[]⟩,⟨#[]⟩⟩:Wp.Rq) ⟨none,0,0⟩ (Wp.short [])=true:=by
  refine(right_iff _ _ _ (wf_small _ zz zz zz zz zz zz)).2 ⟨23,by decide,rfl,?_,rfl,rfl⟩
  show List.all [0] _=true
  simp only[List.all_cons,List.all_nil,Bool.and_true];exact fits_of _ _ _ 0 (by decide) (by decide) (by decide) (show (97:Int)<=(d.toNat:Int) by omega) (show (d.toNat:Int)<=104 by omega)
 refine bodyPost_ret (results_cell_row (p:=2) rfl _ _ (w.heap.size+1) 24 (cellsOf ⟨88,d,0,0,0,0,0,0,0,⟨#[]⟩,⟨#[]⟩,⟨#[]⟩,⟨#[]⟩,⟨#[]⟩⟩ (Sl.v ⟨none,0,0⟩)) (0,0) _ rfl ?_ Tryz.underlying24 rfl hinf) rfl ⟨shaped_end _ hrt (wf_small _ zz zz zz zz zz zz),?_⟩
 ·exact heap3 _ _ _ _
 ·exact below3 _ _ _ _
theorem shaped_2 (r:Wp.Rq)(x:Sl)(w:World)(hm:r.op.toNat % 10=2)(hw:Wf r)(hz:Szs r):
  Calls Tryz.prog 20 #[.agg (cellsOf r x.v)] w fun e w'=>Shaped w e w'/\Below w.heap.size w w':=by
 have hmi:((r.op.toNat:Nat):Int) % 10=2:=by omega
 have hch:(ByteArray.mk #[67,88,80,83,82,65,69,84,86,66])[2].toNat=80:=rfl;have hinf:=info37;clear hw hz;unfold cellsOf Sl.v;go_enter Tryz.func20,Tryz.ntmps20;go_wp2_with fail;refine(letter_any r.q _).mono ?_;rintro e w' ⟨⟨d,rfl,hd1,hd2⟩,rfl⟩;go_wp2_with fail;have hrt:rightW (⟨80,d,0,0,0,0,0,0,0,⟨#[]⟩,⟨#[]⟩,⟨#[]⟩,⟨#[]⟩,⟨#[]⟩⟩:Wp.Rq) ⟨none,0,0⟩ (Wp.short [])=true:=by
  refine(right_iff _ _ _ (wf_small _ zz zz zz zz zz zz)).2 ⟨15,by decide,rfl,?_,rfl,rfl⟩
  show List.all [0] _=true
  simp only[List.all_cons,List.all_nil,Bool.and_true];exact fits_of _ _ _ 0 (by decide) (by decide) (by decide) (show (97:Int)<=(d.toNat:Int) by omega) (show (d.toNat:Int)<=104 by omega)
 refine bodyPost_ret (results_cell_row (p:=2) rfl _ _ (w.heap.size+1) 24 (cellsOf ⟨80,d,0,0,0,0,0,0,0,⟨#[]⟩,⟨#[]⟩,⟨#[]⟩,⟨#[]⟩,⟨#[]⟩⟩ (Sl.v ⟨none,0,0⟩)) (0,0) _ rfl ?_ Tryz.underlying24 rfl hinf) rfl ⟨shaped_end _ hrt (wf_small _ zz zz zz zz zz zz),?_⟩
 ·exact heap3 _ _ _ _
 ·exact below3 _ _ _ _
theorem shaped_8 (r:Wp.Rq)(x:Sl)(w:World)(hm:r.op.toNat % 10=8)(hw:Wf r)(hz:Szs r):
  Calls Tryz.prog 20 #[.agg (cellsOf r x.v)] w fun e w'=>Shaped w e w'/\Below w.heap.size w w':=by
 have hmi:((r.op.toNat:Nat):Int) % 10=8:=by omega
 have hch:(ByteArray.mk #[67,88,80,83,82,65,69,84,86,66])[8].toNat=86:=rfl;have hinf:=info37;clear hw hz;unfold cellsOf Sl.v;go_enter Tryz.func20,Tryz.ntmps20;go_wp2_with fail;refine(letter_any r.q _).mono ?_;rintro e w' ⟨⟨d,rfl,hd1,hd2⟩,rfl⟩;go_wp2_with fail;have hrt:rightW (⟨86,d,0,0,0,0,0,0,0,⟨#[]⟩,⟨#[]⟩,⟨#[]⟩,⟨#[]⟩,⟨#[]⟩⟩:Wp.Rq) ⟨none,0,0⟩ (Wp.short [])=true:=by
  refine(right_iff _ _ _ (wf_small _ zz zz zz zz zz zz)).2 ⟨21,by decide,rfl,?_,rfl,rfl⟩
  show List.all [0] _=true
  simp only[List.all_cons,List.all_nil,Bool.and_true];exact fits_of _ _ _ 0 (by decide) (by decide) (by decide) (show (97:Int)<=(d.toNat:Int) by omega) (show (d.toNat:Int)<=104 by omega)
 refine bodyPost_ret (results_cell_row (p:=2) rfl _ _ (w.heap.size+1) 24 (cellsOf ⟨86,d,0,0,0,0,0,0,0,⟨#[]⟩,⟨#[]⟩,⟨#[]⟩,⟨#[]⟩,⟨#[]⟩⟩ (Sl.v ⟨none,0,0⟩)) (0,0) _ rfl ?_ Tryz.underlying24 rfl hinf) rfl ⟨shaped_end _ hrt (wf_small _ zz zz zz zz zz zz),?_⟩
 ·exact heap3 _ _ _ _
 ·exact below3 _ _ _ _
theorem shaped_5 (r:Wp.Rq)(x:Sl)(w:World)(hm:r.op.toNat % 10=5)(hw:Wf r)(hz:Szs r):
  Calls Tryz.prog 20 #[.agg (cellsOf r x.v)] w fun e w'=>Shaped w e w'/\Below w.heap.size w w':=by
 have hmi:((r.op.toNat:Nat):Int) % 10=5:=by omega
 have hch:(ByteArray.mk #[67,88,80,83,82,65,69,84,86,66])[5].toNat=65:=rfl;have hsh:Hid (∀W,Calls Tryz.prog 41 #[.string r.han,.int .i64 255] W fun e w'=>e=.returned (.string (sh r.han 255))/\w'=W):=fun W=>short_any r.han 255 W hz.han (by decide)
 have hss:=sh_size r.han 255;generalize sh r.han 255=T at hsh hss;have hinf:=info37;clear hw hz;unfold cellsOf Sl.v;go_enter Tryz.func20,Tryz.ntmps20;go_wp2_with fail;refine(letter_any r.q _).mono ?_;rintro e w' ⟨⟨d,rfl,hd1,hd2⟩,rfl⟩;go_wp2_with fail;refine(hsh.out _).mono ?_;rintro e w' ⟨rfl,rfl⟩;go_wp2_with fail;have hrt:rightW (⟨65,0,0,0,0,0,0,0,0,⟨#[]⟩,⟨#[]⟩,⟨#[]⟩,⟨#[]⟩,T⟩:Wp.Rq) ⟨none,0,0⟩ (Wp.short [])=true:=by
  refine(right_iff _ _ _ (wf_small _ zz zz zz zz zz zz)).2 ⟨0,by decide,rfl,?_,rfl,rfl⟩
  show List.all [13] _=true
  simp only[List.all_cons,List.all_nil,Bool.and_true];exact fits_of _ _ _ 13 (by decide) (by decide) (by decide) (show (0:Int)<=(T.size:Int) by omega) (show (T.size:Int)<=255 by omega)
 refine bodyPost_ret (results_cell_row (p:=2) rfl _ _ (w.heap.size+1) 24 (cellsOf ⟨65,0,0,0,0,0,0,0,0,⟨#[]⟩,⟨#[]⟩,⟨#[]⟩,⟨#[]⟩,T⟩ (Sl.v ⟨none,0,0⟩)) (0,0) _ rfl ?_ Tryz.underlying24 rfl hinf) rfl ⟨shaped_end _ hrt (wf_small _ zz zz zz zz zz zz),?_⟩
 ·exact heap3 _ _ _ _
 ·exact below3 _ _ _ _
end Go.Proofs.YtbdobaapadlcjabGreatDoor.Keep
namespace Go.Proofs.YtbdobaapadlcjabGreatDoor
open Go.RowKit
def pk (c n:Int):Int:=(if c<0 then -(c+1) else c) % n
theorem pk_nonneg (c n:Int)(hn:0<n):0<=pk c n:=Int.emod_nonneg _ (by omega)
theorem pk_lt (c n:Int)(hn:0<n):pk c n<n:=Int.emod_lt_of_pos _ hn
theorem pk_neg (c n:Int)(hc:c<0):-((c+1).tmod n)=pk c n:=by
 rw[pk,if_pos hc,<-Int.neg_tmod,Int.tmod_eq_emod_of_nonneg (by omega)]
theorem pk_pos (c n:Int)(hc:¬c<0):c % n=pk c n:=by rw[pk,if_neg hc]
theorem pick_any (c n:Int)(w:World)(h1:-9223372036854775808<=c)(h2:c<=9223372036854775807)(hn:0<n)(hm:n<=9223372036854775807):
  zE 9 #[.int .i64 c,.int .i64 n] w (.int .i64 (pk c n)):=by
 have hz:¬n=0:=by omega
 by_cases hc:c<0
 ·go_enter Tryz.func9,Tryz.ntmps9
  go_wp2
  go_ret;exact⟨ret_num (pk_neg c n hc),rfl⟩
 ·go_enter Tryz.func9,Tryz.ntmps9
  go_wp2
  go_ret;exact⟨ret_num (pk_pos c n (by omega)),rfl⟩
end Go.Proofs.YtbdobaapadlcjabGreatDoor
namespace Go.Proofs.YtbdobaapadlcjabGreatDoor.Keep
open Go.RowKit
variable {w:World}{base c:Nat}{v:Value}{l:List ByteArray}{a:Option Addr}
theorem shaped_7 (r:Wp.Rq)(x:Sl)(w:World)(hm:r.op.toNat % 10=7)(hw:Wf r)(hz:Szs r):
  Calls Tryz.prog 20 #[.agg (cellsOf r x.v)] w fun e w'=>Shaped w e w'/\Below w.heap.size w w':=by
 have hmi:((r.op.toNat:Nat):Int) % 10=7:=by omega
 have hch:(ByteArray.mk #[67,88,80,83,82,65,69,84,86,66])[7].toNat=84:=rfl;have hpkP:Hid (∀W,Calls Tryz.prog 9 #[.int .i64 r.tic,.int .i64 1000] W fun e w'=>e=.returned (.int .i64 (pk r.tic 1000))/\w'=W):=fun W=>pick_any r.tic 1000 W hw.tic.1 hw.tic.2 (by decide) (by decide)
 have hp1P:=pk_nonneg r.tic 1000 (by decide);have hp2P:=pk_lt r.tic 1000 (by decide);generalize pk r.tic 1000=P at hpkP hp1P hp2P;have hinf:=info37;clear hw hz;unfold cellsOf Sl.v;go_enter Tryz.func20,Tryz.ntmps20;go_wp2_with fail;refine(letter_any r.q _).mono ?_;rintro e w' ⟨⟨d,rfl,hd1,hd2⟩,rfl⟩;go_wp2_with fail;refine(hpkP.out _).mono ?_;rintro e w' ⟨rfl,rfl⟩;go_wp2_with fail;have hrt:rightW (⟨84,0,0,0,0,0,0,0,(1+P),⟨#[]⟩,⟨#[]⟩,⟨#[]⟩,⟨#[]⟩,⟨#[]⟩⟩:Wp.Rq) ⟨none,0,0⟩ (Wp.short [])=true:=by
  refine(right_iff _ _ _ (wf_small _ zz zz zz zz zz ⟨by show (0:Int)<=1+P;omega,by show 1+P<=(1001:Int);omega⟩)).2 ⟨19,by decide,rfl,?_,rfl,rfl⟩
  show List.all [8] _=true
  simp only[List.all_cons,List.all_nil,Bool.and_true];exact fits_of _ _ _ 8 (by decide) (by decide) (by decide) (show (1:Int)<=1+P by omega) (show 1+P<=(1000:Int) by omega)
 refine bodyPost_ret (results_cell_row (p:=2) rfl _ _ (w.heap.size+1) 24 (cellsOf ⟨84,0,0,0,0,0,0,0,(1+P),⟨#[]⟩,⟨#[]⟩,⟨#[]⟩,⟨#[]⟩,⟨#[]⟩⟩ (Sl.v ⟨none,0,0⟩)) (0,0) _ rfl ?_ Tryz.underlying24 rfl hinf) rfl ⟨shaped_end _ hrt (wf_small _ zz zz zz zz zz ⟨by show (0:Int)<=1+P;omega,by show 1+P<=(1001:Int);omega⟩),?_⟩
 ·exact heap3 _ _ _ _
 ·exact below3 _ _ _ _
theorem shaped_6 (r:Wp.Rq)(x:Sl)(w:World)(hm:r.op.toNat % 10=6)(hw:Wf r)(hz:Szs r):
  Calls Tryz.prog 20 #[.agg (cellsOf r x.v)] w fun e w'=>Shaped w e w'/\Below w.heap.size w w':=by
 have hmi:((r.op.toNat:Nat):Int) % 10=6:=by omega
 have hch:(ByteArray.mk #[67,88,80,83,82,65,69,84,86,66])[6].toNat=69:=rfl;have hsh:Hid (∀W,Calls Tryz.prog 41 #[.string r.han,.int .i64 255] W fun e w'=>e=.returned (.string (sh r.han 255))/\w'=W):=fun W=>short_any r.han 255 W hz.han (by decide)
 have hss:=sh_size r.han 255;generalize sh r.han 255=T at hsh hss;have hpkP:Hid (∀W,Calls Tryz.prog 9 #[.int .i64 r.tic,.int .i64 1001] W fun e w'=>e=.returned (.int .i64 (pk r.tic 1001))/\w'=W):=fun W=>pick_any r.tic 1001 W hw.tic.1 hw.tic.2 (by decide) (by decide)
 have hp1P:=pk_nonneg r.tic 1001 (by decide);have hp2P:=pk_lt r.tic 1001 (by decide);generalize pk r.tic 1001=P at hpkP hp1P hp2P;have hinf:=info37;clear hw hz;unfold cellsOf Sl.v;go_enter Tryz.func20,Tryz.ntmps20;go_wp2_with fail;refine(letter_any r.q _).mono ?_;rintro e w' ⟨⟨d,rfl,hd1,hd2⟩,rfl⟩;go_wp2_with fail;refine(hsh.out _).mono ?_;rintro e w' ⟨rfl,rfl⟩;go_wp2_with fail;refine(hpkP.out _).mono ?_;rintro e w' ⟨rfl,rfl⟩;go_wp2_with fail;have hrt:rightW (⟨69,0,0,0,0,0,0,0,P,⟨#[]⟩,⟨#[]⟩,⟨#[]⟩,⟨#[]⟩,T⟩:Wp.Rq) ⟨none,0,0⟩ (Wp.short [])=true:=by
  refine(right_iff _ _ _ (wf_small _ zz zz zz zz zz ⟨by show (0:Int)<=P;omega,by show P<=(1001:Int);omega⟩)).2 ⟨4,by decide,rfl,?_,rfl,rfl⟩
  show List.all [13,7] _=true
  simp only[List.all_cons,List.all_nil,Bool.and_true,Bool.and_eq_true];exact⟨fits_of _ _ _ 13 (by decide) (by decide) (by decide) (show (0:Int)<=(T.size:Int) by omega) (show (T.size:Int)<=255 by omega),fits_of _ _ _ 7 (by decide) (by decide) (by decide) (show (0:Int)<=P by omega) (show P<=(1000:Int) by omega)⟩
 refine bodyPost_ret (results_cell_row (p:=2) rfl _ _ (w.heap.size+1) 24 (cellsOf ⟨69,0,0,0,0,0,0,0,P,⟨#[]⟩,⟨#[]⟩,⟨#[]⟩,⟨#[]⟩,T⟩ (Sl.v ⟨none,0,0⟩)) (0,0) _ rfl ?_ Tryz.underlying24 rfl hinf) rfl ⟨shaped_end _ hrt (wf_small _ zz zz zz zz zz ⟨by show (0:Int)<=P;omega,by show P<=(1001:Int);omega⟩),?_⟩
 ·exact heap3 _ _ _ _
 ·exact below3 _ _ _ _
theorem shaped_4 (r:Wp.Rq)(x:Sl)(w:World)(hm:r.op.toNat % 10=4)(hw:Wf r)(hz:Szs r):
  Calls Tryz.prog 20 #[.agg (cellsOf r x.v)] w fun e w'=>Shaped w e w'/\Below w.heap.size w w':=by
 have hmi:((r.op.toNat:Nat):Int) % 10=4:=by omega
 have hch:(ByteArray.mk #[67,88,80,83,82,65,69,84,86,66])[4].toNat=82:=rfl;have hsh:Hid (∀W,Calls Tryz.prog 41 #[.string r.att,.int .i64 8] W fun e w'=>e=.returned (.string (sh r.att 8))/\w'=W):=fun W=>short_any r.att 8 W hz.att (by decide)
 have hss:=sh_size r.att 8;generalize sh r.att 8=T at hsh hss;have hpkP:Hid (∀W,Calls Tryz.prog 9 #[.int .i64 r.mx,.int .i64 10] W fun e w'=>e=.returned (.int .i64 (pk r.mx 10))/\w'=W):=fun W=>pick_any r.mx 10 W hw.mx.1 hw.mx.2 (by decide) (by decide)
 have hp1P:=pk_nonneg r.mx 10 (by decide);have hp2P:=pk_lt r.mx 10 (by decide);generalize pk r.mx 10=P at hpkP hp1P hp2P;have hinf:=info37;clear hw hz;unfold cellsOf Sl.v;go_enter Tryz.func20,Tryz.ntmps20;go_wp2_with fail;refine(letter_any r.q _).mono ?_;rintro e w' ⟨⟨d,rfl,hd1,hd2⟩,rfl⟩;go_wp2_with fail;refine(hsh.out _).mono ?_;rintro e w' ⟨rfl,rfl⟩;go_wp2_with fail;refine(hpkP.out _).mono ?_;rintro e w' ⟨rfl,rfl⟩;go_wp2_with fail;have hrt:rightW (⟨82,d,0,0,0,0,0,(1+P),0,⟨#[]⟩,⟨#[]⟩,⟨#[]⟩,T,⟨#[]⟩⟩:Wp.Rq) ⟨none,0,0⟩ (Wp.short [])=true:=by
  refine(right_iff _ _ _ (wf_small _ zz zz zz zz ⟨by show (0:Int)<=1+P;omega,by show 1+P<=(1001:Int);omega⟩ zz)).2 ⟨17,by decide,rfl,?_,rfl,rfl⟩
  show List.all [0,12,6] _=true
  simp only[List.all_cons,List.all_nil,Bool.and_true,Bool.and_eq_true];exact⟨fits_of _ _ _ 0 (by decide) (by decide) (by decide) (show (97:Int)<=(d.toNat:Int) by omega) (show (d.toNat:Int)<=104 by omega),fits_of _ _ _ 12 (by decide) (by decide) (by decide) (show (0:Int)<=(T.size:Int) by omega) (show (T.size:Int)<=8 by omega),fits_of _ _ _ 6 (by decide) (by decide) (by decide) (show (1:Int)<=1+P by omega) (show 1+P<=(10:Int) by omega)⟩
 refine bodyPost_ret (results_cell_row (p:=2) rfl _ _ (w.heap.size+1) 24 (cellsOf ⟨82,d,0,0,0,0,0,(1+P),0,⟨#[]⟩,⟨#[]⟩,⟨#[]⟩,T,⟨#[]⟩⟩ (Sl.v ⟨none,0,0⟩)) (0,0) _ rfl ?_ Tryz.underlying24 rfl hinf) rfl ⟨shaped_end _ hrt (wf_small _ zz zz zz zz ⟨by show (0:Int)<=1+P;omega,by show 1+P<=(1001:Int);omega⟩ zz),?_⟩
 ·exact heap3 _ _ _ _
 ·exact below3 _ _ _ _
theorem shaped_3 (r:Wp.Rq)(x:Sl)(w:World)(hm:r.op.toNat % 10=3)(hw:Wf r)(hz:Szs r):
  Calls Tryz.prog 20 #[.agg (cellsOf r x.v)] w fun e w'=>Shaped w e w'/\Below w.heap.size w w':=by
 have hmi:((r.op.toNat:Nat):Int) % 10=3:=by omega
 have hch:(ByteArray.mk #[67,88,80,83,82,65,69,84,86,66])[3].toNat=83:=rfl;have hsh:Hid (∀W,Calls Tryz.prog 41 #[.string r.bod,.int .i64 255] W fun e w'=>e=.returned (.string (sh r.bod 255))/\w'=W):=fun W=>short_any r.bod 255 W hz.bod (by decide)
 have hss:=sh_size r.bod 255;generalize sh r.bod 255=T at hsh hss;have HZ:Hid (r.grp.size<=maxLen/\r.ded.size<=maxLen):=⟨hz.grp,hz.ded⟩;have hinf:=info37;clear hw hz;unfold cellsOf Sl.v;go_enter Tryz.func20,Tryz.ntmps20;go_wp2_with fail;refine(letter_any r.q _).mono ?_;rintro e w' ⟨⟨d,rfl,hd1,hd2⟩,rfl⟩;go_wp2_with fail;refine(named_any r.grp _ HZ.out.1).mono ?_;rintro e w' ⟨⟨G,rfl,hg1,hg2⟩,rfl⟩;go_wp2_with fail;refine(dedup_any r.ded _ HZ.out.2).mono ?_;rintro e w' ⟨⟨D,rfl,hD1,hD2⟩,rfl⟩;have HD2:Hid (Wp.dedOk D=true):=hD2;clear hD2;go_wp2_with fail;refine(hsh.out _).mono ?_;rintro e w' ⟨rfl,rfl⟩;go_wp2_with fail;have hrt:rightW (⟨83,d,0,0,0,0,0,0,0,G,D,T,⟨#[]⟩,⟨#[]⟩⟩:Wp.Rq) ⟨none,0,0⟩ (Wp.short [])=true:=by
  refine(right_iff _ _ _ (wf_small _ zz zz zz zz zz zz)).2 ⟨18,by decide,rfl,?_,rfl,rfl⟩
  show List.all [0,9,10,11] _=true
  simp only[List.all_cons,List.all_nil,Bool.and_true,Bool.and_eq_true];exact⟨fits_of _ _ _ 0 (by decide) (by decide) (by decide) (show (97:Int)<=(d.toNat:Int) by omega) (show (d.toNat:Int)<=104 by omega),fits_of _ _ _ 9 (by decide) (by decide) (by decide) (show (1:Int)<=(G.size:Int) by omega) (show (G.size:Int)<=8 by omega),fits_dedup _ _ _ hD1 HD2.out,fits_of _ _ _ 11 (by decide) (by decide) (by decide) (show (0:Int)<=(T.size:Int) by omega) (show (T.size:Int)<=255 by omega)⟩
 refine bodyPost_ret (results_cell_row (p:=2) rfl _ _ (w.heap.size+1) 24 (cellsOf ⟨83,d,0,0,0,0,0,0,0,G,D,T,⟨#[]⟩,⟨#[]⟩⟩ (Sl.v ⟨none,0,0⟩)) (0,0) _ rfl ?_ Tryz.underlying24 rfl hinf) rfl ⟨shaped_end _ hrt (wf_small _ zz zz zz zz zz zz),?_⟩
 ·exact heap3 _ _ _ _
 ·exact below3 _ _ _ _
theorem shaped_Q (r:Wp.Rq)(x:Sl)(w:World)(hm:r.op.toNat % 10=0)(hw:Wf r)(hz:Szs r):
  Calls Tryz.prog 20 #[.agg (cellsOf r x.v)] w fun e w'=>(∃rr:Wp.Rq,e=.returned (.agg (cellsOf rr (Sl.v ⟨none,0,0⟩)))/\rightW rr ⟨none,0,0⟩ (Wp.short [])=true/\Wf rr/\rr.op=67/\rr.q.toNat=97+r.q.toNat % 8)/\Below w.heap.size w w':=by
 have hmi:((r.op.toNat:Nat):Int) % 10=0:=by omega
 have hch:(ByteArray.mk #[67,88,80,83,82,65,69,84,86,66])[0].toNat=67:=rfl;have hpkV:Hid (∀W,Calls Tryz.prog 9 #[.int .i64 r.vis,.int .i64 1000] W fun e w'=>e=.returned (.int .i64 (pk r.vis 1000))/\w'=W):=fun W=>pick_any r.vis 1000 W hw.vis.1 hw.vis.2 (by decide) (by decide)
 have hp1V:=pk_nonneg r.vis 1000 (by decide);have hp2V:=pk_lt r.vis 1000 (by decide);generalize pk r.vis 1000=V at hpkV hp1V hp2V;have hpkW2:Hid (∀W,Calls Tryz.prog 9 #[.int .i64 r.win,.int .i64 1001] W fun e w'=>e=.returned (.int .i64 (pk r.win 1001))/\w'=W):=fun W=>pick_any r.win 1001 W hw.win.1 hw.win.2 (by decide) (by decide)
 have hp1W2:=pk_nonneg r.win 1001 (by decide);have hp2W2:=pk_lt r.win 1001 (by decide);generalize pk r.win 1001=W2 at hpkW2 hp1W2 hp2W2;have hpkR:Hid (∀W,Calls Tryz.prog 9 #[.int .i64 r.rcv,.int .i64 10] W fun e w'=>e=.returned (.int .i64 (pk r.rcv 10))/\w'=W):=fun W=>pick_any r.rcv 10 W hw.rcv.1 hw.rcv.2 (by decide) (by decide)
 have hp1R:=pk_nonneg r.rcv 10 (by decide);have hp2R:=pk_lt r.rcv 10 (by decide);generalize pk r.rcv 10=R at hpkR hp1R hp2R;have hpkU:Hid (∀W,Calls Tryz.prog 9 #[.int .i64 r.quo,.int .i64 50] W fun e w'=>e=.returned (.int .i64 (pk r.quo 50))/\w'=W):=fun W=>pick_any r.quo 50 W hw.quo.1 hw.quo.2 (by decide) (by decide)
 have hp1U:=pk_nonneg r.quo 50 (by decide);have hp2U:=pk_lt r.quo 50 (by decide);generalize pk r.quo 50=U at hpkU hp1U hp2U;have hinf:=info37;clear hw hz;unfold cellsOf Sl.v;go_enter Tryz.func20,Tryz.ntmps20;go_wp2_with fail;refine(letter_eq r.q _).mono ?_;rintro e w' ⟨⟨d,rfl,hdq⟩,rfl⟩;have hd1:97<=d.toNat:=by omega
 have hd2:d.toNat<=104:=by omega
 have HDQ:Hid (d.toNat=97+r.q.toNat % 8):=hdq;clear hdq;go_wp2_with fail;refine(hpkV.out _).mono ?_;rintro e w' ⟨rfl,rfl⟩;go_wp2_with fail;refine(hpkW2.out _).mono ?_;rintro e w' ⟨rfl,rfl⟩;go_wp2_with fail;refine(hpkR.out _).mono ?_;rintro e w' ⟨rfl,rfl⟩;go_wp2_with fail;refine(hpkU.out _).mono ?_;rintro e w' ⟨rfl,rfl⟩;go_wp2_with fail;refine(letter_any r.d _).mono ?_;rintro e w' ⟨⟨d2,rfl,he1,he2⟩,rfl⟩
 by_cases hdd:d2=d
 ·have hdb:(((d2.toNat:Nat):Int) == ((d.toNat:Nat):Int))=true:=by rw[hdd];simp
  clear hdd;go_wp2_with fail;have hrt:rightW (⟨67,d,45,(1+V),W2,R,(1+U),0,0,⟨#[]⟩,⟨#[]⟩,⟨#[]⟩,⟨#[]⟩,⟨#[]⟩⟩:Wp.Rq) ⟨none,0,0⟩ (Wp.short [])=true:=by
   refine(right_iff _ _ _ (wf_small _ ⟨by show (0:Int)<=1+V;omega,by show 1+V<=(1001:Int);omega⟩ ⟨by show (0:Int)<=W2;omega,by show W2<=(1001:Int);omega⟩ ⟨by show (0:Int)<=R;omega,by show R<=(1001:Int);omega⟩ ⟨by show (0:Int)<=1+U;omega,by show 1+U<=(1001:Int);omega⟩ zz zz)).2 ⟨2,by decide,rfl,?_,rfl,rfl⟩
   show List.all [0,2,3,4,1,5] _=true
   simp only[List.all_cons,List.all_nil,Bool.and_true,Bool.and_eq_true];exact⟨fits_of _ _ _ 0 (by decide) (by decide) (by decide) (show (97:Int)<=(d.toNat:Int) by omega) (show (d.toNat:Int)<=104 by omega),fits_of _ _ _ 2 (by decide) (by decide) (by decide) (show (1:Int)<=1+V by omega) (show 1+V<=(1000:Int) by omega),fits_of _ _ _ 3 (by decide) (by decide) (by decide) (show (0:Int)<=W2 by omega) (show W2<=(1000:Int) by omega),fits_of _ _ _ 4 (by decide) (by decide) (by decide) (show (0:Int)<=R by omega) (show R<=(9:Int) by omega),fits_dead _ _ _ (Or.inl rfl),fits_of _ _ _ 5 (by decide) (by decide) (by decide) (show (1:Int)<=1+U by omega) (show 1+U<=(50:Int) by omega)⟩
  refine bodyPost_ret (results_cell_row (p:=2) rfl _ _ (w.heap.size+1) 24 (cellsOf ⟨67,d,45,(1+V),W2,R,(1+U),0,0,⟨#[]⟩,⟨#[]⟩,⟨#[]⟩,⟨#[]⟩,⟨#[]⟩⟩ (Sl.v ⟨none,0,0⟩)) (0,0) _ rfl ?_ Tryz.underlying24 rfl hinf) rfl ⟨⟨_,rfl,hrt,(wf_small _ ⟨by show (0:Int)<=1+V;omega,by show 1+V<=(1001:Int);omega⟩ ⟨by show (0:Int)<=W2;omega,by show W2<=(1001:Int);omega⟩ ⟨by show (0:Int)<=R;omega,by show R<=(1001:Int);omega⟩ ⟨by show (0:Int)<=1+U;omega,by show 1+U<=(1001:Int);omega⟩ zz zz),rfl,HDQ.out⟩,?_⟩
  ·exact heap3 _ _ _ _
  ·exact below3 _ _ _ _
 ·have hdb:(((d2.toNat:Nat):Int) == ((d.toNat:Nat):Int))=false:=by
   rw[beq_eq_false_iff_ne];intro e;exact hdd (UInt8.toNat_inj.1 (by omega))
  have HDD:Hid (d2≠d):=hdd;clear hdd;go_wp2_with fail;have hrt:rightW (⟨67,d,d2,(1+V),W2,R,(1+U),0,0,⟨#[]⟩,⟨#[]⟩,⟨#[]⟩,⟨#[]⟩,⟨#[]⟩⟩:Wp.Rq) ⟨none,0,0⟩ (Wp.short [])=true:=by
   refine(right_iff _ _ _ (wf_small _ ⟨by show (0:Int)<=1+V;omega,by show 1+V<=(1001:Int);omega⟩ ⟨by show (0:Int)<=W2;omega,by show W2<=(1001:Int);omega⟩ ⟨by show (0:Int)<=R;omega,by show R<=(1001:Int);omega⟩ ⟨by show (0:Int)<=1+U;omega,by show 1+U<=(1001:Int);omega⟩ zz zz)).2 ⟨2,by decide,rfl,?_,rfl,rfl⟩
   show List.all [0,2,3,4,1,5] _=true
   simp only[List.all_cons,List.all_nil,Bool.and_true,Bool.and_eq_true];exact⟨fits_of _ _ _ 0 (by decide) (by decide) (by decide) (show (97:Int)<=(d.toNat:Int) by omega) (show (d.toNat:Int)<=104 by omega),fits_of _ _ _ 2 (by decide) (by decide) (by decide) (show (1:Int)<=1+V by omega) (show 1+V<=(1000:Int) by omega),fits_of _ _ _ 3 (by decide) (by decide) (by decide) (show (0:Int)<=W2 by omega) (show W2<=(1000:Int) by omega),fits_of _ _ _ 4 (by decide) (by decide) (by decide) (show (0:Int)<=R by omega) (show R<=(9:Int) by omega),fits_dead _ _ _ (Or.inr ⟨he1,he2,HDD.out⟩),fits_of _ _ _ 5 (by decide) (by decide) (by decide) (show (1:Int)<=1+U by omega) (show 1+U<=(50:Int) by omega)⟩
  refine bodyPost_ret (results_cell_row (p:=2) rfl _ _ (w.heap.size+1) 24 (cellsOf ⟨67,d,d2,(1+V),W2,R,(1+U),0,0,⟨#[]⟩,⟨#[]⟩,⟨#[]⟩,⟨#[]⟩,⟨#[]⟩⟩ (Sl.v ⟨none,0,0⟩)) (0,0) _ rfl ?_ Tryz.underlying24 rfl hinf) rfl ⟨⟨_,rfl,hrt,(wf_small _ ⟨by show (0:Int)<=1+V;omega,by show 1+V<=(1001:Int);omega⟩ ⟨by show (0:Int)<=W2;omega,by show W2<=(1001:Int);omega⟩ ⟨by show (0:Int)<=R;omega,by show R<=(1001:Int);omega⟩ ⟨by show (0:Int)<=1+U;omega,by show 1+U<=(1001:Int);omega⟩ zz zz),rfl,HDQ.out⟩,?_⟩
  ·exact heap3 _ _ _ _
  ·exact below3 _ _ _ _
theorem shaped_0 (r:Wp.Rq)(x:Sl)(w:World)(hm:r.op.toNat % 10=0)(hw:Wf r)(hz:Szs r):
  Calls Tryz.prog 20 #[.agg (cellsOf r x.v)] w fun e w'=>Shaped w e w'/\Below w.heap.size w w':=
 (shaped_Q r x w hm hw hz).mono (fun e w' ⟨⟨rr,he,h1,h2,_,_⟩,hb⟩=>⟨by rw[he];exact shaped_end rr h1 h2,hb⟩)
theorem addr_zero (n j:Nat):(⟨n,0,none⟩:Addr).add j=⟨n,j,none⟩:=by
 unfold Addr.add
 split
 ·next h=>rw[h]
 ·rw[Nat.zero_add]
def OwnS (w:World)(base:Nat)(v:Value)(l:List ByteArray):Prop:=w.ownsRow base 9 1 v l.length (l.map Value.string)
theorem OwnS.form (h:OwnS w base v l):∃a c,v=.slice a l.length c:=by
 obtain⟨h1,h2|⟨g,cap,cur,h2,_⟩⟩:=h
 ·exact⟨none,0,by rw[h2.1,h2.2]⟩
 ·exact⟨_,_,h2⟩
theorem OwnS.strs {n:Nat}(h:OwnS w base (.slice a n c) l):FStrs base w a l:=by
 intro j hj;have h':=h;obtain⟨h1,h2|⟨g,cap,cur,h2,hg,hh,_⟩⟩:=h
 ·omega
 ·injection h2 with e1 e2 e3;subst e1;refine⟨g,0,rfl,hg,?_⟩;have hc:=World.ownsRow.cells h' (g:=g) rfl j (.string l[j]) (by simp[hj]);rw[addr_zero]at hc;rw[Nat.zero_add];exact hc
theorem OwnS.snoc {x:ByteArray}(h:w.ownsRow base 9 1 v (l.length+1) (l.map Value.string++[.string x])):OwnS w base v (l++[x]):=by
 unfold OwnS;rw[List.length_append,List.map_append];exact h
theorem sh_all (bs:List ByteArray):∀s∈bs.map (sh · 255),s.size<=255:=by
 intro s hs;obtain⟨t,_,rfl⟩:=List.mem_map.1 hs;exact sh_size t 255
theorem batch_right (a:Option Addr)(k c:Nat)(l:List ByteArray)(hk:k=l.length)(h1:1<=k)(h2:k<=10)(hs:∀s∈l,s.size<=255):rightW (opR 66) ⟨a,k,c⟩ (Wp.short l)=true:=by
 have hw:Wf (opR 66):=wf_small _ zz zz zz zz zz zz;refine(right_iff _ _ _ hw).2 ⟨1,by decide,rfl,?_,rfl,rfl⟩;have hsh:Wp.short l=true:=List.all_eq_true.2 fun s h=>by simpa using hs s h
 show List.all [14] _=true
 simp only[List.all_cons,List.all_nil,Bool.and_true];unfold Wp.Rq.fits;have e1:(opR 66).measure k 14=(k:Int):=rfl;have e2:Wp.least 14=1:=rfl;have e3:Wp.most 14=10:=rfl
 show (if 14=1/\(opR 66).d=45 then true else if (opR 66).measure k 14<Wp.least 14 then false else if Wp.most 14<(opR 66).measure k 14 then false else if 14=1 then _ else if 14=10 then _ else if 14=14 then Wp.short l else true)=true
 rw[if_neg (fun e=>by cases e.1),e1,e2,e3,if_neg (by omega),if_neg (by omega),if_neg (by decide),if_neg (by decide),if_pos rfl];exact hsh
theorem batch_end {wr:World}{k:Nat}(h0:w.heap.size+1<w.heap.size+1+1+1)(hk:k=l.length)(h1:1<=k)(h2:k<=10)(hs:∀s∈l,s.size<=255)(hown:OwnS wr (w.heap.size+1+1+1) (.slice a k c) l)(hb:Below w.heap.size w wr):
  Shaped w (.returned (.agg (cellsOf (opR 66) (Sl.v ⟨a,k,c⟩)))) (wr.setRow (w.heap.size+1) (cellsOf (opR 66) (Sl.v ⟨a,k,c⟩)))/\Below w.heap.size w (wr.setRow (w.heap.size+1) (cellsOf (opR 66) (Sl.v ⟨a,k,c⟩))):=by
 refine⟨⟨opR 66,⟨a,k,c⟩,l,rfl,batch_right a k c l hk h1 h2 hs,wf_small _ zz zz zz zz zz zz,hk,by omega,fun j hj=>?_⟩,Go.Proofs.YtbdobaapadlcjabGreatDoor.below_setRow hb (by omega) _⟩
 obtain⟨g,o,ha,hg,hc⟩:=hown.strs j hj;have hne:g≠w.heap.size+1:=by omega
 have e1:(wr.setRow (w.heap.size+1) (cellsOf (opR 66) (Sl.v ⟨a,k,c⟩))).heap[g]?=wr.heap[g]?:=setRow_other _ _ g _ hne;exact⟨g,o,ha,by omega,(World.cell?_of_block (a:=⟨g,o+j,none⟩) e1).trans hc⟩
theorem shaped_9 (r:Wp.Rq)(xa:Option Addr)(xc:Nat)(bs:List ByteArray)(w:World)(hm:r.op.toNat % 10=9)(hn:bs.length<=maxLen)(hbs:∀s∈bs,s.size<=maxLen)(hS:Strs w xa bs):
  Calls Tryz.prog 20 #[.agg (cellsOf r (.slice xa bs.length xc))] w fun e w'=>Shaped w e w'/\Below w.heap.size w w':=by
 have hmi:((r.op.toNat:Nat):Int) % 10=9:=by omega
 have hch:(ByteArray.mk #[67,88,80,83,82,65,69,84,86,66])[9].toNat=66:=rfl;have hinf:=info37;obtain⟨i0,hi,hz0,hz1,hz2⟩:=info_parts info9;unfold maxLen at hn;have HS:Hid (Strs w xa bs):=hS;have HBS:Hid (∀s∈bs,s.size<=maxLen):=hbs;clear hS hbs;unfold cellsOf;go_enter Tryz.func20,Tryz.ntmps20;go_wp2_with fail;refine(letter_any r.q _).mono ?_;rintro e w' ⟨⟨d,rfl,hd1,hd2⟩,rfl⟩;go_wp2_with fail
 go_loopw [5] (fun v wr=>∃(k:Nat) (a:Option Addr) (c:Nat),k<=bs.length/\k<=10/\v=.int .i64 k/\OwnS wr (w.heap.size+1+1+1) (.slice a k c) ((bs.take k).map (sh · 255))/\Below w.heap.size w wr/\Blk wr w.heap.size r ⟨xa,bs.length,xc⟩/\Blk wr (w.heap.size+1) (opR 0) ⟨none,0,0⟩/\Blk wr (w.heap.size+1+1) (opR 66) ⟨a,k,c⟩/\w.heap.size+1+1+1<=wr.heap.size) (fun v _=>10-(intOf v).toNat)
 case atStart=>
  refine⟨0,none,0,Nat.zero_le _,Nat.zero_le _,rfl,World.ownsRow_nil _ _ _ _,below3 _ _ _ _,?_,?_,?_,by simp⟩
  ·unfold Blk;rw[Below.heap_alloc _ _ _ (by simp;omega),heap_alloc2_old];rfl
  ·exact heap3 _ _ _ _
  ·unfold Blk;have h:=heap_alloc_new ((w.alloc (.cells (cellsOf r (.slice xa bs.length xc)) 24)).alloc (.cells (cellsOf (opR 0) (.slice none 0 0)) 24)) (.cells (cellsOf (opR 66) (Sl.v ⟨none,0,0⟩)) 24);rw[World.size_alloc,World.size_alloc]at h;exact h
 case round=>
  obtain⟨k,a,c,hk,hk10,rfl,hown,hbw,hbk0,hbk1,hbk2,hsw⟩:=hrel;have HOWN:Hid (OwnS wr (w.heap.size+1+1+1) (.slice a k c) ((bs.take k).map (sh · 255))):=hown;have HBW:Hid (Below w.heap.size w wr):=hbw;have HB0:Hid (Blk wr w.heap.size r ⟨xa,bs.length,xc⟩):=hbk0;have HB1:Hid (Blk wr (w.heap.size+1) (opR 0) ⟨none,0,0⟩):=hbk1;have HB2:Hid (Blk wr (w.heap.size+1+1) (opR 66) ⟨a,k,c⟩):=hbk2;have c0:wr.cell? ⟨w.heap.size,14,none⟩=some (.slice xa bs.length xc):=hbk0.box 14 _ rfl;have c2:wr.cell? ⟨w.heap.size+1+1,14,none⟩=some (.slice a k c):=hbk2.box 14 _ rfl;have f2:=hbk2.frozen 14;have hlk:((bs.take k).map (sh · 255)).length=k:=by rw[List.length_map,List.length_take];omega
  have HLK:Hid (((bs.take k).map (sh · 255)).length=k):=hlk;clear hown hbk0 hbk1 hbk2 hlk
  by_cases hgo:k<bs.length/\k<10
  ·obtain⟨hlt,hlt10⟩:=hgo;obtain⟨g1,o1,rfl,hc1⟩:=HS.out k hlt;have hg1:g1<w.heap.size:=World.block_lt_of_cell? _ _ hc1;have hd1:=(hbw.cell (p:=⟨g1,o1+k,none⟩) hg1).trans hc1;have htk:Hid ((bs.take (k+1)).map (sh · 255)=(bs.take k).map (sh · 255)++[sh bs[k] 255]):=by
    show _=_
    rw[List.take_succ_eq_append_getElem hlt,List.map_append];rfl
   have hsz:=HBS.out bs[k] (List.getElem_mem hlt);have hsh:Hid (∀W,Calls Tryz.prog 41 #[.string bs[k],.int .i64 255] W fun e w'=>e=.returned (.string (sh bs[k] 255))/\w'=W):=fun W=>short_any bs[k] 255 W hsz (by decide)
   generalize sh bs[k] 255=T at hsh htk;generalize bs[k]=S at hd1 hsh hc1 hsz;generalize (bs.take k).map (sh · 255)=L at HOWN htk HLK;have hLle:L.length<=10:=by rw[HLK.out];exact hk10
   have hown1:OwnS wr (w.heap.size+1+1+1) (.slice a k c) L:=HOWN.out;clear hbw hc1 hown1;go_wp2_with fail;refine(hsh.out _).mono ?_;rintro e w2 ⟨rfl,rfl⟩;go_wp2_with (at_builtin;refine wpList_append_own _ rfl _ _ 22 rfl (w.heap.size+1+1+1) 9 i0 (.string ⟨#[]⟩) 1 16 Tryz.underlying22 hi hz0 hz1 hz2 rfl (by decide) _ _ _ rfl (World.ownsRow.alloc HOWN.out _) ⟨w2.heap.size,0,none⟩ 1 1 [.string T] rfl rfl ?c1 ?c2 ?c3 ?c4 ?c5 ?_)
   case c1=>exact cell_one_new _ _ _
   case c2=>intro u hu;simp at hu;subst hu;rfl
   case c3=>unfold maxLen;omega
   case c4=>omega
   case c5=>simp;omega
   intro v' w3 hown' hgrow _;have hown3:OwnS w3 (w.heap.size+1+1+1) v' (L++[T]):=OwnS.snoc hown';obtain⟨a',c',hv'⟩:=hown3.form;have hL1:(L++[T]).length=k+1:=by rw[List.length_append,HLK.out];rfl
   rw[hL1]at hv';have hb3:Below (w.heap.size+1+1+1) w2 w3:=by
    refine Below.grown ((Below.refl _ _).alloc (by omega) _) hgrow (by simp;omega) ?_;intro q hq;exact(World.ownsRow.lt HOWN.out q hq).1
   rw[hv']at hown3 ⊢;rw[<-htk.out]at hown3;have hb2:Blk w3 (w.heap.size+1+1) (opR 66) ⟨a,k,c⟩:=by
    unfold Blk;rw[hb3.block _ (by omega)];exact HB2.out
   have c3:w3.cell? ⟨w.heap.size+1+1,14,none⟩=some (.slice a k c):=hb2.box 14 _ rfl;have f3:=hb2.frozen 14;have HF:Hid (OwnS (w3.setCell ⟨w.heap.size+1+1,14,none⟩ (.slice a' (k+1) c')) (w.heap.size+1+1+1) (.slice a' (k+1) c') ((bs.take (k+1)).map (sh · 255))/\
     Below w.heap.size w (w3.setCell ⟨w.heap.size+1+1,14,none⟩ (.slice a' (k+1) c'))/\
     Blk (w3.setCell ⟨w.heap.size+1+1,14,none⟩ (.slice a' (k+1) c')) w.heap.size r ⟨some ⟨g1,o1,none⟩,bs.length,xc⟩/\
     Blk (w3.setCell ⟨w.heap.size+1+1,14,none⟩ (.slice a' (k+1) c')) (w.heap.size+1) (opR 0) ⟨none,0,0⟩/\
     Blk (w3.setCell ⟨w.heap.size+1+1,14,none⟩ (.slice a' (k+1) c')) (w.heap.size+1+1) (opR 66) ⟨a',k+1,c'⟩/\
     w.heap.size+1+1+1<=(w3.setCell ⟨w.heap.size+1+1,14,none⟩ (.slice a' (k+1) c')).heap.size):=by
    refine⟨ownsRow_setCell_below hown3 (by show w.heap.size+1+1<_;omega) _,(HBW.out.trans (hb3.mono (by omega))).setCell (by show _<=w.heap.size+1+1;omega) _,?_,?_,?_,?_⟩
    ·unfold Blk;rw[heap_setCell_other _ _ _ _ (by show w.heap.size≠w.heap.size+1+1;omega),hb3.block _ (by omega)];exact HB0.out
    ·unfold Blk;rw[heap_setCell_other _ _ _ _ (by show w.heap.size+1≠w.heap.size+1+1;omega),hb3.block _ (by omega)];exact HB1.out
    ·exact heap_setCell_same w3 (w.heap.size+1+1) 14 _ 24 _ hb2
    ·rw[World.size_setCell];have:=hb3.size;omega
   clear hown' hgrow hown3 hb3 hb2 hL1 hv';go_wp2_with fail;go_roundw
   case rel=>exact⟨k+1,a',c',by omega,by omega,by go_num,HF.out.1,HF.out.2.1,HF.out.2.2.1,HF.out.2.2.2.1,HF.out.2.2.2.2.1,HF.out.2.2.2.2.2⟩
   case measure=>simp[intOf];omega
  ·have hbeg:¬(k<bs.length/\k<10):=hgo
   by_cases hz:k=0
   ·have hnil:Hid (bs.length=0):=by show _=_;omega
    subst hz;have hbl:¬(0<bs.length):=by omega
    have HL0:Hid (((bs.take 0).map (sh · 255))=[]):=rfl;have hown0:OwnS wr (w.heap.size+1+1+1) (.slice a 0 c) []:=HOWN.out;have HOWN0:Hid (OwnS wr (w.heap.size+1+1+1) (.slice a 0 c) []):=hown0;clear hbw hown0 hbeg hgo;go_wp2_with (at_builtin;refine wpList_append_own _ rfl _ _ 22 rfl (w.heap.size+1+1+1) 9 i0 (.string ⟨#[]⟩) 1 16 Tryz.underlying22 hi hz0 hz1 hz2 rfl (by decide) _ _ _ rfl (World.ownsRow.alloc HOWN0.out _) ⟨wr.heap.size,0,none⟩ 1 1 [.string ⟨#[]⟩] rfl rfl ?c1 ?c2 ?c3 ?c4 ?c5 ?_)
    case c1=>exact cell_one_new _ _ _
    case c2=>intro u hu;simp at hu;subst hu;rfl
    case c3=>unfold maxLen;simp
    case c4=>simp
    case c5=>simp;omega
    intro v' w3 hown' hgrow _;have hown3:OwnS w3 (w.heap.size+1+1+1) v' [⟨#[]⟩]:=OwnS.snoc (l:=[]) hown';obtain⟨a',c',hv'⟩:=hown3.form;have hb3:Below (w.heap.size+1+1+1) wr w3:=by
     refine Below.grown ((Below.refl _ _).alloc (by omega) _) hgrow (by simp;omega) ?_;intro q hq;exact(World.ownsRow.lt HOWN0.out q hq).1
    have hv2:v'=.slice a' 1 c':=hv';clear hv';rw[hv2]at hown3 ⊢;have hb2:Blk w3 (w.heap.size+1+1) (opR 66) ⟨a,0,c⟩:=by
     unfold Blk;rw[hb3.block _ (by omega)];exact HB2.out
    have c3:w3.cell? ⟨w.heap.size+1+1,14,none⟩=some (.slice a 0 c):=hb2.box 14 _ rfl;have f3:=hb2.frozen 14;have HE1:Hid ((w3.setCell ⟨w.heap.size+1+1,14,none⟩ (.slice a' 1 c')).heap[w.heap.size+1]?=some (.cells (cellsOf (opR 0) (Sl.v ⟨none,0,0⟩)) 24 (0,0))):=by
     show _=_
     rw[heap_setCell_other _ _ _ _ (by show w.heap.size+1≠w.heap.size+1+1;omega),hb3.block _ (by omega)];exact HB1.out
    have HE2:Hid ((w3.setCell ⟨w.heap.size+1+1,14,none⟩ (.slice a' 1 c')).heap[w.heap.size+1+1]?=some (.cells (cellsOf (opR 66) (Sl.v ⟨a',1,c'⟩)) 24 (0,0))):=heap_setCell_same w3 (w.heap.size+1+1) 14 _ 24 _ hb2;have HE:Hid (Shaped w (.returned (.agg (cellsOf (opR 66) (Sl.v ⟨a',1,c'⟩)))) ((w3.setCell ⟨w.heap.size+1+1,14,none⟩ (.slice a' 1 c')).setRow (w.heap.size+1) (cellsOf (opR 66) (Sl.v ⟨a',1,c'⟩)))/\Below w.heap.size w ((w3.setCell ⟨w.heap.size+1+1,14,none⟩ (.slice a' 1 c')).setRow (w.heap.size+1) (cellsOf (opR 66) (Sl.v ⟨a',1,c'⟩)))):=
     batch_end (l:=[⟨#[]⟩]) (by omega) rfl (by omega) (by omega) (by intro s hs;simp at hs;subst hs;decide) (ownsRow_setCell_below hown3 (by show w.heap.size+1+1<_;omega) _) ((HBW.out.trans (hb3.mono (by omega))).setCell (by show _<=w.heap.size+1+1;omega) _)
    clear hown' hgrow hown3 hb3 hb2 hv2;go_wp2_with (first|(refine wpList_load_row rfl 24 _ rfl (w.heap.size+1+1) rfl 24 _ (0,0) _ HE2.out Tryz.underlying24 rfl hinf ?_)|(refine wpList_store_row rfl 24 _ _ rfl (w.heap.size+1) _ rfl rfl 24 _ HE1.out hinf rfl (cells_one _ _) ?_));refine bodyPost_ret (results_cell_row (p:=2) rfl _ _ (w.heap.size+1) 24 _ (0,0) _ rfl (setRow_heap _ _ _ _ 24 (0,0) HE1.out) Tryz.underlying24 rfl hinf) rfl HE.out
   ·by_cases hend:k<bs.length
    ·have hk0:k=10:=by omega
     have hkb:(((k:Nat):Int) == 0)=false:=beq_eq_false_iff_ne.2 (by omega);have hn10:¬(k<10):=by omega
     have HE1:Hid (wr.heap[w.heap.size+1]?=some (.cells (cellsOf (opR 0) (Sl.v ⟨none,0,0⟩)) 24 (0,0))):=HB1.out;have HE2:Hid (wr.heap[w.heap.size+1+1]?=some (.cells (cellsOf (opR 66) (Sl.v ⟨a,k,c⟩)) 24 (0,0))):=HB2.out;have HE:Hid (Shaped w (.returned (.agg (cellsOf (opR 66) (Sl.v ⟨a,k,c⟩)))) (wr.setRow (w.heap.size+1) (cellsOf (opR 66) (Sl.v ⟨a,k,c⟩)))/\Below w.heap.size w (wr.setRow (w.heap.size+1) (cellsOf (opR 66) (Sl.v ⟨a,k,c⟩)))):=
      batch_end (by omega) HLK.out.symm (by omega) hk10 (sh_all _) HOWN.out HBW.out
     clear hbw hk0 hz hbeg hgo;go_wp2_with (first|(refine wpList_load_row rfl 24 _ rfl (w.heap.size+1+1) rfl 24 _ (0,0) _ HE2.out Tryz.underlying24 rfl hinf ?_)|(refine wpList_store_row rfl 24 _ _ rfl (w.heap.size+1) _ rfl rfl 24 _ HE1.out hinf rfl (cells_one _ _) ?_));refine bodyPost_ret (results_cell_row (p:=2) rfl _ _ (w.heap.size+1) 24 _ (0,0) _ rfl (setRow_heap _ _ _ _ 24 (0,0) HE1.out) Tryz.underlying24 rfl hinf) rfl HE.out
    ·have hkb:(((k:Nat):Int) == 0)=false:=beq_eq_false_iff_ne.2 (by omega);have HE1:Hid (wr.heap[w.heap.size+1]?=some (.cells (cellsOf (opR 0) (Sl.v ⟨none,0,0⟩)) 24 (0,0))):=HB1.out;have HE2:Hid (wr.heap[w.heap.size+1+1]?=some (.cells (cellsOf (opR 66) (Sl.v ⟨a,k,c⟩)) 24 (0,0))):=HB2.out;have HE:Hid (Shaped w (.returned (.agg (cellsOf (opR 66) (Sl.v ⟨a,k,c⟩)))) (wr.setRow (w.heap.size+1) (cellsOf (opR 66) (Sl.v ⟨a,k,c⟩)))/\Below w.heap.size w (wr.setRow (w.heap.size+1) (cellsOf (opR 66) (Sl.v ⟨a,k,c⟩)))):=
      batch_end (by omega) HLK.out.symm (by omega) hk10 (sh_all _) HOWN.out HBW.out
     clear hbw hz hbeg hgo;go_wp2_with (first|(refine wpList_load_row rfl 24 _ rfl (w.heap.size+1+1) rfl 24 _ (0,0) _ HE2.out Tryz.underlying24 rfl hinf ?_)|(refine wpList_store_row rfl 24 _ _ rfl (w.heap.size+1) _ rfl rfl 24 _ HE1.out hinf rfl (cells_one _ _) ?_));refine bodyPost_ret (results_cell_row (p:=2) rfl _ _ (w.heap.size+1) 24 _ (0,0) _ rfl (setRow_heap _ _ _ _ 24 (0,0) HE1.out) Tryz.underlying24 rfl hinf) rfl HE.out
end Go.Proofs.YtbdobaapadlcjabGreatDoor.Keep
