import Derived.Test.YtbdobaapadlcjabGreatDoorSx33
set_option maxRecDepth 10000
set_option maxHeartbeats 2000000
set_option linter.unusedVariables false
set_option linter.unusedSimpArgs false
namespace Go.Proofs.YtbdobaapadlcjabGreatDoor.Dk
variable {x y:ByteArray}{l:List ByteArray}
theorem less_before:∀(a b:List UInt8),Op.bytesLess a b=bytesBefore a b
 | [],[]=>rfl
 | _::_,[]=>rfl
 | [],_::_=>rfl
 | a::x,b::y=>by rw[Op.bytesLess,bytesBefore,less_before x y]
def lt (x y:ByteArray):Bool:=Op.bytesLess x.toList y.toList
theorem lt_irrefl (x:ByteArray):lt x x=false:=by unfold lt;rw[less_before];exact WideAt.bytes_irrefl _
theorem lt_trans {z:ByteArray}(h1:lt x y=true)(h2:lt y z=true):lt x z=true:=by
 unfold lt at*
 rw[less_before] at*
 exact WideShapes.bytes_trans _ _ _ h1 h2
theorem lt_asymm (h1:lt x y=true):lt y x=false:=by
 cases h:lt y x with
 | false=>rfl
 | true=>have:=lt_trans h1 h;rw[lt_irrefl]at this;cases this
theorem lt_le {a b:ByteArray}(h1:lt x a=true)(h2:lt b a=false):lt x b=true:=by
 by_cases h:a.toList=b.toList
 ·unfold lt at *;rw[<-h];exact h1
 ·rcases WideAt.bytes_total _ _ h with h3|h3
  ·exact lt_trans h1 (by unfold lt;rw[less_before];exact h3)
  ·have h4:lt b a=true:=by unfold lt;rw[less_before];exact h3
   rw[h4]at h2;cases h2
def insN (x:ByteArray)(l:List ByteArray):List ByteArray:=l.takeWhile (fun e=>!lt x e)++x::l.dropWhile (fun e=>!lt x e)
def Srt (l:List ByteArray):Prop:=l.Pairwise (fun a b=>lt b a=false)
theorem insN_len (x:ByteArray)(l:List ByteArray):(insN x l).length=l.length+1:=by
 unfold insN;rw[List.length_append,List.length_cons];have h:=congrArg List.length (List.takeWhile_append_dropWhile (p:=fun e=>!lt x e) (l:=l));rw[List.length_append]at h;omega
theorem insN_none (h:∀e∈l,lt x e=false):insN x l=l++[x]:=by
 induction l with
 | nil=>rfl
 | cons a l ih=>
  have h1:=h a (by simp);have h2:=ih (fun e he=>h e (by simp[he]));unfold insN at h2 ⊢;simp only[List.takeWhile_cons,List.dropWhile_cons,h1,Bool.not_false,if_true,List.cons_append];rw[h2]
theorem insN_split {a b:List ByteArray}(ha:∀e∈a,lt x e=false)(hb:b=[]\/∃e r,b=e::r/\lt x e=true):insN x (a++b)=a++x::b:=by
 rcases hb with rfl|⟨e,r,rfl,he⟩
 ·rw[List.append_nil];exact insN_none ha
 ·unfold insN;have h0:∀c∈a,(!lt x c)=true:=fun c hc=>by rw[ha c hc];rfl
  rw[List.takeWhile_append_of_pos h0,List.dropWhile_append_of_pos h0];simp[he]
theorem insN_at (hs:Srt l)(k:Nat)(hk:k<=l.length)(hd:∀e∈l.drop k,lt x e=true)(ht:∀(h:0<k),lt x (l[k-1]'(by omega))=false):insN x l=l.take k++x::l.drop k:=by
 have h:=insN_split (x:=x) (a:=l.take k) (b:=l.drop k) ?_ ?_
 ·rw[List.take_append_drop]at h;exact h
 ·intro e he;obtain⟨j,hj,rfl⟩:=List.getElem_of_mem he;rw[List.length_take]at hj;rw[List.getElem_take]
  cases hx:lt x (l[j]'(by omega)) with
  | false=>rfl
  | true=>
   have h1:=ht (by omega)
   by_cases e:j=k-1
   ·subst e;rw[hx]at h1;exact h1
   ·have h2:=List.pairwise_iff_getElem.1 hs j (k-1) (by omega) (by omega) (by omega);rw[lt_le hx h2]at h1
    cases h1
 ·cases hb:l.drop k with
  | nil=>exact .inl rfl
  | cons e r=>exact .inr ⟨e,r,rfl,hd e (by rw[hb];simp)⟩
theorem insN_srt (x:ByteArray)(l:List ByteArray)(h:Srt l):Srt (insN x l):=by
 unfold insN Srt at*
 have h1:l.takeWhile (fun e=>!lt x e)++l.dropWhile (fun e=>!lt x e)=l:=List.takeWhile_append_dropWhile;rw[<-h1,List.pairwise_append]at h;obtain⟨ha,hb,hc⟩:=h;have ht:∀e∈l.takeWhile (fun e=>!lt x e),lt x e=false:=fun e he=>by
  have:=List.all_eq_true.1 (List.all_takeWhile (p:=fun e=>!lt x e) (l:=l)) e he;simpa using this
 have hd:∀e∈l.dropWhile (fun e=>!lt x e),lt x e=true:=fun e he=>by
  cases hr:l.dropWhile (fun e=>!lt x e) with
  | nil=>rw[hr]at he;cases he
  | cons f r=>
   have hf:lt x f=true:=by
    have:=List.head?_dropWhile_not (p:=fun e=>!lt x e) (l:=l);rw[hr]at this;simpa using this
   rw[hr]at he hb;rcases List.mem_cons.1 he with rfl|he
   ·exact hf
   ·exact lt_le hf ((List.pairwise_cons.1 hb).1 e he)
 rw[List.pairwise_append];refine⟨ha,?_,?_⟩
 ·rw[List.pairwise_cons];exact⟨fun e he=>lt_asymm (hd e he),hb⟩
 ·intro a haa b hbb;rcases List.mem_cons.1 hbb with rfl|hbb
  ·exact ht a haa
  ·exact hc a haa b hbb
def nmS (fs:List DF):List ByteArray:=fs.foldl (fun l f=>insN f.name l) []
theorem nmS_snoc (fs:List DF)(f:DF):nmS (fs++[f])=insN f.name (nmS fs):=by unfold nmS;rw[List.foldl_append];rfl
theorem fold_srt (fs:List DF)(l:List ByteArray)(h:Srt l):Srt (fs.foldl (fun l f=>insN f.name l) l):=by
 induction fs generalizing l with
 | nil=>exact h
 | cons f fs ih=>exact ih _ (insN_srt _ _ h)
theorem nmS_srt (fs:List DF):Srt (nmS fs):=fold_srt fs [] List.Pairwise.nil
theorem fold_len (fs:List DF)(l:List ByteArray):(fs.foldl (fun l f=>insN f.name l) l).length=l.length+fs.length:=by
 induction fs generalizing l with
 | nil=>rfl
 | cons f fs ih=>rw[List.foldl_cons,ih,insN_len,List.length_cons];omega
theorem nmS_len (fs:List DF):(nmS fs).length=fs.length:=by unfold nmS;rw[fold_len];simp
end Go.Proofs.YtbdobaapadlcjabGreatDoor.Dk
namespace Go.Proofs.YtbdobaapadlcjabGreatDoor.Dk
open Go.RowKit
variable {w:World}{v:Value}{l:List ByteArray}
theorem info9:(Tryz.prog.info? 9).map (fun i=>(i.zero,i.size,i.bytes))=some (some (Value.string ⟨#[]⟩),1,16):=by kernel_rfl
def OwnS (w:World)(v:Value)(l:List ByteArray):Prop:=w.ownsRow 0 9 1 v l.length (l.map Value.string)
theorem OwnS.nil (w:World):OwnS w (.slice none 0 0) []:=World.ownsRow_nil w 0 9 1
theorem OwnS.tch {w':World}(h:OwnS w v l){S:List Nat}(ht:Tch S w w')(hS:∀b,v.ownBlock=some b->b∉S):OwnS w' v l:=by
 refine⟨h.1,?_⟩;rcases h.2 with h0|⟨g,cap,cur,rfl,hb,hg,h1,h2,h3,h4⟩
 ·exact .inl h0
 ·exact .inr ⟨g,cap,cur,rfl,hb,(ht.block g (Array.getElem?_eq_some_iff.1 hg).1 (hS g rfl)).trans hg,h1,h2,h3,h4⟩
theorem OwnS.at (h:OwnS w v l):∃a cap,v=.slice a l.length cap/\∀j (hj:j<l.length),∃g,a=some ⟨g,0,none⟩/\w.cell? ⟨g,j,none⟩=some (.string l[j])/\w.frozen? ⟨g,j,none⟩=false:=by
 rcases h.2 with ⟨rfl,hn⟩|⟨g,cap,cur,rfl,_,hg,_⟩
 ·obtain rfl:=List.eq_nil_of_length_eq_zero hn;exact⟨none,0,rfl,fun j hj=>by cases hj⟩
 ·refine⟨_,_,rfl,fun j hj=>⟨g,rfl,?_,World.ownsRow.frozenAt h j⟩⟩
  rw[World.ownsRow.cellAt h j (by omega)];simp[hj]
theorem OwnS.slc (h:OwnS w v l)(hn:0<l.length):∃g cap,v=.slice (some ⟨g,0,none⟩) l.length cap:=by
 rcases h.2 with ⟨_,h0⟩|⟨g,cap,cur,hv,_⟩
 ·omega
 ·exact⟨g,cap,hv⟩
theorem OwnS.set {g cap:Nat}(h:OwnS w (.slice (some ⟨g,0,none⟩) l.length cap) l)(j:Nat)(s:ByteArray):OwnS (w.setCell ⟨g,j,none⟩ (.string s)) (.slice (some ⟨g,0,none⟩) l.length cap) (l.set j s):=by
 have h2:=(World.ownsRow.stored h j (.string s)).1;unfold OwnS;rw[List.length_set,List.map_set];exact h2
theorem OwnS.drewN (h:OwnS w v l)(n:Nat):OwnS (w.drewN n) v l:=h
theorem wpList_strs (w:World){ops:Array Oper}{rest:List Oper}{o:Oper}{a:Act}{Q:Exit->Act->World->Prop}(hgd:o.guard=none)(s x:Operand)
  (ho:o.op=.call {callee:=.builtin .append,args:=#[s,x],argTypes:=#[22,22]})
  (v:Value)(l:List ByteArray)(hs:a.eval s=v)(hown:OwnS w v l)(g:Nat)(news:List ByteArray)(m:Nat)(hx:a.eval x=.slice (some ⟨g,0,none⟩) m m)(hm:news.length=m)(hm0:0<m)(hg:w.heap[g]?=some (.cells (news.map Value.string).toArray 9 (0,0)))(hn:l.length+m<=4000000000000)
  (h:∀v' w',OwnS w' v' (l++news)->w.grownBy w' v.ownBlock->(v'.ownBlock=v.ownBlock\/v'.ownBlock=some w.heap.size)->wpList Tryz.prog ops Q rest (a.put o.dst v') w'):wpList Tryz.prog ops Q (o::rest) a w:=by
 obtain⟨i0,hi,hz0,hz1,hz2⟩:=info_parts info9;refine wpList_app w hgd s x 22 ho 0 9 i0 _ 1 16 Tryz.underlying22 hi hz0 hz1 hz2 rfl (by decide) v l.length (l.map Value.string) hs hown ⟨g,0,none⟩ m m (news.map Value.string) hx (by simp[hm]) ?_ ?_ ?_ ?_ (Nat.zero_le _) hm0 ?_
 ·intro j u hj;have e:(⟨g,0,none⟩:Addr).add j=⟨g,j,none⟩:=by unfold Addr.add;split<;>simp_all
  rw[e,cell_of_row w g j _ 9 (0,0) hg,<-hj];simp
 ·intro u hu;obtain⟨b,_,rfl⟩:=List.mem_map.1 hu;rfl
 ·unfold maxLen;omega
 ·omega
 ·intro v' w' h1 h2 h3;refine h v' w' ?_ h2 h3
  show w'.ownsRow 0 9 1 v' (l++news).length ((l++news).map Value.string)
  rw[List.length_append,List.map_append,hm];exact h1
theorem bub (l:List ByteArray)(x:ByteArray)(j:Nat)(h0:0<j)(hj:j<=l.length):((l.take j++x::l.drop j).set j (l[j-1]'(by omega))).set (j-1) x=l.take (j-1)++x::l.drop (j-1):=by
 obtain⟨i,rfl⟩:∃i,j=i+1:=⟨j-1,by omega⟩;have h1:l.take (i+1)=l.take i++[l[i]]:=List.take_succ_eq_append_getElem (by omega);have h2:l.drop i=l[i]::l.drop (i+1):=(List.getElem_cons_drop ..).symm;have hl:(l.take i).length=i:=by rw[List.length_take];omega
 simp only[Nat.add_sub_cancel];rw[h1,h2,List.append_assoc,List.set_append_right _ _ (by omega),hl,show i+1-i=1 by omega]
 show (l.take i++l[i]::l[i]::l.drop (i+1)).set i x=_
 rw[List.set_append_right _ _ (by omega),hl,Nat.sub_self];rfl
theorem names_d (p:Nat)(v:Value)(left:Int)(st:Bool)(fs:List DF)(w:World)(h:DBlk w p 77 v left st)(ho:Own w 79 v fs)(hn:fs.length<8388608):
  Calls Tryz.prog 36 #[.pointer (some ⟨p,0,none⟩)] w fun e w'=>∃a1 cap1,e=.returned (.slice a1 fs.length cap1)/\OwnS w' (.slice a1 fs.length cap1) (nmS fs)/\(∀b,(Value.slice a1 fs.length cap1).ownBlock=some b->w.heap.size<=b)/\Tch [] w w':=by
 have h0:=h.c0;obtain⟨a,cap,rfl,hc⟩:=ho.at
 have HC:Hid (∀j (hj:j<fs.length),∃g,a=some ⟨g,0,none⟩/\w.cell? ⟨g,j*3,none⟩=some (.string fs[j].name)/\w.cell? ⟨g,j*3+1,none⟩=some (.string fs[j].data)/\w.cell? ⟨g,j*3+2,none⟩=some (.int .i64 (fs[j].safe:Nat))):=hc;clear hc h ho;go_enter Tryz.func36,Tryz.ntmps36;go_wp2_with fail
 go_loopw [3,13] (fun ov i wr=>∃(k:Nat) (v1:Value),k<=fs.length/\ov=v1/\i=.int .i64 k/\OwnS wr v1 (nmS (fs.take k))/\(∀b,v1.ownBlock=some b->w.heap.size<=b)/\Tch [] w wr) (fun _ i _=>fs.length-(intOf i).toNat)
 case atStart=>exact⟨0,_,Nat.zero_le _,rfl,rfl,OwnS.nil _,fun b hb=>by simp[Value.ownBlock]at hb,Tch.refl _ _⟩
 case round=>
  obtain⟨k,v1,hk,rfl,rfl,hown,hnew,htch⟩:=hrel;have HOW:Hid (OwnS wr u3 (nmS (fs.take k))/\(∀b,u3.ownBlock=some b->w.heap.size<=b)/\Tch [] w wr):=⟨hown,hnew,htch⟩
  by_cases hkn:k<fs.length
  ·obtain⟨g,rfl,c1,c2,c3⟩:=HC.out k hkn;have d1:=(htch.cell (World.block_lt_of_cell? _ _ c1) (by simp)).trans c1;have d2:=(htch.cell (World.block_lt_of_cell? _ _ c2) (by simp)).trans c2;have d3:=(htch.cell (World.block_lt_of_cell? _ _ c3) (by simp)).trans c3;have HTK:Hid (nmS (fs.take (k+1))=insN fs[k].name (nmS (fs.take k))):=by
    show _=_
    rw[List.take_succ_eq_append_getElem hkn,nmS_snoc]
   have hln:(nmS (fs.take k)).length=k:=by rw[nmS_len,List.length_take];omega
   have HSR:Hid (Srt (nmS (fs.take k))):=nmS_srt _;clear c1 c2 c3 hown hnew htch;generalize fs[k]=f at d1 d2 d3 HTK;generalize nmS (fs.take k)=R at HOW HTK hln HSR;have hkl:((k:Int)<(fs.length:Int)):=by omega
   go_wp2_with (at_builtin;refine wpList_strs _ rfl _ _ rfl u3 R rfl (HOW.out.1.tch (((Tch.refl [] _).alloc _).alloc _) (fun _ _=>by simp)) (wr.heap.size+1) [f.name] 1 rfl rfl (by decide) (heap_alloc2_new _ _ _) (by omega) ?_);intro v' w3 ho3 hg3 hb3;obtain⟨g3,cap3,hv3⟩:=ho3.slc (by simp);have HFN:Hid (OwnS w3 v' (R++[f.name])/\(∀b,v'.ownBlock=some b->w.heap.size<=b)/\Tch [] w w3):=by
    refine⟨ho3,fun b hb=>?_,?_⟩
    ·rcases hb3 with h|h
     ·exact HOW.out.2.1 b (h.symm.trans hb)
     ·rw[hb]at h;injection h with h;have:=HOW.out.2.2.size;omega
    ·exact((HOW.out.2.2.alloc _).alloc _).grown hg3 (fun b hb hlt=>by have:=HOW.out.2.1 b hb;omega)
   have hl3:(R++[f.name]).length=k+1:=by simp[hln]
   rw[hl3]at hv3;clear ho3 hg3 hb3;subst hv3;have hw1:wrap64 ((k:Int)+1-1)=(k:Int):=by simp[wrap64];omega
   go_wp2_with fail;have HN3:Hid (∀b,(Value.slice (some ⟨g3,0,none⟩) (k+1) cap3).ownBlock=some b->w.heap.size<=b):=HFN.out.2.1;have HGW:Hid (w.heap.size<=g3):=HFN.out.2.1 g3 rfl
   go_loopw [6] (fun kv wq=>∃j:Nat,j<=k/\kv=.int .i64 j/\OwnS wq (.slice (some ⟨g3,0,none⟩) (k+1) cap3) (R.take j++f.name::R.drop j)/\(∀e∈R.drop j,lt f.name e=true)/\Tch [] w wq) (fun kv _=>(intOf kv).toNat)
   case atStart=>
    refine⟨k,Nat.le_refl _,rfl,?_,?_,HFN.out.2.2⟩
    ·rw[<-hln,List.take_length,List.drop_length,hln];exact HFN.out.1
    ·rw[<-hln,List.drop_length];intro e he;cases he
   case round=>
    obtain⟨j,hj,rfl,hoq,hgt,htq⟩:=hrel;have hlq:(R.take j++f.name::R.drop j).length=k+1:=by rw[List.length_append,List.length_cons,List.length_take,List.length_drop];omega
    by_cases hj0:0<j
    ·have hx:(R.take j++f.name::R.drop j)[j]?=some f.name:=by
      rw[List.getElem?_append_right (by rw[List.length_take];omega),List.length_take,show j-min j R.length=0 by omega];rfl
     have hy:(R.take j++f.name::R.drop j)[j-1]?=some (R[j-1]'(by omega)):=by
      rw[List.getElem?_append_left (by rw[List.length_take];omega),List.getElem?_take,if_pos (by omega),List.getElem?_eq_getElem (by omega)]
     have hb:=bub R f.name j hj0 (by omega);have hD:R.drop (j-1)=(R[j-1]'(by omega))::R.drop j:=by
      have h2:R.drop (j-1)=(R[j-1]'(by omega))::R.drop (j-1+1):=(List.getElem_cons_drop ..).symm;rw[show j-1+1=j by omega]at h2
      exact h2
     have ha:lt f.name (R[j-1]'(by omega))=false->insN f.name R=R.take j++f.name::R.drop j:=fun h=>insN_at HSR.out j (by omega) hgt (fun _=>h)
     generalize (R[j-1]'(by omega))=y at hy hb hD ha;obtain⟨aq,cq,eq,hcq⟩:=hoq.at
     rw[hlq]at eq;injection eq with eq1 eq2 eq3;subst eq1 eq3;obtain⟨gq,hgq,cx,zx⟩:=hcq j (by omega);injection hgq with hgq;injection hgq with hgq;subst hgq;obtain⟨gq,hgq,cy,zy⟩:=hcq (j-1) (by omega);injection hgq with hgq;injection hgq with hgq;subst hgq;rw[(List.getElem?_eq_some_iff.1 hx).2]at cx;rw[(List.getElem?_eq_some_iff.1 hy).2]at cy;have HQ:Hid (OwnS wr (.slice (some ⟨g3,0,none⟩) (k+1) cap3) (R.take j++f.name::R.drop j)/\(∀e∈R.drop j,lt f.name e=true)/\Tch [] w wr/\((R.take j++f.name::R.drop j).set j y).set (j-1) f.name=R.take (j-1)++f.name::R.drop (j-1)/\R.drop (j-1)=y::R.drop j):=⟨hoq,hgt,htq,hb,hD⟩;have HA:Hid (lt f.name y=false->insN f.name R=R.take j++f.name::R.drop j):=ha;have HLT:Hid (Op.bytesLess f.name.toList y.toList=lt f.name y):=rfl;clear hoq hgt htq hb hD ha hcq hx hy hlq eq2;have hwj:wrap64 ((j:Int)-1)=(j:Int)-1:=by simp[wrap64];omega
     have hji:((j-1:Nat):Int)=(j:Int)-1:=by omega
     have hjt:((j:Int)-1).toNat=j-1:=by omega
     have hjp:(0:Int)<(j:Int):=by omega
     have hj1:(0:Int)<=(j:Int)-1:=by omega
     have hj2:(j:Int)-1<(k:Int)+1:=by omega
     have hj3:(j:Int)<(k:Int)+1:=by omega
     cases hq:lt f.name y with
     | true=>
      have hq2:Op.bytesLess f.name.toList y.toList=true:=HLT.out.trans hq;go_wp2_with fail;go_quiet (fail);go_wp2_with fail;go_roundw
      case rel=>
       refine⟨j-1,by omega,by go_num,?_,?_,?_⟩
       ·have h1:=HQ.out.1.drewN nq;have hlq:(R.take j++f.name::R.drop j).length=k+1:=by rw[List.length_append,List.length_cons,List.length_take,List.length_drop];omega
        rw[<-hlq]at h1 ⊢;have h2:=h1.set j y;rw[<-List.length_set (i:=j) (a:=y)]at h2 ⊢;have h3:=h2.set (j-1) f.name;rw[HQ.out.2.2.2.1]at h3;exact h3
       ·intro e he;rw[HQ.out.2.2.2.2]at he;rcases List.mem_cons.1 he with rfl|he
        ·exact hq
        ·exact HQ.out.2.1 e he
       ·exact((HQ.out.2.2.1.drewN nq).setCell (fun h=>by have:=HGW.out;simp at h;omega) _).setCell (fun h=>by have:=HGW.out;simp at h;omega) _
      case measure=>simp[intOf];omega
     | false=>
      have hq2:Op.bytesLess f.name.toList y.toList=false:=HLT.out.trans hq;have HE:Hid (insN f.name R=R.take j++f.name::R.drop j):=HA.out hq;go_wp2_with fail;go_quiet (fail);go_wp2_with fail;go_roundw
      case rel=>exact⟨k+1,_,by omega,rfl,by go_num,by rw[HTK.out,HE.out];exact HQ.out.1.drewN nq,HN3.out,HQ.out.2.2.1.drewN nq⟩
      case measure=>simp[intOf];omega
    ·obtain rfl:j=0:=by omega
     have HE:Hid (insN f.name R=R.take 0++f.name::R.drop 0):=insN_at HSR.out 0 (Nat.zero_le _) hgt (fun h=>by omega);have HQ:Hid (OwnS wr (.slice (some ⟨g3,0,none⟩) (k+1) cap3) (R.take 0++f.name::R.drop 0)/\Tch [] w wr):=⟨hoq,htq⟩;clear hoq hgt htq;go_wp2_with fail;go_quiet (fail);go_wp2_with fail;go_roundw
     case rel=>exact⟨k+1,_,by omega,rfl,by go_num,by rw[HTK.out,HE.out];exact HQ.out.1.drewN nq,HN3.out,HQ.out.2.drewN nq⟩
     case measure=>simp[intOf];omega
  ·have hkl:¬((k:Int)<(fs.length:Int)):=by omega
   rw[List.take_of_length_le (by omega)]at HOW;obtain⟨a1,cap1,hv,_⟩:=HOW.out.1.at
   rw[nmS_len]at hv;clear hown hnew htch;subst hv;go_wp2_with fail;go_ret;exact⟨a1,cap1,rfl,HOW.out.1,HOW.out.2.1,HOW.out.2.2⟩
end Go.Proofs.YtbdobaapadlcjabGreatDoor.Dk
namespace Go.Proofs.YtbdobaapadlcjabGreatDoor
open Go.RowKit
variable {T:List TypeId}{B x st b:Nat}{w w':World}{now:Int}{col:Nat->Nat}
theorem FqT.chg {c:Nat->Nat}(h:FqT T B c w w'):∃S,Tch S w w'/\∀k∈S,k<w.heap.size/\w'.heap[k]?≠w.heap[k]?:=by
 classical
 refine⟨(List.range w.heap.size).filter (fun k=>decide (w'.heap[k]?≠w.heap[k]?)),⟨h.os,h.tape,h.output,h.size,fun k hk hn=>?_⟩,fun k hk=>?_⟩
 ·apply Classical.byContradiction;intro hc;exact hn (List.mem_filter.2 ⟨List.mem_range.2 hk,decide_eq_true hc⟩)
 ·obtain⟨h1,h2⟩:=List.mem_filter.1 hk;exact⟨List.mem_range.1 h1,of_decide_eq_true h2⟩
theorem Bk.oth {c:Nat->Option QM}{cl:Nat->Nat}(h:Bk B w x st b now c col)(hf:FqT TA B cl w w')(hd:∀q,B<=q->q<w.heap.size->col q≠9->cl q=9):Bk B w' x st b now c (rec9 w w' col):=by
 obtain⟨S,ht,hS⟩:=hf.chg;obtain⟨⟨Z,hs,hc⟩,hw,hn,⟨o,room,hJ,hR⟩,hfu⟩:=h;have hcl:∀k,B<=k->k<w.heap.size->col k≠9->k∉S:=fun k hB hk h9 hm=>(hS k hm).2 (hf.out k hk (hd k hB hk h9))
 have hty:∀(k:Nat) (C:Array Value) (t:TypeId),w.heap[k]?=some (.cells C t (0,0))->t∉TA->w'.heap[k]?=some (.cells C t (0,0)):=fun k C t hk ht=>hf.keep k C t hk ht
 have hsz:=hf.size;refine⟨⟨Z,⟨?_,?_,?_,?_,hs.lo,hs.ls,?_⟩,hc⟩,hw,hn,⟨o,room,?_,hR⟩,fun k hk=>?_⟩
 ·exact(ht.block st hs.stb.lt (hcl st hs.ls hs.stb.lt hs.cs)).trans hs.stb
 ·exact fun q f hq=>hty _ _ _ (hs.tb q f hq) (by decide)
 ·exact fun i x hi hx=>(hs.qr i x hi hx).tch ht (fun k hk=>hcl k (hs.lo i x hi hx k hk) ((hs.qr i x hi hx).lt k hk) (by rw[hs.cl i x hi hx k hk];omega))
 ·exact fun i x hi hx k hk=>(rec9_old ((hs.qr i x hi hx).lt k hk)).trans (hs.cl i x hi hx k hk)
 ·rw[rec9_old hs.stb.lt];exact hs.cs
 ·obtain⟨j,d,v,n,k,hJ⟩:=hJ;refine⟨j,d,v,n,k,hty _ _ _ hJ.hx (by decide),hJ.jr.tch ht (fun b hb=>hcl b (hJ.lo b hb) (hJ.lt b hb) (hJ.cj b hb)),hJ.lo,hJ.bd,fun b hb=>?_,(rec9_old (by have:=lt_of_block hJ.hx;omega)).trans hJ.dc⟩
  rw[rec9_old (hJ.lt b hb)];exact hJ.cj b hb
 ·show (if _ then _ else _)≠9
  rw[if_neg (by omega)];exact hfu k (by omega)
theorem Bk.fr {c:Nat->Option QM}(h:Bk B w x st b now c col){T:List TypeId}(hf:Fr B T w w')(h1:∀t∈TA,t∉T)(h2:60∉T)(h3:186∉T):Bk B w' x st b now c (rec9 w w' col):=by
 obtain⟨⟨Z,hs,hc⟩,hw,hn,⟨o,room,hJ,hR⟩,hfu⟩:=h;have hq:∀t∈TQ,t∉T:=fun t ht=>h1 t (ts_ta t (tq_ta ht))
 have hs2:=(hs.recol (col':=rec9 w w' col) (fun k hk=>rec9_old hk)).fr hf (h1 94 (by decide)) h3 hq;have hJ2:=(hJ.recol (col':=rec9 w w' col) (fun k hk e=>by rw[rec9_old hk]at e;exact e) (fun h=>rec9_old h)).fr hf h2 (h1 85 (by decide)) (h1 77 (by decide)) (h1 79 (by decide));have hsz:=hf.size;refine⟨⟨Z,hs2,hc⟩,hw,hn,⟨o,room,hJ2,hR⟩,fun k hk=>?_⟩
 show (if _ then _ else _)≠9
 rw[if_neg (by omega)];exact hfu k (by omega)
theorem Bk.mono {B':Nat}{c:Nat->Option QM}(h:Bk B w x st b now c col)(hB:B'<=B):Bk B' w x st b now c col:=by
 obtain⟨⟨Z,hs,hc⟩,hw,hn,⟨o,room,hJ,hR⟩,hfu⟩:=h;exact⟨⟨Z,⟨hs.stb,hs.tb,hs.qr,hs.cl,fun i x hi hx k hk=>Nat.le_trans hB (hs.lo i x hi hx k hk),Nat.le_trans hB hs.ls,hs.cs⟩,hc⟩,hw,hn,⟨o,room,(fun ⟨j,d,v,n,k,hJ⟩=>⟨j,d,v,n,k,hJ.hx,hJ.jr,fun b hb=>Nat.le_trans hB (hJ.lo b hb),hJ.bd,hJ.cj,hJ.dc⟩) hJ,hR⟩,hfu⟩
structure Rok (r:Wp.Rq):Prop where
 wf:Wf r
 right:rightW r nil0 (Wp.short [])=true
 small:(printS r nil0 []).size<=90000
theorem create_g (B:Nat)(r:Wp.Rq)(x st b i:Nat)(now:Int)(c:Nat->Option QM)(col:Nat->Nat)(w:World)(hE:Env B w)(hb:Bk B w x st b now c col)(hr:Rok r)(hop:r.op=67)(hi:i<8)(hq:r.q.toNat=97+i)(hno:c i=none):
  Calls Tryz.prog 21 #[.pointer (some ⟨x,0,none⟩),.agg (cellsOf r nil0.v)] w fun e w'=>e=.returned (.bool true)/\Did B x st b w col now (setC c i (some (newM r))) w':=by
 refine create_walk _ B r x w hr.right hE.lays hE.size (fun W hbW=>?_);obtain⟨hg,h1,_⟩:=print_good r nil0 [] hr.wf rfl hr.right;have tb:=Tch.of_below hbW;have e:doStr now c (printS r nil0 [])=(okL [],now,setC c i (some (newM r))):=by
  have hqi:qiR r=i:=by unfold qiR;omega
  unfold doStr;rw[if_pos hg,h1,if_neg (by rw[hop];decide)];unfold doQ;rw[hop,hqi,hno];rfl
 refine(do_any B (printS r nil0 []) x st b now c col W (hE.tch tb (by simp)) (hb.tch tb) (by have:=hr.small;unfold maxLen;omega)).mono ?_;rw[e];rintro e w' ⟨rfl,col',h2,h3,h4⟩;exact⟨rfl,col',h2,⟨fun k hk=>h3.1 k (Nat.lt_of_lt_of_le hk tb.size),h3.2⟩,(FqT.of_nil col tb hE.size).trans (Agr.refl _ _) h4⟩
theorem Opn.bk {j d:Nat}(h:Opn B w x st b j d (.slice none 0 0))(hd:B<=d)(col:Nat->Nat)(hcl:∀k,B<=k->col k≠9)(h0:col 0=d+10)(hB:B<=w.heap.size):Bk B w x st b 0 (fun _=>none) col:=by
 refine⟨⟨fun _=>none,⟨h.brk.hst,h.brk.tb,fun i x _ hx=>by simp at hx,fun i x _ hx=>by simp at hx,fun i x _ hx=>by simp at hx,h.lo.2.1,hcl st h.lo.2.1⟩,rfl⟩,fun i Q _ hQ=>by simp at hQ,⟨by omega,by omega⟩,⟨none,0,⟨j,d,.slice none 0 0,0,0,h.hx,h.jr,fun k hk=>?_,?_,fun k hk=>?_,h0⟩,.inl ⟨rfl,Int.le_refl _,rfl,rfl⟩⟩,fun k hk=>hcl k (Nat.le_trans hB hk)⟩
 ·simp[jbl,Dk.bl,Value.ownBlock]at hk;rcases hk with rfl|rfl
  ·exact h.lo.2.2.1
  ·exact hd
 ·show (0<0->((0:Nat):Int)+0<=217000)/\(0:Nat)<=310000/\_
  omega
 ·simp[jbl,Dk.bl,Value.ownBlock]at hk;rcases hk with rfl|rfl
  ·exact hcl _ h.lo.2.2.1
  ·exact hcl _ hd
theorem nm_one (o:Option ByteArray):Dk.nmS (fileO o)=(fileO o).map (·.name):=by cases o<;>rfl
theorem rd_one (o:Option ByteArray)(k:Nat)(hk:k<(fileO o).length):Dk.rd (fileO o)[k].name (fileO o)=datO o:=by
 cases o with
 | none=>exact absurd hk (by simp[fileO])
 | some a=>
  have hk0:k=0:=by simp[fileO]at hk;omega
  subst hk0;rw[Dk.rd_some (k:=0) hk (Dk.fnd_at _ _ 0 hk (by simp[Dk.isN]) (fun j hj=>absurd hj (by omega)))];rfl
theorem file_len (o:Option ByteArray):(fileO o).length<=1:=by cases o<;>simp[fileO]
theorem file_none (o:Option ByteArray)(h:(fileO o).length=0):(datO o).size=0:=by
 cases o with
 | none=>rfl
 | some a=>simp[fileO]at h
theorem size_any (d:Nat)(v:Value)(o:Option ByteArray)(w:World)(h:Dd0 w d v (fileO o))(hz:(datO o).size<=400000):
  zT 18 #[.pointer (some ⟨d,0,none⟩)] w (.int .i64 ((datO o).size:Int)):=by
 have hl:=file_len o;have HN:=zH (Dk.names_d d v (-1) false (fileO o) w h.blk h.own (by omega));have HD:Hid (∀W,Tch [] w W->Dd0 W d v (fileO o)):=fun W ht=>h.tch ht (by simp)
 have HR:Hid (∀W (k:Nat) (hk:k<(fileO o).length),Tch [] w W->zE 37 #[.pointer (some ⟨d,0,none⟩),.string (fileO o)[k].name] W (.string (datO o))):=fun W k hk ht=>by
  have h1:=Dk.read_d d v (-1) false (fileO o) (fileO o)[k].name W (HD.out W ht).blk (HD.out W ht).own (by omega);rw[rd_one o k hk]at h1;exact h1
 have HE:=zH (file_none o);have hnm:=nm_one o;clear h;generalize datO o=D at*
 go_enter Tryz.func18,Tryz.ntmps18;go_wp2_with fail;refine HN.out.mono ?_;rintro e w1 ⟨a1,cap1,rfl,hown,hnew,ht⟩;rw[hnm]at hown;obtain⟨a2,cap2,hv2,hat⟩:=hown.at
 injection hv2 with e1 e2 e3;subst e1 e3;have HAT:Hid (∀j (hj:j<(fileO o).length),∃g,a1=some ⟨g,0,none⟩/\w1.cell? ⟨g,j,none⟩=some (.string (fileO o)[j].name)):=fun j hj=>by
  obtain⟨g,h1,h2,_⟩:=hat j (by simpa using hj);exact⟨g,h1,by simpa using h2⟩
 have HT:=zH ht;clear hown hnew hat hnm e2 ht HN HD;generalize hfo:fileO o=F at*
 clear hfo;go_wp2_with fail
 go_loopw [3,5] (fun nv iv wr=>∃k:Nat,k<=F.length/\iv=.int .i64 (k:Int)/\nv=.int .i64 (if k=0 then 0 else (D.size:Int))/\wr=w1) (fun _ iv _=>F.length-(intOf iv).toNat)
 case atStart=>exact⟨0,Nat.zero_le _,rfl,rfl,rfl⟩
 case round=>
  obtain⟨k,hk,rfl,rfl,rfl⟩:=hrel
  by_cases hlt:k<F.length
  ·obtain⟨g,rfl,hc⟩:=HAT.out k hlt;have hk0:k=0:=by omega
   have HRR:=zH (HR.out wr k hlt HT.out);generalize F[k].name=nm at*
   subst hk0;rw[if_pos rfl];have hlI:((0:Nat):Int)<(F.length:Int):=by omega
   go_wp2_with fail;refine HRR.out.mono ?_;rintro e w2 ⟨rfl,rfl⟩;go_wp2_with fail;go_roundw
   case rel=>exact⟨1,by omega,by go_num,by simp,trivial⟩
   case measure=>simp[intOf];omega
  ·have hkI:¬((k:Int)<(F.length:Int)):=by omega
   have hv:(if k=0 then (0:Int) else (D.size:Int))=(D.size:Int):=by
    split
    ·have:=HE.out (by omega);omega
    ·rfl
   rw[hv];go_wp2_with fail;go_ret;exact⟨rfl,HT.out⟩
end Go.Proofs.YtbdobaapadlcjabGreatDoor
namespace Go.Proofs.YtbdobaapadlcjabGreatDoor.Keep
open Go.RowKit
theorem shaped_1 (r:Wp.Rq)(x:Sl)(w:World)(hm:r.op.toNat % 10=1)(hw:Wf r)(hz:Szs r):
  Calls Tryz.prog 20 #[.agg (cellsOf r x.v)] w fun e w'=>Shaped w e w'/\Below w.heap.size w w':=by
 have hmi:((r.op.toNat:Nat):Int) % 10=1:=by omega
 have hch:(ByteArray.mk #[67,88,80,83,82,65,69,84,86,66])[1].toNat=88:=rfl;have hinf:=info37;clear hw hz;unfold cellsOf Sl.v;go_enter Tryz.func20,Tryz.ntmps20;go_wp2_with fail;refine(letter_any r.q _).mono ?_;rintro e w' ⟨⟨d,rfl,hd1,hd2⟩,rfl⟩;go_wp2_with fail;have hrt:rightW (⟨88,d,0,0,0,0,0,0,0,⟨#[]⟩,⟨#[]⟩,⟨#[]⟩,⟨#[]⟩,⟨#[]⟩⟩:Wp.Rq) ⟨none,0,0⟩ (Wp.short [])=true:=by
  refine(right_iff _ _ _ (wf_small _ zz zz zz zz zz zz)).2 ⟨23,by decide,rfl,?_,rfl,rfl⟩
  show List.all [0] _=true
  simp only[List.all_cons,List.all_nil,Bool.and_true];exact fits_of _ _ _ 0 (by decide) (by decide) (by decide) (show (97:Int)<=(d.toNat:Int) by omega) (show (d.toNat:Int)<=104 by omega)
 refine bodyPost_ret (results_cell_row (p:=2) rfl _ _ (w.heap.size+1) 24 (cellsOf ⟨88,d,0,0,0,0,0,0,0,⟨#[]⟩,⟨#[]⟩,⟨#[]⟩,⟨#[]⟩,⟨#[]⟩⟩ (Sl.v ⟨none,0,0⟩)) (0,0) _ rfl ?_ Tryz.underlying24 rfl hinf) rfl ⟨shaped_end _ hrt (wf_small _ zz zz zz zz zz zz),?_⟩
 ·exact heap3 _ _ _ _
 ·exact below3 _ _ _ _
theorem shaped_2 (r:Wp.Rq)(x:Sl)(w:World)(hm:r.op.toNat % 10=2)(hw:Wf r)(hz:Szs r):
  Calls Tryz.prog 20 #[.agg (cellsOf r x.v)] w fun e w'=>Shaped w e w'/\Below w.heap.size w w':=by
 have hmi:((r.op.toNat:Nat):Int) % 10=2:=by omega
 have hch:(ByteArray.mk #[67,88,80,83,82,65,69,84,86,66])[2].toNat=80:=rfl;have hinf:=info37;clear hw hz;unfold cellsOf Sl.v;go_enter Tryz.func20,Tryz.ntmps20;go_wp2_with fail;refine(letter_any r.q _).mono ?_;rintro e w' ⟨⟨d,rfl,hd1,hd2⟩,rfl⟩;go_wp2_with fail;have hrt:rightW (⟨80,d,0,0,0,0,0,0,0,⟨#[]⟩,⟨#[]⟩,⟨#[]⟩,⟨#[]⟩,⟨#[]⟩⟩:Wp.Rq) ⟨none,0,0⟩ (Wp.short [])=true:=by
  refine(right_iff _ _ _ (wf_small _ zz zz zz zz zz zz)).2 ⟨15,by decide,rfl,?_,rfl,rfl⟩
  show List.all [0] _=true
  simp only[List.all_cons,List.all_nil,Bool.and_true];exact fits_of _ _ _ 0 (by decide) (by decide) (by decide) (show (97:Int)<=(d.toNat:Int) by omega) (show (d.toNat:Int)<=104 by omega)
 refine bodyPost_ret (results_cell_row (p:=2) rfl _ _ (w.heap.size+1) 24 (cellsOf ⟨80,d,0,0,0,0,0,0,0,⟨#[]⟩,⟨#[]⟩,⟨#[]⟩,⟨#[]⟩,⟨#[]⟩⟩ (Sl.v ⟨none,0,0⟩)) (0,0) _ rfl ?_ Tryz.underlying24 rfl hinf) rfl ⟨shaped_end _ hrt (wf_small _ zz zz zz zz zz zz),?_⟩
 ·exact heap3 _ _ _ _
 ·exact below3 _ _ _ _
theorem shaped_8 (r:Wp.Rq)(x:Sl)(w:World)(hm:r.op.toNat % 10=8)(hw:Wf r)(hz:Szs r):
  Calls Tryz.prog 20 #[.agg (cellsOf r x.v)] w fun e w'=>Shaped w e w'/\Below w.heap.size w w':=by
 have hmi:((r.op.toNat:Nat):Int) % 10=8:=by omega
 have hch:(ByteArray.mk #[67,88,80,83,82,65,69,84,86,66])[8].toNat=86:=rfl;have hinf:=info37;clear hw hz;unfold cellsOf Sl.v;go_enter Tryz.func20,Tryz.ntmps20;go_wp2_with fail;refine(letter_any r.q _).mono ?_;rintro e w' ⟨⟨d,rfl,hd1,hd2⟩,rfl⟩;go_wp2_with fail;have hrt:rightW (⟨86,d,0,0,0,0,0,0,0,⟨#[]⟩,⟨#[]⟩,⟨#[]⟩,⟨#[]⟩,⟨#[]⟩⟩:Wp.Rq) ⟨none,0,0⟩ (Wp.short [])=true:=by
  refine(right_iff _ _ _ (wf_small _ zz zz zz zz zz zz)).2 ⟨21,by decide,rfl,?_,rfl,rfl⟩
  show List.all [0] _=true
  simp only[List.all_cons,List.all_nil,Bool.and_true];exact fits_of _ _ _ 0 (by decide) (by decide) (by decide) (show (97:Int)<=(d.toNat:Int) by omega) (show (d.toNat:Int)<=104 by omega)
 refine bodyPost_ret (results_cell_row (p:=2) rfl _ _ (w.heap.size+1) 24 (cellsOf ⟨86,d,0,0,0,0,0,0,0,⟨#[]⟩,⟨#[]⟩,⟨#[]⟩,⟨#[]⟩,⟨#[]⟩⟩ (Sl.v ⟨none,0,0⟩)) (0,0) _ rfl ?_ Tryz.underlying24 rfl hinf) rfl ⟨shaped_end _ hrt (wf_small _ zz zz zz zz zz zz),?_⟩
 ·exact heap3 _ _ _ _
 ·exact below3 _ _ _ _
theorem shaped_5 (r:Wp.Rq)(x:Sl)(w:World)(hm:r.op.toNat % 10=5)(hw:Wf r)(hz:Szs r):
  Calls Tryz.prog 20 #[.agg (cellsOf r x.v)] w fun e w'=>Shaped w e w'/\Below w.heap.size w w':=by
 have hmi:((r.op.toNat:Nat):Int) % 10=5:=by omega
 have hch:(ByteArray.mk #[67,88,80,83,82,65,69,84,86,66])[5].toNat=65:=rfl;have hsh:Hid (∀W,Calls Tryz.prog 41 #[.string r.han,.int .i64 255] W fun e w'=>e=.returned (.string (sh r.han 255))/\w'=W):=fun W=>short_any r.han 255 W hz.han (by decide)
 have hss:=sh_size r.han 255;generalize sh r.han 255=T at hsh hss;have hinf:=info37;clear hw hz;unfold cellsOf Sl.v;go_enter Tryz.func20,Tryz.ntmps20;go_wp2_with fail;refine(letter_any r.q _).mono ?_;rintro e w' ⟨⟨d,rfl,hd1,hd2⟩,rfl⟩;go_wp2_with fail;refine(hsh.out _).mono ?_;rintro e w' ⟨rfl,rfl⟩;go_wp2_with fail;have hrt:rightW (⟨65,0,0,0,0,0,0,0,0,⟨#[]⟩,⟨#[]⟩,⟨#[]⟩,⟨#[]⟩,T⟩:Wp.Rq) ⟨none,0,0⟩ (Wp.short [])=true:=by
  refine(right_iff _ _ _ (wf_small _ zz zz zz zz zz zz)).2 ⟨0,by decide,rfl,?_,rfl,rfl⟩
  show List.all [13] _=true
  simp only[List.all_cons,List.all_nil,Bool.and_true];exact fits_of _ _ _ 13 (by decide) (by decide) (by decide) (show (0:Int)<=(T.size:Int) by omega) (show (T.size:Int)<=255 by omega)
 refine bodyPost_ret (results_cell_row (p:=2) rfl _ _ (w.heap.size+1) 24 (cellsOf ⟨65,0,0,0,0,0,0,0,0,⟨#[]⟩,⟨#[]⟩,⟨#[]⟩,⟨#[]⟩,T⟩ (Sl.v ⟨none,0,0⟩)) (0,0) _ rfl ?_ Tryz.underlying24 rfl hinf) rfl ⟨shaped_end _ hrt (wf_small _ zz zz zz zz zz zz),?_⟩
 ·exact heap3 _ _ _ _
 ·exact below3 _ _ _ _
end Go.Proofs.YtbdobaapadlcjabGreatDoor.Keep
namespace Go.Proofs.YtbdobaapadlcjabGreatDoor
open Go.RowKit
def pk (c n:Int):Int:=(if c<0 then -(c+1) else c) % n
theorem pk_nonneg (c n:Int)(hn:0<n):0<=pk c n:=Int.emod_nonneg _ (by omega)
theorem pk_lt (c n:Int)(hn:0<n):pk c n<n:=Int.emod_lt_of_pos _ hn
theorem pk_neg (c n:Int)(hc:c<0):-((c+1).tmod n)=pk c n:=by
 rw[pk,if_pos hc,<-Int.neg_tmod,Int.tmod_eq_emod_of_nonneg (by omega)]
theorem pk_pos (c n:Int)(hc:¬c<0):c % n=pk c n:=by rw[pk,if_neg hc]
theorem pick_any (c n:Int)(w:World)(h1:-9223372036854775808<=c)(h2:c<=9223372036854775807)(hn:0<n)(hm:n<=9223372036854775807):
  zE 9 #[.int .i64 c,.int .i64 n] w (.int .i64 (pk c n)):=by
 have hz:¬n=0:=by omega
 by_cases hc:c<0
 ·go_enter Tryz.func9,Tryz.ntmps9
  go_wp2
  go_ret;exact⟨ret_num (pk_neg c n hc),rfl⟩
 ·go_enter Tryz.func9,Tryz.ntmps9
  go_wp2
  go_ret;exact⟨ret_num (pk_pos c n (by omega)),rfl⟩
end Go.Proofs.YtbdobaapadlcjabGreatDoor
namespace Go.Proofs.YtbdobaapadlcjabGreatDoor.Keep
open Go.RowKit
theorem shaped_7 (r:Wp.Rq)(x:Sl)(w:World)(hm:r.op.toNat % 10=7)(hw:Wf r)(hz:Szs r):
  Calls Tryz.prog 20 #[.agg (cellsOf r x.v)] w fun e w'=>Shaped w e w'/\Below w.heap.size w w':=by
 have hmi:((r.op.toNat:Nat):Int) % 10=7:=by omega
 have hch:(ByteArray.mk #[67,88,80,83,82,65,69,84,86,66])[7].toNat=84:=rfl;have hpkP:Hid (∀W,Calls Tryz.prog 9 #[.int .i64 r.tic,.int .i64 1000] W fun e w'=>e=.returned (.int .i64 (pk r.tic 1000))/\w'=W):=fun W=>pick_any r.tic 1000 W hw.tic.1 hw.tic.2 (by decide) (by decide)
 have hp1P:=pk_nonneg r.tic 1000 (by decide);have hp2P:=pk_lt r.tic 1000 (by decide);generalize pk r.tic 1000=P at hpkP hp1P hp2P;have hinf:=info37;clear hw hz;unfold cellsOf Sl.v;go_enter Tryz.func20,Tryz.ntmps20;go_wp2_with fail;refine(letter_any r.q _).mono ?_;rintro e w' ⟨⟨d,rfl,hd1,hd2⟩,rfl⟩;go_wp2_with fail;refine(hpkP.out _).mono ?_;rintro e w' ⟨rfl,rfl⟩;go_wp2_with fail;have hrt:rightW (⟨84,0,0,0,0,0,0,0,(1+P),⟨#[]⟩,⟨#[]⟩,⟨#[]⟩,⟨#[]⟩,⟨#[]⟩⟩:Wp.Rq) ⟨none,0,0⟩ (Wp.short [])=true:=by
  refine(right_iff _ _ _ (wf_small _ zz zz zz zz zz ⟨by show (0:Int)<=1+P;omega,by show 1+P<=(1001:Int);omega⟩)).2 ⟨19,by decide,rfl,?_,rfl,rfl⟩
  show List.all [8] _=true
  simp only[List.all_cons,List.all_nil,Bool.and_true];exact fits_of _ _ _ 8 (by decide) (by decide) (by decide) (show (1:Int)<=1+P by omega) (show 1+P<=(1000:Int) by omega)
 refine bodyPost_ret (results_cell_row (p:=2) rfl _ _ (w.heap.size+1) 24 (cellsOf ⟨84,0,0,0,0,0,0,0,(1+P),⟨#[]⟩,⟨#[]⟩,⟨#[]⟩,⟨#[]⟩,⟨#[]⟩⟩ (Sl.v ⟨none,0,0⟩)) (0,0) _ rfl ?_ Tryz.underlying24 rfl hinf) rfl ⟨shaped_end _ hrt (wf_small _ zz zz zz zz zz ⟨by show (0:Int)<=1+P;omega,by show 1+P<=(1001:Int);omega⟩),?_⟩
 ·exact heap3 _ _ _ _
 ·exact below3 _ _ _ _
theorem shaped_6 (r:Wp.Rq)(x:Sl)(w:World)(hm:r.op.toNat % 10=6)(hw:Wf r)(hz:Szs r):
  Calls Tryz.prog 20 #[.agg (cellsOf r x.v)] w fun e w'=>Shaped w e w'/\Below w.heap.size w w':=by
 have hmi:((r.op.toNat:Nat):Int) % 10=6:=by omega
 have hch:(ByteArray.mk #[67,88,80,83,82,65,69,84,86,66])[6].toNat=69:=rfl;have hsh:Hid (∀W,Calls Tryz.prog 41 #[.string r.han,.int .i64 255] W fun e w'=>e=.returned (.string (sh r.han 255))/\w'=W):=fun W=>short_any r.han 255 W hz.han (by decide)
 have hss:=sh_size r.han 255;generalize sh r.han 255=T at hsh hss;have hpkP:Hid (∀W,Calls Tryz.prog 9 #[.int .i64 r.tic,.int .i64 1001] W fun e w'=>e=.returned (.int .i64 (pk r.tic 1001))/\w'=W):=fun W=>pick_any r.tic 1001 W hw.tic.1 hw.tic.2 (by decide) (by decide)
 have hp1P:=pk_nonneg r.tic 1001 (by decide);have hp2P:=pk_lt r.tic 1001 (by decide);generalize pk r.tic 1001=P at hpkP hp1P hp2P;have hinf:=info37;clear hw hz;unfold cellsOf Sl.v;go_enter Tryz.func20,Tryz.ntmps20;go_wp2_with fail;refine(letter_any r.q _).mono ?_;rintro e w' ⟨⟨d,rfl,hd1,hd2⟩,rfl⟩;go_wp2_with fail;refine(hsh.out _).mono ?_;rintro e w' ⟨rfl,rfl⟩;go_wp2_with fail;refine(hpkP.out _).mono ?_;rintro e w' ⟨rfl,rfl⟩;go_wp2_with fail;have hrt:rightW (⟨69,0,0,0,0,0,0,0,P,⟨#[]⟩,⟨#[]⟩,⟨#[]⟩,⟨#[]⟩,T⟩:Wp.Rq) ⟨none,0,0⟩ (Wp.short [])=true:=by
  refine(right_iff _ _ _ (wf_small _ zz zz zz zz zz ⟨by show (0:Int)<=P;omega,by show P<=(1001:Int);omega⟩)).2 ⟨4,by decide,rfl,?_,rfl,rfl⟩
  show List.all [13,7] _=true
  simp only[List.all_cons,List.all_nil,Bool.and_true,Bool.and_eq_true];exact⟨fits_of _ _ _ 13 (by decide) (by decide) (by decide) (show (0:Int)<=(T.size:Int) by omega) (show (T.size:Int)<=255 by omega),fits_of _ _ _ 7 (by decide) (by decide) (by decide) (show (0:Int)<=P by omega) (show P<=(1000:Int) by omega)⟩
 refine bodyPost_ret (results_cell_row (p:=2) rfl _ _ (w.heap.size+1) 24 (cellsOf ⟨69,0,0,0,0,0,0,0,P,⟨#[]⟩,⟨#[]⟩,⟨#[]⟩,⟨#[]⟩,T⟩ (Sl.v ⟨none,0,0⟩)) (0,0) _ rfl ?_ Tryz.underlying24 rfl hinf) rfl ⟨shaped_end _ hrt (wf_small _ zz zz zz zz zz ⟨by show (0:Int)<=P;omega,by show P<=(1001:Int);omega⟩),?_⟩
 ·exact heap3 _ _ _ _
 ·exact below3 _ _ _ _
theorem shaped_4 (r:Wp.Rq)(x:Sl)(w:World)(hm:r.op.toNat % 10=4)(hw:Wf r)(hz:Szs r):
  Calls Tryz.prog 20 #[.agg (cellsOf r x.v)] w fun e w'=>Shaped w e w'/\Below w.heap.size w w':=by
 have hmi:((r.op.toNat:Nat):Int) % 10=4:=by omega
 have hch:(ByteArray.mk #[67,88,80,83,82,65,69,84,86,66])[4].toNat=82:=rfl;have hsh:Hid (∀W,Calls Tryz.prog 41 #[.string r.att,.int .i64 8] W fun e w'=>e=.returned (.string (sh r.att 8))/\w'=W):=fun W=>short_any r.att 8 W hz.att (by decide)
 have hss:=sh_size r.att 8;generalize sh r.att 8=T at hsh hss;have hpkP:Hid (∀W,Calls Tryz.prog 9 #[.int .i64 r.mx,.int .i64 10] W fun e w'=>e=.returned (.int .i64 (pk r.mx 10))/\w'=W):=fun W=>pick_any r.mx 10 W hw.mx.1 hw.mx.2 (by decide) (by decide)
 have hp1P:=pk_nonneg r.mx 10 (by decide);have hp2P:=pk_lt r.mx 10 (by decide);generalize pk r.mx 10=P at hpkP hp1P hp2P;have hinf:=info37;clear hw hz;unfold cellsOf Sl.v;go_enter Tryz.func20,Tryz.ntmps20;go_wp2_with fail;refine(letter_any r.q _).mono ?_;rintro e w' ⟨⟨d,rfl,hd1,hd2⟩,rfl⟩;go_wp2_with fail;refine(hsh.out _).mono ?_;rintro e w' ⟨rfl,rfl⟩;go_wp2_with fail;refine(hpkP.out _).mono ?_;rintro e w' ⟨rfl,rfl⟩;go_wp2_with fail;have hrt:rightW (⟨82,d,0,0,0,0,0,(1+P),0,⟨#[]⟩,⟨#[]⟩,⟨#[]⟩,T,⟨#[]⟩⟩:Wp.Rq) ⟨none,0,0⟩ (Wp.short [])=true:=by
  refine(right_iff _ _ _ (wf_small _ zz zz zz zz ⟨by show (0:Int)<=1+P;omega,by show 1+P<=(1001:Int);omega⟩ zz)).2 ⟨17,by decide,rfl,?_,rfl,rfl⟩
  show List.all [0,12,6] _=true
  simp only[List.all_cons,List.all_nil,Bool.and_true,Bool.and_eq_true];exact⟨fits_of _ _ _ 0 (by decide) (by decide) (by decide) (show (97:Int)<=(d.toNat:Int) by omega) (show (d.toNat:Int)<=104 by omega),fits_of _ _ _ 12 (by decide) (by decide) (by decide) (show (0:Int)<=(T.size:Int) by omega) (show (T.size:Int)<=8 by omega),fits_of _ _ _ 6 (by decide) (by decide) (by decide) (show (1:Int)<=1+P by omega) (show 1+P<=(10:Int) by omega)⟩
 refine bodyPost_ret (results_cell_row (p:=2) rfl _ _ (w.heap.size+1) 24 (cellsOf ⟨82,d,0,0,0,0,0,(1+P),0,⟨#[]⟩,⟨#[]⟩,⟨#[]⟩,T,⟨#[]⟩⟩ (Sl.v ⟨none,0,0⟩)) (0,0) _ rfl ?_ Tryz.underlying24 rfl hinf) rfl ⟨shaped_end _ hrt (wf_small _ zz zz zz zz ⟨by show (0:Int)<=1+P;omega,by show 1+P<=(1001:Int);omega⟩ zz),?_⟩
 ·exact heap3 _ _ _ _
 ·exact below3 _ _ _ _
theorem shaped_3 (r:Wp.Rq)(x:Sl)(w:World)(hm:r.op.toNat % 10=3)(hw:Wf r)(hz:Szs r):
  Calls Tryz.prog 20 #[.agg (cellsOf r x.v)] w fun e w'=>Shaped w e w'/\Below w.heap.size w w':=by
 have hmi:((r.op.toNat:Nat):Int) % 10=3:=by omega
 have hch:(ByteArray.mk #[67,88,80,83,82,65,69,84,86,66])[3].toNat=83:=rfl;have hsh:Hid (∀W,Calls Tryz.prog 41 #[.string r.bod,.int .i64 255] W fun e w'=>e=.returned (.string (sh r.bod 255))/\w'=W):=fun W=>short_any r.bod 255 W hz.bod (by decide)
 have hss:=sh_size r.bod 255;generalize sh r.bod 255=T at hsh hss;have HZ:Hid (r.grp.size<=maxLen/\r.ded.size<=maxLen):=⟨hz.grp,hz.ded⟩;have hinf:=info37;clear hw hz;unfold cellsOf Sl.v;go_enter Tryz.func20,Tryz.ntmps20;go_wp2_with fail;refine(letter_any r.q _).mono ?_;rintro e w' ⟨⟨d,rfl,hd1,hd2⟩,rfl⟩;go_wp2_with fail;refine(named_any r.grp _ HZ.out.1).mono ?_;rintro e w' ⟨⟨G,rfl,hg1,hg2⟩,rfl⟩;go_wp2_with fail;refine(dedup_any r.ded _ HZ.out.2).mono ?_;rintro e w' ⟨⟨D,rfl,hD1,hD2⟩,rfl⟩;have HD2:Hid (Wp.dedOk D=true):=hD2;clear hD2;go_wp2_with fail;refine(hsh.out _).mono ?_;rintro e w' ⟨rfl,rfl⟩;go_wp2_with fail;have hrt:rightW (⟨83,d,0,0,0,0,0,0,0,G,D,T,⟨#[]⟩,⟨#[]⟩⟩:Wp.Rq) ⟨none,0,0⟩ (Wp.short [])=true:=by
  refine(right_iff _ _ _ (wf_small _ zz zz zz zz zz zz)).2 ⟨18,by decide,rfl,?_,rfl,rfl⟩
  show List.all [0,9,10,11] _=true
  simp only[List.all_cons,List.all_nil,Bool.and_true,Bool.and_eq_true];exact⟨fits_of _ _ _ 0 (by decide) (by decide) (by decide) (show (97:Int)<=(d.toNat:Int) by omega) (show (d.toNat:Int)<=104 by omega),fits_of _ _ _ 9 (by decide) (by decide) (by decide) (show (1:Int)<=(G.size:Int) by omega) (show (G.size:Int)<=8 by omega),fits_dedup _ _ _ hD1 HD2.out,fits_of _ _ _ 11 (by decide) (by decide) (by decide) (show (0:Int)<=(T.size:Int) by omega) (show (T.size:Int)<=255 by omega)⟩
 refine bodyPost_ret (results_cell_row (p:=2) rfl _ _ (w.heap.size+1) 24 (cellsOf ⟨83,d,0,0,0,0,0,0,0,G,D,T,⟨#[]⟩,⟨#[]⟩⟩ (Sl.v ⟨none,0,0⟩)) (0,0) _ rfl ?_ Tryz.underlying24 rfl hinf) rfl ⟨shaped_end _ hrt (wf_small _ zz zz zz zz zz zz),?_⟩
 ·exact heap3 _ _ _ _
 ·exact below3 _ _ _ _
end Go.Proofs.YtbdobaapadlcjabGreatDoor.Keep
