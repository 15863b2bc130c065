import Derived.Test.YtbdobaapadlcjabGreatDoorSx09
set_option maxHeartbeats 1000000
set_option linter.unusedVariables false
set_option linter.unusedSimpArgs false
namespace Go.Proofs.YtbdobaapadlcjabGreatDoor
open Go.RowKit
variable {j d:Nat}{v:Value}
def fileO:Option ByteArray->List Dk.DF
 | none=>[]
 | some data=>[⟨jn,data,data.size⟩]
def datO (o:Option ByteArray):ByteArray:=o.getD ⟨#[]⟩
def Stx (w w':World)(d:Nat)(v:Value)(fs:List Dk.DF)(n k:Nat):Prop:=∃v',Dd0 w' d v' fs/\Gd0 fs n k/\Tch (Dk.bl d v) w w'/\∀b,v'.ownBlock=some b->v.ownBlock=some b\/w.heap.size<=b
theorem app_x (d:Nat)(v:Value)(fs:List Dk.DF)(n k:Nat)(name data:ByteArray)(w:World)(h:Dd0 w d v fs)(hg:Gd0 fs n k)(hn:n<=1000)(hk:k+data.size<=1073741824):
  Calls Tryz.prog 69 #[.pointer (some ⟨d,0,none⟩),.string name,.string data] w fun e w'=>e=.returned (.bool true)/\Stx w w' d v (Dk.appF name data fs) (n+1) (k+data.size):=by
 refine(Dk.append_d d v ⟨fs,-1,false⟩ name data w h hg.left (by have:=hg.fs;omega) (fun f hf=>by have:=(hg.sz f hf).2;omega) (by omega)).mono ?_;rintro e w' ⟨rfl,v',hd,ht,hb⟩;exact⟨rfl,v',hd,Dk.good_app hg name data,ht,hb⟩
theorem sync_x (d:Nat)(v:Value)(fs:List Dk.DF)(n k:Nat)(name:ByteArray)(w:World)(h:Dd0 w d v fs)(hg:Gd0 fs n k)(hn:n<=1001)(hk:k<=1073741824):
  Calls Tryz.prog 70 #[.pointer (some ⟨d,0,none⟩),.string name] w fun e w'=>e=.returned (.bool true)/\Stx w w' d v (Dk.syncF name fs) n k:=by
 refine(Dk.sync_d d v ⟨fs,-1,false⟩ name w h hg.left (by have:=hg.fs;omega) (fun f hf=>by have:=(hg.sz f hf).2;omega)).mono ?_;rintro e w' ⟨rfl,v',hd,ht,hb⟩;exact⟨rfl,v',hd,Dk.good_sync hg name,ht,hb⟩
theorem ren_x (d:Nat)(v:Value)(fs:List Dk.DF)(n k:Nat)(frm tu:ByteArray)(w:World)(h:Dd0 w d v fs)(hg:Gd0 fs n k)(hn:n<=1001):
  Calls Tryz.prog 93 #[.pointer (some ⟨d,0,none⟩),.string frm,.string tu] w fun e w'=>e=.returned (.bool true)/\Stx w w' d v (Dk.renF frm tu fs) n k:=by
 refine(Dk.rename_d d v ⟨fs,-1,false⟩ frm tu w h hg.left (by have:=hg.fs;omega)).mono ?_;rintro e w' ⟨rfl,v',hd,ht,hb⟩;exact⟨rfl,v',hd,Dk.good_ren hg frm tu,ht,hb⟩
def Jy (w w':World)(j d:Nat)(v:Value)(room:Int)(fs:List Dk.DF):Prop:=∃v' n k,Jr w' j d room v' fs n k/\Tch (jbl j d v) w w'/\∀b,v'.ownBlock=some b->v.ownBlock=some b\/w.heap.size<=b
theorem Stx.jy {w w':World}{room:Int}{fs fs':List Dk.DF}{n k n' k':Nat}(h:Jr w j d room v fs n k)(hs:Stx w w' d v fs' n' k'):∃v',Jr w' j d room v' fs' n' k'/\Tch (jbl j d v) w w'/\∀b,v'.ownBlock=some b->v.ownBlock=some b\/w.heap.size<=b:=by
 obtain⟨v',hd,hg,ht,hb⟩:=hs;exact⟨v',⟨(ht.block _ (lt_of_block h.hj) h.ne).trans h.hj,hd,hg⟩,ht.sub (fun x hx _=>List.mem_cons_of_mem _ hx),hb⟩
theorem Jy.trans {a b c:World}{v1:Value}{r2:Int}{fs2:List Dk.DF}(h1:Tch (jbl j d v) a b)(hv:∀x,v1.ownBlock=some x->v.ownBlock=some x\/a.heap.size<=x)(h2:Jy b c j d v1 r2 fs2):Jy a c j d v r2 fs2:=by
 obtain⟨v',n',k',hj,ht,hb⟩:=h2;refine⟨v',n',k',hj,h1.trans ht (fun x hx hlt=>?_),fun x hx=>?_⟩
 ·rcases List.mem_cons.1 hx with e|e
  ·rw[e];simp[jbl]
  ·rcases List.mem_cons.1 e with e|e
   ·rw[e];simp[jbl,Dk.bl]
   ·rcases hv x (by simpa [Option.mem_toList]using e) with h|h
    ·simp[jbl,Dk.bl,h]
    ·omega
 ·rcases hb x hx with h|h
  ·exact hv x h
  ·exact .inr (Nat.le_trans h1.size h)
theorem add_x (j d:Nat)(room:Int)(v:Value)(fs:List Dk.DF)(n k:Nat)(bytes:ByteArray)(w:World)(h:Jr w j d room v fs n k)(hn:n<=900)(hk:k+bytes.size<=1073741824)(hr:-1073741824<=room/\room<=1073741824)(hb:bytes.size<=1073741824):
  Calls Tryz.prog 45 #[.pointer (some ⟨j,0,none⟩),.string bytes] w fun e w'=>e=.returned (.bool true)/\Jy w w' j d v (room-bytes.size) (Dk.syncF jn (Dk.appF jn bytes fs)):=by
 have hJ1:=h.set1 (room-bytes.size);have HA:Hid (Calls Tryz.prog 69 #[.pointer (some ⟨d,0,none⟩),.string jn,.string bytes] (w.setCell ⟨j,1,none⟩ (.int .i64 (room-bytes.size))) fun e w'=>e=.returned (.bool true)/\Stx (w.setCell ⟨j,1,none⟩ (.int .i64 (room-bytes.size))) w' d v (Dk.appF jn bytes fs) (n+1) (k+bytes.size)):=app_x d v fs n k jn bytes _ hJ1.dsk hJ1.gd (by omega) hk;have HJ1:=zH hJ1;have c0:=h.c0;have c1:=h.c1;have f1:=h.fz 1;clear h hJ1;go_enter Tryz.func45,Tryz.ntmps45;go_wp2_with fail;refine HA.out.mono ?_;rintro e w2 ⟨rfl,hs⟩;obtain⟨v2,hj2,ht2,hb2⟩:=hs.jy HJ1.out;have HS:Hid (Calls Tryz.prog 70 #[.pointer (some ⟨d,0,none⟩),.string jn] w2 fun e w'=>e=.returned (.bool true)/\Stx w2 w' d v2 (Dk.syncF jn (Dk.appF jn bytes fs)) (n+1) (k+bytes.size)):=sync_x d v2 _ _ _ jn w2 hj2.dsk hj2.gd (by omega) hk;have HJ2:=zH hj2;have HT2:Hid (Tch (jbl j d v) w w2/\∀b,v2.ownBlock=some b->v.ownBlock=some b\/w.heap.size<=b):=by
  refine⟨((Tch.refl _ _).setCell (fun _=>by simp[jbl]) _).trans ht2 (fun _ h _=>h),fun b hb=>?_⟩
  have:=hb2 b hb;simpa using this
 have d0:=hj2.c0;clear hs hj2 ht2 hb2 c0 c1 f1;go_wp2_with fail;refine HS.out.mono ?_;rintro e w3 ⟨rfl,hs⟩;have HL:Hid (Jy w2 w3 j d v2 (room-bytes.size) (Dk.syncF jn (Dk.appF jn bytes fs))):=by
  obtain⟨v3,hj3,ht3,hb3⟩:=hs.jy HJ2.out;exact⟨v3,_,_,hj3,ht3,hb3⟩
 clear hs d0;go_wp2_with fail;go_ret;exact⟨rfl,Jy.trans HT2.out.1 HT2.out.2 HL.out⟩
theorem replace_x (j d:Nat)(room:Int)(v:Value)(fs:List Dk.DF)(n k:Nat)(bytes:ByteArray)(w:World)(h:Jr w j d room v fs n k)(hn:n<=900)(hk:k+bytes.size<=1073741824):
  Calls Tryz.prog 68 #[.pointer (some ⟨j,0,none⟩),.string bytes] w fun e w'=>e=.returned (.bool true)/\Jy w w' j d v room (Dk.renF jw jn (Dk.syncF jw (Dk.appF jw bytes fs))):=by
 have HA:Hid (Calls Tryz.prog 69 #[.pointer (some ⟨d,0,none⟩),.string jw,.string bytes] w fun e w'=>e=.returned (.bool true)/\Stx w w' d v (Dk.appF jw bytes fs) (n+1) (k+bytes.size)):=app_x d v fs n k jw bytes _ h.dsk h.gd (by omega) hk;have HJ:=zH h;have c0:=h.c0;clear h;go_enter Tryz.func68,Tryz.ntmps68;go_wp2_with fail;refine HA.out.mono ?_;rintro e w2 ⟨rfl,hs⟩;obtain⟨v2,hj2,ht2,hb2⟩:=hs.jy HJ.out;have HS:Hid (Calls Tryz.prog 70 #[.pointer (some ⟨d,0,none⟩),.string jw] w2 fun e w'=>e=.returned (.bool true)/\Stx w2 w' d v2 (Dk.syncF jw (Dk.appF jw bytes fs)) (n+1) (k+bytes.size)):=sync_x d v2 _ _ _ jw w2 hj2.dsk hj2.gd (by omega) hk;have HJ2:=zH hj2;have HT2:Hid (Tch (jbl j d v) w w2/\∀b,v2.ownBlock=some b->v.ownBlock=some b\/w.heap.size<=b):=⟨ht2,hb2⟩;have d0:=hj2.c0;clear hs hj2 ht2 hb2 c0;go_wp2_with fail;refine HS.out.mono ?_;rintro e w3 ⟨rfl,hs⟩;obtain⟨v3,hj3,ht3,hb3⟩:=hs.jy HJ2.out;have HR:Hid (Calls Tryz.prog 93 #[.pointer (some ⟨d,0,none⟩),.string jw,.string jn] w3 fun e w'=>e=.returned (.bool true)/\Stx w3 w' d v3 (Dk.renF jw jn (Dk.syncF jw (Dk.appF jw bytes fs))) (n+1) (k+bytes.size)):=ren_x d v3 _ _ _ jw jn w3 hj3.dsk hj3.gd (by omega);have HJ3:=zH hj3;have HT3:Hid (Tch (jbl j d v2) w2 w3/\∀b,v3.ownBlock=some b->v2.ownBlock=some b\/w2.heap.size<=b):=⟨ht3,hb3⟩;have e0:=hj3.c0;clear hs hj3 ht3 hb3 d0;go_wp2_with fail;refine HR.out.mono ?_;rintro e w4 ⟨rfl,hs⟩;have HL:Hid (Jy w3 w4 j d v3 room (Dk.renF jw jn (Dk.syncF jw (Dk.appF jw bytes fs)))):=by
  obtain⟨v4,hj4,ht4,hb4⟩:=hs.jy HJ3.out;exact⟨v4,_,_,hj4,ht4,hb4⟩
 clear hs e0;go_wp2_with fail;go_ret;exact⟨rfl,Jy.trans HT2.out.1 HT2.out.2 (Jy.trans HT3.out.1 HT3.out.2 HL.out)⟩
theorem isN_jj (data:ByteArray)(s:Nat):Dk.isN jn ⟨jn,data,s⟩=true:=by unfold Dk.isN;simp
theorem isN_ww (data:ByteArray)(s:Nat):Dk.isN jw ⟨jw,data,s⟩=true:=by unfold Dk.isN;simp
theorem isN_wj (data:ByteArray)(s:Nat):Dk.isN jw ⟨jn,data,s⟩=false:=by unfold Dk.isN;rw[ByteArray.toList_eq,ByteArray.toList_eq];rfl
theorem isN_jw (data:ByteArray)(s:Nat):Dk.isN jn ⟨jw,data,s⟩=false:=by unfold Dk.isN;rw[ByteArray.toList_eq,ByteArray.toList_eq];rfl
theorem nm_ne:(jw.toList == jn.toList)=false:=by rw[ByteArray.toList_eq,ByteArray.toList_eq];rfl
theorem fnd_jw (o:Option ByteArray):Dk.fnd jw (fileO o)=-1:=by
 cases o with
 | none=>rfl
 | some data=>simp[Dk.fnd,fileO,List.findIdx?_cons,isN_wj]
theorem add_fs (o:Option ByteArray)(bytes:ByteArray):Dk.syncF jn (Dk.appF jn bytes (fileO o))=fileO (some (datO o++bytes)):=by
 have f1:∀(d:ByteArray) (s:Nat),Dk.fnd jn [⟨jn,d,s⟩]=0:=fun d s=>by simp[Dk.fnd,List.findIdx?_cons,isN_jj]
 cases o with
 | none=>
  have e:datO none++bytes=bytes:=Dk.empty_cat bytes;rw[e]
  show Dk.onF jn _ [⟨jn,bytes,0⟩]=_
  simp[Dk.onF,f1,fileO]
 | some data=>
  simp[Dk.syncF,Dk.appF,Dk.onF,f1,fileO,datO]
theorem rep_fs (o:Option ByteArray)(bytes:ByteArray):Dk.renF jw jn (Dk.syncF jw (Dk.appF jw bytes (fileO o)))=fileO (some bytes):=by
 have f1:∀(d:ByteArray) (s:Nat),Dk.fnd jw [⟨jw,d,s⟩]=0:=fun d s=>by simp[Dk.fnd,List.findIdx?_cons,isN_ww]
 have f2:∀(d d':ByteArray) (s s':Nat),Dk.fnd jw [⟨jn,d',s'⟩,⟨jw,d,s⟩]=1:=fun d d' s s'=>by simp[Dk.fnd,List.findIdx?_cons,isN_ww,isN_wj]
 have f0:Dk.fnd jw []=-1:=rfl;have f3:∀(d:ByteArray) (s:Nat),Dk.fnd jw [⟨jn,d,s⟩]=-1:=fun d s=>by simp[Dk.fnd,List.findIdx?_cons,isN_wj]
 cases o with
 | none=>
  have e:Dk.syncF jw (Dk.appF jw bytes (fileO none))=[⟨jw,bytes,bytes.size⟩]:=by simp[Dk.syncF,Dk.appF,Dk.onF,f1,f0,fileO]
  rw[e,Dk.renF_some (k:=0) (f1 _ _) rfl nm_ne];simp[Dk.remF,isN_ww,isN_jw,fileO]
 | some data=>
  have e:Dk.syncF jw (Dk.appF jw bytes (fileO (some data)))=[⟨jn,data,data.size⟩,⟨jw,bytes,bytes.size⟩]:=by simp[Dk.syncF,Dk.appF,Dk.onF,f2,f3,fileO]
  rw[e,Dk.renF_some (k:=1) (f2 _ _ _ _) rfl nm_ne];simp[Dk.remF,isN_ww,isN_jw,isN_wj,isN_jj,fileO]
theorem sweep_x (j d:Nat)(room:Int)(v:Value)(n k:Nat)(w:World)(o:Option ByteArray)(h:Jr w j d room v (fileO o) n k):
  zE 67 #[.pointer (some ⟨j,0,none⟩)] w (.bool true):=by
 have HH:Hid (zE 61 #[.pointer (some ⟨d,0,none⟩),.string jw] w (.bool false)):=by
  have h1:=Dk.has_d d v (-1) false (fileO o) jw w h.dsk.blk h.dsk.own (by cases o<;>simp[fileO]);rw[fnd_jw]at h1;exact h1
 have c0:=h.c0;clear h;go_enter Tryz.func67,Tryz.ntmps67;go_wp2_with fail;refine HH.out.mono ?_;rintro e w2 ⟨rfl,rfl⟩;go_wp2_with fail;go_ret;exact⟨rfl,rfl⟩
theorem room_yx (j d:Nat)(room:Int)(v:Value)(fs:List Dk.DF)(n k:Nat)(size:Nat)(F:Value)(w:World)(h:Jr w j d room v fs n k)(hs:(size:Int)<=room):
  Calls Tryz.prog 44 #[.pointer (some ⟨j,0,none⟩),.int .i64 (size:Int),F] w fun e w'=>e=.returned (.bool true)/\Jy w w' j d v room fs:=by
 have HJ:=zH h;have c1:=h.c1;clear h;go_enter Tryz.func44,Tryz.ntmps44;go_wp2_with fail;go_ret;exact⟨rfl,v,_,_,HJ.out,Tch.refl _ _,fun _ h=>.inl h⟩
theorem room_x (j d st:Nat)(v:Value)(n k:Nat)(size:Nat)(w:World)(room:Int)(o:Option ByteArray)(t:ByteArray)(h:Jr w j d room v (fileO o) n k)(hs:room<(size:Int))(hsz:size<=1048576)(hn:n<=900)(hk:k<=1000000000)(htz:t.size<=1048576)(hT:Tab w)(h3:3<=w.heap.size)(hj3:3<=j)
  (hW:∀W,Tch [j] w W->zT 25 #[.pointer (some ⟨st,0,none⟩)] W (.string t)):
  Calls Tryz.prog 44 #[.pointer (some ⟨j,0,none⟩),.int .i64 (size:Int),.func (.func 25) #[.pointer (some ⟨st,0,none⟩)] #[]] w fun e w'=>e=.returned (.bool true)/\Jy w w' j d v 16384 (fileO (some ⟨(recB t).toArray⟩)):=by
 have hJ1:=h.set1 16384;have t1:Tch [j] w (w.setCell ⟨j,1,none⟩ (.int .i64 16384)):=(Tch.refl _ _).setCell (fun _=>by simp) _;have HSW:Hid (Calls Tryz.prog 67 #[.pointer (some ⟨j,0,none⟩)] (w.setCell ⟨j,1,none⟩ (.int .i64 16384)) fun e w'=>e=.returned (.bool true)/\w'=w.setCell ⟨j,1,none⟩ (.int .i64 16384)):=sweep_x j d 16384 v n k _ o hJ1;have HWH:Hid (zT 25 #[.pointer (some ⟨st,0,none⟩)] (w.setCell ⟨j,1,none⟩ (.int .i64 16384)) (.string t)):=hW _ t1;have HJ1:=zH hJ1;have HT1:=zH t1;have HTB:=zH hT;have eg65:∀args w,(callFunc 25 args).run Tryz.prog w=.ok (.enter 25 args) w:=enters_of Tryz.func25 (by kernel_rfl) rfl;have c1:=h.c1;have f1:=h.fz 1;clear h hJ1 hT hW t1;go_enter Tryz.func44,Tryz.ntmps44;go_wp2_with fail;refine HSW.out.mono ?_;rintro e w2 ⟨rfl,hw2⟩;rw[<-hw2]at HWH HJ1 HT1;clear hw2 c1 f1 HSW;go_wp2_with fail;refine HWH.out.mono ?_;rintro e w3 ⟨rfl,ht3⟩;have hw3:=HT1.out.trans ht3 (by simp);have hJ3:=HJ1.out.tch ht3 (by simp);have hz3:=hw3.size;clear HWH;go_wp2_with fail;refine(record_any t w3 (by omega) (HTB.out.below (B:=3) (hw3.below (by simpa using hj3) h3) (by decide)) (by omega)).mono ?_;rintro e w4 ⟨rv,rfl,ho,hb4⟩;have hstr:(convert 54 9 rv).run Tryz.prog w4=.ok (.string ⟨(recB t).toArray⟩) w4:=OwnB.str ho (by rw[recB_length];omega);have hJ4:=hJ3.tch (Tch.of_below hb4) (by simp);have hrz:(⟨(recB t).toArray⟩:ByteArray).size=8+t.size:=by show (recB t).toArray.size=_;rw[List.size_toArray,recB_length]
 have HRP:Hid (Calls Tryz.prog 68 #[.pointer (some ⟨j,0,none⟩),.string ⟨(recB t).toArray⟩] w4 fun e w'=>e=.returned (.bool true)/\Jy w4 w' j d v 16384 (fileO (some ⟨(recB t).toArray⟩))):=by
  have h1:=replace_x j d 16384 v (fileO o) n k ⟨(recB t).toArray⟩ w4 hJ4 hn (by omega);rw[rep_fs]at h1;exact h1
 have HT4:=zH (hw3.trans (Tch.of_below hb4) (by simp));clear ho hb4 hJ4 hJ3 hw3 ht3 hrz;generalize hRR:(⟨(recB t).toArray⟩:ByteArray)=R at*
 go_wp2_with fail;refine HRP.out.mono ?_;rintro e w5 ⟨rfl,hl⟩;have HL:=zH hl;clear hl hstr;go_wp2_with fail;go_ret;obtain⟨v',n',k',hj',ht',hb'⟩:=HL.out
 try rw[hRR]
 have hz:=HT4.out.size;refine⟨rfl,v',n',k',hj',(HT4.out.sub (by simp[jbl])).trans ht' (fun _ h _=>h),fun b hb=>?_⟩
 rcases hb' b hb with h|h
 ·exact .inl h
 ·exact .inr (by omega)
theorem lay_xw (j d:Nat)(room room2:Int)(v:Value)(fs fs2:List Dk.DF)(n k base:Nat)(rv F:Value)(rec:List UInt8)(w:World)(h:Jr w j d room v fs n k)(ho:OwnB w base rv rec)(hpos:0<rec.length)(hrl:rec.length<=1048576)(hl2:fs2.length<=10)(hk2:∀f∈fs2,f.safe<=f.data.size/\f.data.size+rec.length<=1073741824)(hr:-1000000000<=room2/\room2<=1048576)
  (hM:Calls Tryz.prog 44 #[.pointer (some ⟨j,0,none⟩),.int .i64 (rec.length:Int),F] w fun e w'=>e=.returned (.bool true)/\Jy w w' j d v room2 fs2):
  Calls Tryz.prog 24 #[.pointer (some ⟨j,0,none⟩),rv,F] w fun e w'=>e=.returned (.bool true)/\Jy w w' j d v (room2-rec.length) (Dk.syncF jn (Dk.appF jn ⟨rec.toArray⟩ fs2)):=by
 have HM:=zH hM;have hne:rv.ownBlock≠some j:=own_ne ho h.hj (by decide);have HAP:Hid (∀b,rv.ownBlock=some b->b∉jbl j d v):=fun b hb hm=>by
  rcases List.mem_cons.1 hm with e|e
  ·exact hne (e▸hb)
  ·rcases List.mem_cons.1 e with e|e
   ·exact own_ne ho h.dsk.blk (by decide) (e▸hb)
   ·rcases ho.2 with ⟨rfl,_⟩|⟨g,cap,cur,rfl,_,hg,_⟩
    ·simp[Value.ownBlock]at hb
    ·simp[Value.ownBlock]at hb;subst hb;exact own_ne h.dsk.own hg (by decide) (by simpa [Option.mem_toList]using e)
 obtain⟨g,cap,hrv⟩:=OwnB.slc ho hpos;have HO:=zH ho;have HRV:=zH hrv;subst hrv;have HK2:=zH hk2;have c2:=h.c2;clear h hM ho hne hk2;generalize hL:rec.length=L at*
 go_enter Tryz.func24,Tryz.ntmps24;go_wp2_with fail;refine HM.out.mono ?_;rintro e w1 ⟨rfl,v1,n1,k1,hj1,ht1,hb1⟩;have ho1:=own_tch HO.out ht1 HAP.out;have hstr:=OwnB.str ho1 (by omega);have hrz:(⟨rec.toArray⟩:ByteArray).size=L:=by show rec.toArray.size=_;rw[List.size_toArray,hL]
 have HAD:Hid (Calls Tryz.prog 45 #[.pointer (some ⟨j,0,none⟩),.string ⟨rec.toArray⟩] w1 fun e w'=>e=.returned (.bool true)/\Jy w1 w' j d v1 (room2-L) (Dk.syncF jn (Dk.appF jn ⟨rec.toArray⟩ fs2))):=by
  have hj2:Jr w1 j d room2 v1 fs2 10 (1073741824-L):=⟨hj1.hj,hj1.dsk,⟨hj1.gd.left,hl2,fun f hf=>⟨(HK2.out f hf).1,by have:=(HK2.out f hf).2;omega⟩⟩⟩
  have h1:=add_x j d room2 v1 fs2 10 (1073741824-L) ⟨rec.toArray⟩ w1 hj2 (by decide) (by omega) (by omega) (by omega);rw[hrz]at h1;exact h1
 have HT1:Hid (Tch (jbl j d v) w w1/\∀b,v1.ownBlock=some b->v.ownBlock=some b\/w.heap.size<=b):=⟨ht1,hb1⟩;clear hj1 ht1 hb1 ho1 c2;generalize hRR:(⟨rec.toArray⟩:ByteArray)=R at*
 go_wp2_with fail;refine HAD.out.mono ?_;rintro e w2 ⟨rfl,hl⟩;obtain⟨v2,n2,k2,hj2,ht2,hb2⟩:=Jy.trans HT1.out.1 HT1.out.2 hl;have HJ2:=zH hj2;have HT2:Hid (Tch (jbl j d v) w w2/\∀b,v2.ownBlock=some b->v.ownBlock=some b\/w.heap.size<=b):=⟨ht2,hb2⟩;have d2:=hj2.c2;have f2:=hj2.fz 2;clear hl hj2 ht2 hb2 hstr;go_wp2_with fail;go_ret
 try rw[hRR]
 exact⟨rfl,v2,n2,k2,HJ2.out.set2,HT2.out.1.setCell (fun _=>by simp[jbl]) _,HT2.out.2⟩
def layO (o:Option ByteArray)(room:Int)(rec:List UInt8)(t:ByteArray):ByteArray×Int:=
 if (rec.length:Int)<=room then (datO o++⟨rec.toArray⟩,room-rec.length) else (⟨(recB t).toArray⟩++⟨rec.toArray⟩,16384-rec.length)
theorem lay_x (j d st:Nat)(room:Int)(v:Value)(o:Option ByteArray)(n k base:Nat)(t:ByteArray)(rv:Value)(rec:List UInt8)(w:World)(h:Jr w j d room v (fileO o) n k)(ho:OwnB w base rv rec)(hpos:0<rec.length)(hrl:rec.length<=1048576)(hr:-1000000000<=room/\room<=16384)(hsz:(datO o).size<=500000000)(htz:t.size<=1048576)(hT:Tab w)(h3:3<=w.heap.size)(hj3:3<=j)
  (hW:∀W,Tch [j] w W->zT 25 #[.pointer (some ⟨st,0,none⟩)] W (.string t)):
  Calls Tryz.prog 24 #[.pointer (some ⟨j,0,none⟩),rv,.func (.func 25) #[.pointer (some ⟨st,0,none⟩)] #[]] w fun e w'=>e=.returned (.bool true)/\Jy w w' j d v (layO o room rec t).2 (fileO (some (layO o room rec t).1)):=by
 have hd:∀f∈fileO o,f.safe<=f.data.size/\f.data.size<=500000000:=fun f hf=>by
  cases o with
  | none=>simp[fileO]at hf
  | some data=>
   simp only[fileO,List.mem_singleton]at hf;subst hf;exact⟨Nat.le_refl _,hsz⟩
 have hlen:(fileO o).length<=10:=by cases o<;>simp[fileO]
 have hj:Jr w j d room v (fileO o) 10 500000000:=⟨h.hj,h.dsk,⟨h.gd.left,hlen,hd⟩⟩
 by_cases hc:(rec.length:Int)<=room
 ·have e:layO o room rec t=(datO o++⟨rec.toArray⟩,room-rec.length):=if_pos hc;rw[e];have h1:=lay_xw j d room room v (fileO o) (fileO o) 10 500000000 base rv (.func (.func 25) #[.pointer (some ⟨st,0,none⟩)] #[]) rec w hj ho hpos hrl hlen (fun f hf=>⟨(hd f hf).1,by have:=(hd f hf).2;omega⟩) (by omega) (room_yx j d room v (fileO o) 10 500000000 rec.length _ w hj hc);rw[add_fs]at h1;exact h1
 ·have e:layO o room rec t=((⟨(recB t).toArray⟩:ByteArray)++(⟨rec.toArray⟩:ByteArray),(16384-rec.length:Int)):=if_neg hc;rw[e];have hrz:(⟨(recB t).toArray⟩:ByteArray).size=8+t.size:=by show (recB t).toArray.size=_;rw[List.size_toArray,recB_length]
  have h1:=lay_xw j d room 16384 v (fileO o) (fileO (some ⟨(recB t).toArray⟩)) 10 500000000 base rv (.func (.func 25) #[.pointer (some ⟨st,0,none⟩)] #[]) rec w hj ho hpos hrl (by simp[fileO]) (fun f hf=>by
   simp only[fileO,List.mem_singleton]at hf;subst hf;refine⟨Nat.le_refl _,?_⟩
   show (⟨(recB t).toArray⟩:ByteArray).size+_<=_
   omega) (by omega) (room_x j d st v 10 500000000 rec.length w room o t hj (by omega) hrl (by decide) (by decide) htz hT h3 hj3 hW)
  rw[add_fs]at h1;exact h1
end Go.Proofs.YtbdobaapadlcjabGreatDoor
