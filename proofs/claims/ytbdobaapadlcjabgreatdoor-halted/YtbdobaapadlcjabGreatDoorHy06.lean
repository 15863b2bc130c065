import Derived.Test.YtbdobaapadlcjabGreatDoorHy05
set_option maxHeartbeats 4000000
set_option linter.unusedVariables false
set_option linter.unusedSimpArgs false
namespace Go.Proofs.YtbdobaapadlcjabGreatDoor
open Go.RowKit
variable {j d:Nat}{v:Value}
def fileO:Option ByteArray->List Dk.DF
 | none=>[]
 | some data=>[⟨jn,data,data.size⟩]
def datO (o:Option ByteArray):ByteArray:=o.getD ⟨#[]⟩
def Stx (w w':World)(d:Nat)(v:Value)(fs:List Dk.DF)(n k:Nat):Prop:=∃v',Dd0 w' d v' fs/\Gd0 fs n k/\Tch (Dk.bl d v) w w'/\∀b,v'.ownBlock=some b->v.ownBlock=some b\/w.heap.size<=b
theorem app_x (d:Nat)(v:Value)(fs:List Dk.DF)(n k:Nat)(name data:ByteArray)(w:World)(h:Dd0 w d v fs)(hg:Gd0 fs n k)(hn:n<=1000)(hk:k+data.size<=1073741824):
  Calls Tryz.prog 69 #[.pointer (some ⟨d,0,none⟩),.string name,.string data] w fun e w'=>e=.returned (.bool true)/\Stx w w' d v (Dk.appF name data fs) (n+1) (k+data.size):=by
 refine(Dk.append_d d v ⟨fs,-1,false⟩ name data w h hg.left (by have:=hg.fs;omega) (fun f hf=>by have:=(hg.sz f hf).2;omega) (by omega)).mono ?_;rintro e w' ⟨rfl,v',hd,ht,hb⟩;exact⟨rfl,v',hd,Dk.good_app hg name data,ht,hb⟩
theorem sync_x (d:Nat)(v:Value)(fs:List Dk.DF)(n k:Nat)(name:ByteArray)(w:World)(h:Dd0 w d v fs)(hg:Gd0 fs n k)(hn:n<=1001)(hk:k<=1073741824):
  Calls Tryz.prog 70 #[.pointer (some ⟨d,0,none⟩),.string name] w fun e w'=>e=.returned (.bool true)/\Stx w w' d v (Dk.syncF name fs) n k:=by
 refine(Dk.sync_d d v ⟨fs,-1,false⟩ name w h hg.left (by have:=hg.fs;omega) (fun f hf=>by have:=(hg.sz f hf).2;omega)).mono ?_;rintro e w' ⟨rfl,v',hd,ht,hb⟩;exact⟨rfl,v',hd,Dk.good_sync hg name,ht,hb⟩
theorem ren_x (d:Nat)(v:Value)(fs:List Dk.DF)(n k:Nat)(frm tu:ByteArray)(w:World)(h:Dd0 w d v fs)(hg:Gd0 fs n k)(hn:n<=1001):
  Calls Tryz.prog 93 #[.pointer (some ⟨d,0,none⟩),.string frm,.string tu] w fun e w'=>e=.returned (.bool true)/\Stx w w' d v (Dk.renF frm tu fs) n k:=by
 refine(Dk.rename_d d v ⟨fs,-1,false⟩ frm tu w h hg.left (by have:=hg.fs;omega)).mono ?_;rintro e w' ⟨rfl,v',hd,ht,hb⟩;exact⟨rfl,v',hd,Dk.good_ren hg frm tu,ht,hb⟩
def Jy (w w':World)(j d:Nat)(v:Value)(room:Int)(fs:List Dk.DF):Prop:=∃v' n k,Jr w' j d room v' fs n k/\Tch (jbl j d v) w w'/\∀b,v'.ownBlock=some b->v.ownBlock=some b\/w.heap.size<=b
theorem Stx.jy {w w':World}{room:Int}{fs fs':List Dk.DF}{n k n' k':Nat}(h:Jr w j d room v fs n k)(hs:Stx w w' d v fs' n' k'):∃v',Jr w' j d room v' fs' n' k'/\Tch (jbl j d v) w w'/\∀b,v'.ownBlock=some b->v.ownBlock=some b\/w.heap.size<=b:=by
 obtain⟨v',hd,hg,ht,hb⟩:=hs;exact⟨v',⟨(ht.block _ (lt_of_block h.hj) h.ne).trans h.hj,hd,hg⟩,ht.sub (fun x hx _=>List.mem_cons_of_mem _ hx),hb⟩
theorem Jy.trans {a b c:World}{v1:Value}{r2:Int}{fs2:List Dk.DF}(h1:Tch (jbl j d v) a b)(hv:∀x,v1.ownBlock=some x->v.ownBlock=some x\/a.heap.size<=x)(h2:Jy b c j d v1 r2 fs2):Jy a c j d v r2 fs2:=by
 obtain⟨v',n',k',hj,ht,hb⟩:=h2;refine⟨v',n',k',hj,h1.trans ht (fun x hx hlt=>?_),fun x hx=>?_⟩
 ·rcases List.mem_cons.1 hx with e|e
  ·rw[e];simp[jbl]
  ·rcases List.mem_cons.1 e with e|e
   ·rw[e];simp[jbl,Dk.bl]
   ·rcases hv x (by simpa [Option.mem_toList]using e) with h|h
    ·simp[jbl,Dk.bl,h]
    ·omega
 ·rcases hb x hx with h|h
  ·exact hv x h
  ·exact .inr (Nat.le_trans h1.size h)
theorem add_x (j d:Nat)(room:Int)(v:Value)(fs:List Dk.DF)(n k:Nat)(bytes:ByteArray)(w:World)(h:Jr w j d room v fs n k)(hn:n<=900)(hk:k+bytes.size<=1073741824)(hr:-1073741824<=room/\room<=1073741824)(hb:bytes.size<=1073741824):
  Calls Tryz.prog 45 #[.pointer (some ⟨j,0,none⟩),.string bytes] w fun e w'=>e=.returned (.bool true)/\Jy w w' j d v (room-bytes.size) (Dk.syncF jn (Dk.appF jn bytes fs)):=by
 have hJ1:=h.set1 (room-bytes.size);have HA:Hid (Calls Tryz.prog 69 #[.pointer (some ⟨d,0,none⟩),.string jn,.string bytes] (w.setCell ⟨j,1,none⟩ (.int .i64 (room-bytes.size))) fun e w'=>e=.returned (.bool true)/\Stx (w.setCell ⟨j,1,none⟩ (.int .i64 (room-bytes.size))) w' d v (Dk.appF jn bytes fs) (n+1) (k+bytes.size)):=app_x d v fs n k jn bytes _ hJ1.dsk hJ1.gd (by omega) hk;have HJ1:=zH hJ1;have c0:=h.c0;have c1:=h.c1;have f1:=h.fz 1;clear h hJ1;go_enter Tryz.func45,Tryz.ntmps45;go_wp2_with fail;refine HA.out.mono ?_;rintro e w2 ⟨rfl,hs⟩;obtain⟨v2,hj2,ht2,hb2⟩:=hs.jy HJ1.out;have HS:Hid (Calls Tryz.prog 70 #[.pointer (some ⟨d,0,none⟩),.string jn] w2 fun e w'=>e=.returned (.bool true)/\Stx w2 w' d v2 (Dk.syncF jn (Dk.appF jn bytes fs)) (n+1) (k+bytes.size)):=sync_x d v2 _ _ _ jn w2 hj2.dsk hj2.gd (by omega) hk;have HJ2:=zH hj2;have HT2:Hid (Tch (jbl j d v) w w2/\∀b,v2.ownBlock=some b->v.ownBlock=some b\/w.heap.size<=b):=by
  refine⟨((Tch.refl _ _).setCell (fun _=>by simp[jbl]) _).trans ht2 (fun _ h _=>h),fun b hb=>?_⟩
  have:=hb2 b hb;simpa using this
 have d0:=hj2.c0;clear hs hj2 ht2 hb2 c0 c1 f1;go_wp2_with fail;refine HS.out.mono ?_;rintro e w3 ⟨rfl,hs⟩;have HL:Hid (Jy w2 w3 j d v2 (room-bytes.size) (Dk.syncF jn (Dk.appF jn bytes fs))):=by
  obtain⟨v3,hj3,ht3,hb3⟩:=hs.jy HJ2.out;exact⟨v3,_,_,hj3,ht3,hb3⟩
 clear hs d0;go_wp2_with fail;go_ret;exact⟨rfl,Jy.trans HT2.out.1 HT2.out.2 HL.out⟩
theorem replace_x (j d:Nat)(room:Int)(v:Value)(fs:List Dk.DF)(n k:Nat)(bytes:ByteArray)(w:World)(h:Jr w j d room v fs n k)(hn:n<=900)(hk:k+bytes.size<=1073741824):
  Calls Tryz.prog 68 #[.pointer (some ⟨j,0,none⟩),.string bytes] w fun e w'=>e=.returned (.bool true)/\Jy w w' j d v room (Dk.renF jw jn (Dk.syncF jw (Dk.appF jw bytes fs))):=by
 have HA:Hid (Calls Tryz.prog 69 #[.pointer (some ⟨d,0,none⟩),.string jw,.string bytes] w fun e w'=>e=.returned (.bool true)/\Stx w w' d v (Dk.appF jw bytes fs) (n+1) (k+bytes.size)):=app_x d v fs n k jw bytes _ h.dsk h.gd (by omega) hk;have HJ:=zH h;have c0:=h.c0;clear h;go_enter Tryz.func68,Tryz.ntmps68;go_wp2_with fail;refine HA.out.mono ?_;rintro e w2 ⟨rfl,hs⟩;obtain⟨v2,hj2,ht2,hb2⟩:=hs.jy HJ.out;have HS:Hid (Calls Tryz.prog 70 #[.pointer (some ⟨d,0,none⟩),.string jw] w2 fun e w'=>e=.returned (.bool true)/\Stx w2 w' d v2 (Dk.syncF jw (Dk.appF jw bytes fs)) (n+1) (k+bytes.size)):=sync_x d v2 _ _ _ jw w2 hj2.dsk hj2.gd (by omega) hk;have HJ2:=zH hj2;have HT2:Hid (Tch (jbl j d v) w w2/\∀b,v2.ownBlock=some b->v.ownBlock=some b\/w.heap.size<=b):=⟨ht2,hb2⟩;have d0:=hj2.c0;clear hs hj2 ht2 hb2 c0;go_wp2_with fail;refine HS.out.mono ?_;rintro e w3 ⟨rfl,hs⟩;obtain⟨v3,hj3,ht3,hb3⟩:=hs.jy HJ2.out;have HR:Hid (Calls Tryz.prog 93 #[.pointer (some ⟨d,0,none⟩),.string jw,.string jn] w3 fun e w'=>e=.returned (.bool true)/\Stx w3 w' d v3 (Dk.renF jw jn (Dk.syncF jw (Dk.appF jw bytes fs))) (n+1) (k+bytes.size)):=ren_x d v3 _ _ _ jw jn w3 hj3.dsk hj3.gd (by omega);have HJ3:=zH hj3;have HT3:Hid (Tch (jbl j d v2) w2 w3/\∀b,v3.ownBlock=some b->v2.ownBlock=some b\/w2.heap.size<=b):=⟨ht3,hb3⟩;have e0:=hj3.c0;clear hs hj3 ht3 hb3 d0;go_wp2_with fail;refine HR.out.mono ?_;rintro e w4 ⟨rfl,hs⟩;have HL:Hid (Jy w3 w4 j d v3 room (Dk.renF jw jn (Dk.syncF jw (Dk.appF jw bytes fs)))):=by
  obtain⟨v4,hj4,ht4,hb4⟩:=hs.jy HJ3.out;exact⟨v4,_,_,hj4,ht4,hb4⟩
 clear hs e0;go_wp2_with fail;go_ret;exact⟨rfl,Jy.trans HT2.out.1 HT2.out.2 (Jy.trans HT3.out.1 HT3.out.2 HL.out)⟩
theorem isN_jj (data:ByteArray)(s:Nat):Dk.isN jn ⟨jn,data,s⟩=true:=by unfold Dk.isN;simp
theorem isN_ww (data:ByteArray)(s:Nat):Dk.isN jw ⟨jw,data,s⟩=true:=by unfold Dk.isN;simp
theorem isN_wj (data:ByteArray)(s:Nat):Dk.isN jw ⟨jn,data,s⟩=false:=by unfold Dk.isN;rw[ByteArray.toList_eq,ByteArray.toList_eq];rfl
theorem isN_jw (data:ByteArray)(s:Nat):Dk.isN jn ⟨jw,data,s⟩=false:=by unfold Dk.isN;rw[ByteArray.toList_eq,ByteArray.toList_eq];rfl
theorem nm_ne:(jw.toList == jn.toList)=false:=by rw[ByteArray.toList_eq,ByteArray.toList_eq];rfl
theorem fnd_jw (o:Option ByteArray):Dk.fnd jw (fileO o)=-1:=by
 cases o with
 | none=>rfl
 | some data=>simp[Dk.fnd,fileO,List.findIdx?_cons,isN_wj]
theorem add_fs (o:Option ByteArray)(bytes:ByteArray):Dk.syncF jn (Dk.appF jn bytes (fileO o))=fileO (some (datO o++bytes)):=by
 have f1:∀(d:ByteArray) (s:Nat),Dk.fnd jn [⟨jn,d,s⟩]=0:=fun d s=>by simp[Dk.fnd,List.findIdx?_cons,isN_jj]
 cases o with
 | none=>
  have e:datO none++bytes=bytes:=Dk.empty_cat bytes;rw[e]
  show Dk.onF jn _ [⟨jn,bytes,0⟩]=_
  simp[Dk.onF,f1,fileO]
 | some data=>
  simp[Dk.syncF,Dk.appF,Dk.onF,f1,fileO,datO]
theorem rep_fs (o:Option ByteArray)(bytes:ByteArray):Dk.renF jw jn (Dk.syncF jw (Dk.appF jw bytes (fileO o)))=fileO (some bytes):=by
 have f1:∀(d:ByteArray) (s:Nat),Dk.fnd jw [⟨jw,d,s⟩]=0:=fun d s=>by simp[Dk.fnd,List.findIdx?_cons,isN_ww]
 have f2:∀(d d':ByteArray) (s s':Nat),Dk.fnd jw [⟨jn,d',s'⟩,⟨jw,d,s⟩]=1:=fun d d' s s'=>by simp[Dk.fnd,List.findIdx?_cons,isN_ww,isN_wj]
 have f0:Dk.fnd jw []=-1:=rfl;have f3:∀(d:ByteArray) (s:Nat),Dk.fnd jw [⟨jn,d,s⟩]=-1:=fun d s=>by simp[Dk.fnd,List.findIdx?_cons,isN_wj]
 cases o with
 | none=>
  have e:Dk.syncF jw (Dk.appF jw bytes (fileO none))=[⟨jw,bytes,bytes.size⟩]:=by simp[Dk.syncF,Dk.appF,Dk.onF,f1,f0,fileO]
  rw[e,Dk.renF_some (k:=0) (f1 _ _) rfl nm_ne];simp[Dk.remF,isN_ww,isN_jw,fileO]
 | some data=>
  have e:Dk.syncF jw (Dk.appF jw bytes (fileO (some data)))=[⟨jn,data,data.size⟩,⟨jw,bytes,bytes.size⟩]:=by simp[Dk.syncF,Dk.appF,Dk.onF,f2,f3,fileO]
  rw[e,Dk.renF_some (k:=1) (f2 _ _ _ _) rfl nm_ne];simp[Dk.remF,isN_ww,isN_jw,isN_wj,isN_jj,fileO]
theorem sweep_x (j d:Nat)(room:Int)(v:Value)(n k:Nat)(w:World)(o:Option ByteArray)(h:Jr w j d room v (fileO o) n k):
  zE 67 #[.pointer (some ⟨j,0,none⟩)] w (.bool true):=by
 have HH:Hid (zE 61 #[.pointer (some ⟨d,0,none⟩),.string jw] w (.bool false)):=by
  have h1:=Dk.has_d d v (-1) false (fileO o) jw w h.dsk.blk h.dsk.own (by cases o<;>simp[fileO]);rw[fnd_jw]at h1;exact h1
 have c0:=h.c0;clear h;go_enter Tryz.func67,Tryz.ntmps67;go_wp2_with fail;refine HH.out.mono ?_;rintro e w2 ⟨rfl,rfl⟩;go_wp2_with fail;go_ret;exact⟨rfl,rfl⟩
theorem room_yx (j d:Nat)(room:Int)(v:Value)(fs:List Dk.DF)(n k:Nat)(size:Nat)(F:Value)(w:World)(h:Jr w j d room v fs n k)(hs:(size:Int)<=room):
  Calls Tryz.prog 44 #[.pointer (some ⟨j,0,none⟩),.int .i64 (size:Int),F] w fun e w'=>e=.returned (.bool true)/\Jy w w' j d v room fs:=by
 have HJ:=zH h;have c1:=h.c1;clear h;go_enter Tryz.func44,Tryz.ntmps44;go_wp2_with fail;go_ret;exact⟨rfl,v,_,_,HJ.out,Tch.refl _ _,fun _ h=>.inl h⟩
theorem room_x (j d st:Nat)(v:Value)(n k:Nat)(size:Nat)(w:World)(room:Int)(o:Option ByteArray)(t:ByteArray)(h:Jr w j d room v (fileO o) n k)(hs:room<(size:Int))(hsz:size<=1048576)(hn:n<=900)(hk:k<=1000000000)(htz:t.size<=1048576)(hT:Tab w)(h3:3<=w.heap.size)(hj3:3<=j)
  (hW:∀W,Tch [j] w W->zT 25 #[.pointer (some ⟨st,0,none⟩)] W (.string t)):
  Calls Tryz.prog 44 #[.pointer (some ⟨j,0,none⟩),.int .i64 (size:Int),.func (.func 25) #[.pointer (some ⟨st,0,none⟩)] #[]] w fun e w'=>e=.returned (.bool true)/\Jy w w' j d v 16384 (fileO (some ⟨(recB t).toArray⟩)):=by
 have hJ1:=h.set1 16384;have t1:Tch [j] w (w.setCell ⟨j,1,none⟩ (.int .i64 16384)):=(Tch.refl _ _).setCell (fun _=>by simp) _;have HSW:Hid (Calls Tryz.prog 67 #[.pointer (some ⟨j,0,none⟩)] (w.setCell ⟨j,1,none⟩ (.int .i64 16384)) fun e w'=>e=.returned (.bool true)/\w'=w.setCell ⟨j,1,none⟩ (.int .i64 16384)):=sweep_x j d 16384 v n k _ o hJ1;have HWH:Hid (zT 25 #[.pointer (some ⟨st,0,none⟩)] (w.setCell ⟨j,1,none⟩ (.int .i64 16384)) (.string t)):=hW _ t1;have HJ1:=zH hJ1;have HT1:=zH t1;have HTB:=zH hT;have eg65:∀args w,(callFunc 25 args).run Tryz.prog w=.ok (.enter 25 args) w:=enters_of Tryz.func25 (by kernel_rfl) rfl;have c1:=h.c1;have f1:=h.fz 1;clear h hJ1 hT hW t1;go_enter Tryz.func44,Tryz.ntmps44;go_wp2_with fail;refine HSW.out.mono ?_;rintro e w2 ⟨rfl,hw2⟩;rw[<-hw2]at HWH HJ1 HT1;clear hw2 c1 f1 HSW;go_wp2_with fail;refine HWH.out.mono ?_;rintro e w3 ⟨rfl,ht3⟩;have hw3:=HT1.out.trans ht3 (by simp);have hJ3:=HJ1.out.tch ht3 (by simp);have hz3:=hw3.size;clear HWH;go_wp2_with fail;refine(record_any t w3 (by omega) (HTB.out.below (B:=3) (hw3.below (by simpa using hj3) h3) (by decide)) (by omega)).mono ?_;rintro e w4 ⟨rv,rfl,ho,hb4⟩;have hstr:(convert 54 9 rv).run Tryz.prog w4=.ok (.string ⟨(recB t).toArray⟩) w4:=OwnB.str ho (by rw[recB_length];omega);have hJ4:=hJ3.tch (Tch.of_below hb4) (by simp);have hrz:(⟨(recB t).toArray⟩:ByteArray).size=8+t.size:=by show (recB t).toArray.size=_;rw[List.size_toArray,recB_length]
 have HRP:Hid (Calls Tryz.prog 68 #[.pointer (some ⟨j,0,none⟩),.string ⟨(recB t).toArray⟩] w4 fun e w'=>e=.returned (.bool true)/\Jy w4 w' j d v 16384 (fileO (some ⟨(recB t).toArray⟩))):=by
  have h1:=replace_x j d 16384 v (fileO o) n k ⟨(recB t).toArray⟩ w4 hJ4 hn (by omega);rw[rep_fs]at h1;exact h1
 have HT4:=zH (hw3.trans (Tch.of_below hb4) (by simp));clear ho hb4 hJ4 hJ3 hw3 ht3 hrz;generalize hRR:(⟨(recB t).toArray⟩:ByteArray)=R at*
 go_wp2_with fail;refine HRP.out.mono ?_;rintro e w5 ⟨rfl,hl⟩;have HL:=zH hl;clear hl hstr;go_wp2_with fail;go_ret;obtain⟨v',n',k',hj',ht',hb'⟩:=HL.out
 try rw[hRR]
 have hz:=HT4.out.size;refine⟨rfl,v',n',k',hj',(HT4.out.sub (by simp[jbl])).trans ht' (fun _ h _=>h),fun b hb=>?_⟩
 rcases hb' b hb with h|h
 ·exact .inl h
 ·exact .inr (by omega)
theorem lay_xw (j d:Nat)(room room2:Int)(v:Value)(fs fs2:List Dk.DF)(n k base:Nat)(rv F:Value)(rec:List UInt8)(w:World)(h:Jr w j d room v fs n k)(ho:OwnB w base rv rec)(hpos:0<rec.length)(hrl:rec.length<=1048576)(hl2:fs2.length<=10)(hk2:∀f∈fs2,f.safe<=f.data.size/\f.data.size+rec.length<=1073741824)(hr:-1000000000<=room2/\room2<=1048576)
  (hM:Calls Tryz.prog 44 #[.pointer (some ⟨j,0,none⟩),.int .i64 (rec.length:Int),F] w fun e w'=>e=.returned (.bool true)/\Jy w w' j d v room2 fs2):
  Calls Tryz.prog 24 #[.pointer (some ⟨j,0,none⟩),rv,F] w fun e w'=>e=.returned (.bool true)/\Jy w w' j d v (room2-rec.length) (Dk.syncF jn (Dk.appF jn ⟨rec.toArray⟩ fs2)):=by
 have HM:=zH hM;have hne:rv.ownBlock≠some j:=own_ne ho h.hj (by decide);have HAP:Hid (∀b,rv.ownBlock=some b->b∉jbl j d v):=fun b hb hm=>by
  rcases List.mem_cons.1 hm with e|e
  ·exact hne (e▸hb)
  ·rcases List.mem_cons.1 e with e|e
   ·exact own_ne ho h.dsk.blk (by decide) (e▸hb)
   ·rcases ho.2 with ⟨rfl,_⟩|⟨g,cap,cur,rfl,_,hg,_⟩
    ·simp[Value.ownBlock]at hb
    ·simp[Value.ownBlock]at hb;subst hb;exact own_ne h.dsk.own hg (by decide) (by simpa [Option.mem_toList]using e)
 obtain⟨g,cap,hrv⟩:=OwnB.slc ho hpos;have HO:=zH ho;have HRV:=zH hrv;subst hrv;have HK2:=zH hk2;have c2:=h.c2;clear h hM ho hne hk2;generalize hL:rec.length=L at*
 go_enter Tryz.func24,Tryz.ntmps24;go_wp2_with fail;refine HM.out.mono ?_;rintro e w1 ⟨rfl,v1,n1,k1,hj1,ht1,hb1⟩;have ho1:=own_tch HO.out ht1 HAP.out;have hstr:=OwnB.str ho1 (by omega);have hrz:(⟨rec.toArray⟩:ByteArray).size=L:=by show rec.toArray.size=_;rw[List.size_toArray,hL]
 have HAD:Hid (Calls Tryz.prog 45 #[.pointer (some ⟨j,0,none⟩),.string ⟨rec.toArray⟩] w1 fun e w'=>e=.returned (.bool true)/\Jy w1 w' j d v1 (room2-L) (Dk.syncF jn (Dk.appF jn ⟨rec.toArray⟩ fs2))):=by
  have hj2:Jr w1 j d room2 v1 fs2 10 (1073741824-L):=⟨hj1.hj,hj1.dsk,⟨hj1.gd.left,hl2,fun f hf=>⟨(HK2.out f hf).1,by have:=(HK2.out f hf).2;omega⟩⟩⟩
  have h1:=add_x j d room2 v1 fs2 10 (1073741824-L) ⟨rec.toArray⟩ w1 hj2 (by decide) (by omega) (by omega) (by omega);rw[hrz]at h1;exact h1
 have HT1:Hid (Tch (jbl j d v) w w1/\∀b,v1.ownBlock=some b->v.ownBlock=some b\/w.heap.size<=b):=⟨ht1,hb1⟩;clear hj1 ht1 hb1 ho1 c2;generalize hRR:(⟨rec.toArray⟩:ByteArray)=R at*
 go_wp2_with fail;refine HAD.out.mono ?_;rintro e w2 ⟨rfl,hl⟩;obtain⟨v2,n2,k2,hj2,ht2,hb2⟩:=Jy.trans HT1.out.1 HT1.out.2 hl;have HJ2:=zH hj2;have HT2:Hid (Tch (jbl j d v) w w2/\∀b,v2.ownBlock=some b->v.ownBlock=some b\/w.heap.size<=b):=⟨ht2,hb2⟩;have d2:=hj2.c2;have f2:=hj2.fz 2;clear hl hj2 ht2 hb2 hstr;go_wp2_with fail;go_ret
 try rw[hRR]
 exact⟨rfl,v2,n2,k2,HJ2.out.set2,HT2.out.1.setCell (fun _=>by simp[jbl]) _,HT2.out.2⟩
def layO (o:Option ByteArray)(room:Int)(rec:List UInt8)(t:ByteArray):ByteArray×Int:=
 if (rec.length:Int)<=room then (datO o++⟨rec.toArray⟩,room-rec.length) else (⟨(recB t).toArray⟩++⟨rec.toArray⟩,16384-rec.length)
theorem lay_x (j d st:Nat)(room:Int)(v:Value)(o:Option ByteArray)(n k base:Nat)(t:ByteArray)(rv:Value)(rec:List UInt8)(w:World)(h:Jr w j d room v (fileO o) n k)(ho:OwnB w base rv rec)(hpos:0<rec.length)(hrl:rec.length<=1048576)(hr:-1000000000<=room/\room<=16384)(hsz:(datO o).size<=500000000)(htz:t.size<=1048576)(hT:Tab w)(h3:3<=w.heap.size)(hj3:3<=j)
  (hW:∀W,Tch [j] w W->zT 25 #[.pointer (some ⟨st,0,none⟩)] W (.string t)):
  Calls Tryz.prog 24 #[.pointer (some ⟨j,0,none⟩),rv,.func (.func 25) #[.pointer (some ⟨st,0,none⟩)] #[]] w fun e w'=>e=.returned (.bool true)/\Jy w w' j d v (layO o room rec t).2 (fileO (some (layO o room rec t).1)):=by
 have hd:∀f∈fileO o,f.safe<=f.data.size/\f.data.size<=500000000:=fun f hf=>by
  cases o with
  | none=>simp[fileO]at hf
  | some data=>
   simp only[fileO,List.mem_singleton]at hf;subst hf;exact⟨Nat.le_refl _,hsz⟩
 have hlen:(fileO o).length<=10:=by cases o<;>simp[fileO]
 have hj:Jr w j d room v (fileO o) 10 500000000:=⟨h.hj,h.dsk,⟨h.gd.left,hlen,hd⟩⟩
 by_cases hc:(rec.length:Int)<=room
 ·have e:layO o room rec t=(datO o++⟨rec.toArray⟩,room-rec.length):=if_pos hc;rw[e];have h1:=lay_xw j d room room v (fileO o) (fileO o) 10 500000000 base rv (.func (.func 25) #[.pointer (some ⟨st,0,none⟩)] #[]) rec w hj ho hpos hrl hlen (fun f hf=>⟨(hd f hf).1,by have:=(hd f hf).2;omega⟩) (by omega) (room_yx j d room v (fileO o) 10 500000000 rec.length _ w hj hc);rw[add_fs]at h1;exact h1
 ·have e:layO o room rec t=((⟨(recB t).toArray⟩:ByteArray)++(⟨rec.toArray⟩:ByteArray),(16384-rec.length:Int)):=if_neg hc;rw[e];have hrz:(⟨(recB t).toArray⟩:ByteArray).size=8+t.size:=by show (recB t).toArray.size=_;rw[List.size_toArray,recB_length]
  have h1:=lay_xw j d room 16384 v (fileO o) (fileO (some ⟨(recB t).toArray⟩)) 10 500000000 base rv (.func (.func 25) #[.pointer (some ⟨st,0,none⟩)] #[]) rec w hj ho hpos hrl (by simp[fileO]) (fun f hf=>by
   simp only[fileO,List.mem_singleton]at hf;subst hf;refine⟨Nat.le_refl _,?_⟩
   show (⟨(recB t).toArray⟩:ByteArray).size+_<=_
   omega) (by omega) (room_x j d st v 10 500000000 rec.length w room o t hj (by omega) hrl (by decide) (by decide) htz hT h3 hj3 hW)
  rw[add_fs]at h1;exact h1
end Go.Proofs.YtbdobaapadlcjabGreatDoor
namespace Go.Proofs.YtbdobaapadlcjabGreatDoor
def BA (l:List UInt8):ByteArray:=⟨l.toArray⟩
theorem BA_list (l:List UInt8):(BA l).data.toList=l:=rfl
theorem BA_size (l:List UInt8):(BA l).size=l.length:=by simp[BA,ByteArray.size]
theorem ext_list {s t:ByteArray}(h:s.data.toList=t.data.toList):s=t:=ByteArray.ext (Array.toList_inj.1 h)
theorem tk_list (s:ByteArray)(n:Nat)(h:n<=s.size):(tk s n).data.toList=s.data.toList.take n:=by
 rw[tk,if_pos h,Lib.extract_data];simp
theorem lf_list (s:ByteArray)(n:Nat)(h:n<=s.size):(lf s n).data.toList=s.data.toList.drop n:=by
 rw[lf,if_pos h,Lib.extract_data];have:s.size=s.data.toList.length:=rfl;rw[this,List.take_of_length_le (by simp)]
theorem tk_app (p q:List UInt8):tk (BA (p++q)) p.length=BA p:=by
 apply ext_list;rw[tk_list _ _ (by rw[BA_size];simp),BA_list,BA_list,List.take_left]
theorem lf_app (p q:List UInt8):lf (BA (p++q)) p.length=BA q:=by
 apply ext_list;rw[lf_list _ _ (by rw[BA_size];simp),BA_list,BA_list,List.drop_left]
theorem bad_app (p q:List UInt8)(f:Bool):bad (BA (p++q)) f p.length=f:=by
 rw[bad,if_pos (by rw[BA_size];simp)]
theorem leN_low1 (n:Nat):leN (lowB n 1)=n % 256:=by
 have h:(UInt8.ofNat (n % 256)).toNat=n % 256:=UInt8.toNat_ofNat_of_lt' (by have:=Nat.mod_lt n (show 0<256 by decide);simpa using this);have e:lowB n 1=[UInt8.ofNat (n % 256)]:=by simp[lowB]
 rw[e]
 show (UInt8.ofNat (n % 256)).toNat+256*0=_
 omega
theorem leN_low2 (n:Nat):leN (lowB n 2)=n % 65536:=by
 have h:∀m:Nat,(UInt8.ofNat (m % 256)).toNat=m % 256:=fun m=>UInt8.toNat_ofNat_of_lt' (by have:=Nat.mod_lt m (show 0<256 by decide);simpa using this)
 have e:lowB n 2=[UInt8.ofNat (n % 256),UInt8.ofNat (n / 256 % 256)]:=by simp[lowB,List.range_succ]
 rw[e]
 show (UInt8.ofNat (n % 256)).toNat+256*((UInt8.ofNat (n / 256 % 256)).toNat+256*0)=_
 rw[h,h];omega
theorem nm_low1 (n:Nat)(q:List UInt8)(h:n<256):nmN (BA (lowB n 1++q)) 1=n:=by
 have e:=tk_app (lowB n 1) q;rw[lowB_length]at e;rw[nmN,e,BA_list,leN_low1];omega
theorem nm_low2 (n:Nat)(q:List UInt8)(h:n<65536):nmN (BA (lowB n 2++q)) 2=n:=by
 have e:=tk_app (lowB n 2) q;rw[lowB_length]at e;rw[nmN,e,BA_list,leN_low2];omega
theorem nm_byte (c:UInt8)(q:List UInt8):UInt8.ofNat (nmN (BA ([c]++q)) 1 % 256)=c:=by
 have e:=tk_app [c] q;rw[show [c].length=1 from rfl]at e
 have h:nmN (BA ([c]++q)) 1=c.toNat:=by
  rw[nmN,e,BA_list];simp[leN]
 have hc:=c.toNat_lt;rw[h,Nat.mod_eq_of_lt hc];simp
theorem tx_app (t:ByteArray)(q:List UInt8)(fl:Bool)(h:t.size<256):txS (BA (txtB t++q))=t/\txL (BA (txtB t++q))=BA q/\txF (BA (txtB t++q)) fl=fl:=by
 have hl:=lowB_length t.size 1;have e:txtB t++q=lowB t.size 1++(t.data.toList++q):=by rw[txtB,List.append_assoc]
 have h1:=lf_app (lowB t.size 1) (t.data.toList++q);have h2:=bad_app (lowB t.size 1) (t.data.toList++q) fl;rw[hl]at h1 h2;have h3:=nm_low1 t.size (t.data.toList++q) h;have h4:=tk_app t.data.toList q;have h5:=lf_app t.data.toList q;have h6:=bad_app t.data.toList q fl;have hs:t.data.toList.length=t.size:=rfl;rw[hs]at h4 h5 h6;rw[e];refine⟨?_,?_,?_⟩
 ·rw[txS,h3,h1,h4];rfl
 ·rw[txL,h3,h1,h5]
 ·rw[txF,h3,h1,h2,h6]
theorem rdS_cons (k:Nat)(s:ByteArray):rdS (k+1) s=rdS k (txL s):=by
 induction k with
 | zero=>rfl
 | succ k ih=>rw[rdS,ih];rfl
theorem rdF_cons (k:Nat)(s:ByteArray)(f:Bool):rdF (k+1) s f=rdF k (txL s) (txF s f):=by
 induction k with
 | zero=>rfl
 | succ k ih=>rw[rdF,ih,rdS_cons];rfl
theorem rdT_cons (k:Nat)(s:ByteArray):rdT (k+1) s=txS s::rdT k (txL s):=by
 induction k with
 | zero=>rfl
 | succ k ih=>rw[rdT,ih,rdS_cons];rfl
theorem rd_app (bs:List ByteArray)(q:List UInt8)(fl:Bool)(h:∀s∈bs,s.size<256):rdT bs.length (BA (txtsB bs++q))=bs/\rdS bs.length (BA (txtsB bs++q))=BA q/\rdF bs.length (BA (txtsB bs++q)) fl=fl:=by
 induction bs with
 | nil=>exact⟨rfl,rfl,rfl⟩
 | cons b bs ih=>
  have e:txtsB (b::bs)++q=txtB b++(txtsB bs++q):=by simp[txtsB]
  have h1:=tx_app b (txtsB bs++q) fl (h b List.mem_cons_self);have h2:=ih (fun s hs=>h s (List.mem_cons_of_mem _ hs));rw[e,List.length_cons,rdT_cons,rdS_cons,rdF_cons,h1.1,h1.2.1,h1.2.2,h2.1];exact⟨rfl,h2.2.1,h2.2.2⟩
def cp (r0 r:Wp.Rq)(f:Nat):Wp.Rq:=
 if f=0 then {r0 with q:=r.q}
 else if f=1 then {r0 with d:=r.d}
 else if f=2 then {r0 with vis:=r.vis}
 else if f=3 then {r0 with win:=r.win}
 else if f=4 then {r0 with rcv:=r.rcv}
 else if f=5 then {r0 with quo:=r.quo}
 else if f=6 then {r0 with mx:=r.mx}
 else if f=7 then {r0 with tic:=r.tic}
 else if f=8 then {r0 with tic:=r.tic}
 else if f=9 then {r0 with grp:=r.grp}
 else if f=10 then {r0 with ded:=r.ded}
 else if f=11 then {r0 with bod:=r.bod}
 else if f=12 then {r0 with att:=r.att}
 else if f=13 then {r0 with han:=r.han}
 else r0
theorem read_enc (r0 r:Wp.Rq)(bs:List ByteArray)(f:Nat)(q:List UInt8)(fl:Bool)(hf:f<15)(h:r.fits bs.length (Wp.short bs) f=true):
  setR r0 (BA (encF r bs f++q)) f=cp r0 r f/\stS (BA (encF r bs f++q)) f=BA q/\stF (BA (encF r bs f++q)) fl f=fl/\(f=14->rdT (nmN (BA (encF r bs f++q)) 1) (lf (BA (encF r bs f++q)) 1)=bs):=by
 have hx:f=0\/f=1\/f=2\/f=3\/f=4\/f=5\/f=6\/f=7\/f=8\/f=9\/f=10\/f=11\/f=12\/f=13\/f=14:=by omega
 rcases hx with rfl|rfl|rfl|rfl|rfl|rfl|rfl|rfl|rfl|rfl|rfl|rfl|rfl|rfl|rfl
 ·have e:encF r bs 0=[r.q]:=rfl;rw[e];refine⟨?_,lf_app [r.q] q,bad_app [r.q] q fl,fun h=>by cases h⟩
  show {r0 with q:=UInt8.ofNat (nmN (BA ([r.q]++q)) 1 % 256)}={r0 with q:=r.q}
  rw[nm_byte]
 ·have e:encF r bs 1=[r.d]:=rfl;rw[e];refine⟨?_,lf_app [r.d] q,bad_app [r.d] q fl,fun h=>by cases h⟩
  show {r0 with d:=UInt8.ofNat (nmN (BA ([r.d]++q)) 1 % 256)}={r0 with d:=r.d}
  rw[nm_byte]
 ·have hb1:1<=r.vis:=(fits_bounds r bs 2 (by decide) h).1;have hb2:r.vis<=1000:=(fits_bounds r bs 2 (by decide) h).2;have e:encF r bs 2=lowB r.vis.toNat 2:=rfl;have hl:=lowB_length r.vis.toNat 2;have h1:=lf_app (lowB r.vis.toNat 2) q;have h2:=bad_app (lowB r.vis.toNat 2) q fl;rw[hl]at h1 h2;rw[e];refine⟨?_,h1,h2,fun h=>by cases h⟩
  show {r0 with vis:=((nmN (BA (lowB r.vis.toNat 2++q)) 2:Nat):Int)}={r0 with vis:=r.vis}
  rw[nm_low2 _ _ (by omega),show ((r.vis.toNat:Nat):Int)=r.vis by omega]
 ·have hb1:0<=r.win:=(fits_bounds r bs 3 (by decide) h).1;have hb2:r.win<=1000:=(fits_bounds r bs 3 (by decide) h).2;have e:encF r bs 3=lowB r.win.toNat 2:=rfl;have hl:=lowB_length r.win.toNat 2;have h1:=lf_app (lowB r.win.toNat 2) q;have h2:=bad_app (lowB r.win.toNat 2) q fl;rw[hl]at h1 h2;rw[e];refine⟨?_,h1,h2,fun h=>by cases h⟩
  show {r0 with win:=((nmN (BA (lowB r.win.toNat 2++q)) 2:Nat):Int)}={r0 with win:=r.win}
  rw[nm_low2 _ _ (by omega),show ((r.win.toNat:Nat):Int)=r.win by omega]
 ·have hb1:0<=r.rcv:=(fits_bounds r bs 4 (by decide) h).1;have hb2:r.rcv<=9:=(fits_bounds r bs 4 (by decide) h).2;have e:encF r bs 4=lowB r.rcv.toNat 1:=rfl;have hl:=lowB_length r.rcv.toNat 1;have h1:=lf_app (lowB r.rcv.toNat 1) q;have h2:=bad_app (lowB r.rcv.toNat 1) q fl;rw[hl]at h1 h2;rw[e];refine⟨?_,h1,h2,fun h=>by cases h⟩
  show {r0 with rcv:=((nmN (BA (lowB r.rcv.toNat 1++q)) 1:Nat):Int)}={r0 with rcv:=r.rcv}
  rw[nm_low1 _ _ (by omega),show ((r.rcv.toNat:Nat):Int)=r.rcv by omega]
 ·have hb1:1<=r.quo:=(fits_bounds r bs 5 (by decide) h).1;have hb2:r.quo<=50:=(fits_bounds r bs 5 (by decide) h).2;have e:encF r bs 5=lowB r.quo.toNat 1:=rfl;have hl:=lowB_length r.quo.toNat 1;have h1:=lf_app (lowB r.quo.toNat 1) q;have h2:=bad_app (lowB r.quo.toNat 1) q fl;rw[hl]at h1 h2;rw[e];refine⟨?_,h1,h2,fun h=>by cases h⟩
  show {r0 with quo:=((nmN (BA (lowB r.quo.toNat 1++q)) 1:Nat):Int)}={r0 with quo:=r.quo}
  rw[nm_low1 _ _ (by omega),show ((r.quo.toNat:Nat):Int)=r.quo by omega]
 ·have hb1:1<=r.mx:=(fits_bounds r bs 6 (by decide) h).1;have hb2:r.mx<=10:=(fits_bounds r bs 6 (by decide) h).2;have e:encF r bs 6=lowB r.mx.toNat 1:=rfl;have hl:=lowB_length r.mx.toNat 1;have h1:=lf_app (lowB r.mx.toNat 1) q;have h2:=bad_app (lowB r.mx.toNat 1) q fl;rw[hl]at h1 h2;rw[e];refine⟨?_,h1,h2,fun h=>by cases h⟩
  show {r0 with mx:=((nmN (BA (lowB r.mx.toNat 1++q)) 1:Nat):Int)}={r0 with mx:=r.mx}
  rw[nm_low1 _ _ (by omega),show ((r.mx.toNat:Nat):Int)=r.mx by omega]
 ·have hb1:0<=r.tic:=(fits_bounds r bs 7 (by decide) h).1;have hb2:r.tic<=1000:=(fits_bounds r bs 7 (by decide) h).2;have e:encF r bs 7=lowB r.tic.toNat 2:=rfl;have hl:=lowB_length r.tic.toNat 2;have h1:=lf_app (lowB r.tic.toNat 2) q;have h2:=bad_app (lowB r.tic.toNat 2) q fl;rw[hl]at h1 h2;rw[e];refine⟨?_,h1,h2,fun h=>by cases h⟩
  show {r0 with tic:=((nmN (BA (lowB r.tic.toNat 2++q)) 2:Nat):Int)}={r0 with tic:=r.tic}
  rw[nm_low2 _ _ (by omega),show ((r.tic.toNat:Nat):Int)=r.tic by omega]
 ·have hb1:1<=r.tic:=(fits_bounds r bs 8 (by decide) h).1;have hb2:r.tic<=1000:=(fits_bounds r bs 8 (by decide) h).2;have e:encF r bs 8=lowB r.tic.toNat 2:=rfl;have hl:=lowB_length r.tic.toNat 2;have h1:=lf_app (lowB r.tic.toNat 2) q;have h2:=bad_app (lowB r.tic.toNat 2) q fl;rw[hl]at h1 h2;rw[e];refine⟨?_,h1,h2,fun h=>by cases h⟩
  show {r0 with tic:=((nmN (BA (lowB r.tic.toNat 2++q)) 2:Nat):Int)}={r0 with tic:=r.tic}
  rw[nm_low2 _ _ (by omega),show ((r.tic.toNat:Nat):Int)=r.tic by omega]
 ·have hb2:((r.grp.size:Nat):Int)<=8:=(fits_bounds r bs 9 (by decide) h).2;have e:encF r bs 9=txtB r.grp:=rfl;rw[e];have ht:=tx_app r.grp q fl (by omega);refine⟨?_,ht.2.1,ht.2.2,fun h=>by cases h⟩
  show {r0 with grp:=txS (BA (txtB r.grp++q))}={r0 with grp:=r.grp}
  rw[ht.1]
 ·have hb2:((r.ded.size:Nat):Int)<=8:=(fits_bounds r bs 10 (by decide) h).2;have e:encF r bs 10=txtB r.ded:=rfl;rw[e];have ht:=tx_app r.ded q fl (by omega);refine⟨?_,ht.2.1,ht.2.2,fun h=>by cases h⟩
  show {r0 with ded:=txS (BA (txtB r.ded++q))}={r0 with ded:=r.ded}
  rw[ht.1]
 ·have hb2:((r.bod.size:Nat):Int)<=255:=(fits_bounds r bs 11 (by decide) h).2;have e:encF r bs 11=txtB r.bod:=rfl;rw[e];have ht:=tx_app r.bod q fl (by omega);refine⟨?_,ht.2.1,ht.2.2,fun h=>by cases h⟩
  show {r0 with bod:=txS (BA (txtB r.bod++q))}={r0 with bod:=r.bod}
  rw[ht.1]
 ·have hb2:((r.att.size:Nat):Int)<=8:=(fits_bounds r bs 12 (by decide) h).2;have e:encF r bs 12=txtB r.att:=rfl;rw[e];have ht:=tx_app r.att q fl (by omega);refine⟨?_,ht.2.1,ht.2.2,fun h=>by cases h⟩
  show {r0 with att:=txS (BA (txtB r.att++q))}={r0 with att:=r.att}
  rw[ht.1]
 ·have hb2:((r.han.size:Nat):Int)<=255:=(fits_bounds r bs 13 (by decide) h).2;have e:encF r bs 13=txtB r.han:=rfl;rw[e];have ht:=tx_app r.han q fl (by omega);refine⟨?_,ht.2.1,ht.2.2,fun h=>by cases h⟩
  show {r0 with han:=txS (BA (txtB r.han++q))}={r0 with han:=r.han}
  rw[ht.1]
 ·have hb2:((bs.length:Nat):Int)<=10:=(fits_bounds r bs 14 (by decide) h).2;have hsh:=fits_short r bs h;have e:encF r bs 14=lowB bs.length 1++txtsB bs:=rfl;rw[e,List.append_assoc];have hl:=lowB_length bs.length 1;have h1:=lf_app (lowB bs.length 1) (txtsB bs++q);have h2:=bad_app (lowB bs.length 1) (txtsB bs++q) fl;rw[hl]at h1 h2;have h3:=nm_low1 bs.length (txtsB bs++q) (by omega);have h4:=rd_app bs q fl (fun s hs=>by have:=hsh s hs;omega);refine⟨rfl,?_,?_,fun _=>?_⟩
  ·show rdS (nmN _ 1) (lf _ 1)=_
   rw[h3,h1];exact h4.2.1
  ·show rdF (nmN _ 1) (lf _ 1) (bad _ fl 1)=_
   rw[h3,h1,h2];exact h4.2.2
  ·rw[h3,h1];exact h4.1
def i64 (n:Int):Prop:=-9223372036854775808<=n/\n<=9223372036854775807
structure Wf (r:Wp.Rq):Prop where
 vis:i64 r.vis
 win:i64 r.win
 rcv:i64 r.rcv
 quo:i64 r.quo
 mx:i64 r.mx
 tic:i64 r.tic
theorem wrap_i64 (n:Int):i64 (IntKind.i64.wrap n):=by
 unfold i64;simp[IntKind.wrap,IntKind.bits,IntKind.signed]
 split<;>omega
theorem ofInt_zero (a:Int)(ha:i64 a)(h:BitVec.ofInt 64 a=0#64):a=0:=by
 have h1:=congrArg BitVec.toInt h;rw[BitVec.toInt_ofInt,BitVec.toInt_zero]at h1;unfold i64 at ha;unfold Int.bmod at h1;dsimp only at h1
 split at h1<;>omega
theorem or_zero_iff (a b:Int)(ha:i64 a)(hb:i64 b):bits .or .i64 a b=0↔a=0/\b=0:=by
 constructor
 ·intro h;have h0:IntKind.i64.wrap ((BitVec.ofInt 64 a ||| BitVec.ofInt 64 b).toNat:Int)=0:=h;have hz:(BitVec.ofInt 64 a ||| BitVec.ofInt 64 b).toNat=0:=by
   have hlt:=(BitVec.ofInt 64 a ||| BitVec.ofInt 64 b).isLt;generalize (BitVec.ofInt 64 a ||| BitVec.ofInt 64 b).toNat=n at h0 hlt;simp[IntKind.wrap,IntKind.bits,IntKind.signed]at h0
   split at h0<;>omega
  have hv:BitVec.ofInt 64 a ||| BitVec.ofInt 64 b=0#64:=BitVec.eq_of_toNat_eq (by rw[hz];rfl);have hab:=BitVec.or_eq_zero_iff.1 hv;exact⟨ofInt_zero a ha hab.1,ofInt_zero b hb hab.2⟩
 ·rintro ⟨rfl,rfl⟩;decide
theorem or_i64_range (a b:Int):i64 (bits .or .i64 a b):=wrap_i64 _
theorem or_byte (a b:Nat)(ha:a<256)(hb:b<256):bits .or .u8 (a:Int) (b:Int)=0↔a=0/\b=0:=by
 rw[u8_or_nat a b ha hb];constructor
 ·intro h;have h1:a ||| b=0:=by omega
  exact Nat.or_eq_zero_iff.1 h1
 ·rintro ⟨rfl,rfl⟩;rfl
theorem or_byte_lt (a b:Nat)(ha:a<256)(hb:b<256):∃c:Nat,bits .or .u8 (a:Int) (b:Int)=(c:Int)/\c<256/\(c=0↔a=0/\b=0):=
 ⟨a ||| b,u8_or_nat a b ha hb,by have:=Nat.or_lt_two_pow (n:=8) (x:=a) (y:=b) (by omega) (by omega);omega,Nat.or_eq_zero_iff⟩
theorem empty_iff (s:ByteArray):s.toList.isEmpty=true↔s=⟨#[]⟩:=by
 constructor
 ·intro h;apply ByteArray.ext;apply Array.eq_empty_of_size_eq_zero;have:¬0<s.size:=fun hs=>by rw[str_ne hs]at h;cases h
  have e:s.size=s.data.size:=rfl;omega
 ·rintro rfl;exact str_em (s:=⟨#[]⟩) (by show ¬0<0;omega)
theorem byte_zero (c:UInt8):c.toNat=0↔c=0:=⟨fun h=>UInt8.toNat_inj.1 h,fun h=>by rw[h];rfl⟩
theorem blank_iff (r:Wp.Rq)(n:Nat)(h:Wf r):blankW r n=true↔r=opR 0/\n=0:=by
 obtain⟨c,hc,hc2,hc3⟩:=or_byte_lt r.op.toNat r.q.toNat r.op.toNat_lt r.q.toNat_lt;unfold blankW;rw[hc];simp only[Bool.and_eq_true,beq_iff_eq,or_byte c r.d.toNat hc2 r.d.toNat_lt,hc3,or_zero_iff _ _ (or_i64_range _ _) h.tic,or_zero_iff _ _ (or_i64_range _ _) h.mx,or_zero_iff _ _ (or_i64_range _ _) h.quo,or_zero_iff _ _ (or_i64_range _ _) h.rcv,or_zero_iff _ _ h.vis h.win,empty_iff,byte_zero];constructor
 ·rintro ⟨⟨⟨⟨⟨h1,h2⟩,h3⟩,⟨⟨⟨⟨h4,h5⟩,h6⟩,h7⟩,h8⟩,h9⟩,⟨⟨⟨h10,h11⟩,h12⟩,h13⟩,h14⟩,h15⟩;refine⟨?_,by omega⟩
  cases r
  simp only at*
  subst h1 h2 h3 h4 h5 h6 h7 h8 h9 h10 h11 h12 h13 h14;rfl
 ·rintro ⟨rfl,rfl⟩;exact⟨⟨⟨⟨⟨rfl,rfl⟩,rfl⟩,⟨⟨⟨⟨rfl,rfl⟩,rfl⟩,rfl⟩,rfl⟩,rfl⟩,⟨⟨⟨rfl,rfl⟩,rfl⟩,rfl⟩,rfl⟩,rfl⟩
theorem ite_wf {c:Prop} [Decidable c] {a b:Wp.Rq}(ha:Wf a)(hb:Wf b):Wf (if c then a else b):=by
 by_cases h:c
 ·rw[if_pos h];exact ha
 ·rw[if_neg h];exact hb
theorem er_wf (r:Wp.Rq)(f:Nat)(h:Wf r):Wf (er r f):=by
 have hz:i64 0:=by unfold i64;omega
 obtain⟨h1,h2,h3,h4,h5,h6⟩:=h;unfold er
 repeat' (refine ite_wf ?_ ?_)
 all_goals exact⟨by first|exact h1|exact hz,by first|exact h2|exact hz,by first|exact h3|exact hz,by first|exact h4|exact hz,by first|exact h5|exact hz,by first|exact h6|exact hz⟩
theorem erAll_wf (r:Wp.Rq)(L:List Nat)(h:Wf r):Wf (erAll r L):=by
 unfold erAll
 induction L generalizing r with
 | nil=>exact h
 | cons f L ih=>exact ih _ (er_wf r f h)
def opsAt:List Nat:=[0,1,2,4,15,17,18,19,21,23]
theorem isOp_at (op:UInt8):Wp.isOp op=true↔∃i∈opsAt,op.toNat=65+i:=by
 have h1:∀a:Fin 26,0<(Wp.lay a.val).length↔a.val∈opsAt:=by decide
 have h2:∀i∈opsAt,i<26:=by decide
 simp only[Wp.isOp,Bool.and_eq_true,decide_eq_true_eq];constructor
 ·rintro ⟨⟨a,b⟩,c⟩;exact⟨op.toNat-65,(h1 ⟨op.toNat-65,by omega⟩).1 c,by omega⟩
 ·rintro ⟨i,hi,he⟩;have:=h2 i hi;refine⟨⟨by omega,by omega⟩,?_⟩;rw[he,Nat.add_sub_cancel_left];exact(h1 ⟨i,this⟩).2 hi
theorem right_iff (r:Wp.Rq)(x:Sl)(b:Bool)(h:Wf r):rightW r x b=true↔∃i∈opsAt,r.op.toNat=65+i/\(Wp.lay i).all (r.fits x.n b)=true/\erAll {r with op:=0} (Wp.lay i)=opR 0/\(ebAll x (Wp.lay i)).n=0:=by
 have hw:Wf {r with op:=0}:=⟨h.vis,h.win,h.rcv,h.quo,h.mx,h.tic⟩;unfold rightW;rw[Bool.and_eq_true,Bool.and_eq_true,isOp_at,blank_iff _ _ (erAll_wf _ _ hw)];constructor
 ·rintro ⟨⟨i,hi,he⟩,h1,h2,h3⟩;rw[he,Nat.add_sub_cancel_left]at h1 h2 h3;exact⟨i,hi,he,h1,h2,h3⟩
 ·rintro ⟨i,hi,he,h1,h2,h3⟩;rw[he,Nat.add_sub_cancel_left];exact⟨⟨i,hi,rfl⟩,h1,h2,h3⟩
theorem cp_right (r:Wp.Rq)(i:Nat)(hi:i∈opsAt)(he:erAll {r with op:=0} (Wp.lay i)=opR 0):(Wp.lay i).foldl (fun a f=>cp a r f) (opR r.op)=r:=by
 simp only[opsAt,List.mem_cons,List.not_mem_nil,or_false]at hi;obtain⟨op,q,d,vis,win,rcv,quo,mx,tic,grp,ded,bod,att,han⟩:=r;rcases hi with rfl|rfl|rfl|rfl|rfl|rfl|rfl|rfl|rfl|rfl<;>
  (simp[Wp.lay,Wp.layTab,erAll,er,opR]at he;simp[Wp.lay,Wp.layTab,cp,opR,he])
theorem eb_right (x:Sl)(i:Nat)(hi:i∈opsAt)(h:(ebAll x (Wp.lay i)).n=0):i=1\/x.n=0:=by
 simp only[opsAt,List.mem_cons,List.not_mem_nil,or_false]at hi;rcases hi with rfl|rfl|rfl|rfl|rfl|rfl|rfl|rfl|rfl|rfl<;>
  (simp[Wp.lay,Wp.layTab,ebAll,eb]at h ⊢;try exact h)
theorem run_enc (r:Wp.Rq)(bs:List ByteArray)(q:List UInt8)(L:List Nat)(hL:∀f∈L,f<15)(hall:L.all (r.fits bs.length (Wp.short bs))=true)(t:St)(ht:t.s=BA (encL r bs L++q))(hf:t.fl=false):
  L.foldl stepSt t=⟨L.foldl (fun a f=>cp a r f) t.r,BA q,false,if 14∈L then bs else t.bs⟩:=by
 induction L generalizing t with
 | nil=>
  obtain⟨tr,ts,tf,tb⟩:=t;simp only at ht hf;subst ht hf;rfl
 | cons f L ih=>
  rw[List.all_cons,Bool.and_eq_true]at hall;have e:encL r bs (f::L)++q=encF r bs f++(encL r bs L++q):=by
   have e1:encL r bs (f::L)=encF r bs f++encL r bs L:=by simp[encL]
   rw[e1,List.append_assoc]
  rw[e]at ht;obtain⟨h1,h2,h3,h4⟩:=read_enc t.r r bs f (encL r bs L++q) t.fl (hL f List.mem_cons_self) hall.1;rw[<-ht]at h1 h2 h3 h4;rw[List.foldl_cons,ih (fun g hg=>hL g (List.mem_cons_of_mem _ hg)) hall.2 (stepSt t f) h2 (h3.trans hf)];have e2:(stepSt t f).r=cp t.r r f:=h1;have e3:(stepSt t f).bs=if f=14 then bs else t.bs:=by
   show (if f=14 then rdT (nmN t.s 1) (lf t.s 1) else t.bs)=_
   by_cases h14:f=14
   ·rw[if_pos h14,if_pos h14];exact h4 h14
   ·rw[if_neg h14,if_neg h14]
  rw[e2,e3,List.foldl_cons];congr 1
  by_cases h14:f=14
  ·subst h14;simp
  ·have:(14∈f::L)=(14∈L):=by simp[Ne.symm h14]
   rw[if_neg h14]
   by_cases hm:14∈L
   ·rw[if_pos hm,if_pos (by rw[this];exact hm)]
   ·rw[if_neg hm,if_neg (by rw[this];exact hm)]
theorem lay_fields (i:Nat)(hi:i∈opsAt):∀f∈Wp.lay i,f<15:=by
 have h2:∀i∈opsAt,∀f∈Wp.lay i,f<15:=by decide
 exact h2 i hi
theorem end_enc (r:Wp.Rq)(x:Sl)(bs:List ByteArray)(q:List UInt8)(hw:Wf r)(hxn:x.n=bs.length)(h:rightW r x (Wp.short bs)=true):
  endSt (BA (r.op::encL r bs (Wp.lay (r.op.toNat-65))++q))=⟨r,BA q,false,bs⟩/\opOf (BA (r.op::encL r bs (Wp.lay (r.op.toNat-65))++q))=r.op:=by
 obtain⟨i,hi,hop,hall,her,heb⟩:=(right_iff r x _ hw).1 h;rw[hop,Nat.add_sub_cancel_left];have ho:opOf (BA (r.op::encL r bs (Wp.lay i)++q))=r.op:=nm_byte r.op (encL r bs (Wp.lay i)++q);have h1:lf (BA (r.op::encL r bs (Wp.lay i)++q)) 1=BA (encL r bs (Wp.lay i)++q):=lf_app [r.op] (encL r bs (Wp.lay i)++q);have h2:bad (BA (r.op::encL r bs (Wp.lay i)++q)) false 1=false:=bad_app [r.op] (encL r bs (Wp.lay i)++q) false;refine⟨?_,ho⟩;unfold endSt runSt;rw[ho,hop,Nat.add_sub_cancel_left,h1,h2];rw[hxn]at hall;rw[run_enc r bs q (Wp.lay i) (lay_fields i hi) hall _ rfl rfl,cp_right r i hi her];congr 1
 by_cases h14:14∈Wp.lay i
 ·rw[if_pos h14]
 ·rw[if_neg h14];rcases eb_right x i hi heb with rfl|hn
  ·exact absurd (by decide) h14
  ·rw[hxn]at hn;exact(List.length_eq_zero_iff.1 hn).symm
theorem good_enc (r:Wp.Rq)(x:Sl)(bs:List ByteArray)(q:List UInt8)(hw:Wf r)(hxn:x.n=bs.length)(h:rightW r x (Wp.short bs)=true):
  parseGood (BA (r.op::encL r bs (Wp.lay (r.op.toNat-65))++q))=q.isEmpty:=by
 obtain⟨h1,h2⟩:=end_enc r x bs q hw hxn h;have hop:Wp.isOp r.op=true:=by
  unfold rightW at h;rw[Bool.and_eq_true]at h;exact h.1
 unfold parseGood;rw[h1,h2,hop,<-rightW_n r x ⟨none,bs.length,0⟩ (Wp.short bs) hxn,h]
 show (true&&(!false&&((BA q).toList.isEmpty&&true)))=_
 rw[ByteArray.toList_eq,BA_list];simp
end Go.Proofs.YtbdobaapadlcjabGreatDoor
