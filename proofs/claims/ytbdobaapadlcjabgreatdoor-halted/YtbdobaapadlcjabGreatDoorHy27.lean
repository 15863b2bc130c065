import Derived.Test.YtbdobaapadlcjabGreatDoorHy26
set_option maxRecDepth 8000
set_option maxHeartbeats 4000000
set_option linter.unusedVariables false
set_option linter.unusedSimpArgs false
namespace Go.Proofs.YtbdobaapadlcjabGreatDoor
open Go.RowKit
variable {w w' a c:World}{j d:Nat}{dn:Bool}{room L r2:Int}{v v1:Value}{fs ok:List Dk.DF}{S:List Nat}{l:List UInt8}
def GdL (fs:List Dk.DF):Prop:=fs.length<=3/\∀f∈fs,f.safe<=f.data.size/\f.data.size<=1000000
structure JL (w:World)(j d:Nat)(dn:Bool)(room:Int)(v:Value)(fs:List Dk.DF)(L:Int)(s:Bool):Prop where
 hj:w.heap[j]?=some (.cells #[.pointer (some ⟨d,0,none⟩),.int .i64 room,.bool dn] 85 (0,0))
 dsk:Dk.Dsk w 77 79 d v ⟨fs,L,s⟩
 lf:0<=L/\L<=1000
 gd:GdL fs
theorem JL.c0 {s:Bool}(h:JL w j d dn room v fs L s):w.cell? ⟨j,0,none⟩=some (.pointer (some ⟨d,0,none⟩)):=(cell_of_row w j 0 _ 85 (0,0) h.hj).trans rfl
theorem JL.c1 {s:Bool}(h:JL w j d dn room v fs L s):w.cell? ⟨j,1,none⟩=some (.int .i64 room):=(cell_of_row w j 1 _ 85 (0,0) h.hj).trans rfl
theorem JL.c2 {s:Bool}(h:JL w j d dn room v fs L s):w.cell? ⟨j,2,none⟩=some (.bool dn):=(cell_of_row w j 2 _ 85 (0,0) h.hj).trans rfl
theorem JL.fz {s:Bool}(h:JL w j d dn room v fs L s)(o:Nat):w.frozen? ⟨j,o,none⟩=false:=frozen_of_row w j o _ 85 h.hj
theorem JL.ne {s:Bool}(h:JL w j d dn room v fs L s):j∉Dk.bl d v:=fun hm=>by
 rcases List.mem_cons.1 hm with e|e
 ·have h1:=h.hj;have h2:w.heap[d]?=_:=h.dsk.blk;rw[<-e,h1]at h2;simp at h2
 ·exact own_ne h.dsk.own h.hj (by decide) (by simpa [Option.mem_toList]using e)
theorem JL.tj {s:Bool}(h:JL w j d dn room v fs L s):∀b∈Dk.bl d v,b∉[j]:=fun b hb hm=>by
 simp at hm;subst hm;exact h.ne hb
theorem JL.tch {s:Bool}(h:JL w j d dn room v fs L s){S:List Nat}(ht:Tch S w w')(hS:∀b∈jbl j d v,b∉S):JL w' j d dn room v fs L s:=
 ⟨(ht.block _ (lt_of_block h.hj) (hS _ (by simp[jbl]))).trans h.hj,h.dsk.tch ht (fun b hb=>hS b (List.mem_cons_of_mem _ hb)),h.lf,h.gd⟩
theorem JL.set1 {s:Bool}(h:JL w j d dn room v fs L s)(r:Int):JL (w.setCell ⟨j,1,none⟩ (.int .i64 r)) j d dn r v fs L s:=
 ⟨heap_setCell_same w j 1 _ 85 _ h.hj,h.dsk.tch ((Tch.refl [j] w).setCell (fun _=>by simp) _) h.tj,h.lf,h.gd⟩
theorem JL.set2 {s:Bool}(h:JL w j d dn room v fs L s)(b:Bool):JL (w.setCell ⟨j,2,none⟩ (.bool b)) j d b room v fs L s:=
 ⟨heap_setCell_same w j 2 _ 85 _ h.hj,h.dsk.tch ((Tch.refl [j] w).setCell (fun _=>by simp) _) h.tj,h.lf,h.gd⟩
def LY (w w':World)(j d:Nat)(v:Value)(dn:Bool)(room:Int)(fs:List Dk.DF)(L:Int)(s:Bool):Prop:=∃v',JL w' j d dn room v' fs L s/\Tch (jbl j d v) w w'/\∀b,v'.ownBlock=some b->v.ownBlock=some b\/w.heap.size<=b
theorem LY.trans {b:World}{fs2:List Dk.DF}{s:Bool}(h1:Tch (jbl j d v) a b)(hv:∀x,v1.ownBlock=some x->v.ownBlock=some x\/a.heap.size<=x)(h2:LY b c j d v1 dn r2 fs2 L s):LY a c j d v dn r2 fs2 L s:=by
 obtain⟨v',hj,ht,hb⟩:=h2;refine⟨v',hj,h1.trans ht (fun x hx hlt=>?_),fun x hx=>?_⟩
 ·rcases List.mem_cons.1 hx with e|e
  ·rw[e];simp[jbl]
  ·rcases List.mem_cons.1 e with e|e
   ·rw[e];simp[jbl,Dk.bl]
   ·rcases hv x (by simpa [Option.mem_toList]using e) with h|h
    ·simp[jbl,Dk.bl,h]
    ·omega
 ·rcases hb x hx with h|h
  ·exact hv x h
  ·exact .inr (Nat.le_trans h1.size h)
def Stp (w:World)(j d:Nat)(v:Value)(dn:Bool)(room:Int)(L:Int)(no ok:List Dk.DF)(e:Ending)(w':World):Prop:=(e=.returned (.bool true)/\∃L',L'<L/\LY w w' j d v dn room ok L' false)\/(e=.returned (.bool false)/\LY w w' j d v dn room no 0 true)
theorem JL.left {fs':List Dk.DF}{L':Int}{s:Bool}(h:JL w j d dn room v fs L false)(hl:Dk.Left w w' 77 79 d v ⟨fs',L',s⟩)(h0:0<=L'/\L'<=1000)(hg:GdL fs'):LY w w' j d v dn room fs' L' s:=by
 obtain⟨v',hd,ht,hb⟩:=hl;exact⟨v',⟨(ht.block _ (lt_of_block h.hj) h.ne).trans h.hj,hd,h0,hg⟩,ht.sub (fun x hx _=>List.mem_cons_of_mem _ hx),hb⟩
theorem stp_of (h:JL w j d dn room v fs L false)(hg:GdL ok)(hl:Dk.Left w w' 77 79 d v ⟨if Dk.stepOk L false=true then ok else fs,Dk.stepL L false,Dk.stepS L false⟩):Stp w j d v dn room L fs ok (.returned (.bool (Dk.stepOk L false))) w':=by
 have h0:=h.lf
 by_cases e:L=0
 ·obtain⟨h1,h2,h3⟩:=Dk.step_no (left:=L) (st:=false) (by rw[e];rfl);rw[h1,h2,h3]at hl;rw[h1];rw[e]at hl;exact .inr ⟨rfl,h.left hl (by omega) h.gd⟩
 ·obtain⟨h1,h2,h3⟩:=Dk.step_dn e (by omega);rw[h1,h2,h3]at hl;rw[h1];exact .inl ⟨rfl,L-1,by omega,h.left hl (by omega) hg⟩
theorem app_h (j d:Nat)(dn:Bool)(room:Int)(v:Value)(fs:List Dk.DF)(L:Int)(name data:ByteArray)(w:World)(h:JL w j d dn room v fs L false)(hz:data.size<=1000000)(hg:GdL (Dk.appF name data fs)):
  Calls Tryz.prog 69 #[.pointer (some ⟨d,0,none⟩),.string name,.string data] w (Stp w j d v dn room L fs (Dk.appF name data fs)):=by
 refine(Dk.append_d d v ⟨fs,L,false⟩ name data w h.dsk (by have:=h.lf;simp only;omega) (by have:=h.gd.1;simp only;omega) (fun f hf=>by have:=(h.gd.2 f hf).2;omega) (by omega)).mono ?_;rintro e w' ⟨rfl,hl⟩;exact stp_of h hg hl
theorem sync_h (j d:Nat)(dn:Bool)(room:Int)(v:Value)(fs:List Dk.DF)(L:Int)(name:ByteArray)(w:World)(h:JL w j d dn room v fs L false)(hg:GdL (Dk.syncF name fs)):
  Calls Tryz.prog 70 #[.pointer (some ⟨d,0,none⟩),.string name] w (Stp w j d v dn room L fs (Dk.syncF name fs)):=by
 refine(Dk.sync_d d v ⟨fs,L,false⟩ name w h.dsk (by have:=h.lf;simp only;omega) (by have:=h.gd.1;simp only;omega) (fun f hf=>by have:=(h.gd.2 f hf).2;omega)).mono ?_;rintro e w' ⟨rfl,hl⟩;exact stp_of h hg hl
theorem ren_h (j d:Nat)(dn:Bool)(room:Int)(v:Value)(fs:List Dk.DF)(L:Int)(frm tu:ByteArray)(w:World)(h:JL w j d dn room v fs L false)(hg:GdL (Dk.renF frm tu fs)):
  Calls Tryz.prog 93 #[.pointer (some ⟨d,0,none⟩),.string frm,.string tu] w (Stp w j d v dn room L fs (Dk.renF frm tu fs)):=by
 refine(Dk.rename_d d v ⟨fs,L,false⟩ frm tu w h.dsk (by have:=h.lf;simp only;omega) (by have:=h.gd.1;simp only;omega)).mono ?_;rintro e w' ⟨rfl,hl⟩;exact stp_of h hg hl
def Dn (w:World)(j d:Nat)(v:Value)(room2:Int)(Q:List Dk.DF->Prop)(dnf:Bool)(ok:List Dk.DF)(e:Ending)(w':World):Prop:=(e=.returned (.bool true)/\∃L,LY w w' j d v false room2 ok L false)\/(e=.returned (.bool false)/\∃r fs,Q fs/\LY w w' j d v dnf r fs 0 true)
theorem Dn.trans {b:World}{dnf:Bool}{Q:List Dk.DF->Prop}{e:Ending}(h1:Tch (jbl j d v) a b)(hv:∀x,v1.ownBlock=some x->v.ownBlock=some x\/a.heap.size<=x)(h2:Dn b j d v1 r2 Q dnf ok e c):Dn a j d v r2 Q dnf ok e c:=by
 rcases h2 with ⟨rfl,L,h⟩|⟨rfl,r,fs,hq,h⟩
 ·exact .inl ⟨rfl,L,h.trans h1 hv⟩
 ·exact .inr ⟨rfl,r,fs,hq,h.trans h1 hv⟩
theorem add_h (Q:List Dk.DF->Prop)(j d:Nat)(room:Int)(v:Value)(fs:List Dk.DF)(L:Int)(bytes:ByteArray)(w:World)(h:JL w j d false room v fs L false)(hr:-1073741824<=room/\room<=1073741824)(hb:bytes.size<=1000000)(hg1:GdL (Dk.appF jn bytes fs))(hg2:GdL (Dk.syncF jn (Dk.appF jn bytes fs)))(hq1:Q fs)(hq2:Q (Dk.appF jn bytes fs)):
  Calls Tryz.prog 45 #[.pointer (some ⟨j,0,none⟩),.string bytes] w (Dn w j d v (room-bytes.size) Q false (Dk.syncF jn (Dk.appF jn bytes fs))):=by
 have hJ1:=h.set1 (room-bytes.size);have T1:Hid (Tch (jbl j d v) w (w.setCell ⟨j,1,none⟩ (.int .i64 (room-bytes.size)))):=(Tch.refl _ _).setCell (fun _=>by simp[jbl]) _;have HA:=zH (app_h j d false _ v fs L jn bytes _ hJ1 hb hg1);have HS:Hid (∀w2 v2 L2,JL w2 j d false (room-bytes.size) v2 (Dk.appF jn bytes fs) L2 false->Calls Tryz.prog 70 #[.pointer (some ⟨d,0,none⟩),.string jn] w2 (Stp w2 j d v2 false (room-bytes.size) L2 (Dk.appF jn bytes fs) (Dk.syncF jn (Dk.appF jn bytes fs)))):=fun w2 v2 L2 h2=>sync_h j d false _ v2 _ L2 jn w2 h2 hg2
 have HQ1:=zH hq1;have HQ2:=zH hq2;have HZ:Hid ((w.setCell ⟨j,1,none⟩ (.int .i64 (room-bytes.size))).heap.size=w.heap.size):=by simp[Hid]
 have c0:=h.c0;have c1:=h.c1;have f1:=h.fz 1;clear h hJ1 hg1 hg2 hq1 hq2;go_enter Tryz.func45,Tryz.ntmps45;go_wp2_with fail;refine HA.out.mono ?_;rintro e w2 (⟨rfl,L2,_,v2,hj2,ht2,hb2⟩|⟨rfl,v2,hj2,ht2,hb2⟩)
 ·have HS2:=zH (HS.out w2 v2 L2 hj2);have HT2:Hid (Tch (jbl j d v) w w2/\∀b,v2.ownBlock=some b->v.ownBlock=some b\/w.heap.size<=b):=by
   refine⟨T1.out.trans ht2 (fun _ h _=>h),fun b hb=>?_⟩
   have:=hb2 b hb;rw[HZ.out]at this;exact this
  have d0:=hj2.c0;clear hj2 ht2 hb2 c0 c1 f1 HS HA;go_wp2_with fail;refine HS2.out.mono ?_;rintro e w3 (⟨rfl,L3,_,hl⟩|⟨rfl,hl⟩)
  ·have HL:=zH (hl.trans HT2.out.1 HT2.out.2);clear hl d0;go_wp2_with fail;go_ret;exact .inl ⟨rfl,L3,HL.out⟩
  ·have HL:=zH (hl.trans HT2.out.1 HT2.out.2);clear hl d0;go_wp2_with fail;go_ret;exact .inr ⟨rfl,_,_,HQ2.out,HL.out⟩
 ·have HL:Hid (LY w w2 j d v false (room-bytes.size) fs 0 true):=by
   refine⟨v2,hj2,T1.out.trans ht2 (fun _ h _=>h),fun b hb=>?_⟩
   have:=hb2 b hb;rw[HZ.out]at this;exact this
  clear hj2 ht2 hb2 c0 c1 f1 HS HA;go_wp2_with fail;go_ret;exact .inr ⟨rfl,_,_,HQ1.out,HL.out⟩
theorem replace_h (Q:List Dk.DF->Prop)(j d:Nat)(room:Int)(v:Value)(fs:List Dk.DF)(L:Int)(bytes:ByteArray)(w:World)(h:JL w j d false room v fs L false)(hb:bytes.size<=1000000)(hg1:GdL (Dk.appF jw bytes fs))(hg2:GdL (Dk.syncF jw (Dk.appF jw bytes fs)))(hg3:GdL (Dk.renF jw jn (Dk.syncF jw (Dk.appF jw bytes fs))))(hq1:Q fs)(hq2:Q (Dk.appF jw bytes fs))(hq3:Q (Dk.syncF jw (Dk.appF jw bytes fs))):
  Calls Tryz.prog 68 #[.pointer (some ⟨j,0,none⟩),.string bytes] w (Dn w j d v room Q false (Dk.renF jw jn (Dk.syncF jw (Dk.appF jw bytes fs)))):=by
 have HA:=zH (app_h j d false _ v fs L jw bytes _ h hb hg1);have HS:Hid (∀w2 v2 L2,JL w2 j d false room v2 (Dk.appF jw bytes fs) L2 false->Calls Tryz.prog 70 #[.pointer (some ⟨d,0,none⟩),.string jw] w2 (Stp w2 j d v2 false room L2 (Dk.appF jw bytes fs) (Dk.syncF jw (Dk.appF jw bytes fs)))):=fun w2 v2 L2 h2=>sync_h j d false _ v2 _ L2 jw w2 h2 hg2
 have HR:Hid (∀w2 v2 L2,JL w2 j d false room v2 (Dk.syncF jw (Dk.appF jw bytes fs)) L2 false->Calls Tryz.prog 93 #[.pointer (some ⟨d,0,none⟩),.string jw,.string jn] w2 (Stp w2 j d v2 false room L2 (Dk.syncF jw (Dk.appF jw bytes fs)) (Dk.renF jw jn (Dk.syncF jw (Dk.appF jw bytes fs))))):=fun w2 v2 L2 h2=>ren_h j d false _ v2 _ L2 jw jn w2 h2 hg3
 have HQ1:=zH hq1;have HQ2:=zH hq2;have HQ3:=zH hq3;have c0:=h.c0;clear h hg1 hg2 hg3 hq1 hq2 hq3;generalize Dk.renF jw jn (Dk.syncF jw (Dk.appF jw bytes fs))=F3 at*
 generalize Dk.syncF jw (Dk.appF jw bytes fs)=F2 at*
 generalize Dk.appF jw bytes fs=F1 at*
 go_enter Tryz.func68,Tryz.ntmps68;go_wp2_with fail;refine HA.out.mono ?_;rintro e w2 (⟨rfl,L2,_,v2,hj2,ht2,hb2⟩|⟨rfl,hl⟩)
 ·have HS2:=zH (HS.out w2 v2 L2 hj2);have HT2:Hid (Tch (jbl j d v) w w2/\∀b,v2.ownBlock=some b->v.ownBlock=some b\/w.heap.size<=b):=⟨ht2,hb2⟩;have d0:=hj2.c0;clear hj2 ht2 hb2 c0 HS HA;go_wp2_with fail;refine HS2.out.mono ?_;rintro e w3 (⟨rfl,L3,_,v3,hj3,ht3,hb3⟩|⟨rfl,hl⟩)
  ·have HR3:=zH (HR.out w3 v3 L3 hj3);have HT3:Hid (Tch (jbl j d v2) w2 w3/\∀b,v3.ownBlock=some b->v2.ownBlock=some b\/w2.heap.size<=b):=⟨ht3,hb3⟩;have e0:=hj3.c0;clear hj3 ht3 hb3 d0 HR;go_wp2_with fail;refine HR3.out.mono ?_;rintro e w4 (⟨rfl,L4,_,hl⟩|⟨rfl,hl⟩)
   ·have HL:=zH ((hl.trans HT3.out.1 HT3.out.2).trans HT2.out.1 HT2.out.2);clear hl e0;go_wp2_with fail;go_ret;exact .inl ⟨rfl,L4,HL.out⟩
   ·have HL:=zH ((hl.trans HT3.out.1 HT3.out.2).trans HT2.out.1 HT2.out.2);clear hl e0;go_wp2_with fail;go_ret;exact .inr ⟨rfl,_,_,HQ3.out,HL.out⟩
  ·have HL:=zH (hl.trans HT2.out.1 HT2.out.2);clear hl d0;go_wp2_with fail;go_ret;exact .inr ⟨rfl,_,_,HQ2.out,HL.out⟩
 ·have HL:=zH hl;clear hl c0 HS HA HR;go_wp2_with fail;go_ret;exact .inr ⟨rfl,_,_,HQ1.out,HL.out⟩
theorem sweep_h (j d:Nat)(room:Int)(v:Value)(L:Int)(w:World)(o:Option ByteArray)(h:JL w j d false room v (fileO o) L false):
  zE 67 #[.pointer (some ⟨j,0,none⟩)] w (.bool true):=by
 have HH:Hid (zE 61 #[.pointer (some ⟨d,0,none⟩),.string jw] w (.bool false)):=by
  have h1:=Dk.has_d d v L false (fileO o) jw w h.dsk.blk h.dsk.own (by cases o<;>simp[fileO]);rw[fnd_jw]at h1;exact h1
 have c0:=h.c0;clear h;go_enter Tryz.func67,Tryz.ntmps67;go_wp2_with fail;refine HH.out.mono ?_;rintro e w2 ⟨rfl,rfl⟩;go_wp2_with fail;go_ret;exact⟨rfl,rfl⟩
theorem room_yh (Q:List Dk.DF->Prop)(j d:Nat)(room:Int)(v:Value)(fs:List Dk.DF)(L:Int)(size:Nat)(F:Value)(w:World)(h:JL w j d false room v fs L false)(hs:(size:Int)<=room):
  Calls Tryz.prog 44 #[.pointer (some ⟨j,0,none⟩),.int .i64 (size:Int),F] w (Dn w j d v room Q false fs):=by
 have HJ:=zH h;have c1:=h.c1;clear h;go_enter Tryz.func44,Tryz.ntmps44;go_wp2_with fail;go_ret;exact .inl ⟨rfl,L,v,HJ.out,Tch.refl _ _,fun _ h=>.inl h⟩
theorem room_h (Q:List Dk.DF->Prop)(j d st:Nat)(v:Value)(L:Int)(size:Nat)(w:World)(room:Int)(o:Option ByteArray)(t:ByteArray)(h:JL w j d false room v (fileO o) L false)(hs:room<(size:Int))(hsz:size<=1048576)(htz:t.size<=200000)(hT:Tab w)(h3:3<=w.heap.size)(hj3:3<=j)
  (hg1:GdL (Dk.appF jw ⟨(recB t).toArray⟩ (fileO o)))(hg2:GdL (Dk.syncF jw (Dk.appF jw ⟨(recB t).toArray⟩ (fileO o))))(hg3:GdL (fileO (some ⟨(recB t).toArray⟩)))(hq1:Q (fileO o))(hq2:Q (Dk.appF jw ⟨(recB t).toArray⟩ (fileO o)))(hq3:Q (Dk.syncF jw (Dk.appF jw ⟨(recB t).toArray⟩ (fileO o))))
  (hW:∀W,Tch [j] w W->zT 25 #[.pointer (some ⟨st,0,none⟩)] W (.string t)):
  Calls Tryz.prog 44 #[.pointer (some ⟨j,0,none⟩),.int .i64 (size:Int),.func (.func 25) #[.pointer (some ⟨st,0,none⟩)] #[]] w (Dn w j d v 16384 Q false (fileO (some ⟨(recB t).toArray⟩))):=by
 have hJ1:=h.set1 16384;have t1:Tch [j] w (w.setCell ⟨j,1,none⟩ (.int .i64 16384)):=(Tch.refl _ _).setCell (fun _=>by simp) _;have HSW:Hid (Calls Tryz.prog 67 #[.pointer (some ⟨j,0,none⟩)] (w.setCell ⟨j,1,none⟩ (.int .i64 16384)) fun e w'=>e=.returned (.bool true)/\w'=w.setCell ⟨j,1,none⟩ (.int .i64 16384)):=sweep_h j d 16384 v L _ o hJ1;have HWH:Hid (zT 25 #[.pointer (some ⟨st,0,none⟩)] (w.setCell ⟨j,1,none⟩ (.int .i64 16384)) (.string t)):=hW _ t1;have HJ1:=zH hJ1;have HT1:=zH t1;have HTB:=zH hT;have hrz:(⟨(recB t).toArray⟩:ByteArray).size=8+t.size:=by show (recB t).toArray.size=_;rw[List.size_toArray,recB_length]
 have HRPA:Hid (∀w4,JL w4 j d false 16384 v (fileO o) L false->Calls Tryz.prog 68 #[.pointer (some ⟨j,0,none⟩),.string ⟨(recB t).toArray⟩] w4 (Dn w4 j d v 16384 Q false (fileO (some ⟨(recB t).toArray⟩)))):=fun w4 hJ4=>by
  have h1:=replace_h Q j d 16384 v (fileO o) L ⟨(recB t).toArray⟩ w4 hJ4 (by omega) hg1 hg2 (by rw[rep_fs];exact hg3) hq1 hq2 hq3;rw[rep_fs]at h1;exact h1
 have eg65:∀args w,(callFunc 25 args).run Tryz.prog w=.ok (.enter 25 args) w:=enters_of Tryz.func25 (by kernel_rfl) rfl;have c1:=h.c1;have f1:=h.fz 1;clear h hJ1 hT hW t1 hrz hg1 hg2 hg3 hq1 hq2 hq3;go_enter Tryz.func44,Tryz.ntmps44;go_wp2_with fail;refine HSW.out.mono ?_;rintro e w2 ⟨rfl,hw2⟩;rw[<-hw2]at HWH HJ1 HT1;clear hw2 c1 f1 HSW;go_wp2_with fail;refine HWH.out.mono ?_;rintro e w3 ⟨rfl,ht3⟩;have hw3:=HT1.out.trans ht3 (by simp);have hJ3:=HJ1.out.tch ht3 (by simp);have hz3:=hw3.size;clear HWH;go_wp2_with fail;refine(record_any t w3 (by omega) (HTB.out.below (B:=3) (hw3.below (by simpa using hj3) h3) (by decide)) (by omega)).mono ?_;rintro e w4 ⟨rv,rfl,ho,hb4⟩;have hstr:(convert 54 9 rv).run Tryz.prog w4=.ok (.string ⟨(recB t).toArray⟩) w4:=OwnB.str ho (by rw[recB_length];omega);have HRP:=zH (HRPA.out w4 (hJ3.tch (Tch.of_below hb4) (by simp)));have HT4:=zH (hw3.trans (Tch.of_below hb4) (by simp));clear ho hb4 hJ3 hw3 ht3 HRPA;generalize hRR:(⟨(recB t).toArray⟩:ByteArray)=R at*
 go_wp2_with fail;refine HRP.out.mono ?_;intro e w5 hl;have HT5:Hid (Tch (jbl j d v) w w4):=HT4.out.sub (by simp[jbl]);have hl2:Dn w j d v 16384 Q false (fileO (some R)) e w5:=hl.trans HT5.out (fun _ h=>.inl h);clear hl hstr;rcases hl2 with ⟨rfl,L5,hl⟩|⟨rfl,r5,fs5,hq5,hl⟩
 ·have HL:=zH hl;clear hl;go_wp2_with fail;go_ret;exact .inl ⟨rfl,L5,HL.out⟩
 ·have HL:=zH hl;have HQ:=zH hq5;clear hl hq5;go_wp2_with fail;go_ret;exact .inr ⟨rfl,r5,fs5,HQ.out,HL.out⟩
theorem JL.apb {base:Nat}{rv:Value}{s:Bool}{rec:List UInt8}(h:JL w j d dn room v fs L s)(ho:OwnB w base rv rec):∀b,rv.ownBlock=some b->b∉jbl j d v:=fun b hb hm=>by
 have hne:rv.ownBlock≠some j:=own_ne ho h.hj (by decide);rcases List.mem_cons.1 hm with e|e
 ·exact hne (e▸hb)
 ·rcases List.mem_cons.1 e with e|e
  ·exact own_ne ho h.dsk.blk (by decide) (e▸hb)
  ·rcases ho.2 with ⟨rfl,_⟩|⟨g,cap,cur,rfl,_,hg,_⟩
   ·simp[Value.ownBlock]at hb
   ·simp[Value.ownBlock]at hb;subst hb;exact own_ne h.dsk.own hg (by decide) (by simpa [Option.mem_toList]using e)
theorem lay_hw (Q:List Dk.DF->Prop)(j d:Nat)(room room2:Int)(v:Value)(fs fs2:List Dk.DF)(L:Int)(base:Nat)(rv F:Value)(rec:List UInt8)(w:World)(h:JL w j d false room v fs L false)(ho:OwnB w base rv rec)(hpos:0<rec.length)(hrl:rec.length<=100000)(hr:-1000000000<=room2/\room2<=1048576)
  (hg1:GdL (Dk.appF jn ⟨rec.toArray⟩ fs2))(hg2:GdL (Dk.syncF jn (Dk.appF jn ⟨rec.toArray⟩ fs2)))(hq1:Q fs2)(hq2:Q (Dk.appF jn ⟨rec.toArray⟩ fs2))
  (hM:Calls Tryz.prog 44 #[.pointer (some ⟨j,0,none⟩),.int .i64 (rec.length:Int),F] w (Dn w j d v room2 Q false fs2)):
  Calls Tryz.prog 24 #[.pointer (some ⟨j,0,none⟩),rv,F] w (Dn w j d v (room2-rec.length) Q true (Dk.syncF jn (Dk.appF jn ⟨rec.toArray⟩ fs2))):=by
 have HM:=zH hM;have HAP:=zH (h.apb ho);obtain⟨g,cap,hrv⟩:=OwnB.slc ho hpos;have HO:=zH ho;subst hrv;have c2:=h.c2;have HADD:Hid (∀w1 v1 L1,JL w1 j d false room2 v1 fs2 L1 false->Calls Tryz.prog 45 #[.pointer (some ⟨j,0,none⟩),.string ⟨rec.toArray⟩] w1 (Dn w1 j d v1 (room2-rec.length) Q false (Dk.syncF jn (Dk.appF jn ⟨rec.toArray⟩ fs2)))):=fun w1 v1 L1 h1=>by
  have hrz:(⟨rec.toArray⟩:ByteArray).size=rec.length:=by show rec.toArray.size=_;rw[List.size_toArray]
  have h2:=add_h Q j d room2 v1 fs2 L1 ⟨rec.toArray⟩ w1 h1 (by omega) (by omega) hg1 hg2 hq1 hq2;rw[hrz]at h2;exact h2
 have HSTR:Hid (∀w1,Tch (jbl j d v) w w1->(convert 54 9 (.slice (some ⟨g,0,none⟩) rec.length cap)).run Tryz.prog w1=.ok (.string ⟨rec.toArray⟩) w1):=fun w1 ht=>OwnB.str (own_tch HO.out ht HAP.out) (by omega)
 clear h hM ho hg1 hg2 hq1 hq2 HAP HO;generalize hL:rec.length=N at*
 generalize Dk.syncF jn (Dk.appF jn ⟨rec.toArray⟩ fs2)=F3 at*
 go_enter Tryz.func24,Tryz.ntmps24;go_wp2_with fail;refine HM.out.mono ?_;rintro e w1 (⟨rfl,L1,v1,hj1,ht1,hb1⟩|⟨rfl,r1,fs1,hq,v1,hj1,ht1,hb1⟩)
 ·have hstr:=HSTR.out w1 ht1;have HAD:=zH (HADD.out w1 v1 L1 hj1);have HT1:Hid (Tch (jbl j d v) w w1/\∀b,v1.ownBlock=some b->v.ownBlock=some b\/w.heap.size<=b):=⟨ht1,hb1⟩;clear hj1 ht1 hb1 c2 HADD HSTR HM;generalize hRR:(⟨rec.toArray⟩:ByteArray)=R at*
  go_wp2_with fail;refine HAD.out.mono ?_;intro e w2 hl;have hl2:=Dn.trans HT1.out.1 HT1.out.2 hl;clear hl hstr;rcases hl2 with ⟨rfl,L2,v2,hj2,ht2,hb2⟩|⟨rfl,r2,fs3,hq,v2,hj2,ht2,hb2⟩
  ·have HJ2:=zH hj2;have HT2:Hid (Tch (jbl j d v) w w2/\∀b,v2.ownBlock=some b->v.ownBlock=some b\/w.heap.size<=b):=⟨ht2,hb2⟩;have d2:=hj2.c2;have f2:=hj2.fz 2;clear hj2 ht2 hb2;go_wp2_with fail;go_ret;exact .inl ⟨rfl,L2,v2,HJ2.out.set2 false,HT2.out.1.setCell (fun _=>by simp[jbl]) _,HT2.out.2⟩
  ·have HJ2:=zH hj2;have HQ2:=zH hq;have HT2:Hid (Tch (jbl j d v) w w2/\∀b,v2.ownBlock=some b->v.ownBlock=some b\/w.heap.size<=b):=⟨ht2,hb2⟩;have d2:=hj2.c2;have f2:=hj2.fz 2;clear hj2 ht2 hb2 hq;go_wp2_with fail;go_ret;exact .inr ⟨rfl,r2,fs3,HQ2.out,v2,HJ2.out.set2 true,HT2.out.1.setCell (fun _=>by simp[jbl]) _,HT2.out.2⟩
 ·have HJ2:=zH hj1;have HQ2:=zH hq;have HT2:Hid (Tch (jbl j d v) w w1/\∀b,v1.ownBlock=some b->v.ownBlock=some b\/w.heap.size<=b):=⟨ht1,hb1⟩;have d2:=hj1.c2;have f2:=hj1.fz 2;clear hj1 ht1 hb1 hq c2 HADD HSTR HM;go_wp2_with fail;go_ret;exact .inr ⟨rfl,r1,fs1,HQ2.out,v1,HJ2.out.set2 true,HT2.out.1.setCell (fun _=>by simp[jbl]) _,HT2.out.2⟩
theorem fileO_gd {s:ByteArray}(h:s.size<=1000000):GdL (fileO (some s)):=⟨by simp[fileO],fun f hf=>by
 simp only[fileO,List.mem_singleton]at hf;subst hf;exact⟨Nat.le_refl _,h⟩⟩
def Tl (F:ByteArray)(rec:List UInt8)(t:ByteArray)(fs:List Dk.DF):Prop:=
 fs=fileO (some F)\/fs=[⟨jn,F++⟨rec.toArray⟩,F.size⟩]\/(∃s,s<=(recB t).length/\fs=[⟨jn,F,F.size⟩,⟨jw,⟨(recB t).toArray⟩,s⟩])\/fs=fileO (some ⟨(recB t).toArray⟩)\/fs=[⟨jn,(⟨(recB t).toArray⟩:ByteArray)++(⟨rec.toArray⟩:ByteArray),(recB t).length⟩]
theorem app_one (F rec:ByteArray):Dk.appF jn rec (fileO (some F))=[⟨jn,F++rec,F.size⟩]:=by
 have f1:∀(d:ByteArray) (s:Nat),Dk.fnd jn [⟨jn,d,s⟩]=0:=fun d s=>by simp[Dk.fnd,List.findIdx?_cons,isN_jj]
 simp[Dk.appF,Dk.onF,f1,fileO]
theorem app_two (F t:ByteArray):Dk.appF jw t (fileO (some F))=[⟨jn,F,F.size⟩,⟨jw,t,0⟩]/\Dk.syncF jw (Dk.appF jw t (fileO (some F)))=[⟨jn,F,F.size⟩,⟨jw,t,t.size⟩]:=by
 have f2:∀(d d':ByteArray) (s s':Nat),Dk.fnd jw [⟨jn,d',s'⟩,⟨jw,d,s⟩]=1:=fun d d' s s'=>by simp[Dk.fnd,List.findIdx?_cons,isN_ww,isN_wj]
 have f3:∀(d:ByteArray) (s:Nat),Dk.fnd jw [⟨jn,d,s⟩]=-1:=fun d s=>by simp[Dk.fnd,List.findIdx?_cons,isN_wj]
 constructor
 ·simp[Dk.appF,f3,fileO]
 ·simp[Dk.syncF,Dk.appF,Dk.onF,f2,f3,fileO]
theorem lay_h (j d st:Nat)(room:Int)(v:Value)(F:ByteArray)(L:Int)(base:Nat)(t:ByteArray)(rv:Value)(rec:List UInt8)(w:World)(h:JL w j d false room v (fileO (some F)) L false)(ho:OwnB w base rv rec)(hpos:0<rec.length)(hrl:rec.length<=100000)(hr:-1000000000<=room/\room<=16384)(hsz:F.size<=500000)(htz:t.size<=200000)(hT:Tab w)(h3:3<=w.heap.size)(hj3:3<=j)
  (hW:∀W,Tch [j] w W->zT 25 #[.pointer (some ⟨st,0,none⟩)] W (.string t)):
  Calls Tryz.prog 24 #[.pointer (some ⟨j,0,none⟩),rv,.func (.func 25) #[.pointer (some ⟨st,0,none⟩)] #[]] w (Dn w j d v (layO (some F) room rec t).2 (Tl F rec t) true (fileO (some (layO (some F) room rec t).1))):=by
 have hrec:(⟨rec.toArray⟩:ByteArray).size=rec.length:=rec_sz rec;have hrt:(⟨(recB t).toArray⟩:ByteArray).size=8+t.size:=by rw[rec_sz (recB t),recB_length]
 have gap:∀A:ByteArray,A.size<=500000->GdL (Dk.appF jn ⟨rec.toArray⟩ (fileO (some A))):=fun A hA=>by
  rw[app_one];refine⟨by simp,fun f hf=>?_⟩
  rw[List.mem_singleton.1 hf]
  show A.size<=(A++(⟨rec.toArray⟩:ByteArray)).size/\(A++(⟨rec.toArray⟩:ByteArray)).size<=1000000
  rw[dat_app,hrec];omega
 have gsy:∀A:ByteArray,A.size<=500000->GdL (Dk.syncF jn (Dk.appF jn ⟨rec.toArray⟩ (fileO (some A)))):=fun A hA=>by
  rw[add_fs];refine fileO_gd ?_
  show (A++(⟨rec.toArray⟩:ByteArray)).size<=1000000
  rw[dat_app,hrec];omega
 by_cases hc:(rec.length:Int)<=room
 ·have e:layO (some F) room rec t=(F++⟨rec.toArray⟩,room-rec.length):=if_pos hc;rw[e];have h1:=lay_hw (Tl F rec t) j d room room v (fileO (some F)) (fileO (some F)) L base rv (.func (.func 25) #[.pointer (some ⟨st,0,none⟩)] #[]) rec w h ho hpos hrl (by omega) (gap F hsz) (gsy F hsz) (.inl rfl) (.inr (.inl (app_one F _))) (room_yh _ j d room v _ L rec.length _ w h hc);rw[add_fs]at h1;exact h1
 ·have e:layO (some F) room rec t=((⟨(recB t).toArray⟩:ByteArray)++(⟨rec.toArray⟩:ByteArray),(16384-rec.length:Int)):=if_neg hc;rw[e];have g2:∀s,s<=(⟨(recB t).toArray⟩:ByteArray).size->GdL [⟨jn,F,F.size⟩,⟨jw,⟨(recB t).toArray⟩,s⟩]:=fun s hs=>⟨by simp,fun f hf=>by
   rcases List.mem_cons.1 hf with rfl|hf
   ·exact⟨Nat.le_refl _,by show F.size<=_;omega⟩
   ·rw[List.mem_singleton.1 hf];exact⟨hs,by show (⟨(recB t).toArray⟩:ByteArray).size<=_;omega⟩⟩
  have hrl2:(recB t).length=(⟨(recB t).toArray⟩:ByteArray).size:=(rec_sz (recB t)).symm;have h1:=lay_hw (Tl F rec t) j d room 16384 v (fileO (some F)) (fileO (some ⟨(recB t).toArray⟩)) L base rv (.func (.func 25) #[.pointer (some ⟨st,0,none⟩)] #[]) rec w h ho hpos hrl (by omega) (gap _ (by omega)) (gsy _ (by omega)) (.inr (.inr (.inr (.inl rfl)))) (.inr (.inr (.inr (.inr (by rw[hrl2];exact app_one _ _))))) (room_h (Tl F rec t) j d st v L rec.length w room (some F) t h (by omega) (by omega) htz hT h3 hj3 (by rw[(app_two F _).1];exact g2 0 (by omega)) (by rw[(app_two F _).2];exact g2 _ (Nat.le_refl _)) (fileO_gd (by omega)) (.inl rfl) (.inr (.inr (.inl ⟨0,by omega,(app_two F _).1⟩))) (.inr (.inr (.inl ⟨_,by rw[hrl2];exact Nat.le_refl _,(app_two F _).2⟩))) hW);rw[add_fs]at h1;exact h1
theorem bdo_h {N:Prop}(JJ KF:World->Prop)(K:ByteArray->World->Prop)(B:Nat)(s:ByteArray)(r:Wp.Rq)(x st j:Nat)(w:World)(hs:s.size<=90000)(hL:Lays B w)(hT:Tab w)(hBw:B<=w.heap.size)(h3:3<=B)(hg:parseGood s=true)(hr:(endSt s).r=r)
  (hx:w.heap[x]?=some (.cells #[.pointer (some ⟨st,0,none⟩),.pointer (some ⟨j,0,none⟩)] 60 (0,0)))(aj:w.cell? ⟨j,2,none⟩=some (.bool false))
  (HLAY:Hid (∀W rv,Tch [] w W->OwnB W w.heap.size rv (recB s)->Calls Tryz.prog 24 #[.pointer (some ⟨j,0,none⟩),rv,.func (.func 25) #[.pointer (some ⟨st,0,none⟩)] #[]] W fun e w'=>∃bb:Bool,e=.returned (.bool bb)/\Fr B TJ W w'/\(bb=true->JJ w')/\(bb=false->KF w')))
  (bs:List ByteArray)(hbs:(endSt s).bs=bs)(hP:∀(W:World) (y:Sl),Tch [] w W->YS w W y bs->Calls Tryz.prog 30 #[.pointer (some ⟨st,0,none⟩),.agg (cellsOf r y.v)] W fun e w'=>Tch [] W w'/\PlG B N JJ K e w'):
  Calls Tryz.prog 11 #[.pointer (some ⟨x,0,none⟩),.string s] w fun e w'=>(∃t,e=.returned (.string t)/\K t w')\/(e=.returned (.string ⟨#[]⟩)/\KF w'):=by
 have hltx:=lt_of_block hx;have hltj:=World.block_lt_of_cell? _ _ aj;have a0:w.cell? ⟨x,0,none⟩=some (.pointer (some ⟨st,0,none⟩)):=(cell_of_row w x 0 _ 60 (0,0) hx).trans rfl;have a1:w.cell? ⟨x,1,none⟩=some (.pointer (some ⟨j,0,none⟩)):=(cell_of_row w x 1 _ 60 (0,0) hx).trans rfl;have HREC:Hid (∀W,Tch [] w W->Calls Tryz.prog 31 #[.slice none 0 0,.string s] W fun e w'=>∃rv,e=.returned rv/\OwnB w' w.heap.size rv (recB s)/\Tch [] W w'):=fun W ht=>by
  refine(record_any s W (by omega) (hT.below (B:=3) (ht.below (by simp) (by omega)) (by decide)) (by have:=ht.size;omega)).mono ?_;rintro e w' ⟨rv,rfl,ho,hb⟩;exact⟨rv,rfl,⟨ho.1,by
   rcases ho.2 with h|⟨g,cap,cur,rfl,hb',rest⟩
   ·exact .inl h
   ·exact .inr ⟨g,cap,cur,rfl,Nat.le_trans ht.size hb',rest⟩⟩,Tch.of_below hb⟩
 have HD:=zH hP;have hfn:=func_nil2;have hnn:=nil_nil2;have HXB:=zH hx;clear hx hP;go_enter Tryz.func11,Tryz.ntmps11;go_wp2_with (go_at_call 27;go_in);refine(parse_ys B s r bs _ (by unfold maxLen;omega) hL hBw hg hr hbs).mono ?_;rintro e w1 ⟨y,rfl,hb,hys⟩;have cx:=(hb.cell (p:=⟨x,0,none⟩) hltx).trans a0;have cx1:=(hb.cell (p:=⟨x,1,none⟩) hltx).trans a1;have HBL:=zH hb;have HYS:=zH hys;have HXL:Hid ((laidIn w1 (cellsOf r y.v)).heap[w1.heap.size]?=some (.cells (cellsOf r y.v) 24 (0,0))):=laidIn_heap _ _;have HTL:Hid (Tch [] w1 (laidIn w1 (cellsOf r y.v))):=laidIn_tch _ _;have cx2:(laidIn w1 (cellsOf r y.v)).cell? ⟨x,0,none⟩=some (.pointer (some ⟨st,0,none⟩)):=((laidIn_tch _ _).cell (World.block_lt_of_cell? _ _ cx) (by simp)).trans cx;have cx3:(laidIn w1 (cellsOf r y.v)).cell? ⟨x,1,none⟩=some (.pointer (some ⟨j,0,none⟩)):=((laidIn_tch _ _).cell (World.block_lt_of_cell? _ _ cx1) (by simp)).trans cx1;obtain⟨wl,hwl⟩:∃wl,wl=laidIn w1 (cellsOf r y.v):=⟨_,rfl⟩;rw[<-hwl]at HXL HTL cx2 cx3;have HWL:=zH hwl;clear hb hwl a0 a1 aj hys;go_wp2_with (first
  | (refine wpList_store_row rfl 24 _ _ rfl w1.heap.size (cellsOf r y.v) ?hx ?hy 24 ?old ?hg ?hi ?hs ?h1 ?k;(case hx=>rfl);(case hy=>rfl);(case hg=>exact heap_alloc_new _ _);(case hi=>exact info37);(case hs=>rfl);(case h1=>exact cells_one _ _);rw[laidIn_is,<-HWL.out]))
 have hrow:=HXL.out;rw[zM r y]at hrow;have e0:wl.cell? ⟨w1.heap.size,0,none⟩=some (.int .u8 (r.op.toNat:Int)):=by simp[World.cell?,hrow]
 have e1:wl.cell? ⟨w1.heap.size,1,none⟩=some (.int .u8 (r.q.toNat:Int)):=by simp[World.cell?,hrow]
 have e2:wl.cell? ⟨w1.heap.size,2,none⟩=some (.int .u8 (r.d.toNat:Int)):=by simp[World.cell?,hrow]
 have e3:wl.cell? ⟨w1.heap.size,3,none⟩=some (.int .i64 r.vis):=by simp[World.cell?,hrow]
 have e4:wl.cell? ⟨w1.heap.size,4,none⟩=some (.int .i64 r.win):=by simp[World.cell?,hrow]
 have e5:wl.cell? ⟨w1.heap.size,5,none⟩=some (.int .i64 r.rcv):=by simp[World.cell?,hrow]
 have e6:wl.cell? ⟨w1.heap.size,6,none⟩=some (.int .i64 r.quo):=by simp[World.cell?,hrow]
 have e7:wl.cell? ⟨w1.heap.size,7,none⟩=some (.int .i64 r.mx):=by simp[World.cell?,hrow]
 have e8:wl.cell? ⟨w1.heap.size,8,none⟩=some (.int .i64 r.tic):=by simp[World.cell?,hrow]
 have e9:wl.cell? ⟨w1.heap.size,9,none⟩=some (.string r.grp):=by simp[World.cell?,hrow]
 have e10:wl.cell? ⟨w1.heap.size,10,none⟩=some (.string r.ded):=by simp[World.cell?,hrow]
 have e11:wl.cell? ⟨w1.heap.size,11,none⟩=some (.string r.bod):=by simp[World.cell?,hrow]
 have e12:wl.cell? ⟨w1.heap.size,12,none⟩=some (.string r.att):=by simp[World.cell?,hrow]
 have e13:wl.cell? ⟨w1.heap.size,13,none⟩=some (.string r.han):=by simp[World.cell?,hrow]
 have e14:wl.cell? ⟨w1.heap.size,14,none⟩=some (.slice y.a y.n y.c):=by simp[World.cell?,hrow]
 have hlL:w1.heap.size<wl.heap.size:=lt_of_block HXL.out;have hlX:x<wl.heap.size:=World.block_lt_of_cell? _ _ cx2;have HX1:=zH cx3;have HTW:=zH ((Tch.of_below HBL.out).trans HTL.out (by simp));have HPL:Hid (∀n,Calls Tryz.prog 30 #[.pointer (some ⟨st,0,none⟩),.agg (cellsOf r y.v)] (wl.drewN n) fun e w'=>Tch [] (wl.drewN n) w'/\PlG B N JJ K e w'):=fun n=>HD.out (wl.drewN n) y (HTW.out.drewN n) (HYS.out.tch (HTL.out.drewN n))
 rw[zM r y]at HPL;have HPL1:=zH (HPL.out 1);clear hrow cx3
 go_region_held3 (fun w'=>w'.cell? ⟨w1.heap.size,0,none⟩=some (.int .u8 (r.op.toNat:Int))/\w'.cell? ⟨w1.heap.size,1,none⟩=some (.int .u8 (r.q.toNat:Int))/\w'.cell? ⟨w1.heap.size,2,none⟩=some (.int .u8 (r.d.toNat:Int))/\w'.cell? ⟨w1.heap.size,3,none⟩=some (.int .i64 r.vis)/\w'.cell? ⟨w1.heap.size,4,none⟩=some (.int .i64 r.win)/\w'.cell? ⟨w1.heap.size,5,none⟩=some (.int .i64 r.rcv)/\w'.cell? ⟨w1.heap.size,6,none⟩=some (.int .i64 r.quo)/\w'.cell? ⟨w1.heap.size,7,none⟩=some (.int .i64 r.mx)/\w'.cell? ⟨w1.heap.size,8,none⟩=some (.int .i64 r.tic)/\w'.cell? ⟨w1.heap.size,9,none⟩=some (.string r.grp)/\w'.cell? ⟨w1.heap.size,10,none⟩=some (.string r.ded)/\w'.cell? ⟨w1.heap.size,11,none⟩=some (.string r.bod)/\w'.cell? ⟨w1.heap.size,12,none⟩=some (.string r.att)/\w'.cell? ⟨w1.heap.size,13,none⟩=some (.string r.han)/\w'.cell? ⟨w1.heap.size,14,none⟩=some (.slice y.a y.n y.c)/\w'.cell? ⟨x,0,none⟩=some (.pointer (some ⟨st,0,none⟩))) (go_keep) (first|(go_at_call 30;refine HPL1.out.mono ?_;rintro e w2 ⟨ht,hpl⟩;obtain⟨t,chg,rfl⟩:=hpl.shape;have k0:=(ht.cell (a:=⟨w1.heap.size,0,none⟩) hlL (by simp)).trans e0;have k1:=(ht.cell (a:=⟨w1.heap.size,1,none⟩) hlL (by simp)).trans e1;have k2:=(ht.cell (a:=⟨w1.heap.size,2,none⟩) hlL (by simp)).trans e2;have k3:=(ht.cell (a:=⟨w1.heap.size,3,none⟩) hlL (by simp)).trans e3;have k4:=(ht.cell (a:=⟨w1.heap.size,4,none⟩) hlL (by simp)).trans e4;have k5:=(ht.cell (a:=⟨w1.heap.size,5,none⟩) hlL (by simp)).trans e5;have k6:=(ht.cell (a:=⟨w1.heap.size,6,none⟩) hlL (by simp)).trans e6;have k7:=(ht.cell (a:=⟨w1.heap.size,7,none⟩) hlL (by simp)).trans e7;have k8:=(ht.cell (a:=⟨w1.heap.size,8,none⟩) hlL (by simp)).trans e8;have k9:=(ht.cell (a:=⟨w1.heap.size,9,none⟩) hlL (by simp)).trans e9;have k10:=(ht.cell (a:=⟨w1.heap.size,10,none⟩) hlL (by simp)).trans e10;have k11:=(ht.cell (a:=⟨w1.heap.size,11,none⟩) hlL (by simp)).trans e11;have k12:=(ht.cell (a:=⟨w1.heap.size,12,none⟩) hlL (by simp)).trans e12;have k13:=(ht.cell (a:=⟨w1.heap.size,13,none⟩) hlL (by simp)).trans e13;have k14:=(ht.cell (a:=⟨w1.heap.size,14,none⟩) hlL (by simp)).trans e14;have kx:=(ht.cell (a:=⟨x,0,none⟩) hlX (by simp)).trans cx2))
 have kx1:=(ht.cell (a:=⟨x,1,none⟩) hlX (by simp)).trans HX1.out;have HT2:=zH ((HTW.out.drew).trans ht (by simp));have hlX2:x<w2.heap.size:=World.block_lt_of_cell? _ _ kx;clear ht cx2 cx cx1 e0 k0 e1 k1 e2 k2 e3 k3 e4 k4 e5 k5 e6 k6 e7 k7 e8 k8 e9 k9 e10 k10 e11 k11 e12 k12 e13 k13 e14 k14;obtain⟨t',⟨he,_,hk⟩|⟨f,cap,he,eg,hc⟩⟩:=hpl
 ·simp only[Ending.returned.injEq,Value.tuple.injEq,Array.mk.injEq,List.cons.injEq,Value.string.injEq,and_true]at he;obtain⟨rfl,rfl⟩:=he;go_wp2_with fail;go_ret;exact .inl ⟨_,rfl,hk _ (Tch.refl _ _)⟩
 ·simp only[Ending.returned.injEq,Value.tuple.injEq,Array.mk.injEq,List.cons.injEq,Value.string.injEq,and_true]at he;obtain⟨rfl,rfl⟩:=he;have HC:=zH hc;clear hc;go_wp2_with fail
  go_region_held3 (fun w'=>w'.cell? ⟨x,0,none⟩=some (.pointer (some ⟨st,0,none⟩))/\w'.cell? ⟨x,1,none⟩=some (.pointer (some ⟨j,0,none⟩))) (go_keep) (first|(go_at_call 31;refine(HREC.out _ HT2.out.drew).mono ?_;rintro e w3 ⟨rv,rfl,ho,ht3⟩;have m0:=(ht3.cell (a:=⟨x,0,none⟩) hlX2 (by simp)).trans kx;have m1:=(ht3.cell (a:=⟨x,1,none⟩) hlX2 (by simp)).trans kx1;have HT3:Hid (Tch [] w w3/\Tch [] w2 w3/\OwnB w3 w.heap.size rv (recB s)):=⟨HT2.out.drew.trans ht3 (by simp),(Tch.refl [] w2).drew.trans ht3 (by simp),ho⟩;clear ho ht3)|(go_at_call 24;refine(HLAY.out _ _ HT3.out.1 HT3.out.2.2).mono ?_;rintro e w4 ⟨bb,rfl,hfr,hor⟩;have hb4:=hfr.keep x _ 60 ((HT3.out.1.block x hltx (by simp)).trans HXB.out) (by decide);have n0:w4.cell? ⟨x,0,none⟩=some (.pointer (some ⟨st,0,none⟩)):=(cell_of_row w4 x 0 _ 60 (0,0) hb4).trans rfl;have n1:w4.cell? ⟨x,1,none⟩=some (.pointer (some ⟨j,0,none⟩)):=(cell_of_row w4 x 1 _ 60 (0,0) hb4).trans rfl;have HC4:Hid (bb=true->Calls Tryz.prog f cap w4 fun e w'=>e=.returned (.tuple #[])/\K t w'):=fun h=>HC.out w3 w4 HT3.out.2.1 hfr (hor.1 h);have HF4:Hid (bb=false->KF w4):=hor.2;clear hfr hor hb4))
  all_goals (cases bb with
   | true=>
    have HC5:=zH (HC4.out rfl);clear HC4 HF4;go_wp2_with (go_at_fn f;refine HC5.out.mono ?_;rintro e w5 ⟨rfl,hk⟩);go_ret;exact .inl ⟨t,rfl,hk⟩
   | false=>
    have HF5:=zH (HF4.out rfl);clear HC4 HF4;go_wp2_with fail;go_ret;exact .inr ⟨rfl,HF5.out⟩)
theorem leN_low4 (n:Nat):leN (lowB n 4)=n % 4294967296:=by
 have h:∀m:Nat,(UInt8.ofNat (m % 256)).toNat=m % 256:=fun m=>UInt8.toNat_ofNat_of_lt' (by have:=Nat.mod_lt m (show 0<256 by decide);simpa using this)
 have e:lowB n 4=[UInt8.ofNat (n % 256),UInt8.ofNat (n / 256 % 256),UInt8.ofNat (n / 65536 % 256),UInt8.ofNat (n / 16777216 % 256)]:=by simp[lowB,List.range_succ]
 rw[e]
 show (UInt8.ofNat (n % 256)).toNat+256*((UInt8.ofNat (n / 256 % 256)).toNat+256*((UInt8.ofNat (n / 65536 % 256)).toNat+256*((UInt8.ofNat (n / 16777216 % 256)).toNat+256*0)))=_
 rw[h,h,h,h];omega
def RdL (w:World)(b:Nat)(l:List UInt8):Prop:=Rd w b (BA l) false/\l.length<=1000000
theorem RdL.lt {b:Nat}(h:RdL w b l):b<w.heap.size:=lt_of_block h.1
theorem RdL.tch {b:Nat}(h:RdL w b l){S:List Nat}(ht:Tch S w w')(hS:b∉S):RdL w' b l:=⟨(ht.block _ h.lt hS).trans h.1,h.2⟩
theorem RdL.sz {b:Nat}(h:RdL w b l):(BA l).size<=maxLen:=by
 have:=h.2;rw[BA_size];unfold maxLen;omega
theorem RdL.rest {b:Nat}{p q:List UInt8}(h:RdL w b (p++q))(h':Rd w' b (BA q) false):RdL w' b q:=⟨h',by have:=h.2;rw[List.length_append]at this;omega⟩
theorem tch_grown {b:Nat}(h:w.grownBy w' (some b)):Tch [b] w w':=(Tch.refl [b] w).grown h (fun k hk _=>by
 injection hk with hk;simp[hk])
def Tkn (w:World)(b:Nat)(q:List UInt8)(v:Value)(e:Ending)(w':World):Prop:=e=.returned v/\RdL w' b q/\Tch [b] w w'
theorem take_l (b:Nat)(p q:List UInt8)(n:Nat)(w:World)(hn:p.length=n)(h:RdL w b (p++q)):
  Calls Tryz.prog 77 #[.pointer (some ⟨b,0,none⟩),.int .i64 (n:Int)] w (Tkn w b q (.string (BA p))):=by
 subst hn;have hl:=h.2;rw[List.length_append]at hl;refine(take_any b _ false p.length w (by omega) h.sz h.1).mono ?_;rintro e w' ⟨rfl,h1,h2,_⟩;rw[tk_app];rw[lf_app,bad_app]at h1;exact⟨rfl,h.rest h1,tch_grown h2⟩
theorem num_l (b v k:Nat)(q:List UInt8)(w:World)(hk:(k=1/\v<256)\/(k=2/\v<65536)\/(k=4/\v<4294967296))(h:RdL w b (lowB v k++q)):
  Calls Tryz.prog 53 #[.pointer (some ⟨b,0,none⟩),.int .i64 (k:Int)] w (Tkn w b q (.int .i64 (v:Int))):=by
 have e1:=tk_app (lowB v k) q;have e2:=lf_app (lowB v k) q;have e3:=bad_app (lowB v k) q false;rw[lowB_length]at e1 e2 e3;have hend:∀e w',(e=.returned (.int .i64 (leN (tk (BA (lowB v k++q)) k).data.toList:Nat))/\Rd w' b (lf (BA (lowB v k++q)) k) (bad (BA (lowB v k++q)) false k)/\w.grownBy w' (some b)/\w'.heap.size=w.heap.size)->leN (lowB v k)=v->Tkn w b q (.int .i64 (v:Int)) e w':=by
  rintro e w' ⟨rfl,h1,h2,_⟩ hv;rw[e1,BA_list,hv];rw[e2,e3]at h1;exact⟨rfl,h.rest h1,tch_grown h2⟩
 rcases hk with ⟨rfl,hv⟩|⟨rfl,hv⟩|⟨rfl,hv⟩
 ·exact(number_any b _ false 1 w (.inl rfl) h.sz h.1).mono (fun e w' he=>hend e w' he (by rw[leN_low1];omega))
 ·exact(number_any b _ false 2 w (.inr rfl) h.sz h.1).mono (fun e w' he=>hend e w' he (by rw[leN_low2];omega))
 ·exact(number_four b _ false w h.sz (by rw[BA_size,List.length_append,lowB_length];omega) h.1).mono (fun e w' he=>hend e w' he (by rw[leN_low4];omega))
theorem text_l (b:Nat)(t:ByteArray)(q:List UInt8)(w:World)(ht:t.size<256)(h:RdL w b (txtB t++q)):
  Calls Tryz.prog 80 #[.pointer (some ⟨b,0,none⟩)] w (Tkn w b q (.string t)):=by
 refine(text_any b _ false w h.sz h.lt h.1).mono ?_;rintro e w' ⟨rfl,h1,h2⟩;obtain⟨e1,e2,e3⟩:=tx_app t q false ht;rw[e1];rw[e2,e3]at h1;exact⟨rfl,h.rest h1,tch_grown h2⟩
theorem long_l (b:Nat)(t:ByteArray)(q:List UInt8)(w:World)(ht:t.size<65536)(h:RdL w b (lowB t.size 2++(t.data.toList++q))):
  Calls Tryz.prog 114 #[.pointer (some ⟨b,0,none⟩),.int .i64 2] w (Tkn w b q (.string t)):=by
 refine(long_any b _ false 2 w (.inr rfl) h.sz h.lt h.1).mono ?_;rintro e w' ⟨rfl,h1,h2⟩;have e1:=nm_low2 t.size (t.data.toList++q) ht;have e2:=lf_app (lowB t.size 2) (t.data.toList++q);have e3:=bad_app (lowB t.size 2) (t.data.toList++q) false;rw[lowB_length]at e2 e3;have e4:=tk_app t.data.toList q;have e5:=lf_app t.data.toList q;have e6:=bad_app t.data.toList q false;have e7:t.data.toList.length=t.size:=Array.length_toList;rw[e7]at e4 e5 e6;rw[e1,e2,e4];rw[e1,e2,e3,e5,e6]at h1;have e8:BA t.data.toList=t:=ext_list rfl;rw[e8];refine⟨rfl,⟨h1,?_⟩,tch_grown h2⟩;have:=h.2;simp only[List.length_append]at this;omega
theorem texts_l (b:Nat)(ts:List ByteArray)(q:List UInt8)(w:World)(hn:ts.length<256)(ht:∀t∈ts,t.size<256)(h:RdL w b (lowB ts.length 1++(txtsB ts++q))):
  Calls Tryz.prog 82 #[.pointer (some ⟨b,0,none⟩)] w fun e w'=>∃g,w.heap.size<=g/\e=.returned (.slice (some ⟨g,0,none⟩) ts.length ts.length)/\w'.heap[g]?=some (.cells (ts.map Value.string).toArray 9 (0,0))/\RdL w' b q/\Tch [b] w w':=by
 refine(texts_any b _ false w h.sz h.lt h.1).mono ?_;rintro e w' ⟨g,hg,rfl,h1,h2,h3⟩;have e1:=nm_low1 ts.length (txtsB ts++q) hn;have e2:=lf_app (lowB ts.length 1) (txtsB ts++q);have e3:=bad_app (lowB ts.length 1) (txtsB ts++q) false;rw[lowB_length]at e2 e3;obtain⟨e4,e5,e6⟩:=rd_app ts q false ht;rw[e1,e2,e4]at h1;rw[e1,e2,e3,e5,e6]at h2;rw[e1];refine⟨g,hg,rfl,?_,⟨h2,?_⟩,tch_grown h3⟩
 ·rw[h1];unfold strRow;simp
 ·have:=h.2;simp only[List.length_append]at this;omega
end Go.Proofs.YtbdobaapadlcjabGreatDoor
