import Derived.Shelf.SlSortCmp.WholeK
import Derived.Test.YtbdobaapadlcjabGreatDoorHy14
set_option maxRecDepth 8000
set_option maxHeartbeats 4000000
set_option linter.unusedVariables false
set_option linter.unusedSimpArgs false
namespace Go.Proofs.YtbdobaapadlcjabGreatDoor
open Go.Shelf
def l301_ren:Go.Shelf.Ren:=⟨fun|6=>214|15=>219|14=>218|28=>229|29=>230|20=>221|21=>222|22=>223|23=>224|24=>225|25=>226|26=>227|27=>228|46=>231|47=>232|48=>233|49=>234|50=>235|57=>236|n=>n,fun|22=>133|24=>191|25=>250|3=>3|39=>132|0=>0|53=>122|55=>146|4=>4|46=>255|45=>254|50=>259|5=>5|9=>9|66=>263|70=>161|76=>267|77=>268|n=>n,fun|n=>n⟩
theorem l301:Go.Proofs.SlLaysF0.n6 Tryz.prog l301_ren:={
 mixed:=by kernel_rfl
 f6:=⟨Tryz.f214.name,by decide,Tryz.func214.trans (congrArg some (by kernel_rfl))⟩
 f14:=⟨Tryz.f218.name,by decide,Tryz.func218.trans (congrArg some (by kernel_rfl))⟩
 f15:=Tryz.func219.trans (congrArg some (by kernel_rfl))
 f20:=⟨Tryz.f221.name,by decide,Tryz.func221.trans (congrArg some (by kernel_rfl))⟩
 f21:=⟨Tryz.f222.name,by decide,Tryz.func222.trans (congrArg some (by kernel_rfl))⟩
 f22:=⟨Tryz.f223.name,by decide,Tryz.func223.trans (congrArg some (by kernel_rfl))⟩
 f23:=⟨Tryz.f224.name,by decide,Tryz.func224.trans (congrArg some (by kernel_rfl))⟩
 f24:=⟨Tryz.f225.name,by decide,Tryz.func225.trans (congrArg some (by kernel_rfl))⟩
 f25:=⟨Tryz.f226.name,by decide,Tryz.func226.trans (congrArg some (by kernel_rfl))⟩
 f26:=⟨Tryz.f227.name,by decide,Tryz.func227.trans (congrArg some (by kernel_rfl))⟩
 f27:=⟨Tryz.f228.name,by decide,Tryz.func228.trans (congrArg some (by kernel_rfl))⟩
 f28:=Tryz.func229.trans (congrArg some (by kernel_rfl))
 f29:=Tryz.func230.trans (congrArg some (by kernel_rfl))
 f46:=⟨Tryz.f231.name,by decide,Tryz.func231.trans (congrArg some (by kernel_rfl))⟩
 f47:=Tryz.func232.trans (congrArg some (by kernel_rfl))
 f48:=Tryz.func233.trans (congrArg some (by kernel_rfl))
 f49:=⟨Tryz.f234.name,by decide,Tryz.func234.trans (congrArg some (by kernel_rfl))⟩
 f50:=⟨Tryz.f235.name,by decide,Tryz.func235.trans (congrArg some (by kernel_rfl))⟩
 f57:=⟨Tryz.f236.name,by decide,Tryz.func236.trans (congrArg some (by kernel_rfl))⟩
 t0:=Tryz.underlying0
 a0:=Tryz.isAgg0
 z0:=Tryz.sizeOf0
 v0:=Tryz.zeroValue0
 t3:=Tryz.underlying3
 a3:=Tryz.isAgg3
 z3:=Tryz.sizeOf3
 v3:=Tryz.zeroValue3
 t4:=Tryz.underlying4
 a4:=Tryz.isAgg4
 z4:=Tryz.sizeOf4
 v4:=Tryz.zeroValue4
 t5:=Tryz.underlying5
 a5:=Tryz.isAgg5
 z5:=Tryz.sizeOf5
 v5:=Tryz.zeroValue5
 t9:=Tryz.underlying9
 a9:=Tryz.isAgg9
 z9:=Tryz.sizeOf9
 v9:=Tryz.zeroValue9
 t22:=Tryz.underlying133
 a22:=Tryz.isAgg133
 z22:=Tryz.sizeOf133
 v22:=Tryz.zeroValue133
 t25:=Tryz.underlying250
 a25:=Tryz.isAgg250
 z25:=Tryz.sizeOf250
 v25:=Tryz.zeroValue250
 t39:=Tryz.underlying132
 a39:=Tryz.isAgg132
 z39:=Tryz.sizeOf132
 v39:=Tryz.zeroValue132
 t45:=Tryz.underlying254
 a45:=Tryz.isAgg254
 z45:=Tryz.sizeOf254
 v45:=Tryz.zeroValue254
 t46:=Tryz.underlying255
 a46:=Tryz.isAgg255
 z46:=Tryz.sizeOf255
 v46:=Tryz.zeroValue255
 t50:=Tryz.underlying259
 a50:=Tryz.isAgg259
 z50:=Tryz.sizeOf259
 v50:=Tryz.zeroValue259
 t53:=Tryz.underlying122
 a53:=Tryz.isAgg122
 z53:=Tryz.sizeOf122
 v53:=Tryz.zeroValue122
 t55:=Tryz.underlying146
 a55:=Tryz.isAgg146
 z55:=Tryz.sizeOf146
 v55:=Tryz.zeroValue146
 t66:=Tryz.underlying263
 a66:=Tryz.isAgg263
 z66:=Tryz.sizeOf263
 v66:=Tryz.zeroValue263
 t70:=Tryz.underlying161
 a70:=Tryz.isAgg161
 z70:=Tryz.sizeOf161
 v70:=Tryz.zeroValue161
 t76:=Tryz.underlying267
 a76:=Tryz.isAgg267
 z76:=Tryz.sizeOf267
 v76:=Tryz.zeroValue267
 t77:=Tryz.underlying268
 a77:=Tryz.isAgg268
 z77:=Tryz.sizeOf268
 v77:=Tryz.zeroValue268}
end Go.Proofs.YtbdobaapadlcjabGreatDoor
namespace Go.Proofs.YtbdobaapadlcjabGreatDoor
open Go.Shelf Go.RowKit Go.Lib Go.Sort
def cmpI (a b:Int):Int:=if a<b then -1 else if b<a then 1 else 0
theorem nan_any (x:Int)(w:World):zE 220 #[.int .i64 x] w (.bool false):=by
 go_enter Tryz.func220,Tryz.ntmps220
 go_wp2
 go_ret;exact⟨rfl,rfl⟩
theorem compare_any (x y:Int)(w:World):zE 217 #[.int .i64 x,.int .i64 y] w (.int .i64 (cmpI x y)):=by
 have HX:Hid (∀W,zE 220 #[.int .i64 x] W (.bool false)):=fun W=>nan_any x W
 have HY:Hid (∀W,zE 220 #[.int .i64 y] W (.bool false)):=fun W=>nan_any y W
 obtain⟨c,HC⟩:∃c,Hid (c=cmpI x y):=⟨_,rfl⟩;rw[<-HC.out];go_enter Tryz.func217,Tryz.ntmps217;go_wp2_with fail;refine(HX.out _).mono ?_;rintro e w' ⟨rfl,h'⟩;have h'':=h'.symm;subst h'';go_wp2_with fail;refine(HY.out _).mono ?_;rintro e w' ⟨rfl,h'⟩;have h'':=h'.symm;subst h''
 by_cases h1:x<y
 ·have HV:Hid (c=-1):=by show _=_;rw[HC.out,cmpI,if_pos h1]
  go_wp2_with fail;go_ret;exact⟨ret_i64 HV.out.symm,rfl⟩
 ·by_cases h2:y<x
  ·have HV:Hid (c=1):=by show _=_;rw[HC.out,cmpI,if_neg h1,if_pos h2]
   go_wp2_with fail;go_ret;exact⟨ret_i64 HV.out.symm,rfl⟩
  ·have HV:Hid (c=0):=by show _=_;rw[HC.out,cmpI,if_neg h1,if_neg h2]
   go_wp2_with fail;go_ret;exact⟨ret_i64 HV.out.symm,rfl⟩
theorem or_any (a b:Int)(g:Nat)(w:World)(hg:w.heap[g]?=some (.cells #[.int .i64 a,.int .i64 b] 3 (0,0))):zE 216 #[.slice (some ⟨g,0,none⟩) 2 2] w (.int .i64 (if a=0 then b else a)):=by
 have c0:w.cell? ⟨g,0,none⟩=some (.int .i64 a):=cell_qC hg 0 _ rfl;have c1:w.cell? ⟨g,1,none⟩=some (.int .i64 b):=cell_qC hg 1 _ rfl;obtain⟨c,HC⟩:∃c,Hid (c=if a=0 then b else a):=⟨_,rfl⟩;rw[<-HC.out];clear hg
 by_cases ha:a=0
 ·have hb1:(a != 0)=false:=by simp[ha]
  have HV:Hid (c=b):=by show _=_;rw[HC.out,if_pos ha]
  by_cases hb:b=0
  ·have hb2:(b != 0)=false:=by simp[hb]
   have HW:=zH (HV.out.trans hb);subst ha;subst hb;clear HC HV;go_enter Tryz.func216,Tryz.ntmps216;go_wp2_with fail;refine wp_loop_rounds 3 ?_;rw[rounds_succ];go_wp2_with fail;rw[rounds_succ];go_wp2_with fail;rw[rounds_succ];go_wp2_with fail;go_ret;exact⟨ret_i64 HW.out.symm,rfl⟩
  ·have hb2:(b != 0)=true:=by simp[hb]
   subst ha;clear HC;go_enter Tryz.func216,Tryz.ntmps216;go_wp2_with fail;refine wp_loop_rounds 3 ?_;rw[rounds_succ];go_wp2_with fail;rw[rounds_succ];go_wp2_with fail;go_ret;exact⟨ret_i64 HV.out.symm,rfl⟩
 ·have hb1:(a != 0)=true:=by simp[ha]
  have HV:Hid (c=a):=by show _=_;rw[HC.out,if_neg ha]
  clear HC;go_enter Tryz.func216,Tryz.ntmps216;go_wp2_with fail;refine wp_loop_rounds 3 ?_;rw[rounds_succ];go_wp2_with fail;go_ret;exact⟨ret_i64 HV.out.symm,rfl⟩
def cfM (x y:Ms):Int:=if cmpI x.til y.til=0 then cmpI x.num y.num else cmpI x.til y.til
theorem due_cmp (x y:Ms)(W:World):Calls Tryz.prog 215 #[.agg x.row.toArray,.agg y.row.toArray] W fun e w'=>e=.returned (.int .i64 (cfM x y))/\∃q os',w'=grow (W.drewN q) os':=by
 have HC:=zH compare_any;obtain⟨c,HCF⟩:∃c,Hid (c=cfM x y):=⟨_,rfl⟩;rw[<-HCF.out]
 show Calls Tryz.prog 215 #[.agg #[.int .i64 x.num,.string x.grp,.string x.bod,.int .i64 x.rcv,.int .i64 x.til],.agg #[.int .i64 y.num,.string y.grp,.string y.bod,.int .i64 y.rcv,.int .i64 y.til]] W _
 obtain⟨wb,hwb⟩:∃wb,wb=(W.alloc (.cells #[.int .i64 x.num,.string x.grp,.string x.bod,.int .i64 x.rcv,.int .i64 x.til] 191)).alloc (.cells #[.int .i64 y.num,.string y.grp,.string y.bod,.int .i64 y.rcv,.int .i64 y.til] 191):=⟨_,rfl⟩;have b0:wb.heap[W.heap.size]?=some (.cells #[.int .i64 x.num,.string x.grp,.string x.bod,.int .i64 x.rcv,.int .i64 x.til] 191 (0,0)):=by rw[hwb,heap_alloc2_old]
 have b1:wb.heap[W.heap.size+1]?=some (.cells #[.int .i64 y.num,.string y.grp,.string y.bod,.int .i64 y.rcv,.int .i64 y.til] 191 (0,0)):=by rw[hwb,heap_alloc2_new]
 have x0:wb.cell? ⟨W.heap.size,0,none⟩=some (.int .i64 x.num):=cell_qC b0 0 _ rfl;have x4:wb.cell? ⟨W.heap.size,4,none⟩=some (.int .i64 x.til):=cell_qC b0 4 _ rfl;have y0:wb.cell? ⟨W.heap.size+1,0,none⟩=some (.int .i64 y.num):=cell_qC b1 0 _ rfl;have y4:wb.cell? ⟨W.heap.size+1,4,none⟩=some (.int .i64 y.til):=cell_qC b1 4 _ rfl;have HWB:Hid (wb=grow W #[.cells #[.int .i64 x.num,.string x.grp,.string x.bod,.int .i64 x.rcv,.int .i64 x.til] 191,.cells #[.int .i64 y.num,.string y.grp,.string y.bod,.int .i64 y.rcv,.int .i64 y.til] 191]):=by
  show _=_
  rw[hwb,alloc_eq_grow,alloc_eq_grow,grow_grow];rfl
 have HOR:Hid (Calls Tryz.prog 216 #[.slice (some ⟨wb.heap.size,0,none⟩) 2 2] (wb.alloc (.cells #[.int .i64 (cmpI x.til y.til),.int .i64 (cmpI x.num y.num)] 3)).drew fun e w'=>e=.returned (.int .i64 c)/\w'=(wb.alloc (.cells #[.int .i64 (cmpI x.til y.til),.int .i64 (cmpI x.num y.num)] 3)).drew):=by
  have h:=or_any (cmpI x.til y.til) (cmpI x.num y.num) wb.heap.size (wb.alloc (.cells #[.int .i64 (cmpI x.til y.til),.int .i64 (cmpI x.num y.num)] 3)).drew (heap_alloc_new wb _);rw[show (if cmpI x.til y.til=0 then cmpI x.num y.num else cmpI x.til y.til)=c from HCF.out.symm]at h
  exact h
 clear b0 b1;go_enter Tryz.func215,Tryz.ntmps215;go_wp2_with fail;rw[<-hwb];clear hwb
 go_region_held3 (fun w'=>w'.cell? ⟨W.heap.size,0,none⟩=some (.int .i64 x.num)/\w'.cell? ⟨W.heap.size,4,none⟩=some (.int .i64 x.til)/\w'.cell? ⟨W.heap.size+1,0,none⟩=some (.int .i64 y.num)/\w'.cell? ⟨W.heap.size+1,4,none⟩=some (.int .i64 y.til)) (go_keep) (first|(go_at_call 217;refine(HC.out _ _ _).mono ?_;rintro e w' ⟨rfl,h'⟩;have h'':=h'.symm;subst h'')|(go_at_call 216;refine HOR.out.mono ?_;rintro e w9 ⟨rfl,h9⟩;have H9:Hid (w9=(wb.alloc (.cells #[.int .i64 (cmpI x.til y.til),.int .i64 (cmpI x.num y.num)] 3)).drew):=h9;have q0:w9.cell? ⟨W.heap.size,0,none⟩=some (.int .i64 x.num):=(by rw[h9];exact Lib.cell?_alloc_some _ x0);have q1:w9.cell? ⟨W.heap.size,4,none⟩=some (.int .i64 x.til):=(by rw[h9];exact Lib.cell?_alloc_some _ x4);have q2:w9.cell? ⟨W.heap.size+1,0,none⟩=some (.int .i64 y.num):=(by rw[h9];exact Lib.cell?_alloc_some _ y0);have q3:w9.cell? ⟨W.heap.size+1,4,none⟩=some (.int .i64 y.til):=(by rw[h9];exact Lib.cell?_alloc_some _ y4);clear h9))
 all_goals (go_wp2_with fail;go_ret;exact⟨rfl,1,#[.cells #[.int .i64 x.num,.string x.grp,.string x.bod,.int .i64 x.rcv,.int .i64 x.til] 191,.cells #[.int .i64 y.num,.string y.grp,.string y.bod,.int .i64 y.rcv,.int .i64 y.til] 191]++#[.cells #[.int .i64 (cmpI x.til y.til),.int .i64 (cmpI x.num y.num)] 3],by rw[H9.out,HWB.out,alloc_eq_grow,grow_grow];rfl⟩)
theorem ltM (x y:Ms):ltOf cfM x y=decide (x.til<y.til\/x.til=y.til/\x.num<y.num):=by
 unfold ltOf cfM cmpI;apply decide_eq_decide.2
 repeat' split
 all_goals omega
theorem swoM:SWO (ltOf cfM) where
 irrefl x:=by rw[ltM];exact decide_eq_false (by omega)
 trans x y z h1 h2:=by
  rw[ltM] at*
  have a:=of_decide_eq_true h1;have b:=of_decide_eq_true h2;exact decide_eq_true (by omega)
 ntrans x y z h1 h2:=by
  rw[ltM] at*
  have a:=of_decide_eq_false h1;have b:=of_decide_eq_false h2;exact decide_eq_false (by omega)
theorem eg302:∀args w,(callFunc 215 args).run Tryz.prog w=.ok (.enter 215 args) w:=enters_of Tryz.func215 (by kernel_rfl) rfl
def ltMs (x y:Ms):Prop:=x.til<y.til\/x.til=y.til/\x.num<y.num
def Asc (l:List Ms):Prop:=∀i j (hi:i<l.length) (hj:j<l.length),i<j->¬ltMs l[j] l[i]
theorem sorted_tch (w:World)(g n:Nat)(d':Array Ms)(os:Array Obj) [Inhabited Ms]:Tch [g] w (sortWorldK Ms.row 5 w g 0 n d' os):=by
 unfold sortWorldK putRowK putRow mapBlock;refine⟨rfl,rfl,rfl,?_,fun k hk hm=>?_⟩
 ·simp[grow,Sort.ahead]
 ·have hne:g≠k:=fun e=>hm (by simp[e])
  rw[heap_grow_old _ _ (by simp[Sort.ahead];exact hk)]
  show ((Sort.ahead w n).heap.modify g _)[k]?=_
  rw[Array.getElem?_modify,if_neg hne];rfl
theorem sort_any (l:List Ms)(g c base:Nat)(w:World)(ho:w.ownsRow base 191 5 (.slice (some ⟨g,0,none⟩) l.length c) l.length (l.flatMap Ms.row))(hl:l.length<=1000):
  Calls Tryz.prog 214 #[.slice (some ⟨g,0,none⟩) l.length c,.func (.func 215) #[] #[]] w fun e w'=>e=.returned (.tuple #[])/\∃l':List Ms,l'.Perm l/\Asc l'/\(∀j (hj:j<l'.length) i u,(l'[j].row)[i]?=some u->w'.cell? ⟨g,j*5+i,none⟩=some u)/\Tch [g] w w':=by
 have inh:Inhabited Ms:=⟨⟨0,⟨#[]⟩,⟨#[]⟩,0,0⟩⟩;have ho0:w.ownsRow 0 191 5 (.slice (some ⟨g,0,none⟩) l.length c) l.length (l.flatMap Ms.row):=by
  refine⟨ho.1,?_⟩;rcases ho.2 with hn|⟨g,cap,cur,h0,hb,hg,rest⟩
  ·exact .inl hn
  ·exact .inr ⟨g,cap,cur,h0,Nat.zero_le _,hg,rest⟩
 obtain⟨cur,hrow⟩:∃cur,w.heap[g]?=some (.cells cur 191 (0,0)):=by
  rcases ho.2 with ⟨h',_⟩|⟨g',cap',cur,h',hb,hg,_⟩
  ·simp at h'
  ·simp only[Value.slice.injEq,Option.some.injEq,Addr.mk.injEq,and_true,true_and]at h';obtain⟨rfl,rfl⟩:=h';exact⟨cur,hg⟩
 have hH:HoldsK Ms.row 5 w g 0 l.toArray:=fun j hj=>by
  have hj':j<l.length*5:=by simpa using hj
  have h1:j / 5<l.length:=by omega
  refine⟨?_,frozen_of_row w g _ cur 191 hrow⟩;have e1:=get_flatK Ms.row 5 l.toArray j (by simpa using hj');have e2:l.toArray[j / 5]! = l[j / 5]!:=by simp
  have h4:j % 5<(Ms.row l[j / 5]!).length:=by show j % 5<5;omega
  have h5:=own_cells Ms.row 5 (fun _=>rfl) ho0 (j / 5) h1 (j % 5) ((Ms.row l[j / 5]!)[j % 5]!) (by rw[List.getElem?_eq_getElem h4,_root_.getElem!_pos (Ms.row l[j / 5]!) (j % 5) h4]);have e3:0+j / 5*5+j % 5=0+j:=by omega
  rw[e3]at h5;rw[h5]
  show some _=some (id _)
  rw[e1,e2];rfl
 have h:=AnyQ.slices_SortFunc l301 5 Tryz.isAgg191 Tryz.sizeOf191 Ms.row (fun _=>rfl) (fun x v hv=>by simp[Ms.row]at hv;rcases hv with rfl|rfl|rfl|rfl|rfl<;>rfl) cfM swoM 215 #[] g 0 c l.toArray w eg302 (fun _ _ _ _ x y=>due_cmp x y _) hH (lt_of_block hrow) (by simp;omega);have e0:l.toArray.size=l.length:=by simp
 rw[e0]at h;refine h.mono ?_;rintro e w' ⟨he,d',n,os,⟨hs,_,hp⟩,hsrt,hw⟩;have hds:d'.size=l.length:=by rw[hs,e0]
 have hSW:SWK Ms.row 5 w g 0 d' w':=⟨n,os,hw⟩;have hh:=hSW.holds (lt_of_block hrow) hH (by rw[hds,e0]);refine⟨he,d'.toList,?_,fun i j hi hj hij=>?_,fun j hj i u hu=>?_,by rw[hw];exact sorted_tch w g n d' os⟩
 ·have e1:(d'.extract 0 l.length).toList=d'.toList:=by rw[<-hds];simp
  have e2:(l.toArray.extract 0 l.length).toList=l:=by simp
  rw[e1,e2]at hp;exact hp
 ·have h1:=hsrt i j (Nat.zero_le _) hij (by simpa [hds]using hj);rw[ltM]at h1;have h2:=of_decide_eq_false h1;have hi':i<d'.size:=by simpa using hi
  have hj':j<d'.size:=by simpa using hj
  rw[_root_.getElem!_pos d' i hi',_root_.getElem!_pos d' j hj']at h2;simpa [ltMs]using h2
 ·have hj':j<d'.size:=by simpa using hj
  have hi5:i<5:=by
   have:=(List.getElem?_eq_some_iff.1 hu).1;exact this
  have h1:=(hh.cell hj' hi5).1;have e1:d'[j]! = d'.toList[j]:=by rw[_root_.getElem!_pos d' j hj'];simp
  have e2:0+j*5+i=j*5+i:=by omega
  rw[e1,e2]at h1;rw[h1];have hi6:i<(Ms.row d'.toList[j]).length:=hi5;rw[_root_.getElem!_pos (Ms.row d'.toList[j]) i hi6,<-List.getElem?_eq_getElem hi6];exact hu
end Go.Proofs.YtbdobaapadlcjabGreatDoor
namespace Go.Proofs.YtbdobaapadlcjabGreatDoor
open Go.RowKit
variable {now:Int}{l:List Ms}{j:Nat}{m:Ms}
theorem ins_none (p:Option Addr)(cap:Nat)(fv:Value)(w:World):
  zE 221 #[.slice p 0 cap,.int .i64 0,.int .i64 0,fv] w (.tuple #[]):=by
 go_enter Tryz.func221,Tryz.ntmps221
 go_wp2
 refine wp_loop_rounds 1 ?_;rw[rounds_succ]
 go_wp2
 go_end0;exact⟨rfl,rfl⟩
theorem pdq_none (p:Option Addr)(cap:Nat)(lim:Int)(fv:Value)(w:World):
  zE 218 #[.slice p 0 cap,.int .i64 0,.int .i64 0,.int .i64 lim,fv] w (.tuple #[]):=by
 go_enter Tryz.func218,Tryz.ntmps218
 go_wp2
 refine wp_loop_rounds 1 ?_;rw[rounds_succ];go_wp2_with (go_at_call 221;refine(ins_none _ _ _ _).mono ?_;rintro e w' ⟨rfl,rfl⟩)
 (try simp only[Exit.inBlock,Exit.then])
 refine bodyPost_ret (results_none rfl _ _ _) rfl ?_;exact⟨rfl,rfl⟩
theorem len64_0 (w:World):Calls Tryz.prog 230 #[.int .u64 0] w fun e w'=>(∃z:Int,e=.returned (.int .i64 z))/\w'=w:=by
 go_enter Tryz.func230,Tryz.ntmps230
 go_wp2
 go_ret;exact⟨⟨_,rfl⟩,rfl⟩
theorem len_0 (w:World):Calls Tryz.prog 219 #[.int .u64 0] w fun e w'=>(∃z:Int,e=.returned (.int .i64 z))/\w'=w:=by
 go_enter Tryz.func219,Tryz.ntmps219;go_wp2_with (go_at_call 230;refine(len64_0 _).mono ?_;rintro e w' ⟨⟨z,rfl⟩,rfl⟩);go_ret;exact⟨⟨_,rfl⟩,rfl⟩
theorem sort_none (p:Option Addr)(cap:Nat)(fv:Value)(w:World):zE 214 #[.slice p 0 cap,fv] w (.tuple #[]):=by
 go_enter Tryz.func214,Tryz.ntmps214;go_wp2_with (first|(go_at_call 219;refine(len_0 _).mono ?_;rintro e w' ⟨⟨z,rfl⟩,rfl⟩)|(go_at_call 218;refine(pdq_none _ _ _ _ _).mono ?_;rintro e w' ⟨rfl,rfl⟩));go_end0;exact⟨rfl,rfl⟩
def dueL (now:Int)(l:List Ms):List Ms:=l.filter fun m=>decide (0<m.til/\m.til<=now)
theorem dueL_yes (hm:l[j]?=some m)(h:0<m.til/\m.til<=now):dueL now (l.take (j+1))=dueL now (l.take j)++[m]:=by
 unfold dueL;rw[List.take_add_one,hm,List.filter_append];simp[h]
theorem dueL_no (hm:l[j]?=some m)(h:¬(0<m.til/\m.til<=now)):dueL now (l.take (j+1))=dueL now (l.take j):=by
 unfold dueL;rw[List.take_add_one,hm,List.filter_append];have h2:[m].filter (fun m=>decide (0<m.til/\m.til<=now))=[]:=by
  rw[List.filter_cons];simp only[h,decide_false];rfl
 simp only[Option.toList_some,h2,List.append_nil]
theorem own_le {w:World}{base b' t size n:Nat}{v:Value}{xs:List Value}(h:w.ownsRow base t size v n xs)(hb:b'<=base):w.ownsRow b' t size v n xs:=by
 refine⟨h.1,?_⟩;rcases h.2 with hn|⟨g,cap,cur,h0,hb2,hg,rest⟩
 ·exact .inl hn
 ·exact .inr ⟨g,cap,cur,h0,Nat.le_trans hb hb2,hg,rest⟩
theorem dueL_len (now:Int)(l:List Ms)(j:Nat):(dueL now (l.take j)).length<=l.length:=by
 have h1:=List.length_filter_le (fun m:Ms=>decide (0<m.til/\m.til<=now)) (l.take j);have h2:(l.take j).length<=l.length:=by rw[List.length_take];omega
 exact Nat.le_trans h1 h2
def DueW (l':List Ms)(w:World)(v:Value)(w':World):Prop:=w'.ownsRow w.heap.size 3 1 v l'.length (l'.map fun m=>.int .i64 m.num)/\Tch [] w w'
theorem due_any (l:List Ms)(v:Value)(qb:Nat)(now:Int)(w:World)(c7:w.cell? ⟨qb,7,none⟩=some v)(ho:w.ownsRow 0 191 5 v l.length (l.flatMap Ms.row))(hl:l.length<=1000):
  Calls Tryz.prog 213 #[.pointer (some ⟨qb,0,none⟩),.int .i64 now] w fun e w'=>∃v' l',e=.returned v'/\l'.Perm (dueL now l)/\Asc l'/\DueW l' w v' w':=by
 have inh:Inhabited Ms:=⟨⟨0,⟨#[]⟩,⟨#[]⟩,0,0⟩⟩;have hasc0:Asc []:=fun i j hi hj _=>by simp at hi
 rcases ho.2 with ⟨rfl,h0⟩|⟨gd,cd,cur,rfl,_,hg,hnc,_⟩
 ·have hle:l=[]:=List.length_eq_zero_iff.1 h0;subst hle;clear ho;go_enter Tryz.func213,Tryz.ntmps213
  go_wp2
  refine wp_loop_rounds 1 ?_;rw[rounds_succ];go_wp2_with (go_at_call 214;go_loud (refine(sort_none _ _ _ _).mono ?_;rintro e w' ⟨rfl,hw⟩;have hw':=hw.symm;subst hw'));refine wp_loop_rounds 1 ?_;rw[rounds_succ]
  go_wp2
  go_ret;exact⟨_,[],rfl,List.Perm.refl _,hasc0,World.ownsRow_nil _ _ _ _,Tch.refl _ _⟩
 ·have HO:Hid (w.ownsRow 0 191 5 (.slice (some ⟨gd,0,none⟩) l.length cd) l.length (l.flatMap Ms.row)):=ho;have hgl:=lt_of_block hg;clear hg ho;go_enter Tryz.func213,Tryz.ntmps213;go_wp2_with fail
  go_loopw [5,16] (fun dv jv wr=>∃(j:Nat) (v1:Value),j<=l.length/\dv=v1/\jv=.int .i64 (j:Int)/\wr.ownsRow w.heap.size 191 5 v1 (dueL now (l.take j)).length ((dueL now (l.take j)).flatMap Ms.row)/\Tch [] w wr) (fun _ jv _=>l.length-(intOf jv).toNat)
  case atStart=>exact⟨0,_,Nat.zero_le _,rfl,rfl,World.ownsRow_nil _ _ _ _,Tch.refl _ _⟩
  case round=>
   obtain⟨j,v1,hj,rfl,rfl,hv1,ht⟩:=hrel;have HV:Hid (wr.ownsRow w.heap.size 191 5 u5 (dueL now (l.take j)).length ((dueL now (l.take j)).flatMap Ms.row)):=hv1;have HT:Hid (Tch [] w wr):=ht;have zr:=ht.size;have hln:=dueL_len now l j
   by_cases hlt:j<l.length
   ·have hor:=own_tch HO.out ht (fun _ _=>by simp);have hgr:=own_lt hor rfl;obtain⟨m,hm⟩:∃m,l[j]?=some m:=⟨_,List.getElem?_eq_getElem hlt⟩;have fm:∀i v,m.row[i]?=some v->wr.cell? ⟨gd,j*5+i,none⟩=some v:=fun i v hi=>by
     have h1:=own_cells Ms.row 5 (fun _=>rfl) hor j hlt i v (by rw[List.getElem!_eq_getElem?_getD,hm];exact hi);simpa using h1
    have g0:wr.cell? ⟨gd,j*5,none⟩=some (.int .i64 m.num):=fm 0 _ rfl;have g1:wr.cell? ⟨gd,j*5+1,none⟩=some (.string m.grp):=fm 1 _ rfl;have g2:wr.cell? ⟨gd,j*5+2,none⟩=some (.string m.bod):=fm 2 _ rfl;have g3:wr.cell? ⟨gd,j*5+3,none⟩=some (.int .i64 m.rcv):=fm 3 _ rfl;have g4:wr.cell? ⟨gd,j*5+4,none⟩=some (.int .i64 m.til):=fm 4 _ rfl;have HN:Hid (¬(0<m.til/\m.til<=now)->dueL now (l.take (j+1))=dueL now (l.take j)):=fun h=>dueL_no hm h
    have HY:Hid (0<m.til/\m.til<=now->dueL now (l.take (j+1))=dueL now (l.take j)++[m]):=fun h=>dueL_yes hm h
    clear fm hor hm ht hv1
    by_cases h0:0<m.til
    ·by_cases h1:m.til<=now
     ·have HR:Hid (dueL now (l.take (j+1))=dueL now (l.take j)++[m]):=HY.out ⟨h0,h1⟩;clear HN HY;obtain⟨oa,oc,hoe⟩:=own_shape' HV.out;subst hoe;generalize dueL now (l.take j)=D at*
      go_wp2_with (at_builtin;refine wpList_valsD w.heap.size _ rfl _ _ 133 191 rfl Tryz.underlying133 (.agg #[.int .i64 0,.string ⟨#[]⟩,.string ⟨#[]⟩,.int .i64 0,.int .i64 0]) 5 56 info214 rfl (by decide) (by decide) (.slice oa D.length oc) D.length (D.flatMap Ms.row) ?hvs ?hvo ?hvb (wr.heap.size+1) m.row 1 ?hvx rfl (by decide) ?hvg ?hv1 (by omega) ?hvk)
      case hvo=>exact own_tch HV.out (((Tch.refl [] _).alloc _).alloc _) (fun _ _=>by simp)
      case hvb=>omega
      case hvg=>
       obtain⟨_,h⟩:=Array.getElem?_eq_some_iff.1 (heap_alloc2_new wr (.cells #[.int .i64 m.num,.string m.grp,.string m.bod,.int .i64 m.rcv,.int .i64 m.til] 191) (.cells #[.int .i64 m.num,.string m.grp,.string m.bod,.int .i64 m.rcv,.int .i64 m.til] 191));exact h
      case hv1=>intro u hu;simp[Ms.row]at hu;rcases hu with rfl|rfl|rfl|rfl|rfl<;>rfl
      intro v2 w2 ho2 hg2 hb2;have HO2:Hid (w2.ownsRow w.heap.size 191 5 v2 (dueL now (l.take (j+1))).length ((dueL now (l.take (j+1))).flatMap Ms.row)/\Tch [] w w2):=by
       refine⟨by rw[HR.out];simpa using ho2,((HT.out.alloc _).alloc _).grown hg2 (fun j hj hlt=>?_)⟩;have:=own_ge' HV.out j hj;omega
      clear ho2 hg2 hb2;go_wp2_with fail;go_roundw
      case rel=>exact⟨j+1,v2,by omega,rfl,by go_num,HO2.out.1,HO2.out.2⟩
      case measure=>simp[intOf];omega
     ·have HR:Hid (dueL now (l.take (j+1))=dueL now (l.take j)):=HN.out (fun h=>h1 h.2);clear HN HY;go_wp2_with fail;go_roundw
      case rel=>exact⟨j+1,_,by omega,rfl,by go_num,by rw[HR.out];exact own_tch HV.out ((Tch.refl [] _).alloc _) (fun _ _=>by simp),HT.out.alloc _⟩
      case measure=>simp[intOf];omega
    ·have HR:Hid (dueL now (l.take (j+1))=dueL now (l.take j)):=HN.out (fun h=>h0 h.1);clear HN HY;go_wp2_with fail;go_roundw
     case rel=>exact⟨j+1,_,by omega,rfl,by go_num,by rw[HR.out];exact own_tch HV.out ((Tch.refl [] _).alloc _) (fun _ _=>by simp),HT.out.alloc _⟩
     case measure=>simp[intOf];omega
   ·have hje:j=l.length:=by omega
    subst hje;clear ht hv1;obtain⟨D,HD⟩:∃D,Hid (dueL now l=D):=⟨_,rfl⟩;have HV2:Hid (wr.ownsRow w.heap.size 191 5 u5 D.length (D.flatMap Ms.row)):=by
     have h:=HV.out;rw[List.take_length,HD.out]at h;exact h
    have hDl:D.length<=l.length:=by rw[<-HD.out];rw[List.take_length]at hln;exact hln
    clear HV hln;rcases HV2.out.2 with ⟨rfl,h0⟩|⟨g,c,cur2,rfl,hb,hg,_⟩
    ·have hDe:D=[]:=List.length_eq_zero_iff.1 h0;have HDE:Hid (dueL now l=[]):=HD.out.trans hDe;clear HD hDe HV2;go_wp2_with (go_at_call 214;refine(sort_none _ _ _ _).mono ?_;rintro e w' ⟨rfl,rfl⟩);refine wp_loop_rounds 1 ?_;rw[rounds_succ]
     go_wp2
     go_ret;exact⟨_,[],rfl,by rw[HDE.out],hasc0,World.ownsRow_nil _ _ _ _,HT.out⟩
    ·have HS:Hid (Calls Tryz.prog 214 #[.slice (some ⟨g,0,none⟩) D.length c,.func (.func 215) #[] #[]] wr _):=sort_any D g c w.heap.size wr HV2.out (by omega);have hgl2:=lt_of_block hg;clear hg HV2;go_wp2_with (go_at_call 214;refine HS.out.mono ?_;rintro e w3 ⟨rfl,l',hp,hasc,hcl,ht3⟩;have HP:Hid (l'.Perm D/\Asc l'):=⟨hp,hasc⟩;have hle:=hp.length_eq;have HCL:Hid (∀j (hj:j<l'.length) i u,(l'[j].row)[i]?=some u->w3.cell? ⟨g,j*5+i,none⟩=some u):=hcl;have HT3:Hid (Tch [] w w3):=(HT.out.trans ht3 (fun x hx hlt=>by simp at hx;omega));have z3:=HT3.out.size;have z4:=ht3.size;clear hp hasc hcl ht3)
     go_loopw [8,38] (fun nv jv wq=>∃(j:Nat) (v2:Value),j<=l'.length/\nv=v2/\jv=.int .i64 (j:Int)/\wq.ownsRow w3.heap.size 3 1 v2 j ((l'.take j).map fun m=>.int .i64 m.num)/\Tch [] w3 wq) (fun _ jv _=>l'.length-(intOf jv).toNat)
     case atStart=>exact⟨0,_,Nat.zero_le _,rfl,rfl,World.ownsRow_nil _ _ _ _,Tch.refl _ _⟩
     case round=>
      obtain⟨j,v2,hj2,rfl,rfl,hv2,ht2⟩:=hrel;have HV2:Hid (wr.ownsRow w3.heap.size 3 1 u8 j ((l'.take j).map fun m=>.int .i64 m.num)):=hv2;have HT2:Hid (Tch [] w3 wr):=ht2;have z2:=ht2.size;have hgw:g<wr.heap.size:=by omega
      have hg3:g<w3.heap.size:=by omega
      clear hv2
      by_cases hlt:j<l'.length
      ·obtain⟨m,hm⟩:∃m,l'[j]=m:=⟨_,rfl⟩;have fm:∀i v,m.row[i]?=some v->wr.cell? ⟨g,j*5+i,none⟩=some v:=fun i v hi=>by
        have h1:=HCL.out j hlt i v (by rw[hm];exact hi);rw[<-h1];exact ht2.cell hg3 (by simp)
       have g0:wr.cell? ⟨g,j*5,none⟩=some (.int .i64 m.num):=fm 0 _ rfl;have g1:wr.cell? ⟨g,j*5+1,none⟩=some (.string m.grp):=fm 1 _ rfl;have g2:wr.cell? ⟨g,j*5+2,none⟩=some (.string m.bod):=fm 2 _ rfl;have g3:wr.cell? ⟨g,j*5+3,none⟩=some (.int .i64 m.rcv):=fm 3 _ rfl;have g4:wr.cell? ⟨g,j*5+4,none⟩=some (.int .i64 m.til):=fm 4 _ rfl;have HR:Hid (l'.take (j+1)=l'.take j++[m]):=by
        show _=_
        rw[List.take_add_one,List.getElem?_eq_getElem hlt,hm];rfl
       clear fm hm ht2;obtain⟨oa,oc,hoe⟩:=own_shape' HV2.out;subst hoe;have hj3:j<D.length:=by omega
       go_wp2_with (at_builtin;refine wpList_valsD w3.heap.size _ rfl _ _ 26 3 rfl Tryz.underlying26 (.int .i64 0) 1 8 info3 rfl (by decide) (by decide) (.slice oa j oc) j ((l'.take j).map fun m=>.int .i64 m.num) ?hys ?hyo ?hyb (wr.heap.size+1) [.int .i64 m.num] 1 ?hyx rfl (by decide) ?hyg ?hy1 (by omega) ?hyk)
       case hyo=>exact own_tch HV2.out (((Tch.refl [] _).alloc _).alloc _) (fun _ _=>by simp)
       case hys=>simp[Act.eval,Act.put]
       case hyx=>simp[Act.eval,Act.put]
       case hyb=>simp only[World.size_alloc];omega
       case hyg=>exact heap_alloc2_new _ _ _
       case hy1=>intro u hu;simp at hu;subst hu;rfl
       intro v2 w2 ho2 hg2 hb2;have HO2:Hid (w2.ownsRow w3.heap.size 3 1 v2 (j+1) ((l'.take (j+1)).map fun m=>.int .i64 m.num)/\Tch [] w3 w2):=by
        refine⟨by rw[HR.out];simpa using ho2,((HT2.out.alloc _).alloc _).grown hg2 (fun j hj hlt=>?_)⟩;have:=own_ge' HV2.out j hj;omega
       clear ho2 hg2 hb2;go_wp2_with fail;go_roundw
       case rel=>exact⟨j+1,v2,by omega,rfl,by go_num,HO2.out.1,HO2.out.2⟩
       case measure=>simp[intOf];omega
      ·have hje:j=l'.length:=by omega
       subst hje;clear ht2;obtain⟨oa,oc,hoe⟩:=own_shape' HV2.out;subst hoe;have hDe:¬((l'.length:Int)<(D.length:Int)):=by omega
       have HF:Hid (wr.ownsRow w3.heap.size 3 1 (.slice oa D.length oc) l'.length (l'.map fun m=>.int .i64 m.num)):=by
        have h:=HV2.out;rw[List.take_length]at h
        show wr.ownsRow _ _ _ _ _ _
        rw[<-hle];exact h
       go_wp2_with fail;go_ret;refine⟨_,rfl,l',by rw[HD.out];exact HP.out.1,HP.out.2,own_le HF.out z3,HT3.out.trans HT2.out (fun x hx=>by simp at hx)⟩
end Go.Proofs.YtbdobaapadlcjabGreatDoor
