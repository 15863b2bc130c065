import Derived.Test.YtbdobaapadlcjaaGreatDoorBy31
import Derived.Test.YtbdobaapadlcjaaGreatDoorBy00
import Derived.Lib.LaidTab
import Derived.Deep.DeepWitnessRowRef
import Derived.LaidMore
set_option maxRecDepth 100000
set_option maxHeartbeats 8000000
set_option linter.unusedVariables false
set_option linter.unusedSimpArgs false
namespace Go.Proofs.YtbdobaapadlcjaaGreatDoor.Ref
open Go.RowKit Go.Proofs.YtbdobaapadlcjaaGreatDoor
variable {B wb N N' n:Nat}{w0 w w':World}{pv:Value}{ps:List Po}
theorem PW.tch (h:PW B w0 w wb pv ps N)(ht:Tch [] w w'):PW B w0 w' wb pv ps N:=by
 obtain⟨ow,ro,pi,hO⟩:=h.own;have hf:Fr B [] w w':=Fr.of_nil _ ht h.env.size;refine⟨hf.keep _ _ _ h.blk (by decide),h.lo,hf.own h.row (by decide),h.pl,⟨ow,ro,pi,fun i hi=>(hO i hi).o3 hf (ht.block _ (lt_of_block (hO i hi).blk) (by simp)) (by decide) (fun _ _=>rfl) (fun _ _=>rfl)⟩,h.env.fr hf,h.bel.trans hf.below⟩
theorem PW.mono (h:PW B w0 w wb pv ps N)(hN:N<=N'):PW B w0 w wb pv ps N':=by
 obtain⟨ow,ro,pi,hO⟩:=h.own;exact⟨h.blk,h.lo,h.row,h.pl,⟨ow,ro,pi,fun i hi=>(hO i hi).mono hN⟩,h.env,h.bel⟩
def opC (kd on a:Int)(s:ByteArray)(la:Option Addr)(ll lc:Nat)(r:Wp.Rq)(x:Sl):Array Value:=#[.int .i64 kd,.int .i64 on,.int .i64 a,.string s,.slice la ll lc,.int .u8 (r.op.toNat:Int),.int .u8 (r.q.toNat:Int),.int .u8 (r.d.toNat:Int),.int .i64 r.vis,.int .i64 r.win,.int .i64 r.rcv,.int .i64 r.quo,.int .i64 r.mx,.int .i64 r.tic,.string r.grp,.string r.ded,.string r.bod,.string r.att,.string r.han,x.v]
def SPo (B:Nat)(w0:World)(wb N n:Nat)(w':World):Prop:=∃pv ps,PW B w0 w' wb pv ps N/\0<ps.length/\ps.length<=n
theorem b0a (h:SPo B w0 wb N n w)(hn:n<=9000000000000)(on:Int)(s:ByteArray)(la:Option Addr)(ll lc:Nat)(r:Wp.Rq)(x:Sl):
  Cp 28 #[zp wb,.agg (opC 1 on (-1) s la ll lc r x)] w fun e w'=>e=.returned (.bool true)/\SPo B w0 wb (N+400000) (n+1) w':=by
 have HO:Hid (∀W,Tch [] w W->Cp 27 #[zp wb,.int .i64 (-1)] W fun e w'=>e=.returned (.bool true)/\SPo B w0 wb (N+400000) (n+1) w'):=fun W ht=>by
  obtain⟨pv,ps,hP,h0,h1⟩:=h;refine(a3g (hP.tch ht) (by omega)).mono ?_;rintro e w' ⟨he,pv',p,hP'⟩;exact⟨he,pv',_,hP'.mono (by omega),by simp,by simp;omega⟩
 have c0:(w.alloc (.cells (opC 1 on (-1) s la ll lc r x) 67)).cell? ⟨w.heap.size,0,none⟩=some (.int .i64 1):=jb (heap_alloc_new _ _) 0 _ rfl;have c2:(w.alloc (.cells (opC 1 on (-1) s la ll lc r x) 67)).cell? ⟨w.heap.size,2,none⟩=some (.int .i64 (-1)):=jb (heap_alloc_new _ _) 2 _ rfl;have HT:Hid (Tch [] w (w.alloc (.cells (opC 1 on (-1) s la ll lc r x) 67))):=(Tch.refl [] _).alloc _;clear h;unfold opC at*
 go_enter Tryz.func28,Tryz.ntmps28;go_wp2_with fail;refine(HO.out _ HT.out).mono ?_;rintro e w1 ⟨rfl,hp⟩;have HP:=zH hp;clear hp HO HT;go_wp2_with fail;go_ret;exact⟨rfl,HP.out⟩
theorem b4S (h:SPo B w0 wb N n w)(hn:n<=9000000000000)(hN:N<=4611686018426000000)(kd on:Int)(hon:-9223372036854775808<=on/\on<=9223372036854775807)(hkd:kd<=2)(hk1:kd≠1)(s:ByteArray)(hs:s.size<=maxLen)(la:Option Addr)(ll lc:Nat)(r:Wp.Rq)(x:Sl):
  Cp 28 #[zp wb,.agg (opC kd on (-1) s la ll lc r x)] w fun e w'=>e=.returned (.bool true)/\SPo B w0 wb (N+400000) (n+1) w':=by
 obtain⟨pv,ps,hP,h0,h1⟩:=h;obtain⟨sa,sc,hpv⟩:=jl hP.row;have HPV:=zH hpv;obtain⟨gp,rfl⟩:∃gp,sa=some ⟨gp,0,none⟩:=by
  have ho:=hP.row;rw[hpv]at ho;rcases ho.2 with ⟨e,h2⟩|⟨g,cap,cur,e,_⟩
  ·omega
  ·simp only[Value.slice.injEq,true_and]at e;exact⟨g,e.1⟩
 have HC:Hid (∀W,Tch [] w W->W.cell? ⟨wb,0,none⟩=some (.slice (some ⟨gp,0,none⟩) ps.length sc)/\wb<W.heap.size/\gp<W.heap.size/\∀i (hi:i<ps.length),W.cell? ⟨gp,i,none⟩=some (zp (ps[i].pb))/\W.cell? ⟨ps[i].pb,5,none⟩=some (.bool false)/\ps[i].pb<W.heap.size):=fun W ht=>by
  have hW:=hP.tch ht;obtain⟨ow,ro,pi,hO⟩:=hW.own;have hrow:=hW.row;rw[<-a2J]at hrow;refine⟨by rw[<-HPV.out];exact jb hW.blk 0 _ rfl,lt_of_block hW.blk,vM hW.row (by rw[HPV.out];rfl),fun i hi=>⟨?_,jb (hO i hi).blk 5 _ rfl,lt_of_block (hO i hi).blk⟩⟩
  obtain⟨g,c,e,lg,hcs⟩:=kA (fun p:Po=>[zp p.pb]) 1 (fun _=>rfl) hrow i hi;rw[HPV.out]at e;simp only[Value.slice.injEq,Option.some.injEq,Addr.mk.injEq,and_true,true_and]at e;obtain⟨rfl,_⟩:=e;have:=hcs 0 _ rfl;simp only[Nat.mul_one,Nat.add_zero]at this;exact this
 obtain⟨i,hi,hpk⟩:=b0g on ps.length hon h0 (by omega);have HPK:Hid (∀W,zE 47 #[.int .i64 on,.int .i64 (ps.length:Int)] W (.int .i64 (i:Nat))):=hpk;have HD:Hid (∀W i (hi:i<ps.length),kd=2->Tch [] w W->Cp 48 #[zp (ps[i].pb),.string s] W fun e w'=>e=.returned (.bool true)/\SPo B w0 wb (N+400000) (n+1) w'):=fun W i hi hk ht=>by
  refine(b3F (hP.tch ht) i hi hN s hs).mono ?_;rintro e w' ⟨he,p',hP'⟩;exact⟨he,pv,_,hP',by rw[List.length_set];exact h0,by rw[List.length_set];omega⟩
 have HSM:Hid (∀W,Tch [] w W->SPo B w0 wb (N+400000) (n+1) W):=fun W ht=>⟨pv,ps,(hP.tch ht).mono (by omega),h0,by omega⟩
 have HB:Hid (∀W,Tch [] (w.alloc (.cells (opC kd on (-1) s la ll lc r x) 67)) W->W.cell? ⟨w.heap.size,0,none⟩=some (.int .i64 kd)/\W.cell? ⟨w.heap.size,1,none⟩=some (.int .i64 on)/\W.cell? ⟨w.heap.size,3,none⟩=some (.string s)/\w.heap.size<W.heap.size/\Tch [] w W):=fun W ht=>by
  have hb:W.heap[w.heap.size]?=some (.cells (opC kd on (-1) s la ll lc r x) 67 (0,0)):=(ht.block _ (by simp) (by simp)).trans (heap_alloc_new _ _);exact⟨jb hb 0 _ rfl,jb hb 1 _ rfl,jb hb 3 _ rfl,lt_of_block hb,((Tch.refl [] w).alloc _).trans ht (fun _ h _=>h)⟩
 have hnz:¬(ps.length:Int)=0:=by omega
 have hk7:¬kd=7:=by omega
 have hk3:¬kd=3:=by omega
 have hk4:¬kd=4:=by omega
 have hk5:¬kd=5:=by omega
 have hk6:¬kd=6:=by omega
 generalize hWB:w.alloc (.cells (opC kd on (-1) s la ll lc r x) 67)=wx at*
 have hal:w.alloc (.cells #[.int .i64 kd,.int .i64 on,.int .i64 (-1),.string s,.slice la ll lc,.int .u8 (r.op.toNat:Int),.int .u8 (r.q.toNat:Int),.int .u8 (r.d.toNat:Int),.int .i64 r.vis,.int .i64 r.win,.int .i64 r.rcv,.int .i64 r.quo,.int .i64 r.mx,.int .i64 r.tic,.string r.grp,.string r.ded,.string r.bod,.string r.att,.string r.han,x.v] 67)=wx:=hWB;obtain⟨c0,c1,c3,lb,tx⟩:=HB.out wx (Tch.refl _ _);obtain⟨d0,lw,lg,hrow⟩:=HC.out wx tx;obtain⟨f0,f5,fl⟩:=hrow i hi;have hiI:(i:Int)<(ps.length:Int):=by omega
 have hi0:(0:Int)<=(i:Int):=by omega
 have HD2:Hid (∀W,kd=2->Tch [] w W->Cp 48 #[zp (ps[i].pb),.string s] W fun e w'=>e=.returned (.bool true)/\SPo B w0 wb (N+400000) (n+1) w'):=fun W=>HD.out W i hi
 have HC2:Hid (∀W,Tch [] w W->W.cell? ⟨wb,0,none⟩=some (.slice (some ⟨gp,0,none⟩) ps.length sc)/\wb<W.heap.size/\gp<W.heap.size/\W.cell? ⟨gp,i,none⟩=some (zp (ps[i].pb))/\W.cell? ⟨ps[i].pb,5,none⟩=some (.bool false)/\ps[i].pb<W.heap.size):=fun W ht=>by
  obtain⟨a1,a2,a3,a4⟩:=HC.out W ht;obtain⟨a5,a6,a7⟩:=a4 i hi;exact⟨a1,a2,a3,a5,a6,a7⟩
 clear hP hpv hWB tx hon hrow hpk HC HD;generalize ps[i].pb=pb at*
 unfold opC;go_enter Tryz.func28,Tryz.ntmps28;go_wp2_with fail
 go_region_held3 (fun w'=>w'.cell? ⟨wb,0,none⟩=some (.slice (some ⟨gp,0,none⟩) ps.length sc)/\w'.cell? ⟨w.heap.size,1,none⟩=some (.int .i64 on)/\w'.cell? ⟨gp,i,none⟩=some (zp pb)) (go_keep) (first|(go_at_call 47;refine(HPK.out _).mono ?_;rintro e wh ⟨rfl,hh⟩;have TH:Hid (Tch [] wx wh):=(by rw[hh];first|exact Tch.refl _ _|exact(Tch.refl [] _).drew|exact(Tch.refl [] _).drewN _);obtain⟨k0,k1,k3,klb,ktx⟩:=HB.out wh TH.out;obtain⟨e0,elw,elg,e1,e5,el⟩:=HC2.out wh ktx;clear hh))
 all_goals
  have KTX:=zH ktx;clear ktx c0 c1 c3 lb d0 lw lg f0 f5 fl HB HC2 HPK
  by_cases hk2:kd=2
  ·have HDW:=zH (HD2.out wh hk2 KTX.out);clear HD2 HSM;go_wp2_with fail;refine HDW.out.mono ?_;rintro e w1 ⟨rfl,hp⟩;have HP:=zH hp;clear hp HDW;go_wp2_with fail;go_ret;exact⟨rfl,HP.out⟩
  ·have HP:=zH (HSM.out wh KTX.out);clear HD2 HSM;go_wp2_with fail;go_ret;exact⟨rfl,HP.out⟩
structure OpS where
 kd:Int
 on:Int
 a:Int
 s:ByteArray
 la:Option Addr
 ll:Nat
 lc:Nat
 r:Wp.Rq
 x:Sl
def OpS.row (o:OpS):List Value:=(opC o.kd o.on o.a o.s o.la o.ll o.lc o.r o.x).toList
structure OpS.Ok (o:OpS):Prop where
 on:-9223372036854775808<=o.on/\o.on<=9223372036854775807
 s:o.s.size<=maxLen
def b3r (B:Nat)(w:World)(ga:Option Addr)(sc:List OpS):Prop:=0<sc.length->∃g o,ga=some ⟨g,o,none⟩/\g<B/\∀j (hj:j<sc.length) i u,(sc[j].row)[i]?=some u->w.cell? ⟨g,o+j*20+i,none⟩=some u
theorem SPo.tch (h:SPo B w0 wb N n w)(ht:Tch [] w w'):SPo B w0 wb N n w':=by
 obtain⟨pv,ps,hP,h0,h1⟩:=h;exact⟨pv,ps,hP.tch ht,h0,h1⟩
theorem SPo.mono {n':Nat}(h:SPo B w0 wb N n w)(hN:N<=N')(hn:n<=n'):SPo B w0 wb N' n' w:=by
 obtain⟨pv,ps,hP,h0,h1⟩:=h;exact⟨pv,ps,hP.mono hN,h0,by omega⟩
theorem SPo.bel (h:SPo B w0 wb N n w):Below B w0 w:=by
 obtain⟨pv,ps,hP,h0,h1⟩:=h;exact hP.bel
theorem SPo.c1 (h:SPo B w0 wb N n w):w.cell? ⟨wb,1,none⟩=some (.slice none 0 0):=by
 obtain⟨pv,ps,hP,h0,h1⟩:=h;exact jb hP.blk 1 _ rfl
theorem a6Z:(Tryz.prog.info? 67).map (fun i=>i.size)=some 20:=by kernel_rfl
theorem b4n (kd on a:Int)(s:ByteArray)(la:Option Addr)(ll lc:Nat)(r:Wp.Rq)(x:Sl):(opC kd on a s la ll lc r x).all (·.oneCell')=true:=by
 unfold opC;simp[Value.oneCell',Sl.v]
abbrev sC (c:OpS)(a:Int):Array Value:=opC c.kd c.on a c.s c.la c.ll c.lc c.r c.x
theorem b4t (ga:Option Addr)(gc:Nat)(sc:List OpS)(w:World)(hE:Env w.heap.size w)(hok:∀o∈sc,o.Ok)(hln:sc.length<=2000000000000)(hga:b3r w.heap.size w ga sc):
  zB 11 #[.slice ga sc.length gc,.int .i64 2,.bool true] w (.bool true):=by
 have HW1:Hid (PW w.heap.size w (w.alloc (.cells #[.slice none 0 0,.slice none 0 0] 64)) w.heap.size (.slice none 0 0) [] 0):=by
  have ht:Tch [] w (w.alloc (.cells #[.slice none 0 0,.slice none 0 0] 64)):=(Tch.refl _ _).alloc _;exact⟨heap_alloc_new _ _,Nat.le_refl _,World.ownsRow_nil _ _ _ _,fun k hk=>by simp[Value.ownBlock]at hk,⟨fun _=>0,fun _=>0,fun _=>0,fun i hi=>by simp at hi⟩,hE.tch ht (by simp),(Fr.of_nil [] ht (Nat.le_refl _)).below⟩
 have HOP:Hid (Cp 27 #[zp w.heap.size,.int .i64 (-1)] (w.alloc (.cells #[.slice none 0 0,.slice none 0 0] 64)) fun e w'=>e=.returned (.bool true)/\SPo w.heap.size w w.heap.size 0 1 w'):=(a3g HW1.out (by simp)).mono (by
  rintro e w' ⟨he,pv',p,hP'⟩;exact⟨he,pv',_,hP',by simp,by simp⟩)
 have HSC:Hid (∀W,Below w.heap.size w W->b3r w.heap.size W ga sc):=fun W hb hp=>by
  obtain⟨g,o,h1,h2,h3⟩:=hga hp;exact⟨g,o,h1,h2,fun j hj i u hu=>(hb.cell (p:=⟨g,o+j*20+i,none⟩) h2).trans (h3 j hj i u hu)⟩
 have HOK:=zH hok;clear hE hok hga HW1;go_enter Tryz.func11,Tryz.ntmps11;go_wp2_with fail;refine HOP.out.mono ?_;rintro e w1 ⟨rfl,hp1⟩;have HP1:=zH hp1;clear hp1 HOP;go_wp2_with fail
 go_loopw [9] (fun v wr=>∃j:Nat,j<=sc.length/\v=.int .i64 (j:Int)/\SPo w.heap.size w w.heap.size (400000*j) (j+1) wr) (fun v _=>sc.length-(intOf v).toNat)
 case atStart=>exact⟨0,Nat.zero_le _,rfl,HP1.out⟩
 case round=>
  obtain⟨j,hj,rfl,hsp⟩:=hrel;have HSP:=zH hsp
  by_cases hlt:j<sc.length
  ·obtain⟨g,o,rfl,hgB,hcs'⟩:=HSC.out wr hsp.bel (by omega);have HRG:Hid (wr.rangeAt g (o+j*20) (sc[j].row)):=fun i u hu=>hcs' j hlt i u hu
   have hjI:(j:Int)<(sc.length:Int):=by omega
   have hko:=HOK.out sc[j] (List.getElem_mem hlt);have HKO:=zH hko;clear hcs' hsp HSC hko;generalize sc[j]=c at*
   go_upto_region 8 with fail
   go_cut [10] (fun s10 wx=>s10=zp wr.heap.size/\Tch [] wr wx/\wx.heap[wr.heap.size]?=some (.cells (sC c c.a) 67 (0,0)))
   case first=>
    go_wp2_with (first|(refine wpList_load_mid rfl 67 _ rfl g (o+j*20) rfl c.row _ HRG.out Tryz.underlying67 rfl a6Z ?_)|(refine wpList_store_row rfl 67 _ _ rfl wr.heap.size (sC c c.a) rfl rfl 67 _ (heap_alloc_new _ _) a6Z rfl (b4n _ _ _ _ _ _ _ _ _) ?_));go_meet;refine⟨rfl,((Tch.refl [] _).alloc _).setRow (fun h=>absurd h (Nat.lt_irrefl _)) _,setRow_heap _ _ _ _ 67 (0,0) (heap_alloc_new _ _)⟩
   case rest=>
    obtain⟨rfl,ht1,hb1⟩:=hcut;generalize wc=wx at*
    have c2:wx.cell? ⟨wr.heap.size,2,none⟩=some (.int .i64 c.a):=jb hb1 2 _ rfl;have z2:wx.frozen? ⟨wr.heap.size,2,none⟩=false:=frozen_of_row wx _ _ _ 67 hb1;have HB2:Hid ((wx.setCell ⟨wr.heap.size,2,none⟩ (.int .i64 (-1))).heap[wr.heap.size]?=some (.cells (sC c (-1)) 67 (0,0))/\Tch [] wr (wx.setCell ⟨wr.heap.size,2,none⟩ (.int .i64 (-1)))):=⟨xq hb1 _ rfl,ht1.setCell (fun h=>absurd h (Nat.lt_irrefl _)) _⟩;clear ht1 hb1
    go_upto_if 28 with fail
    go_cut [] (fun wy=>Tch [] wr wy/\wy.heap[wr.heap.size]?=some (.cells (sC c (-1)) 67 (0,0)))
    case first=>
     go_wp2_with fail;go_meet;exact⟨HB2.out.2,HB2.out.1⟩
    case rest=>
     obtain⟨ht2,hb2⟩:=hcut;generalize wc=wy at*
     clear HB2 c2 z2;have c0:wy.cell? ⟨wr.heap.size,0,none⟩=some (.int .i64 c.kd):=jb hb2 0 _ rfl;have c3:wy.cell? ⟨wr.heap.size,3,none⟩=some (.string c.s):=jb hb2 3 _ rfl;have HB:=zH hb2;have HSY:=zH (HSP.out.tch ht2);have HNX:Hid (SPo w.heap.size w w.heap.size (400000*(j+1)) (j+1+1) wy):=HSY.out.mono (by omega) (by omega);have HST:Hid (c.kd<=2->Cp 28 #[zp w.heap.size,.agg (sC c (-1))] wy fun e w'=>e=.returned (.bool true)/\SPo w.heap.size w w.heap.size (400000*(j+1)) (j+1+1) w')   := fun h1=>by
      have e1:400000*(j+1)=400000*j+400000:=by omega
      rw[e1]
      by_cases hk:c.kd=1
      ·have e2:sC c (-1)=opC 1 c.on (-1) c.s c.la c.ll c.lc c.r c.x:=by unfold sC;rw[hk]
       rw[e2];exact b0a HSY.out (by omega) c.on c.s c.la c.ll c.lc c.r c.x
      ·exact b4S HSY.out (by omega) (by omega) c.kd c.on HKO.out.on h1 hk c.s HKO.out.s c.la c.ll c.lc c.r c.x
     clear hb2 ht2 HSP HSY HRG hgB
     by_cases hk2:c.kd<=2
     ·have hkg:¬2<c.kd:=by omega
      have HCALL:=zH (HST.out hk2);clear HST HNX;go_wp2_with (refine wpList_load_row rfl 67 _ rfl wr.heap.size rfl 67 (sC c (-1)) (0,0) _ HB.out Tryz.underlying67 rfl a6Z ?_);refine HCALL.out.mono ?_;rintro e w5 ⟨rfl,hp⟩;have HP:=zH hp;have HL:=zH (a9B w.heap.size w5 hp.c1);clear hp HCALL;go_wp2_with fail;refine HL.out.mono ?_;rintro e w6 ⟨rfl,h'⟩;have h'':=h'.symm;subst h'';clear HL;go_wp2_with fail;go_roundw
      case rel=>exact⟨j+1,by omega,by go_num,HP.out⟩
      case measure=>simp[intOf];omega
     ·have hkg:2<c.kd:=by omega
      clear HST;go_wp2_with fail;go_roundw
      case rel=>exact⟨j+1,by omega,by go_num,HNX.out⟩
      case measure=>simp[intOf];omega
  ·have hjn:¬(j:Int)<(sc.length:Int):=by omega
   have HBL:=zH hsp.bel;clear hsp HSP;go_wp2_with fail;go_ret;exact⟨rfl,HBL.out⟩
theorem a4r (ga:Option Addr)(gc:Nat)(sc:List OpS)(w:World)(hE:Env w.heap.size w)(hok:∀o∈sc,o.Ok)(hln:sc.length<=2000000000000)(hga:b3r w.heap.size w ga sc):
  zB 9 #[.slice ga sc.length gc] w (.bool true):=by
 have HP:=zH (b4t ga gc sc w hE hok hln hga);clear hE hok hln hga;go_enter Tryz.func9,Tryz.ntmps9;go_wp2_with fail;refine HP.out.mono ?_;rintro e w1 ⟨rfl,hb⟩;have HB:=zH hb;clear hb HP;go_wp2_with fail;go_ret;exact⟨rfl,HB.out⟩
end Go.Proofs.YtbdobaapadlcjaaGreatDoor.Ref
namespace Go.Proofs.YtbdobaapadlcjaaGreatDoor.Keep
open Go.ChangeShapes Go.WideShapes Go.ChangeAt Go.RowKit Go.Deep
open Go.Proofs.YtbdobaapadlcjaaGreatDoor.Ref
variable {W:World}{n:Nat}
theorem b3A:Tryz.prog.cellsOf 67=20:=by kernel_rfl
theorem b3y:Tryz.prog.bytesOf 67=224:=by kernel_rfl
theorem b7e {α:Type}{cs:List α}(h:cs.length=20):∃c0 c1 c2 c3 c4 c5 c6 c7 c8 c9 c10 c11 c12 c13 c14 c15 c16 c17 c18 c19,cs=[c0,c1,c2,c3,c4,c5,c6,c7,c8,c9,c10,c11,c12,c13,c14,c15,c16,c17,c18,c19]:=by
 match cs,h with
 | [c0,c1,c2,c3,c4,c5,c6,c7,c8,c9,c10,c11,c12,c13,c14,c15,c16,c17,c18,c19],_=>exact⟨c0,c1,c2,c3,c4,c5,c6,c7,c8,c9,c10,c11,c12,c13,c14,c15,c16,c17,c18,c19,rfl⟩
theorem b2Y {H:Type}{enc:TypeId×Value->H}{c:Value}{y:DataW H×List MemPlace}(h:DataW.trod enc Tryz.prog W 0 (fun _=>true) true n 25 [c]=some y):∃x:Sl,c=x.v:=by
 rcases open_strings Tryz.underlying25 Tryz.underlying9 zV h with ⟨hcs,_⟩|⟨a,len,cap,ss,hcs,_⟩
 ·exact⟨⟨none,0,0⟩,List.singleton_inj.1 hcs⟩
 ·exact⟨⟨some a,len,cap⟩,List.singleton_inj.1 hcs⟩
theorem b4p {H:Type}{enc:TypeId×Value->H}{cs:List Value}{y:DataW H×List MemPlace}(hl:cs.length=20)(h:DataW.trod enc Tryz.prog W 0 (fun _=>true) true n 67 cs=some y):∃s:OpS,cs=s.row/\s.Ok:=by
 obtain⟨c0,c1,c2,c3,c4,c5,c6,c7,c8,c9,c10,c11,c12,c13,c14,c15,c16,c17,c18,c19,rfl⟩:=b7e hl;obtain⟨xs,n,_,_,_,hlen,hfd⟩:=DataW.trod_struct Tryz.underlying67 h;have hlen':xs.length=6:=hlen;have h0:=kl (off:=0) 0 (by omega) xF [c0] rfl (hfd 0 _ rfl);have h1:=kl (off:=1) 1 (by omega) xF [c1] rfl (hfd 1 _ rfl);have h2:=kl (off:=2) 2 (by omega) xF [c2] rfl (hfd 2 _ rfl);have h3:=kl (off:=3) 3 (by omega) zV [c3] rfl (hfd 3 _ rfl);have h4:=kl (off:=4) 4 (by omega) a7V [c4] rfl (hfd 4 _ rfl);have h5:=kl (off:=5) 5 (by omega) b3z [c5,c6,c7,c8,c9,c10,c11,c12,c13,c14,c15,c16,c17,c18,c19] rfl (hfd 5 _ rfl);obtain⟨z0,e0,_,w0⟩:=DataW.trod_int Tryz.underlying3 h0;obtain⟨z1,e1,_,w1⟩:=DataW.trod_int Tryz.underlying3 h1;obtain⟨z2,e2,_,w2⟩:=DataW.trod_int Tryz.underlying3 h2;obtain⟨s3,e3,_,w3⟩:=DataW.trod_string Tryz.underlying9 h3;obtain⟨x4,f4⟩:=b2Y h4;obtain⟨r,xa,xc,bs,e5,_⟩:=a7f rfl h5;have f0:=List.singleton_inj.1 e0;have f1:=List.singleton_inj.1 e1;have f2:=List.singleton_inj.1 e2;have f3:=List.singleton_inj.1 e3;subst f0 f1 f2 f3 f4;refine⟨⟨z0,z1,z2,s3,x4.a,x4.n,x4.c,r,⟨xa,bs.length,xc⟩⟩,?_,bounds_i64 w1,w3⟩;have e6:([.int .i64 z0,.int .i64 z1,.int .i64 z2,.string s3,x4.v]:List Value)++[c5,c6,c7,c8,c9,c10,c11,c12,c13,c14,c15,c16,c17,c18,c19]=[.int .i64 z0,.int .i64 z1,.int .i64 z2,.string s3,x4.v]++(ja r (.slice xa bs.length xc)).toList:=congrArg _ e5;exact e6
theorem b4q {H:Type}{enc:TypeId×Value->H}{base:Nat}{v:Value}{d:DataW H}{p:List MemPlace}(hv:Value.okWide Tryz.prog W .any base 22 v)(h:DataW.Trod enc Tryz.prog W 0 (fun _=>true) true 22 v d p):
  ∃(ga:Option Addr) (gc:Nat) (sc:List OpS),v=.slice ga sc.length gc/\(∀s∈sc,s.Ok)/\b3r W.heap.size W ga sc/\(sc.length=0\/∃el sp,d=.slice el sp/\el.length=sc.length):=by
 obtain⟨a0,l0,c0,rfl⟩:=okWide_slice Tryz.underlying22 hv;obtain⟨fuel,hf⟩:=h;have hf':=hf;rcases open_slice Tryz.underlying22 hf' with ⟨hcs,_⟩|⟨a,len,cap,m,n,D,Pl,hcs,_,hl,hm,hmm,hx,hel⟩
 ·rw[List.singleton_inj.1 hcs];exact⟨none,0,[],rfl,fun s hs=>by simp at hs,fun h=>absurd h (by simp),.inl rfl⟩
 ·rw[List.singleton_inj.1 hcs];have hlm:len<=m:=by rw[hmm];split<;>omega
  rw[b3A]at hel;have each:∀i,i<len->∃s:OpS,s.Ok/\∀(k:Nat) (u:Value),s.row[k]?=some u->W.cell? ((a.add (i*20)).add k)=some u:=fun i hi=>by
   obtain⟨cs',h1,h2⟩:=hel i (by omega);obtain⟨_,hlen,hcell⟩:=World.cells?_some h1;obtain⟨s,rfl,hs⟩:=b4p hlen h2;refine⟨s,hs,fun k u hu=>?_⟩
   have hk:k<20:=by
    have:=(List.getElem?_eq_some_iff.1 hu).1;simpa [OpS.row,opC]using this
   rw[hcell k hk];exact hu
  obtain⟨q,hq⟩:=@choose_lt OpS ⟨⟨0,0,0,⟨#[]⟩,none,0,0,opR 0,⟨none,0,0⟩⟩⟩ _ _ each;have hlt:((List.range len).map q).length=len:=by simp
  refine⟨some a,cap,(List.range len).map q,by rw[hlt],fun s hs=>?_,fun hp=>?_,.inr ⟨_,_,(Prod.mk.inj hx).1,by simp⟩⟩
  ·obtain⟨i,hi,rfl⟩:=List.mem_map.1 hs;exact(hq i (List.mem_range.1 hi)).1
  ·rw[hlt]at hp;have h0:=(hq 0 hp).2 0 _ rfl;have e0:(a.add (0*20)).add 0=a:=by unfold Addr.add;simp
   rw[e0]at h0;have hs:=a3B h0;have hb:=World.block_lt_of_cell? _ _ h0;obtain⟨g,o,sp⟩:=a;simp only at hs;subst hs;refine⟨g,o,rfl,hb,fun j hj i u hu=>?_⟩
   rw[hlt]at hj;rw[List.getElem_map,List.getElem_range]at hu;have h2:=(hq j hj).2 i u hu;rw[a2k,a2k]at h2;exact h2
theorem b7M {H:Type}{ts:List TypeId}{ds:List (DataW H)}{j:Nat}{d:DataW H}{k:Nat}(h:(DataW.weightsEach Tryz.prog ts ds).all (·<=reachBytes)=true)(ht:ts[j]?=some 22)(hd:ds[j]?=some d)(hor:k=0\/∃el sp,d=.slice el sp/\el.length=k):k<=2000000000000:=by
 rcases hor with rfl|⟨el,sp,rfl,rfl⟩
 ·omega
 ·have h1:=sized_slice h ht hd Tryz.underlying22;rw[b3y]at h1;have h2:=reachBytes_lt;omega
end Go.Proofs.YtbdobaapadlcjaaGreatDoor.Keep
namespace Go.Proofs.YtbdobaapadlcjaaGreatDoor.bt
open Go.ChangeShapes Go.WideShapes Go.ChangeAt Go.RowKit
open Go.Proofs.YtbdobaapadlcjaaGreatDoor.Keep Go.Proofs.YtbdobaapadlcjaaGreatDoor.Ref
variable {W:World}
theorem own:ownKnob Tryz.prog.godebug=none:=by kernel_rfl
theorem b4c:laidOutB Tryz.prog=true:=by kernel_rfl
theorem b7q:Tryz.prog.readableRec 22=true:=by kernel_rfl
theorem b9m:22<Tryz.prog.types.size:=of_decide_eq_true (by kernel_rfl)
theorem b8B : Tryz.prog.globalNamed "wharf/wire.quads" = some 2 := by kernel_rfl
theorem b1f:(Tryz.prog.globals[2]?).map (·.type)=some 186:=by kernel_rfl
theorem b0z:Tryz.prog.cellsOf 186=16:=by kernel_rfl
theorem b0w:Tryz.prog.cellsOf 121=1:=by kernel_rfl
theorem b9o (h : laidMetH Tryz.prog Rows.batchesRow.laid W) : Lib.TabIs Tryz.prog W "wharf/wire.quads" .u32 [0, 498536548, 997073096, 651767980, 1994146192, 1802195444, 1303535960, 1342533948, 3988292384, 4027552580, 3604390888, 3412177804, 2607071920, 2262029012, 2685067896, 3183342108] :=
 Lib.tabIs_of_head (rest := [("wharf/wire.layouts", Rows.laid_wharf_wire_layouts), ("wharf/wire.rows", Rows.laid_wharf_wire_rows)]) b8B b1f Tryz.underlying186 Tryz.underlying121 b0w b0z h
theorem b7O (h : Lib.TabIs Tryz.prog W "wharf/wire.quads" .u32 [0, 498536548, 997073096, 651767980, 1994146192, 1802195444, 1303535960, 1342533948, 3988292384, 4027552580, 3604390888, 3412177804, 2607071920, 2262029012, 2685067896, 3183342108]) : Tab W := by
 intro i hi;have h1:=h.cell b8B i hi;rw[h1];have h2:∀j:Fin 16,([0,498536548,997073096,651767980,1994146192,1802195444,1303535960,1342533948,3988292384,4027552580,3604390888,3412177804,2607071920,2262029012,2685067896,3183342108]:List Int).getD j.val 0=((Crc.tab.getD j.val 0:Nat):Int):=by decide
 exact congrArg (fun z=>some (Value.int .u32 z)) (h2 ⟨i,hi⟩)
theorem b6A (h:laidMetH Tryz.prog Rows.batchesRow.laid W):Env W.heap.size W:=by
 have hT:=b7O (b9o h);have h2:2<W.heap.size:=World.block_lt_of_cell? _ _ (hT 0 (by decide));rw[MakeChecks.laidMetH_plain _ _ _ (by kernel_rfl)]at h;have h3 := laidMet.filter (fun x => x.1 != "wharf/wire.quads") h
 exact⟨b4e (rest:=[]) h2 h3,hT,Nat.le_refl _,h2⟩
theorem b0D (H:Type)(enc:TypeId×Value->H)(W:World)(base:Nat)(args:Array Value)(ds gs:List (DataW H))(before:List MemPlace)
  (hval:∀(j:Nat) t v,Tryz.f9.params[j]?=some t->args[j]?=some v->Value.okWide Tryz.prog W .any base t v)
  (hW:DataW.Whole enc Tryz.prog Tryz.f9.params.toList Rows.batchesSpec.vars false W args.toList ds gs before)(hL:laidMetH Tryz.prog Rows.batchesRow.laid W)(hZ:(DataW.weightsEach Tryz.prog (Tryz.f9.params.toList++(OpenSpec.ofChange Rows.batchesSpec).bare.plain.varTypes Tryz.prog) (ds++gs)).all (·<=reachBytes)=true):
  Cp 9 args W fun e W'=>∃v,e=.returned v/\Rows.batchesSpec.post enc Tryz.prog Tryz.f9 false true false false W args v W':=by
 have hW':=hW;have hlt:=hW.lt;obtain⟨p,q,hA0,hV,rfl,hfz,hnd⟩:=hW;have hA:=hA0;rw[Tryz.params9]at hA hval;obtain⟨v1,vs1,d1,ds1,p1,q1,hargs,rfl,rfl,h1,r1⟩:=trodAll_cons hA;obtain⟨rfl,rfl,rfl⟩:=trodAll_nil r1;obtain rfl:args=#[v1]:=Array.toList_inj.1 hargs;obtain⟨rfl,rfl⟩:=trodVars_none hV;have hp1:∀a∈p1,a.block<W.heap.size:=fun a ha=>hlt a (by simp[ha])
 obtain⟨ga,gc,sc,rfl,hok,hga,hor⟩:=b4q (hval 0 22 v1 rfl rfl) h1;rw[Tryz.params9]at hZ;have hln:sc.length<=2000000000000:=b7M (j:=0) hZ rfl rfl hor;clear hA0;have walk:=a4r ga gc sc W (b6A hL) hok hln hga;refine walk.mono fun e W' ⟨he,hg⟩=>?_
 subst he;refine⟨_,rfl,_,_,_,[],p1++[],[],hW',?_,?_,?_,hg.frame _,fun h=>by cases h⟩
 ·exact trodAll_cons_mk (shut_bool Tryz.underlying4 _) trodAll_mk0
 ·exact trodAll_cons_mk (Below.trod b4c b7q b9m h1 hg hp1) trodAll_mk0
 ·rfl
theorem b1D (os:Os)(args:Array Value):laidMet Tryz.prog Rows.batchesRow.laid ((World.doorLaid Tryz.prog 49 os).forCall (fun _ _=>0) ⟨#[],args,[]⟩).memory:=
 laidMet_of_run' 8 (by kernel_rfl) (by kernel_rfl)
theorem b9k (os:Os){H:Type}(enc:TypeId×Value->H):∃places,DataW.whole enc Tryz.prog ((World.doorLaid Tryz.prog 49 os).forCall (fun _ _=>0) ⟨#[],#[.slice none 0 0],[]⟩).memory Tryz.f9.params.toList Rows.batchesSpec.vars false #[Value.slice none 0 0].toList 8=
  some ([.nil],[],places):=
 ⟨[],by kernel_rfl⟩
theorem b7c (os:Os)(started:os.Started)(H:Type)(enc:TypeId×Value->H)(F:Stop.Interp):
  ReturnsInHanded {} Tryz.checked os 9 .any ((OpenSpec.ofChange Rows.batchesSpec).preRow enc Tryz.prog Tryz.f9 Rows.batchesRow.domain false Rows.batchesRow.laid) (((OpenSpec.ofChange Rows.batchesSpec).at F).post enc Tryz.prog Tryz.f9 false true false false):=by
 obtain⟨places,hx⟩:=b9k os enc;refine returnsInHanded_of_row (C:=Tryz.checked) (s:=OpenSpec.ofChange Rows.batchesSpec) own started (by kernel_rfl) Tryz.func9
  (witness_row_atRef (enc:=enc) (C:=Tryz.checked) false (World.doorLaid Tryz.prog 49 os) #[.slice none 0 0] rfl (by kernel_rfl) (by kernel_rfl) (by kernel_rfl)
   (OpenSpec.preRow_of_cond 8 hx (by kernel_rfl) (fun k hk=>by cases hk) (by kernel_rfl) (b1D os _))) ?_
 intro W base args ds gs before hval hW _ _ hZ hL _ _;exact b0D H enc W base args ds gs before hval hW hL hZ
theorem b9J:Rows.BatchesSaid:=
 OpenClaim.holds_of_cond 9 Tryz.f9 rfl rfl rfl rfl rfl rfl rfl ⟨rfl,rfl,rfl,rfl,rfl⟩ rfl rfl rfl rfl rfl (by kernel_rfl) Tryz.func9 b6j
  (of_decide_eq_true (by kernel_rfl)) (by unfold Func.isWrapper;first|(rw[if_pos (by decide +kernel)];kernel_rfl)|(rw[if_neg (by decide +kernel)];exact⟨rfl,rfl⟩))
  (fun os started H enc _ F=>by rw[OpenClaim.pre_eq_preRow];exact b7c os started H enc F)
theorem plain (f : FuncId) (fn : Func) (hf : Tryz.pinned.checked.prog.funcNamed "wharf/wharflaw.Batches" = some f) (hfn : Tryz.pinned.checked.prog.funcs[f]? = some fn) :
  false=Tryz.pinned.checked.prog.looks []/\∀(j:Nat) t,fn.params[j]?=some t->Tryz.pinned.checked.prog.wantsStandIn t=false:=by
 obtain rfl : f = 9 := Option.some.inj ((show Tryz.prog.funcNamed "wharf/wharflaw.Batches" = some 9 by kernel_rfl).symm.trans hf) |>.symm
 obtain rfl:fn=Tryz.f9:=(Option.some.inj (Tryz.func9.symm.trans hfn)).symm;refine⟨by kernel_rfl,fun j t ht=>?_⟩
 rw[Tryz.params9]at ht;have hm:=Array.mem_of_getElem? ht;have ht':t=22:=by simpa using hm
 subst ht';exact(show Tryz.prog.wantsStandIn 22=false by kernel_rfl)
end Go.Proofs.YtbdobaapadlcjaaGreatDoor.bt
namespace Go.Proofs.YtbdobaapadlcjaaGreatDoor.bt
theorem a2i (Lk:Looks){p:Pinned}{s:OpenSpec}{c:OpenClaim}(kinds:List LaidKind)(tests:Bool)(har:Bool×String)(lk:Bool)
  (hc:c.holds p s)(hw:c.wfByText s=true)(htie:c.laidByTextAt Lk p kinds tests)
  (hst:c.start=.entering)(hnb:c.noBlocks=false/\c.again=false)(hm:p.checked.prog.mainIs=some (har.1,har.2.toList))(hn:(!har.1&&har.2.isEmpty&&!lk)=false)
  (hl:∀f fn,p.checked.prog.funcNamed c.func=some f->p.checked.prog.funcs[f]?=some fn->lk=p.checked.prog.looks []/\∀(j:Nat) t,fn.params[j]?=some t->p.checked.prog.wantsStandIn t=false)
  (hg:true=c.goesBy p.checked.prog):
  Claim7.holds p (.plain s) {stood:={row:=c,standIns:=[],harness:=har,looks:=lk},kinds:=[],alts:=[],goes:=true,laidByText:=true,laidKinds:=kinds,laidTests:=tests,laidLooks:=Lk}:=by
 have h6:Claim7.isSixth {stood:={row:=c,standIns:=[],harness:=har,looks:=lk},kinds:=[]}=false:=by simpa [Claim7.isSixth]using hn
 exact⟨Claim7.tied_new_at Lk kinds tests (Claim7.new_of_sixth hc har lk hst hnb hm h6 hl) hw,fun D hD=>(by cases hD),htie,(fun h=>by cases h),hg⟩
theorem card:Rows.BatchesCardSaid:=
 a2i .later _ _ _ _ b9J (by kernel_rfl) batches_row_tie rfl ⟨rfl,rfl⟩ (by kernel_rfl) rfl plain (by kernel_rfl)
end Go.Proofs.YtbdobaapadlcjaaGreatDoor.bt
namespace Go.Proofs.YtbdobaapadlcjaaGreatDoor
theorem batches_card:Rows.BatchesCardSaid:=bt.card
end Go.Proofs.YtbdobaapadlcjaaGreatDoor
