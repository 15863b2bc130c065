import Derived.Test.YtbdobaapadlcjaaGreatDoorBy22
import Derived.Test.YtbdobaapadlcjaaGreatDoorBy30
import Derived.Test.YtbdobaapadlcjaaGreatDoorBy20
set_option maxRecDepth 8000
set_option maxHeartbeats 4000000
set_option linter.unusedVariables false
set_option linter.unusedSimpArgs false
namespace Go.Proofs.YtbdobaapadlcjaaGreatDoor
open Go.RowKit
variable {B x st b:Nat}{w w':World}{now:Int}{col:Nat->Nat}
abbrev TRf:List TypeId:=[120,216,271,306,267]
theorem FqT.chg {T:List TypeId}{c:Nat->Nat}(h:FqT T B c w w'):∃S,Tch S w w'/\∀k∈S,k<w.heap.size/\w'.heap[k]?≠w.heap[k]?:=by
 classical
 refine⟨(List.range w.heap.size).filter (fun k=>decide (w'.heap[k]?≠w.heap[k]?)),⟨h.os,h.tape,h.output,h.size,fun k hk hn=>?_⟩,fun k hk=>?_⟩
 ·apply Classical.byContradiction;intro hc;exact hn (List.mem_filter.2 ⟨List.mem_range.2 hk,decide_eq_true hc⟩)
 ·obtain⟨h1,h2⟩:=List.mem_filter.1 hk;exact⟨List.mem_range.1 h1,of_decide_eq_true h2⟩
theorem Bk.oth {c:Nat->Option QM}{cl:Nat->Nat}(h:Bk B w x st b now c col)(hf:FqT TA B cl w w')(hd:∀q,q<w.heap.size->col q≠9->cl q=9):Bk B w' x st b now c (a1L w w' col):=by
 obtain⟨S,ht,hS⟩:=hf.chg;obtain⟨⟨Z,hs,hc⟩,hw,hn,⟨o,room,hJ⟩,hfu⟩:=h;have hcl:∀k,k<w.heap.size->col k≠9->k∉S:=fun k hk h9 hm=>(hS k hm).2 (hf.out k hk (hd k hk h9))
 have hty:∀(k:Nat) (C:Array Value) (t:TypeId),w.heap[k]?=some (.cells C t (0,0))->t∉TA->w'.heap[k]?=some (.cells C t (0,0)):=fun k C t hk ht=>hf.keep k C t hk ht
 have hsz:=hf.size;refine⟨⟨Z,⟨?_,?_,?_,?_,hs.lo,hs.ls,?_⟩,hc⟩,hw,hn,⟨o,room,?_⟩,fun k hk=>?_⟩
 ·exact(ht.block st hs.stb.lt (hcl st hs.stb.lt hs.cs)).trans hs.stb
 ·exact fun q f hq=>hty _ _ _ (hs.tb q f hq) (by decide)
 ·exact fun i x hi hx=>(hs.qr i x hi hx).tch ht (fun k hk=>hcl k ((hs.qr i x hi hx).lt k hk) (by rw[hs.cl i x hi hx k hk];omega))
 ·exact fun i x hi hx k hk=>(xJ ((hs.qr i x hi hx).lt k hk)).trans (hs.cl i x hi hx k hk)
 ·rw[xJ hs.stb.lt];exact hs.cs
 ·rcases hJ with e|⟨j,d,v,n,k,hJ⟩
  ·exact .inl e
  refine .inr ⟨j,d,v,n,k,hty _ _ _ hJ.hx (by decide),hJ.jr.tch ht (fun b hb=>hcl b (hJ.lt b hb) (hJ.cj b hb)),hJ.lo,hJ.bd,fun b hb=>?_⟩
  rw[xJ (hJ.lt b hb)];exact hJ.cj b hb
 ·show (if _ then _ else _)≠9
  rw[if_neg (by omega)];exact hfu k (by omega)
theorem Bk.mono {B':Nat}{c:Nat->Option QM}(h:Bk B w x st b now c col)(hB:B'<=B):Bk B' w x st b now c col:=by
 obtain⟨⟨Z,hs,hc⟩,hw,hn,⟨o,room,hJ⟩,hfu⟩:=h;exact⟨⟨Z,⟨hs.stb,hs.tb,hs.qr,hs.cl,fun i x hi hx k hk=>Nat.le_trans hB (hs.lo i x hi hx k hk),Nat.le_trans hB hs.ls,hs.cs⟩,hc⟩,hw,hn,⟨o,room,hJ.imp id (fun ⟨j,d,v,n,k,hJ⟩=>⟨j,d,v,n,k,hJ.hx,hJ.jr,fun b hb=>Nat.le_trans hB (hJ.lo b hb),hJ.bd,hJ.cj⟩)⟩,hfu⟩
end Go.Proofs.YtbdobaapadlcjaaGreatDoor
namespace Go.Proofs.YtbdobaapadlcjaaGreatDoor.Ref
open Go.RowKit Go.Proofs.YtbdobaapadlcjaaGreatDoor
variable {w0 wr W w w' w3:World}{rb N k B j wb:Nat}{Z Z':RZ}{now now':Int}{bs:List ByteArray}{T:List TypeId}{ow ro pi ow' ro':Nat->Nat}{pv:Value}
theorem opI {c:Nat->Option QM}(h:OpC c)(now:Int)(s:ByteArray):OpC (doI now c s).2:=by
 unfold doI
 split
 ·exact h.doQ now _
 ·exact h
theorem opL (now:Int):∀(l:List ByteArray) {c:Nat->Option QM},OpC c->OpC (doL now c l).2
 | [],c,h=>h
 | s::l,c,h=>opL now l (opI h now s)
theorem b4m (rb N:Nat)(now:Int)(Z:RZ)(s:ByteArray)(w:World)(h:RG w rb now Z)(hW:WFc (ctR Z))(hO:OpC (ctR Z))(hT:TRZ Z N)(hN:N<=4611686018427300000)(hn:0<=now/\now<=60000)(hs:s.size<=maxLen)(hi:jk s=true/\((jh s).r.op=83\/(jh s).r.op=65\/(jh s).r.op=69))(x:Sl):
  Cp 141 #[zp rb,.agg (ja (jh s).r x.v)] w fun e w'=>e=.returned (.string (doI now (ctR Z) s).1)/\LQ rb Z w w' now (doI now (ctR Z) s).2 (N+40000):=by
 obtain⟨h1,h2⟩:=a2U s hi.1 hi.2;have e1:doI now (ctR Z) s=((doQ now (ctR Z) (jh s).r).1,(doQ now (ctR Z) (jh s).r).2.2):=if_pos hi;rw[e1];refine(a5B rb N now Z (jh s).r x w h hW hO hT hN hn h1 h2).mono ?_;rintro e w' ⟨t,rfl,rfl,hl⟩;rw[a7Y now _ _ hi.2]at hl;exact⟨rfl,hl⟩
def Rk (w0:World)(rb:Nat)(Z:RZ)(now:Int)(bs:List ByteArray)(N k:Nat)(wr:World):Prop:=LQ rb Z w0 wr now (doL now (ctR Z) (bs.take k)).2 (N+40000*k)
theorem Rk.tch (h:Rk w0 rb Z now bs N k wr)(ht:Tch [] wr W):Rk w0 rb Z now bs N k W:=by
 obtain⟨Zk,h1,h2,h3⟩:=h;exact⟨Zk,h1.trans (h1.rg.rgs ht),h2,h3⟩
theorem Rk.skip (h:Rk w0 rb Z now bs N k wr)(hk:k<bs.length)(ht:Tch [] wr W)(hi:¬(jk bs[k]=true/\((jh bs[k]).r.op=83\/(jh bs[k]).r.op=65\/(jh bs[k]).r.op=69))):Rk w0 rb Z now bs N (k+1) W:=by
 obtain⟨Zk,h1,h2,h3⟩:=h;have e1:bs.take (k+1)=bs.take k++[bs[k]]:=(List.take_append_getElem hk).symm;have e2:doI now (doL now (ctR Z) (bs.take k)).2 bs[k]=(⟨#[1]⟩,(doL now (ctR Z) (bs.take k)).2):=if_neg hi;refine⟨Zk,h1.trans (h1.rg.rgs ht),?_,h3.mono (by omega)⟩;rw[e1,zX,e2];exact h2
theorem Rk.step (h:Rk w0 rb Z now bs N k wr)(hk:k<bs.length)(ht:Tch [] wr W)(hW:WFc (ctR Z))(hO:OpC (ctR Z))(hN:N+40000*k<=4611686018427300000)(hn:0<=now/\now<=60000)(hs:bs[k].size<=maxLen)(hi:jk bs[k]=true/\((jh bs[k]).r.op=83\/(jh bs[k]).r.op=65\/(jh bs[k]).r.op=69))(x:Sl):
  Cp 141 #[zp rb,.agg (ja (jh bs[k]).r x.v)] W fun e w'=>e=.returned (.string (doI now (doL now (ctR Z) (bs.take k)).2 bs[k]).1)/\Rk w0 rb Z now bs N (k+1) w':=by
 obtain⟨Zk,h1,h2,h3⟩:=h;have e1:bs.take (k+1)=bs.take k++[bs[k]]:=(List.take_append_getElem hk).symm;rw[<-h2];refine(b4m rb (N+40000*k) now Zk bs[k] W (h1.rg.tch ht (by simp)) (by rw[h2];exact b0K hn _ hW) (by rw[h2];exact opL now _ hO) h3 hN hn hs hi x).mono ?_;rintro e w' ⟨he,Z',k1,k2,k3⟩;refine⟨he,Z',(h1.trans (h1.rg.rgs ht)).trans k1,?_,k3.mono (by omega)⟩;rw[e1,zX,<-h2];exact k2
theorem a8M (n:Nat)(l:List ByteArray)(s:ByteArray):okL (xV n l)++BA (jx s)=okL (xV n (l++[s])):=by
 have e:okL (xV n l)=BA (0::xV n l):=rfl;rw[e,kT]
 show BA _=BA _
 unfold xV jK;simp
theorem a8i (l:List UInt8):(okL l).size=l.length+1:=by
 show (0::l).toArray.size=_
 simp
theorem a7l (rb N bb ob yc:Nat)(now:Int)(Z:RZ)(r:Wp.Rq)(bs:List ByteArray)(w:World)(h:RG w rb now Z)(hW:WFc (ctR Z))(hO:OpC (ctR Z))(hT:TRZ Z N)(hN:N+400000<=4611686018427300000)(hn:0<=now/\now<=60000)(hl:bs.length<=10)(hs:∀s∈bs,s.size<=maxLen)(hbb:bb∉rgl rb Z)(hbw:bb<w.heap.size)(hcs:∀j (hj:j<bs.length),w.cell? ⟨bb,ob+j,none⟩=some (.string bs[j])):
  Cp 187 #[zp rb,.agg (ja r (Sl.v ⟨some ⟨bb,ob,none⟩,bs.length,yc⟩))] w fun e w'=>e=.returned (.string (okL (xV bs.length (doL now (ctR Z) bs).1)))/\LQ rb Z w w' now (doL now (ctR Z) bs).2 (N+400000):=by
 obtain⟨w0,hw0⟩:∃w0,w0=bxR w r ⟨some ⟨bb,ob,none⟩,bs.length,yc⟩:=⟨_,rfl⟩;have T0:Hid (Tch [] w w0):=by
  show Tch _ _ _
  rw[hw0];exact jG w r _
 have hg3:w.heap.size∉rgl rb Z:=fun hm=>Nat.lt_irrefl _ (h.lt _ hm)
 have hb3:w0.heap[w.heap.size]?=some (.cells (ja r (Sl.v ⟨some ⟨bb,ob,none⟩,bs.length,yc⟩)) 27 (0,0)):=by
  rw[hw0];exact heap_alloc_new _ _
 have HC:Hid (∀W,Tch (rgl rb Z) w0 W->W.cell? ⟨w.heap.size,14,none⟩=some (.slice (some ⟨bb,ob,none⟩) bs.length yc)/\(∀j (hj:j<bs.length),W.cell? ⟨bb,ob+j,none⟩=some (.string bs[j]))/\w.heap.size<W.heap.size/\bb<W.heap.size):=fun W ht=>by
  have hl3:=lt_of_block hb3;have hz:=ht.size;have b3:=(ht.block _ hl3 hg3).trans hb3;have hbw0:bb<w0.heap.size:=Nat.lt_of_lt_of_le hbw T0.out.size;refine⟨jb b3 14 _ rfl,fun j hj=>?_,lt_of_block b3,by omega⟩
  exact(ht.cell (a:=⟨bb,ob+j,none⟩) hbw0 hbb).trans ((T0.out.cell (a:=⟨bb,ob+j,none⟩) hbw (by simp)).trans (hcs j hj))
 have HR0:Hid (Rk w0 rb Z now bs N 0 w0):=⟨Z,(h.tch T0.out (by simp)).rgs (Tch.refl _ _),rfl,hT⟩;have HFIN:Hid (∀W,Rk w0 rb Z now bs N bs.length W->LQ rb Z w W now (doL now (ctR Z) bs).2 (N+400000)):=fun W hk=>by
  obtain⟨Z',h1,h2,h3⟩:=hk;rw[List.take_length]at h2;exact⟨Z',(h.rgs T0.out).trans h1,h2,h3.mono (by omega)⟩
 have HST:Hid (∀k (hk:k<bs.length) wr W x,Rk w0 rb Z now bs N k wr->Tch [] wr W->(jk bs[k]=true/\((jh bs[k]).r.op=83\/(jh bs[k]).r.op=65\/(jh bs[k]).r.op=69))->Cp 141 #[zp rb,.agg (ja (jh bs[k]).r (Sl.v x))] W fun e w'=>e=.returned (.string (doI now (doL now (ctR Z) (bs.take k)).2 bs[k]).1)/\Rk w0 rb Z now bs N (k+1) w'):=fun k hk wr W x h1 h2 h3=>h1.step hk h2 hW hO (by omega) hn (hs _ (List.getElem_mem hk)) h3 x
 have HPR:Hid (∀k (hk:k<bs.length) W,Cp 71 #[.string bs[k]] W fun e w'=>(jk bs[k]=true/\(∃x:Sl,e=.returned (.tuple #[.agg (ja (jh bs[k]).r x.v),.int .i64 0]))\/jk bs[k]=false/\e=.returned (.tuple #[.agg #[.int .u8 0,.int .u8 0,.int .u8 0,.int .i64 0,.int .i64 0,.int .i64 0,.int .i64 0,.int .i64 0,.int .i64 0,.string ⟨#[]⟩,.string ⟨#[]⟩,.string ⟨#[]⟩,.string ⟨#[]⟩,.string ⟨#[]⟩,.slice none 0 0],.int .i64 1]))/\Tch [] W w'):=fun k hk W=>by
  refine(a1H bs[k] W (hs _ (List.getElem_mem hk))).mono ?_;rintro e w' ⟨h|h,hb⟩
  ·obtain⟨h1,x,he,_⟩:=h;exact⟨.inl ⟨h1,x,he⟩,Tch.of_below hb⟩
  ·exact⟨.inr h,Tch.of_below hb⟩
 have HAN:Hid (∀W,zT 140 #[.int .i64 1] W (.string ⟨#[1]⟩)):=fun W=>jL 1 W
 have HA0:Hid (∀W,zT 140 #[.int .i64 0] W (.string ⟨#[0]⟩)):=fun W=>jL 0 W
 have HLO:Hid (∀W,zT 138 #[.int .i64 (bs.length:Int),.int .i64 1] W (.string (BA (je bs.length 1)))):=fun W=>(qe bs.length 1 W (by omega) (by decide) (by decide)).mono (by rintro e w' ⟨he,hb⟩;exact⟨he,Tch.of_below hb⟩)
 have HTX:Hid (∀s W,s.size<=255->zT 139 #[.string s] W (.string (BA (jx s)))):=fun s W h1=>(qh s W h1).mono (by rintro e w' ⟨he,hb⟩;exact⟨he,Tch.of_below hb⟩)
 have HLEN:Hid (∀k,(doL now (ctR Z) (bs.take k)).1.length<=10/\∀s∈(doL now (ctR Z) (bs.take k)).1,s.size<=5):=fun k=>⟨by rw[a0q,List.length_take];omega,a0Y now _ _⟩
 clear hW hO hT hN hn hs hcs hbb hg3 h hb3;have hinf:=jS;obtain⟨p3,_,l3,_⟩:=HC.out w0 (Tch.refl _ _);have HE0:Hid ((⟨#[0]⟩:ByteArray)++BA (je bs.length 1)=okL (xV bs.length [])):=by
  show _=_
  unfold xV jK;simp[a0i]
 have hwb:=hw0;unfold bxR at hwb;rw[zM]at hwb;have hsz1:(BA (je bs.length 1)).size=1:=by rw[jH,jc]
 clear hw0;rw[zM];go_enter Tryz.func187,Tryz.ntmps187;go_wp2_with (first|(rw[<-hwb])|(go_at_call 140;refine(HA0.out _).mono ?_;rintro e wx ⟨rfl,tx⟩;clear p3 l3;obtain⟨p3,_,l3,_⟩:=HC.out wx (tx.sub (by simp));have TX:=zH tx;clear tx));refine(HLO.out wx).mono ?_;rintro e wy ⟨rfl,ty⟩;have T0Y:Hid (Tch [] w0 wy):=TX.out.trans ty (by simp);have hz0:(⟨#[0]⟩:ByteArray).size=1:=rfl;clear p3 l3 ty TX HA0 HLO;obtain⟨p3,_,l3,_⟩:=HC.out wy (T0Y.out.sub (by simp));go_wp2_with fail;rw[HE0.out];have HRY:Hid (Rk w0 rb Z now bs N 0 wy):=by
  obtain⟨Z0,h1,h2,h3⟩:=HR0.out;exact⟨Z0,h1.trans (h1.rg.rgs T0Y.out),h2,h3⟩
 clear HR0
 go_loopw [5,7] (fun sv v wr=>∃k:Nat,k<=bs.length/\sv=.string (okL (xV bs.length (doL now (ctR Z) (bs.take k)).1))/\v=.int .i64 (k:Int)/\Rk w0 rb Z now bs N k wr) (fun _ v _=>bs.length-(intOf v).toNat)
 case atStart=>exact⟨0,Nat.zero_le _,rfl,rfl,HRY.out⟩
 case round=>
  obtain⟨k,hk,rfl,rfl,hr⟩:=hrel;have HRK:=zH hr;clear p3 l3;have htr:Tch (rgl rb Z) w0 wr:=by
   obtain⟨Z',h1,_⟩:=hr;exact h1.tch
  obtain⟨p3,hst,l3,lb⟩:=HC.out wr htr;clear hr htr
  by_cases hlt:k<bs.length
  ·have s0:=hst k hlt;have hkI:(k:Int)<(bs.length:Int):=by omega
   have hk0:(0:Int)<=(k:Int):=Int.natCast_nonneg k;have HP:=zH (HPR.out k hlt wr);have HNX:Hid (∀a,(doI now (doL now (ctR Z) (bs.take k)).2 bs[k]).1=a->okL (xV bs.length (doL now (ctR Z) (bs.take k)).1)++BA (jx a)=okL (xV bs.length (doL now (ctR Z) (bs.take (k+1))).1)):=fun a ha=>by
    have e1:bs.take (k+1)=bs.take k++[bs[k]]:=(List.take_append_getElem hlt).symm;rw[a8M,e1,zX,ha]
   have hsA:(okL (xV bs.length (doL now (ctR Z) (bs.take k)).1)).size<=100:=by
    rw[a8i];have:=(a5p bs.length _ (HLEN.out k).1 (HLEN.out k).2).2;omega
   have HSZ:Hid (∀a:ByteArray,a.size<=5->(BA (jx a)).size<=6):=fun a ha=>by rw[jH,jp];omega
   clear hst;generalize okL (xV bs.length (doL now (ctR Z) (bs.take k)).1)=S at*
   go_wp2_with fail;refine HP.out.mono ?_;rintro e w2 ⟨⟨hg,y,rfl⟩|⟨hg,rfl⟩,t2⟩
   ·obtain⟨wl,hwl⟩:∃wl,wl=ke w2 (ja (jh bs[k]).r y.v):=⟨_,rfl⟩;have c0:wl.cell? ⟨w2.heap.size,0,none⟩=some (.int .u8 ((jh bs[k]).r.op.toNat:Int)):=by rw[hwl];exact jb (jT _ _) 0 _ rfl
    have hbl:wl.heap[w2.heap.size]?=some (.cells (ja (jh bs[k]).r y.v) 27 (0,0)):=by rw[hwl];exact jT _ _
    have T1:Hid (Tch [] wr wl):=by
     show Tch _ _ _
     rw[hwl];exact t2.trans (vJ _ _) (by simp)
    have lw:=World.block_lt_of_cell? _ _ c0;have HWL:=zH hwl;clear hwl t2 HP s0 p3 l3 lb
    by_cases hi:(jh bs[k]).r.op=83\/(jh bs[k]).r.op=65\/(jh bs[k]).r.op=69
    ·have HD:Hid (∀V,Tch [] wr V->_):=fun V hV=>HST.out k hlt wr V y HRK.out hV ⟨hg,hi⟩
     have HA5:Hid ((doI now (doL now (ctR Z) (bs.take k)).2 bs[k]).1.size<=5):=a5A _ _ _;clear hg HST HPR;have hop:(((jh bs[k]).r.op.toNat:Nat):Int)=83\/(((jh bs[k]).r.op.toNat:Nat):Int)=65\/(((jh bs[k]).r.op.toNat:Nat):Int)=69:=by rcases hi with e|e|e<;>rw[e]<;>decide
     clear hi;generalize (doI now (doL now (ctR Z) (bs.take k)).2 bs[k]).1=A at*
     generalize (jh bs[k]).r=r2 at*
     rcases hop with e|e|e
     all_goals
      rw[e]at c0;go_wp2_with (first|(refine wpList_store_row rfl 27 _ _ rfl w2.heap.size (ja r2 y.v) rfl rfl 27 _ (heap_alloc_new _ _) hinf rfl (jC _ _) ?_;change wpList _ _ _ _ _ (ke w2 (ja r2 y.v));rw[<-HWL.out])|(go_at_call 140;refine(HAN.out _).mono ?_;rintro e w4 ⟨rfl,t4⟩;have T4:=zH (T1.out.trans t4 (by simp));have d0:=(t4.cell (a:=⟨w2.heap.size,0,none⟩) lw (by simp)).trans c0;have dbl:=(t4.block _ lw (by simp)).trans hbl;have dl:=lt_of_block dbl;clear t4)|(refine wpList_load_row rfl 27 _ rfl w2.heap.size rfl 27 (ja r2 y.v) (0,0) _ dbl Tryz.underlying27 rfl hinf ?_));refine(HD.out w4 T4.out).mono ?_;rintro e w5 ⟨rfl,hr5⟩;have HR5:=zH hr5;clear hr5 HD;go_wp2_with fail;refine(HTX.out A w5 (by have:=HA5.out;omega)).mono ?_;rintro e w6 ⟨rfl,t6⟩;have HRN:=zH (HR5.out.tch t6);have HEQ:=zH (HNX.out A rfl);have hsB:=HSZ.out A (by have:=HA5.out;omega);clear t6 HNX HTX;go_wp2_with fail;go_roundw
      case rel=>exact⟨k+1,by omega,by rw[<-HEQ.out],by go_num,HRN.out⟩
      case measure=>simp[intOf];omega
    ·have HSK:=zH (fun V (hV:Tch [] wr V)=>HRK.out.skip hlt hV (fun h=>hi h.2));have HA1:Hid ((doI now (doL now (ctR Z) (bs.take k)).2 bs[k]).1=⟨#[1]⟩):=by
      show _=_
      unfold doI;rw[if_neg (fun h=>hi h.2)]
     clear hg HST HPR;have e1:((((jh bs[k]).r.op.toNat:Nat):Int) == 83)=false:=beq_eq_false_iff_ne.2 (fun e=>hi (.inl (UInt8.toNat_inj.1 (by simpa using (Int.ofNat_inj.1 e)))))
     have e2:((((jh bs[k]).r.op.toNat:Nat):Int) == 65)=false:=beq_eq_false_iff_ne.2 (fun e=>hi (.inr (.inl (UInt8.toNat_inj.1 (by simpa using (Int.ofNat_inj.1 e))))))
     have e3:((((jh bs[k]).r.op.toNat:Nat):Int) == 69)=false:=beq_eq_false_iff_ne.2 (fun e=>hi (.inr (.inr (UInt8.toNat_inj.1 (by simpa using (Int.ofNat_inj.1 e))))))
     clear hi;generalize (jh bs[k]).r=r2 at*
     generalize ((r2.op.toNat:Nat):Int)=on at*
     go_wp2_with (first|(refine wpList_store_row rfl 27 _ _ rfl w2.heap.size (ja r2 y.v) rfl rfl 27 _ (heap_alloc_new _ _) hinf rfl (jC _ _) ?_;change wpList _ _ _ _ _ (ke w2 (ja r2 y.v));rw[<-HWL.out])|(go_at_call 140;refine(HAN.out _).mono ?_;rintro e w4 ⟨rfl,t4⟩;have T4:=zH (T1.out.trans t4 (by simp));have d0:=(t4.cell (a:=⟨w2.heap.size,0,none⟩) lw (by simp)).trans c0;have dl:w2.heap.size<w4.heap.size:=World.block_lt_of_cell? _ _ d0;clear t4));refine(HTX.out ⟨#[1]⟩ w4 (by decide)).mono ?_;rintro e w6 ⟨rfl,t6⟩;have HRN:=zH (HSK.out _ (T4.out.trans t6 (by simp)));have HEQ:=zH (HNX.out _ HA1.out);have hsB:=HSZ.out ⟨#[1]⟩ (by decide);clear t6 HNX HTX;go_wp2_with fail;go_roundw
     case rel=>exact⟨k+1,by omega,by rw[<-HEQ.out],by go_num,HRN.out⟩
     case measure=>simp[intOf];omega
   ·have hi:¬(jk bs[k]=true/\((jh bs[k]).r.op=83\/(jh bs[k]).r.op=65\/(jh bs[k]).r.op=69)):=fun h=>by
     rw[hg]at h;exact absurd h.1 (by decide)
    have HSK:=zH (fun V (hV:Tch [] wr V)=>HRK.out.skip hlt hV hi);have HA1:Hid ((doI now (doL now (ctR Z) (bs.take k)).2 bs[k]).1=⟨#[1]⟩):=by
     show _=_
     unfold doI;rw[if_neg hi]
    have T1:=zH (t2.alloc (.cells #[.int .u8 0,.int .u8 0,.int .u8 0,.int .i64 0,.int .i64 0,.int .i64 0,.int .i64 0,.int .i64 0,.int .i64 0,.string ⟨#[]⟩,.string ⟨#[]⟩,.string ⟨#[]⟩,.string ⟨#[]⟩,.string ⟨#[]⟩,.slice none 0 0] 27));clear hg hi HST HPR t2 HP s0 p3 l3 lb;go_wp2_with (go_at_call 140;refine(HAN.out _).mono ?_;rintro e w4 ⟨rfl,t4⟩;have T4:=zH (T1.out.trans t4 (by simp));clear t4);refine(HTX.out ⟨#[1]⟩ w4 (by decide)).mono ?_;rintro e w6 ⟨rfl,t6⟩;have HRN:=zH (HSK.out _ (T4.out.trans t6 (by simp)));have HEQ:=zH (HNX.out _ HA1.out);have hsB:=HSZ.out ⟨#[1]⟩ (by decide);clear t6 HNX HTX;go_wp2_with fail;go_roundw
    case rel=>exact⟨k+1,by omega,by rw[<-HEQ.out],by go_num,HRN.out⟩
    case measure=>simp[intOf];omega
  ·have hke:k=bs.length:=by omega
   subst hke;have HF:=zH (HFIN.out wr HRK.out);rw[List.take_length];go_wp2_with fail;go_ret;exact⟨rfl,HF.out⟩
theorem b4B (rb:Nat)(s:ByteArray)(w:World)(hs:s.size<=maxLen)(hg:jk s=false):
  zT 104 #[zp rb,.string s] w (.string ⟨#[1]⟩):=by
 have HP:Hid (zT 71 #[.string s] w (.tuple #[.agg #[.int .u8 0,.int .u8 0,.int .u8 0,.int .i64 0,.int .i64 0,.int .i64 0,.int .i64 0,.int .i64 0,.int .i64 0,.string ⟨#[]⟩,.string ⟨#[]⟩,.string ⟨#[]⟩,.string ⟨#[]⟩,.string ⟨#[]⟩,.slice none 0 0],.int .i64 1])):=by
  refine(a1H s w hs).mono ?_;rintro e w' ⟨h|h,hb⟩
  ·rw[hg]at h;exact absurd h.1 (by decide)
  ·exact⟨h.2,Tch.of_below hb⟩
 have HR:Hid (∀W,zT 140 #[.int .i64 1] W (.string ⟨#[1]⟩)):=fun W=>jL 1 W
 clear hs hg;go_enter Tryz.func104,Tryz.ntmps104;go_wp2_with fail;refine HP.out.mono ?_;rintro e w1 ⟨rfl,t1⟩;have T1:=zH t1;clear t1 HP;go_wp2_with fail;refine(HR.out _).mono ?_;rintro e w2 ⟨rfl,t2⟩;have T2:Hid (Tch [] w w2):=((T1.out.alloc _).trans t2 (by simp));clear t2 HR;go_wp2_with fail;go_ret;exact⟨rfl,T2.out⟩
theorem b2v (P:ByteArray->World->Prop)(rb:Nat)(s:ByteArray)(w:World)(hs:s.size<=maxLen)(hg:jk s=true)
  (HC:∀W x,Tch [] w W->YS w W x (jh s).bs->Cp 141 #[zp rb,.agg (ja (jh s).r (Sl.v x))] W fun e w'=>∃t,e=.returned (.string t)/\P t w'):
  Cp 104 #[zp rb,.string s] w fun e w'=>∃t,e=.returned (.string t)/\P t w':=by
 have HP:Hid (Cp 71 #[.string s] w fun e w'=>∃x:Sl,e=.returned (.tuple #[.agg (ja (jh s).r x.v),.int .i64 0])/\Tch [] w w'/\YS w w' x (jh s).bs):=by
  refine(a1H s w hs).mono ?_;rintro e w' ⟨h|h,hb⟩
  ·obtain⟨_,x,he,hy⟩:=h;exact⟨x,he,Tch.of_below hb,hy⟩
  ·rw[hg]at h;exact absurd h.1 (by decide)
 have hinf:=jS;generalize (jh s).r=r at*
 generalize (jh s).bs=bs at*
 clear hs hg;go_enter Tryz.func104,Tryz.ntmps104;go_wp2_with fail;refine HP.out.mono ?_;rintro e w1 ⟨x,rfl,t1,hy⟩;have HCW:Hid (Cp 141 #[zp rb,.agg (ja r x.v)] (ke w1 (ja r x.v)) fun e w'=>∃t,e=.returned (.string t)/\P t w'):=HC _ x (t1.trans (Tch.of_below (jz w1 _)) (fun _ h _=>h)) (hy.tch (Tch.of_below (jz w1 _)));clear t1 HP HC hy;go_wp2_with (first|(refine wpList_store_row rfl 27 _ _ rfl w1.heap.size (ja r x.v) rfl rfl 27 _ (heap_alloc_new _ _) hinf rfl (jC _ _) ?_)|(refine wpList_load_row rfl 27 _ rfl w1.heap.size rfl 27 (ja r x.v) (0,0) _ (jT _ _) Tryz.underlying27 rfl hinf ?_));refine HCW.out.mono ?_;rintro e w2 ⟨t,rfl,hp⟩;have HPP:=zH hp;clear hp HCW;go_wp2_with fail;go_ret;exact⟨t,rfl,HPP.out⟩
theorem b4A (rb N:Nat)(now:Int)(Z:RZ)(s:ByteArray)(w:World)(h:RG w rb now Z)(hW:WFc (ctR Z))(hO:OpC (ctR Z))(hT:TRZ Z N)(hN:N<=4611686018426000000)(hn:0<=now/\now<=60000)(hs:s.size<=maxLen):
  Cp 104 #[zp rb,.string s] w fun e w'=>e=.returned (.string (kC now (ctR Z) s).1)/\LQ rb Z w w' (kC now (ctR Z) s).2.1 (kC now (ctR Z) s).2.2 (N+400000):=by
 cases hg:jk s with
 | false=>
  have e:kC now (ctR Z) s=(⟨#[1]⟩,now,ctR Z):=by unfold kC;rw[hg];rfl
  rw[e];refine(b4B rb s w hs hg).mono ?_;rintro e w' ⟨rfl,ht⟩;exact⟨rfl,Z,h.rgs ht,rfl,hT.mono (by omega)⟩
 | true=>
  have hend:∀t n c',kC now (ctR Z) s=(t,n,c')->(∀W x,Tch [] w W->YS w W x (jh s).bs->Cp 141 #[zp rb,.agg (ja (jh s).r (Sl.v x))] W fun e w'=>∃t',e=.returned (.string t')/\t'=t/\LQ rb Z W w' n c' (N+400000))->Cp 104 #[zp rb,.string s] w fun e w'=>e=.returned (.string (kC now (ctR Z) s).1)/\LQ rb Z w w' (kC now (ctR Z) s).2.1 (kC now (ctR Z) s).2.2 (N+400000):=fun t n c' e hc=>by
   rw[e];refine(b2v (fun t' w'=>t'=t/\LQ rb Z w w' n c' (N+400000)) rb s w hs hg (fun W x ht hy=>(hc W x ht hy).mono ?_)).mono ?_
   ·rintro e w' ⟨t',he,h1,Z',h2,h3,h4⟩;exact⟨t',he,h1,Z',(h.rgs ht).trans h2,h3,h4⟩
   ·rintro e w' ⟨t',rfl,rfl,hl⟩;exact⟨rfl,hl⟩
  by_cases hop:(jh s).r.op.toNat=66
  ·obtain⟨⟨l1,l2⟩,l3⟩:=a5r s hg hop;refine hend _ _ _ (by unfold kC;rw[if_pos hg,if_pos hop]) (fun W x ht hy=>?_);obtain⟨bb,ob,yc,rfl,h4,h5,h6⟩:=hy.at l1;refine vT 66 187 (by unfold a3f;decide) (fun t' w'=>t'=_/\LQ rb Z W w' now _ (N+400000)) rb (jh s).r _ W hop (fun W1 ht1=>?_);have t2:=ht.trans ht1 (by simp);refine(a7l rb N bb ob yc now Z (jh s).r (jh s).bs W1 (h.tch t2 (by simp)) hW hO hT (by omega) hn l2 l3 (fun hm=>?_) (Nat.lt_of_lt_of_le h5 ht1.size) (fun j hj=>(ht1.cell (a:=⟨bb,ob+j,none⟩) h5 (by simp)).trans (h6 j hj))).mono ?_
   ·have:=h.lt bb hm;omega
   ·rintro e w' ⟨he,Z',k1,k2,k3⟩;exact⟨_,he,rfl,Z',((h.tch ht (by simp)).rgs ht1).trans k1,k2,k3⟩
  ·have hrq:=b2M (a1u s) (a0R s hg hop).1;refine hend _ _ _ (by unfold kC;rw[if_pos hg,if_neg hop]) (fun W x ht hy=>?_);refine(a5B rb N now Z (jh s).r x W (h.tch ht (by simp)) hW hO hT (by omega) hn hrq hop).mono ?_;rintro e w' ⟨t,he,h1,Z',h2,h3,h4⟩;exact⟨t,he,h1,Z',h2,h3,h4.mono (by omega)⟩
structure Po where
 pb:Nat
 x:Nat
 d:Nat
 st:Nat
 b:Nat
 rb:Nat
 now:Int
 Z:RZ
 mv:Value
def poC (p:Po):Array Value:=#[zp p.x,zp p.d,p.mv,.slice none 0 0,.bool false,.bool false]
structure PoOk (B:Nat)(w:World)(i N:Nat)(ow ro pi:Nat->Nat)(p:Po):Prop where
 blk:w.heap[p.pb]?=some (.cells (poC p) 90 (0,0))
 pi:pi p.pb=i
 lo:B<=p.pb
 may:w.ownsRow 0 85 1 p.mv 1 [zp p.rb]
 bk:∃col,Bk B w p.x p.st p.b p.now (ctR p.Z) col/\∀q,q<w.heap.size->col q≠9->ow q=i
 rg:RG w p.rb p.now p.Z
 rl:∀k∈rgl p.rb p.Z,B<=k/\ro k=i
 oc:OpC (ctR p.Z)
 tr:TRZ p.Z N
 ne:p.x≠p.st
theorem b2A {c:Nat->Nat}(h:RG w rb now Z)(hf:FqT TA B c w w'):RG w' rb now Z:=h.keep (fun k hk=>by
 obtain⟨C,t,ht,hC⟩:=h.ty hk;have h1:=hf.keep k C t hC (by
  simp only[List.mem_cons,List.not_mem_nil,or_false]at ht;rcases ht with rfl|rfl|rfl|rfl|rfl<;>decide)
 exact h1.trans hC.symm)
theorem b2B (h:RG w rb now Z)(hf:Fr B T w w')(hT:∀t∈TRf,t∉T):RG w' rb now Z:=h.keep (fun k hk=>by
 obtain⟨C,t,ht,hC⟩:=h.ty hk;exact(hf.keep k C t hC (hT t ht)).trans hC.symm)
theorem a7p (h:RG w rb now Z)(hs:RGS w w' rb Z now' Z')(hB:B<=w.heap.size)(hl:∀k∈rgl rb Z,B<=k):Fr B TRf w w':=Fr.of_tch hs.tch hB hl (fun k hk C t hC=>by
 obtain⟨C',t',ht,hC'⟩:=h.ty hk;rw[qF hC hC'];exact ht)
theorem PoOk.o1 {p:Po}(h:PoOk B w j N ow ro pi p){cl:Nat->Nat}(hf:FqT TA B cl w w')(hd:∀q,q<w.heap.size->ow q=j->cl q=9){ow' ro':Nat->Nat}(hw:∀q,q<w.heap.size->ow' q=ow q)(hr:∀q,q<w.heap.size->ro' q=ro q):PoOk B w' j N ow' ro' pi p:=by
 obtain⟨col,hb,hc⟩:=h.bk;refine⟨hf.keep _ _ _ h.blk (by decide),h.pi,h.lo,hf.own h.may (by decide),⟨a1L w w' col,hb.oth hf (fun q hq h9=>hd q hq (hc q hq h9)),fun q hq h9=>?_⟩,b2A h.rg hf,fun k hk=>⟨(h.rl k hk).1,?_⟩,h.oc,h.tr,h.ne⟩
 ·obtain⟨h1,h2⟩:=a4Z hq h9;rw[hw q h1];exact hc q h1 h2
 ·rw[hr k (h.rg.lt k hk)];exact(h.rl k hk).2
theorem PoOk.o3 {p:Po}(h:PoOk B w j N ow ro pi p){T:List TypeId}(hf:Fr B T w w')(hk:w'.heap[p.pb]?=w.heap[p.pb]?)(hT:∀t∈85::99::221::(TA++TRf),t∉T){ow' ro':Nat->Nat}(hw:∀q,q<w.heap.size->ow' q=ow q)(hr:∀q,q<w.heap.size->ro' q=ro q):PoOk B w' j N ow' ro' pi p:=by
 obtain⟨col,hb,hc⟩:=h.bk;have h85:=hT 85 (by decide);have h99:=hT 99 (by decide);have h221:=hT 221 (by decide);have hTA:∀t∈TA,t∉T:=fun t ht=>hT t (by simp only[List.mem_cons,List.mem_append];exact .inr (.inr (.inr (.inl (by simpa using ht)))))
 have hTR:∀t∈TRf,t∉T:=fun t ht=>hT t (by simp only[List.mem_cons,List.mem_append];exact .inr (.inr (.inr (.inr (by simpa using ht)))))
 refine⟨hk.trans h.blk,h.pi,h.lo,hf.own h.may h85,⟨a1L w w' col,(hb.fr hf hTA h99 h221).2,fun q hq h9=>?_⟩,b2B h.rg hf hTR,fun k hk=>⟨(h.rl k hk).1,?_⟩,h.oc,h.tr,h.ne⟩
 ·obtain⟨h1,h2⟩:=a4Z hq h9;rw[hw q h1];exact hc q h1 h2
 ·rw[hr k (h.rg.lt k hk)];exact(h.rl k hk).2
theorem PoOk.o2 {p:Po}(h:PoOk B w j N ow ro pi p){rb:Nat}{now now':Int}{Z Z':RZ}(hg:RG w rb now Z)(hs:RGS w w' rb Z now' Z')(hB:B<=w.heap.size)(hl:∀k∈rgl rb Z,B<=k/\ro k≠j):PoOk B w' j N ow ro pi p:=by
 have hf:=a7p hg hs hB (fun k hk=>(hl k hk).1);obtain⟨col,hb,hc⟩:=h.bk;refine⟨hf.keep _ _ _ h.blk (by decide),h.pi,h.lo,hf.own h.may (by decide),⟨a1L w w' col,(hb.fr hf (by decide) (by decide) (by decide)).2,fun q hq h9=>?_⟩,h.rg.tch hs.tch (fun k hk hm=>(hl k hm).2 (h.rl k hk).2),h.rl,h.oc,h.tr,h.ne⟩
 obtain⟨h1,h2⟩:=a4Z hq h9;exact hc q h1 h2
theorem PoOk.mono {N':Nat}{p:Po}(h:PoOk B w j N ow ro pi p)(hN:N<=N'):PoOk B w j N' ow ro pi p:=⟨h.blk,h.pi,h.lo,h.may,h.bk,h.rg,h.rl,h.oc,h.tr.mono hN,h.ne⟩
structure PW (B:Nat)(w0 w:World)(wb:Nat)(pv:Value)(ps:List Po)(N:Nat):Prop where
 blk:w.heap[wb]?=some (.cells #[pv,.slice none 0 0] 64 (0,0))
 lo:B<=wb
 row:w.ownsRow 0 87 1 pv ps.length (ps.map (fun p=>zp p.pb))
 pl:∀k,pv.ownBlock=some k->B<=k
 own:∃ow ro pi,∀i (hi:i<ps.length),PoOk B w i N ow ro pi ps[i]
 env:Env B w
 bel:Below B w0 w
theorem PW.did {w1 w2:World}{ps:List Po}(h:PW B w0 w wb pv ps N){i:Nat}(hi:i<ps.length){ow ro pi:Nat->Nat}(hO:∀i (hi:i<ps.length),PoOk B w i N ow ro pi ps[i]){col:Nat->Nat}(hb:Bk B w ps[i].x ps[i].st ps[i].b ps[i].now (ctR ps[i].Z) col)(hc:∀q,q<w.heap.size->col q≠9->ow q=i){n1:Int}{c1:Nat->Option QM}(hd:Did B ps[i].x ps[i].st ps[i].b w col n1 c1 w1)
  {Z':RZ}(hs:RGS w1 w2 ps[i].rb ps[i].Z n1 Z')(hz:ctR Z'=c1)(hop:OpC c1){N':Nat}(hN:N<=N')(hT:TRZ Z' N'){mv':Value}(ht:Tch [ps[i].pb] w2 w3)(hbl:w3.heap[ps[i].pb]?=some (.cells (poC {ps[i] with mv:=mv'}) 90 (0,0)))(hm:w3.ownsRow 0 85 1 mv' 1 [zp (ps[i].rb)]):
  PW B w0 w3 wb pv (ps.set i {ps[i] with now:=n1,Z:=Z',mv:=mv'}) N':=by
 obtain⟨col',hb1,ha,hf1⟩:=hd;have hB:=h.env.size;have hz1:=hf1.size;have hz2:=hs.tch.size;have hPi:=hO i hi;have hg1:=b2A hPi.rg hf1;have hf2:Fr B TRf w1 w2:=a7p hg1 hs (by omega) (fun k hk=>(hPi.rl k hk).1);have b1:w1.heap[ps[i].pb]?=some (.cells (poC ps[i]) 90 (0,0)):=hf1.keep _ _ _ hPi.blk (by decide);have b2:w2.heap[ps[i].pb]?=some (.cells (poC ps[i]) 90 (0,0)):=hf2.keep _ _ _ b1 (by decide);have hf3:Fr B [90] w2 w3:=Fr.one ht (by omega) hPi.lo b2 (by simp);have hpt:(ps.set i {ps[i] with now:=n1,Z:=Z',mv:=mv'}).map (fun p=>zp p.pb)=ps.map (fun p=>zp p.pb):=by
  rw[List.map_set];apply List.ext_getElem?;intro n;rw[List.getElem?_set]
  split
  ·rename_i e
   subst e
   split
   ·rw[List.getElem?_map,List.getElem?_eq_getElem hi];rfl
   ·rename_i hn
    rw[List.length_map]at hn;omega
  ·rfl
 refine⟨?_,h.lo,?_,h.pl,⟨fun q=>if q<w.heap.size then ow q else i,fun q=>if q<w.heap.size then ro q else i,pi,fun j hj=>?_⟩,((h.env.fq hf1).fr hf2).fr hf3,((h.bel.trans hf1.below).trans hf2.below).trans hf3.below⟩
 ·exact hf3.keep _ _ _ (hf2.keep _ _ _ (hf1.keep _ _ _ h.blk (by decide)) (by decide)) (by decide)
 ·rw[List.length_set,hpt];exact hf3.own (hf2.own (hf1.own h.row (by decide)) (by decide)) (by decide)
 ·have hj':j<ps.length:=by rw[List.length_set]at hj;exact hj
  by_cases e:i=j
  ·subst e;rw[List.getElem_set_self];refine⟨hbl,hPi.pi,hPi.lo,hm,⟨col',?_,fun q hq h9=>?_⟩,?_,fun k hk=>?_,by rw[hz];exact hop,hT,hPi.ne⟩
   ·show Bk B w3 ps[i].x ps[i].st ps[i].b n1 (ctR Z') col'
    rw[hz];exact((hb1.fr hf2 (by decide) (by decide) (by decide)).1.fr hf3 (by decide) (by decide) (by decide)).1
   ·show (if q<w.heap.size then ow q else i)=i
    by_cases hq2:q<w.heap.size
    ·rw[if_pos hq2];rw[ha.1 q hq2]at h9;exact hc q hq2 h9
    ·rw[if_neg hq2]
   ·exact b2B hs.rg hf3 (by decide)
   ·show B<=k/\(if k<w.heap.size then ro k else i)=i
    rcases hs.new k hk with h1|h1
    ·obtain⟨h2,h3⟩:=hPi.rl k h1;refine⟨h2,?_⟩;rw[if_pos (hPi.rg.lt k h1)];exact h3
    ·refine⟨by omega,?_⟩;rw[if_neg (by omega)]
  ·rw[List.getElem_set_ne e];have hPj:=hO j hj';have p1:=hPj.o1 (ow':=fun q=>if q<w.heap.size then ow q else i) (ro':=fun q=>if q<w.heap.size then ro q else i) hf1 (fun q hq h9=>by
    apply Classical.byContradiction;intro hne;exact e ((hc q hq hne).symm.trans h9)) (fun q hq=>if_pos hq) (fun q hq=>if_pos hq)
   have p2:=p1.o2 hg1 hs (by omega) (fun k hk=>by
    obtain⟨h2,h3⟩:=hPi.rl k hk;refine⟨h2,?_⟩
    show (if k<w.heap.size then ro k else i)≠j
    rw[if_pos (hPi.rg.lt k hk),h3];exact e)
   have hne:ps[j].pb≠ps[i].pb:=fun e2=>e (by rw[<-hPi.pi,<-hPj.pi,e2])
   exact(p2.o3 hf3 (ht.block _ (lt_of_block p2.blk) (by simpa using hne)) (by decide) (fun q _=>rfl) (fun q _=>rfl)).mono hN
theorem b0g (c:Int)(n:Nat)(hc:-9223372036854775808<=c/\c<=9223372036854775807)(hn:0<n)(hn2:n<=4611686018427387904):
  ∃i:Nat,i<n/\∀w,zE 47 #[.int .i64 c,.int .i64 (n:Nat)] w (.int .i64 (i:Nat)):=by
 have key:∀z:Int,0<=z->∃i:Nat,i<n/\Int.tmod z (n:Int)=(i:Int):=fun z hz=>by
  obtain⟨m,rfl⟩:=Int.eq_ofNat_of_zero_le hz;refine⟨m % n,Nat.mod_lt _ hn,?_⟩;rw[Int.tmod_eq_emod_of_nonneg hz];rfl
 by_cases hneg:c<0
 ·have hw1:wrap64 (c+1)=c+1:=by simp[wrap64];omega
  have hw2:wrap64 (-(c+1))=-(c+1):=by simp[wrap64];omega
  obtain⟨i,hi,he⟩:=key (-(c+1)) (by omega);refine⟨i,hi,fun w=>?_⟩
  go_enter Tryz.func47,Tryz.ntmps47;go_wp2_with fail;go_ret;exact⟨rfl,rfl⟩
 ·obtain⟨i,hi,he⟩:=key c (by omega);refine⟨i,hi,fun w=>?_⟩
  go_enter Tryz.func47,Tryz.ntmps47;go_wp2_with fail;go_ret;exact⟨rfl,rfl⟩
theorem a9B (wb:Nat)(w:World)(hc:w.cell? ⟨wb,1,none⟩=some (.slice none 0 0)):
  zE 29 #[zp wb] w (.bool true):=by
 go_enter Tryz.func29,Tryz.ntmps29;go_wp2_with fail;refine wp_loop_rounds 1 ?_;rw[rounds_succ];go_wp2_with fail;go_ret;exact⟨rfl,rfl⟩
theorem b6V:(Tryz.prog.info? 85).map (fun i=>(i.zero,i.size,i.bytes))=some (some (.pointer none),1,8):=by kernel_rfl
abbrev poV (xp dp mv:Value):Array Value:=#[xp,dp,mv,.slice none 0 0,.bool false,.bool false]
theorem a9t (I:World->Prop)(pb rb:Nat)(xp dp mv:Value)(s a:ByteArray)(w:World)(hb:w.heap[pb]?=some (.cells (poV xp dp mv) 90 (0,0)))(hm:w.ownsRow 0 85 1 mv 1 [zp rb])
  (HC:Cp 104 #[zp rb,.string s] w fun e w'=>e=.returned (.string a)/\I w'/\w'.heap[pb]?=some (.cells (poV xp dp mv) 90 (0,0))/\w'.ownsRow 0 85 1 mv 1 [zp rb]):
  Cp 77 #[zp pb,.string s,.string a] w fun e w'=>e=.returned (.bool true)/\∃w2 mv',I w2/\Tch [pb] w2 w'/\w'.heap[pb]?=some (.cells (poV xp dp mv') 90 (0,0))/\w'.ownsRow 0 85 1 mv' 1 [zp rb]:=by
 have HCW:=zH HC;obtain⟨gm,cm,rfl⟩:=qB hm;have HAT:Hid (∀W:World,W.ownsRow 0 85 1 (.slice (some ⟨gm,0,none⟩) 1 cm) 1 [zp rb]->W.cell? ⟨gm,0,none⟩=some (zp rb)/\gm<W.heap.size):=fun W ho=>by
  obtain⟨g,c,e,lg,hcs⟩:=kA (fun v:Value=>[v]) 1 (fun _=>rfl) (l:=[zp rb]) (v:=.slice (some ⟨gm,0,none⟩) 1 cm) (t:=85) (w:=W) (by simpa using ho) 0 (by simp);simp only[Value.slice.injEq,Option.some.injEq,Addr.mk.injEq,and_true]at e;obtain⟨rfl,_⟩:=e;have:=hcs 0 _ rfl;simp only[Nat.zero_mul,Nat.add_zero]at this;exact⟨this,lg⟩
 obtain⟨c0,l0⟩:=HAT.out w hm;have p2:w.cell? ⟨pb,2,none⟩=some (.slice (some ⟨gm,0,none⟩) 1 cm):=jb hb 2 _ rfl;have lp:=lt_of_block hb;clear hb hm HC;go_enter Tryz.func77,Tryz.ntmps77;go_wp2_with fail;refine wp_loop_rounds 2 ?_;rw[rounds_succ];go_wp2_with fail;refine HCW.out.mono ?_;rintro e w1 ⟨rfl,hI,hb1,hm1⟩;have HI:=zH hI;have HB1:=zH hb1;clear c0 l0 p2 lp HCW;obtain⟨c0,l0⟩:=HAT.out w1 hm1;have p2:w1.cell? ⟨pb,2,none⟩=some (.slice (some ⟨gm,0,none⟩) 1 cm):=jb hb1 2 _ rfl;have lp:=lt_of_block hb1;clear hI hb1 hm1;have HNEW:Hid ((w1.alloc (.cells #[zp rb] 85)).heap[w1.heap.size]?=some (.cells #[zp rb] 85 (0,0))):=heap_alloc_new _ _;have HT1:Hid (Tch [] w1 (w1.alloc (.cells #[zp rb] 85))):=(Tch.refl [] _).alloc _;go_wp2_with (at_builtin;refine a0m _ rfl _ _ 88 85 rfl Tryz.underlying88 (.pointer none) 1 8 b6V rfl (by decide) (by decide) (.slice none 0 0) 0 [] ?hvs ?hvo w1.heap.size [zp rb] 1 ?hvx rfl (by decide) ?hvg ?hv1 (by omega) ?hk)
 (try case hvs=>simp[Act.eval,Act.put])
 case hvo=>exact World.ownsRow_nil _ _ _ _
 (try case hvx=>simp[Act.eval,Act.put])
 case hvg=>first|exact HNEW.out|(have h:=HNEW.out;rw[Array.getElem?_eq_getElem (by simp)]at h;exact Option.some.inj h)
 case hv1=>first|exact rfl|(intro u hu;simp at hu;subst hu;rfl)
 intro v2 w2 ho2 hg2 hb2;obtain⟨g2,c2,rfl⟩:=qB ho2;have T2:Hid (Tch [] w1 w2):=by
  have h1:=kK hg2;exact HT1.out.trans (h1.sub (fun k hk _=>by simp[bl,Value.ownBlock]at hk)) (fun _ h _=>h)
 have HO2:=zH ho2;have HB2:=zH ((T2.out.block pb lp (by simp)).trans HB1.out);clear ho2 hg2 hb2 c0 l0 p2 lp;have p2:w2.cell? ⟨pb,2,none⟩=some (.slice (some ⟨gm,0,none⟩) 1 cm):=jb HB2.out 2 _ rfl;have z2:w2.frozen? ⟨pb,2,none⟩=false:=frozen_of_row w2 _ _ _ 90 HB2.out;have lp:=lt_of_block HB2.out;have HB3:Hid ((w2.setCell ⟨pb,2,none⟩ (.slice (some ⟨g2,0,none⟩) 1 c2)).heap[pb]?=some (.cells (poV xp dp (.slice (some ⟨g2,0,none⟩) 1 c2)) 90 (0,0))):=xq HB2.out _ rfl;have HO3:Hid ((w2.setCell ⟨pb,2,none⟩ (.slice (some ⟨g2,0,none⟩) 1 c2)).ownsRow 0 85 1 (.slice (some ⟨g2,0,none⟩) 1 c2) 1 [zp rb]):=jf HO2.out ((Tch.refl [pb] _).setCell (fun _=>by simp) _) (fun k hk hm=>by
  simp at hm;subst hm;exact jA HO2.out HB2.out (by decide) hk)
 have HT3:Hid (Tch [pb] w1 (w2.setCell ⟨pb,2,none⟩ (.slice (some ⟨g2,0,none⟩) 1 c2))):=(T2.out.sub (by simp)).setCell (fun _=>by simp) _;go_wp2_with fail;rw[rounds_succ];go_wp2_with fail;go_ret;exact⟨rfl,w1,_,HI.out,HT3.out,HB3.out,HO3.out⟩
theorem b6n (now:Int)(c:Nat->Option QM)(r:Wp.Rq):(doQ now c r).1.size≠0:=by
 have h1:∀b:UInt8,(⟨#[b]⟩:ByteArray).size≠0:=fun b=>by
  show (#[b]).size≠0
  simp
 have hok:∀l:List UInt8,(okL l).size≠0:=fun l=>by
  show (0::l).toArray.size≠0
  simp
 have hA:∀(f:Nat->QM->Nat->(Nat->Option QM)),(doA now c r f).1.size≠0:=fun f=>by
  unfold doA
  split
  ·exact h1 _
  ·split
   ·exact h1 _
   ·split
    ·exact hok _
    ·exact h1 _
 unfold doQ
 split
 ·split
  ·exact h1 _
  ·exact hok _
 ·split
  ·exact hA _
  ·split
   ·exact hA _
   ·split
    ·split
     ·exact hok _
     ·exact h1 _
    ·split
     ·exact h1 _
     ·split
      ·exact hok _
      ·split
       ·exact hok _
       ·split
        ·exact hok _
        ·split
         ·unfold doR
          split
          ·split<;>exact hok _
          ·exact hok _
         ·unfold doS
          split
          ·exact h1 _
          ·split
           ·exact hok _
           ·split
            ·exact h1 _
            ·split
             ·exact h1 _
             ·exact hok _
theorem b0L (now:Int)(c:Nat->Option QM)(s:ByteArray):(kC now c s).1.size≠0:=by
 unfold kC
 split
 ·split
  ·show (okL _).size≠0
   rw[a8i];omega
  ·exact b6n now c _
 ·show (#[1]:Array UInt8).size≠0
  simp
theorem b0M {c:Nat->Option QM}(h:OpC c)(s:ByteArray):OpC (kC now c s).2.2:=by
 unfold kC
 split
 ·split
  ·exact opL now _ h
  ·exact h.doQ now _
 ·exact h
theorem b3F {ps:List Po}(h:PW B w0 w wb pv ps N)(i:Nat)(hi:i<ps.length)(hN:N<=4611686018426000000)(s:ByteArray)(hs:s.size<=maxLen):
  Cp 48 #[zp (ps[i].pb),.string s] w fun e w'=>e=.returned (.bool true)/\∃p',PW B w0 w' wb pv (ps.set i p') (N+400000):=by
 obtain⟨ow,ro,pi,hO⟩:=h.own;have hP:=hO i hi;obtain⟨col,hb,hc⟩:=hP.bk;have HD:=zH (b6p B s ps[i].x ps[i].st ps[i].b ps[i].now (ctR ps[i].Z) col w h.env hb hP.ne hs);have HH:Hid (∀w1,Did B ps[i].x ps[i].st ps[i].b w col (kC ps[i].now (ctR ps[i].Z) s).2.1 (kC ps[i].now (ctR ps[i].Z) s).2.2 w1->Cp 77 #[zp (ps[i].pb),.string s,.string (kC ps[i].now (ctR ps[i].Z) s).1] w1 fun e w'=>e=.returned (.bool true)/\∃p',PW B w0 w' wb pv (ps.set i p') (N+400000)):=fun w1 hd=>by
  obtain⟨col',hb1,ha,hf1⟩:=id hd;have hg1:=b2A hP.rg hf1;have hbl1:w1.heap[ps[i].pb]?=some (.cells (poC ps[i]) 90 (0,0)):=hf1.keep _ _ _ hP.blk (by decide);have hmy1:=hf1.own hP.may (by decide);have hBz:B<=w1.heap.size:=Nat.le_trans h.env.size hf1.size;refine(a9t (fun w2=>LQ ps[i].rb ps[i].Z w1 w2 (kC ps[i].now (ctR ps[i].Z) s).2.1 (kC ps[i].now (ctR ps[i].Z) s).2.2 (N+400000)) ps[i].pb ps[i].rb _ _ ps[i].mv s (kC ps[i].now (ctR ps[i].Z) s).1 w1 hbl1 hmy1 ?_).mono ?_
  ·refine(b4A ps[i].rb N ps[i].now ps[i].Z s w1 hg1 hb.wf hP.oc hP.tr hN hb.nw hs).mono ?_;rintro e w2 ⟨he,hl⟩;obtain⟨Z',h1,h2,h3⟩:=id hl;have hf2:=a7p hg1 h1 hBz (fun k hk=>(hP.rl k hk).1);exact⟨he,hl,hf2.keep _ _ _ hbl1 (by decide),hf2.own hmy1 (by decide)⟩
  ·rintro e w3 ⟨he,w2,mv',⟨Z',h1,h2,h3⟩,h4,h5,h6⟩;exact⟨he,_,h.did (mv':=mv') hi hO hb hc hd h1 h2 (b0M hP.oc s) (by omega) h3 h4 h5 h6⟩
 have p0:w.cell? ⟨ps[i].pb,0,none⟩=some (zp (ps[i].x)):=jb hP.blk 0 _ rfl;have HBL:Hid (∀w1,Did B ps[i].x ps[i].st ps[i].b w col (kC ps[i].now (ctR ps[i].Z) s).2.1 (kC ps[i].now (ctR ps[i].Z) s).2.2 w1->w1.cell? ⟨ps[i].pb,4,none⟩=some (.bool false)/\ps[i].pb<w1.heap.size):=fun w1 hd=>by
  obtain⟨col',hb1,ha,hf1⟩:=hd;have hbl1:w1.heap[ps[i].pb]?=some (.cells (poC ps[i]) 90 (0,0)):=hf1.keep _ _ _ hP.blk (by decide);exact⟨jb hbl1 4 _ rfl,lt_of_block hbl1⟩
 have hne:=a0h _ (b0L ps[i].now (ctR ps[i].Z) s);clear h hO hP hb hc hs hN;generalize (kC ps[i].now (ctR ps[i].Z) s).1=a at*
 generalize (kC ps[i].now (ctR ps[i].Z) s).2.1=n1 at*
 generalize (kC ps[i].now (ctR ps[i].Z) s).2.2=c1 at*
 generalize hpb:ps[i].pb=pb at*
 clear hpb;go_enter Tryz.func48,Tryz.ntmps48;go_wp2_with fail;refine HD.out.mono ?_;rintro e w1 ⟨rfl,hd⟩;obtain⟨p4,lp4⟩:=HBL.out w1 hd;have HH1:=zH (HH.out w1 hd);clear hd HD HH HBL p0;go_wp2_with fail;refine HH1.out.mono ?_;rintro e w2 ⟨rfl,hq⟩;have HQ:=zH hq;clear hq HH1;go_wp2_with fail;go_ret;exact⟨rfl,HQ.out⟩
theorem PoOk.rpi {pi':Nat->Nat}{p:Po}(h:PoOk B w j N ow ro pi p)(hp:pi' p.pb=pi p.pb):PoOk B w j N ow ro pi' p:=⟨h.blk,hp.trans h.pi,h.lo,h.may,h.bk,h.rg,h.rl,h.oc,h.tr,h.ne⟩
theorem PW.opened {ps:List Po}(h:PW B w0 w wb pv ps N){x st b j d:Nat}(t3:Tch [] w w3)(ho:Opn w.heap.size w3 x st b j d (.slice none 0 0))(hd:w.heap.size<=d){pb rb:Nat}{mv pv':Value}(hf:Fr B [64,87] w3 w')(hbl:w'.heap[pb]?=some (.cells (poV (zp x) (zp d) mv) 90 (0,0)))(hpb:w.heap.size<=pb)(hrg:RG w' rb 0 (fun _=>none))(hrb:w.heap.size<=rb)(hm:w'.ownsRow 0 85 1 mv 1 [zp rb])(hw:w'.heap[wb]?=some (.cells #[pv',.slice none 0 0] 64 (0,0)))
  (hrow:w'.ownsRow 0 87 1 pv' (ps.length+1) (ps.map (fun p=>zp p.pb)++[zp pb]))(hpl:∀k,pv'.ownBlock=some k->pv.ownBlock=some k\/w.heap.size<=k):PW B w0 w' wb pv' (ps++[⟨pb,x,d,st,b,rb,0,fun _=>none,mv⟩]) N:=by
 obtain⟨ow,ro,pi,hO⟩:=h.own;have hB:=h.env.size;have hz3:=t3.size;have hf3:Fr B [64,87] w w3:=Fr.of_nil _ t3 hB;have hff:=hf3.trans hf;refine⟨hw,h.lo,by simpa using hrow,fun k hk=>?_,⟨fun q=>if q<w.heap.size then ow q else ps.length,fun q=>if q<w.heap.size then ro q else ps.length,fun q=>if q=pb then ps.length else pi q,fun i hi=>?_⟩,h.env.fr hff,h.bel.trans hff.below⟩
 ·rcases hpl k hk with e|e
  ·exact h.pl k e
  ·omega
 ·by_cases e:i<ps.length
  ·rw[List.getElem_append_left e];have hPi:=hO i e;have hl:=lt_of_block hPi.blk;refine PoOk.rpi (pi:=pi) (hPi.o3 hff ((hff.keep _ _ _ hPi.blk (by decide)).trans hPi.blk.symm) (by decide) (fun q hq=>if_pos hq) (fun q hq=>if_pos hq)) (if_neg (by omega))
  ·have hie:i=ps.length:=by
    rw[List.length_append]at hi;simp at hi;omega
   subst hie;rw[List.getElem_append_right (Nat.le_refl _)];simp only[Nat.sub_self,List.getElem_cons_zero];have hb2:Bk w.heap.size w3 x st b 0 (fun _=>none) (fun q=>if q<w.heap.size then 9 else 0):=ho.bk hd _ (fun k hk=>by
    show (if k<w.heap.size then 9 else 0)≠9
    rw[if_neg (by omega)];decide) hz3
   have hct:ctR (fun _=>none)=(fun _=>none:Nat->Option QM):=rfl;refine⟨hbl,if_pos rfl,by show B<=pb;omega,hm,⟨fun q=>if q<w.heap.size then 9 else 0,?_,fun q hq h9=>?_⟩,hrg,fun k hk=>?_,fun i Q hQ=>?_,fun i y hi hy=>?_,ho.ne⟩
   ·show Bk B w' x st b 0 (ctR (fun _=>none)) _
    rw[hct];exact((hb2.mono hB).fr hf (by decide) (by decide) (by decide)).1
   ·show (if q<w.heap.size then ow q else ps.length)=ps.length
    by_cases hq2:q<w.heap.size
    ·exact absurd (if_pos hq2) h9
    ·rw[if_neg hq2]
   ·rcases kY.1 hk with e1|⟨i,y,hi,hy,_⟩
    ·have e2:=e1;subst e2;refine⟨by omega,?_⟩
     show (if k<w.heap.size then ro k else ps.length)=ps.length
     rw[if_neg (by omega)]
    ·cases hy
   ·cases hQ
   ·cases hy
theorem a5n (w:World){ops:Array Oper}{rest:List Oper}{o:Oper}{a:Act}{Q:Exit->Act->World->Prop}(hgd:o.guard=none)(s x:Operand)(t te:TypeId)
  (ho:o.op=.call {callee:=.builtin .append,args:=#[s,x],argTypes:=#[t,t]})(ht:Tryz.prog.underlying t=some (.slice te))(z:Value)(size bytes:Nat)
  (hinfo:(Tryz.prog.info? te).map (fun i=>(i.zero,i.size,i.bytes))=some (some z,size,bytes))(hzs:z.cells.size=size)(hsz:0<size)(hby:bytes<=8)
  (v:Value)(n:Nat)(xs:List Value)(hs:a.eval s=v)(hown:w.ownsRow 0 te size v n xs)(g:Nat)(news:List Value)(m:Nat)(hx:a.eval x=.slice (some ⟨g,0,none⟩) m m)(hm:news.length=m*size)(hm0:0<m)(hg:w.heap[g]?=some (.cells news.toArray te (0,0)))(hone:∀u∈news,u.oneCell'=true)(hn:n+m<=10000000000000)
  (h:∀v' w',w'.ownsRow 0 te size v' (n+m) (xs++news)->w.grownBy w' v.ownBlock->(v'.ownBlock=v.ownBlock\/v'.ownBlock=some w.heap.size)->wpList Tryz.prog ops Q rest (a.put o.dst v') w'):wpList Tryz.prog ops Q (o::rest) a w:=by
 obtain⟨i0,hi,hz0,hz1,hz2⟩:=info_parts hinfo;refine vS w hgd s x t ho 0 te i0 _ size bytes ht hi hz0 hz1 hz2 hzs hsz v n xs hs hown ⟨g,0,none⟩ m m news hx hm ?_ hone (by unfold maxLen;omega) ?_ (Nat.zero_le _) hm0 h
 ·intro j u hj;have e:(⟨g,0,none⟩:Addr).add j=⟨g,j,none⟩:=by unfold Addr.add;split<;>simp_all
  rw[e,cell_of_row w g j _ te (0,0) hg,<-hj];simp
 ·have h1:(n+m)*bytes<=10000000000000*8:=Nat.mul_le_mul hn hby
  omega
theorem b6W:(Tryz.prog.info? 87).map (fun i=>(i.zero,i.size,i.bytes))=some (some (.pointer none),1,8):=by kernel_rfl
theorem a3g {ps:List Po}(h:PW B w0 w wb pv ps N)(hl:ps.length<=9000000000000):
  Cp 27 #[zp wb,.int .i64 (-1)] w fun e w'=>e=.returned (.bool true)/\∃pv' p,PW B w0 w' wb pv' (ps++[p]) N:=by
 have hd0:Dk.DBlk (w.alloc (.cells (Dk.dcells (.slice none 0 0) (-1) false) 110)) w.heap.size 110 (.slice none 0 0) (-1) false:=heap_alloc_new _ _;have HN:=zH (Dk.new_d w);have HS:Hid (Cp 41 #[zp w.heap.size,.int .i64 (-1)] (w.alloc (.cells (Dk.dcells (.slice none 0 0) (-1) false) 110)) fun e w'=>e=.returned (.tuple #[])/\Dk.DBlk w' w.heap.size 110 (.slice none 0 0) (-1) false/\Tch [] w w'):=(Dk.stop_d w.heap.size (.slice none 0 0) (-1) false (-1) _ hd0).mono (by
  rintro e w' ⟨he,h1,h2,h3⟩;refine⟨he,h1,(((Tch.refl [] w).alloc (.cells (Dk.dcells (.slice none 0 0) (-1) false) 110)).sub (S':=[w.heap.size]) (by simp)).trans h2 (fun k hk _=>hk) |>.sub (fun k hk hlt=>?_)⟩;simp at hk;omega)
 have HP:Hid (∀w2,Dk.DBlk w2 w.heap.size 110 (.slice none 0 0) (-1) false->zE 42 #[zp w.heap.size] w2 (.bool false)):=fun w2 h2=>Dk.stopped_d w.heap.size (.slice none 0 0) (-1) false w2 h2
 have HO:Hid (∀w2,Dk.DBlk w2 w.heap.size 110 (.slice none 0 0) (-1) false->Tch [] w w2->Cp 40 #[zp w.heap.size] w2 fun e w'=>∃x st b j,e=.returned (.tuple #[zp x,.int .i64 0])/\Tch [] w w'/\Opn w.heap.size w' x st b j w.heap.size (.slice none 0 0)):=fun w2 h2 t2=>(b1V w.heap.size (.slice none 0 0) w2 ⟨h2,⟨rfl,.inl ⟨rfl,rfl⟩⟩,by simp[Value.ownBlock]⟩).mono (by
  rintro e w' ⟨x,st,b,j,he,hb,ho⟩;have hz:=t2.size;refine⟨x,st,b,j,he,t2.trans (Tch.of_below hb) (fun _ h _=>h),ho.hx,ho.jr,ho.brk,?_⟩;obtain⟨l1,l2,l3,l4⟩:=ho.lo;exact⟨by omega,by omega,by omega,by omega⟩)
 have HW:=zH h;obtain⟨sa,sc,hpv⟩:=jl h.row;have HPV:=zH hpv;have HNW:Hid (∀W,Tch [] w W->Cp 45 #[] W fun e w'=>∃rb,e=.returned (zp rb)/\w.heap.size<=rb/\RG w' rb 0 (fun _=>none)/\Tch [] W w'):=fun W ht=>(Ref.new_any W).mono (by
  rintro e w' ⟨rb,he,h1,h2,h3⟩;exact⟨rb,he,Nat.le_trans ht.size h1,h2,h3⟩)
 clear h hd0 hpv;go_enter Tryz.func27,Tryz.ntmps27;go_wp2_with fail;refine HN.out.mono ?_;rintro e w1 ⟨rfl,h'⟩;subst h';clear HN;go_wp2_with fail;refine HS.out.mono ?_;rintro e w2 ⟨rfl,hd2,t2⟩;have HP2:=zH (HP.out w2 hd2);have HO2:=zH (HO.out w2 hd2 t2);clear hd2 t2 HS HP HO;go_wp2_with fail;refine HP2.out.mono ?_;rintro e w2' ⟨rfl,h'⟩;have h'':=h'.symm;subst h'';clear HP2;go_wp2_with fail;refine HO2.out.mono ?_;rintro e w3 ⟨x,st,b,j,rfl,t3,hop⟩;have T3:=zH t3;have HOP:=zH hop;clear HO2 t3 hop;go_wp2_with (go_at_call 43;go_in);refine(HNW.out w3 T3.out).mono ?_;rintro e w4 ⟨rb,rfl,hrb,hrg,t4⟩;have T34:=zH t4;have T4:Hid (Tch [] w w4):=T3.out.trans t4 (fun _ h _=>h);have HRG:=zH hrg;have HB4:Hid (w4.heap[wb]?=some (.cells #[pv,.slice none 0 0] 64 (0,0))):=(T4.out.block wb (lt_of_block HW.out.blk) (by simp)).trans HW.out.blk;have HR4:Hid (w4.ownsRow 0 87 1 (.slice sa ps.length sc) ps.length (ps.map (fun p=>zp p.pb))):=by
  rw[<-HPV.out];exact jf HW.out.row T4.out (fun _ _=>by simp)
 have b0:w4.cell? ⟨wb,0,none⟩=some (.slice sa ps.length sc):=by rw[<-HPV.out];exact jb HB4.out 0 _ rfl
 have lb:=lt_of_block HB4.out;clear t4 hrg HNW;have HNEW:Hid ((((w4.alloc (.cells #[zp rb] 85)).alloc (.cells #[zp x,zp w.heap.size,.slice (some ⟨w4.heap.size,0,none⟩) 1 1,.slice none 0 0,.bool false,.bool false] 90)).alloc (.cells #[zp (w4.heap.size+1)] 87)).heap[w4.heap.size+2]?=some (.cells #[zp (w4.heap.size+1)] 87 (0,0))):=by
  have h1:=heap_alloc_new ((w4.alloc (.cells #[zp rb] 85)).alloc (.cells #[zp x,zp w.heap.size,.slice (some ⟨w4.heap.size,0,none⟩) 1 1,.slice none 0 0,.bool false,.bool false] 90)) (.cells #[zp (w4.heap.size+1)] 87);have e1:((w4.alloc (.cells #[zp rb] 85)).alloc (.cells #[zp x,zp w.heap.size,.slice (some ⟨w4.heap.size,0,none⟩) 1 1,.slice none 0 0,.bool false,.bool false] 90)).heap.size=w4.heap.size+2:=by simp
  rw[e1]at h1;exact h1
 have HPB:Hid ((((w4.alloc (.cells #[zp rb] 85)).alloc (.cells #[zp x,zp w.heap.size,.slice (some ⟨w4.heap.size,0,none⟩) 1 1,.slice none 0 0,.bool false,.bool false] 90)).alloc (.cells #[zp (w4.heap.size+1)] 87)).heap[w4.heap.size+1]?=some (.cells (poV (zp x) (zp w.heap.size) (.slice (some ⟨w4.heap.size,0,none⟩) 1 1)) 90 (0,0))):=by
  have h1:=heap_alloc_new (w4.alloc (.cells #[zp rb] 85)) (.cells #[zp x,zp w.heap.size,.slice (some ⟨w4.heap.size,0,none⟩) 1 1,.slice none 0 0,.bool false,.bool false] 90);have e1:(w4.alloc (.cells #[zp rb] 85)).heap.size=w4.heap.size+1:=by simp
  rw[e1]at h1;exact(((Tch.refl [] _).alloc (.cells #[zp (w4.heap.size+1)] 87)).block (w4.heap.size+1) (by simp) (by simp)).trans h1
 have HMB:Hid ((((w4.alloc (.cells #[zp rb] 85)).alloc (.cells #[zp x,zp w.heap.size,.slice (some ⟨w4.heap.size,0,none⟩) 1 1,.slice none 0 0,.bool false,.bool false] 90)).alloc (.cells #[zp (w4.heap.size+1)] 87)).heap[w4.heap.size]?=some (.cells #[zp rb] 85 (0,0))):=((((Tch.refl [] _).alloc (.cells #[zp x,zp w.heap.size,.slice (some ⟨w4.heap.size,0,none⟩) 1 1,.slice none 0 0,.bool false,.bool false] 90)).alloc (.cells #[zp (w4.heap.size+1)] 87)).block w4.heap.size (by simp) (by simp)).trans (heap_alloc_new w4 (.cells #[zp rb] 85));have HTA:Hid (Tch [] w4 (((w4.alloc (.cells #[zp rb] 85)).alloc (.cells #[zp x,zp w.heap.size,.slice (some ⟨w4.heap.size,0,none⟩) 1 1,.slice none 0 0,.bool false,.bool false] 90)).alloc (.cells #[zp (w4.heap.size+1)] 87))):=(((Tch.refl [] _).alloc _).alloc _).alloc _;have HZA:Hid ((((w4.alloc (.cells #[zp rb] 85)).alloc (.cells #[zp x,zp w.heap.size,.slice (some ⟨w4.heap.size,0,none⟩) 1 1,.slice none 0 0,.bool false,.bool false] 90)).alloc (.cells #[zp (w4.heap.size+1)] 87)).heap.size=w4.heap.size+3):=by
  show _=_
  simp
 go_wp2_with (at_builtin;refine a5n _ rfl _ _ 61 87 rfl Tryz.underlying61 (.pointer none) 1 8 b6W rfl (by decide) (by decide) (.slice sa ps.length sc) ps.length (ps.map (fun p=>zp p.pb)) ?hvs ?hvo (w4.heap.size+2) [zp (w4.heap.size+1)] 1 ?hvx rfl (by decide) ?hvg ?hv1 (by omega) ?hk)
 (try case hvs=>simp[Act.eval,Act.put])
 case hvo=>exact jf HR4.out HTA.out (fun _ _=>by simp)
 (try case hvx=>simp[Act.eval,Act.put])
 case hvg=>first|exact HNEW.out|(have h:=HNEW.out;rw[Array.getElem?_eq_getElem (by simp)]at h;exact Option.some.inj h)
 case hv1=>first|exact rfl|(intro u hu;simp at hu;subst hu;rfl)
 intro v2 w5 ho5 hg5 hb5;obtain⟨g5,c5,rfl⟩:=qB ho5;have T45:Hid (Tch (bl pv) w4 w5):=by
  have h1:=kK hg5;rw[<-HPV.out]at h1;exact(HTA.out.sub (by simp)).trans h1 (fun _ h _=>h)
 have TA5:Hid (Tch (bl pv) (((w4.alloc (.cells #[zp rb] 85)).alloc (.cells #[zp x,zp w.heap.size,.slice (some ⟨w4.heap.size,0,none⟩) 1 1,.slice none 0 0,.bool false,.bool false] 90)).alloc (.cells #[zp (w4.heap.size+1)] 87)) w5):=by
  have h1:=kK hg5;rw[<-HPV.out]at h1;exact h1
 have HPN:Hid (∀k∈bl pv,k<w.heap.size/\∃C,w4.heap[k]?=some (.cells C 87 (0,0))):=fun k hk=>by
  have e1:=jq.1 hk;have h1:=vM HW.out.row e1;rw[HPV.out]at e1;exact⟨h1,jV HR4.out e1⟩
 have HO5:=zH ho5;have HB5:Hid (w5.heap[wb]?=some (.cells #[pv,.slice none 0 0] 64 (0,0))):=(T45.out.block wb lb (fun hm=>by
  obtain⟨_,C,hC⟩:=HPN.out wb hm;exact absurd (qF hC HB4.out) (by decide))).trans HB4.out
 have HNB:Hid (∀k,(Value.slice (some ⟨g5,0,none⟩) (ps.length+1) c5).ownBlock=some k->pv.ownBlock=some k\/w.heap.size<=k):=fun k hk=>by
  rcases hb5 with e|e
  ·rw[<-HPV.out]at e;exact .inl (e▸hk)
  ·rw[hk]at e;injection e with e;have:=T4.out.size;exact .inr (by omega)
 clear ho5 hg5 hb5 b0 lb;have b0:w5.cell? ⟨wb,0,none⟩=some (.slice sa ps.length sc):=by rw[<-HPV.out];exact jb HB5.out 0 _ rfl
 have z0:w5.frozen? ⟨wb,0,none⟩=false:=frozen_of_row w5 _ _ _ 64 HB5.out;have lb:=lt_of_block HB5.out;have HFIN:Hid (∃pv' p,PW B w0 (w5.setCell ⟨wb,0,none⟩ (.slice (some ⟨g5,0,none⟩) (ps.length+1) c5)) wb pv' (ps++[p]) N):=by
  have hzw:=T4.out.size;have hB:=HW.out.env.size;have t56:Tch [wb] w5 (w5.setCell ⟨wb,0,none⟩ (.slice (some ⟨g5,0,none⟩) (ps.length+1) c5)):=(Tch.refl [wb] _).setCell (fun _=>by simp) _;have f45:Fr B [64,87] w4 w5:=Fr.of_tch T45.out (by omega) (fun k hk=>by
   have:=HW.out.pl k (jq.1 hk);omega) (fun k hk C t hC=>by
   obtain⟨_,C',hC'⟩:=HPN.out k hk;rw[qF hC hC'];decide)
  have z5:=T45.out.size;have f56:Fr B [64,87] w5 (w5.setCell ⟨wb,0,none⟩ (.slice (some ⟨g5,0,none⟩) (ps.length+1) c5)):=Fr.one t56 (by omega) HW.out.lo HB5.out (by decide);have f34:Fr B [64,87] w3 w4:=Fr.of_nil _ T34.out (by have:=T3.out.size;omega);have ff:=(f34.trans f45).trans f56;have nw:∀k,w4.heap.size<=k->k∉bl pv:=fun k hk hm=>by
   have:=(HPN.out k hm).1;omega
  have pb5:w5.heap[w4.heap.size+1]?=_:=(TA5.out.block (w4.heap.size+1) (by have:=HZA.out;omega) (nw _ (by omega))).trans HPB.out;have mb5:w5.heap[w4.heap.size]?=_:=(TA5.out.block w4.heap.size (by have:=HZA.out;omega) (nw _ (by omega))).trans HMB.out;have pb6:=f56.keep _ _ _ pb5 (by decide);have mb6:=f56.keep _ _ _ mb5 (by decide);refine⟨_,_,HW.out.opened T3.out HOP.out (Nat.le_refl _) ff pb6 (by omega) (b2B HRG.out (f45.trans f56) (by decide)) hrb (⟨rfl,.inr ⟨_,_,_,rfl,Nat.zero_le _,mb6,by decide,by decide,by simp,by simp⟩⟩) (xq HB5.out _ rfl) (jf HO5.out t56 (fun k hk hm=>?_)) HNB.out⟩;simp at hm;subst hm;exact jA HO5.out HB5.out (by decide) hk
 clear HW HPV HR4 HTA HNEW HPB HMB HRG HOP T45 TA5 HPN HO5 HNB;go_wp2_with fail;go_ret;exact⟨rfl,HFIN.out⟩
end Go.Proofs.YtbdobaapadlcjaaGreatDoor.Ref
